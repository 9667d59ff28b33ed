import PyProof.Rows.All
import Wide.All
import OpenK.AllK
import PySem.Challenge.RW_stirround_k30_whole_loops_make_right_log
set_option genSizeOf false
set_option linter.all false
set_option compiler.extract_closed false
set_option bootstrap.genMatcherCode false
noncomputable section
def kU:=@PySem.wpAny_bind
def kX:=@PySem.wpAny_pure
def kc:=@decide_eq_true
def km:=@if_neg
def kz:=@if_pos
def lg:=@of_decide_eq_true
def lx:=@decide_eq_false
def nZ:=@PySem.wpAny_newObj_type
def ni:=@PySem.wpAny_mono
def o8:=@PySem.wpAny_callSpecial?_slot
def oR:=@PySem.wpAny_holding
def oW:=@congrArg
def pE:=@PySem.wpAny_call_entry
def pI:=@beq_self_eq_true
def pO:=@PySem.wpAny_Call_Name_kw
def pj:=@PySem.wpAny_truthy_bool
def pk:=@PySem.wpAny_setField
def qG:=@PySem.codeAny_builtin
def qK:=@PySem.isSubtype_type
def qk:=@PySem.builtinLookup_eq_fast
def rL:=@PySem.wpAny_isInstance
def rY:=@PySem.wpAny_typeOf
def rf:=@PySem.wpAny_updateSeq
def t6:=@PySem.wpAny_field
def tD:=@PySem.wpAny_passesOwn
def tP:=@PySem.wpAny_setState_of
def tX:=@PySem.plainId_quiet
def uA:=@PySem.wpAny_setEntries_of
def uT:=@PySem.wpAny_askSetting
def uq:=@PySem.wpAny_of_eq
def vG:=@PySem.wpAny_specialOf
def vT:=@PySem.wpAny_ite_split
def wO:=@PySem.wpAny_execs_nil
def wg:=@PySem.typeLookup_type
def wx:=@PySem.wpAny_pyIter_enum
def yD:=@or_false
def yW:=@PySem.codeAny_extend_loopS
def yX:=@PySem.wpAny_attempt
def yg:=@PySem.wpAny_pyIter_tuple
def yn:=@PySem.tupleKind_room_in1
def zE:=@PySem.codeAny_mono
def zR:=@PySem.wpAny_dictEntries
def zU:=@PySem.wpAny_rule
def zc:=@PySem.wpAny_load
def zd:=@PySem.wpAny_seqItems
def ZA1:=@PySem.wpAny_runValue
def ZA3:=@PySem.wpAny_fieldsOf
def ZA6:=@PySem.wpAny_letOwnedTupleGo_enum
def ZA8:=@PySem.wpAny_pyIter_list
def ZAA:=@PySem.fits_of_scanBound
def ZAC:=@decide_eq_true_eq
def ZAF:=@PySem.noFill_tuple_add
def ZAH:=@PySem.isSubtype_stop
def ZAL:=@if_true
def AW:=@List.length_map
def Ad:=@Nat.le_refl
def Am:=@List.getElem?_eq_getElem
def Au:=@List.not_mem_nil
def Az:=@PySem.Heap.lt_size
def B0:=@Ne.symm
def B1:=@List.getElem?_map
def B7:=@PySem.Heap.get?_push_of_some
def B8:=@PySem.W.mg_of
def BE:=@Option.some.inj
def BL:=@Nat.ne_of_lt
def BM:=@PySem.Heap.get?_push_size
def BV:=@List.append_assoc
def Bh:=@List.map_cons
def Bm:=@List.size_toArray
def Bw:=@List.length_cons
def Bx:=@List.nodup_append
def C0:=@List.length_append
def C1:=@Nat.zero_le
def C4:=@List.getElem?_set_ne
def CH:=@List.getElem?_set_self
def CI:=@List.length_take
def CJ:=@List.mem_cons_self
def CK:=@Nat.le_trans
def CZ:=@Bool.false_ne_true
def Ca:=@List.mem_cons_of_mem
def Cp:=@List.mem_cons
def Cq:=@List.mem_of_getElem?
def Cr:=@Nat.lt_of_lt_of_le
def D5:=@PySem.Heap.size_push
def D6:=@Nat.le_succ
def Dp:=@List.map_append
def EB:=@PySem.Heap.get?_update_other
def EM:=@PySem.Heap.get?_update_self
def EN:=@List.getElem?_append_left
def Ek:=@Bool.and_eq_true
def El:=@List.mem_append_right
def FC:=@List.append_nil
def FD:=@List.map_map
def Fh:=@Array.length_toList
def Fi:=@List.all_eq_true
def Fj:=@List.getElem?_append_right
def GG:=@List.length_drop
def GH:=@List.mem_append
def GI:=@PySem.Obj.data_mapFields
def Gx:=@List.getElem_mem
def Gy:=@List.lookup_cons
def Gz:=@List.mem_append_left
def HA:=@PySem.W.mg_none_of
def Hu:=@Int.eq_ofNat_of_zero_le
def Hv:=@List.eraseIdx_cons_succ
def Hw:=@List.length_set
def Hx:=@Nat.lt_succ_of_lt
def Hy:=@PySem.PassesOwn.never
def JB:=@List.getElem?_eq_none
def JC:=@List.zip_cons_cons
def JD:=@Nat.ne_of_gt
def KC:=@Iff.rfl
def KD:=@List.eraseIdx_sublist
def KG:=@List.take_length
def LL:=@Array.getElem?_eq_getElem
def LM:=@Int.emod_lt_of_pos
def LN:=@Int.emod_nonneg
def LO:=@List.any_cons
def LP:=@List.nodup_nil
def LQ:=@List.take_append_drop
def LR:=@Nat.lt_irrefl
def LS:=@Nat.lt_of_le_of_lt
def LU:=@Nat.lt_succ_self
def LV:=@PyProof.Rows.callWith_type1
def LW:=@PySem.mem_of_lookup
def Mg:=@PySem.Around.under_plainId
def Mh:=@Bool.eq_iff_iff
def Mi:=@Bool.true_and
def Mj:=@PySem.Heap.SameBut.update
def Ml:=@List.getD_eq_getElem?_getD
def Mm:=@List.getElem_inj
def Mn:=@List.length_singleton
def Mo:=@List.length_zip
def Mp:=@List.take_succ_eq_append_getElem
def Mq:=@Nat.le_of_lt
def Mr:=@PySem.Obj.isFreed_of_fields
def Og:=@Array.getElem?_toList
def Oh:=@List.find?_cons
def Oi:=@List.length_eraseIdx_of_lt
def Oj:=@List.length_filter_le
def Ol:=@Nat.min_eq_left
def Om:=@Nat.succ.inj
def Oo:=@PySem.F.plainAttrs_list
def SK:=@Bool.and_false
def SM:=@Decidable.byContradiction
def SN:=@Int.toNat_natCast
def SO:=@List.Perm.refl
def SQ:=@List.all_cons
def SR:=@List.filter_cons
def SS:=@List.getElem?_range
def SU:=@List.getElem_idxOf
def SV:=@List.length_nil
def SW:=@List.map_nil
def SX:=@List.nil_append
def SY:=@List.set_cons_succ
def Sa:=@Nat.sub_self
def Sb:=@PySem.Obj.cls_mapFields
def Sd:=@Option.map_some
def Yi:=@PySem.Calls.spliced_cons
def Yj:=@PySem.Calls.spliced_nil
def Yk:=@PySem.F.plain_list_iadd
def Yl:=@PySem.F.slot_tuple_iterator_next
def Ym:=@PySem.Heap.size_after_update
def Yn:=@PySem.ItemsOf.nil
def Yo:=@List.cons_append
def Yp:=@List.cons_lt_cons_iff
def Yq:=@List.eraseIdx_cons_zero
def Yr:=@List.ext_getElem?
def Ys:=@List.filterMap_cons
def Yt:=@List.filter_append
def Yu:=@List.foldl_cons
def Yv:=@List.idxOf_cons
def Yw:=@List.length_reverse
def Yx:=@List.of_mem_zip
def Yy:=@List.set_cons_zero
def Yz:=@List.set_set
def Z0:=@Nat.le_succ_of_le
def Z1:=@Nat.le_total
def Z2:=@Nat.min_eq_right
def Z3:=@Nat.sub_zero
def Z4:=@Option.isSome_map
def Z5:=@PyProof.Rows.slot_tuple_getitem
def Z6:=@PySem.F.slot_list_append
def Z7:=@PySem.F.type_list_append
def jP:=@PySem.Around.in1_handled
def jQ:=@Array.getElem?_eq_none
def jR:=@Bool.and_true
def jS:=@PySem.Calls.callWith_builtin
def jT:=@PySem.Heap.get?_none_of_le
def jU:=@Int.toNat_of_nonneg
def jV:=@List.all_map
def jW:=@List.drop_eq_getElem_cons
def jX:=@List.drop_zero
def jY:=@List.ext_getElem
def jZ:=@List.filter_map
def ja:=@List.forIn_nil
def jb:=@List.getElem?_modify_eq
def jc:=@List.getElem?_modify_ne
def jd:=@List.getElem?_replicate
def je:=@List.idxOf_eq_length
def jf:=@List.length_erase_of_mem
def jg:=@List.length_range
def jh:=@List.map_drop
def ji:=@List.map_take
def jj:=@List.mem_erase_of_ne
def jk:=@List.mem_filter
def jl:=@List.mem_of_mem_take
def jm:=@List.mem_singleton
def jn:=@List.take_of_length_le
def jo:=@Nat.le_of_lt_succ
def jq:=@Nat.lt_trichotomy
def jr:=@Nat.min_self
def jt:=@PySem.Paired.length
def jv:=@PyProof.Rows.F.plain_set_update_loop
def jw:=@PySem.F.args_tuple_add_2
def jx:=@PySem.F.entry_tuple_add
def jy:=@PySem.F.plain_extend_loop
def jz:=@PySem.F.slot_tuple_add
def k6:=@PySem.W.callWith_K
def k7:=@PySem.W.looks_findIn
def k8:=@PySem.W.plainGet_of
def k9:=@PySem.SeqAt.RcNeAt.tuples
def ZCz:=@Array.toList_push
def ZD0:=@PySem.Calls.Name_function_global
def ZD1:=@PySem.F.args_tuple_iterator_next_1
def ZD2:=@PySem.F.entry_tuple_iterator_next
def ZD3:=@Int.lt_of_le_of_lt
def ZD4:=@Int.natCast_nonneg
def ZD5:=@List.Pairwise.map
def ZD6:=@List.Sublist.refl
def ZD7:=@List.any_eq_false
def ZD8:=@List.any_eq_true
def ZD9:=@List.filter_congr
def ZDA:=@List.getElem?_eraseIdx_of_ge
def ZDB:=@List.getElem?_eraseIdx_of_lt
def ZDC:=@List.getElem?_toArray
def ZDD:=@List.getElem_take
def ZDE:=@List.idxOf_append
def ZDF:=@List.length_eraseIdx_le
def ZDG:=@List.length_pos_of_mem
def ZDH:=@List.length_replicate
def ZDI:=@List.map_fst_zip
def ZDJ:=@List.map_snd_zip
def ZDK:=@List.mem_of_mem_drop
def ZDL:=@List.range'_succ
def ZDM:=@List.reverse_cons
def ZDN:=@Nat.le_of_not_lt
def ZDO:=@Nat.min_le_right
def ZDP:=@Nat.not_lt_of_le
def ZDQ:=@Nat.succ_ne_self
def ZDR:=@Option.getD_none
def ZDS:=@Option.getD_some
def ZDT:=@Option.isSome_some
def ZDU:=@PyProof.Rows.F.entry_set_update_loop
def ZDV:=@PySem.F.plainAttrs_dict
def ZDW:=@PySem.F.plain_set_new
def ZDX:=@PySem.F.slot_dict_pop
def ZDY:=@PySem.F.slot_dict_values
def ZDZ:=@PySem.F.slot_list_index
def ZDa:=@PySem.F.slot_list_remove
def ZDb:=@PySem.F.slot_tuple_index
def ZDc:=@PySem.W.Looks.ld
def ZDd:=@PySem.W.cellsFrom_some
def ZDe:=@PySem.W.findObj_own
def ZDf:=@PySem.strKind_is
def ZDg:=@Std.Legacy.Range.forIn_eq_forIn_range'
open PySem PySem.Spec PyProof.Rows
abbrev ZEW:=PySem.W.Frag
abbrev ZEX:=(List (Addr×Obj))
abbrev ZEY:=(Str->Option Value)
namespace PySem.W.Fast
def t:=Nat
def tw10123466298098944707:=t
def tw5363013884249942528:=t
def tw13656029043878175588:=t
def tw4264987017861454563:=t
def tw12461090005337474529:=t
def tw18236801589407707072:=t
def tw9095564643635117701:=t
def tw15936444768921412263:=t
def tw16053176626346525868:=t
def tw13216785525211713724:=t
def tw10488241759980313047:=t
def tw5754319592047876364:=t
def tw13328836867115783396:=t
def tw9283295667922828183:=t
def tw4834517061408258120:=t
def tw3667456593970402601:=t
def tw9422166104358545108:=t
def tw4659220824769107237:=t
def tw2309353154100448757:=t
def tw3904531747930413498:=t
def tw16073847935350773530:=t
def tw4156737206004639652:=t
def tw9273422925922738341:=t
def tw2985427104010730327:=t
def tw531593377925674881:=t
def tw17304583411934107096:=t
def tw4378329677424499064:=t
def tw9719228457958574930:=t
def tw4370934079706042722:=t
def tw5559794553207999616:=t
def tw18003564604345913843:=t
def tw13394436173170687901:=t
def tw7474597500758624562:=t
def tw4860015361432297846:=t
def tw1855633461718852406:=t
def tw1043216460165163113:=t
def tw8268286052821414103:=t
def tw7672932200116295403:=t
def tw15716613883752807263:=t
def tw6865764402313281696:=t
def tw2003497588358805784:=t
def tw2850260848658120942:=t
def tw16220822159577421276:=t
def tw17903209083288660259:=t
def tw13214503379864458103:=t
def tw2380314177997338559:=t
def tw14131537320430075756:=t
def tw14358653475733476724:=t
def tw16524824922239977114:=t
def tw14313754381529714538:=t
def tw13937860245624064218:=t
def tw1737511597958993449:=t
def tw4907598344193552773:=t
def tw18310817275327399063:=t
def tw278030882322751607:=t
def tw7174585275036222448:=t
def tw5723259413985030864:=t
def tw16757496912167125427:=t
def tw12110069061095676476:=t
def tw6030155333900186637:=t
def tw5438425934754824399:=t
def tw7596047901723483099:=t
def tw8243167205261456917:=t
def tw9699563494417708251:=t
def tw3670183480287580109:=t
def tw2981349283841925186:=t
def tw1561221594572092849:=t
def tw8399703793812487864:=t
def tw12234437345256358404:=t
def tw12468916607400841974:=t
def tw12995236234135855346:=t
def tw10641469319429132541:=t
def tw5457423964356366837:=t
def tw13247477896347807379:=t
def tw3921884224845875747:=t
def tw3857220522483562005:=t
def tw4402995169545361520:=t
def tw17610810929537785750:=t
def tw18061959994055771829:=t
def tw5246824753809927602:=t
def tw18051352111222026388:=t
def tw891347799059883495:=t
def tw10813280990230658122:=t
def tw2844156428423355766:=t
def tw4656725005981061652:=t
def tw15392705949006111545:=t
def tw15897308887448040532:=t
def tw5048003850439461623:=t
def tw1938093138380693868:=t
def tw4430097531991949079:=t
def tw16613910236976048566:=t
def tw13823691270218547664:=t
def tw2118884405681438022:=t
def tw12872656647897391907:=t
def tw1553212357670113292:=t
def tw12107791765412645149:=t
def tw18226099179399309308:=t
def tw6842310765472439381:=t
def tw1256036138323429153:=t
def tw10226705366771269311:=t
def tw17868946923466436883:=t
def tw16087229305327104246:=t
def tw17796080406101217224:=t
def tw17724282298859085533:=t
def tw12851842254425140516:=t
def tw10226808342073822246:=t
def tw17206426814396950926:=t
def tw661028534838097016:=t
def tw9523312318358311218:=t
def tw12176251072183678055:=t
def tw13116533696219644732:=t
def tw14710474508466206614:=t
def tw14341588407834299940:=t
def tw4622748033656751047:=t
def tw15589256928777839939:=t
def tw14581125234605709155:=t
def tw18152806716699755848:=t
def tw6703027857192095652:=t
def tw4527013427700966880:=t
def tw12757746278227303340:=t
def tw13850913448278826559:=t
def tw589602666394147356:=t
def tw7464430993435825043:=t
def tw1330070646015471757:=t
def tw2253639802126399420:=t
def tw1152029422133338586:=t
def tw10193591990752693217:=t
def tw16041120490822566300:=t
def tw1605202239200277774:=t
def tw7829394976878491649:=t
def tw17785977194664635413:=t
def tw3292334978714122434:=t
def tw9155521001725711880:=t
def tw6168179227719774303:=t
def tw13663247578266740821:=t
def tw11290276544726324145:=t
def tw15371653401530536512:=t
def tw3296153565977464704:=t
def tw3942956558355933444:=t
def tw3921148282377825593:=t
def tw15149634803218901693:=t
def tw685680386515392176:=t
def tw16378331149372660296:=t
def tw1053645913082238121:=t
def tw7548202084865236750:=t
def tw12453670196618834583:=t
def tw10170824199018376009:=t
def tw10548926629004665962:=t
def tw9994143176675526003:=t
def tw6564704006911145854:=t
def tw14229793279976070381:=t
def tw4660001759312190080:=t
def tw8788127782174598981:=t
def tw17329171881097989884:=t
def tw3091708524254798190:=t
def tw5655852339106980229:=t
end PySem.W.Fast
set_option Elab.async false
set_option maxRecDepth 100000
namespace L2
variable{α κ:Type}{C a b dx it:Addr}{c cd u:Value}{w:World}{Zl h':Heap}{m name qual x:Str}{e tg:Expr}{ZX Zi:ZEX}{s s':Shared}{g':Array GenState}{i j n t' tk:Nat}{d':Drawn}{ch fp:List Addr}{N ks ns ps:List Str}{M:Model}{A:Around}{E Q:Value->Shared->Prop}{ZEJ pos:Pos}{op:CmpOp}{es rest:List Expr}{f:Value->Value->Sem Value}{pl:Sem Bool}{ds us:List Value}{mA mg:ZEY}{prog:Program}{kw:List (Str×Value)}{fd:FuncData}{outer:List Env}{sc scope:Scope}
abbrev Key:=Sum Int Str
noncomputable def Ip:Key->Value->Bool
 | .inl k,v=>Value.isInt k v
 | .inr x,v=>Value.isStrOf x v
noncomputable def qP(w:World):Key->Int
 | .inl k=>hashInt k
 | .inr x=>hashStr w x
theorem Fu:∀{k:Key}{v:Value},Ip k v=true->(∃i t,k=Sum.inl i/\v=Value.int i t)∨(∃x t,k=Sum.inr x/\v=Value.str x t)
 | .inl i,v,h=>by
  obtain⟨t,e⟩:=Value.isInt_shape (k:=i) (v:=v) h;exact .inl ⟨i,t,rfl,e⟩
 | .inr x,v,h=>by
  obtain⟨t,e⟩:=Value.isStrOf_shape (x:=x) (v:=v) h;exact .inr ⟨x,t,rfl,e⟩
theorem v9(i:Int)(t:Tok):Ip (.inl i) (.int i t)=true:=by simp[Ip,Value.isInt]
theorem wG(x:Str)(t:Tok):Ip (.inr x) (.str x t)=true:=by simp[Ip,Value.isStrOf]
theorem uf(a b:Int):decide ((Sum.inl a:Key)=Sum.inl b)=(a == b):=by
 by_cases e:a=b
 .subst e;simp
 .have h:¬ (Sum.inl a:Key)=Sum.inl b:=λq=>e (Sum.inl.inj q);rw[lx h];exact(beq_eq_false_iff_ne.mpr e).symm
theorem ZCB(a b:Str):decide ((Sum.inr a:Key)=Sum.inr b)=decide (a=b):=by
 by_cases e:a=b
 .subst e;simp
 .have h:¬ (Sum.inr a:Key)=Sum.inr b:=λq=>e (Sum.inr.inj q);rw[lx h,lx e]
theorem ZAN(a:Int)(b:Str):decide ((Sum.inl a:Key)=Sum.inr b)=false:=lx (λq=>nomatch q)
theorem vh(a:Str)(b:Int):decide ((Sum.inr a:Key)=Sum.inl b)=false:=lx (λq=>nomatch q)
def Bl(prog:Program)(w:World):PySem.KeyKind prog w Key where
 is:=Ip
 hash:=qP w
 inj:=λv a b ha hb=>by
  rcases Fu ha with⟨i,t,rfl,rfl⟩|⟨x,t,rfl,rfl⟩
  .rcases Fu hb with⟨j,u,rfl,e⟩|⟨y,u,rfl,e⟩
   .injection e with e1 _;rw[e1]
   .exact nomatch e
  .rcases Fu hb with⟨j,u,rfl,e⟩|⟨y,u,rfl,e⟩
   .exact nomatch e
   .injection e with e1 _;rw[e1]
 byValue:=λk v h=>by
  rcases Fu h with⟨i,t,rfl,rfl⟩|⟨x,t,rfl,rfl⟩ <;> rfl
 pyHash:=λhv h=>by
  rcases Fu hv with⟨i,t,rfl,rfl⟩|⟨x,t,rfl,rfl⟩
  .exact wpAny_pyHash_int h
  .exact wpAny_pyHash_str h
 eqBool:=λc hv h=>by
  rcases Fu c with⟨i,t,rfl,rfl⟩|⟨x,t,rfl,rfl⟩
  .rcases Fu hv with⟨j,u,rfl,rfl⟩|⟨y,u,rfl,rfl⟩
   .rw[uf]at h;exact wpAny_eqBool_int h
   .rw[ZAN]at h;exact SeqAt.EqAt.int_str i t y u _ _ _ _ h
  .rcases Fu hv with⟨j,u,rfl,rfl⟩|⟨y,u,rfl,rfl⟩
   .rw[vh]at h;exact SeqAt.EqAt.str_int x t j u _ _ _ _ h
   .rw[ZCB]at h;exact wpAny_eqBool_str h
 «strs»:=λk x t v h=>by
  rcases Fu h with⟨i,u,rfl,e⟩|⟨y,u,rfl,e⟩
  .exact nomatch e
  .injection e with e1 _
   subst e1;cases v <;> rfl
theorem pY(prog:Program)(w:World)(i:Int)(t:Tok):(Bl prog w).is (.inl i) (.int i t)=true:=v9 i t
theorem ZBp(prog:Program)(w:World)(x:Str)(t:Tok):(Bl prog w).is (.inr x) (.str x t)=true:=wG x t
inductive V where
 |A7|bl (b:Bool)|int (i:Int)|str (x:Str)|GC (b:Array UInt8)|OQ (b:UInt64)|ref (a:Addr)|ty (n:String)
 deriving DecidableEq
variable{v y:V}{DO vs:List V}
def RelV:V->Value->Prop
 | .A7,u=>u=Value.none
 | .bl b,u=>u=Value.bool b
 | .int i,u=>∃t,u=Value.int i t
 | .str x,u=>∃t,u=Value.str x t
 | .GC b,u=>∃t,u=Value.bytes b t
 | .OQ b,u=>∃t,u=Value.float b t
 | .ref a,u=>u=Value.ref a
 | .ty n,u=>u=Value.type n
abbrev Vals:List V->List Value->Prop:=Paired RelV
theorem Vals.length{xs:List V}{us:List Value}(r:Vals xs us):xs.length=us.length:=jt r
theorem Vals.get:∀{xs:List V}{us:List Value}{i:Nat}{x:V},Vals xs us->xs[i]?=some x->∃u,us[i]?=some u/\RelV x u
 |_,_,_,_,.nil,e=>by simp at e
 |_,_,0,_,.cons r _,e=>by simp at e;subst e;exact⟨_,rfl,r⟩
 |_,_,i+1,x,.cons _ t,e=>by
  obtain⟨u,h1,h2⟩:=Vals.get (i:=i) (x:=x) t (by simpa using e)
  exact⟨u,by simpa using h1,h2⟩
theorem Vals.set{x:V}{u:Value}(r:RelV x u):∀{xs:List V}{us:List Value}(i:Nat),Vals xs us->Vals (xs.set i x) (us.set i u)
 |_,_,_,.nil=>.nil
 |_,_,0,.cons _ t=>.cons r t
 |_,_,i+1,.cons q t=>.cons q (Vals.set r i t)
theorem Vals.append:∀{xs ys:List V}{us ws:List Value},Vals xs us->Vals ys ws->Vals (xs++ys) (us++ws)
 |_,_,_,_,.nil,s=>s
 |_,_,_,_,.cons r t,s=>.cons r (Vals.append t s)
theorem Vals.take:∀{xs:List V}{us:List Value}(n:Nat),Vals xs us->Vals (xs.take n) (us.take n)
 |_,_,0,_=>.nil
 |_,_,_+1,.nil=>.nil
 |_,_,n+1,.cons r t=>.cons r (Vals.take n t)
theorem Vals.drop:∀{xs:List V}{us:List Value}(n:Nat),Vals xs us->Vals (xs.drop n) (us.drop n)
 |_,_,0,r=>r
 |_,_,_+1,.nil=>.nil
 |_,_,n+1,.cons _ t=>Vals.drop n t
def Dd:Option V->Option Value->Prop
 |some v,some u=>RelV v u
 |none,none=>True
 |_,_=>False
def KV:List (κ×V)->List (κ×Value)->Prop:=Paired λ(p:κ×V)(q:κ×Value)=>p.1=q.1/\RelV p.2 q.2
noncomputable def kV:Key->V
 | .inl i=>.int i
 | .inr x=>.str x
inductive HO where
 /-- a list -/
 |lst (xs:List V)
 /-- a tuple (never changes) -/
 |tup (xs:List V)
 /-- a dict pF keys are ints and texts;one pF keys are tuples of ints and texts (GO empty one is both) -/
 |dK (kvs:List (Key×V))|dT (kvs:List (List Key×V))
 /-- a set of ints: A3 members,A3 size -/
 |set (S:Int->Bool) (n:Nat)
 /-- an instance of GO class at C,A3 dict at dx,A3 attributes -/
 |ins (C dx:Addr) (fs:List (Str×V))
 /-- GO dict of GO instance at x -/
 |own (x:Addr)
 /-- GO dict of an exception -/
 |xd (fs:List (Str×V))
 /-- a bound method,f of x -/
 |met (f x:Addr)
 /-- a range object lo,lo+1,.. below hi -/
 |X1 (lo hi:Int)
 /-- a uY ZEM is known to GO object (GO iA;a dict while a loop walks it): read,never written while it is so -/
 |Ho (o:Obj) (u:HO)
 /-- a code ZDz table -/
 |LB (ps:Array Value)
 /-- any other uY,by lK is true of A3 one object (a def of ZE5 own: ZA7 a S n:=HO.ext λh=>..) -/
 |ext (φ:Heap->Prop)
variable{o o':HO}
abbrev Hp:=Addr->Option HO
variable{H H':Hp}
noncomputable def upd(H:Hp)(a:Addr)(o:HO):Hp:=λb=>if b=a then some o else H b
theorem AO:upd H a o a=some o:=by unfold upd;rw[kz rfl]
theorem Ab(h:b≠a):upd H a o b=H b:=by unfold upd;rw[km h]
theorem xy{u:HO}(h:H a=some o)(h':H b=some u)(d:o≠u):a≠b:=by
 intro e;subst e;rw[h]at h';exact d (BE h')
theorem Eb(h:H a=some o)(h':H b=none):a≠b:=by
 intro e;subst e;rw[h]at h';cases h'
section
variable(P:Program)(w:World)
def CL(H:Hp)(h:Heap)(a:Addr):HO->Prop
 | .lst xs=>xs.length<=sizeLine/\∃(A3:List Value)(n:Nat),Vals xs A3/\h.get? a=some { cls:=.type "list", data:=.seq A3.toArray n }
 | .tup xs=>xs.length<=sizeLine/\∃A3:List Value,Vals xs A3/\(IsTup h a A3.toArray/\∀ob,h.get? a=some ob->ob.dict=none)
 | .dK kvs=>kvs.length<=sizeLine/\(a == sysModules)=false/\∃vs,KV kvs vs/\h.DictOf (Bl P w) a vs
 | .dT kvs=>kvs.length<=sizeLine/\(a == sysModules)=false/\∃xs:List (List Key×Addr×Value),
   Paired (λ(p:List Key×V)(q:List Key×Addr×Value)=>p.1=q.1/\H q.2.1=some (.tup (p.1.map kV))/\RelV p.2 q.2.2) kvs xs/\
   ∃o es ep,h.get? a=some o/\o.ExactDict/\o.data=.dict es ep/\es.toList=xs.map (entryOfKey (tupleKind (Bl P w)))/\(xs.map (·.1)).Nodup
 | .set S n=>h.SetOf (intKind P w) a S n
 | .ins C dx fs=>H dx=some (.own a)/\fs.length<=1000/\dx≠a/\h.get? a=some (PySem.W.instObj C dx)/\
   ∃mA,h.Ns1 dx mA/\(∀f,Dd (fs.lookup f) (mA f))/\PySem.Within mA (fs.map (·.1))
 | .own _=>∃o,h.get? a=some o
 | .xd fs=>∃mA,h.Ns1 a mA/\∀f,Dd (fs.lookup f) (mA f)
 | .X1 lo hi=>∃t u v,h.get? a=some { cls:=.type "range", data:=.fields #[.int lo t,.int hi u,.int 1 v] }
 | .Ho o u=>h.get? a=some o/\CL H h a u
 | .LB ps=>h.get? a=some { cls:=.none,data:=.fields ps }
 | .met f x=>h.get? a=some (PySem.W.methodObj (.ref f) (.ref x))
 | .ext φ=>φ h/\(∃o,h.get? a=some o)/\∀h1 h2:Heap,φ h1->(∀o,h1.get? a=some o->h2.get? a=some o)->φ h2
def Bk(H:Hp)(h:Heap):Prop:=∀a o,H a=some o->CL P w H h a o
end
section
variable{P:Program}{h:Heap}
theorem CL.lt(x:CL P w H h a o):a<h.objs.size:=by
 cases o with
 |lst xs=>obtain⟨_,_,_,_,e⟩:=x;exact Az e
 |tup xs=>obtain⟨_,_,_,p⟩:=x;exact p.1.lt
 |dK kvs=>obtain⟨_,_,_,_,o,_,_,e,_⟩:=x;exact Az e
 |dT kvs=>obtain⟨_,_,_,_,o,_,_,e,_⟩:=x;exact Az e
 |set S n=>obtain⟨o,_,_,_,e,_⟩:=x;exact Az e
 |ins C dx fs=>obtain⟨_,_,_,e,_⟩:=x;exact Az e
 |own y=>obtain⟨_,e⟩:=x;exact Az e
 |xd fs=>obtain⟨_,⟨_,_,_,e,_⟩,_⟩:=x;exact Az e
 |X1 lo hi=>obtain⟨_,_,_,e⟩:=x;exact Az e
 |Ho ob u=>obtain⟨e,_⟩:=x;exact Az e
 |LB ps=>exact Az (show h.get? a=some _ from x)
 |met f y=>exact Az (show h.get? a=some _ from x)
 |ext φ=>obtain⟨_,⟨_,e⟩,_⟩:=x;exact Az e
theorem Paired.Vg{α β:Type}{F G:α->β->Prop}:∀{l₁:List α}{l₂:List β},Paired F l₁ l₂->(∀a b,F a b->G a b)->Paired G l₁ l₂
 |_,_,.nil,_=>.nil
 |_,_,.cons r t,f=>.cons (f _ _ r) (Paired.Vg t f)
theorem CL.HK(x:CL P w H h a o)(k:∀b u,(b=a∨H b=some (.own a))->h.get? b=some u->h'.get? b=some u)
  (ho:∀b,H b=some (.own a)->H' b=some (.own a)) (j:∀b xs,H b=some (.tup xs)->H' b=some (.tup xs)):CL P w H' h' a o:=by
 induction o with
 |lst xs=>obtain⟨z,A3,n,r,e⟩:=x;exact⟨z,A3,n,r,k _ _ (.inl rfl) e⟩
 |tup xs=>obtain⟨z,A3,r,⟨ob,e,c⟩,dn⟩:=x;exact⟨z,A3,r,⟨ob,k _ _ (.inl rfl) e,c⟩,λRm g=>by rw[k _ _ (.inl rfl) e]at g;cases g;exact dn _ e⟩
 |dK kvs=>obtain⟨z,y,vs,r,ob,es,ep,e,c⟩:=x;exact⟨z,y,vs,r,ob,es,ep,k _ _ (.inl rfl) e,c⟩
 |dT kvs=>
  obtain⟨z,y,xs,r,ob,es,ep,e,c⟩:=x;exact⟨z,y,xs,Paired.Vg r λp q z=>⟨z.1,j _ _ z.2.1,z.2.2⟩,ob,es,ep,k _ _ (.inl rfl) e,c⟩
 |set S n=>obtain⟨ob,es,ep,t,e,c⟩:=x;exact⟨ob,es,ep,t,k _ _ (.inl rfl) e,c⟩
 |ins C dx fs=>
  obtain⟨d,z,ne,e,mA,⟨od,es,ep,l,c⟩,r⟩:=x;exact⟨ho _ d,z,ne,k _ _ (.inl rfl) e,mA,⟨od,es,ep,k _ _ (.inr d) l,c⟩,r⟩
 |own y=>obtain⟨ob,e⟩:=x;exact⟨ob,k _ _ (.inl rfl) e⟩
 |xd fs=>obtain⟨mA,⟨od,es,ep,e,c⟩,r⟩:=x;exact⟨mA,⟨od,es,ep,k _ _ (.inl rfl) e,c⟩,r⟩
 |X1 lo hi=>obtain⟨t,u,v,e⟩:=x;exact⟨t,u,v,k _ _ (.inl rfl) e⟩
 |Ho ob u i=>obtain⟨e,q⟩:=x;exact⟨k _ _ (.inl rfl) e,i q⟩
 |LB ps=>
  have e:h.get? a=some { cls:=.none,data:=.fields ps }:=x;show h'.get? a=some { cls:=.none,data:=.fields ps };exact k a _ (.inl rfl) e
 |met f y=>
  have e:h.get? a=some (PySem.W.methodObj (.ref f) (.ref y)):=x;show h'.get? a=some (PySem.W.methodObj (.ref f) (.ref y));exact k a _ (.inl rfl) e
 |ext φ=>obtain⟨p,⟨o,e⟩,st⟩:=x;exact⟨st _ _ p λo q=>k _ _ (.inl rfl) q,⟨o,k _ _ (.inl rfl) e⟩,st⟩
theorem Bk.lt(x:Bk P w H h)(e:H a=some o):a<h.objs.size:=(x a o e).lt
theorem Bk.fresh(x:Bk P w H h)(e:h.objs.size<=a):H a=none:=by
 cases q:H a with
 |none=>rfl
 |some u=>exact absurd (Cr (x.lt q) e) (LR _)
theorem Bk.kept(x:Bk P w H h)(k:∀b u,h.get? b=some u->h'.get? b=some u):Bk P w H h':=λa o e=>
 (x a o e).HK (λb u _ q=>k b u q) (λ_ q=>q) λ_ _ q=>q
theorem Bk.laid(x:Bk P w H h)(k:∀b u,h.get? b=some u->h'.get? b=some u)(f:h.objs.size<=a)(d:CL P w (upd H a o) h' a o):Bk P w (upd H a o) h':=λb u e=>by
 have hn:=x.fresh f
 by_cases hb:b=a
 .subst hb;rw[AO]at e;cases e;exact d
 .rw[Ab hb]at e;exact(x b u e).HK (λc v _ q=>k c v q) (λc q=>by rw[Ab (Eb q hn)];exact q) λc xs q=>by rw[Ab (Eb q hn)];exact q
end
def Rd(H:Hp)(a:Addr)(u:HO):Prop:=H a=some u∨∃o,H a=some (.Ho o u)
theorem Rd.ok{P:Program}{h:Heap}{u:HO}(r:Rd H a u)(x:Bk P w H h):CL P w H h a u:=by
 rcases r with r|⟨o,r⟩
 .exact x a u r
 .obtain⟨_,q⟩:=x a _ r;exact q
def N7:Option HO->Prop
 |some (.lst _)=>True
 |some (.dK _)=>True
 |some (.dT _)=>True
 |some (.set _ _)=>True
 |some (.ins _ _ _)=>True
 |some (.ext _)=>True
 |_=>False
section
variable{P:Program}{h:Heap}{x e:Addr}
theorem Bk.write(ok:Bk P w H h)(a:N7 (H x))(j:e=x∨H e=some (.own x))(k:∀b u,b≠e->h.get? b=some u->h'.get? b=some u)(HC:∃u,h'.get? e=some u)
  (g:CL P w (upd H x o') h' x o'):Bk P w (upd H x o') h':=λb u q=>by
 have l:∀c y,H c=some (.own y)->c≠x:=λc y r z=>by subst z;rw[r]at a;exact a
 have m:∀c xs,H c=some (.tup xs)->c≠x:=λc xs r z=>by subst z;rw[r]at a;exact a
 by_cases hb:b=x
 .subst hb;rw[AO]at q;cases q;exact g
 .rw[Ab hb]at q
  by_cases f:b=e
  .have i:H b=some (.own x):=by
    rcases j with z|z
    .exact absurd (f.trans z) hb
    .rw[f];exact z
   rw[q]at i;cases i;obtain⟨v,hv⟩:=HC;exact⟨v,by rw[f];exact hv⟩
  .refine(ok b u q).HK (λc v d r=>k c v ?_ r) (λc r=>by rw[Ab (l c b r)];exact r) λc xs r=>by rw[Ab (m c xs r)];exact r
   rcases d with rfl|d
   .exact f
   .rintro rfl;rcases j with z|z
    .exact l c b d z
    .rw[d]at z;cases z;exact hb rfl
end
structure Un (fs ex:List Addr) (H H':Hp) (h h':Heap):Prop where
 keep:∀b o,h.get? b=some o->H b=none->b∉fs->b∉ex->h'.get? b=some o
 slot:∀b o,h.get? b=some o->H b=none->b∈fs->b∉ex->∃sl,h'.get? b=some { o with slots:=sl }
 free:∀b o,h.get? b=some o->H b=none->b∉ex->H' b=none
 there:∀b o,h.get? b=some o->b∉ex->∃o',h'.get? b=some o'
 Gr:∀b xs,H b=some (.tup xs)->H' b=some (.tup xs)
 G2:∀b o u,H b=some (.Ho o u)->H' b=some (.Ho o u)
 Ge:∀b ps,H b=some (.LB ps)->∃more,H' b=some (.LB (ps++more))
section
variable{fs Lm ex ex':List Addr}{H1 H2:Hp}{h h1 h2:Heap}{x e:Addr}
theorem Un.any(u:Un fs ex H H1 h h1){ob:Obj}(q:h.get? b=some ob)(n:H b=none)(hx:b∉ex):∃sl,h1.get? b=some { ob with slots:=sl }:=by
 by_cases hb:b∈fs
 .exact u.slot b ob q n hb hx
 .exact⟨ob.slots,u.keep b ob q n hb hx⟩
theorem Un.kept(k:∀b u,h.get? b=some u->h'.get? b=some u):Un fs ex H H h h':=
 ⟨λb ob q _ _ _=>k b ob q,λb ob q _ _ _=>⟨ob.slots,k b ob q⟩,λ_ _ _ n _=>n,λb ob q _=>⟨ob,k b ob q⟩,λ_ _ q=>q,λ_ _ _ q=>q,λ_ ps q=>⟨#[],by rw[q];simp⟩⟩
theorem Un.refl:Un fs ex H H h h:=Un.kept λ_ _ q=>q
theorem Un.laid(k:∀b u,h.get? b=some u->h'.get? b=some u)(c:h.objs.size<=a)(hn:H a=none):Un fs ex H (upd H a o) h h' where
 keep:=λb u q _ _ _=>k b u q
 slot:=λb u q _ _ _=>⟨u.slots,k b u q⟩
 free:=λb u q n _=>by rw[Ab (BL (Cr (Az q) c))];exact n
 there:=λb u q _=>⟨u,k b u q⟩
 Gr:=λb xs q=>by rw[Ab (Eb q hn)];exact q
 G2:=λb u xs q=>by rw[Ab (Eb q hn)];exact q
 Ge:=λb ps q=>⟨#[],by rw[Ab (Eb q hn),q];simp⟩
theorem Un.write(a:N7 (H x))(f:e=x∨H e=some (.own x))(k:∀b u,b≠e->h.get? b=some u->h'.get? b=some u)(HC:∃u,h'.get? e=some u):Un fs ex H (upd H x o) h h':=by
 have hx:∀b,H b=none->b≠x:=λb n z=>by subst z;rw[n]at a;exact a
 have hb:∀b,H b=none->b≠e:=λb n z=>by
  subst z;rcases f with r|r
  .exact hx b n r
  .rw[n]at r;cases r
 have c:∀b u,H b=some u->¬ N7 (some u)->b≠x:=λb u q nm z=>by subst z;rw[q]at a;exact nm a
 refine⟨λb u q n _ _=>k b u (hb b n) q,λb u q n _ _=>⟨u.slots,k b u (hb b n) q⟩,λb u q n _=>by rw[Ab (hx b n)];exact n,λb u q _=>?_,
  λb xs q=>by rw[Ab (c b _ q λz=>z)];exact q,λb u xs q=>by rw[Ab (c b _ q λz=>z)];exact q,λb ps q=>⟨#[],by rw[Ab (c b _ q λz=>z),q];simp⟩⟩
 by_cases d:b=e
 .subst d;exact HC
 .exact⟨u,k b u d q⟩
end
def Qf(h:Heap)(H:Hp):List Addr:=(List.range h.objs.size).filter λa=>(H a).isSome
def Ii(h:Heap)(H:Hp):Heap:=PySem.W.hideAll h (Qf h H)
theorem y6(h:Heap)(H:Hp):(Ii h H).objs.size=h.objs.size:=PySem.W.hideAll_size _ _
theorem qF{h:Heap}{o:Obj}(e:h.get? b=some o)(n:H b=none):(Ii h H).get? b=some o:=
 PySem.W.hideAll_get _ e λa=>by
  have q:(H b).isSome=true:=(List.mem_filter.mp a).2;rw[n]at q;simp at q
theorem y9{h:Heap}{o:Obj}(e:(Ii h H).get? b=some o):h.get? b=some o/\H b=none:=by
 have a:h.get? b=some o:=PySem.W.of_hideAll (Qf h H) e;refine⟨a,?_⟩;cases q:H b with
 |none=>rfl
 |some x=>
  have c:b∈Qf h H:=List.mem_filter.mpr ⟨List.mem_range.mpr (Az a),by simp[q]⟩;have z:(Ii h H).get? b=none:=PySem.W.hideAll_none (Qf h H) c;rw[z]at e;cases e
structure Mod (K:ZEW) (mg:ZEY) (Zl:Heap):Prop where
 Nd:K.In Zl
 glob:Zl.Ns mainGlobals mg
 blt:∃mb,Zl.Ns builtinsNs mb/\∀x:Str,x ≠"__name__" -> mb x=bootBuiltins x
 nolimit:Zl.NoLimit
structure Cx where
 prog:Program
 w:World
 K:ZEW
 mg:ZEY
 base:Heap
 A:Around
 N:List Str
 s₀:Shared
 H₀:Hp
 env:Env
 outer:List Env
 stack:List Env
 ex:List Addr
 fn:Str->Bool
 calm:Bool
 pn:ZEX
 xe:Value->Shared->Prop
variable{X:Cx}
def Ci(l:List Env):List Addr:=l.filterMap (·.frame)
abbrev Cx.fs(X:Cx):List Addr:=Ci X.outer
def YI(sc:Scope)(x:Str):Prop:=sc.names.lookup x=some .local∨sc.names.lookup x=some .cell∨sc.names.lookup x=some .free
def Loc(sc:Scope)(x:Str):Prop:=sc.names.lookup x=some .local∨sc.names.lookup x=some .cell
def Look(env:Env)(h:Heap)(m:ZEY)(x:Str)(u:Value):Prop:=
 (env.kindOf x=some .local/\m x=some u)∨((env.kindOf x=some .cell∨env.kindOf x=some .free)/\∃c,env.cells.lookup x=some c/\h.IsCell c (some u))
structure Cx.Ok (X:Cx):Prop where
 mod:Mod X.K X.mg X.base
 kind:X.env.scope.kind=.function
 glob:X.env.globals=mainGlobals
 blt:X.env.builtins=builtinsNs
 above:X.s₀.heap.objs.size<=X.env.locals
 inj:∀x y c,X.env.cells.lookup x=some c->X.env.cells.lookup y=some c->x=y
 has:∀x,(X.env.kindOf x=some .cell∨X.env.kindOf x=some .free)->∃c,X.env.cells.lookup x=some c
 Jq:∀x c,X.fn x=true->X.env.cells.lookup x=some c->X.s₀.heap.objs.size<=c
 hd:X.calm=true->X.A.handled=none
 frames:X.A.frames=some X.stack
 Hf:X.stack=X.outer∨(X.stack=X.env::X.outer/\X.env.frame=some X.env.locals)
 LC:∀b∈X.ex,b≠X.env.locals/\∀x c,X.env.cells.lookup x=some c->c≠b
 bs:∀b o,X.base.get? b=some o->X.s₀.heap.get? b=some o/\X.H₀ b=none
 G0:X.base.objs.size<=X.s₀.heap.objs.size
 K3:∀b o,X.base.get? b=some o->b∉X.ex
 K8:∀b∈X.ex,b∉X.fs
 ER:X.s₀.heap.FunFrames X.base X.outer
 HI:∀b∈X.fs,X.H₀ b=none
structure Inv (X:Cx) (Zi:ZEX) (Z:List (Option V)) (H:Hp) (s:Shared):Prop where
 ok:X.Ok
 os:s.os=X.s₀.os
 bare:AllBare s.gens
 base:Un X.fs X.ex X.H₀ H X.s₀.heap s.heap
 loc:∃m,s.heap.Ns X.env.locals m/\∀(i:Nat)(x:Str)(v:V),X.N[i]?=some x->Z[i]?=some (some v)->YI X.env.scope x->∃u,RelV v u/\Look X.env s.heap m x u
 cell:∀x c,X.env.cells.lookup x=some c->∃v,s.heap.IsCell c v
 free:H X.env.locals=none
 Dy:∀x c,X.env.cells.lookup x=some c->H c=none
 pin:∀p∈X.pn++Zi,s.heap.get? p.1=some p.2/\H p.1=none/\p.1≠X.env.locals/\p.1∉X.fs/\∀v,p.2.data≠.cell v
 AI:Bk X.prog X.w H s.heap
 len:Z.length=X.N.length
section
variable{Z:List (Option V)}
theorem Cx.Ok.oG(ok:X.Ok){o:Obj}(e:X.base.get? b=some o):b∉X.fs:=λhb=>by
 have:=(ok.ER.mem hb).1;rw[e]at this;cases this
theorem Inv.bs(I:Inv X Zi Z H s):∀b o,X.base.get? b=some o->s.heap.get? b=some o/\H b=none:=λb o e=>
 ⟨I.base.keep b o (I.ok.bs b o e).1 (I.ok.bs b o e).2 (I.ok.oG e) (I.ok.K3 b o e),I.base.free b o (I.ok.bs b o e).1 (I.ok.bs b o e).2 (I.ok.K3 b o e)⟩
theorem Inv.bk(I:Inv X Zi Z H s):∀b o,X.base.get? b=some o->s.heap.get? b=some o:=λb o e=>(I.bs b o e).1
theorem Inv.mod(I:Inv X Zi Z H s):Mod X.K X.mg X.base:=I.ok.mod
theorem Inv.EI(I:Inv X Zi Z H s):X.K.In s.heap:=I.ok.mod.Nd.keeps I.bk
theorem Inv.lt(I:Inv X Zi Z H s):X.env.locals<s.heap.objs.size:=let ⟨_,hn,_⟩:=I.loc;hn.lt
theorem Inv.sz(I:Inv X Zi Z H s):X.s₀.heap.objs.size<=s.heap.objs.size:=CK I.ok.above (Mq I.lt)
theorem Inv.pM(I:Inv X Zi Z H s)(h:s.heap.objs.size<=a):a∉X.fs:=λhb=>by
 obtain⟨_,o,ho,_⟩:=I.ok.ER.mem hb;exact absurd (Cr (Az ho) (CK I.sz h)) (LR _)
theorem Inv.FT(I:Inv X Zi Z H s):∀x c,X.env.cells.lookup x=some c->c≠X.env.locals:=λx c e z=>by
 obtain⟨v,o,ho,hd⟩:=I.cell x c e;obtain⟨m,⟨o',es,ep,DJ,HR,_⟩,_⟩:=I.loc;rw[z,DJ]at ho;cases ho;rw[HR]at hd;cases hd
theorem Inv.ER(I:Inv X Zi Z H s):s.heap.FunFrames X.base X.outer:=by
 have all:∀(l:List Env),(∀b∈Ci l,b∈X.fs)->X.s₀.heap.FunFrames X.base l->s.heap.FunFrames X.base l:=by
  intro l
  induction l with
  |nil=>intro _ _;trivial
  |cons env r f=>
   intro d h;obtain⟨hk,⟨L,o,a,hn,ho,hd⟩,g⟩:=h;have c:L∈X.fs:=d L (by unfold Ci;rw[Ys,a];exact CJ);obtain⟨sl,e⟩:=I.base.slot L o ho (I.ok.HI L c) c λz=>I.ok.K8 L z c;exact⟨hk,⟨L,_,a,hn,e,hd⟩,f (λb hb=>d b (by unfold Ci;rw[Ys,a];exact Ca _ hb)) g⟩
 exact all X.outer (λ_ hb=>hb) I.ok.ER
theorem Inv.stack(I:Inv X Zi Z H s):s.heap.FunFrames X.base X.stack:=by
 rcases I.ok.Hf with e|⟨e,hf⟩
 .rw[e];exact I.ER
 .rw[e];obtain⟨m,hn,_⟩:=I.loc;refine .cons (by rw[I.ok.kind];decide) hf hn ?_ I.ER;exact jT (CK I.ok.G0 I.ok.above)
theorem Inv.Ov(I:Inv X Zi Z H s):∀b∈Ci X.stack,b∈X.env.locals::X.fs:=λb hb=>by
 rcases I.ok.Hf with e|⟨e,hf⟩
 .rw[e]at hb;exact Ca _ hb
 .rw[e]at hb;unfold Ci at hb;rw[Ys,hf]at hb;exact hb
theorem Inv.T9(I:Inv X Zi Z H s):∀b∈Ci X.stack,H b=none:=λb hb=>by
 rcases List.mem_cons.mp (I.Ov b hb)with e|hb
 .rw[e];exact I.free
 .obtain⟨_,o,ho,_⟩:=I.ok.ER.mem hb;exact I.base.free b o ho (I.ok.HI b hb) λz=>I.ok.K8 b z hb
theorem Inv.step(I:Inv X Zi Z H s)
  (HN:∀b∈ch,(b∈X.ex∨X.s₀.heap.objs.size<=b)/\b≠X.env.locals/\(∀x c,X.env.cells.lookup x=some c->c≠b)/\∀p∈X.pn++Zi,p.1≠b)
  (keep:∀b o,b≠X.env.locals->b∉X.fs->b∉ch->s.heap.get? b=some o->H b=none->h'.get? b=some o)
  (slot:∀b o,b≠X.env.locals->b∈X.fs->b∉ch->s.heap.get? b=some o->H b=none->∃sl,h'.get? b=some { o with slots:=sl }) (free:∀b o,b∉ch->s.heap.get? b=some o->H b=none->H' b=none)
  (there:∀b o,b∉ch->s.heap.get? b=some o->∃o',h'.get? b=some o')
  (Gr:∀b xs,H b=some (.tup xs)->H' b=some (.tup xs)) (G2:∀b o u,H b=some (.Ho o u)->H' b=some (.Ho o u)) (Ge:∀b ps,H b=some (.LB ps)->∃more,H' b=some (.LB (ps++more)))
  (ns:∀m,s.heap.Ns X.env.locals m->h'.Ns X.env.locals m) (AI:Bk X.prog X.w H' h') (hg:AllBare g') :
  Inv X Zi Z H' { s with heap:=h',gens:=g',drawn:=d',toks:=t' }:=by
 have B:∀b o,X.s₀.heap.get? b=some o->b≠X.env.locals:=λb o e=>BL (Cr (Az e) I.ok.above);have j:∀b o,X.s₀.heap.get? b=some o->b∉X.ex->b∉ch:=λb o e hx hb=>by
  rcases(HN b hb).1 with z|z
  .exact hx z
  .exact absurd (Cr (Az e) z) (LR _)
 have a:∀x c,X.env.cells.lookup x=some c->∀v,s.heap.IsCell c v->h'.IsCell c v:=λx c e v AJ=>by
  obtain⟨o,ho,hd⟩:=AJ;have h:c∉ch:=λz=>(HN c z).2.2.1 x c e rfl
  by_cases A:c∈X.fs
  .obtain⟨sl,q⟩:=slot c o (I.FT x c e) A h ho (I.Dy x c e);exact⟨_,q,hd⟩
  .exact⟨o,keep c o (I.FT x c e) A h ho (I.Dy x c e),hd⟩
 refine⟨I.ok,I.os,hg,⟨λb o e n hb hx=>?_,λb o e n hb hx=>?_,λb o e n hx=>?_,λb o e hx=>?_,λb xs e=>Gr b xs (I.base.Gr b xs e),λb o xs e=>G2 b o xs (I.base.G2 b o xs e),λb ps e=>?_⟩,?_,λx c e=>?_,?_,λx c e=>?_,λp y=>?_,AI,I.len⟩
 .exact keep b o (B b o e) hb (j b o e hx) (I.base.keep b o e n hb hx) (I.base.free b o e n hx)
 .obtain⟨sl,f⟩:=I.base.slot b o e n hb hx;obtain⟨C,g⟩:=slot b _ (B b o e) hb (j b o e hx) f (I.base.free b o e n hx);exact⟨C,g⟩
 .obtain⟨o',f⟩:=I.base.there b o e hx;exact free b o' (j b o e hx) f (I.base.free b o e n hx)
 .obtain⟨o',f⟩:=I.base.there b o e hx;exact there b o' (j b o e hx) f
 .obtain⟨E,f⟩:=I.base.Ge b ps e;obtain⟨D,g⟩:=Ge b _ f;exact⟨E++D,by rw[g,Array.append_assoc]⟩
 .obtain⟨m,hn,F⟩:=I.loc;refine⟨m,ns m hn,λi x v f g G=>?_⟩;obtain⟨u,r,l⟩:=F i x v f g G;refine⟨u,r,?_⟩;rcases l with l|⟨k,c,e,z⟩
  .exact .inl l
  .exact .inr ⟨k,c,e,a x c e _ z⟩
 .obtain⟨v,z⟩:=I.cell x c e;exact⟨v,a x c e v z⟩
 .obtain⟨m,⟨o,_,_,ho,_⟩,_⟩:=I.loc;exact free _ o (λz=>(HN _ z).2.1 rfl) ho I.free
 .obtain⟨v,o,ho,hd⟩:=I.cell x c e;exact free c o (λz=>(HN c z).2.2.1 x c e rfl) ho (I.Dy x c e)
 .obtain⟨e,n,ne,t,d⟩:=I.pin p y;have h:p.1∉ch:=λz=>(HN p.1 z).2.2.2 p y rfl;exact⟨keep p.1 p.2 ne t h e n,free p.1 p.2 h e n,ne,t,d⟩
theorem Inv.un(I:Inv X Zi Z H s)(u:Un X.fs [] H H' s.heap h')(AI:Bk X.prog X.w H' h'):Inv X Zi Z H' { s with heap:=h',toks:=t' }:=by
 obtain⟨m,⟨o,es,ep,ho,r⟩,_⟩:=id I.loc;obtain⟨sl,d⟩:=u.any ho I.free (by simp);exact I.step (g':=s.gens) (d':=s.drawn) (ch:=[]) (λ_ z=>nomatch z) (λb o _ hb _ e n=>u.keep b o e n hb (by simp)) (λb o _ hb _ e n=>u.slot b o e n hb (by simp)) (λb o _ e n=>u.free b o e n (by simp)) (λb o _ e=>u.there b o e (by simp)) u.Gr u.G2 u.Ge (λf c=>by
  obtain⟨o',DY,Ko,DJ,a⟩:=c;rw[ho]at DJ;cases DJ;exact⟨_,DY,Ko,d,a⟩) AI I.bare
theorem Inv.call(I:Inv X Zi Z H s)(u:Un (Ci X.stack) ch H H' s.heap h')(AI:Bk X.prog X.w H' h')(h:AllBare g')
  (HN:∀b∈ch,(b∈X.ex∨X.s₀.heap.objs.size<=b)/\b≠X.env.locals/\(∀x c,X.env.cells.lookup x=some c->c≠b)/\∀p∈X.pn++Zi,p.1≠b) :
  Inv X Zi Z H' { s with heap:=h',gens:=g',drawn:=d',toks:=t' }:=by
 obtain⟨m,⟨o,es,ep,ho,r⟩,_⟩:=id I.loc;obtain⟨sl,d⟩:=u.any ho I.free λz=>(HN _ z).2.1 rfl;exact I.step (ch:=ch) HN (λb o d hb a e n=>u.keep b o e n (λz=>(List.mem_cons.mp (I.Ov b z)).elim d hb) a) (λb o _ _ a e n=>u.any e n a) (λb o a e n=>u.free b o e n a) (λb o a e=>u.there b o e a) u.Gr u.G2 u.Ge (λi g=>by
  obtain⟨o',DY,Ko,DJ,f⟩:=g;rw[ho]at DJ;cases DJ;exact⟨_,DY,Ko,d,f⟩) AI h
theorem Inv.turned(I:Inv X Zi Z H s)(k:∀b o,b≠it->s.heap.get? b=some o->h'.get? b=some o)(hn:H it=none)(d:it≠X.env.locals)
  (h1:it∈X.ex∨X.s₀.heap.objs.size<=it) (h2:∀x c,X.env.cells.lookup x=some c->c≠it) (h:∀p∈X.pn++Zi,p.1≠it):Inv X Zi Z H { s with heap:=h',toks:=t' }:=by
 have f:∀b u,H b=some u->b≠it:=λb u e z=>by rw[z,hn]at e;cases e
 refine I.step (g':=s.gens) (d':=s.drawn) (ch:=[it]) (λb hb=>?_) (λb o _ _ a e _=>k b o (λz=>a (by simp[z])) e) (λb o _ _ a e _=>⟨o.slots,k b o (λz=>a (by simp[z])) e⟩) (λ_ _ _ _ n=>n)
  (λb o a e=>⟨o,k b o (λz=>a (by simp[z])) e⟩) (λ_ _ e=>e) (λ_ _ _ e=>e) (λb ps e=>⟨#[],by rw[e];simp⟩) (λm g=>?_) (λb u e=>?_) I.bare
 .have e:b=it:=by simpa using hb
  subst e;exact⟨h1,d,h2,h⟩
 .obtain⟨o,es,ep,ho,r⟩:=g;exact⟨o,es,ep,k _ o (B0 d) ho,r⟩
 .refine(I.AI b u e).HK (λc v a q=>k c v ?_ q) (λ_ q=>q) λ_ _ q=>q;rcases a with z|z
  .rw[z];exact f b u e
  .exact f c _ z
theorem Inv.tok(I:Inv X Zi Z H s)(t:Nat):Inv X Zi Z H { s with toks:=t }:=I.un (h':=s.heap) (t':=t) Un.refl I.AI
theorem Inv.kept(I:Inv X Zi Z H s)(k:∀b u,s.heap.get? b=some u->h'.get? b=some u):Inv X Zi Z H { s with heap:=h',toks:=t' }:=I.un (Un.kept k) (I.AI.kept k)
theorem Inv.laid(I:Inv X Zi Z H s)(k:∀b u,s.heap.get? b=some u->h'.get? b=some u)(d:s.heap.objs.size<=a)(c:CL X.prog X.w (upd H a o) h' a o):
  Inv X Zi Z (upd H a o) { s with heap:=h',toks:=t' }:=I.un (Un.laid k d (I.AI.fresh d)) (I.AI.laid k d c)
theorem Inv.write{x e:Addr}(I:Inv X Zi Z H s)(c:N7 (H x))(d:e=x∨H e=some (.own x))(k:∀b u,b≠e->s.heap.get? b=some u->h'.get? b=some u)(HC:∃u,h'.get? e=some u)
  (a:CL X.prog X.w (upd H x o) h' x o):Inv X Zi Z (upd H x o) { s with heap:=h',toks:=t' }:=I.un (Un.write c d k HC) (I.AI.write c d k HC a)
theorem Inv.Za(I:Inv X Zi Z H s)(h:∀p∈ZX,s.heap.get? p.1=some p.2/\H p.1=none/\p.1≠X.env.locals/\p.1∉X.fs/\∀v,p.2.data≠.cell v):Inv X ZX Z H s:=
 ⟨I.ok,I.os,I.bare,I.base,I.loc,I.cell,I.free,I.Dy,λp a=>(List.mem_append.mp a).elim (λz=>I.pin p (Gz _ z)) (h p),I.AI,I.len⟩
theorem UJ(c:N.Nodup)(a:N[i]?=some x)(b:N[j]?=some x):i=j:=by
 obtain⟨h1,e⟩:=List.getElem?_eq_some_iff.mp a;obtain⟨h2,d⟩:=List.getElem?_eq_some_iff.mp b;exact(Mm c).mp (e.trans d.symm)
theorem Z9{Q:Unit->Shared->Prop}(I:Inv X Zi Z H s)(U:X.N.Nodup)(hi:X.N[i]?=some x)(hx:Loc X.env.scope x)(r:RelV v u)
  (h:∀s',Inv X Zi (Z.set i (some v)) H s'->(∃a,Heap.SameBut a s.heap s'.heap/\(a=X.env.locals∨X.env.cells.lookup x=some a))->Q () s') (hf:X.fn x=true∨X.env.scope.names.lookup x=some .local:=by first|exact .inl rfl|exact .inr rfl|assumption):wpAny M A (storeName X.env x u) Q E s:=by
 obtain⟨m,hn,T⟩:=id I.loc;have TU:(X.env.scope.kind == .class || (X.env.scope.kind == .module && X.env.locals != X.env.globals))=false:=by rw[I.ok.kind];rfl
 have hiσ:i<Z.length:=by rw[I.len];exact(List.getElem?_eq_some_iff.mp hi).1
 have FT:=I.FT;have g:∀{a:Addr}{h':Heap},(∃o,s.heap.get? a=some o/\H a=none)->Heap.SameBut a s.heap h'->Bk X.prog X.w H h':=λ{a h'}ha f b ob e=>by
  obtain⟨_,_,V⟩:=ha;refine(I.AI b ob e).HK (λc D t q=>(f.2 c ?_).trans q) (λ_ q=>q) λ_ _ q=>q;rintro rfl;rcases t with rfl|t
  .rw[V]at e;cases e
  .rw[V]at t;cases t
 rcases hx with hk|hk
 .refine wpAny_storeName_local hk hn (λh' Wv f=>?_) TU;obtain⟨oL,_,_,MS,_⟩:=id hn;refine h _ ⟨I.ok,I.os,I.bare,⟨λb o e n hb hx=>?_,λb o e n hb hx=>?_,I.base.free,λb o e hx=>?_,I.base.Gr,I.base.G2,I.base.Ge⟩,⟨_,Wv,λj y G l B P=>?_⟩,λy c e=>?_,I.free,I.Dy,λp O=>?_,g ⟨oL,MS,I.free⟩ f,by simpa using I.len⟩ ⟨_,f,.inl rfl⟩
  .exact(f.2 b (BL (Cr (Az e) I.ok.above))).trans (I.base.keep b o e n hb hx)
  .obtain⟨sl,l⟩:=I.base.slot b o e n hb hx;exact⟨sl,(f.2 b (BL (Cr (Az e) I.ok.above))).trans l⟩
  .obtain⟨o',l⟩:=I.base.there b o e hx;exact⟨o',(f.2 b (BL (Cr (Az e) I.ok.above))).trans l⟩
  .by_cases C:j=i
   .subst C;rw[hi]at l;cases l;rw[CH hiσ]at B;cases B;exact⟨u,r,.inl ⟨hk,by simp⟩⟩
   .rw[C4 (B0 C)]at B;obtain⟨J,K,q⟩:=T j y G l B P;refine⟨J,K,?_⟩;rcases q with⟨k,e⟩|⟨k,c,e,z⟩
    .refine .inl ⟨k,?_⟩;have:y≠x:=λe=>C (UJ U l (e▸hi));simp[this,e]
    .exact .inr ⟨k,c,e,z.sameBut f (FT y c e)⟩
  .obtain⟨D,z⟩:=I.cell y c e;exact⟨D,z.sameBut f (FT y c e)⟩
  .obtain⟨e,n,ne,L,d⟩:=I.pin p O;exact⟨(f.2 p.1 ne).trans e,n,ne,L,d⟩
 .have R:X.fn x=true:=by
   rcases hf with z|z
   .exact z
   .rw[z]at hk;cases hk
  obtain⟨c,t⟩:=I.ok.has x (.inl hk);obtain⟨D,z⟩:=I.cell x c t;refine wpAny_storeName_cell I.ok.kind hk t z (λh' GL f=>?_);obtain⟨S,W,uF⟩:=id z;refine h { s with heap:=h' } ⟨I.ok,I.os,I.bare,⟨λb o e n hb hx=>?_,λb o e n hb hx=>?_,I.base.free,λb o e hx=>?_,I.base.Gr,I.base.G2,I.base.Ge⟩,⟨m,hn.sameBut f (B0 (FT x c t)),λj y G l B P=>?_⟩,λy F e=>?_,I.free,I.Dy,λp O=>?_,g ⟨S,W,I.Dy x c t⟩ f,by simpa using I.len⟩ ⟨c,f,.inr t⟩
  .exact(f.2 b (BL (Cr (Az e) (I.ok.Jq x c R t)))).trans (I.base.keep b o e n hb hx)
  .obtain⟨sl,l⟩:=I.base.slot b o e n hb hx;exact⟨sl,(f.2 b (BL (Cr (Az e) (I.ok.Jq x c R t)))).trans l⟩
  .obtain⟨o',l⟩:=I.base.there b o e hx;exact⟨o',(f.2 b (BL (Cr (Az e) (I.ok.Jq x c R t)))).trans l⟩
  .by_cases C:j=i
   .subst C;rw[hi]at l;cases l;rw[CH hiσ]at B;cases B;exact⟨u,r,.inr ⟨.inl hk,c,t,GL⟩⟩
   .rw[C4 (B0 C)]at B;obtain⟨J,K,q⟩:=T j y G l B P;refine⟨J,K,?_⟩;rcases q with q|⟨k,F,e,z'⟩
    .exact .inl q
    .refine .inr ⟨k,F,e,z'.sameBut f ?_⟩;rintro rfl;exact C (UJ U l (I.ok.inj _ _ _ e t▸hi))
  .by_cases Y:F=c
   .subst Y;exact⟨_,GL⟩
   .obtain⟨w2,σ⟩:=I.cell y F e;exact⟨w2,σ.sameBut f Y⟩
  .obtain⟨e,n,ne,L,d⟩:=I.pin p O;refine⟨(f.2 p.1 ?_).trans e,n,ne,L,d⟩;intro q;rw[q,W]at e;have q':S=p.2:=BE e;exact d D (by rw[<- q'];exact uF)
theorem Xa{Q:Unit->Shared->Prop}(I:Inv X Zi Z H s)(b:X.N.Nodup)(hi:X.N[i]?=some x)(hx:Loc X.env.scope x)(r:RelV v u)
  (h:∀s',Inv X Zi (Z.set i (some v)) H s'->Q () s') (a:X.fn x=true∨X.env.scope.names.lookup x=some .local:=by first|exact .inl rfl|exact .inr rfl|assumption):wpAny M A (storeName X.env x u) Q E s:=
 Z9 I b hi hx r (λs' I' _=>h s' I') a
theorem Inv.ZCI(I:Inv X Zi Z H s)(ho:s'.os=s.os)(u:Un (Ci X.stack) ch H H' s.heap s'.heap)(AI:Bk X.prog X.w H' s'.heap)(a:AllBare s'.gens)
  (HN:∀b∈ch,(b∈X.ex∨X.s₀.heap.objs.size<=b)/\b≠X.env.locals/\(∀x c,X.env.cells.lookup x=some c->c≠b)/\∀p∈X.pn++Zi,p.1≠b):Inv X Zi Z H' s':=by
 obtain⟨h',g',d',t',o'⟩:=s';have e:o'=s.os:=ho;subst e;exact I.call (g':=g') (t':=t') (d':=d') u AI a HN
end
abbrev XK:=Value->Option Addr->Hp->Prop
abbrev St:=List (Option V)
variable{Z:St}
abbrev VK:=V->Hp->Prop
abbrev TE:=St->Hp->VK->Prop
variable{ta tb tc te:TE}
abbrev TT:=St->Hp->(Bool->Hp->Prop)->Prop
abbrev TA:=St->Hp->(List V->Hp->Prop)->Prop
structure Ends where
 nx:St->Hp->Prop
 rt:VK
 bk:St->Hp->Prop:=λ_ _=>False
 ct:St->Hp->Prop:=λ_ _=>False
abbrev TS:=Ends->St->Hp->Prop
def EP(X:Cx)(Zi:ZEX)(Z:St)(Q:VK)(u:Value)(s':Shared):Prop:=∃v H',Inv X Zi Z H' s'/\RelV v u/\Q v H'
def TP(X:Cx)(Zi:ZEX)(Z:St)(Q:Bool->Hp->Prop)(b:Bool)(s':Shared):Prop:=∃H',Inv X Zi Z H' s'/\Q b H'
def AP(X:Cx)(Zi:ZEX)(Z:St)(Q:List V->Hp->Prop)(us:List Value)(s':Shared):Prop:=∃vs H',Inv X Zi Z H' s'/\Vals vs us/\Q vs H'
def SP(X:Cx)(Zi:ZEX)(D:Ends)(f:Flow)(s':Shared):Prop:=
 match f with
 | .next=>∃ σ' H',Inv X Zi σ' H' s'/\D.nx σ' H'
 | .brk=>∃ σ' H',Inv X Zi σ' H' s'/\D.bk σ' H'
 | .cont=>∃ σ' H',Inv X Zi σ' H' s'/\D.ct σ' H'
 | .ret u=>∃v σ' H',Inv X Zi σ' H' s'/\RelV v u/\D.rt v H'
def PE(X:Cx)(e:Expr)(t:TE):Prop:=
 ∀(Zi:ZEX)(s:Shared)(Z:St)(H:Hp)(Q:VK),Inv X Zi Z H s->t Z H Q->wpAny (model X.prog X.w) X.A (eval e X.env) (EP X Zi Z Q) X.xe s
def PT(X:Cx)(e:Expr)(t:TT):Prop:=
 ∀(Zi:ZEX)(s:Shared)(Z:St)(H:Hp)(Q:Bool->Hp->Prop),Inv X Zi Z H s->t Z H Q->wpAny (model X.prog X.w) X.A (isTrue e X.env (eval e X.env)) (TP X Zi Z Q) X.xe s
def PW(X:Cx)(e:Expr)(t:TT):Prop:=
 ∀(a:Sem Value)(Zi:ZEX)(s:Shared)(Z:St)(H:Hp)(Q:Bool->Hp->Prop),Inv X Zi Z H s->t Z H Q->wpAny (model X.prog X.w) X.A (isTrue e X.env a) (TP X Zi Z Q) X.xe s
theorem PW.pt{t:TT}(h:PW X e t):PT X e t:=h _
def PA(X:Cx)(es:List Expr)(t:TA):Prop:=
 ∀(pos:Pos)(Zi:ZEX)(s:Shared)(Z:St)(H:Hp)(Q:List V->Hp->Prop),Inv X Zi Z H s->t Z H Q->wpAny (model X.prog X.w) X.A (spliced (backTo pos (starEach es X.env))) (AP X Zi Z Q) X.xe s
def PS(X:Cx)(st:Stmt)(t:TS):Prop:=
 ∀(Zi:ZEX)(s:Shared)(Z:St)(H:Hp)(D:Ends),Inv X Zi Z H s->t D Z H->wpAny (model X.prog X.w) X.A (exec st X.env) (SP X Zi D) X.xe s
def Cv(X:Cx)(st:List Stmt)(t:TS):Prop:=
 ∀(Zi:ZEX)(s:Shared)(Z:St)(H:Hp)(D:Ends),Inv X Zi Z H s->t D Z H->wpAny (model X.prog X.w) X.A (execs st X.env) (SP X Zi D) X.xe s
theorem AN{t:Sem α}{Q Q':α->Shared->Prop}(h:wpAny M A t Q E s)(b:∀a s,Q a s->Q' a s):wpAny M A t Q' E s:=ni h b λ_ _ x=>x
section
def BP(i:Nat):TE:=λZ H Q=>∃v,Z[i]?=some (some v)/\Q v H
def tC(v:V):TE:=λ_ H Q=>Q v H
def Gl(X:Cx)(x:Str):Prop:=X.env.kindOf x=some .globalImplicit
theorem Nv(I:Inv X Zi Z H s)(b:Gl X x)(a:X.mg x=some u)(h:Q u s)
  (hd:(x == ("__debug__":Str))=false:=by decide):wpAny (model X.prog X.w) X.A (eval (.Name x pos) X.env) Q E s:=
 ZD0 I.ok.kind b (Calls.loadGlobal_global (by rw[I.ok.glob];exact I.mod.glob.keeps I.bk) a h) hd
theorem J6(I:Inv X Zi Z H s)(b:Gl X x)(a:X.mg x=none)(hv:bootBuiltins x=some u)(h:Q u s)
  (hn:x ≠"__name__" := by decide) (hd:(x == ("__debug__":Str))=false:=by decide):wpAny (model X.prog X.w) X.A (eval (.Name x pos) X.env) Q E s:=by
 obtain⟨mb,h1,h2⟩:=I.mod.blt;exact ZD0 I.ok.kind b (Calls.loadGlobal_builtin (by rw[I.ok.glob];exact I.mod.glob.keeps I.bk) a (by rw[I.ok.blt];exact h1.keeps I.bk) ((h2 x hn).trans hv) h) hd
variable{a b:Expr}
def PC(X:Cx)(op:CmpOp)(a b:Expr)(t:TE):Prop:=
 ∀(Zi:ZEX)(s:Shared)(Z:St)(H:Hp)(Q:VK),Inv X Zi Z H s->t Z H Q->
  wpAny (model X.prog X.w) X.A (eval a X.env) (λv d=>wpAny (model X.prog X.w) X.A (eval b X.env) (λu c=>wpAny (model X.prog X.w) X.A (compareOp op v u) (EP X Zi Z Q) X.xe c) X.xe d) X.xe s
theorem oA(b:Expr)(h:op≠.In)(h2:op≠.NotIn):behindInMarks op b=false:=by
 have c:(op == CmpOp.In)=false:=by cases op <;> first|rfl|exact absurd rfl h
 have a:(op == CmpOp.NotIn)=false:=by cases op <;> first|rfl|exact absurd rfl h2
 cases b <;> simp[behindInMarks,c,a]
def tB(t:TE):TT:=λZ H Q=>t Z H λx H1=>∃c,x=.bl c/\Q c H1
theorem gX{t:TE}(h:PC X op a b t)(h1:behindInMarks op b=false:=by first|exact oA _ (by decide) (by decide)|rfl):PT X (.Compare a [op] [b] pos) (tB t):=by
 intro Zi s Z H Q I hw;refine wpAny_isTrue_Compare1 (AN (h Zi s Z H _ I hw) λv s1 h1=>AN h1 λu s2 h2=>AN h2 λc f⟨x,H1,I1,e,q1⟩=>?_) h1;obtain⟨d,rfl,q⟩:=q1;cases e;exact pj ⟨H1,I1,q⟩
variable{tA IE:TT}
def U6(t u:TT):TT:=λZ H Q=>t Z H λc H1=>if c=true then u Z H1 Q else Q false H1
def WI(t u:TT):TT:=λZ H Q=>t Z H λc H1=>if c=true then Q true H1 else u Z H1 Q
def Rn(t:TT):TT:=λZ H Q=>t Z H λc H1=>Q (!c) H1
def i7(ta tb:TE):TE:=λZ H Q=>ta Z H λx H1=>∃c,x=.bl c/\if c=true then tb Z H1 Q else Q (.bl false) H1
def gx(ta tb:TE):TE:=λZ H Q=>ta Z H λx H1=>∃c,x=.bl c/\if c=true then Q (.bl true) H1 else tb Z H1 Q
end
def AQ(K:ZEW)(H:Hp)(a:Addr)(xs:List V):Prop:=
 Rd H a (.lst xs)∨
  ∃(o:Obj)(A3:Array Value)(n:Nat),K.lookup a=some o/\o.cls=.type "list" /\ o.dict=none/\o.data=.seq A3 n/\A3.size<=sizeLine/\Vals xs A3.toList
def AD(K:ZEW)(H:Hp)(a:Addr)(xs:List V):Prop:=
 Rd H a (.tup xs)∨
  ∃(o:Obj)(A3:Array Value)(n:Nat),K.lookup a=some o/\o.cls=.type "tuple" /\ o.data=.seq A3 n/\A3.size<=sizeLine/\Vals xs A3.toList
noncomputable def rS:Value->Option V
 | .none=>some .A7
 | .bool b=>some (.bl b)
 | .int i _=>some (.int i)
 | .str x _=>some (.str x)
 | .bytes b _=>some (.GC b)
 | .float b _=>some (.OQ b)
 | .ref a=>some (.ref a)
 | .type n=>some (.ty n)
 |_=>none
theorem RelV.abs{x:V}(r:RelV x u):rS u=some x:=by
 cases x with
 |A7=>cases r;rfl
 |bl _=>cases r;rfl
 |int _=>obtain⟨t,rfl⟩:=r;rfl
 |str _=>obtain⟨t,rfl⟩:=r;rfl
 |GC _=>obtain⟨t,rfl⟩:=r;rfl
 |OQ _=>obtain⟨t,rfl⟩:=r;rfl
 |ref _=>cases r;rfl
 |ty _=>cases r;rfl
theorem RelV.inj{x y:V}{u:Value}(r:RelV x u)(q:RelV y u):x=y:=BE (r.abs.symm.trans q.abs)
theorem Vals.inj:∀{xs ys:List V}{us:List Value},Vals xs us->Vals ys us->xs=ys
 |_,_,_,.nil,.nil=>rfl
 |_,_,_,.cons r t,.cons r' t'=>by rw[r.inj r',Vals.inj t t']
section
variable{xs ys:List V}
theorem AQ.of{K:ZEW}(h:H a=some (.lst xs)):AQ K H a xs:=.inl (.inl h)
theorem AD.of{K:ZEW}(h:H a=some (.tup xs)):AD K H a xs:=.inl (.inl h)
theorem Inv.list(I:Inv X Zi Z H s)(h:AQ X.K H a xs):∃A3:List Value,Vals xs A3/\PlainL s.heap a A3.toArray/\xs.length<=sizeLine:=by
 rcases h with h|⟨o,A3,n,hk,hc,hd,hs,hz,r⟩
 .obtain⟨z,A3,n,r,e⟩:=h.ok I.AI;exact⟨A3,r,⟨_,n,e,rfl,rfl,rfl⟩,z⟩
 .refine⟨A3.toList,r,⟨o,n,I.EI a o hk,hc,hd,by simpa using hs⟩,?_⟩
  have e:=r.length;simp only[Fh]at e;omega
theorem Inv.tuple(I:Inv X Zi Z H s)(h:AD X.K H a xs):∃A3:List Value,Vals xs A3/\IsTup s.heap a A3.toArray/\xs.length<=sizeLine:=by
 rcases h with h|⟨o,A3,n,hk,hc,hs,hz,r⟩
 .obtain⟨z,A3,r,p⟩:=h.ok I.AI;exact⟨A3,r,p.1,z⟩
 .refine⟨A3.toList,r,⟨o,I.EI a o hk,hc,n,by simpa using hs⟩,?_⟩
  have e:=r.length;simp only[Fh]at e;omega
theorem Inv.iX(I:Inv X Zi Z H s)(h:AQ X.K H a xs)(h':AQ X.K H a ys):xs=ys:=by
 obtain⟨A3,r,⟨o,n,e,_,_,d⟩,_⟩:=I.list h;obtain⟨its',c,⟨o',f,b,_,_,d'⟩,_⟩:=I.list h';rw[e]at b;cases b;rw[d]at d';injection d' with d1 _
 have:A3=its':=by simpa using oW Array.toList d1
 subst this;exact r.inj c
theorem Inv.OB(I:Inv X Zi Z H s)(h:AD X.K H a xs)(h':AD X.K H a ys):xs=ys:=by
 obtain⟨A3,r,⟨o,e,_,n,d⟩,_⟩:=I.tuple h;obtain⟨its',c,⟨o',b,_,f,d'⟩,_⟩:=I.tuple h';rw[e]at b;cases b;rw[d]at d';injection d' with d1 _
 have:A3=its':=by simpa using oW Array.toList d1
 subst this;exact r.inj c
end
noncomputable abbrev Cx.Hn(X:Cx)(E:Value->Shared->Prop):Cx:={ X with xe:=E }
noncomputable abbrev Cx.NV(X:Cx):Cx:=X.Hn λ_ _=>False
theorem Cx.Ok.Hn(ok:X.Ok)(E:Value->Shared->Prop):(X.Hn E).Ok:=
 ⟨ok.mod,ok.kind,ok.glob,ok.blt,ok.above,ok.inj,ok.has,ok.Jq,ok.hd,ok.frames,ok.Hf,ok.LC,ok.bs,ok.G0,ok.K3,ok.K8,ok.ER,ok.HI⟩
theorem Cx.Ok.Jo(ok:(X.Hn E).Ok):X.Ok:=
 ⟨ok.mod,ok.kind,ok.glob,ok.blt,ok.above,ok.inj,ok.has,ok.Jq,ok.hd,ok.frames,ok.Hf,ok.LC,ok.bs,ok.G0,ok.K3,ok.K8,ok.ER,ok.HI⟩
section
theorem Inv.Hn(I:Inv X Zi Z H s)(E:Value->Shared->Prop):Inv (X.Hn E) Zi Z H s:=⟨I.ok.Hn E,I.os,I.bare,I.base,I.loc,I.cell,I.free,I.Dy,I.pin,I.AI,I.len⟩
theorem Inv.Jo(I:Inv (X.Hn E) Zi Z H s):Inv X Zi Z H s:=⟨I.ok.Jo,I.os,I.bare,I.base,I.loc,I.cell,I.free,I.Dy,I.pin,I.AI,I.len⟩
theorem SP.Jo{D:Ends}{f:Flow}(h:SP (X.Hn E) Zi D f s'):SP X Zi D f s':=by
 cases f with
 |next=>obtain⟨σ',H',I,q⟩:=h;exact⟨σ',H',I.Jo,q⟩
 |brk=>obtain⟨σ',H',I,q⟩:=h;exact⟨σ',H',I.Jo,q⟩
 |cont=>obtain⟨σ',H',I,q⟩:=h;exact⟨σ',H',I.Jo,q⟩
 |ret u=>obtain⟨v,σ',H',I,r,q⟩:=h;exact⟨v,σ',H',I.Jo,r,q⟩
theorem Cv.NV{st:List Stmt}{t:TS}(h:Cv X.NV st t):Cv X st t:=λZi s Z H D I hw=>
 ni (h Zi s Z H D (I.Hn _) hw) (λ_ _ q=>q.Jo) λ_ _ z=>False.elim z
variable{st:Stmt}{rest:List Stmt}{t u:TS}
def Tq:TS:=λD Z H=>D.nx Z H
def Mw(t u:TS):TS:=λD Z H=>t { D with nx:=u D } Z H
theorem y0(h1:PS X st t)(h2:Cv X rest u):Cv X (st::rest) (Mw t u):=by
 intro Zi s Z H D I h;refine wpAny_execs_cons (AN (h1 Zi s Z H { D with nx:=u D } I h) λf s1 q=>?_)
 cases f with
 |next=>
  obtain⟨σ',H',I',q⟩:=q;exact h2 Zi s1 σ' H' D I' q
 |ret v=>exact q
 |brk=>exact q
 |cont=>exact q
theorem mD(h1:PS X st t):Cv X [st] t:=by
 intro Zi s Z H D I h;refine wpAny_execs_cons (AN (h1 Zi s Z H D I h) λf s1 q=>?_);cases f with
 |next=>exact wO q
 |ret v=>exact q
 |brk=>exact q
 |cont=>exact q
theorem Inv.quiet(I:Inv X Zi Z H s):interactive X.env=false:=by simp[interactive,I.ok.kind]
def HG(te:TE):TS:=λD Z H=>te Z H λ_ H1=>D.nx Z H1
def Jm(te:TE):TS:=λD Z H=>te Z H D.rt
def P7(c:TT)(t u:TS):TS:=λD Z H=>c Z H λb H1=>if b=true then t D Z H1 else u D Z H1
def dY:TS:=λ_ _ _=>False
end
abbrev TG:=V->St->Hp->(St->Hp->Prop)->Prop
abbrev HD:=List V->St->Hp->(St->Hp->Prop)->Prop
def PG(X:Cx)(a:Expr)(t:TG):Prop:=
 ∀(Zi:ZEX)(s:Shared)(Z:St)(H:Hp)(v:V)(u:Value)(Q:St->Hp->Prop),Inv X Zi Z H s->RelV v u->t v Z H Q->
  wpAny (model X.prog X.w) X.A (assign a X.env u) (λ_ s'=>∃ σ' H',Inv X Zi σ' H' s'/\Q σ' H') X.xe s
def OK(X:Cx)(ts:List Expr)(t:HD):Prop:=
 ∀(Zi:ZEX)(s:Shared)(Z:St)(H:Hp)(vs:List V)(us:List Value)(Q:St->Hp->Prop),Inv X Zi Z H s->Vals vs us->t vs Z H Q->
  wpAny (model X.prog X.w) X.A (assignInOrder ((assignEach ts X.env).map (·.2)) us) (λ_ s'=>∃ σ' H',Inv X Zi σ' H' s'/\Q σ' H') X.xe s
abbrev Pw:=V->V->V->Hp->(Hp->Prop)->Prop
def Ua(X:Cx)(t:Pw):Prop:=
 ∀(Zi:ZEX)(s:Shared)(Z:St)(H:Hp)(o i v:V)(a b u:Value)(Q:Hp->Prop),Inv X Zi Z H s->RelV o a->RelV i b->RelV v u->t o i v H Q->
  wpAny (model X.prog X.w) X.A (setItem a b u) (λ_ s'=>∃H',Inv X Zi Z H' s'/\Q H') X.xe s
abbrev cV:=V->V->Hp->VK->Prop
def ra(X:Cx)(op:Operator)(t:cV):Prop:=
 ∀(Zi:ZEX)(s:Shared)(Z:St)(H:Hp)(x y:V)(v u:Value)(Q:VK),Inv X Zi Z H s->RelV x v->RelV y u->t x y H Q->
  wpAny (model X.prog X.w) X.A (inplaceOp op v u) (EP X Zi Z Q) X.xe s
def Dr(i:Nat):TG:=λv Z H Q=>Q (Z.set i (some v)) H
theorem Zj(b:X.N.Nodup)(hi:X.N[i]?=some x)(hx:Loc X.env.scope x)(a:X.fn x=true∨X.env.scope.names.lookup x=some .local:=by first|exact .inl rfl|exact .inr rfl|assumption):PG X (.Name x pos) (Dr i):=by
 intro Zi s Z H v u Q I r h;exact wpAny_assign_Name (Xa I b hi hx r (λs' I'=>⟨_,H,I',h⟩) a)
def X4:HD:=λvs Z H Q=>vs=[]/\Q Z H
def Qn(t:TG)(u:HD):HD:=λvs Z H Q=>∃v r,vs=v::r/\t v Z H λσ' H'=>u r σ' H' Q
def VO(K:ZEW)(n:Nat)(t:HD):TG:=λv Z H Q=>∃a xs,v=.ref a/\AD K H a xs/\xs.length=n/\t xs Z H Q
def iD(to ti:TE)(t:Pw):TG:=λv Z H Q=>to Z H λo H1=>ti Z H1 λi H2=>t o i v H2 λH3=>Q Z H3
def G9(te:TE)(g:TG):TS:=λD Z H=>te Z H λx H1=>g x Z H1 D.nx
def dy(f:Int->Int->Int):cV:=λx y H Q=>∃i j,x=.int i/\y=.int j/\Q (.int (f i j)) H
theorem V3:ra X .Add (dy λi j=>i+j):=by
 intro Zi s Z H x y v u Q I b a h;obtain⟨i,j,d,c,q⟩:=h;subst d;subst c;obtain⟨t,rfl⟩:=b;obtain⟨t',rfl⟩:=a;exact iadd_int ⟨.int _,H,I.tok _,⟨_,rfl⟩,q⟩
def gD(c:TT)(tb:TS):TS:=λD Z H=>∃W:Nat->St->Hp->Prop,(∃m,W m Z H)/\∀m Z H,W m Z H->
 c Z H λb H1=>if b=true then ∃N:St->Hp->Prop,(∀ σ' H',N σ' H'->∃a,a < m/\W a σ' H')/\tb { D with nx:=N,ct:=N,bk:=D.nx } Z H1 else D.nx Z H1
structure It where
 go:Nat->Hp->Prop
 G4:Nat->Hp->V->Hp->Prop
 stop:Nat->Hp->Prop
def Ds(X:Cx)(Zi:ZEX)(H:Hp)(b:Addr):Prop:=
 H b=none/\b≠X.env.locals/\b∉X.fs/\(b∈X.ex∨X.s₀.heap.objs.size<=b)/\(∀x c,X.env.cells.lookup x=some c->c≠b)/\∀p∈X.pn++Zi,p.1≠b
theorem Inv.Ly(I:Inv X Zi Z H s)(hb:s.heap.objs.size<=b)(hn:H' b=none):Ds X Zi H' b:=by
 refine⟨hn,JD (Cr I.lt hb),I.pM hb,.inr (CK I.sz hb),λx c e z=>?_,λp a z=>?_⟩
 .obtain⟨v,q⟩:=I.cell x c e;exact absurd (Cr q.lt (by rw[z];exact hb)) (LR _)
 .exact absurd (Cr (Az (I.pin p a).1) (by rw[z];exact hb)) (LR _)
structure Turn (P:Program) (w:World) (K:ZEW) (tg:Expr) (J:It) (fp:List Addr) (it:Addr) (tn:Nat->Heap->Prop):Prop where
 mem:it∈fp
 obj:∀i h,tn i h->∀b∈fp,∃o,h.get? b=some o/\∀v,o.data≠.cell v
 keep:∀i h h',tn i h->(∀b∈fp,∀o,h.get? b=some o->h'.get? b=some o)->tn i h'
 item:∀(X:Cx),X.prog=P->X.w=w->X.K=K->X.calm=true->∀(i:Nat)(Zi:ZEX)(s:Shared)(Z:St)(H:Hp)(E:Value->Shared->Prop),Inv X Zi Z H s->(∀b∈fp,Ds X Zi H b)->tn i s.heap->J.go i H->
  wpAny (model P w) X.A (pyNext (.ref it)) (λr s1=>∃u,r=some u/\
   wpAny (model P w) X.A (letOwnedTupleGo tg (.ref it) u) (λ_ s2=>∃x H',Inv X Zi Z H' s2/\RelV x u/\J.G4 i H x H'/\tn (i+1) s2.heap/\∀b∈fp,H' b=none) E s1) E s
 done:∀(X:Cx),X.prog=P->X.w=w->X.K=K->X.calm=true->∀(i:Nat)(Zi:ZEX)(s:Shared)(Z:St)(H:Hp)(E:Value->Shared->Prop),Inv X Zi Z H s->(∀b∈fp,Ds X Zi H b)->tn i s.heap->J.stop i H->
  wpAny (model P w) X.A (pyNext (.ref it)) (λr s1=>r=none/\Inv X Zi Z H s1) E s
 self:∀(A:Around)(i:Nat)(s:Shared)(Q:Value->Shared->Prop)(E:Value->Shared->Prop),tn i s.heap->Q (.ref it) s->wpAny (model P w) A (pyIter (.ref it)) Q E s
abbrev TI:=St->Hp->(It->Hp->Prop)->Prop
def j4(X:Cx)(Zi:ZEX)(Z:St)(tg:Expr)(R:It->Hp->Prop)(VL:Value)(s2:Shared):Prop:=
 ∃(it:Addr)(fp:List Addr)(tn:Nat->Heap->Prop)(J:It)(H':Hp),VL=.ref it/\Inv X Zi Z H' s2/\Turn X.prog X.w X.K tg J fp it tn/\tn 0 s2.heap/\(∀b∈fp,Ds X Zi H' b)/\R J H'
def PI(X:Cx)(tg iter:Expr)(wi:TI):Prop:=
 ∀(Zi:ZEX)(s:Shared)(Z:St)(H:Hp)(R:It->Hp->Prop),Inv X Zi Z H s->wi Z H R->
  wpAny (model X.prog X.w) X.A (eval iter X.env) (λv s1=>wpAny (model X.prog X.w) X.A (pyIter v) (j4 X Zi Z tg R) X.xe s1) X.xe s
theorem RM{o:Obj}{n:String}{vs:Array Value}{Q:Unit->Shared->Prop}(ho:s.heap.get? it=some o)(b:o.cls=.type n)(hd:o.data=.fields vs)
  (hn:["enumerate","zip","dict_itemiterator","dict_reverseitemiterator","odict_iterator","itertools.zip_longest","itertools.pairwise"].contains n=false) (a:Q () s):wpAny M A (letOwnedTupleGo tg (.ref it) u) Q E s:=by
 unfold letOwnedTupleGo;cases tg <;> first
  |exact kX a
  | (cases u <;> first
    |exact kX a
    | (
      refine kU (zc ho ?_);rw[b,hd];show wpAny M A (if(["enumerate","zip","dict_itemiterator","dict_reverseitemiterator","odict_iterator","itertools.zip_longest","itertools.pairwise"].contains n && vs[0]? == some (rawInt _))=true then _ else _) Q E s
      rw[km (by intro h;rw[hn,Bool.false_and]at h;cases h)];exact kX a))
def o7(K:ZEW)(a:Addr):It:=
 ⟨λi H=>∃xs x,AQ K H a xs/\xs[i]?=some x,λi H x H'=>H'=H/\∀xs,AQ K H a xs->xs[i]?=some x,λi H=>∃xs,AQ K H a xs/\xs.length<=i⟩
def yF(K:ZEW)(a:Addr):It:=
 ⟨λi H=>∃xs x,AD K H a xs/\xs[i]?=some x,λi H x H'=>H'=H/\∀xs,AD K H a xs->xs[i]?=some x,λi H=>∃xs,AD K H a xs/\xs.length<=i⟩
def KL(lo:Int)(n:Nat):It:=⟨λi _=>i<n,λi H x H'=>H'=H/\x=.int (lo+i),λi _=>n<=i⟩
theorem OC{P:Program}{K:ZEW}(a it:Addr):Turn P w K tg (o7 K a) [it] it (λi h=>h.IsListIter it a i) where
 mem:=by simp
 obj:=λi h st b hb=>by
  have e:b=it:=by simpa using hb
  subst e;obtain⟨o,e,c,d⟩:=st;exact⟨o,e,λv z=>by rw[d]at z;cases z⟩
 keep:=λi h h' st k=>st.at λo e=>k it (by simp) o e
 item:=by
  intro X m hw n A i Zi s Z H E I g st l;subst m hw n;obtain⟨xs,x,f,hx⟩:=l;obtain⟨A3,j,p,C⟩:=I.list f;obtain⟨u,F,B⟩:=j.get hx;obtain⟨f0,y,G,t,r,q⟩:=g it (by simp);refine wpAny_pyNext_list_item st p.isList (x:=u) (by simpa using F) λh' DA sb=>?_
  have J:Inv X Zi Z H { s with heap:=h' }:=I.turned (t':=s.toks) (λb o hb e=>(sb.2 b hb).trans e) f0 y t r q
  obtain⟨o,e,c,d⟩:=id DA;exact⟨u,rfl,RM (s:={ s with heap:=h' }) e c d (by decide) ⟨x,H,J,B,⟨rfl,λys D=>by rw[I.iX D f];exact hx⟩,DA,λb hb=>(g b hb).1⟩⟩
 done:=by
  intro X m hw n A i Zi s Z H E I g st l;subst m hw n;obtain⟨xs,f,hx⟩:=l;obtain⟨A3,j,p,C⟩:=I.list f;obtain⟨f0,y,G,t,r,q⟩:=g it (by simp);have L:=j.length;exact wpAny_pyNext_list_end (I.ok.hd A) st p.isList (by simp;omega) λh' eb=>⟨rfl,I.turned (t':=s.toks) (λb o hb e=>eb b o hb e) f0 y t r q⟩
 self:=λ_ _ _ _ _ st h=>wpAny_pyIter_listiter st h
theorem OZ{P:Program}{K:ZEW}(a it:Addr):Turn P w K tg (yF K a) [it] it (λi h=>h.IsTupleIter it a i) where
 mem:=by simp
 obj:=λi h st b hb=>by
  have e:b=it:=by simpa using hb
  subst e;obtain⟨o,e,c,d⟩:=st;exact⟨o,e,λv z=>by rw[d]at z;cases z⟩
 keep:=λi h h' st k=>st.at λo e=>k it (by simp) o e
 item:=by
  intro X m hw n A i Zi s Z H E I g st l;subst m hw n;obtain⟨xs,x,f,hx⟩:=l;obtain⟨A3,j,p,C⟩:=I.tuple f;obtain⟨u,F,B⟩:=j.get hx;obtain⟨f0,y,G,t,r,q⟩:=g it (by simp);refine wpAny_pyNext_tuple_item st (show s.heap.IsTuple a A3.toArray from p) (x:=u) (by simpa using F) λh' DA sb=>?_
  have J:Inv X Zi Z H { s with heap:=h' }:=I.turned (t':=s.toks) (λb o hb e=>(sb.2 b hb).trans e) f0 y t r q
  obtain⟨o,e,c,d⟩:=id DA;exact⟨u,rfl,RM (s:={ s with heap:=h' }) e c d (by decide) ⟨x,H,J,B,⟨rfl,λys D=>by rw[I.OB D f];exact hx⟩,DA,λb hb=>(g b hb).1⟩⟩
 done:=by
  intro X m hw n A i Zi s Z H E I g st l;subst m hw n;obtain⟨xs,f,hx⟩:=l;obtain⟨A3,j,p,C⟩:=I.tuple f;obtain⟨f0,y,G,t,r,q⟩:=g it (by simp);have L:=j.length;exact wpAny_pyNext_tuple_end (I.ok.hd A) st (show s.heap.IsTuple a A3.toArray from p) (by simp;omega) λh' eb=>⟨rfl,I.turned (t':=s.toks) (λb o hb e=>eb b o hb e) f0 y t r q⟩
 self:=λ_ _ _ _ _ st h=>wpAny_pyIter_tupleiter st h
theorem ZAn{P:Program}{K:ZEW}(it:Addr)(lo:Int)(n:Nat):Turn P w K tg (KL lo n) [it] it (λi h=>IsRangeIter h it (lo+(i:Nat) * 1) ((n:Int) - (i:Nat)) 1) where
 mem:=by simp
 obj:=λi h st b hb=>by
  have e:b=it:=by simpa using hb
  subst e;exact⟨_,st,λv z=>by
   have q:Data.fields _=Data.cell v:=z;cases q⟩
 keep:=λi h h' st k=>k it (by simp) _ st
 item:=by
  intro X f hw g d i Zi s Z H E I a st c;subst f hw g;obtain⟨f0,p,r,m,l,j⟩:=a it (by simp);have W:=Walks.range (prog:=X.prog) (w:=X.w) (I.ok.hd d) it lo 1 n;refine W.item i s _ _ c st λv h' tk hv DA kk=>?_;obtain⟨t,rfl⟩:=hv;have u:Inv X Zi Z H { s with heap:=h',toks:=tk }:=I.turned (λb o hb e=>kk b o (by simpa using hb) e) f0 p m l j
  refine⟨_,rfl,RM (s:={ s with heap:=h',toks:=tk }) (n:="range_iterator") DA rfl rfl (by decide) ⟨.int (lo+i),H,u,⟨t,?_⟩,⟨rfl,rfl⟩,DA,λb hb=>(a b hb).1⟩⟩
  rw[Int.mul_one]
 done:=by
  intro X f hw g d i Zi s Z H E I a st c;subst f hw g;obtain⟨f0,p,r,m,l,j⟩:=a it (by simp);exact wpAny_pyNext_range_end (I.ok.hd d) st (by have:n<=i:=c;omega) λh' eb=>⟨rfl,I.turned (t':=s.toks) (λb o hb e=>eb b o hb e) f0 p m l j⟩
 self:=λ_ _ _ _ _ st h=>wpAny_pyIter_rangeiter st h
theorem gN{R:It->Hp->Prop}{lo hi:Int}{t u v:Tok}(I:Inv X Zi Z H s)(h1:-(2 ^ 62)<=lo)(h2:lo<2 ^ 62)(d:-(2 ^ 62)<=hi)(c:hi<2 ^ 62)
  (q:R (KL lo (hi - lo).toNat) H):wpAny (model X.prog X.w) X.A (pyIter (.ref s.heap.objs.size)) (j4 X Zi Z tg R) E { s with heap:=s.heap.push { cls:=.type "range", data:=.fields #[.int lo t,.int hi u,.int 1 v] },toks:=tk }:=by
 refine wpAny_pyIter_range (IsRange.new ..) (small_one h1 h2 d c) ?_;have a:Inv X Zi Z H { s with heap:=s.heap.push { cls:=.type "range", data:=.fields #[.int lo t,.int hi u,.int 1 v] },toks:=tk }:=I.kept λb o e=>B7 _ e
 refine⟨(s.heap.push { cls:=.type "range", data:=.fields #[.int lo t,.int hi u,.int 1 v] }).objs.size,[(s.heap.push { cls:=.type "range", data:=.fields #[.int lo t,.int hi u,.int 1 v] }).objs.size],_,_,H,rfl,
  a.kept (t':=tk) λb o e=>B7 _ e,ZAn _ lo (hi - lo).toNat,?_,λb hb=>?_,q⟩
 .have g:lo+((0:Nat):Int) * 1=lo:=by simp
  have f:(((hi - lo).toNat:Nat):Int) - ((0:Nat):Int)=Builtin.Range.rangeSize lo hi 1:=by rw[rangeSize_one];split <;> omega
  show IsRangeIter _ _ (lo+((0:Nat):Int) * 1) ((((hi - lo).toNat:Nat):Int) - ((0:Nat):Int)) 1;rw[g,f];exact BM _ rfl
 .have e:b=(s.heap.push { cls:=.type "range", data:=.fields #[.int lo t,.int hi u,.int 1 v] }).objs.size:=by simpa using hb
  subst e;exact a.Ly (Ad _) (a.AI.fresh (Ad _))
def Xh(ta:TA):TI:=λZ H R=>ta Z H λvs H1=>∃j:Int,vs=[.int j]/\-(2 ^ 62)<=j/\j<2 ^ 62/\R (KL 0 j.toNat) H1
def Vk(ta:TA):TI:=λZ H R=>ta Z H λvs H1=>∃i j:Int,vs=[.int i,.int j]/\(-(2 ^ 62)<=i/\i<2 ^ 62/\-(2 ^ 62)<=j/\j<2 ^ 62)/\R (KL i (j - i).toNat) H1
def T1(wi:TI)(g:TG)(tb:TS):TS:=λD Z H=>wi Z H λJ H1=>∃W:Nat->Nat->St->Hp->Prop,(∃m,W 0 m Z H1)/\∀i m Z H,W i m Z H->
 (J.stop i H/\D.nx Z H)∨(J.go i H/\∃N:St->Hp->Prop,(∀ σ' H',N σ' H'->∃a,a < m/\W (i+1) a σ' H')/\∀x H',J.G4 i H x H'->g x Z H' λσ2 H2=>tb { D with nx:=N,ct:=N,bk:=D.nx } σ2 H2)
noncomputable def N2(fp:List Addr)(h:Heap):ZEX:=fp.filterMap λb=>(h.get? b).map λo=>(b,o)
theorem PB{h:Heap}{o:Obj}(hb:b∈fp)(e:h.get? b=some o):(b,o)∈N2 fp h:=List.mem_filterMap.mpr ⟨b,hb,by rw[e];rfl⟩
theorem uJ{h:Heap}{p:Addr×Obj}(a:p∈N2 fp h):p.1∈fp/\h.get? p.1=some p.2:=by
 obtain⟨b,hb,e⟩:=List.mem_filterMap.mp a;cases q:h.get? b with
 |none=>rw[q]at e;cases e
 |some o=>
  rw[q]at e;have c:(b,o)=p:=BE e;subst c;exact⟨hb,q⟩
theorem Inv.pinned(I:Inv X Zi Z H s)(f:∀b∈fp,Ds X Zi H b)(ho:∀b∈fp,∃o,s.heap.get? b=some o/\∀v,o.data≠.cell v):Inv X (Zi++N2 fp s.heap) Z H s:=
 I.Za λp c=>(List.mem_append.mp c).elim (λz=>I.pin p (El _ z)) λz=>by
  obtain⟨hb,e⟩:=uJ z;obtain⟨f0,h,g,_⟩:=f p.1 hb;obtain⟨o,a,d⟩:=ho p.1 hb;rw[e]at a;cases a;exact⟨e,f0,h,g,d⟩
theorem Inv.Mz{pl:ZEX}(I:Inv X (Zi++pl) Z H s):Inv X Zi Z H s:=I.Za λp a=>I.pin p (El _ (Gz _ a))
theorem uG{lo:Int}{g:TG}{tb:TS}{D:Ends}(Pv:Nat->St->Hp->Prop)(f:Pv 0 Z H)
  (d:∀i Z H,i<n->Pv i Z H->g (.int (lo+i)) Z H λσ2 H2=>tb { D with nx:=Pv (i+1),ct:=Pv (i+1),bk:=D.nx } σ2 H2) (hd:∀ Z H,Pv n Z H->D.nx Z H) :
  ∃W:Nat->Nat->St->Hp->Prop,(∃m,W 0 m Z H)/\∀i m Z H,W i m Z H->
   ((KL lo n).stop i H/\D.nx Z H)∨((KL lo n).go i H/\∃N:St->Hp->Prop,(∀ σ' H',N σ' H'->∃b,b < m/\W (i+1) b σ' H')/\∀x H',(KL lo n).G4 i H x H'->g x Z H' λσ2 H2=>tb { D with nx:=N,ct:=N,bk:=D.nx } σ2 H2):=by
 refine⟨λi m Z H=>m=n - i/\i<=n/\Pv i Z H,⟨n,by simp,C1 _,f⟩,?_⟩;rintro i m Z H⟨rfl,hi,p⟩
 by_cases a:i<n
 .refine .inr ⟨a,Pv (i+1),λσ' H' c=>⟨n - (i+1),by omega,rfl,a,c⟩,λx H' y=>?_⟩;obtain⟨e,y⟩:=y;subst e y;exact d i Z _ a p
 .have e:i=n:=by omega
  subst e;exact .inl ⟨Ad _,hd Z H p⟩
abbrev R2:=V->V->Hp->VK->Prop
def BH(X:Cx)(f:Value->Value->Sem Value)(r:R2):Prop:=
 ∀(Zi:ZEX)(s:Shared)(Z:St)(H:Hp)(x y:V)(v u:Value)(Q:VK),Inv X Zi Z H s->RelV x v->RelV y u->r x y H Q->
  wpAny (model X.prog X.w) X.A (f v u) (EP X Zi Z Q) X.xe s
def DI(X:Cx)(f:Value)(r:List V->Hp->VK->Prop):Prop:=
 ∀(Zi:ZEX)(s:Shared)(Z:St)(H:Hp)(xs:List V)(us:List Value)(Q:VK),Inv X Zi Z H s->Vals xs us->r xs H Q->
  wpAny (model X.prog X.w) X.A (call f us) (EP X Zi Z Q) X.xe s
def Bn(r:R2)(ta tb:TE):TE:=λZ H Q=>ta Z H λx H1=>tb Z H1 λy H2=>r x y H2 Q
def rI(C:Int->Int->Prop)(g:Int->Int->V):R2:=λx y H Q=>∃i j,x=.int i/\y=.int j/\C i j/\Q (g i j) H
def Hj(g:Int->Int->V):R2:=λx y H Q=>∃i j,x=.int i/\y=.int j/\Q (g i j) H
section
variable{a b c:Expr}
theorem XS(ha:PE X a ta)(hb:PE X b tb){R:V->V->Hp->Prop}(I:Inv X Zi Z H s)
  (h:ta Z H λx H1=>tb Z H1 λy H2=>R x y H2)
  (i:∀v u s2 x y H2,Inv X Zi Z H2 s2->RelV x v->RelV y u->R x y H2->wpAny (model X.prog X.w) X.A (f v u) Q X.xe s2) :
  wpAny (model X.prog X.w) X.A (eval a X.env) (λv d=>wpAny (model X.prog X.w) X.A (eval b X.env) (λu c=>wpAny (model X.prog X.w) X.A (f v u) Q X.xe c) X.xe d) X.xe s:=by
 refine AN (ha Zi s Z H _ I h) λv s1 NX=>?_;obtain⟨x,H1,I1,g,q1⟩:=NX;refine AN (hb Zi s1 Z H1 _ I1 q1) λu s2 Vy=>?_;obtain⟨y,H2,I2,e,q2⟩:=Vy;exact i v u s2 x y H2 I2 g e q2
theorem RK{C:Int->Int->Prop}{g:Int->Int->Int}
  (rule:∀(i j:Int)(t u:Tok)(s:Shared)(Q:Value->Shared->Prop)(E:Value->Shared->Prop),C i j->Q (.int (g i j) s.toks) { s with toks:=s.toks+1 }->wpAny (model X.prog X.w) X.A (f (.int i t) (.int j u)) Q E s) :
  BH X f (rI C λi j=>.int (g i j)):=by
 intro Zi s Z H x y v u Q I b a h;obtain⟨i,j,rfl,rfl,c,q⟩:=h;obtain⟨t,rfl⟩:=b;obtain⟨t',rfl⟩:=a;exact rule i j t t' s _ _ c ⟨.int (g i j),H,I.tok _,⟨_,rfl⟩,q⟩
theorem iC{g:Int->Int->Int}
  (rule:∀(i j:Int)(t u:Tok)(s:Shared)(Q:Value->Shared->Prop)(E:Value->Shared->Prop),Q (.int (g i j) s.toks) { s with toks:=s.toks+1 }->wpAny (model X.prog X.w) X.A (f (.int i t) (.int j u)) Q E s) :
  BH X f (Hj λi j=>.int (g i j)):=by
 intro Zi s Z H x y v u Q I b a h;obtain⟨i,j,rfl,rfl,q⟩:=h;obtain⟨t,rfl⟩:=b;obtain⟨t',rfl⟩:=a;exact rule i j t t' s _ _ ⟨.int (g i j),H,I.tok _,⟨_,rfl⟩,q⟩
theorem Ql{g:Int->Int->Bool}
  (rule:∀(i j:Int)(t u:Tok)(s:Shared)(Q:Value->Shared->Prop)(E:Value->Shared->Prop),Q (.bool (g i j)) s->wpAny (model X.prog X.w) X.A (f (.int i t) (.int j u)) Q E s) :
  BH X f (Hj λi j=>.bl (g i j)):=by
 intro Zi s Z H x y v u Q I b a h;obtain⟨i,j,rfl,rfl,q⟩:=h;obtain⟨t,rfl⟩:=b;obtain⟨t',rfl⟩:=a;exact rule i j t t' s _ _ ⟨.bl (g i j),H,I,rfl,q⟩
def vo(i j:Int):Prop:=0<=j/\j<=1000000/\i.natAbs<2 ^ 64
theorem Ew:BH X (binaryOp .Add) (Hj λi j=>.int (i+j)):=iC λ_ _ _ _ _ _ _ q=>add_int q
theorem Xy:BH X (binaryOp .Sub) (Hj λi j=>.int (i - j)):=iC λ_ _ _ _ _ _ _ q=>sub_int q
theorem K0:BH X (binaryOp .Mod) (rI (λ_ j=>0<j) λi j=>.int (i % j)):=RK λi j _ _ _ _ _ a q=>by
 have h1:(0:Int)<j:=a;exact mod_int' (by omega) (by rw[Int.fmod_eq_emod_of_nonneg i (by omega)];exact q)
theorem MH:BH X (binaryOp .Pow) (rI vo λi j=>.int (i ^ j.toNat)):=RK λ_ _ _ _ _ _ _ a q=>pow_int_small a.1 a.2.1 a.2.2 q
end
noncomputable def UA:V->V->Bool
 | .A7,.A7=>true | .A7,.int _=>true | .int _,.A7=>true | .A7,.bl _=>true | .bl _,.A7=>true | .A7,.str _=>true | .str _,.A7=>true
 | .int _,.int _=>true | .bl _,.bl _=>true | .str _,.str _=>true | .GC _,.GC _=>true
 | .int _,.str _=>true | .str _,.int _=>true | .bl _,.str _=>true | .str _,.bl _=>true
 |_,_=>false
def dw:R2:=λx y H Q=>UA x y=true/\Q (.bl (decide (x=y))) H
def eW:R2:=λx y H Q=>UA x y=true/\Q (.bl (!decide (x=y))) H
theorem dH{i j:Int}:decide (V.int i=V.int j)=(i == j):=by
 rw[Mh];simp
theorem ZR{i j:Bool}:decide (V.bl i=V.bl j)=(i == j):=by
 rw[Mh];simp
theorem fi{i j:Str}:decide (V.str i=V.str j)=(i == j):=by
 rw[Mh];simp
theorem cn{i j:Array UInt8}:decide (V.GC i=V.GC j)=(i.toList == j.toList):=by
 rw[Mh];cases i;cases j;simp
section
variable{a b c:Expr}
theorem Bi{Q:VK}{k k':Bool}(I:Inv X Zi Z H s)(q:Q (.bl k) H)(e:k=k'):EP X Zi Z Q (.bool k') s:=by
 subst e;exact⟨.bl k,H,I,rfl,q⟩
theorem BX:BH X (compareOp .Eq) dw:=by
 intro Zi s Z H x y v u Q I c a h;obtain⟨b,q⟩:=h;cases x with
 |A7=>
  cases c;cases y with
  |A7=>cases a;exact PySem.EqNone.eq_none_none (Bi I q (by simp))
  |bl j=>cases a;exact PySem.EqNone.eq_none_bool (Bi I q (by simp))
  |int j=>obtain⟨t',rfl⟩:=a;exact PySem.EqNone.eq_none_int (Bi I q (by simp))
  |str j=>obtain⟨t',rfl⟩:=a;exact PySem.EqNone.eq_none_str (Bi I q (by simp))
  |_=>exact absurd (show false=true from b) CZ
 |bl i=>
  cases c;cases y with
  |A7=>cases a;exact PySem.EqNone.eq_bool_none (Bi I q (by simp))
  |bl j=>cases a;exact eq_bool (Bi I q ZR)
  |str j=>obtain⟨t',rfl⟩:=a;exact PySem.EqMixed.eq_bool_str (Bi I q (by simp))
  |_=>exact absurd (show false=true from b) CZ
 |int i=>
  obtain⟨t,rfl⟩:=c;cases y with
  |A7=>cases a;exact PySem.EqNone.eq_int_none (Bi I q (by simp))
  |int j=>obtain⟨t',rfl⟩:=a;exact eq_int (Bi I q dH)
  |str j=>obtain⟨t',rfl⟩:=a;exact PySem.EqMixed.eq_int_str (Bi I q (by simp))
  |_=>exact absurd (show false=true from b) CZ
 |str i=>
  obtain⟨t,rfl⟩:=c;cases y with
  |A7=>cases a;exact PySem.EqNone.eq_str_none (Bi I q (by simp))
  |bl j=>cases a;exact PySem.EqMixed.eq_str_bool (Bi I q (by simp))
  |int j=>obtain⟨t',rfl⟩:=a;exact PySem.EqMixed.eq_str_int (Bi I q (by simp))
  |str j=>obtain⟨t',rfl⟩:=a;exact eq_str (Bi I q fi)
  |_=>exact absurd (show false=true from b) CZ
 |GC i=>
  obtain⟨t,rfl⟩:=c;cases y with
  |GC j=>obtain⟨t',rfl⟩:=a;exact PySem.W.eq_bytes (Bi I q cn)
  |_=>exact absurd (show false=true from b) CZ
 |_=>cases y <;> exact absurd (show false=true from b) CZ
theorem Y9:BH X (compareOp .NotEq) eW:=by
 intro Zi s Z H x y v u Q I c a h;obtain⟨b,q⟩:=h;cases x with
 |A7=>
  cases c;cases y with
  |A7=>cases a;exact PySem.EqNone.ne_none_none (Bi I q (by simp))
  |bl j=>cases a;exact PySem.EqNone.ne_none_bool (Bi I q (by simp))
  |int j=>obtain⟨t',rfl⟩:=a;exact PySem.EqNone.ne_none_int (Bi I q (by simp))
  |str j=>obtain⟨t',rfl⟩:=a;exact PySem.EqNone.ne_none_str (Bi I q (by simp))
  |_=>exact absurd (show false=true from b) CZ
 |bl i=>
  cases c;cases y with
  |A7=>cases a;exact PySem.EqNone.ne_bool_none (Bi I q (by simp))
  |bl j=>cases a;exact ne_bool (Bi I q (oW not ZR))
  |str j=>obtain⟨t',rfl⟩:=a;exact PySem.EqMixed.ne_bool_str (Bi I q (by simp))
  |_=>exact absurd (show false=true from b) CZ
 |int i=>
  obtain⟨t,rfl⟩:=c;cases y with
  |A7=>cases a;exact PySem.EqNone.ne_int_none (Bi I q (by simp))
  |int j=>obtain⟨t',rfl⟩:=a;exact ne_int (Bi I q (oW not dH))
  |str j=>obtain⟨t',rfl⟩:=a;exact PySem.EqMixed.ne_int_str (Bi I q (by simp))
  |_=>exact absurd (show false=true from b) CZ
 |str i=>
  obtain⟨t,rfl⟩:=c;cases y with
  |A7=>cases a;exact PySem.EqNone.ne_str_none (Bi I q (by simp))
  |bl j=>cases a;exact PySem.EqMixed.ne_str_bool (Bi I q (by simp))
  |int j=>obtain⟨t',rfl⟩:=a;exact PySem.EqMixed.ne_str_int (Bi I q (by simp))
  |str j=>obtain⟨t',rfl⟩:=a;exact ne_str (Bi I q (oW not fi))
  |_=>exact absurd (show false=true from b) CZ
 |GC i=>
  obtain⟨t,rfl⟩:=c;cases y with
  |GC j=>obtain⟨t',rfl⟩:=a;exact PySem.W.ne_bytes (Bi I q (oW not cn))
  |_=>exact absurd (show false=true from b) CZ
 |_=>cases y <;> exact absurd (show false=true from b) CZ
theorem HY:BH X (compareOp .Lt) (Hj λi j=>.bl (decide (i<j))):=Ql λ_ _ _ _ _ _ _ q=>lt_int q
theorem Gp:BH X (compareOp .LtE) (Hj λi j=>.bl (decide (i<=j))):=Ql λ_ _ _ _ _ _ _ q=>le_int q
theorem OY:BH X (compareOp .Gt) (Hj λi j=>.bl (decide (j<i))):=Ql λ_ _ _ _ _ _ _ q=>gt_int q
theorem RJ:BH X (compareOp .GtE) (Hj λi j=>.bl (decide (j<=i))):=Ql λ_ _ _ _ _ _ _ q=>ge_int q
theorem kl:BH X (compareOp .In) (λx y H Q=>∃i j,x=.str i/\y=.str j/\Q (.bl (!(Builtin.Str.occurrences j i 0 j.length 1).isEmpty)) H):=by
 intro Zi s Z H x y v u Q I b a h;obtain⟨i,j,rfl,rfl,q⟩:=h;obtain⟨t,rfl⟩:=b;obtain⟨t',rfl⟩:=a;exact in_str (Bi I q rfl)
theorem ZB5:BH X (compareOp .Is) (λx y H Q=>y=.A7/\Q (.bl (decide (x=.A7))) H):=by
 intro Zi s Z H x y v u Q I a b h;obtain⟨rfl,q⟩:=h;cases b;refine is_none_gen (Bi I q ?_);cases x <;> first
  | (cases a;rfl)
  | (obtain⟨t,rfl⟩:=a;rfl)
theorem i4:BH X (compareOp .IsNot) (λx y H Q=>y=.A7/\Q (.bl (!decide (x=.A7))) H):=by
 intro Zi s Z H x y v u Q I a b h;obtain⟨rfl,q⟩:=h;cases b;refine isnot_none_gen (Bi I q ?_);cases x <;> first
  | (cases a;rfl)
  | (obtain⟨t,rfl⟩:=a;rfl)
theorem eN(b:Expr)(h:op≠.In:=by decide)(h2:op≠.NotIn:=by decide):behindInMarks op b=false:=by
 have c:(op == CmpOp.In)=false:=by cases op <;> first|rfl|exact absurd rfl h
 have a:(op == CmpOp.NotIn)=false:=by cases op <;> first|rfl|exact absurd rfl h2
 cases b <;> simp[behindInMarks,c,a]
def MV(t:TE):TT:=λZ H Q=>t Z H λx H'=>∃k,x=.bl k/\Q k H'
theorem qx{r:R2}(ho:BH X (compareOp op) r)(ha:PE X a ta)(hb:PE X b tb)(i:behindInMarks op b=false):PT X (.Compare a [op] [b] pos) (MV (Bn r ta tb)):=by
 intro Zi s Z H Q I h;refine wpAny_isTrue_Compare1 (AN (ha Zi s Z H _ I h) λv s1⟨x,H1,I1,g,q1⟩=>AN (hb Zi s1 Z H1 _ I1 q1) λu s2⟨y,H2,I2,f,q2⟩=>
  AN (ho Zi s2 Z H2 x y v u _ I2 g f q2) λc j⟨z,H3,I3,d,k,e,q3⟩=>?_) i
 subst e;cases d;exact pj ⟨H3,I3,q3⟩
def Qb(r b:R2)(ta tb tc:TE):TE:=λZ H Q=>ta Z H λx H1=>tb Z H1 λy H2=>r x y H2 λz H3=>∃k,z=.bl k/\
 (if k=true then tc Z H3 λa H4=>b y a H4 Q else Q (.bl false) H3)
theorem Kq:(sizeLine:Nat)<2 ^ 63:=by rw[sizeLine_eq];decide
theorem cq:BH X (binaryOp .Add) (λx y H Q=>∃i j,x=.str i/\y=.str j/\i.length+j.length<=sizeLine/\Q (.str (i++j)) H):=by
 intro Zi s Z H x y v u Q I b a h;obtain⟨i,j,rfl,rfl,c,q⟩:=h;obtain⟨t,rfl⟩:=b;obtain⟨t',rfl⟩:=a;exact add_str (λt' tk=>⟨.str (i++j),H,I.tok _,⟨_,rfl⟩,q⟩) c
theorem vals1{x:V}(r:Vals [x] us):∃u,us=[u]/\RelV x u:=by
 cases r with
 |cons b a=>cases a;exact⟨_,rfl,b⟩
theorem vals2{x:V}(r:Vals [x,y] us):∃u a,us=[u,a]/\RelV x u/\RelV y a:=by
 cases r with
 |cons e d=>
  cases d with
  |cons c b=>cases b;exact⟨_,_,rfl,e,c⟩
theorem ZAd(b:X.calm=true):DI X (.builtin "max") (λxs H Q=>∃i j,xs=[.int i,.int j]/\Q (.int (if j > i then j else i)) H):=by
 intro Zi s Z H xs us Q I r h;obtain⟨i,j,rfl,q⟩:=h;obtain⟨u,c,rfl,⟨t,rfl⟩,⟨t',rfl⟩⟩:=vals2 r;refine max_two_ints (I.ok.hd b) λh' tk k=>⟨_,H,I.kept k,?_,q⟩
 by_cases a:j > i
 .rw[kz a,kz a];exact⟨_,rfl⟩
 .rw[km a,km a];exact⟨_,rfl⟩
theorem qD(b:X.calm=true):DI X (.builtin "min") (λxs H Q=>∃i j,xs=[.int i,.int j]/\Q (.int (if j<i then j else i)) H):=by
 intro Zi s Z H xs us Q I r h;obtain⟨i,j,rfl,q⟩:=h;obtain⟨u,c,rfl,⟨t,rfl⟩,⟨t',rfl⟩⟩:=vals2 r;refine min_two_ints (I.ok.hd b) λh' tk k=>⟨_,H,I.kept k,?_,q⟩
 by_cases a:j<i
 .rw[kz a,kz a];exact⟨_,rfl⟩
 .rw[km a,km a];exact⟨_,rfl⟩
theorem e7:DI X (.type "int") (λxs H Q=>(∃i,xs=[.int i]/\Q (.int i) H)∨∃k,xs=[.bl k]/\Q (.int (if k then 1 else 0)) H):=by
 intro Zi s Z H xs us Q I r h;rcases h with⟨i,rfl,q⟩|⟨k,rfl,q⟩
 .obtain⟨u,rfl,t,rfl⟩:=vals1 r;exact call_int_int ⟨.int i,H,I,⟨_,rfl⟩,q⟩
 .obtain⟨u,rfl,a⟩:=vals1 r;cases a;exact call_int_bool ⟨.int (if k then 1 else 0),H,I.tok _,⟨_,rfl⟩,q⟩
end
structure KI (h:Heap) (x dx C:Addr) (mA:ZEY):Prop where
 obj:h.get? x=some (PySem.W.instObj C dx)
 ns:h.Ns1 dx mA
 ne:dx≠x
theorem j9{h:Heap}(n:h.Ns1 dx mA):∃od,h.get? dx=some od/\∀name,PySem.W.lookIn name od=some (mA name):=by
 obtain⟨o,es,ep,ho,hd,hk,_,c⟩:=n;refine⟨o,ho,λname=>?_⟩;have e:=c name;unfold nsFind findBy at e;rw[<- Array.find?_toList]at e;unfold PySem.W.lookIn;rw[hd];dsimp only;split
 .rename_i y q;rw[q]at e;exact oW some e
 .rename_i q;rw[q]at e;have a:es.toList.any (·.refKey)=false:=by
   rw[ZD7];intro y b;obtain⟨z,t,NH⟩:=hk y (Array.mem_toList_iff.mp b);simp[DictEntry.refKey,NH]
  have d:¬ es.toList.any (·.refKey)=true:=by rw[a];exact CZ
  rw[km d];exact oW some e
theorem KI.look{h:Heap}{x:Addr}(I:KI h x dx C mA):∃od,PySem.W.InstAt h x (PySem.W.instObj C dx) C (some od)/\∀name,PySem.W.lookIn name od=some (mA name):=
 let ⟨od,ho,hl⟩:=j9 I.ns
 ⟨od,⟨I.obj,rfl,rfl,ho⟩,hl⟩
section
variable{K:ZEW}{x f:Addr}{v:Value}
theorem get_map{expr:Bool}(X:K.In s.heap)(I:KI s.heap x dx C mA)(b:PySem.W.plainGet K C name=true)(hh:PySem.W.hasDictIn K C=true)
  (ha:PySem.W.findIn K (.ref C) name=some none) (hv:mA name=some v) (EC:PySem.W.handedIn v=true) (h:Q v { s with toks:=s.toks+1 }) :
  wpAny (model prog w) A (getAttr (.ref x) name expr) Q E s:=by
 obtain⟨od,J,a⟩:=I.look;exact PySem.W.get_value X J (k8 b).1 (ZDe hh ha rfl (by rw[a,hv])) EC h
theorem uV{Q:Value×List Value->Shared->Prop}(X:K.In s.heap)(I:KI s.heap x dx C mA)(a:PySem.W.plainGet K C name=true)
  (d:PySem.W.findIn K (.ref C) name=some (some (.ref f))) (b:PySem.W.isFn K (.ref f)=true) (hv:mA name=none) (h:Q (.ref f,[.ref x]) s) :
  wpAny (model prog w) A (getMethod (.ref x) name pl) Q E s:=by
 obtain⟨od,J,c⟩:=I.look;exact PySem.W.method_fn X J (k8 a).1 (k8 a).2 d (beq_iff_eq.mp b) (by show(PySem.W.lookIn name od).map (·.isSome)=some false;rw[c,hv];rfl) h
theorem u9{Q:Unit->Shared->Prop}(X:K.In s.heap)(I:KI s.heap x dx C mA)
  (g:PySem.W.findIn K (.ref C) "__setattr__"=some (some (.builtin "object.__setattr__"))) (i:PySem.W.plainOver K C=true) (f:PySem.W.takerIn K C name=some none) (hh:PySem.W.hasDictIn K C=true)
  (hw:PySem.Within mA ns) (hsz:ns.length<=sizeLine)
  (h:∀h',KI h' x dx C (λy=>if y=name then some v else mA y)->Heap.SameBut dx s.heap h'->Q () { s with heap:=h',toks:=s.toks+2 }) :
  wpAny (model prog w) A (setAttr (.ref x) name v) Q E s:=by
 obtain⟨od,J,n⟩:=I.look;refine PySem.W.set_plain X J g (PySem.W.osa_open (s:={ s with toks:=s.toks+1 }) (r:=none) X J i f λb=>?_)
 obtain⟨cd,j,HR⟩:=PySem.W.any_some hh;have hx:s.heap.get? x=some ⟨.ref C,some dx,.plain,#[]⟩:=I.obj;refine kU (kX (kU (kU (wpAny_loadPart hx (kU (PySem.W.Looks.here (s:={ s with toks:=s.toks+1 }) (PySem.W.looks_clsIn X j) ?_))))))
 rw[HR];refine kX (a:=some dx) (kU (kX (kU ?_)));refine wpAny_nsSet1 (s:={ s with toks:=s.toks+1 }) I.ns λh' R5 CB=>?_
 obtain⟨m,k,l,c,e,d⟩:=R5.count (PySem.Within.cons name v hw);refine kU (wpAny_lookBehind c (by rw[e];exact pastItsLine_dict (CK d (by rw[Bw];omega))) ?_);exact kX (h _ ⟨(CB.2 _ (B0 I.ne)).trans I.obj,R5,I.ne⟩ CB)
theorem ZBY{R:Result->Shared->Prop}{vs:List Value}(X:K.In s.heap)(a:PySem.W.makesIn K C=true)
  (hi:PySem.W.findIn K (.ref C) "__init__"=some (some (.ref f))) (b:PySem.W.typeIn K (.ref f)=some (.type "function"))
  (h:codeAny (model prog w) (A.under (.builtin "type.__call__" ⟨.ref C::vs,kw⟩)) (.call (.ref f) ⟨.ref (s.heap.objs.size+1)::vs,kw⟩) (PySem.W.InitBack (s.heap.objs.size+1) R)
   { s with heap:=(s.heap.push PySem.W.emptyDict).push (PySem.W.instObj C s.heap.objs.size) }) :
  codeAny (model prog w) A (.call (.ref C) ⟨vs,kw⟩) R s:=by
 obtain⟨hh,g,d,t,os⟩:=s;exact PySem.W.make_core (PySem.W.makes_of X a) (k7 X hi) (λself=>PySem.W.bind_fn X self b) (.inl rfl) h
end
noncomputable def Ct(f:Str)(v:V):List (Str×V)->List (Str×V)
 | []=>[(f,v)]
 | (g,x)::r=>if g=f then(g,v)::r else(g,x)::Ct f v r
theorem aM(f g:Str)(v:V):∀fs:List (Str×V),(Ct f v fs).lookup g=if g=f then some v else fs.lookup g
 | []=>by
  show List.lookup g [(f,v)]=_
  by_cases h:g=f
  .have hb:(g == f)=true:=beq_iff_eq.mpr h;simp only[List.lookup,hb,kz h]
  .have hb:(g == f)=false:=beq_eq_false_iff_ne.mpr h;simp only[List.lookup,hb,km h]
 | (k,x)::r=>by
  have a:=aM f g v r;rw[show Ct f v ((k,x)::r)=(if k=f then(k,v)::r else(k,x)::Ct f v r)from rfl]
  by_cases hk:k=f
  .rw[kz hk]
   by_cases h:g=k
   .have hb:(g == k)=true:=beq_iff_eq.mpr h;simp only[List.lookup,hb,kz (h.trans hk)]
   .have hb:(g == k)=false:=beq_eq_false_iff_ne.mpr h;simp only[List.lookup,hb,km (λe:g=f=>h (e.trans hk.symm))]
  .rw[km hk]
   by_cases h:g=k
   .have hb:(g == k)=true:=beq_iff_eq.mpr h;simp only[List.lookup,hb,km (λe:g=f=>hk (h.symm.trans e))]
   .have hb:(g == k)=false:=beq_eq_false_iff_ne.mpr h;simp only[List.lookup,hb];exact a
theorem YF(f:Str)(v:V):∀fs:List (Str×V),f∈(Ct f v fs).map (·.1)/\∀g,g∈fs.map (·.1)->g∈(Ct f v fs).map (·.1)
 | []=>⟨by simp[Ct],λg h=>by simp at h⟩
 | (k,x)::r=>by
  obtain⟨b,a⟩:=YF f v r;rw[show Ct f v ((k,x)::r)=(if k=f then(k,v)::r else(k,x)::Ct f v r)from rfl]
  by_cases hk:k=f
  .rw[kz hk];subst hk;exact⟨by simp,λg h=>by simpa using h⟩
  .rw[km hk];refine⟨?_,λg h=>?_⟩
   .rw[Bh];exact Ca _ b
   .rw[Bh]at h ⊢;rcases List.mem_cons.mp h with e|e
    .exact List.mem_cons.mpr (.inl e)
    .exact Ca _ (a g e)
theorem jN(f:Str)(v:V):∀fs:List (Str×V),(Ct f v fs).length<=fs.length+1
 | []=>by simp[Ct]
 | (k,x)::r=>by
  have a:=jN f v r;rw[show Ct f v ((k,x)::r)=(if k=f then(k,v)::r else(k,x)::Ct f v r)from rfl]
  by_cases hk:k=f
  .rw[kz hk,Bw,Bw];omega
  .rw[km hk,Bw,Bw];omega
theorem Dd.some_of{o:Option Value}(r:Dd (some v) o):∃u,o=some u/\RelV v u:=by
 cases o with
 |none=>exact(show False from r).elim
 |some u=>exact⟨u,rfl,r⟩
theorem Dd.none_of{o:Option Value}(r:Dd none o):o=none:=by
 cases o with
 |none=>rfl
 |some u=>exact(show False from r).elim
theorem gk(r:RelV v u):PySem.W.handedIn u=true:=by
 cases v with
 |A7=>cases(show u=Value.none from r);rfl
 |bl b=>cases(show u=Value.bool b from r);rfl
 |int i=>obtain⟨t,e⟩:=(show ∃t,u=Value.int i t from r);cases e;rfl
 |str x=>obtain⟨t,e⟩:=(show ∃t,u=Value.str x t from r);cases e;rfl
 |GC b=>obtain⟨t,e⟩:=(show ∃t,u=Value.bytes b t from r);cases e;rfl
 |OQ b=>obtain⟨t,e⟩:=(show ∃t,u=Value.float b t from r);cases e;rfl
 |ref a=>cases(show u=Value.ref a from r);rfl
 |ty n=>cases(show u=Value.type n from r);rfl
section
variable{P:Program}{h:Heap}{fs Lm:List (Str×V)}
theorem YE(AI:Bk P w H h)(e:H a=some (.ins C dx fs)):∃mA,KI h a dx C mA/\(∀f,Dd (fs.lookup f) (mA f))/\PySem.Within mA (fs.map (·.1))/\fs.length<=1000/\H dx=some (.own a):=by
 obtain⟨d,z,ne,ob,mA,n,r,q⟩:=(show CL P w H h a (.ins C dx fs)from AI a _ e);exact⟨mA,⟨ob,n,ne⟩,r,q,z,d⟩
end
structure Be (K:ZEW) (C:Addr):Prop where
 pg:PySem.W.plainGet K C Str.empty=true
 hd:PySem.W.hasDictIn K C=true
 po:PySem.W.plainOver K C=true
 sa:PySem.W.findIn K (.ref C) "__setattr__"=some (some (.builtin "object.__setattr__"))
theorem Be.get{K:ZEW}{C:Addr}(c:Be K C)(f:Str):PySem.W.plainGet K C f=true:=c.pg
def BI(K:ZEW)(C:Addr)(f:Str):Prop:=PySem.W.findIn K (.ref C) f=some none
theorem BI.ZC9{K:ZEW}{f:Str}(n:BI K C f):PySem.W.takerIn K C f=some none:=by
 unfold PySem.W.takerIn;rw[show PySem.W.findIn K (.ref C) f=some none from n];rfl
structure MM (K:ZEW) (C:Addr) (f:Str) (v:V) (u:Value):Prop where
 at_:PySem.W.findIn K (.ref C) f=some (some u)
 rel:RelV v u
 get:PySem.W.specialIn K u "__get__"=some none
 cp:PySem.W.copiedNames.contains f=false
structure Meth (K:ZEW) (C:Addr) (m:Str) (f:Addr):Prop where
 at_:PySem.W.findIn K (.ref C) m=some (some (.ref f))
 fn:PySem.W.isFn K (.ref f)=true
 kp:PySem.W.keepIn K (.ref f)=true
section
variable{fs:List (Str×V)}{f:Str}
theorem c7{b:Bool}(I:Inv X Zi Z H s)(e:H a=some (.ins C dx fs))(c:Be X.K C)(n:BI X.K C f)(l:fs.lookup f=some v)
  (h:∀u s',Inv X Zi Z H s'->RelV v u->Q u s'):wpAny (model X.prog X.w) A (getAttr (.ref a) f b) Q E s:=by
 obtain⟨mA,O,r,_,_,_⟩:=YE I.AI e;obtain⟨u,g,d⟩:=Dd.some_of (v:=v) (o:=mA f) (by rw[<- l];exact r f);exact get_map I.EI O (c.get f) c.hd n g (gk d) (h u _ (I.tok _) d)
theorem xv{g:Addr}{Q:Value×List Value->Shared->Prop}(I:Inv X Zi Z H s)(e:H a=some (.ins C dx fs))(c:Be X.K C)(k:Meth X.K C m g)(l:fs.lookup m=none)
  (h:Q (.ref g,[.ref a]) s):wpAny (model X.prog X.w) A (getMethod (.ref a) m pl) Q E s:=by
 obtain⟨mA,O,r,_,_,_⟩:=YE I.AI e;have hn:mA m=none:=Dd.none_of (by rw[<- l];exact r m);exact uV I.EI O (c.get m) k.at_ k.fn hn h
theorem fW{Q:Unit->Shared->Prop}(I:Inv X Zi Z H s)(e:H a=some (.ins C dx fs))(c:Be X.K C)(n:BI X.K C f)(k:fs.length<1000)(d:RelV y u)
  (h:∀s',Inv X Zi Z (upd H a (.ins C dx (Ct f y fs))) s'->Q () s'):wpAny (model X.prog X.w) A (setAttr (.ref a) f u) Q E s:=by
 obtain⟨mA,O,r,wi,_,ho⟩:=YE I.AI e;have i:(fs.map (·.1)).length<=sizeLine:=by rw[AW,sizeLine_eq];omega
 refine u9 I.EI O c.sa c.po n.ZC9 c.hd wi i λh' O' sb=>h _ ?_;have hd:∃o,h'.get? dx=some o:=let ⟨o,_,_,e',_⟩:=O'.ns;⟨o,e'⟩;refine I.write (x:=a) (e:=dx) (by rw[e];exact True.intro) (.inr ho) (λb q hb z=>(sb.2 b hb).trans z) hd ?_;refine⟨by rw[Ab O.ne];exact ho,?_,O.ne,O'.obj,_,O'.ns,λg=>?_,λg j=>?_⟩
 .have:=jN f y fs;omega
 .show Dd ((Ct f y fs).lookup g) (if g=f then some u else mA g)
  rw[aM]
  by_cases q:g=f
  .rw[kz q,kz q];exact d
  .rw[km q,km q];exact r g
 .by_cases q:g=f
  .rw[q];exact(YF f y fs).1
  .refine(YF f y fs).2 g (wi g λz=>j ?_);show(if g=f then some u else mA g)=none
   rw[km q];exact z
theorem Inv.made(I:Inv X Zi Z H s):Inv X Zi Z (upd (upd H s.heap.objs.size (.own (s.heap.objs.size+1))) (s.heap.objs.size+1) (.ins C s.heap.objs.size []))
  { s with heap:=(s.heap.push PySem.W.emptyDict).push (PySem.W.instObj C s.heap.objs.size) }:=by
 have c:(s.heap.push PySem.W.emptyDict).get? s.heap.objs.size=some PySem.W.emptyDict:=BM s.heap rfl;have h:((s.heap.push PySem.W.emptyDict).push (PySem.W.instObj C s.heap.objs.size)).get? (s.heap.objs.size+1)=some (PySem.W.instObj C s.heap.objs.size):=by
  have:=BM (s.heap.push PySem.W.emptyDict) (o:=PySem.W.instObj C s.heap.objs.size) rfl
  rwa [D5]at this
 have g:(s.heap.push PySem.W.emptyDict).Ns s.heap.objs.size (λ_=>none):=⟨PySem.W.emptyDict,#[],_,c,rfl,(λe f=>absurd f (by simp)),λ_=>rfl⟩;have i:=I.laid (a:=s.heap.objs.size) (o:=.own (s.heap.objs.size+1)) (h':=s.heap.push PySem.W.emptyDict) (t':=s.toks) (λb u q=>B7 _ q) (Ad _) ⟨_,c⟩;refine i.laid (a:=s.heap.objs.size+1) (o:=.ins C s.heap.objs.size []) (t':=s.toks) (λb u q=>B7 _ q) (Nat.le_of_eq (D5 _ _)) ?_;have ne:s.heap.objs.size≠s.heap.objs.size+1:=BL (LU _);refine⟨by rw[Ab ne,AO],C1 _,ne,h,λ_=>none,(Heap.Ns1.of_empty g).at λo q=>B7 _ q,λ_=>True.intro,λy d=>absurd rfl d⟩
theorem di{env:Env}(hb:attributeBase e f env (eval e env)=eval e env)
  (h:wpAny (model prog w) A (eval e env) (λo a=>wpAny (model prog w) A (getAttr o f true) Q E a) E s):wpAny (model prog w) A (eval (.Attribute e f pos) env) Q E s:=
 Attribute_any_ h (by rw[arm_eval_Attribute,hb])
end
def Jx(K:ZEW)(ta:TE)(f:Str):TE:=λZ H Q=>ta Z H λx H1=>∃a C dx fs v,x=.ref a/\H1 a=some (.ins C dx fs)/\Be K C/\BI K C f/\fs.lookup f=some v/\Q v H1
def Uq(K:ZEW)(ta tv:TE)(f:Str):TS:=λD Z H=>tv Z H λy H1=>ta Z H1 λx H2=>∃a C dx fs,x=.ref a/\H2 a=some (.ins C dx fs)/\Be K C/\BI K C f/\fs.length<1000/\
 D.nx Z (upd H2 a (.ins C dx (Ct f y fs)))
def ib(X:Cx)(op:Operator)(a:V->V->Hp->VK->Prop):Prop:=
 ∀(Zi:ZEX)(s:Shared)(Z:St)(H:Hp)(x y:V)(u v:Value)(Q:VK),Inv X Zi Z H s->RelV x u->RelV y v->a x y H Q->wpAny (model X.prog X.w) X.A (inplaceOp op u v) (EP X Zi Z Q) X.xe s
def Um(K:ZEW)(ta tv:TE)(b:V->V->Hp->VK->Prop)(f:Str):TS:=λD Z H=>ta Z H λx H1=>∃a C dx fs v,x=.ref a/\H1 a=some (.ins C dx fs)/\Be K C/\BI K C f/\fs.lookup f=some v/\
 tv Z H1 λy H2=>b v y H2 λz H3=>∃J1 Lm,H3 a=some (.ins C J1 Lm)/\Lm.length<1000/\D.nx Z (upd H3 a (.ins C J1 (Ct f z Lm)))
structure Bp (k:Nat) (A:Around):Prop where
 hd:A.handled=none
 dp:A.depth+3 * k+5<recursionLimit
 un:A.units+16 * k+200<cLine
theorem Bp.mono{k:Nat}(r:Bp k A)(h:j<=k):Bp j A:=⟨r.hd,by have:=r.dp;omega,by have:=r.un;omega⟩
theorem Bp.deeper{k:Nat}(r:Bp (k+1) A)(env:Env):Bp k (A.deeper env):=
 ⟨r.hd,by have:=r.dp;show A.depth+1+3 * k+5<_;omega,by have:=r.un;show A.units+3+16 * k+200<_;omega⟩
theorem uC:(A.under (.builtin "type.__call__" ⟨.ref C::us,kw⟩)).depth=A.depth+1:=by
 first|rfl|simp[Around.under,Code.weight,Code.isCreation,Code.isGuard,Code.isCaller,Code.frames,Code.isFrame,guardIds]
theorem wC:(A.under (.builtin "type.__call__" ⟨.ref C::us,kw⟩)).units=A.units+1:=by
 first|rfl|simp[Around.under,Code.cUnits,Code.frames,Code.isFrame]
theorem Bp.make{k:Nat}(r:Bp (k+1) A)(C:Addr)(us:List Value)(kw:List (Str×Value)):Bp k (A.under (.builtin "type.__call__" ⟨.ref C::us,kw⟩)):=
 ⟨r.hd,by have:=r.dp;rw[uC];omega,by have:=r.un;rw[wC];omega⟩
theorem Bp.depth{k:Nat}(r:Bp k A):A.depth<recursionLimit:=by have:=r.dp;omega
theorem Bp.units{k:Nat}(r:Bp k A):A.units+64<cLine:=by have:=r.un;omega
theorem Bp.Lc{k:Nat}(r:Bp k A):A.units<cLine:=by have:=r.un;omega
def BO:TA:=λ_ H Q=>Q [] H
def Al(ta:TE)(tr:TA):TA:=λZ H Q=>ta Z H λx H1=>tr Z H1 λxs H2=>Q (x::xs) H2
section
variable{t:TA}
theorem uK(ha:PE X e te)(d:PA X es t)(c:starEach (e::es) X.env=(false,eval e X.env)::starEach es X.env:=by rfl):PA X (e::es) (Al te t):=by
 intro pos Zi s Z H Q I h;rw[c];show wpAny _ _ (spliced ((false,eval e X.env)::backTo pos (starEach es X.env))) _ _ s;refine Yi (AN (ha Zi s Z H _ I h) λu s1 NX=>?_);obtain⟨x,H1,I1,b,q1⟩:=NX;exact AN (d pos Zi s1 Z H1 _ I1 q1) λus s2 AJ=>by obtain⟨xs,H2,I2,a,q2⟩:=AJ;exact⟨x::xs,H2,I2,.cons b a,q2⟩
def XI(t:TA):TE:=λZ H Q=>t Z H λxs H1=>xs.length<=sizeLine/\∀p,H1 p=none->Q (.ref p) (upd H1 p (.tup xs))
def QZ(t:TA):TE:=λZ H Q=>t Z H λxs H1=>xs.length<=sizeLine/\∀p,H1 p=none->Q (.ref p) (upd H1 p (.lst xs))
theorem zK{x1}(h:PA X es t):PE X (.Tuple es x1 pos) (XI t):=by
 intro Zi s Z H Q I c;refine wpAny_Tuple_spliced (AN (h pos Zi s Z H _ I c) λus s1⟨xs,H1,I1,r,z,q⟩=>⟨by rw[<- r.length];exact z,?_⟩);have d:H1 s1.heap.objs.size=none:=I1.AI.fresh (Ad _);refine⟨.ref s1.heap.objs.size,upd H1 s1.heap.objs.size (.tup xs),I1.laid (t':=s1.toks) (λb u e=>B7 _ e) (Ad _) ?_,rfl,q _ d⟩;exact⟨z,us,r,⟨_,BM _ rfl,rfl,_,rfl⟩,λRm a=>by rw[BM _ rfl]at a;cases a;rfl⟩
theorem ZA5(h:PA X es t):PE X (.List es pos) (QZ t):=by
 intro Zi s Z H Q I a;refine wpAny_List_spliced (AN (h pos Zi s Z H _ I a) λus s1⟨xs,H1,I1,r,z,q⟩=>⟨by rw[<- r.length];exact z,?_⟩);have c:H1 s1.heap.objs.size=none:=I1.AI.fresh (Ad _);refine⟨.ref s1.heap.objs.size,upd H1 s1.heap.objs.size (.lst xs),I1.laid (t':=s1.toks) (λb u e=>B7 _ e) (Ad _) ?_,rfl,q _ c⟩;exact⟨z,us,0,r,BM _ rfl⟩
end
abbrev Sp:=List V->Hp->VK->XK->Prop
abbrev Fq:=List Env->Hp->Shared->XK->Value->Shared->Prop
variable{CX:Fq}
structure Ki (P:Program) (w:World) (K:ZEW) (mg:ZEY) (Zl:Heap) (A:Around) (outer:List Env) (s:Shared) (H:Hp):Prop where
 frames:A.frames=some outer
 mod:Mod K mg Zl
 bs:∀b o,Zl.get? b=some o->s.heap.get? b=some o/\H b=none
 G0:Zl.objs.size<=s.heap.objs.size
 ER:s.heap.FunFrames Zl outer
 HI:∀b∈Ci outer,H b=none
 AI:Bk P w H s.heap
 bare:AllBare s.gens
def CE(outer:List Env)(P:Program)(w:World)(H:Hp)(s:Shared)(Q:VK)(u:Value)(s':Shared):Prop:=
 ∃v H',s'.os=s.os/\AllBare s'.gens/\Un (Ci outer) [] H H' s.heap s'.heap/\Bk P w H' s'.heap/\RelV v u/\Q v H'
def CR(CX:Fq)(outer:List Env)(P:Program)(w:World)(H:Hp)(s:Shared)(Q:VK)(E:XK)(r:Result)(s':Shared):Prop:=
 match r with
 | .ok (.ret u)=>CE outer P w H s Q u s'
 | .ok _=>False
 | .error e=>CX outer H s E e s'
structure DK (P:Program) (w:World) (K:ZEW) (mg:ZEY) (Zl:Heap) (CX:Fq) (k:Nat) (f:Addr) (fd:FuncData) (ps:List Str) (sp:Sp):Prop where
 len:∀vs H Q E,sp vs H Q E->vs.length=ps.length
 run:∀(A:Around)(outer:List Env)(s:Shared)(H:Hp)(args:Args)(us:List Value)(vs:List V)(Q:VK)(E:XK),Bp k A->Ki P w K mg Zl A outer s H->BindsTo s fd args (ps.zip us)->Vals vs us->sp vs H Q E->
  codeAny (model P w) A (.call (.ref f) args) (CR CX outer P w H s Q E) s
theorem DK.mono{P:Program}{K:ZEW}{k:Nat}{f:Addr}{sp:Sp}(F:DK P w K mg Zl CX j f fd ps sp)(h:j<=k):
  DK P w K mg Zl CX k f fd ps sp:=⟨F.len,λA outer s H args us vs Q E a=>F.run A outer s H args us vs Q E (a.mono h)⟩
theorem Ki.make{P:Program}{K:ZEW}(e:Ki P w K mg Zl A outer s H)(C:Addr)(us:List Value)(kw:List (Str×Value)):
  Ki P w K mg Zl (A.under (.builtin "type.__call__" ⟨.ref C::us,kw⟩)) outer s H:=⟨by first|exact e.frames|(simpa[Around.under,Code.envs,Code.isFrame,pushEnvs]using e.frames),e.mod,e.bs,e.G0,e.ER,e.HI,e.AI,e.bare⟩
theorem Inv.bE(I:Inv X Zi Z H s):Ki X.prog X.w X.K X.mg X.base X.A X.stack s H:=
 ⟨I.ok.frames,I.ok.mod,I.bs,CK I.ok.G0 I.sz,I.stack,I.T9,I.AI,I.bare⟩
theorem Inv.after{Q:VK}(I:Inv X Zi Z H s)(h:CE X.stack X.prog X.w H s Q u s'):EP X Zi Z Q u s':=by
 obtain⟨v,H',os,bare,un,AI,r,q⟩:=h;obtain⟨hh,g,d,t,NL⟩:=s';obtain rfl:NL=s.os:=os;exact⟨v,H',I.call (h':=hh) (g':=g) (d':=d) (t':=t) (ch:=[]) un AI bare (λb z=>absurd z (by simp)),r,q⟩
def D3(sp:Sp)(DO:List V)(E:XK)(t:TA):TE:=λZ H Q=>t Z H λvs H1=>sp (vs++DO) H1 Q E
def KR(C:Addr)(m:Str)(sp:Sp)(DO:List V)(E:XK)(ta:TE)(t:TA):TE:=λZ H Q=>ta Z H λx H1=>∃a dx fs,x=.ref a/\H1 a=some (.ins C dx fs)/\fs.lookup m=none/\
 t Z H1 λvs H2=>sp (x::(vs++DO)) H2 Q E
def W6(C:Addr)(sp:Sp)(DO:List V)(E:XK)(t:TA):TE:=λZ H Q=>t Z H λvs H1=>∀x dx,H1 x=none->H1 dx=none->dx≠x->
 sp (.ref x::(vs++DO)) (upd (upd H1 dx (.own x)) x (.ins C dx [])) (λv H2=>v=.A7/\Q (.ref x) H2) E
def Binds(K:ZEW)(fd:FuncData)(ps:List Str)(ds:List Value):Prop:=
 ∀(s:Shared)(us:List Value),K.In s.heap->(us++ds).length=ps.length->BindsTo s fd ⟨us,[]⟩ (ps.zip (us++ds))
theorem Binds.all{K:ZEW}(h:∀us:List Value,us.length=ps.length->bindArgs fd ⟨us,[]⟩=pure (ps.zip us)):Binds K fd ps []:=λs us _ a=>by
 rw[FC]at a ⊢;exact .of_eq (h us a)
def Passes(CX:Fq)(X:Cx)(E:XK):Prop:=∀(Zi:ZEX)(Z:St)(H:Hp)(s:Shared)(e:Value)(s':Shared),Inv X Zi Z H s->CX X.stack H s E e s'->X.xe e s'
section
variable{k:Nat}{f:Addr}{sp:Sp}{E:XK}{p apos:Pos}{o:Expr}{t:TA}
theorem gP{Q:VK}(F:DK X.prog X.w X.K X.mg X.base CX k f fd ps sp)(c:Bp k X.A)(hb:Binds X.K fd ps ds)(hd:Vals DO ds)(hx:Passes CX X E)
  (I:Inv X Zi Z H s) (r:Vals vs us) (h:sp (vs++DO) H Q E):wpAny (model X.prog X.w) X.A (call (.ref f) us) (EP X Zi Z Q) X.xe s:=by
 have b:Vals (vs++DO) (us++ds):=r.append hd;have d:(us++ds).length=ps.length:=by rw[<- b.length];exact F.len _ _ _ _ h
 refine wpAny_call (zE (F.run X.A X.stack s H ⟨us,[]⟩ (us++ds) (vs++DO) Q E c I.bE (hb s us I.EI d) b h) λr s' a=>?_);cases r with
 |error e=>exact hx Zi Z H s e s' I a
 |ok g=>
  cases g with
  |ret u=>exact I.after a
  |next=>exact False.elim a
  |brk=>exact False.elim a
  |cont=>exact False.elim a
theorem oO(F:DK X.prog X.w X.K X.mg X.base CX k f fd ps sp)(a:Bp k X.A)(c:Gl X x)(b:X.mg x=some (.ref f))(hk:PySem.W.keepIn X.K (.ref f)=true)(hb:Binds X.K fd ps ds)(hd:Vals DO ds)(hx:Passes CX X E)
  (ha:PA X (e::es) t) (Bs:(x == ("__debug__":Str))=false:=by decide) (he:starEach (e::es) X.env=(false,eval e X.env)::starEach es X.env:=by rfl) (Bo:(backTo pos (starEach es X.env)).any (·.1)=false:=by rfl) :
  PE X (.Call (.Name x p) (e::es) [] pos) (D3 sp DO E t):=by
 intro Zi s Z H Q I h;refine pO (Nv I c b ?_ Bs);refine k6 (h₀:=X.base) I.ok.mod.Nd hk (AN (ha pos Zi s Z H _ I h) λus s1⟨vs,H1,I1,r,q⟩=>⟨I1.EI,?_⟩) he Bo;exact gP F a hb hd hx I1 r q
theorem vg(i:PE X o ta)(c:Be X.K C)(b:Meth X.K C m f)(F:DK X.prog X.w X.K X.mg X.base CX k f fd ps sp)(g:Bp k X.A)(hb:Binds X.K fd ps ds)(hd:Vals DO ds)(hx:Passes CX X E)(ha:PA X (e::es) t)
  (BA:starEach (e::es) X.env=(false,eval e X.env)::starEach es X.env:=by rfl) (Bo:(backTo pos (starEach es X.env)).any (·.1)=false:=by rfl)
  (ht:eval (.Call (.Attribute o m apos) (e::es) [] pos) X.env=(do
   let ov <- eval o X.env
   standAt apos.atName
   let (f,first) <- holding [ov] (getMethod ov m pl)
   callWith pos f first (backTo pos (starEach (e::es) X.env)) (backToKw pos (keywordEach [] X.env))):=by rfl) :
  PE X (.Call (.Attribute o m apos) (e::es) [] pos) (KR C m sp DO E ta t):=by
 intro Zi s Z H Q I h;refine PySem.W.methodCall_KW (pl:=pl) (AN (i Zi s Z H _ I h) λu s1⟨x,H1,I1,d,a,dx,fs,ex,ea,l,q⟩=>?_) ht;subst ex;obtain rfl:u=Value.ref a:=d;refine xv I1 ea c b l ?_;refine k6 (first:=[.ref a]) (h₀:=X.base) I.ok.mod.Nd b.kp (AN (ha pos Zi s1 Z H1 _ I1 q) λus s2⟨vs,H2,I2,r,q2⟩=>⟨I2.EI,?_⟩) BA Bo
 exact gP (us:=.ref a::us) (vs:=.ref a::vs) F g hb hd hx I2 (.cons rfl r) q2
structure Mk (K:ZEW) (C f:Addr):Prop where
 makes:PySem.W.makesIn K C=true
 init:PySem.W.findIn K (.ref C) "__init__"=some (some (.ref f))
 fn:PySem.W.isFn K (.ref f)=true
 kp:PySem.W.keepIn K (.ref C)=true
theorem ZA0{Q:VK}(M:Mk X.K C f)(F:DK X.prog X.w X.K X.mg X.base CX k f fd ps sp)(g:Bp (k+1) X.A)(hb:Binds X.K fd ps ds)(hd:Vals DO ds)
  (hx:Passes CX X E) (I:Inv X Zi Z H s) (r:Vals vs us)
  (h:∀x dx,H x=none->H dx=none->dx≠x->sp (.ref x::(vs++DO)) (upd (upd H dx (.own x)) x (.ins C dx [])) (λv H2=>v=.A7/\Q (.ref x) H2) E) :
  wpAny (model X.prog X.w) X.A (call (.ref C) us) (EP X Zi Z Q) X.xe s:=by
 have c:=h (s.heap.objs.size+1) s.heap.objs.size (I.AI.fresh (D6 _)) (I.AI.fresh (Ad _)) (BL (LU _));have a:=Inv.made (C:=C) I;have b:Vals (V.ref (s.heap.objs.size+1)::(vs++DO)) (Value.ref (s.heap.objs.size+1)::(us++ds)):=.cons rfl (r.append hd);have i:(Value.ref (s.heap.objs.size+1)::us++ds).length=ps.length:=by
  have e:=b.length;rw[F.len _ _ _ _ c]at e;exact e.symm
 refine wpAny_call (ZBY (f:=f) I.EI M.makes M.init (beq_iff_eq.mp M.fn) (zE (F.run _ X.stack _ _ ⟨Value.ref (s.heap.objs.size+1)::us,[]⟩ (Value.ref (s.heap.objs.size+1)::(us++ds)) _ _ E (g.make C us [])
  (a.bE.make C us []) (hb _ (Value.ref (s.heap.objs.size+1)::us) a.EI i) b c) λr s' Iu=>?_))
 cases r with
 |error e=>exact hx Zi Z _ _ e s' a Iu
 |ok j=>
  cases j with
  |ret u=>
   obtain⟨v,H',I3,d,l,q3⟩:=a.after Iu;subst l;exact⟨d,⟨V.ref (s.heap.objs.size+1),H',I3,rfl,q3⟩⟩
  |next=>exact False.elim Iu
  |brk=>exact False.elim Iu
  |cont=>exact False.elim Iu
theorem pS(M:Mk X.K C f)(F:DK X.prog X.w X.K X.mg X.base CX k f fd ps sp)(a:Bp (k+1) X.A)(c:Gl X x)(b:X.mg x=some (.ref C))(hb:Binds X.K fd ps ds)(hd:Vals DO ds)(hx:Passes CX X E)
  (ha:PA X (e::es) t) (Bs:(x == ("__debug__":Str))=false:=by decide) (he:starEach (e::es) X.env=(false,eval e X.env)::starEach es X.env:=by rfl) (Bo:(backTo pos (starEach es X.env)).any (·.1)=false:=by rfl) :
  PE X (.Call (.Name x p) (e::es) [] pos) (W6 C sp DO E t):=by
 intro Zi s Z H Q I h;refine pO (Nv I c b ?_ Bs);refine k6 (h₀:=X.base) I.ok.mod.Nd M.kp (AN (ha pos Zi s Z H _ I h) λus s1⟨vs,H1,I1,r,q⟩=>⟨I1.EI,?_⟩) he Bo;exact ZA0 M F a hb hd hx I1 r q
variable{kws:List Keyword}{tk:TA}{nm:Option Str}{g:List Value->List Value->List Value}{gV:List V->List V->List V}
end
structure Ax (N P:List Str) (sc:Scope):Prop where
 kind:sc.kind=.function
 co:sc.isCoroutine=false
 gen:sc.isGenerator=false
 nd:N.Nodup
 pre:N.take P.length=P
 par:∀x∈P,sc.names.lookup x=some .local∨sc.names.lookup x=some .cell
 vP:∀y∈sc.names,y.2≠.free
theorem gu{a:Str->Option NameKind}{x:Str}:∀{binds:List (Str×Value)}{m:ZEY},(∀v,(x,v)∉binds)->bindL a binds m x=m x
 | [],_,_=>rfl
 | (n,v)::r,m,h=>by
  unfold bindL;rw[gu λw hw=>h w (Ca _ hw)];split
  .have:x≠n:=by rintro rfl;exact h v CJ
   simp[this]
  .rfl
theorem cU{a:Str->Option NameKind}{x:Str}:∀{binds:List (Str×Value)}{m:ZEY},(∀v,(x,v)∉binds)->bindC a binds m x=m x
 | [],_,_=>rfl
 | (n,v)::r,m,h=>by
  unfold bindC;rw[cU λw hw=>h w (Ca _ hw)];split
  .rfl
  .have:x≠n:=by rintro rfl;exact h v CJ
   simp[this]
theorem fZ{a:Str->Option NameKind}{x:Str}{v:Value}:∀{P:List Str}{vs:List Value}{i:Nat}{m:ZEY},P.Nodup->P[i]?=some x->vs[i]?=some v->a x=some .local->
  bindL a (P.zip vs) m x=some v
 | [],_,_,_,_,h,_,_=>by simp at h
 |_::_,[],_,_,_,_,h,_=>by simp at h
 |p::P,w::vs,0,m,nd,h1,h2,hk=>by
  simp at h1 h2;subst h1;subst h2;show bindL a ((p,w)::P.zip vs) m p=_;unfold bindL;rw[gu λv hv=>(List.nodup_cons.mp nd).1 (Yx hv).1,kz hk];simp
 |p::P,w::vs,i+1,m,nd,h1,h2,hk=>by
  show bindL a ((p,w)::P.zip vs) m x=_;unfold bindL;exact fZ (i:=i) (List.nodup_cons.mp nd).2 (by simpa using h1) (by simpa using h2) hk
theorem d7{a:Str->Option NameKind}{x:Str}{v:Value}:∀{P:List Str}{vs:List Value}{i:Nat}{m:ZEY},P.Nodup->P[i]?=some x->vs[i]?=some v->a x≠some .local->
  bindC a (P.zip vs) m x=some v
 | [],_,_,_,_,h,_,_=>by simp at h
 |_::_,[],_,_,_,_,h,_=>by simp at h
 |p::P,w::vs,0,m,nd,h1,h2,hk=>by
  simp at h1 h2;subst h1;subst h2;show bindC a ((p,w)::P.zip vs) m p=_;unfold bindC;rw[cU λv hv=>(List.nodup_cons.mp nd).1 (Yx hv).1,km hk];simp
 |p::P,w::vs,i+1,m,nd,h1,h2,hk=>by
  show bindC a ((p,w)::P.zip vs) m x=_;unfold bindC;exact d7 (i:=i) (List.nodup_cons.mp nd).2 (by simpa using h1) (by simpa using h2) hk
noncomputable def start(N:List Str)(vs:List V):St:=vs.map some++List.replicate (N.length - vs.length) none
noncomputable def KW(CX:Fq)(P:Program)(w:World)(K:ZEW)(mg:ZEY)(Zl:Heap)(N:List Str)(qual:Str)(scope:Scope)(f:Addr)(cd:Value)(A:Around)(outer:List Env)(s:Shared)(H:Hp)(E:XK):Cx where
 prog:=P
 w:=w
 K:=K
 mg:=mg
 base:=Zl
 A:=A.deeper (envOfC qual scope s.heap.objs.size f cd)
 N:=N
 s₀:=s
 H₀:=H
 env:=envOfC qual scope s.heap.objs.size f cd
 outer:=outer
 stack:=envOfC qual scope s.heap.objs.size f cd::outer
 ex:=[]
 calm:=true
 fn:=λ_=>true
 pn:=[]
 xe:=λe s'=>wpAny (model P w) (A.deeper (envOfC qual scope s.heap.objs.size f cd)) (leaving (envOfC qual scope s.heap.objs.size f cd) e) (λ_ N1=>CX outer H s E e N1) (λa N1=>CX outer H s E a N1) s'
theorem aY(h:sc.names.lookup x=some .cell):∃c,(cellsFrom n sc.names []).lookup x=some c:=by
 have q:=ZDd sc.names n [] (.inl h);exact Option.isSome_iff_exists.mp q
theorem xS{P:Program}{K:ZEW}{f:Addr}{s1:Shared}{E:XK}
  (S:Ax N ps scope) (hd:A.handled=none) (e0:Ki P w K mg Zl A outer s H) (t:vs.length=ps.length) (r:Vals vs us)
  (x:InCallC s s.heap.objs.size (bindL (envOfC qual scope s.heap.objs.size f cd).kindOf (ps.zip us) λ_=>none) (cellsFrom (s.heap.objs.size+1) scope.names []) (bindC (envOfC qual scope s.heap.objs.size f cd).kindOf (ps.zip us) λ_=>none) s1) :
  Inv (KW CX P w K mg Zl N qual scope f cd A outer s H E) [] (start N vs) H s1:=by
 have C:ps.length<=N.length:=by have:=oW List.length S.pre;rw[CI]at this;omega
 obtain⟨h1,tk,rfl,hk⟩:=x.done;have j:∀b:Addr,b∉(KW CX P w K mg Zl N qual scope f cd A outer s H E).ex:=λb z=>absurd (show b∈([]:List Addr)from z) (by simp);refine⟨⟨e0.mod,S.kind,rfl,rfl,Ad _,λy z c h1 h2=>?_,λy d=>?_,λy c _ h=>?_,λ_=>hd,Around.frames_deeper e0.frames,.inr ⟨rfl,rfl⟩,λb z=>absurd z (j b),e0.bs,e0.G0,λb _ _=>j b,λb z=>absurd z (j b),e0.ER,e0.HI⟩,
  rfl,e0.bare,Un.kept hk,⟨_,x.toInCall.ns,λi y v h1 h2 B=>?_⟩,λy c h=>⟨_,x.cell y c h⟩,e0.AI.fresh (Ad _),λy c h=>?_,λp g=>absurd (show p∈([]:ZEX)from g) (by simp),e0.AI.kept hk,?_⟩
 .exact name_of_addr x.apart (LW h1) (LW h2)
 .have d:scope.names.lookup y=some .cell∨scope.names.lookup y=some .free:=d;rcases d with d|d
  .exact aY d
  .exact absurd rfl (S.vP _ (LW d))
 .exact Mq (x.above y c (LW h))
 .have hi:i<vs.length:=by
   unfold start at h2
   by_cases hi:i<vs.length
   .exact hi
   .rw[Fj (by simpa using hi)]at h2
    rw[jd]at h2;split at h2 <;> cases h2
  have ha:vs[i]?=some v:=by
   unfold start at h2;rw[EN (by simpa using hi),B1]at h2
   cases e:vs[i]? with
   |none=>rw[e]at h2;cases h2
   |some a=>rw[e]at h2;cases h2;rfl
  obtain⟨u,l,o⟩:=r.get ha;have g:ps[i]?=some y:=by
   rw[<- S.pre,List.getElem?_take_of_lt (by omega)];exact h1
  have m:ps.Nodup:=by rw[<- S.pre];exact S.nd.sublist (List.take_sublist _ _)
  refine⟨u,o,?_⟩;rcases S.par y (Cq g)with k|k
  .exact .inl ⟨k,fZ m g l k⟩
  .obtain⟨c,e⟩:=aY (n:=s.heap.objs.size+1) k;refine .inr ⟨.inl k,c,e,?_⟩;have q:=x.cell y c e;rw[d7 m g l (by show scope.names.lookup y≠_;rw[k];decide)]at q;exact q
 .exact e0.AI.fresh (Mq (x.above y c (LW h)))
 .unfold start;show _=N.length;rw[C0,AW,ZDH];omega
theorem ZCT{P:Program}{K:ZEW}{k:Nat}{f:Addr}{a:Arguments}{body:List Stmt}{p kV g m AX ct C:Value}{z od:Option Addr}
  {GX:Array (Option Value)}{sp:Sp}(D:K.lookup f=some ⟨C,od,.func (PySem.W.fnOf name qual a body scope p kV g m z AX ct),GX⟩) (GS:PySem.W.codeIn K AX qual=true) (S:Ax N ps scope)
  (len:∀vs H Q E,sp vs H Q E->vs.length=ps.length)
  (Nl:∀(A:Around)(outer:List Env)(s:Shared)(H:Hp)(vs:List V)(Q:VK)(E:XK),Bp k (A.deeper (envOfC qual scope s.heap.objs.size f AX))->sp vs H Q E->
   ∃t,Cv (KW CX P w K mg Zl N qual scope f AX A outer s H E) body t/\t { nx:=λ_ H'=>Q .A7 H',rt:=Q } (start N vs) H) :
  DK P w K mg Zl CX (k+1) f (PySem.W.fnOf name qual a body scope p kV g m z AX ct) ps sp:=by
 refine⟨len,λA outer s H args us vs Q E j e0 hb r FI=>?_⟩;have M:=len _ _ _ _ FI;have B:K.In s.heap:=e0.mod.Nd.keeps λb o e=>(e0.bs b o e).1;have i:s.heap.NoLimit:=e0.mod.nolimit.keeps λb o e=>(e0.bs b o e).1;have l:∀y∈ps.zip us,scope.names.lookup y.1=some .local∨(scope.names.lookup y.1=some .cell/\((cellsFrom (s.heap.objs.size+1) scope.names []).lookup y.1).isSome=true):=λ⟨n,v⟩F=>by
  rcases S.par n (Yx F).1 with q|q
  .exact .inl q
  .exact .inr ⟨q,ZDd _ _ _ (.inl q)⟩
 refine codeAny_call_function j.depth (B _ _ D) rfl S.co S.gen rfl (PySem.W.codeRec_of B GS) (hb _ _ _ _ ?_);refine wpAny_newFunctionEnv_cells S.kind l λenv O s1 x=>?_;subst O;refine⟨i.keeps x.toInCall.keep,codeAny_func ?_⟩;obtain⟨t,G,L⟩:=Nl A outer s H vs Q E (j.deeper _) FI;have I:Inv (KW CX P w K mg Zl N qual scope f AX A outer s H E) [] (start N vs) H s1:=xS S j.hd e0 M r x;refine ni (G [] s1 (start N vs) H _ I L) (λR s' c=>?_) λe s' c=>c;have d:∀{σ':St}{H':Hp}{v:V}{u:Value},Inv (KW CX P w K mg Zl N qual scope f AX A outer s H E) [] σ' H' s'->RelV v u->Q v H'->CE outer P w H s Q u s':=
  λ{σ' H' v u}J h q=>⟨v,H',J.os,J.bare,J.base,J.AI,h,q⟩
 cases R with
 |ret u=>
  obtain⟨v,σ',H',J,h,q⟩:=c;exact d J h q
 |next=>
  obtain⟨σ',H',J,q⟩:=c;exact d (v:=V.A7) (u:=Value.none) J rfl q
 |brk=>
  obtain⟨_,_,_,q⟩:=c;exact False.elim q
 |cont=>
  obtain⟨_,_,_,q⟩:=c;exact False.elim q
section
variable{p:Pos}{t:TA}{id T:String}{r:List V->Hp->VK->Prop}
def Ea(r:List V->Hp->VK->Prop)(t:TA):TE:=λZ H Q=>t Z H λvs H1=>r vs H1 Q
end
end L2
namespace HT
variable{E Q:Value->Shared->Prop}{sl t:Addr}{v vl vu:Value}{hi o:Option Int}
section
open PySem.SeqAt
open PySem.AutoSeq1 (wpAny_loadPart')
open PySem.MeetsSeq PySem.MeetsSeq2 PySem.MeetsSeq3
end
section
variable{prog:Program}{w:World}{A:Around}{s:Shared}
theorem zm{b:Addr}{vs ws:List Value}(f:IsTup s.heap t vs.toArray)(hb:IsTup s.heap b ws.toArray)(hv:vs≠[])
  (h1:ws=[]->Q (.ref t) s) (h2:ws≠[]->Q (.ref s.heap.objs.size) { s with heap:=s.heap.push { cls:=.type "tuple", data:=.seq (vs++ws).toArray } })
  (hsz:vs.length+ws.length<=sizeLine):wpAny (model prog w) A (binaryOp .Add (.ref t) (.ref b)) Q E s:=by
 obtain⟨⟨cls,dd,data,sl⟩,ho,d,n,hd⟩:=id f;obtain⟨⟨g,Q7,c,JA⟩,FG,Kv,n2,a⟩:=id hb;simp only at d hd Kv a;subst d hd Kv a;have e:vs.toArray++ws.toArray=(vs++ws).toArray:=by simp
 by_cases hw:ws=[]
 .exact concat_meets ⟨_,ho,rfl⟩ ⟨_,FG,rfl⟩ ZAF seq_tuple_add jz jx (jw _ _)
   (tuple_addW1 t b vs.toArray ws.toArray n n2 dd Q7 sl JA (by simpa using hv) (by simp[hw])) ⟨ho,FG,h1 hw⟩
 .refine concat_meets ⟨_,ho,rfl⟩ ⟨_,FG,rfl⟩ ZAF seq_tuple_add jz jx (jw _ _)
   (tuple_addW2 t b vs.toArray ws.toArray n n2 dd Q7 sl JA (by simpa using hv) (by simpa using hw) (by rw[Bm,Bm];exact hsz)) ⟨ho,FG,?_⟩
  rw[e];exact h2 hw
noncomputable def Aj(n d:Nat):Option Int->Nat
 |none=>d
 |some v=>if v<0 then(v+(n:Int)).toNat else min v.toNat n
theorem Zf(n d:Nat):Aj n d none=d:=rfl
theorem QK(n d k:Nat):Aj n d (some (k:Int))=min k n:=by
 show(if(k:Int)<0 then((k:Int)+(n:Int)).toNat else min (k:Int).toNat n)=min k n
 rw[km (by omega),SN]
theorem vO(n d:Nat)(hd:d<=n)(o:Option Int):Aj n d o<=n:=by
 cases o with
 |none=>exact hd
 |some v=>
  show(if v<0 then(v+(n:Int)).toNat else min v.toNat n)<=n
  by_cases hv:v<0
  .rw[kz hv];omega
  .rw[km hv];exact ZDO _ _
theorem dE(v:Int)(n d:Nat):(if v<0 then max (v+(n:Int)) 0 else min v (n:Int))=((Aj n d (some v):Nat):Int):=by
 show(if v<0 then max (v+(n:Int)) 0 else min v (n:Int))=(((if v<0 then(v+(n:Int)).toNat else min v.toNat n):Nat):Int)
 by_cases hv:v<0
 .simp only[kz hv];omega
 .simp only[km hv];omega
theorem pd(lo hi:Option Int)(n:Nat):Builtin.Slice.sliceAdjust lo hi 1 (n:Int)=(((Aj n 0 lo:Nat):Int),((Aj n n hi:Nat):Int)):=by
 have h1:¬ ((1:Int)<0):=by omega
 unfold Builtin.Slice.sliceAdjust;simp only[h1,if_false];refine Prod.ext ?_ ?_
 .cases lo with
  |none=>rfl
  |some v=>exact dE v n 0
 .cases hi with
  |none=>rfl
  |some v=>exact dE v n n
theorem mr(i j:Nat):Builtin.Slice.slicePlaces (i:Int) (j:Int) 1=j - i:=by
 unfold Builtin.Slice.slicePlaces;have h1:(1:Int) > 0:=by omega
 simp only[h1,ZAL,Int.ediv_one];split <;> omega
theorem dJ{Q:Option Int->Shared->Prop}(p:IsPart v o)(h:Q o s):wpAny (model prog w) A (Builtin.Slice.slicePartIndex v) Q E s:=by
 cases p with
 |none=>exact slicePart_none h
 |int i t=>exact slicePart_int h
theorem fT{lo:Option Int}{n:Nat}{Q:Int×Int×Nat->Shared->Prop}(b:s.heap.IsSliceOf sl vl vu .none)(pl:IsPart vl lo)(a:IsPart vu hi)
  (h:Q (((Aj n 0 lo:Nat):Int),1,Aj n n hi - Aj n 0 lo) s):wpAny (model prog w) A (Builtin.Slice.sliceApplied (.ref sl) (pure (n:Int))) Q E s:=by
 obtain⟨os,LK,Qi,O3⟩:=id b;unfold Builtin.Slice.sliceApplied Builtin.Slice.sliceFields;refine kU (kU (t6 LK O3 (x:=vl) rfl (kU (t6 LK O3 (x:=vu) rfl (kU (t6 LK O3 (x:=.none) rfl (kX ?_)))))));refine kU (slicePart_none ?_);show wpAny _ _ (if((1:Int) == 0)=true then _ else _) _ _ s
 rw[km (by decide)];refine kU (dJ pl (kU (dJ a (kU (kX ?_)))));show wpAny _ _ (match Builtin.Slice.sliceAdjust lo hi 1 (n:Int)with|(lo,hi)=>pure (lo,(1:Int),Builtin.Slice.slicePlaces lo hi 1)) _ _ s
 rw[pd lo hi n];show wpAny _ _ (pure (((Aj n 0 lo:Nat):Int),(1:Int),Builtin.Slice.slicePlaces ((Aj n 0 lo:Nat):Int) ((Aj n n hi:Nat):Int) 1)) _ _ s;rw[mr];exact kX h
theorem mP(xs:Array Value)(i k:Nat):((List.range k).filterMap λ(m:Nat)=>xs[((i:Int)+(m:Int) * 1).toNat]?).toArray=((xs.toList.drop i).take k).toArray:=by
 have e:(λ(m:Nat)=>xs[((i:Int)+(m:Int) * 1).toNat]?)=λm=>xs[i+m]?:=by
  funext m
  have:((i:Int)+(m:Int) * 1).toNat=i+m:=by omega
  rw[this]
 rw[e];have:=pick_run xs i k;rw[List.filterMap_map]at this;have a:((λx=>xs[x]?) ∘ λx=>i+x)=λm=>xs[i+m]?:=rfl;rw[a]at this;rw[this]
theorem zf{items:Array Value}{lo:Option Int}(a:IsTup s.heap t items)(c:s.heap.IsSliceOf sl vl vu .none)(pl:IsPart vl lo)(d:IsPart vu hi)
  (hw:¬ (Aj items.size 0 lo=0/\Aj items.size items.size hi=items.size))
  (h:Q (.ref s.heap.objs.size) { s with heap:=s.heap.push { cls:=.type "tuple", data:=.seq ((items.toList.drop (Aj items.size 0 lo)).take (Aj items.size items.size hi - Aj items.size 0 lo)).toArray } })
  (hsz:items.size<=sizeLine):wpAny (model prog w) A (getItem (.ref t) (.ref sl)) Q E s:=by
 have b:sizeOk (.seq ((items.toList.drop (Aj items.size 0 lo)).take (Aj items.size items.size hi - Aj items.size 0 lo)).toArray):=by
  show((items.toList.drop (Aj items.size 0 lo)).take (Aj items.size items.size hi - Aj items.size 0 lo)).toArray.size<=sizeLine;rw[Bm,CI,GG,Fh];omega
 have g:Aj items.size items.size hi<=items.size:=vO _ _ (Ad _) hi;obtain⟨os,LK,Qi,O3⟩:=id c;have e:s.TypeIs (.ref sl) "slice" := ⟨os,LK,Qi⟩;unfold getItem
 try with_reducible refine oR ?_
 first|refine kU (kX ?_)|skip
 refine kU (wpAny_sequenceKey a.typeIs (by decide) ?_);refine kU (o8 (name:=Str.ofString "__getitem__") a.typeIs Z5
  (pE Z5 a.typeIs entry_tuple_getitem ?_ (args_tuple_getitem _ _)))
 show wpAny _ _ (Builtin.Tuple.tupleItemsOf (.ref t) >>= _) _ _ s;refine kU (tupleItemsOf_ a ?_);refine kU (rY e ?_);rw[kz (by decide)];refine kU (fT c pl d ?_);have f:¬ ((((Aj items.size 0 lo:Nat):Int) == 0 && (1:Int) == 1 && (Aj items.size items.size hi - Aj items.size 0 lo) == items.size)=true):=by
  intro q;rw[Ek,Ek]at q;have q1:((Aj items.size 0 lo:Nat):Int)=0:=eq_of_beq q.1.1;have q2:Aj items.size items.size hi - Aj items.size 0 lo=items.size:=eq_of_beq q.2;exact hw ⟨by omega,by omega⟩
 show wpAny _ _ (if(((Aj items.size 0 lo:Nat):Int) == 0 && (1:Int) == 1 && (Aj items.size items.size hi - Aj items.size 0 lo) == items.size)=true then _ else _) _ _ s
 rw[km f,mP]
 first
  |exact kU (m:=Builtin.Tuple.tupleExact _) (nZ (kX ⟨_,rfl,kX h⟩) b)
  |exact kU (m:=Builtin.Tuple.tupleExact _) (nZ (kU (kX (kX ⟨_,rfl,kX h⟩))) b)
  |exact kU (kU (m:=Builtin.Tuple.tupleExact _) (nZ (kX (kX ⟨_,rfl,kX h⟩)) b))
  |exact kU (kU (m:=Builtin.Tuple.tupleExact _) (nZ (kX ⟨_,rfl,kX h⟩) b))
end
end HT
namespace L2
variable{X:Cx}{pos:Pos}{xs ys:List V}{A3 its' us:List Value}{α:Type}{j n t':Nat}{i:Int}{Zi:ZEX}{Z:St}{H:Hp}{s:Shared}{p:Addr}{A:Around}{x y:V}{u v:Value}{T:String}
abbrev TO:=St->Hp->(Option Int->Hp->Prop)->Prop
def PO(X:Cx)(e:Option Expr)(t:TO):Prop:=
 ∀(Zi:ZEX)(s:Shared)(Z:St)(H:Hp)(Q:Option Int->Hp->Prop),Inv X Zi Z H s->t Z H Q->
  wpAny (model X.prog X.w) X.A (evalPart e X.env) (λu s'=>∃o H',Inv X Zi Z H' s'/\IsPart u o/\Q o H') X.xe s
def YG:TO:=λ_ H Q=>Q none H
def U5(t:TE):TO:=λZ H Q=>t Z H λx H1=>∃i,x=.int i/\Q (some i) H1
section
variable{e:Expr}{te:TE}{lo hi:Option Expr}{tl th:TO}{p2:Pos}
def KP(X:Cx)(r:V->Option Int->Option Int->Hp->VK->Prop):Prop:=
 ∀(Zi:ZEX)(s:Shared)(Z:St)(H:Hp)(x:V)(v vl vu:Value)(lo hi:Option Int)(sl:Addr)(Q:VK),Inv X Zi Z H s->RelV x v->s.heap.IsSliceOf sl vl vu .none->IsPart vl lo->IsPart vu hi->r x lo hi H Q->
  ∃T id,typeLookup (.type T) "__getitem__"=pure (some (.builtin id))/\s.TypeIs v T/\wpAny (model X.prog X.w) X.A (getItem v (.ref sl)) (EP X Zi Z Q) X.xe s
def Xp(r:V->Option Int->Option Int->Hp->VK->Prop)(te:TE)(tl th:TO):TE:=λZ H Q=>te Z H λx H1=>tl Z H1 λl H2=>th Z H2 λu H3=>r x l u H3 Q
def DT(xs:List V)(lo hi:Option Int):List V:=(xs.drop (HT.Aj xs.length 0 lo)).take (HT.Aj xs.length xs.length hi - HT.Aj xs.length 0 lo)
theorem ZV(xs:List V)(lo hi:Option Int):(DT xs lo hi).length<=xs.length:=by
 unfold DT;rw[CI,GG];omega
def kE(K:ZEW):V->Option Int->Option Int->Hp->VK->Prop:=λx lo hi H Q=>∃a xs,x=.ref a/\AD K H a xs/\
 ¬ (HT.Aj xs.length 0 lo=0/\HT.Aj xs.length xs.length hi=xs.length)/\∀p,H p=none->Q (.ref p) (upd H p (.tup (DT xs lo hi)))
theorem xU:KP X (kE X.K):=by
 intro Zi s Z H x v vl vu lo hi sl Q I g j pl i h;obtain⟨a,xs,rfl,hx,hw,q⟩:=h;cases g;obtain⟨A3,r,e,d⟩:=I.tuple hx;have c:A3.toArray.size=xs.length:=by rw[Bm];exact r.length.symm
 refine⟨"tuple", _,PyProof.Rows.slot_tuple_getitem.lookup,e.typeIs,?_⟩;refine HT.zf e j pl i (by rw[c];exact hw) ?_ (by rw[c];exact d);rw[c];refine⟨.ref s.heap.objs.size,_,I.laid (t':=s.toks) (o:=.tup (DT xs lo hi)) (λb ob q=>B7 _ q) (Ad _) ?_,rfl,q _ (I.AI.fresh (Ad _))⟩;exact⟨CK (ZV xs lo hi) d,_,(r.drop (HT.Aj xs.length 0 lo)).take (HT.Aj xs.length xs.length hi - HT.Aj xs.length 0 lo),⟨IsTup.new _ _,λRm f=>by rw[BM _ rfl]at f;cases f;rfl⟩⟩
def l9(K:ZEW):R2:=λx y H Q=>∃a b xs ys,x=.ref a/\y=.ref b/\AD K H a xs/\AD K H b ys/\xs≠[]/\xs.length+ys.length<=sizeLine/\
 (ys=[]->Q (.ref a) H)/\(ys≠[]->∀p,H p=none->Q (.ref p) (upd H p (.tup (xs++ys))))
theorem Vals.Rz(r:Vals xs us):us=[]↔xs=[]:=by
 cases r with
 |nil=>simp
 |cons _ _=>simp
theorem sH:BH X (binaryOp .Add) (l9 X.K):=by
 intro Zi s Z H x y v u Q I i g h;obtain⟨a,b,xs,ys,rfl,rfl,ha,hb,hx,e,q1,q2⟩:=h;cases i;cases g;obtain⟨A3,d,j,_⟩:=I.tuple ha;obtain⟨Ba,c,p2,_⟩:=I.tuple hb;refine HT.zm j p2 (λz=>hx (d.Rz.mp z)) (λz=>⟨.ref a,H,I,rfl,q1 (c.Rz.mp z)⟩) (λz=>?_) (by rw[<- d.length,<- c.length];exact e);refine⟨.ref s.heap.objs.size,_,I.laid (t':=s.toks) (o:=.tup (xs++ys)) (λb ob q=>B7 _ q) (Ad _) ?_,rfl,q2 (λw=>z (c.Rz.mpr w)) _ (I.AI.fresh (Ad _))⟩;exact⟨by rw[C0];exact e,_,d.append c,⟨IsTup.new _ _,λRm f=>by rw[BM _ rfl]at f;cases f;rfl⟩⟩
end
noncomputable def Hb(n:Nat)(i:Int):Option Nat:=if 0<=i then(if i<n then some i.toNat else none)else if -(n:Int)<=i then some (i+n).toNat else none
def C2(xs:List α)(i:Int):Option α:=(Hb xs.length i).bind λj=>xs[j]?
theorem ck(h:Hb n i=some j):seqIndex? i n=some j/\j<n/\-(n:Int)<=i/\i<n:=by
 unfold Hb at h
 by_cases a:0<=i
 .rw[kz a]at h
  by_cases h1:i<n
  .rw[kz h1]at h;have e:i.toNat=j:=BE h;exact⟨by rw[seqIndex_of a h1,e],by omega,by omega,h1⟩
  .rw[km h1]at h;cases h
 .rw[km a]at h
  by_cases h1:-(n:Int)<=i
  .rw[kz h1]at h;have e:(i+n).toNat=j:=BE h;exact⟨by rw[seqIndex_neg (by omega) h1,e],by omega,h1,by omega⟩
  .rw[km h1]at h;cases h
theorem VJ{xs:List α}{v:α}(h:C2 xs i=some v):∃j,seqIndex? i xs.length=some j/\xs[j]?=some v/\j<xs.length/\-(xs.length:Int)<=i/\i<xs.length:=by
 unfold C2 at h;cases e:Hb xs.length i with
 |none=>rw[e]at h;cases h
 |some j=>
  rw[e]at h;obtain⟨h1,h2,b,a⟩:=ck e;exact⟨j,h1,h,h2,b,a⟩
theorem dX{xs:List α}{v:α}(h:xs[j]?=some v):C2 xs (j:Int)=some v:=by
 have a:j<xs.length:=(List.getElem?_eq_some_iff.mp h).1;have e:Hb xs.length (j:Int)=some j:=by
  unfold Hb;rw[kz (by omega),kz (by omega)];simp
 unfold C2;rw[e];exact h
def WW(b:Expr):Prop:=∀o i,subscripted b false o i=operate [o,i] (getItem o i)
def J3(X:Cx)(r:R2):Prop:=
 ∀(value a:Expr)(Zi:ZEX)(s:Shared)(Z:St)(H:Hp)(x y:V)(v u:Value)(Q:VK),Inv X Zi Z H s->RelV x v->RelV y u->r x y H Q->
  subscripted a false v u=operate [v,u] (getItem v u)->wpAny (model X.prog X.w) X.A (subscriptTail value a v u) (EP X Zi Z Q) X.xe s
def MN(X:Cx)(id:String)(r:V->List V->Hp->VK->Prop):Prop:=
 ∀(Zi:ZEX)(s:Shared)(Z:St)(H:Hp)(x:V)(xs:List V)(v:Value)(us:List Value)(Q:VK),Inv X Zi Z H s->RelV x v->Vals xs us->r x xs H Q->
  wpAny (model X.prog X.w) X.A (call (.builtin id) (v::us)) (EP X Zi Z Q) X.xe s
section
variable{a b:Expr}{ta tb:TE}
def TR(K:ZEW):R2:=λx y H Q=>∃p xs i v,x=.ref p/\y=.int i/\AQ K H p xs/\C2 xs i=some v/\Q v H
def J7(K:ZEW):R2:=λx y H Q=>∃p xs i v,x=.ref p/\y=.int i/\AD K H p xs/\C2 xs i=some v/\Q v H
def om:R2:=λx y H Q=>∃z i c,x=.str z/\y=.int i/\z.length<=sizeLine/\C2 z.cps.toList i=some c/\Q (.str ⟨#[c]⟩) H
theorem FY:J3 X (TR X.K):=by
 intro value b Zi s Z H x y v u Q I k g h d;obtain⟨p,xs,i,z,rfl,rfl,l,n,q⟩:=h;cases k;obtain⟨t,rfl⟩:=g;obtain⟨A3,r,pl,B⟩:=I.list l;obtain⟨j,h1,h2,C,A,o⟩:=VJ n;obtain⟨w,f,Fc⟩:=r.get h2;have m:=r.length;have hn:=Kq;have a:EP X Zi Z Q w s:=⟨z,H,I,Fc,q⟩
 by_cases e:0<=i
 .have c:i.toNat=j:=by
   rw[seqIndex_of e o]at h1;exact BE h1
  exact item_listR pl.isList e (by omega) (by rw[c];simpa using f) a d
 .have c:(i+(A3.toArray.size:Int)).toNat=j:=by
   rw[seqIndex_neg (by omega) A]at h1;rw[Bm,<- m];exact BE h1
  exact subscriptTail_builtinR (x:=w) pl.isList.typeIs slot_list_getitem.lookup
   (wpAny_getItem_list_neg (Q:=λr s'=>r=w/\EP X Zi Z Q r s') pl.isList (by omega) (by rw[Bm] <;> omega) (by omega) (by rw[c];simpa using f) ⟨rfl,a⟩) d
theorem Aa:J3 X (J7 X.K):=by
 intro value a Zi s Z H x y v u Q I d c h e;obtain⟨p,xs,i,z,rfl,rfl,f,k,q⟩:=h;cases d;obtain⟨t,rfl⟩:=c;obtain⟨A3,r,pl,m⟩:=I.tuple f;obtain⟨j,h1,h2,A,o,n⟩:=VJ k;obtain⟨w,l,Fc⟩:=r.get h2;have g:=r.length;have hn:=Kq;have b:EP X Zi Z Q w s:=⟨z,H,I,Fc,q⟩;exact subscriptTail_builtinR (x:=w) pl.typeIs slot_tuple_getitem.lookup
  (getItem_tuple (j:=j) (Q:=λr s'=>r=w/\EP X Zi Z Q r s') pl (by omega) (by omega) (by rw[Bm,<- g];exact h1) (by simpa using l) ⟨rfl,b⟩) e
theorem wZ:J3 X om:=by
 intro value a Zi s Z H x y v u Q I d b h e;obtain⟨z,i,c,rfl,rfl,o,g,q⟩:=h;obtain⟨t,rfl⟩:=d;obtain⟨t',rfl⟩:=b;obtain⟨j,h1,h2,p,l,k⟩:=VJ g;have f:z.cps.toList.length=z.length:=by simp[Str.length]
 rw[f]at h1 l k;have hn:=Kq;exact tail_any (typeIs_str s z t) slot_str_getitem.lookup (getItem_str (c:=c) (by
  have n:decide (i < -(2 ^ 63:Int))=false:=lx (by omega);have m:decide (i>=2 ^ 63)=false:=lx (by omega);rw[n,m,Bool.or_false]) (by rw[h1];simpa using h2) ⟨.str ⟨#[c]⟩,H,I.tok _,⟨_,rfl⟩,q⟩) e
theorem yZ(A3:List Value)(n j:Nat)(u:Value):Obj.mapSeq (·.setIfInBounds j u) { cls:=.type "list", data:=.seq A3.toArray n }={ cls:=.type "list", data:=.seq (A3.set j u).toArray n }:=by
 simp[Obj.mapSeq]
theorem Inv.lst(I:Inv X Zi Z H s)(h:H p=some (.lst xs)):
  ∃(A3:List Value)(n:Nat),Vals xs A3/\s.heap.get? p=some { cls:=.type "list", data:=.seq A3.toArray n }/\xs.length<=sizeLine:=by
 obtain⟨z,A3,n,r,e⟩:=I.AI p _ h;exact⟨A3,n,r,e,z⟩
theorem Inv.tZ{a:Nat}{f:Obj->Obj}(I:Inv X Zi Z H s)(h:H p=some (.lst xs))
  (ho:s.heap.get? p=some { cls:=.type "list", data:=.seq A3.toArray n }) (hf:f { cls:=.type "list", data:=.seq A3.toArray n }={ cls:=.type "list", data:=.seq its'.toArray a }) (r:Vals ys its') (hz:ys.length<=sizeLine) (t:Nat) :
  Inv X Zi Z (upd H p (.lst ys)) { s with heap:=s.heap.update p f,toks:=t }:=by
 have e:(s.heap.update p f).get? p=some { cls:=.type "list", data:=.seq its'.toArray a }:=by
  rw[EM f ho (by rw[hf] <;> rfl),hf]
 refine I.write (x:=p) (e:=p) (by rw[h];trivial) (.inl rfl) (λb u hb q=>(EB _ _ (B0 hb)).trans q) ⟨_,e⟩ ?_;exact⟨hz,its',a,r,e⟩
def oK:V->V->V->Hp->(Hp->Prop)->Prop:=λo i v H Q=>∃p xs k j,o=.ref p/\i=.int k/\H p=some (.lst xs)/\Hb xs.length k=some j/\Q (upd H p (.lst (xs.set j v)))
theorem set_list:Ua X oK:=by
 intro Zi s Z H o i v y z u Q I l m g h;obtain⟨p,xs,k,j,rfl,rfl,b,x,q⟩:=h;cases l;obtain⟨t,rfl⟩:=m;obtain⟨A3,n,r,ho,w⟩:=I.lst b;obtain⟨h1,h2,d,c⟩:=ck x;have a:=r.length;have hn:=Kq;have f:Inv X Zi Z (upd H p (.lst (xs.set j v))) { s with heap:=s.heap.update p (Obj.mapSeq (·.setIfInBounds j u)) }:=
  I.tZ b ho (yZ A3 n j u) (r.set g j) (by rw[Hw];exact w) s.toks
 by_cases e:0<=k
 .have hk:k.toNat=j:=by
   rw[seqIndex_of e c]at h1;exact BE h1
  exact PySem.W.ki_setAt ho e (by omega) (by rw[Bm,<- a];exact c) (by rw[hk];exact⟨_,f,q⟩)
 .have hk:(k+(A3.toArray.size:Int)).toNat=j:=by
   rw[seqIndex_neg (by omega) d]at h1;rw[Bm,<- a];exact BE h1
  exact PySem.W.ki_setBack ho (by omega) (by rw[Bm,<- a];exact d) (by omega) (by rw[hk];exact⟨_,f,q⟩)
theorem oy(lo hi:Option Int)(n:Nat):(sliceBounds lo hi none n).1=((HT.Aj n 0 lo:Nat):Int)/\(sliceBounds lo hi none n).2.1=((HT.Aj n n hi:Nat):Int)/\(sliceBounds lo hi none n).2.2=1:=by
 refine⟨?_,?_,rfl⟩
 .cases lo with
  |none=>simp[sliceBounds,HT.Aj]
  |some i=>
   simp only[sliceBounds,HT.Aj,ZDR,show(1:Int) > 0 by decide,ZAL]
   by_cases h:i<0
   .simp only[h,ZAL] <;> omega
   .simp only[h,if_false] <;> omega
 .cases hi with
  |none=>simp[sliceBounds,HT.Aj]
  |some i=>
   simp only[sliceBounds,HT.Aj,ZDR,show(1:Int) > 0 by decide,ZAL]
   by_cases h:i<0
   .simp only[h,ZAL] <;> omega
   .simp only[h,if_false] <;> omega
theorem yJ(A3:List Value)(lo hi:Option Int):slicePick A3.toArray lo hi none=((A3.drop (HT.Aj A3.length 0 lo)).take (HT.Aj A3.length A3.length hi - HT.Aj A3.length 0 lo)).toArray:=by
 obtain⟨h1,h2,a⟩:=oy lo hi A3.toArray.size;unfold slicePick;rw[h1,h2,a];simp only[sliceRange_one,pick_run,Bm] <;> rfl
def fq(K:ZEW):V->Option Int->Option Int->Hp->VK->Prop:=λx lo hi H Q=>∃a xs,x=.ref a/\AQ K H a xs/\∀p,H p=none->Q (.ref p) (upd H p (.lst (DT xs lo hi)))
theorem ak:KP X (fq X.K):=by
 intro Zi s Z H x v vl vu lo hi sl Q I e i pl f h;obtain⟨a,xs,rfl,hx,q⟩:=h;cases e;obtain⟨A3,r,d,g⟩:=I.list hx;have c:=r.length;refine⟨"list", _,slot_list_getitem.lookup,d.isList.typeIs,?_⟩;refine wpAny_getItem_list_slice d.isList i pl f .none (by simp) ?_ (by rw[Bm] <;> omega)
 rw[yJ,<- c];refine⟨.ref s.heap.objs.size,_,I.laid (t':=s.toks) (o:=.lst (DT xs lo hi)) (λb ob q=>B7 _ q) (Ad _) ?_,rfl,q _ (I.AI.fresh (Ad _))⟩;exact⟨CK (ZV xs lo hi) g,_,0,(r.drop (HT.Aj xs.length 0 lo)).take (HT.Aj xs.length xs.length hi - HT.Aj xs.length 0 lo),BM _ rfl⟩
noncomputable def Dz:V->Bool
 | .A7=>true
 | .bl _=>true
 | .int _=>true
 | .str _=>true
 |_=>false
noncomputable def DF:V->V->Bool
 | .A7,.A7=>true
 | .bl a,.bl b=>a == b
 | .bl a,.int b=>(if a then 1 else 0) == b
 | .int a,.bl b=>a == (if b then 1 else 0)
 | .int a,.int b=>a == b
 | .str a,.str b=>a == b
 |_,_=>false
theorem Pk(d:RelV y u)(c:RelV x v)(f:Dz y=true)(e:Dz x=true):SeqAt.EqAt A s u v (DF y x):=by
 cases y with
 |A7=>
  cases d;cases x with
  |A7=>cases c;exact SeqAt.EqAt.same _
  |bl b=>cases c;exact SeqAt.EqAt.none_bool b
  |int b=>obtain⟨t,rfl⟩:=c;exact SeqAt.EqAt.none_int b t
  |str b=>obtain⟨t,rfl⟩:=c;exact SeqAt.EqAt.none_str b t
  |_=>exact absurd (show false=true from e) CZ
 |bl a=>
  cases d;cases x with
  |A7=>cases c;exact SeqAt.EqAt.bool_none a
  |bl b=>cases c;exact SeqAt.EqAt.bool_bool a b
  |int b=>obtain⟨t,rfl⟩:=c;exact SeqAt.EqAt.bool_int a b t
  |str b=>obtain⟨t,rfl⟩:=c;exact SeqAt.EqAt.bool_str a b t
  |_=>exact absurd (show false=true from e) CZ
 |int a=>
  obtain⟨t',rfl⟩:=d;cases x with
  |A7=>cases c;exact SeqAt.EqAt.int_none a t'
  |bl b=>cases c;exact SeqAt.EqAt.int_bool a t' b
  |int b=>obtain⟨t,rfl⟩:=c;exact SeqAt.EqAt.int_int a t' b t
  |str b=>obtain⟨t,rfl⟩:=c;exact SeqAt.EqAt.int_str a t' b t
  |_=>exact absurd (show false=true from e) CZ
 |str a=>
  obtain⟨t',rfl⟩:=d;cases x with
  |A7=>cases c;exact SeqAt.EqAt.str_none a t'
  |bl b=>cases c;exact SeqAt.EqAt.str_bool a t' b
  |int b=>obtain⟨t,rfl⟩:=c;exact SeqAt.EqAt.str_int a t' b t
  |str b=>obtain⟨t,rfl⟩:=c;exact SeqAt.EqAt.str_str a t' b t
  |_=>exact absurd (show false=true from e) CZ
 |_=>exact absurd (show false=true from f) CZ
def Df(x:V)(u:Value):Bool:=match u with
 | .none=>DF .A7 x
 | .bool b=>DF (.bl b) x
 | .int i _=>DF (.int i) x
 | .str z _=>DF (.str z) x
 |_=>false
theorem bQ(r:RelV y u)(f:Dz y=true):Df x u=DF y x:=by
 cases y with
 |A7=>cases r;rfl
 |bl b=>cases r;rfl
 |int i=>obtain⟨t,rfl⟩:=r;rfl
 |str z=>obtain⟨t,rfl⟩:=r;rfl
 |_=>exact absurd (show false=true from f) CZ
theorem N9{x:V}:∀{xs:List V}{us:List Value},Vals xs us->xs.all Dz=true->us.any (Df x)=xs.any λy=>DF y x
 |_,_,.nil,_=>rfl
 |y::xs,u::us,.cons r t,f=>by
  rw[SQ,Ek]at f;rw[LO,LO,bQ r f.1,N9 t f.2]
theorem LH{A:Around}{s:Shared}{x:V}{v:Value}(b:RelV x v)(c:Dz x=true):∀{xs:List V}{us:List Value},Vals xs us->xs.all Dz=true->∀u∈us,SeqAt.EqAt A s u v (Df x u)
 |_,_,.nil,_=>λu a=>by cases a
 |y::xs,u::us,.cons r t,f=>λd a=>by
  rw[SQ,Ek]at f;rcases List.mem_cons.mp a with rfl|a
  .rw[bQ r f.1];exact Pk r b f.1 c
  .exact LH b c t f.2 d a
def Di(x:V)(xs:List V):Bool:=xs.any λy=>DF y x
def I0(K:ZEW)(neg:Bool):R2:=λx y H Q=>∃p xs,y=.ref p/\(AQ K H p xs∨AD K H p xs)/\Dz x=true/\xs.all Dz=true/\Q (.bl (if neg then !Di x xs else Di x xs)) H
theorem K5:BH X (compareOp .In) (I0 X.K false):=by
 intro Zi s Z H x y v u Q I b d h;obtain⟨p,xs,rfl,a,c,fs,q⟩:=h;cases d;rcases a with a|a
 .obtain⟨A3,r,pl,e⟩:=I.list a;refine SeqAt.in_listAt (Df x) pl.isList (λw hw=>LH b c r fs w (by simpa using hw)) ⟨.bl _,H,I,rfl,?_⟩
  rw[show A3.toArray.any (Df x)=A3.any (Df x) by simp,N9 r fs];exact q
 .obtain⟨A3,r,pl,e⟩:=I.tuple a;refine SeqAt.in_tupleAt (Df x) pl (λw hw=>LH b c r fs w (by simpa using hw)) ⟨.bl _,H,I,rfl,?_⟩
  rw[show A3.toArray.any (Df x)=A3.any (Df x) by simp,N9 r fs];exact q
theorem O7:BH X (compareOp .NotIn) (I0 X.K true):=by
 intro Zi s Z H x y v u Q I b d h;obtain⟨p,xs,rfl,a,c,fs,q⟩:=h;cases d;rcases a with a|a
 .obtain⟨A3,r,pl,e⟩:=I.list a;refine SeqAt.notIn_listAt (Df x) pl.isList (λw hw=>LH b c r fs w (by simpa using hw)) ⟨.bl _,H,I,rfl,?_⟩
  rw[show A3.toArray.any (Df x)=A3.any (Df x) by simp,N9 r fs];exact q
 .obtain⟨A3,r,pl,e⟩:=I.tuple a;refine SeqAt.notIn_tupleAt (Df x) pl (λw hw=>LH b c r fs w (by simpa using hw)) ⟨.bl _,H,I,rfl,?_⟩
  rw[show A3.toArray.any (Df x)=A3.any (Df x) by simp,N9 r fs];exact q
theorem E4:DI X (.builtin "len") (λxs H Q=>∃p ys,xs=[.ref p]/\(AQ X.K H p ys∨AD X.K H p ys)/\Q (.int ys.length) H):=by
 intro Zi s Z H xs us Q I r h;obtain⟨p,ys,rfl,b,q⟩:=h;obtain⟨u,rfl,d⟩:=vals1 r;cases d;have hn:=Kq;rcases b with b|b
 .obtain⟨A3,c,pl,e⟩:=I.list b;have a:=c.length;exact Calls.call_len_list pl.isList (by simp only[Bm] <;> omega) ⟨.int ys.length,H,I.tok _,⟨s.toks+1,by rw[Bm,a]⟩,q⟩
 .obtain⟨A3,c,pl,e⟩:=I.tuple b;have a:=c.length;exact len_tuple pl (by simp only[Bm] <;> omega) ⟨.int ys.length,H,I.tok _,⟨s.toks+1,by rw[Bm,a]⟩,q⟩
theorem fD:DI X (.builtin "len") (λxs H Q=>∃z,xs=[.str z]/\z.length<=sizeLine/\Q (.int z.length) H):=by
 intro Zi s Z H xs us Q I r h;obtain⟨z,rfl,a,q⟩:=h;obtain⟨u,rfl,t,rfl⟩:=vals1 r;have hn:=Kq;exact len_str (by omega) ⟨.int z.length,H,I.tok _,⟨_,rfl⟩,q⟩
theorem KS:DI X (.type "list") (λxs H Q=>∃p ys,xs=[.ref p]/\(AQ X.K H p ys∨AD X.K H p ys)/\∀l,H l=none->Q (.ref l) (upd H l (.lst ys))):=by
 intro Zi s Z H xs us Q I r h;obtain⟨p,ys,rfl,f,q⟩:=h;obtain⟨u,rfl,k⟩:=vals1 r;cases k;have i:∀(A3:List Value),Vals ys A3->ys.length<=sizeLine->∀(h':Heap)(c:Nat),(∀b o',s.heap.get? b=some o'->h'.get? b=some o')->
   h'.get? s.heap.objs.size=some { cls:=.type "list", dict:=none,data:=.seq A3.toArray c,slots:=#[] }->EP X Zi Z Q (.ref s.heap.objs.size) { s with heap:=h' }:=λA3 a d h' c kp e=>
  ⟨.ref s.heap.objs.size,_,I.laid (t':=s.toks) kp (Ad _) (show CL X.prog X.w _ h' _ (.lst ys)from⟨d,A3,c,a,e⟩),rfl,q _ (I.AI.fresh (Ad _))⟩
 rcases f with f|f
 .obtain⟨A3,a,pl,d⟩:=I.list f;have g:=a.length;obtain⟨o,ho,j,n,hd⟩:=pl.isList;exact call_list_seq p (.inl rfl) ho j hd (λh' c kp e=>i A3 a d h' c kp e) (by simp only[Bm] <;> omega)
 .obtain⟨A3,a,pl,d⟩:=I.tuple f;have g:=a.length;obtain⟨o,ho,j,n,hd⟩:=pl;exact call_list_seq p (.inr rfl) ho j hd (λh' c kp e=>i A3 a d h' c kp e) (by simp only[Bm] <;> omega)
theorem Sw:DI X (.type "tuple") (λxs H Q=>∃p ys,xs=[.ref p]/\((AQ X.K H p ys/\∀l,H l=none->Q (.ref l) (upd H l (.tup ys)))∨(AD X.K H p ys/\Q (.ref p) H))):=by
 intro Zi s Z H xs us Q I r h;obtain⟨p,ys,rfl,h⟩:=h;obtain⟨u,rfl,j⟩:=vals1 r;cases j;rcases h with⟨c,q⟩|⟨c,q⟩
 .obtain⟨A3,a,pl,d⟩:=I.list c;have f:=a.length;refine call_tuple_list pl.isList (λh' kp=>?_) (by simp only[Bm] <;> omega)
  have i:Inv X Zi Z H { s with heap:=h' }:=I.kept (t':=s.toks) kp
  have k:Inv X Zi Z (upd H h'.objs.size (.tup ys)) { s with heap:=h'.push { cls:=.type "tuple", data:=.seq A3.toArray } }:=
   i.laid (t':=s.toks) (λb o e=>B7 _ e) (Ad _) (show CL X.prog X.w _ _ _ (.tup ys)from⟨d,A3,a,⟨IsTup.new _ _,λRm g=>by rw[BM _ rfl]at g;cases g;rfl⟩⟩)
  exact⟨.ref h'.objs.size,_,k,rfl,q _ (i.AI.fresh (Ad _))⟩
 .obtain⟨A3,a,pl,d⟩:=I.tuple c;exact call_tuple_same pl ⟨.ref p,H,I,rfl,q⟩
def bp(K:ZEW)(T:String)(x:V)(H:Hp):Prop:=match x with
 | .str _=>T="str"
 | .int _=>T="int"
 | .ref p=>(T="list" /\ ∃xs,AQ K H p xs)∨(T="tuple" /\ ∃o,K.lookup p=some o/\o.cls=.type "tuple" /\ o.dict=none)∨
   (T="dict" /\ ((∃kvs,H p=some (.dK kvs))∨∃kvs,H p=some (.dT kvs)))∨(T="set" /\ ∃S n,H p=some (.set S n))∨(T="tuple" /\ ∃xs,H p=some (.tup xs))
 |_=>False
theorem mf(I:Inv X Zi Z H s)(r:RelV x v)(ty:bp X.K T x H):
  s.TypeIs v T/\∀a,v=.ref a->∃ob,s.heap.get? a=some ob/\ob.dict=none:=by
 cases x with
 |str z=>
  obtain⟨t,rfl⟩:=r;cases(show T="str" from ty);exact⟨typeIs_str s z t,λ_ e=>nomatch e⟩
 |int i=>
  obtain⟨t,rfl⟩:=r;cases(show T="int" from ty);exact⟨typeIs_int s i t,λ_ e=>nomatch e⟩
 |ref p=>
  cases r;rcases ty with⟨rfl,xs,d⟩|⟨rfl,o,hk,f,hd⟩|⟨rfl,hk⟩|⟨rfl,S,n,hk⟩|⟨rfl,xs,hk⟩
  .obtain⟨A3,_,pl,_⟩:=I.list d;refine⟨pl.isList.typeIs,λa e=>?_⟩;cases e;obtain⟨o,n,e,c,hd,_⟩:=pl;exact⟨o,e,hd⟩
  .refine⟨⟨o,I.EI p o hk,f⟩,λa e=>?_⟩;cases e;exact⟨o,I.EI _ o hk,hd⟩
  .have z:∃o,s.heap.get? p=some o/\o.ExactDict:=by
    rcases hk with⟨kvs,hk⟩|⟨kvs,hk⟩
    .obtain⟨_,_,_,_,o,_,_,e,ex,_⟩:=I.AI p _ hk;exact⟨o,e,ex⟩
    .obtain⟨_,_,_,_,o,_,_,e,ex,_⟩:=I.AI p _ hk;exact⟨o,e,ex⟩
   obtain⟨o,e,ex⟩:=z;refine⟨⟨o,e,ex.1⟩,λa b=>?_⟩;cases b;exact⟨o,e,ex.2.1⟩
  .obtain⟨o,_,_,_,e,ex,_⟩:=I.AI p _ hk;refine⟨⟨o,e,ex.1⟩,λa b=>?_⟩;cases b;exact⟨o,e,ex.2.1⟩
  .obtain⟨_,A3,_,⟨o,e,c,_⟩,dn⟩:=I.AI p _ hk;refine⟨⟨o,e,c⟩,λa b=>?_⟩;cases b;exact⟨o,e,dn o e⟩
 |_=>exact False.elim ty
def Np(K:ZEW)(T:String)(r:V->List V->Hp->VK->Prop)(to:TE)(t:TA):TE:=λZ H Q=>to Z H λx H1=>bp K T x H1/\t Z H1 λxs H2=>r x xs H2 Q
variable{o e:Expr}{es:List Expr}{to:TE}{t:TA}{name:Str}{apos BW:Pos}{id:String}{r:V->List V->Hp->VK->Prop}
end
def MtM(X:Cx)(id:String)(r:V->List V->Hp->VK->Prop):Prop:=
 ∀(Zi:ZEX)(s:Shared)(Z:St)(H:Hp)(x:V)(xs:List V)(v:Value)(us:List Value)(Q:VK),Inv X Zi Z H s->RelV x v->Vals xs us->r x xs H Q->
  wpAny (model X.prog X.w) X.A (call (.builtin id) (v::us)) (EP X Zi Z Q) X.xe s
theorem Vals.one:∀{x:V}{us:List Value},Vals [x] us->∃u,us=[u]/\RelV x u:=λr=>vals1 r
theorem Vals.eraseIdx:∀{xs:List V}{us:List Value}(i:Nat),Vals xs us->Vals (xs.eraseIdx i) (us.eraseIdx i)
 |_,_,_,.nil=>.nil
 |_,_,0,.cons _ t=>t
 |_,_,i+1,.cons r t=>.cons r (Vals.eraseIdx i t)
theorem Vals.reverse(h:Vals xs us):Vals xs.reverse us.reverse:=by
 induction h with
 |nil=>exact .nil
 |cons r t a=>rw[ZDM,ZDM];exact Vals.append a (.cons r .nil)
theorem eO{α:Type}:∀(l:List α)(i:Nat),(l.eraseIdx i).length<=l.length
 | [],_=>Ad _
 |_::_,0=>D6 _
 |_::r,i+1=>Nat.succ_le_succ (eO r i)
section
variable{l b:Addr}{zs:List V}
theorem Inv.ba{f:Array Value->Array Value}(I:Inv X Zi Z H s)(b:H l=some (.lst xs))
  (e:s.heap.get? l=some { cls:=.type "list", data:=.seq A3.toArray n }) (hf:f A3.toArray=its'.toArray) (hv:Vals ys its') (hz:ys.length<=sizeLine) :
  Inv X Zi Z (upd H l (.lst ys)) { s with heap:=s.heap.update l (Obj.mapSeq f),toks:=t' }:=by
 have q:=PySem.IsL.update e f;rw[hf]at q;refine I.write (x:=l) (e:=l) (by rw[b];exact trivial) (.inl rfl) (λc u hb a=>(EB s.heap (Obj.mapSeq f) (B0 hb)).trans a) ⟨_,q⟩ ?_;exact⟨hz,its',_,hv,q⟩
theorem Inv.dN(I:Inv X Zi Z H s)(hv:Vals ys A3)(a:ys.length<=sizeLine):
  Inv X Zi Z (upd H s.heap.objs.size (.lst ys)) { s with heap:=s.heap.push { cls:=.type "list", data:=.seq A3.toArray },toks:=t' }:=
 I.laid (λ_ _ q=>B7 _ q) (Ad _) ⟨a,A3,0,hv,BM _ rfl⟩
theorem Inv.fresh(I:Inv X Zi Z H s):H s.heap.objs.size=none:=I.AI.fresh (Ad _)
theorem Inv.Rw(I:Inv X Zi Z H s)(a:H l=some (.lst xs)):xs.length<=sizeLine/\∃(A3:List Value)(n:Nat),Vals xs A3/\xs.length=A3.length/\s.heap.get? l=some { cls:=.type "list", data:=.seq A3.toArray n }:=by
 obtain⟨z,A3,n,r,e⟩:=I.AI l _ a;exact⟨z,A3,n,r,r.length,e⟩
def SA:V->List V->Hp->VK->Prop:=λx vs H Q=>∃l xs y,x=.ref l/\vs=[y]/\H l=some (.lst xs)/\xs.length<sizeLine/\Q .A7 (upd H l (.lst (xs++[y])))
theorem fM:MtM X "list.append" SA:=by
 intro Zi s Z H x vs v us Q I b c h;obtain⟨l,xs,y,rfl,rfl,a,f,q⟩:=h;cases b;obtain⟨u,rfl,d⟩:=c.one;obtain⟨z,A3,n,r,g,e⟩:=I.Rw a;refine call_meets F.slot_list_append ⟨_,e,rfl⟩ F.entry_list_append (F.args_list_append_2 _ _) (PySem.list_append l A3.toArray n u (by rw[Bm];omega)) ⟨e,?_⟩;refine⟨.A7,_,I.ba (its':=A3++[u]) a e (by simp) (r.append (.cons d .nil)) ?_,rfl,q⟩;rw[C0,Mn];omega
def rD:R2:=λx y H Q=>∃l b xs zs,x=.ref l/\y=.ref b/\H l=some (.lst xs)/\H b=some (.lst zs)/\xs.length+zs.length<=sizeLine/\∀p,H p=none->Q (.ref p) (upd H p (.lst (xs++zs)))
theorem NR:BH X (binaryOp .Add) rD:=by
 intro Zi s Z H x y v u Q I c a h;obtain⟨l,b,xs,zs,rfl,rfl,f,g,k,q⟩:=h;cases c;cases a;obtain⟨z,A3,n,r,m,e⟩:=I.Rw f;obtain⟨j,Ba,n2,d,EG,i⟩:=I.Rw g;refine PySem.P.add_list e i ?_ (by rw[Bm,Bm];omega);have ea:A3.toArray++Ba.toArray=(A3++Ba).toArray:=by simp
 rw[ea];exact⟨.ref _,_,I.dN (t':=s.toks) (r.append d) (by rw[C0];omega),rfl,q _ I.fresh⟩
variable{prog:Program}{w:World}{E:Value->Shared->Prop}
set_option maxRecDepth 100000 in
end
end L2
namespace ZO
open PySem.W PySem.Calls
variable{l:OpenLaw}{n:Nat}{prog q:Program}
theorem zF{P:Params}{h:Heap}:∀(ns:List Int)(vs:List Value),WellAll P h vs (ns.map WData.int)->IntsAre vs ns:=by
 intro ns
 induction ns with
 |nil=>
  intro vs w;rw[SW]at w;cases w;exact .nil
 |cons n ns c=>
  intro vs w;rw[Bh]at w;cases w with
  |cons a b=>
   cases a;exact .cons _ _ (c _ b)
theorem kI(hn:l.most=some n){P:Params}{h:Heap}{args:List WData}{vals:List Value}
  (Jt:l.row.toRowW.claim.pre args=true) (TN:WellAll P h vals args) :
  ∃a vs ns,vals=[Value.ref a]/\args=[WData.list (ns.map WData.int)]/\h.get? a=some { cls:=.type "list", data:=.seq vs.toArray }/\IntsAre vs ns/\ns.length<=n:=by
 have g:WShape.hasAll [] args [.list .int]=true:=(pre_splitW Jt).1;have f:l.pre.holds [] { args:=args }=true:=(pre_splitW Jt).2;obtain⟨d,r,rfl,h1,h2⟩:=hasAllW_cons g;obtain rfl:=hasAllW_nil h2;obtain⟨xs,rfl,m⟩:=hasW_list h1;obtain⟨ns,rfl⟩:=items_int m;have b:ns.length<=n:=by
  unfold OpenLaw.pre at f;have e:(WTm.not (.lt (.lit (.int (n:Int))) (.len (.arg 0)))).holds [] { args:=[.list (ns.map .int)] }=true:=by
   have e:=(holds_andW f).1;rw[hn]at e;exact e
  have c:=condW_of e (w_not (w_lt w_lit (w_len_list (w_arg rfl))));rw[AW]at c;refine ZDN λq=>?_;have k:(n:Int)<((ns.length:Nat):Int):=by omega
  first
   | (rw[kc k]at c;exact absurd c (by decide))
   | (simp at c;omega)
 cases TN with
 |cons j i=>
  cases i;cases j with
  |list ho KA=>exact⟨_,_,ns,rfl,rfl,ho,zF ns _ KA,b⟩
theorem lI(l:OpenLaw)(args:List WData):l.row.toRowW.claim.post args (.bool true) args=true:=
 postW_of (r:=l.row.toRowW) (X:=(true == true))
  (show WShape.has [] (.bool true) .bool=true by first|rfl|decide|simp[WShape.has,WShape.arms,WShape.armsAll])
  (show(WTm.eq .res (.lit (.bool true))).value [] { args:=args,res:=some (.bool true),after:=args }=some (.bool (true == true))from w_eq_bool (w_res rfl) w_lit) rfl
theorem vm{loose:List Str}{XP:(ZEY)->Heap->Prop}{YP:World->Heap->Prop}{d:DefRec}
  (hn:l.most=some n) (OL:d.params.defaults=[])
  (call:∀(w:World)(s₀ b:Shared)(mg mb:ZEY)(h:Addr)(o:Obj)(i cd e:Value)(a:Addr)(vs:List Value)(ns:List Int),
   Ground q loose [] XP w s₀ mg mb b.heap->YP w b.heap->
   b.heap.get? h=some o->o.data=.func (docDef d.name d.params d.body d.scope i cd e)->b.heap.CodeRec cd d.name->mg d.name=some (.ref h)->
   b.heap.get? a=some { cls:=.type "list", data:=.seq vs.toArray }->IntsAre vs ns->ns.length<=n->b.gens=#[]->
   codeAny (model l.prog w) callerA (.call (.ref h) ⟨[.ref a],[]⟩) (λr s'=>r=.ok (.ret (.bool true))/\OldK b.heap s'.heap/\s'.os=b.os/\AllBare s'.gens) b) :
  WalkO q loose XP YP l.row.toRowW d [] (λf vs=>PySem.call f vs):=by
 intro w s₀ b mg mb G Y h o i cd e x kV ho hd GS j NY t args vals as Jt ZEV k TN s;obtain rfl:x=.none:=Dflts.none j OL;obtain rfl:kV=.none:=Dflts.noKw j;obtain⟨a,vs,ns,rfl,rfl,Yb,c,g⟩:=kI hn Jt TN;refine enter_call (zE (call w s₀ b mg mb h o i cd e a vs ns G Y ho (fd_plain hd) GS NY Yb c g t) λr s' m=>?_);obtain⟨rfl,h2,v,u⟩:=m;exact⟨.inl ⟨.bool true,.bool true,[],rfl,λ_=>rfl,.bool true,lI l _,λ_=>⟨List.Pairwise.nil,λ_ p=>(nomatch p)⟩⟩,h2,v,u⟩
end ZO
namespace L2
variable{w:World}{mg:ZEY}{a f:Addr}{fd:FuncData}{qual x:Str}{sp:Sp}{loose ps:List Str}{X:Cx}{A B c:Prop}
theorem iV:∀{vs:List Value}{ns:List Int},IntsAre vs ns->Vals (ns.map V.int) vs
 |_,_,.nil=>.nil
 |_,_,.cons n t h=>.cons ⟨t,rfl⟩ (iV h)
def VN(H:Hp):Prop:=∀b,H b=none∨∃o xs,H b=some (.Ho o (.lst xs))
theorem rG{P:Program}{K:ZEW}{mb:ZEY}{CX:Fq}{k:Nat}{l:Addr}{c:Shared}{vs:List Value}{ns:List Int}
  (KX:K.In c.heap) (Lo:c.heap.Ns mainGlobals mg) (hb:c.heap.Ns builtinsNs mb) (j:∀x:Str,x ≠"__name__" -> mb x=bootBuiltins x) (I:c.heap.NoLimit) (N:c.gens=#[])
  (ha:c.heap.get? a=some { cls:=.type "list", data:=.seq vs.toArray }) (hi:IntsAre vs ns) (hl:ns.length<=sizeLine) (hr:Bp k callerA)
  (F:∀Zl:Heap,K.In Zl->Zl.Ns mainGlobals mg->DK P w K mg Zl CX k l fd [x] sp) (lA:∀(s:Shared)(u:Value),BindsTo s fd ⟨[u],[]⟩ [(x,u)])
  (FI:∀H:Hp,VN H->AQ K H a (ns.map V.int)->sp [.ref a] H (λv _=>v=.bl true) λ_ _ _=>False)
  (Th:∀H e s',CX [] H c (λ_ _ _=>False) e s'->False) :
  codeAny (model P w) callerA (.call (.ref l) ⟨[.ref a],[]⟩) (λr s'=>r=.ok (.ret (.bool true))/\OldK c.heap s'.heap/\s'.os=c.os/\AllBare s'.gens) c:=by
 have t:=iV hi;have G:=hi.length
 -- from an abstract heap in ZDr nothing but GO iA may be tracked
 have f:∀H:Hp,VN H->AQ K H a (ns.map V.int)->Bk P w H c.heap->(∀b,H b≠none->b=a)->(H a≠none->K.lookup a=none)->
   codeAny (model P w) callerA (.call (.ref l) ⟨[.ref a],[]⟩) (λr s'=>r=.ok (.ret (.bool true))/\OldK c.heap s'.heap/\s'.os=c.os/\AllBare s'.gens) c:=by
  intro H B O AI C R;have A:∀{b:Addr}{o:Obj},c.heap.get? b=some o->H b=none->(Ii c.heap H).get? b=some o:=λe n=>qF e n;have U:∀{b:Addr}{o:Obj}{es:Array DictEntry}{ep:Nat},c.heap.get? b=some o->o.data=.dict es ep->H b=none:=λ{b o es ep}e d=>by
   cases q:H b with
   |none=>rfl
   |some u=>
    have p:b=a:=C b (by rw[q];simp);subst p;rw[ha]at e;cases e;have d':Data.seq vs.toArray _=Data.dict es ep:=d;cases d'
  have i:∀{b:Addr}{m:ZEY},c.heap.Ns b m->(Ii c.heap H).Ns b m:=λ{b m}AJ=>by obtain⟨o,es,ep,e,d,r⟩:=AJ;exact⟨o,es,ep,A e (U e d),d,r⟩
  have y:K.In (Ii c.heap H):=λb o e=>A (KX b o e) (by
   cases q:H b with
   |none=>rfl
   |some u=>
    have p:b=a:=C b (by rw[q];simp);subst p;rw[R (by rw[q];simp)]at e;cases e)
  have Q:Mod K mg (Ii c.heap H):=⟨y,i Lo,⟨mb,i hb,j⟩,let ⟨mc,h1,h2⟩:=I;⟨mc,i h1,h2⟩⟩;have e0:Ki P w K mg (Ii c.heap H) callerA [] c H:=⟨rfl,Q,λb o e=>y9 e,Nat.le_of_eq (y6 _ _),trivial,λb hb=>absurd (show b∈([]:List Addr)from hb) (by simp),AI,.of_eq N⟩;refine zE ((F _ y (i Lo)).run callerA [] c H ⟨[.ref a],[]⟩ [.ref a] [.ref a] _ _ hr e0 (lA c (.ref a)) (.cons rfl .nil) (FI H B O)) λr s' h=>?_;cases r with
  |error e=>exact(Th H e s' h).elim
  |ok S=>
   cases S with
   |next=>exact False.elim h
   |brk=>exact False.elim h
   |cont=>exact False.elim h
   |ret u=>
    obtain⟨v,H',os,bare,un,M,J,q⟩:=h;have L:v=.bl true:=q;subst L;obtain rfl:u=Value.bool true:=J;refine⟨rfl,OldK.of_keep λb o e=>?_,os,bare⟩;cases q:H b with
    |none=>exact un.keep b o e q (by intro z;exact absurd (show b∈([]:List Addr)from z) (by simp)) (by simp)
    |some u=>
     rcases B b with z|⟨ob,xs,z⟩
     .rw[q]at z;cases z
     .have E:=un.G2 b ob _ z;obtain⟨D,_⟩:=AI b _ z;obtain⟨T,_⟩:=M b _ E;rw[e]at D;cases D;exact T
 cases hk:K.lookup a with
 |some o=>
  -- GO iA is one of GO ZDs own objects
  have e:=KX a o hk;rw[ha]at e;cases e;refine f (λ_=>none) (λ_=>.inl rfl) (.inr ⟨_,vs.toArray,_,hk,rfl,rfl,rfl,by rw[Bm,G];exact hl,by simpa using t⟩) (λb u z=>by have g:(none:Option HO)=some u:=z;cases g) (λb z=>absurd rfl z) λz=>absurd rfl z
 |none=>
  refine f (λb=>if b=a then some (.Ho { cls:=.type "list", data:=.seq vs.toArray } (.lst (ns.map V.int)))else none) (λb=>?_) (.inl (.inr ⟨{ cls:=.type "list", data:=.seq vs.toArray },kz rfl⟩)) (λb u z=>?_) (λb z=>?_) λ_=>hk
  .by_cases hb:b=a
   .exact .inr ⟨_,_,kz hb⟩
   .exact .inl (km hb)
  .by_cases hb:b=a
   .have g:=(kz hb).symm.trans z;cases g;subst hb;exact⟨ha,by rw[AW];exact hl,vs,_,t,ha⟩
   .have g:=(km hb).symm.trans z;cases g
  .by_cases hb:b=a
   .exact hb
   .exact absurd (km hb) z
theorem ZCX{l:PySem.W.OpenLaw}{n k:Nat}{q:Program}{XP:(ZEY)->Heap->Prop}{YP:World->Heap->Prop}{d:DefRec}{K:Params->ZEW}{CX:World->Fq}{sp:World->Sp}
  (hn:l.most=some n) (R5:n<=sizeLine) (OL:d.params.defaults=[]) (r:Bp k callerA)
  (y:∀(w:World)(h:Heap),YP w h->(K w.params).In h)
  (F:∀(w:World)(mg:ZEY)(j:Addr)(h:Heap),(K w.params).In h->h.Ns mainGlobals mg->mg d.name=some (.ref j)->
   ∃fd:FuncData,(∀(s:Shared)(u:Value),BindsTo s fd ⟨[u],[]⟩ [(x,u)])/\
    ∀Zl:Heap,(K w.params).In Zl->Zl.Ns mainGlobals mg->DK l.prog w (K w.params) mg Zl (CX w) k j fd [x] (sp w))
  (FI:∀(w:World)(H:Hp)(a:Addr)(ns:List Int),ns.length<=n->VN H->AQ (K w.params) H a (ns.map V.int)->sp w [.ref a] H (λv _=>v=.bl true) λ_ _ _=>False)
  (Th:∀(w:World)(H:Hp)(s:Shared)(e:Value)(s':Shared),CX w [] H s (λ_ _ _=>False) e s'->False) :
  PySem.W.WalkO q loose XP YP l.row.toRowW d [] (λf vs=>PySem.call f vs):=by
 refine ZO.vm hn OL λw s₀ p mg mb j o D cd C a vs ns G Y ho hd GS NY Yb i c t=>?_;have m:=y w _ Y;obtain⟨fd,hb,B⟩:=F w mg j _ m G.T.g NY;exact rG m G.T.g G.T.b G.T.builtins G.T.nolimit t Yb i (CK c R5) r B hb (λH A z=>FI w H a ns c A z) λH e s'=>Th w H p e s'
noncomputable def Nk(s:Stmt):Arguments:=match s with
 | .FunctionDef _ a _ _ _ _ _ _ _ _=>a
 |_=>{ posonlyargs:=[],args:=[],vararg:=none,kwonlyargs:=[],kw_defaults:=[],kwarg:=none,defaults:=[] }
def Kn(s:Stmt):List Stmt:=match s with
 | .FunctionDef _ _ b _ _ _ _ _ _ _=>b
 |_=>[]
noncomputable def Ae(s:Stmt):Scope:=match s with
 | .FunctionDef _ _ _ _ _ _ sc _ _ _=>sc
 |_=>{ kind:=.function,names:=[],isGenerator:=false,isCoroutine:=false }
abbrev FO:Fq:=λ_ _ _ _ _ _=>False
abbrev E0:XK:=λ_ _ _=>False
theorem To:Passes FO X E0:=λ_ _ _ _ _ _ _ h=>h.elim
structure AH (K:ZEW) (x qual:Str) (st:Stmt) (f:Addr) (fd:FuncData):Prop where
 ex:∃(oc:Value)(od:Option Addr)(kV doc pm:Value)(an:Option Addr)(AX ct:Value)(GX:Array (Option Value)),
  fd=PySem.W.fnOf x qual (Nk st) (Kn st) (Ae st) .none kV doc pm an AX ct/\K.lookup f=some ⟨oc,od,.func fd,GX⟩/\PySem.W.codeIn K AX qual=true
 kp:PySem.W.keepIn K (.ref f)=true
section
variable{P:Program}{K:ZEW}{Zl:Heap}
theorem AH.ok{st:Stmt}{N:List Str}{k:Nat}(F:AH K x qual st f fd)(S:Ax N ps (Ae st))(len:∀vs H Q E,sp vs H Q E->vs.length=ps.length)
  (Nl:∀(AX:Value)(A:Around)(outer:List Env)(s:Shared)(H:Hp)(vs:List V)(Q:VK)(E:XK),Bp k (A.deeper (envOfC qual (Ae st) s.heap.objs.size f AX))->sp vs H Q E->
   ∃t,Cv (KW FO P w K mg Zl N qual (Ae st) f AX A outer s H E).NV (Kn st) t/\t { nx:=λ_ H'=>Q .A7 H',rt:=Q } (start N vs) H):DK P w K mg Zl FO (k+1) f fd ps sp:=by
 obtain⟨e,od,kV,c,d,g,AX,ct,GX,rfl,a,GS⟩:=F.ex;refine ZCT a GS S len λA outer s H vs Q E b FI=>?_;obtain⟨t,h,q⟩:=Nl AX A outer s H vs Q E b FI;exact⟨t,h.NV,q⟩
theorem AH.binds{st:Stmt}(F:AH K x qual st f fd)
  (h:∀(kV a b:Value)(c:Option Addr)(AX ct:Value)(us:List Value),us.length=ps.length->bindArgs (PySem.W.fnOf x qual (Nk st) (Kn st) (Ae st) .none kV a b c AX ct) ⟨us,[]⟩=pure (ps.zip us)):Binds K fd ps []:=by
 obtain⟨d,od,kV,a,b,c,AX,ct,GX,rfl,e,GS⟩:=F.ex;exact .all (h kV a b c AX ct)
theorem yC{st:Stmt}{e:Value}{od d:Option Addr}{GX:Array (Option Value)}{kV a b AX ct:Value}(l:K.lookup f=some ⟨e,od,.func (PySem.W.fnOf x qual (Nk st) (Kn st) (Ae st) .none kV a b d AX ct),GX⟩)
  (c:PySem.W.codeIn K AX qual=true) (k:PySem.W.keepIn K (.ref f)=true):AH K x qual st f (PySem.W.fnOf x qual (Nk st) (Kn st) (Ae st) .none kV a b d AX ct):=⟨⟨e,od,kV,a,b,d,AX,ct,GX,rfl,l,c⟩,k⟩
end
theorem BJ{A:Around}{k:Nat}(a:Bp k A):A.units+1<cLine:=LS (Nat.add_le_add_left (by decide:1<=64) _) a.units
theorem Br(h:B):if false=true then A else B:=by
 rw[km CZ];exact h
theorem Vv(h:A):if true=true then A else B:=by
 rw[kz rfl];exact h
theorem B9[Decidable c](h1:c->A)(h2:¬ c->B):if c then A else B:=by
 by_cases h:c
 .rw[kz h];exact h1 h
 .rw[km h];exact h2 h
theorem Ry[Decidable c](a:c)(h:B):if(!decide c)=true then A else B:=by
 rw[kc a];exact Br h
def A8(H H':Hp):Prop:=∀b o,H b=some o->H' b=some o
theorem A8.refl(H:Hp):A8 H H:=λ_ _ h=>h
theorem A8.trans{H H1 H2:Hp}(a:A8 H H1)(b:A8 H1 H2):A8 H H2:=λc o h=>b c o (a c o h)
theorem A8.seq{K:ZEW}{H H':Hp}{xs:List V}(e:A8 H H')(h:AQ K H a xs):AQ K H' a xs:=by
 rcases h with(h|⟨o,h⟩)|h
 .exact .inl (.inl (e _ _ h))
 .exact .inl (.inr ⟨o,e _ _ h⟩)
 .exact .inr h
end L2
set_option maxHeartbeats 4000000
namespace L2
variable{α:Type}{outer scope:Scope}{env:Env}{X Y:Cx}{c elt tg:Expr}{A:Around}{E:Value->Shared->Prop}{s s2 s4:Shared}{cl closure:List (Str×Addr)}{qual x y z:Str}{ce:Option Str}{C a acc it n p:Addr}{w:World}{ifs:List Expr}{pos px:Pos}{R:Result->Shared->Prop}{Zi:ZEX}{ws Z:St}{H H' H1 H2 H4:Hp}{js:List Nat}{tt:TT}{te:TE}{J:It}{tn:Nat->Heap->Prop}{i j n0 t':Nat}{v:Value}{wi:TI}{N:List Str}{tp:Bool}{xs ys:List V}{A3:List Value}
theorem qH{β:Type}{l:List α}{f:α->β->Sem (ForInStep β)}(g:β->α->β)(h:∀x∈l,∀c,f x c=pure (.yield (g c x))):∀c,forIn l c f=pure (l.foldl g c):=by
 induction l with
 |nil=>intro c;rfl
 |cons x l a=>
  intro c;rw[List.forIn_cons,h x CJ,pure_bind];exact a (λy b=>h y (Ca _ b)) (g c x)
noncomputable def L7(cells:List (Str×Addr))(cs:List (Str×Addr))(x:Str×NameKind):List (Str×Addr):=
 if x.2=.free then(x.1,(cells.lookup x.1).getD 0)::cs else cs
def DS(cells:List (Str×Addr))(names:List (Str×NameKind)):List (Str×Addr):=names.foldl (L7 cells) []
theorem yy(h:∀x∈scope.names,x.2=.free->(env.cells.lookup x.1).isSome=true):closureFor scope env=pure (DS env.cells scope.names):=by
 simp only[closureFor];rw[qH (L7 env.cells) (λx hx c=>by
  obtain⟨n,k⟩:=x;unfold L7
  by_cases hk:k=NameKind.free
  .subst hk;have q:=h _ hx rfl;obtain⟨a,ha⟩:=Option.isSome_iff_exists.mp q;have b:env.cells.lookup n=some a:=ha;have d:cellOf env n=pure a:=by unfold cellOf;rw[b]
   simp[d,b]
  .have:(k == NameKind.free)=false:=by simpa using hk
   simp[this,hk])]
 rfl
theorem dB{cells:List (Str×Addr)}:∀(names:List (Str×NameKind))(acc:List (Str×Addr)),(∀y∈names,y.2=.free->(cells.lookup y.1).isSome=true)->
  (∀x c,acc.lookup x=some c->cells.lookup x=some c)->∀x c,(names.foldl (L7 cells) acc).lookup x=some c->cells.lookup x=some c
 | [],acc,_,ha,x,c,e=>ha x c e
 | (n,k)::r,acc,hs,ha,x,c,e=>by
  rw[Yu]at e;refine dB r _ (λy d=>hs y (Ca _ d)) (λx c e=>?_) x c e;unfold L7 at e
  by_cases hk:k=NameKind.free
  .rw[kz hk]at e;have q:=hs _ CJ hk;obtain⟨a,q⟩:=Option.isSome_iff_exists.mp q;have b:cells.lookup n=some a:=q;rw[Gy]at e
   by_cases hx:x=n
   .subst hx;simp only[pI,b,ZDS]at e;rw[b,<- e]
   .have hb:(x == n)=false:=by simpa using hx
    rw[hb]at e;exact ha x c e
  .rw[km hk]at e;exact ha x c e
theorem Wh{cells:List (Str×Addr)}{x:Str}:∀(names:List (Str×NameKind))(acc:List (Str×Addr)),((acc.lookup x).isSome=true∨(x,NameKind.free)∈names)->
  ((names.foldl (L7 cells) acc).lookup x).isSome=true
 | [],acc,h=>by
  rcases h with h|h
  .exact h
  .cases h
 | (n,k)::r,acc,h=>by
  rw[Yu];refine Wh r _ ?_;unfold L7;rcases h with h|h
  .refine .inl ?_;split
   .rw[Gy];split
    .rfl
    .exact h
   .exact h
  .rcases List.mem_cons.mp h with e|h
   .cases e;refine .inl ?_;rw[kz rfl,Gy];simp
   .exact .inr h
theorem SH{env:Env}:∀(names:List (Str×NameKind))(x:Str),
  (names.map λ(n,k)=>if(k == NameKind.free && env.scope.kind == .function && env.kindOf n == some .cell)then(n,NameKind.cell)else(n,k)).lookup x =
   (names.lookup x).map λk=>if(k == NameKind.free && env.scope.kind == .function && env.kindOf x == some .cell)then NameKind.cell else k
 | [],x=>rfl
 | (n,k)::r,x=>by
  have b:=SH (env:=env) r x;rw[Bh]
  by_cases a:(k == NameKind.free && env.scope.kind == .function && env.kindOf n == some .cell)=true
  .show List.lookup x ((if(k == NameKind.free && env.scope.kind == .function && env.kindOf n == some .cell)=true then(n,NameKind.cell)else(n,k))::_)=_
   rw[kz a,Gy,Gy]
   by_cases hx:x=n
   .subst hx;simp only[pI,Sd];rw[kz a]
   .have hb:(x == n)=false:=by simpa using hx
    rw[hb];exact b
  .show List.lookup x ((if(k == NameKind.free && env.scope.kind == .function && env.kindOf n == some .cell)=true then(n,NameKind.cell)else(n,k))::_)=_
   rw[km a,Gy,Gy]
   by_cases hx:x=n
   .subst hx;simp only[pI,Sd];rw[km a]
   .have hb:(x == n)=false:=by simpa using hx
    rw[hb];exact b
noncomputable abbrev S8(X:Cx)(N:List Str)(scope:Scope)(cl:List (Str×Addr))(C:Addr)(s:Shared)(H:Hp)(fp:List Addr):Cx:=
 { X with N:=N,s₀:=s,H₀:=H,env:=compEnvC scope cl C X.env,outer:=X.stack,ex:=fp,fn:=λ_=>false,pn:=[],xe:=λ_ _=>False }
def Bc(js:List Nat)(Z:St):St:=js.map λj=>(Z[j]?).join
structure Gd (N:List Str) (outer scope:Scope) (x:Str) (Ao:List Str) (js:List Nat):Prop where
 kind:scope.kind=.function
 Ny:∀y∈scope.names,y.2≠.cell
 loc:∀y∈scope.names,y.2=.local->scope.names.lookup y.1=some .local
 tJ:scope.names.lookup x=some .local
 at':js.map (λj=>N[j]?)=Ao.map some
 cell:∀y∈Ao,outer.names.lookup y=some .cell
 free:∀y∈Ao,scope.names.lookup y=some .free
 all:∀y∈scope.names,y.2=.free->outer.names.lookup y.1=some .cell
 nd:(Ao++[x]).Nodup
def KQ(X:Cx)(ifs:List Expr)(t:TT):Prop:=
 ∀(Zi:ZEX)(s:Shared)(Z:St)(H:Hp)(Q:Bool->Hp->Prop),Inv X Zi Z H s->t Z H Q->
  wpAny (model X.prog X.w) X.A (forIn ifs true λc r=>if r=true then do let ok <- isTrue c X.env (eval c X.env);pure (ForInStep.yield ok)else pure (ForInStep.yield r)) (TP X Zi Z Q) X.xe s
def Yh:TT:=λ_ H Q=>Q true H
theorem nj{t:TT}(a:PT X c t):KQ X [c] t:=λZi s Z H Q I h=>by
 rw[List.forIn_cons];refine kU ?_;rw[kz rfl];refine kU (AN (a Zi s Z H Q I h) λb s1 q=>kX ?_);show wpAny _ _ (forIn [] b _) _ _ s1;rw[ja];exact kX q
def ME(J:It)(js:List Nat)(tt:TT)(te:TE)(Z:St)(H1:Hp)(acc:Addr)(Q:VK):Prop:=
 ∃W:Nat->Nat->Hp->Prop,(∃m,W 0 m (upd H1 acc (.lst [])))/\∀i m H2,W i m H2->
  (J.stop i H2/\Q (.ref acc) H2)∨(J.go i H2/\∀x H3,J.G4 i H2 x H3->tt (Bc js Z++[some x]) H3 λb H4=>
   if b=true then te (Bc js Z++[some x]) H4 λy H5=>∃ys,H5 acc=some (.lst ys)/\ys.length<sizeLine/\∃a,a < m/\W (i+1) a (upd H5 acc (.lst (ys++[y])))
   else ∃a,a < m/\W (i+1) a H4)
def PH(wi:TI)(js:List Nat)(tt:TT)(te:TE):TE:=λZ H Q=>wi Z H λJ H1=>∀acc,H1 acc=none->ME J js tt te Z H1 acc Q
theorem u0(l:List α)(a b:α):(l++[a]).set l.length b=l++[b]:=by
 induction l with
 |nil=>rfl
 |cons x l c=>simp[c]
noncomputable def HJ:Option Str->Addr->List (Str×Addr)
 |none,_=>[]
 |some x,n=>[(x,n)]
noncomputable def Q6:Option Str->Heap->Heap
 |none,h=>h
 |some _,h=>h.push { cls:=.type "cell", data:=.cell none }
structure Gu (N:List Str) (outer scope:Scope) (ce:Option Str) (zs Ao:List Str) (js:List Nat):Prop where
 kind:scope.kind=.function
 loc:∀y∈scope.names,y.2=.local->scope.names.lookup y.1=some .local
 one:∀y∈scope.names,y.2=.cell->ce=some y.1
 sub:∀x,ce=some x->x∈zs
 cf:∀(n:Nat)(cl:List (Str×Addr)),cellsFrom n scope.names cl=HJ ce n++cl
 pc:∀h:Heap,pushCells h scope.names=Q6 ce h
 at':js.map (λj=>N[j]?)=Ao.map some
 cell:∀y∈Ao,outer.names.lookup y=some .cell
 free:∀y∈Ao,scope.names.lookup y=some .free
 all:∀y∈scope.names,y.2=.free->outer.names.lookup y.1=some .cell
 nd:(Ao++zs).Nodup
abbrev J5(X:Cx)(N:List Str)(scope:Scope)(ce:Option Str)(cl:List (Str×Addr))(C:Addr)(s:Shared)(H:Hp)(fp:List Addr):Cx:=
 { X with N:=N,s₀:=s,H₀:=H,env:=compEnvC scope (HJ ce (C+1)++cl) C X.env,outer:=X.stack,ex:=fp,fn:=λy=>ce == some y,pn:=[],xe:=λ_ _=>False }
theorem nJ{M:Model}{a:Addr}{b:Option Addr}{c:Value}{outer:Env}{Q:Env->Shared->Prop}
  (cf:∀(n:Nat)(cl:List (Str×Addr)),cellsFrom n scope.names cl=HJ ce n++cl) (pc:∀h:Heap,pushCells h scope.names=Q6 ce h)
  (d:Q (newEnv scope s.heap.objs.size a (HJ ce (s.heap.objs.size+1)++closure) qual b c (some outer) builtinsNs) { s with heap:=Q6 ce (s.heap.push { cls:=.type "dict", data:=.dict #[] }) }) :
  wpAny M A (newFunctionEnv scope a closure [] qual b c (some outer)) Q E s:=by
 simp only[newFunctionEnv,ZDT,ZAL];refine kU (wpAny_alloc ?_);refine kU (wpAny_layCells _ (λname kind cells=>by cases e:kind == NameKind.cell <;> simp[e]) _ _ _ _ ?_)
 rw[cf,pc];rw[show({ s with heap:=s.heap.push { cls:=.type "dict", data:=.dict #[] } }:Shared).heap.objs.size=s.heap.objs.size+1 from D5 ..]
 refine kU ?_;rw[ja];exact kX (kX d)
theorem tU{c:Addr}(h:(HJ ce n++cl).lookup y=some c):(ce=some y/\c=n)∨(ce≠some y/\cl.lookup y=some c):=by
 cases ce with
 |none=>exact .inr ⟨λz=>(by cases z),h⟩
 |some x=>
  have h:((x,n)::cl).lookup y=some c:=h;rw[Gy]at h
  by_cases e:y=x
  .subst e;simp only[pI]at h;exact .inl ⟨rfl,(BE h).symm⟩
  .have hb:(y == x)=false:=by simpa using e
   rw[hb]at h;exact .inr ⟨λz=>e (BE z).symm,h⟩
theorem aO(h:ce≠some y):(HJ ce n++cl).lookup y=cl.lookup y:=by
 cases ce with
 |none=>rfl
 |some x=>
  show((x,n)::cl).lookup y=_;have hb:(y == x)=false:=beq_eq_false_iff_ne.mpr λz=>h (by rw[z]);rw[Gy,hb]
theorem zW:(HJ (some x) n++cl).lookup x=some n:=by
 show((x,n)::cl).lookup x=_;rw[Gy,pI]
theorem pb{prog:Program}{iter:Expr}{it acc:Value}(I:Nat->Shared->Prop)
  (turn:∀n s,I n s->wpAny (model prog w) A (pyNext it) (λr s1=>match r with
   |none=>R (.ok .next) s1
   |some v=>wpAny (model prog w) A (letOwnedTupleGo tg it v) (λ_ s2=>wpAny (model prog w) A (assign tg env v) (λ_ f=>
     wpAny (model prog w) A (forIn ifs true λc r=>if r=true then do let ok <- isTrue c env (eval c env);pure (ForInStep.yield ok)else pure (ForInStep.yield r)) (λok s4=>if ok=true then
      wpAny (model prog w) A (eval elt env) (λx d=>wpAny (model prog w) A (call (.builtin "list.append") [acc,x]) (λ_ b=>∃m,m<n/\I m b) (notedBy (model prog w) A env λe s'=>R (.error e) s') d) (notedBy (model prog w) A env λe s'=>R (.error e) s') s4
      else ∃m,m<n/\I m s4) (notedBy (model prog w) A env λe s'=>R (.error e) s') f)
     (notedBy (model prog w) A env λe s'=>R (.error e) s') s2) (notedBy (model prog w) A env λe s'=>R (.error e) s') s1) (notedBy (model prog w) A env λe s'=>R (.error e) s') s)
  (n:Nat) (h:I n s):codeAny (model prog w) A (.compLoop (.ListComp elt [⟨tg,iter,ifs,0⟩] scope pos) 0 it acc env) R s:=by
 refine codeAny_loop rfl I (λn s j=>(show wpAny _ A ((compTurn (.ListComp elt [⟨tg,iter,ifs,0⟩] scope pos) 0 it acc env).onRaise (λx=>do noteFrame x env;theTreesLotGoes x)) _ _ s from wpAny_noted ?_)) n h
 rw[compTurn_list];refine kU (wpAny_standAt (kU (ni (turn n s j) (λr s1 q1=>?_) λ_ _ z=>z)));cases r with
 |none=>exact kX q1
 |some v=>
  refine kU (ni q1 (λ_ s2 q2=>kU (ni q2 (λ_ f q3=>kU (ni q3 (λok s4 a=>?_) λ_ _ z=>z)) λ_ _ z=>z)) λ_ _ z=>z);cases ok with
  |false=>
   rw[km (by decide)]at a;exact kU (kX (kX ⟨rfl,a⟩))
  |true=>
   rw[kz rfl]at a;exact kU (kU (ni a (λx d i=>kU (ni i (λ_ b g=>kX (kX ⟨rfl,g⟩)) λ_ _ z=>z)) λ_ _ z=>z))
abbrev Zx(tt:TT)(te:TE)(acc:Addr)(W:Nat->Nat->Hp->Prop)(i m:Nat)(Z:St)(H:Hp):Prop:=
 tt Z H λb H4=>if b=true then te Z H4 λy H5=>∃ys,H5 acc=some (.lst ys)/\ys.length<sizeLine/\∃m',m' < m/\W (i+1) m' (upd H5 acc (.lst (ys++[y])))
  else ∃m',m' < m/\W (i+1) m' H4
def V1(g:TG)(n:Nat)(J:It)(js:List Nat)(tt:TT)(te:TE)(Z:St)(H1:Hp)(acc:Addr)(Q:VK):Prop:=
 ∃W:Nat->Nat->Hp->Prop,(∃m,W 0 m (upd H1 acc (.lst [])))/\∀i m H2,W i m H2->
  (J.stop i H2/\Q (.ref acc) H2)∨(J.go i H2/\∀x H3,J.G4 i H2 x H3->∀ws,ws.length=n->g x (Bc js Z++ws) H3 λσ8 H8=>∃us,us.length=n/\σ8=Bc js Z++us/\Zx tt te acc W i m σ8 H8)
def zb(CW:It->St->Hp->Addr->VK->Prop)(wi:TI):TE:=λZ H Q=>wi Z H λJ H1=>∀acc,H1 acc=none->CW J Z H1 acc Q
section
variable{iter:Expr}{zs Ao:List Str}{fp:List Addr}{g:TG}
theorem ZBj(h:scope.names.lookup x=some .cell):(relabel scope env).names.lookup x=some .cell:=by
 refine(SH (env:=env) scope.names x).trans ?_;rw[h];simp
theorem t9{n:Nat}{v:V}(h:(List.replicate n (none:Option V))[i]?=some (some v)):False:=by
 rw[jd]at h
 by_cases c:i<n
 .rw[kz c]at h;cases h
 .rw[km c]at h;cases h
theorem nP(S:Gu X.N X.env.scope scope ce zs Ao js)(I3:Inv X Zi Z H2 s2)(D:∀b∈fp,Ds X Zi H2 b)(L:∀b∈fp,b<s2.heap.objs.size){h1:Heap}
  {m:ZEY}(Lo:h1.Ns s2.heap.objs.size m) (old:∀b o,s2.heap.get? b=some o->h1.get? b=some o) (C:∀x,ce=some x->h1.IsCell (s2.heap.objs.size+1) none) :
  Inv (J5 X (Ao++zs) scope ce (DS X.env.cells scope.names) s2.heap.objs.size s2 H2 fp) [] (Bc js Z++List.replicate zs.length none) H2 { s2 with heap:=h1,toks:=t' }:=by
 have I:∀y∈scope.names,y.2=.free->(X.env.cells.lookup y.1).isSome=true:=λy g hk=>by
  obtain⟨c,e⟩:=I3.ok.has y.1 (.inl (S.all y g hk));rw[e];rfl
 have M:∀y c,(DS X.env.cells scope.names).lookup y=some c->X.env.cells.lookup y=some c:=dB scope.names [] I (λ_ _ e=>by cases e);have J:∀y k,(relabel scope X.env).names.lookup y=some k->k=.cell∨k=.free->scope.names.lookup y=some .free∨ce=some y:=λy k e hk=>by
  have s:=(SH (env:=X.env) scope.names y).symm.trans e;cases q:scope.names.lookup y with
  |none=>rw[q]at s;cases s
  |some Q=>
   rw[q]at s;cases Q with
   |free=>exact .inl rfl
   |cell=>exact .inr (S.one _ (LW q) rfl)
   |_=>simp at s;rcases hk with rfl|rfl <;> cases s
 have n:js.length=Ao.length:=by have:=oW List.length S.at';simpa using this
 have O:∀y c,X.env.cells.lookup y=some c->c<s2.heap.objs.size:=λy c e=>by
  obtain⟨v,o,ho,_⟩:=I3.cell y c e;exact Az ho
 have f:∀c v,s2.heap.IsCell c v->h1.IsCell c v:=λc v AJ=>by obtain⟨o,ho,hd⟩:=AJ;exact⟨o,old c o ho,hd⟩
 have t:∀y c,(HJ ce (s2.heap.objs.size+1)++DS X.env.cells scope.names).lookup y=some c->(ce=some y/\c=s2.heap.objs.size+1)∨(ce≠some y/\X.env.cells.lookup y=some c):=λy c e=>(tU e).imp id λz=>⟨z.1,M y c z.2⟩;have P:∀y∈Ao,ce≠some y:=λy g z=>(List.nodup_append.mp S.nd).2.2 y g y (S.sub y z) rfl;refine⟨⟨I3.ok.mod,S.kind,I3.ok.glob,I3.ok.blt,Ad _,λy z c H B=>?_,λy g=>?_,λy c G e=>?_,I3.ok.hd,I3.ok.frames,.inl rfl,λb hb=>⟨BL (L b hb),λy c e=>?_⟩,
  λb o e=>I3.bs b o e,CK I3.ok.G0 I3.sz,λb o e hb=>?_,λb hb T=>?_,I3.stack,I3.T9⟩,rfl,I3.bare,Un.kept old,⟨m,Lo,λi y v H B e3=>?_⟩,λy c e=>?_,I3.AI.fresh (Ad _),λy c e=>?_,λp U=>(by cases U),I3.AI.kept old,?_⟩
 .rcases t y c H with⟨a1,rfl⟩|⟨_,Ck⟩
  .rcases t z _ B with⟨σ,_⟩|⟨_,EX⟩
   .exact BE (a1.symm.trans σ)
   .exact absurd (O z _ EX) (ZDP (D6 _))
  .rcases t z c B with⟨_,rfl⟩|⟨_,EX⟩
   .exact absurd (O y _ Ck) (ZDP (D6 _))
   .exact I3.ok.inj y z c Ck EX
 .have G:scope.names.lookup y=some .free∨ce=some y:=g.elim (λg=>J y _ g (.inl rfl)) λg=>J y _ g (.inr rfl);show ∃c,List.lookup y (HJ ce (s2.heap.objs.size+1)++DS X.env.cells scope.names)=some c
  by_cases ex:ce=some y
  .rw[ex];exact⟨_,zW⟩
  .rw[aO ex];exact Option.isSome_iff_exists.mp (Wh scope.names [] (.inr (LW (G.resolve_right ex))))
 .rcases t y c e with⟨_,rfl⟩|⟨n1,_⟩
  .exact D6 _
  .exact absurd (eq_of_beq G) n1
 .rcases t y c e with⟨_,rfl⟩|⟨_,Ck⟩
  .exact JD (Hx (L b hb))
  .exact(D b hb).2.2.2.2.1 y c Ck
 .rcases(D b hb).2.2.2.1 with z|z
  .exact I3.ok.K3 b o e z
  .exact absurd (Cr (Cr (Az e) I3.ok.G0) z) (LR _)
 .rcases List.mem_cons.mp (I3.Ov b T)with z|z
  .exact(D b hb).2.1 z
  .exact(D b hb).2.2.1 z
 .have C:(Bc js Z).length=Ao.length:=by unfold Bc;rw[AW,n]
  have hi:i<Ao.length:=by
   by_cases hi:i<Ao.length
   .exact hi
   .have d:(Bc js Z++List.replicate zs.length none)[i]?=some (some v):=B;rw[Fj (by rw[C];omega),C]at d;exact(t9 d).elim
  have E:Ao[i]?=some y:=by
   have E:(Ao++zs)[i]?=some y:=H
   rwa [EN hi]at E
  have d:(Bc js Z)[i]?=some (some v):=by
   have d:(Bc js Z++List.replicate zs.length none)[i]?=some (some v):=B
   rwa [EN (by rw[C];exact hi)]at d
  have A:y∈Ao:=Cq E;unfold Bc at d;rw[B1]at d;cases F:js[i]? with
  |none=>rw[F]at d;cases d
  |some j=>
   rw[F]at d;have W:X.N[j]?=some y:=by
    have q:=oW (λl=>l[i]?) S.at';simp only[B1,F,E,Sd]at q;exact BE q
   have hσ:Z[j]?=some (some v):=by
    simp only[Sd,Option.some.injEq]at d;cases q:Z[j]? with
    |none=>rw[q]at d;cases d
    |some w=>rw[q]at d;simp at d;rw[d]
   obtain⟨m0,V,R⟩:=I3.loc;obtain⟨u,r,l⟩:=R j y v W hσ (.inr (.inl (S.cell y A)));refine⟨u,r,?_⟩;rcases l with⟨k,_⟩|⟨_,c,e,z⟩
   .have k':X.env.scope.names.lookup y=some .local:=k;rw[S.cell y A]at k';cases k'
   .have TJ:X.env.kindOf y=some .cell:=S.cell y A;have hk:(relabel scope X.env).names.lookup y=some .cell:=by
     refine(SH (env:=X.env) scope.names y).trans ?_;rw[S.free y A];simp[I3.ok.kind,TJ]
    obtain⟨Y,s⟩:=Option.isSome_iff_exists.mp (Wh (cells:=X.env.cells) scope.names [] (.inr (LW (S.free y A))));have K:=M y Y s;rw[e]at K;cases K;exact .inr ⟨.inl hk,c,(aO (P y A)).trans s,f c _ z⟩
 .rcases t y c e with⟨a,rfl⟩|⟨_,Ck⟩
  .exact⟨none,C _ a⟩
  .obtain⟨v,z⟩:=I3.cell y c Ck;exact⟨v,f c v z⟩
 .rcases t y c e with⟨_,rfl⟩|⟨_,Ck⟩
  .exact I3.AI.fresh (D6 _)
  .exact I3.Dy y c Ck
 .show(Bc js Z++List.replicate zs.length none).length=(Ao++zs).length;unfold Bc;simp[n]
theorem lr(f:Y.prog=X.prog)(hw:Y.w=X.w)(H:Y.K=X.K)(hA:Y.A=X.A)(k:Y.xe=λ_ _=>False)(G:Y.calm=true)
  (hg:PG Y tg g) (Ib:KQ Y ifs tt) (J8:PE Y elt te)
  (T:Turn X.prog X.w X.K tg J fp it tn) (qQ:∀b∈fp,Y.Ok->Ds Y [] (λ_=>none) b)
  (W:Nat->Nat->Hp->Prop) (Q:VK)
  (turn:∀i m H2,W i m H2->(J.stop i H2/\Q (.ref acc) H2)∨(J.go i H2/\∀x H3,J.G4 i H2 x H3->∀ws,ws.length=n0->g x (Bc js Z++ws) H3 λσ8 H8=>∃us,us.length=n0/\σ8=Bc js Z++us/\Zx tt te acc W i m σ8 H8))
  (I4:Inv Y [] (Bc js Z++ws) H4 s4) (Qe:tn 0 s4.heap) (S:∀b∈fp,H4 b=none) (F:Nat) (w4:W 0 F H4)
  (rA:ws.length=n0) (hR:∀H' s' ws,Inv Y [] (Bc js Z++ws) H' s'->Q (.ref acc) H'->R (.ok .next) s') :
  codeAny (model X.prog X.w) X.A (.compLoop (.ListComp elt [⟨tg,iter,ifs,0⟩] scope pos) 0 (.ref it) (.ref acc) Y.env) R s4:=by
 have AI:=I4.ok;have B:∀{H':Hp},(∀b∈fp,H' b=none)->∀b∈fp,Ds Y [] H' b:=λhn b hb=>⟨hn b hb,(qQ b hb AI).2⟩;rw[<- f,<- hw,<- hA];have no:∀{σ:Value->Shared->Prop}v s,Y.xe v s->σ v s:=λv s z=>by rw[k]at z;exact z.elim
 refine pb (λn s'=>∃i ws H',ws.length=n0/\Inv Y [] (Bc js Z++ws) H' s'/\tn i s'.heap/\(∀b∈fp,H' b=none)/\W i n H') ?_ F ⟨0,ws,H4,rA,I4,Qe,S,w4⟩;rintro n E⟨i,I,H5,V,I5,M0,S7,w5⟩;rcases turn i n H5 w5 with⟨stop,q⟩|⟨go,step⟩
 .have d:=T.done Y f hw H G i [] E _ H5 (λ_ _=>False) I5 (B S7) M0 stop;rw[<- f,<- hw]at d;refine ni d (λr D⟨p,I6⟩=>?_) λ_ _ z=>z.elim;subst p;exact hR H5 D I I6 q
 .have d:=T.item Y f hw H G i [] E _ H5 (λ_ _=>False) I5 (B S7) M0 go;rw[<- f,<- hw]at d;refine ni d (λr D⟨u,p,h6⟩=>?_) λ_ _ z=>z.elim;subst p;refine ni h6 (λ_ C⟨v,H7,I7,r7,y7,Uv,wu⟩=>?_) λ_ _ z=>z.elim;have qr:=I7.pinned (B wu) (T.obj _ _ Uv);refine ni (hg _ C _ H7 v u _ qr r7 (step v H7 y7 I V)) (λ_ s8⟨σ8,H8,I8,us,L,e8,l⟩=>?_) no;subst e8;have a:∀{σa:St}{Ha:Hp}{sa:Shared},Inv Y ([]++N2 fp C.heap) σa Ha sa->tn (i+1) sa.heap/\(∀b∈fp,Ha b=none):=λ{σa Ha sa}Ia=>by
   refine⟨T.keep _ _ _ Uv λb hb o e=>(Ia.pin (b,o) (El _ (El _ (PB hb e)))).1,λb hb=>?_⟩;obtain⟨o,e,d⟩:=T.obj _ _ Uv b hb;exact(Ia.pin (b,o) (El _ (El _ (PB hb e)))).2.1
  refine ni (Ib _ s8 _ H8 _ I8 l) (λb s9⟨H9,I9,j⟩=>?_) no;cases b with
  |false=>
   have P:∃c,c < n/\W (i+1) c H9:=j;obtain⟨c,t,w9⟩:=P;rw[km (by decide)];exact⟨c,t,i+1,_,H9,L,I9.Mz,(a I9).1,(a I9).2,w9⟩
  |true=>
   rw[kz rfl];rw[kz rfl]at j;refine ni (J8 _ s9 _ H9 _ I9 j) (λO D9⟨y,M,u5,h,ys,BB,hz,c,t,N⟩=>?_) no;refine ni (fM (X:=Y) _ D9 _ M (.ref acc) [y] (.ref acc) [O] (λ_ ZW=>ZW=upd M acc (.lst (ys++[y]))) u5 rfl (.cons h .nil) ⟨acc,ys,y,rfl,rfl,BB,hz,rfl⟩)
    (λ_ s11⟨_,ZW,Xv,_,U⟩=>?_) no
   subst U;exact⟨c,t,i+1,_,_,L,Xv.Mz,(a Xv).1,(a Xv).2,N⟩
theorem rZ{RR:Value->Addr->Result->Shared->Prop}(F:X.calm=true)(S:Gu X.N X.env.scope scope ce zs Ao js)
  (D:∀C s H,PG (J5 X (Ao++zs) scope ce (DS X.env.cells scope.names) C s H fp) tg g)
  (Ib:∀C s H,KQ (J5 X (Ao++zs) scope ce (DS X.env.cells scope.names) C s H fp) ifs tt) (J8:∀C s H,PE (J5 X (Ao++zs) scope ce (DS X.env.cells scope.names) C s H fp) elt te)
  (T:Turn X.prog X.w X.K tg J fp it tn) (I2:Inv X Zi Z H2 s2) (K7:tn 0 s2.heap) (j:∀b∈fp,Ds X Zi H2 b) (Q:VK) (G:∀acc,H2 acc=none->V1 g zs.length J js tt te Z H2 acc Q)
  (v:∀acc C H' s' m,Inv X Zi Z H' s'->Ds X Zi H' C->s'.heap.Ns C m->Q (.ref acc) H'->RR (.ref acc) C (.ok .next) s') :
  wpAny (model X.prog X.w) X.A (newList []) (λacc a=>wpAny (model X.prog X.w) X.A (newFunctionEnv scope X.env.globals (DS X.env.cells scope.names) [] X.env.qual none .none (some X.env)) (λZF s4=>
   codeAny (model X.prog X.w) X.A (.compStart (.ListComp elt [⟨tg,iter,ifs,0⟩] scope pos) 0 (.ref it) acc { ZF with scope:=relabel scope X.env }) (RR acc ZF.locals) s4) E a) E s2:=by
 refine nZ (nJ S.cf S.pc ?_);have f:Inv X Zi Z (upd H2 s2.heap.objs.size (.lst [])) { s2 with heap:=s2.heap.push { cls:=.type "list", data:=.seq ([]:List Value).toArray } }:=I2.dN (t':=s2.toks) .nil (C1 _)
 have r:∀b∈fp,b<s2.heap.objs.size:=λb hb=>by
  obtain⟨o,e,_⟩:=T.obj _ _ K7 b hb;exact Az e
 have hsz:(s2.heap.push { cls:=.type "list", data:=.seq ([]:List Value).toArray }).objs.size=s2.heap.objs.size+1:=D5 ..;have d:∀b∈fp,Ds X Zi (upd H2 s2.heap.objs.size (.lst [])) b:=λb hb=>⟨by rw[Ab (BL (r b hb))];exact(j b hb).1,(j b hb).2⟩;generalize y:({ s2 with heap:=s2.heap.push { cls:=.type "list", data:=.seq ([]:List Value).toArray } }:Shared)=a at f ⊢
 have k:a.heap=s2.heap.push { cls:=.type "list", data:=.seq ([]:List Value).toArray }:=by rw[<- y]
 have h:∀b∈fp,b<a.heap.objs.size:=λb hb=>by rw[k,hsz];exact Hx (r b hb)
 generalize i:Q6 ce (a.heap.push { cls:=.type "dict", data:=.dict #[] })=h1;have l:∀b o,(a.heap.push { cls:=.type "dict", data:=.dict #[] }).get? b=some o->h1.get? b=some o:=λb o e=>by
  rw[<- i];cases ce with
  |none=>exact e
  |some _=>exact B7 _ e
 have old:∀b o,a.heap.get? b=some o->h1.get? b=some o:=λb o e=>l b o (B7 _ e);have u:∀b o,s2.heap.get? b=some o->h1.get? b=some o:=λb o e=>old b o (by rw[k];exact B7 _ e);have I:h1.Ns a.heap.objs.size (λ_=>none):=(Heap.Ns.new a.heap (.type "dict")).keeps l;have M:∀x,ce=some x->h1.IsCell (a.heap.objs.size+1) none:=λx hx=>by
  subst hx;rw[<- i];have e:(a.heap.push { cls:=.type "dict", data:=.dict #[] }).objs.size=a.heap.objs.size+1:=D5 ..;exact⟨_,by rw[<- e];exact BM _ rfl,rfl⟩
 have L:=nP S f d h I old M (t':=a.toks);have n:tn 0 h1:=T.keep _ _ _ K7 λb _ o e=>u b o e;obtain⟨W,⟨z,t⟩,turn⟩:=G s2.heap.objs.size (I2.AI.fresh (Ad _));have c:codeAny (model X.prog X.w) X.A (.compLoop (.ListComp elt [⟨tg,iter,ifs,0⟩] scope pos) 0 (.ref it) (.ref s2.heap.objs.size) (compEnvC scope (HJ ce (a.heap.objs.size+1)++DS X.env.cells scope.names) a.heap.objs.size X.env))
   (RR (.ref s2.heap.objs.size) a.heap.objs.size) { a with heap:=h1 }:=by
  refine lr (X:=X) (Y:=J5 X (Ao++zs) scope ce (DS X.env.cells scope.names) a.heap.objs.size a (upd H2 s2.heap.objs.size (.lst [])) fp) (acc:=s2.heap.objs.size) (Q:=Q) rfl rfl rfl rfl rfl F (D _ _ _) (Ib _ _ _) (J8 _ _ _) T (λb hb ok=>⟨rfl,(ok.LC b hb).1,ok.K8 b hb,.inl hb,(ok.LC b hb).2,λp B=>by cases B⟩) W turn L n (λb hb=>(d b hb).1) z t (ZDH ..) λH' s' w I' q=>?_;obtain⟨m,hn,_⟩:=I'.loc;exact v _ _ H' s' m (f.ZCI (ch:=fp) I'.os I'.base I'.AI I'.bare λb hb=>⟨(d b hb).2.2.2.1,(d b hb).2.1,(d b hb).2.2.2.2.1,(d b hb).2.2.2.2.2⟩) (f.Ly (Ad _) I'.free) hn q
 exact codeAny_compStart_list c (T.self X.A 0 _ _ _ n c)
theorem u6(S:Gu X.N X.env.scope scope ce zs Ao js)(I:Inv X Zi Z H s):closureFor scope X.env=pure (DS X.env.cells scope.names):=yy λy a hk=>by
 obtain⟨c,e⟩:=I.ok.has y.1 (.inl (S.all y a hk));rw[e];rfl
theorem ZAk{CW:It->St->Hp->Addr->VK->Prop}(i:∀J Z H1 acc Q,CW J Z H1 acc Q->V1 g zs.length J js tt te Z H1 acc Q)(f:X.calm=true)(S:Gu X.N X.env.scope scope ce zs Ao js)(hi:PI X tg iter wi)
  (d:∀fp C s H,PG (J5 X (Ao++zs) scope ce (DS X.env.cells scope.names) C s H fp) tg g)
  (Ib:∀fp C s H,KQ (J5 X (Ao++zs) scope ce (DS X.env.cells scope.names) C s H fp) ifs tt) (J8:∀fp C s H,PE (J5 X (Ao++zs) scope ce (DS X.env.cells scope.names) C s H fp) elt te)
  (c:∀v,foldedSetIterable iter X.env v=pure v):PE X (.ListComp elt [⟨tg,iter,ifs,0⟩] scope pos) (zb CW wi):=by
 intro Zi s Z H Q I h;rw[eval_ListComp];refine wpAny_comprehension_free (use:=none) rfl c (u6 S I) S.kind S.loc (AN (hi Zi s Z H _ I h) λv s1 h1=>AN h1 λVL s2 h2=>?_);obtain⟨it,fp,tn,J,H2,e,I2,T,K7,j,hw⟩:=h2;subst e;refine rZ (RR:=λacc C=>compPost (model X.prog X.w) X.A X.xe none (EP X Zi Z Q) acc C) f S (d fp) (Ib fp) (J8 fp) T I2 K7 j Q (λacc ha=>i _ _ _ _ _ (hw acc ha)) λacc C H' s' m I' a hn q=>⟨m,hn,λh' SE=>?_⟩;exact⟨.ref acc,H',I'.turned (t':=s'.toks) (λb o hb e=>(SE.2 b hb).trans e) a.1 a.2.1 a.2.2.2.1 a.2.2.2.2.1 a.2.2.2.2.2,rfl,q⟩
theorem dS{n:Nat}{cl:List (Str×Addr)}:∀{names:List (Str×NameKind)},(∀y∈names,y.2≠.cell)->cellsFrom n names cl=cl
 | [],_=>rfl
 | (x,k)::r,h=>by
  have hk:(k == NameKind.cell)=false:=beq_eq_false_iff_ne.mpr (h _ CJ);rw[cellsFrom,hk];exact dS λy a=>h y (Ca _ a)
theorem eE{a:Heap}:∀{names:List (Str×NameKind)},(∀y∈names,y.2≠.cell)->pushCells a names=a
 | [],_=>rfl
 | (x,k)::r,h=>by
  have hk:(k == NameKind.cell)=false:=beq_eq_false_iff_ne.mpr (h _ CJ);rw[pushCells,hk];exact eE λy b=>h y (Ca _ b)
theorem Gu.x9(kind:scope.kind=.function)(Ny:∀y∈scope.names,y.2≠.cell)(loc:∀y∈scope.names,y.2=.local->scope.names.lookup y.1=some .local)
  (at':js.map (λj=>N[j]?)=Ao.map some) (cell:∀y∈Ao,outer.names.lookup y=some .cell) (free:∀y∈Ao,scope.names.lookup y=some .free)
  (all:∀y∈scope.names,y.2=.free->outer.names.lookup y.1=some .cell) (nd:(Ao++zs).Nodup):Gu N outer scope none zs Ao js:=
 ⟨kind,loc,λy a e=>absurd e (Ny y a),λx e=>(by cases e),λn cl=>dS Ny,λh=>eE Ny,at',cell,free,all,nd⟩
theorem Gu.len(S:Gu N outer scope ce zs Ao js)(Z:St):(Bc js Z).length=Ao.length:=by
 unfold Bc;rw[AW];have:=oW List.length S.at';simpa using this
theorem rh(S:Gu N outer scope ce [x] Ao js)(J:It)(Z:St)(H1:Hp)(acc:Addr)(Q:VK)(h:ME J js tt te Z H1 acc Q):V1 (Dr Ao.length) 1 J js tt te Z H1 acc Q:=by
 obtain⟨W,a,h⟩:=h;refine⟨W,a,λi m H2 w=>(h i m H2 w).imp id λz=>⟨z.1,λx H3 y ws hw=>?_⟩⟩
 match ws,hw with
 | [w],_=>
  have e:(Bc js Z++[w]).set Ao.length (some x)=Bc js Z++[some x]:=by rw[<- S.len Z];exact u0 _ _ _
  exact⟨[some x],rfl,e,by rw[e];exact z.2 x H3 y⟩
theorem rq(S:Gu X.N X.env.scope scope ce [x] Ao js)(hx:scope.names.lookup x=some .local∨(ce=some x/\scope.names.lookup x=some .cell)):
  PG (J5 X (Ao++[x]) scope ce cl C s H fp) (.Name x px) (Dr Ao.length):=
 Zj S.nd (by simp) (hx.imp (λh=>lookup_relabel_local h) λh=>ZBj h.2) (hx.symm.imp (λh=>by show(ce == some x)=true;rw[h.1];exact pI _) λh=>lookup_relabel_local h)
theorem Gd.G(S:Gd N outer scope x Ao js):Gu N outer scope none [x] Ao js:=.x9 S.kind S.Ny S.loc S.at' S.cell S.free S.all S.nd
theorem ZB7(b:X.calm=true)(S:Gd X.N X.env.scope scope x Ao js)(hi:PI X (.Name x px) iter wi)
  (Ib:∀fp C s H,KQ (S8 X (Ao++[x]) scope (DS X.env.cells scope.names) C s H fp) ifs tt) (J8:∀fp C s H,PE (S8 X (Ao++[x]) scope (DS X.env.cells scope.names) C s H fp) elt te)
  (a:∀v,foldedSetIterable iter X.env v=pure v:=by intro _;rfl):PE X (.ListComp elt [⟨.Name x px,iter,ifs,0⟩] scope pos) (PH wi js tt te):=
 ZAk (CW:=λJ Z H1 acc Q=>ME J js tt te Z H1 acc Q) (rh S.G) b S.G hi (λ_ _ _ _=>rq S.G (.inl S.tJ)) Ib J8 a
end
def CS(K:ZEW)(tp:Bool)(H:Hp)(a:Addr)(xs:List V):Prop:=match tp with
 |false=>AQ K H a xs
 |true=>AD K H a xs
theorem CS.or{K:ZEW}(h:CS K tp H a xs):AQ K H a xs∨AD K H a xs:=by
 cases tp
 .exact .inl h
 .exact .inr h
noncomputable def Nb(K:ZEW)(tp:Bool)(a:Addr)(xs:List V):It:=
 ⟨λi H=>CS K tp H a xs/\i<xs.length,λi H x H'=>H'=H/\xs[i]?=some x,λi H=>CS K tp H a xs/\xs.length<=i⟩
theorem sL{P:Program}{K:ZEW}(a it:Addr)(xs:List V):Turn P w K tg (Nb K false a xs) [it] it (λi h=>h.IsListIter it a i) where
 mem:=by simp
 obj:=(OC (P:=P) (w:=w) (K:=K) (tg:=tg) a it).obj
 keep:=(OC (P:=P) (w:=w) (K:=K) (tg:=tg) a it).keep
 item:=by
  intro X f hw g d i Zi s Z H E I c st b;obtain⟨j,hi⟩:=b;refine AN ((OC (P:=P) (w:=w) (K:=K) (tg:=tg) a it).item X f hw g d i Zi s Z H E I c st ⟨xs,xs[i],j,by simp[hi]⟩) λr s1 AJ=>by obtain⟨u,e,h⟩:=AJ;exact⟨u,e,AN h λ_ s2 D0=>by obtain⟨x,H',I',k,y,DA,l⟩:=D0;exact⟨x,H',I',k,⟨y.1,y.2 xs j⟩,DA,l⟩⟩
 done:=by
  intro X f hw g d i Zi s Z H E I c st b;exact(OC (P:=P) (w:=w) (K:=K) (tg:=tg) a it).done X f hw g d i Zi s Z H E I c st ⟨xs,b.1,b.2⟩
 self:=(OC (P:=P) (w:=w) (K:=K) (tg:=tg) a it).self
theorem ZAp{P:Program}{K:ZEW}(a it:Addr)(xs:List V):Turn P w K tg (Nb K true a xs) [it] it (λi h=>h.IsTupleIter it a i) where
 mem:=by simp
 obj:=(OZ (P:=P) (w:=w) (K:=K) (tg:=tg) a it).obj
 keep:=(OZ (P:=P) (w:=w) (K:=K) (tg:=tg) a it).keep
 item:=by
  intro X f hw g d i Zi s Z H E I c st b;obtain⟨j,hi⟩:=b;refine AN ((OZ (P:=P) (w:=w) (K:=K) (tg:=tg) a it).item X f hw g d i Zi s Z H E I c st ⟨xs,xs[i],j,by simp[hi]⟩) λr s1 AJ=>by obtain⟨u,e,h⟩:=AJ;exact⟨u,e,AN h λ_ s2 D0=>by obtain⟨x,H',I',k,y,DA,l⟩:=D0;exact⟨x,H',I',k,⟨y.1,y.2 xs j⟩,DA,l⟩⟩
 done:=by
  intro X f hw g d i Zi s Z H E I c st b;exact(OZ (P:=P) (w:=w) (K:=K) (tg:=tg) a it).done X f hw g d i Zi s Z H E I c st ⟨xs,b.1,b.2⟩
 self:=(OZ (P:=P) (w:=w) (K:=K) (tg:=tg) a it).self
def Sh(K:ZEW)(tl:TE):TI:=λZ H R=>tl Z H λx H1=>∃tp a xs,x=.ref a/\CS K tp H1 a xs/\R (Nb K tp a xs) H1
def YA(z:Str):It:=⟨λi _=>i<z.cps.size,λi H x H'=>H'=H/\∃c,z.cps[i]?=some c/\x=.str ⟨#[c]⟩,λi _=>i=z.cps.size⟩
theorem dI{P:Program}{K:ZEW}{t:Tok}{ty:String}
  (hn:["enumerate","zip","dict_itemiterator","dict_reverseitemiterator","odict_iterator","itertools.zip_longest","itertools.pairwise"].contains ty=false)
  (W:∀A:Around,A.handled=none->Walks P w A it [it] [it] z.cps.size (SignAt z) (λi h=>h.IsStrIter it ty z t i))
  (self:∀(A:Around)(i:Nat)(s:Shared)(Q:Value->Shared->Prop)(E:Value->Shared->Prop),s.heap.IsStrIter it ty z t i->Q (.ref it) s->wpAny (model P w) A (pyIter (.ref it)) Q E s) :
  Turn P w K tg (YA z) [it] it (λi h=>h.IsStrIter it ty z t i) where
 mem:=by simp
 obj:=λi h st b hb=>by
  have e:b=it:=by simpa using hb
  subst e;obtain⟨o,e,c,d⟩:=st;exact⟨o,e,λv z=>by rw[d]at z;cases z⟩
 keep:=λi h h' st k=>let ⟨o,e,r⟩:=st;⟨o,k it (by simp) o e,r⟩
 item:=by
  intro X j hw l g i Zi s Z H E I a st f;subst j hw l;obtain⟨f0,q,y,p,n,m⟩:=a it (by simp);refine(W X.A (I.ok.hd g)).item i s _ _ f st λv h' tk⟨c,u,Qd,hv⟩DA kp=>?_;subst hv;have B:Inv X Zi Z H { s with heap:=h',toks:=tk }:=I.turned (t':=tk) (λb o hb e=>kp b o (by simpa using hb) e) f0 q p n m
  obtain⟨o,e,cl,d⟩:=id DA;exact⟨_,rfl,RM (s:={ s with heap:=h',toks:=tk }) e cl d hn ⟨.str ⟨#[c]⟩,H,B,⟨u,rfl⟩,⟨rfl,c,Qd,rfl⟩,DA,λb hb=>(a b hb).1⟩⟩
 done:=by
  intro X j hw l g i Zi s Z H E I a st f;subst j hw l;obtain⟨f0,q,y,p,n,m⟩:=a it (by simp);have x:i=z.cps.size:=f;subst x;exact(W X.A (I.ok.hd g)).done s _ _ st λh' tk kp=>⟨rfl,I.turned (t':=tk) (λb o hb e=>kp b o (by simpa using hb) e) f0 q p n m⟩
 self:=self
def aa(tl:TE):TI:=λZ H R=>tl Z H λx H1=>∃z,x=.str z/\R (YA z) H1
theorem Ap(h:H p=none)(o:HO):A8 H (upd H p o):=λb u q=>by rw[Ab (Eb q h)];exact q
theorem A8.Jl{K:ZEW}(e:A8 H H')(h:AD K H a xs):AD K H' a xs:=by
 rcases h with(h|⟨o,h⟩)|h
 .exact .inl (.inl (e _ _ h))
 .exact .inl (.inr ⟨o,e _ _ h⟩)
 .exact .inr h
theorem A8.sq{K:ZEW}(e:A8 H H')(h:CS K tp H a xs):CS K tp H' a xs:=by
 cases tp
 .exact A8.seq e h
 .exact A8.Jl e h
theorem hG{Q:VK}(xs:List V)(f:V->Bool)(g:V->V)(BB:H1 acc=none)(v:xs.length<=sizeLine)
  (l:∀i H,A8 H1 H->i<xs.length->J.go i H) (BA:∀H,A8 H1 H->J.stop xs.length H) (n:∀i H x H',J.G4 i H x H'->H'=H/\xs[i]?=some x)
  (p:∀(i:Nat)(x:V)(H':Hp)(Q':Bool->Hp->Prop),xs[i]?=some x->A8 H1 H'->(∀Dw,A8 H' Dw->Q' (f x) Dw)->tt (Bc js Z++[some x]) H' Q')
  (r:∀(i:Nat)(x:V)(H':Hp)(Q':VK),xs[i]?=some x->f x=true->A8 H1 H'->(∀Dw,A8 H' Dw->Q' (g x) Dw)->te (Bc js Z++[some x]) H' Q')
  (hd:∀H',A8 H1 H'->H' acc=some (.lst ((xs.filter f).map g))->Q (.ref acc) H'):ME J js tt te Z H1 acc Q:=by
 refine⟨λi m H=>m=xs.length - i/\i<=xs.length/\A8 H1 H/\H acc=some (.lst (((xs.take i).filter f).map g)),⟨xs.length,by simp,C1 _,Ap BB _,AO⟩,?_⟩;rintro i m H2⟨rfl,hi,a,ha⟩
 by_cases h:i<xs.length
 .refine .inr ⟨l i H2 a h,λx H3 y=>?_⟩;obtain⟨e,hx⟩:=n i H2 x H3 y;subst e;have u:(xs.take (i+1))=xs.take i++[x]:=by
   have s:xs[i]=x:=by
    rw[Am h]at hx;exact BE hx
   rw[Mp h,s]
  have k:List.filter f (xs.take (i+1))=(xs.take i).filter f++(if f x=true then[x]else[]):=by
   rw[u,Yt];congr 1
   by_cases c:f x=true <;> simp[c]
  refine p i x _ _ hx a λH4 s4=>?_
  by_cases c:f x=true
  .rw[kz c];refine r i x H4 _ hx c (a.trans s4) λH5 j=>?_;have d:(((xs.take i).filter f).map g).length<sizeLine:=by
    rw[AW];have:=Oj f (xs.take i);rw[CI]at this;omega
   refine⟨_,j _ _ (s4 _ _ ha),d,xs.length - (i+1),by omega,rfl,h,λb o q=>?_,?_⟩
   .have hb:b≠acc:=by rintro rfl;rw[BB]at q;cases q
    rw[Ab hb];exact j _ _ (s4 _ _ (a b o q))
   .rw[AO,k,kz c,Dp];rfl
  .have t:f x=false:=by simpa using c
   rw[t];rw[km (by decide)];refine⟨xs.length - (i+1),by omega,rfl,h,a.trans s4,?_⟩;rw[k,km c,FC];exact s4 _ _ ha
 .have e:i=xs.length:=by omega
  subst e;refine .inl ⟨BA H2 a,hd H2 a ?_⟩;rw[KG]at ha;exact ha
theorem Pz{K:ZEW}{Q:VK}(f:V->Bool)(g:V->V)(b:CS K tp H1 a xs)(BB:H1 acc=none)(c:xs.length<=sizeLine)
  (d:∀(i:Nat)(x:V)(H':Hp)(Q':Bool->Hp->Prop),xs[i]?=some x->A8 H1 H'->(∀Dw,A8 H' Dw->Q' (f x) Dw)->tt (Bc js Z++[some x]) H' Q')
  (e:∀(i:Nat)(x:V)(H':Hp)(Q':VK),xs[i]?=some x->f x=true->A8 H1 H'->(∀Dw,A8 H' Dw->Q' (g x) Dw)->te (Bc js Z++[some x]) H' Q')
  (hd:∀H',A8 H1 H'->H' acc=some (.lst ((xs.filter f).map g))->Q (.ref acc) H'):ME (Nb K tp a xs) js tt te Z H1 acc Q:=
 hG xs f g BB c (λi H s hi=>⟨s.sq b,hi⟩) (λH s=>⟨s.sq b,Ad _⟩) (λi H x H' y=>y) d e hd
def G5(z:Str):List V:=z.cps.toList.map λc=>.str ⟨#[c]⟩
theorem XH(z:Str):(G5 z).length=z.cps.size:=by unfold G5;simp
theorem rH{Q:VK}(f:V->Bool)(g:V->V)(BB:H1 acc=none)(a:z.cps.size<=sizeLine)
  (b:∀(i:Nat)(x:V)(H':Hp)(Q':Bool->Hp->Prop),(G5 z)[i]?=some x->A8 H1 H'->(∀Dw,A8 H' Dw->Q' (f x) Dw)->tt (Bc js Z++[some x]) H' Q')
  (d:∀(i:Nat)(x:V)(H':Hp)(Q':VK),(G5 z)[i]?=some x->f x=true->A8 H1 H'->(∀Dw,A8 H' Dw->Q' (g x) Dw)->te (Bc js Z++[some x]) H' Q')
  (hd:∀H',A8 H1 H'->H' acc=some (.lst (((G5 z).filter f).map g))->Q (.ref acc) H'):ME (YA z) js tt te Z H1 acc Q:=by
 refine hG (G5 z) f g BB (by rw[XH];exact a) (λi H s hi=>?_) (λH s=>?_) (λi H x H' y=>?_) b d hd
 .rw[XH]at hi;exact hi
 .show(G5 z).length=z.cps.size;exact XH z
 .obtain⟨e,c,h,hx⟩:=y;refine⟨e,?_⟩;subst hx;unfold G5;rw[B1,Og,h];rfl
def Dv(xs ys:List V):Bool:=xs.length == ys.length && (List.range xs.length).all λj=>DF (xs.getD j .A7) (ys.getD j .A7)
theorem Jc{x:V}(h:xs[j]?=some x):xs.getD j .A7=x:=by rw[Ml,h];rfl
theorem gi{x:V}(h:xs.all Dz=true)(e:xs[j]?=some x):Dz x=true:=List.all_eq_true.mp h x (Cq e)
theorem Rb{Ba:List Value}(d:Vals xs A3)(c:Vals ys Ba)(i:xs.all Dz=true)(h:ys.all Dz=true):
  ∀j(h1:j<A3.toArray.size)(h2:j<Ba.toArray.size),SeqAt.EqAt A s A3.toArray[j] Ba.toArray[j] (DF (xs.getD j .A7) (ys.getD j .A7)):=λj h1 h2=>by
 have l1:=d.length;have l2:=c.length;have n:j<A3.length:=by simpa using h1
 have l:j<Ba.length:=by simpa using h2
 have b:xs[j]?=some (xs[j]'(by omega)):=Am _;have a:ys[j]?=some (ys[j]'(by omega)):=Am _;obtain⟨u,e,g⟩:=d.get b;obtain⟨v,hv,f⟩:=c.get a;rw[Am n]at e;rw[Am l]at hv;have k:A3[j]=u:=BE e;have m:Ba[j]=v:=BE hv;rw[Jc b,Jc a];have q:=Pk (A:=A) (s:=s) g f (gi i b) (gi h a);rw[<- k,<- m]at q
 simpa using q
def QL(K:ZEW)(neg:Bool):R2:=λx y H Q=>∃p q xs ys,x=.ref p/\y=.ref q/\((AQ K H p xs/\AQ K H q ys)∨(AD K H p xs/\AD K H q ys))/\xs.all Dz=true/\ys.all Dz=true/\
 Q (.bl (if neg then !Dv xs ys else Dv xs ys)) H
theorem LF(h:xs.length≠ys.length):Dv xs ys=false:=by
 unfold Dv;have:(xs.length == ys.length)=false:=by simpa using h
 rw[this,Bool.false_and]
theorem Kt(h:xs.length=ys.length):Dv xs ys=(List.range xs.length).all λj=>DF (xs.getD j .A7) (ys.getD j .A7):=by
 unfold Dv;have:(xs.length == ys.length)=true:=by simpa using h
 rw[this,Mi]
theorem Rc(g:X.A.units<cLine):BH X (compareOp .Eq) (QL X.K false):=by
 intro Zi s Z H x y v u Q I o n h;obtain⟨p,q,xs,ys,rfl,rfl,r,k,i,t⟩:=h;cases o;cases n;have b:Q (.bl (Dv xs ys)) H:=t;rcases r with⟨ha,hb⟩|⟨ha,hb⟩
 .obtain⟨A3,d,f,m⟩:=I.list ha;obtain⟨Ba,c,p2,l⟩:=I.list hb;have l1:=d.length;have l2:=c.length
  by_cases a:xs.length=ys.length
  .refine SeqAt.eq_listAt (e:=λj=>DF (xs.getD j .A7) (ys.getD j .A7)) f.isList p2.isList (by simp;omega) g (Rb d c k i) ⟨.bl _,H,I,rfl,?_⟩;rw[Kt a]at b;simp only[Bm,<- l1];exact b
  .rw[LF a]at b;exact SeqAt.eq_list_lengthsAt f.isList p2.isList (by simp;omega) g ⟨.bl false,H,I,rfl,b⟩
 .obtain⟨A3,d,f,m⟩:=I.tuple ha;obtain⟨Ba,c,p2,l⟩:=I.tuple hb;have l1:=d.length;have l2:=c.length;refine SeqAt.eq_tupleAt (e:=λj=>DF (xs.getD j .A7) (ys.getD j .A7)) f p2 g (Rb d c k i) ⟨.bl _,H,I,rfl,?_⟩;simp only[Bm,<- l1,<- l2]
  by_cases a:xs.length=ys.length
  .rw[Kt a]at b;have:(xs.length == ys.length)=true:=by simpa using a
   rw[this,jR,<- a,jr];exact b
  .rw[LF a]at b;have:(xs.length == ys.length)=false:=by simpa using a
   rw[this,SK];exact b
theorem bC(g:X.A.units<cLine):BH X (compareOp .NotEq) (QL X.K true):=by
 intro Zi s Z H x y v u Q I o n h;obtain⟨p,q,xs,ys,rfl,rfl,r,k,i,t⟩:=h;cases o;cases n;have b:Q (.bl (!Dv xs ys)) H:=t;rcases r with⟨ha,hb⟩|⟨ha,hb⟩
 .obtain⟨A3,d,f,m⟩:=I.list ha;obtain⟨Ba,c,p2,l⟩:=I.list hb;have l1:=d.length;have l2:=c.length
  by_cases a:xs.length=ys.length
  .refine SeqAt.RcNeAt.lists (e:=λj=>DF (xs.getD j .A7) (ys.getD j .A7)) f.isList p2.isList (by simp;omega) g (Rb d c k i) _ _ _ _ ⟨.bl _,H,I,rfl,?_⟩;rw[Kt a]at b;simp only[Bm,<- l1];exact b
  .rw[LF a]at b;exact SeqAt.RcNeAt.lists_lengths f.isList p2.isList (by simp;omega) g _ _ _ _ ⟨.bl true,H,I,rfl,b⟩
 .obtain⟨A3,d,f,m⟩:=I.tuple ha;obtain⟨Ba,c,p2,l⟩:=I.tuple hb;have l1:=d.length;have l2:=c.length;refine k9 (e:=λj=>DF (xs.getD j .A7) (ys.getD j .A7)) f p2 g (Rb d c k i) _ _ _ _ ⟨.bl _,H,I,rfl,?_⟩;simp only[Bm,<- l1,<- l2]
  by_cases a:xs.length=ys.length
  .rw[Kt a]at b;have:(xs.length == ys.length)=true:=by simpa using a
   rw[this,jR,<- a,jr];exact b
  .rw[LF a]at b;have:(xs.length == ys.length)=false:=by simpa using a
   rw[this,SK];exact b
theorem mY{bs:List Bool}(r:Vals (bs.map V.bl) A3)(e:A3[i]?=some v):v=.bool (bs.getD i false):=by
 have c:=r.length;rw[AW]at c;have hi:i<A3.length:=(List.getElem?_eq_some_iff.mp e).1;have d:(bs.map V.bl)[i]?=some (.bl (bs[i]'(by omega))):=by rw[B1,Am (by omega)];rfl
 obtain⟨u,a,b⟩:=r.get d;rw[e]at a;cases a;cases b;rw[Ml,Am (by omega)];rfl
theorem range_all(bs:List Bool):(List.range bs.length).all (λi=>bs.getD i false)=bs.all id:=by
 rw[Mh,Fi,Fi];constructor
 .intro h x hx;obtain⟨i,hi,rfl⟩:=List.mem_iff_getElem.mp hx;have:=h i (List.mem_range.mpr hi);rw[Ml,Am hi]at this;exact this
 .intro h i hi;rw[Ml,Am (List.mem_range.mp hi)];exact h _ (Gx _)
theorem UQ(g:X.calm=true):DI X (.builtin "all") (λxs H Q=>∃(p:Addr)(bs:List Bool),xs=[.ref p]/\AQ X.K H p (bs.map V.bl)/\Q (.bl (bs.all id)) H):=by
 intro Zi s Z H xs us Q I r h;obtain⟨p,bs,rfl,f,q⟩:=h;obtain⟨u,rfl,d⟩:=vals1 r;cases d;obtain⟨A3,a,pl,l⟩:=I.list f;have c:=a.length;rw[AW]at c;refine call_all_walk (ZA8 pl.isList ?_);obtain⟨o,n,ho,_⟩:=id pl;have k:p≠s.heap.objs.size:=BL (Az ho);refine⟨s.heap.objs.size,_,_,_,_,_,λi=>bs.getD i false,rfl,Walks.list (by rw[jP];exact I.ok.hd g) _ p k A3.toArray,⟨⟨_,BM _ rfl,rfl,rfl⟩,pl.isList.push _⟩,λi v s' Q' E' hv DU=>?_,λh' tk kp=>?_⟩
 .have j:v=.bool (bs.getD i false):=mY a (by simpa using hv)
  rw[j];exact pj DU
 .refine⟨.bl _,H,I.kept (t':=tk) λb ob e=>kp b ob (by simpa using BL (Az e)) (B7 _ e),rfl,?_⟩
  rw[Bm,<- c,range_all];exact q
def qX:V->Option Int->Option Int->Hp->VK->Prop:=λx lo hi H Q=>∃z,x=.str z/\z.length<=sizeLine/\Q (.str (Txt.slice z lo hi)) H
theorem part_of{o:Option Int}(p:IsPart v o):∃l:Option (Int×Tok),v=partValue l/\l.map (·.1)=o:=by
 cases p with
 |none=>exact⟨none,rfl,rfl⟩
 |int i t=>exact⟨some (i,t),rfl,rfl⟩
theorem bz:KP X qX:=by
 intro Zi s Z H x v vl vu lo hi sl Q I a e pl b h;obtain⟨z,rfl,c,q⟩:=h;obtain⟨t,rfl⟩:=a;obtain⟨l,rfl,f⟩:=part_of pl;obtain⟨u,rfl,d⟩:=part_of b;subst f;subst d;refine⟨"str", _,F.slot_str_getitem.lookup,typeIs_str _ _ _,wpAny_getItem_str_slice (l:=l) (u:=u) (st:=none) e rfl (post_val_or_str ⟨CK (Txt.slice_le z _ _) c,λt' k=>?_⟩)⟩;exact⟨.str _,H,I.tok k,⟨t',rfl⟩,q⟩
end L2
set_option exponentiation.threshold 5000
namespace L2
variable{f p:Addr}{H:Hp}
def A9(P:Program)(w:World)(K:ZEW)(mg:ZEY)(Zl:Heap)(x:Str)(k:Nat)(ps:List Str)(sp:Sp):Prop:=
 ∃f fd,DK P w K mg Zl FO k f fd ps sp/\Binds K fd ps []/\PySem.W.keepIn K (.ref f)=true/\mg x=some (.ref f)
section
variable{P:Program}{w:World}{K:ZEW}{mg:ZEY}{Zl:Heap}{x qual:Str}{k:Nat}{ps:List Str}{sp:Sp}{st:Stmt}{fd:FuncData}
theorem A9.mk(F:AH K x qual st f fd)(b:Binds K fd ps [])(m:mg x=some (.ref f))(h:DK P w K mg Zl FO k f fd ps sp):A9 P w K mg Zl x k ps sp:=⟨f,fd,h,b,F.kp,m⟩
variable{X:Cx}{j:Nat}{p pos:Pos}{e:Expr}{es:List Expr}{t:TA}
def Vm(K:ZEW):List V->Hp->VK->Prop:=λxs H Q=>∃(p:Addr)(ys:List V),xs=[.ref p]/\(AQ K H p ys∨AD K H p ys)/\Q (.int ys.length) H
theorem Gh:DI X (.builtin "len") (Vm X.K):=E4
theorem QX:MN X "list.append" SA:=fM
def ZBE(i j:Int):Prop:=i.natAbs<2 ^ 1000/\j.natAbs<2 ^ 1000
theorem eG{n:Nat}(h:n<2 ^ 1000):n.log2<1000:=by
 rcases Nat.eq_zero_or_pos n with e|e
 .subst e;exact(show(0:Nat).log2<1000 by decide)
 .exact(Nat.log2_lt (JD e)).mpr h
theorem bits_le{i:Int}(h:i.natAbs<2 ^ 1000):Builtin.Int.intBits i<=2 ^ 20:=by
 unfold Builtin.Int.intBits;split
 .exact C1 _
 .have:=eG h;have e:(2:Nat) ^ 20=1048576:=by decide
  omega
theorem Kd:BH X (binaryOp .Mult) (rI ZBE λi j=>.int (i * j)):=RK λ_ _ _ _ _ _ _ a q=>mul_int q (.of_bits (bits_le a.1) (bits_le a.2))
theorem U1:BH X (binaryOp .FloorDiv) (rI (λ_ j=>0<j/\j.natAbs<2 ^ 1000) λi j=>.int (i / j)):=RK λi j _ _ _ _ _ a q=>by
 have h1:(0:Int)<j:=a.1;have h2:=eG a.2;exact floordiv_int (by omega) (by rw[Int.fdiv_eq_ediv_of_nonneg i (by omega)];exact q) (.inl (PyProof.noPylong_of_log2 (by omega)))
theorem vY{body rest:List Stmt}{t u:TS}(e:body=st::rest)(h:PS X st t)(h2:Cv X rest u):Cv X body (Mw t u):=by rw[e];exact y0 h h2
def Xg(t:TS):TS:=λD Z H=>∃J:St->Hp->Prop,t { D with nx:=J } Z H/\∀ σ' H',J σ' H'->D.nx σ' H'
end
def Fo(p:Addr)(H H':Hp):Prop:=∀b o,b≠p->H b=some o->H' b=some o
theorem Fo.trans{H1 H2:Hp}(a:Fo p H H1)(b:Fo p H1 H2):Fo p H H2:=λc o d e=>b c o d (a c o d e)
theorem Fo.of{H':Hp}(a:A8 H H'):Fo p H H':=λc o _ e=>a c o e
theorem Fo.upd{o:HO}:Fo p H (upd H p o):=λc u a e=>by rw[Ab a];exact e
end L2
set_option maxHeartbeats 8000000
namespace L2
variable{ss:List Str}
def Ei(acc:List Str)(x:Str):List Str:=if acc.any (· == x)then acc else acc++[x]
def dd(ss:List Str):List Str:=ss.foldl Ei []
theorem ZCj(acc:List Str)(x k:Str):(Ei acc x).any (· == k)=(acc.any (· == k) || decide (k=x)):=by
 unfold Ei
 by_cases h:acc.any (· == x)=true
 .rw[kz h]
  by_cases e:k=x
  .subst e;rw[h];simp
  .simp[e]
 .rw[km h,List.any_append]
  by_cases e:k=x
  .subst e;simp
  .have hb:(x == k)=false:=by simpa[beq_iff_eq]using(λh':x=k=>e h'.symm)
   simp[hb,e]
theorem Zm(acc:List Str)(x:Str):(Ei acc x).length=if acc.any (· == x)then acc.length else acc.length+1:=by
 unfold Ei;split <;> simp
theorem eR(ss:List Str)(i:Nat)(h:i<ss.length):dd (ss.take (i+1))=Ei (dd (ss.take i)) ss[i]:=by
 unfold dd;rw[Mp h,List.foldl_append];rfl
theorem dM(ss:List Str):(dd ss).length<=ss.length:=by
 have:∀(l acc:List Str),(l.foldl Ei acc).length<=acc.length+l.length:=by
  intro l
  induction l with
  |nil=>intro acc;simp
  |cons x r a=>
   intro acc;rw[Yu];have h1:=a (Ei acc x);rw[Zm]at h1;simp only[Bw];split at h1 <;> omega
 have q:=this ss [];simp only[SV,Nat.zero_add]at q;exact q
section
variable{prog:Program}{w:World}{A:Around}{R:Result->Shared->Prop}{I:Addr}{fp wr:List Addr}{G:Array GenState->Array GenState->Prop}{n:Nat}{P:Nat->Value->Prop}{St:Nat->Shared->Prop}
variable{E:Value->Shared->Prop}{s:Shared}
theorem sub_tuple_set:isSubtype (.type "tuple") (.type "set")=pure false:=by rw[qK];kernel_rfl
theorem sub_tuple_frozenset:isSubtype (.type "tuple") (.type "frozenset")=pure false:=by rw[qK];kernel_rfl
end
noncomputable def ZA7(P:Program)(w:World)(a:Addr)(f:Str->Bool)(n:Nat):HO:=.ext λh=>h.SetOf (strKind P w) a f n
section
variable{X:Cx}
theorem Pd{A3:List Value}(r:Vals (ss.map V.str) A3){i:Nat}{v:Value}(e:A3[i]?=some v):∃(h:i<ss.length)(t:Tok),v=.str ss[i] t:=by
 have d:=r.length;rw[AW]at d;have hi:i<A3.length:=(List.getElem?_eq_some_iff.mp e).1;have b:i<ss.length:=by omega
 have f:(ss.map V.str)[i]?=some (.str ss[i]):=by rw[B1,Am b];rfl
 obtain⟨u,a,c⟩:=r.get f;rw[e]at a;cases a;obtain⟨t,q⟩:=c;exact⟨b,t,q⟩
end
end L2
set_option maxHeartbeats 4000000
namespace L2
variable{X:Cx}{a c e l o tg:Expr}{es ifs:List Expr}{body rest:List Stmt}{ta te tl to:TE}{t tb:TS}{tc tt:TT}{p pos pos' px:Pos}{name x:Str}{Ej op:CmpOp}{r:List V->Hp->VK->Prop}{i j n:Nat}{ps ss:List Str}{sp:Sp}{T:String}{wi:TI}{g:TG}{w:World}{I f:Addr}{E Q:Value->Shared->Prop}
structure QE (X:Cx) (e:Expr) (t:TE):Prop where h:PE X e t
structure QT (X:Cx) (e:Expr) (t:TT):Prop where h:PT X e t
structure QW (X:Cx) (e:Expr) (t:TT):Prop where h:PW X e t
structure QA (X:Cx) (es:List Expr) (t:TA):Prop where h:PA X es t
structure QS (X:Cx) (st:Stmt) (t:TS):Prop where h:PS X st t
structure FU (X:Cx) (st:List Stmt) (t:TS):Prop where h:Cv X st t
structure QG (X:Cx) (tg:Expr) (t:TG):Prop where h:PG X tg t
structure SF (X:Cx) (ts:List Expr) (t:HD):Prop where h:OK X ts t
structure QI (X:Cx) (tg iter:Expr) (wi:TI):Prop where h:PI X tg iter wi
structure YJ (X:Cx) (ifs:List Expr) (t:TT):Prop where h:KQ X ifs t
structure QO (X:Cx) (e:Option Expr) (t:TO):Prop where h:PO X e t
section
variable{b:Expr}{rest:List Expr}{tb tc:TE}{tA IE:TT}{t:TA}{p2 apos BW:Pos}
theorem qv(i:Nat)(g:X.N[i]?=some x:=by rfl)(hv:YI X.env.scope x:=by first|exact Or.inl rfl|exact Or.inr (Or.inl rfl)|exact Or.inr (Or.inr rfl))(hd:(x == ("__debug__":Str))=false:=by decide)
  (GS:(x == ("__classdict__":Str))=false:=by decide):QE X (.Name x pos) (BP i):=⟨by
 intro Zi s Z H Q I h;obtain⟨v,e,h⟩:=h;obtain⟨m,hn,f⟩:=I.loc;obtain⟨u,r,l⟩:=f i x v g e hv;have a:EP X Zi Z Q u s:=⟨v,H,I,r,h⟩;rcases l with⟨hk,d⟩|⟨hk,c,b,Zz⟩
 .exact wpAny_Name (wpAny_loadName_local I.ok.kind hk hn d a) hd
 .rcases hk with hk|hk
  .exact wpAny_Name (wpAny_loadName_cell I.ok.kind hk b Zz a) hd
  .exact wpAny_Name (wpAny_loadName_free I.ok.kind hk b Zz a GS) hd⟩
theorem A6{i j pos}:QE X (.Constant (.int i) j pos) (tC (.int i)):=⟨λ_ _ _ H _ I h=>wpAny_Constant_int ⟨.int i,H,I.tok _,⟨_,rfl⟩,h⟩⟩
theorem FN{b j pos}:QE X (.Constant (.bool b) j pos) (tC (.bl b)):=⟨λ_ _ _ H _ I h=>Constant_bool ⟨.bl b,H,I,rfl,h⟩⟩
theorem Lr{j pos}:QE X (.Constant .none j pos) (tC .A7):=⟨λ_ _ _ H _ I h=>Constant_none ⟨.A7,H,I,rfl,h⟩⟩
theorem Ac{x j pos}:QE X (.Constant (.str x) j pos) (tC (.str x)):=⟨λ_ _ _ H _ I h=>Calls.Constant_str ⟨.str x,H,I.tok _,⟨_,rfl⟩,h⟩⟩
theorem Mf{v:V}{u:Value}(b:Gl X x)(a:X.mg x=some u)(r:RelV v u)(hd:(x == ("__debug__":Str))=false:=by decide):QE X (.Name x pos) (tC v):=⟨λ_ _ _ H _ I h=>Nv I b a ⟨v,H,I,r,h⟩ hd⟩
theorem BD{op:Operator}{r:R2}(ho:BH X (binaryOp op) r)(ha:QE X a ta)(hb:QE X b tb):QE X (.BinOp a op b pos) (Bn r ta tb):=⟨by
 have ha:=ha.h;have hb:=hb.h;intro Zi s Z H Q I h;exact wpAny_BinOp (XS ha hb I h λv u s2 x y H2 I2 d c q=>ho Zi s2 Z H2 x y v u Q I2 d c q)⟩
theorem x6{r:R2}(ho:BH X (compareOp op) r)(ha:QE X a ta)(hb:QE X b tb)(e:behindInMarks op b=false):QE X (.Compare a [op] [b] pos) (Bn r ta tb):=⟨by
 have ha:=ha.h;have hb:=hb.h;intro Zi s Z H Q I h;exact wpAny_Compare1 (XS ha hb I h λv u s2 x y H2 I2 d c q=>ho Zi s2 Z H2 x y v u Q I2 d c q) e⟩
theorem su{r:R2}(ho:BH X (compareOp op) r)(ha:QE X a ta)(hb:QE X b tb)(c:behindInMarks op b=false):QT X (.Compare a [op] [b] pos) (MV (Bn r ta tb)):=⟨qx ho ha.h hb.h c⟩
theorem cv{r i:R2}(ho:BH X (compareOp op) r)(DJ:BH X (compareOp Ej) i)(ha:QE X a ta)(hb:QE X b tb)(f:QE X c tc)
  (t:lastMarks [op,Ej] [b,c]=false:=by with_unfolding_all rfl):QE X (.Compare a [op,Ej] [b,c] pos) (Qb r i ta tb tc):=⟨by
 have ha:=ha.h;have hb:=hb.h;have f:=f.h;intro Zi s Z H Q I h;refine Compare_chain (AN (ha Zi s Z H _ I h) λv s1⟨x,H1,I1,p,q1⟩=>chain_link (AN (hb Zi s1 Z H1 _ I1 q1) λu s2⟨y,H2,I2,g,q2⟩=>
  AN (ho Zi s2 Z H2 x y v u _ I2 p g q2) λd m⟨z,H3,I3,o,k,e,q3⟩=>?_)) t
 subst e;cases o;refine pj ?_;cases k with
 |false=>exact ite_ff ⟨.bl false,H3,I3,rfl,q3⟩
 |true=>exact ite_tt (chain_last (AN (f Zi m Z H3 _ I3 q3) λl s4⟨j,H4,I4,n,q⟩=>DJ Zi s4 Z H4 y j u l Q I4 g n q))⟩
theorem Oy{r i:R2}(ho:BH X (compareOp op) r)(DJ:BH X (compareOp Ej) i)(ha:QE X a ta)(hb:QE X b tb)(f:QE X c tc)
  (C:lastMarks [op,Ej] [b,c]=false:=by with_unfolding_all rfl):QT X (.Compare a [op,Ej] [b,c] pos) (MV (Qb r i ta tb tc)):=⟨by
 have ha:=ha.h;have hb:=hb.h;have f:=f.h;intro Zi s Z H Q I h;refine isTrue_chain (AN (ha Zi s Z H _ I h) λv s1⟨x,H1,I1,q,q1⟩=>test_link (AN (hb Zi s1 Z H1 _ I1 q1) λu s2⟨y,H2,I2,g,q2⟩=>
  AN (ho Zi s2 Z H2 x y v u _ I2 q g q2) λd m⟨z,H3,I3,p,k,e,q3⟩=>?_)) C
 subst e;cases p;refine pj ?_;cases k with
 |false=>
  obtain⟨k',E,B⟩:=q3;cases E;exact ite_ff ⟨H3,I3,B⟩
 |true=>
  refine ite_tt (test_last (AN (f Zi m Z H3 _ I3 q3) λl s4⟨j,H4,I4,o,A⟩=>AN (DJ Zi s4 Z H4 y j u l _ I4 g o A) λd' G t=>?_));obtain⟨F,H5,I5,n,J,D,w⟩:=t;subst D;cases n;exact pj ⟨H5,I5,w⟩⟩
theorem N6{op}(h:QE X a ta):QE X (.BoolOp op [a] pos) ta:=⟨by have h:=h.h;exact λZi s Z H Q I hw=>BoolOp_one (h Zi s Z H Q I hw)⟩
theorem OX(ha:QE X a ta)(hb:QE X (.BoolOp .And (b::rest) pos) tb):QE X (.BoolOp .And (a::b::rest) pos) (i7 ta tb):=⟨by
 have ha:=ha.h;have hb:=hb.h;intro Zi s Z H Q I h;refine BoolOp_and (AN (ha Zi s Z H _ I h) λv s1 EZ=>?_);obtain⟨x,H1,I1,d,q1⟩:=EZ;obtain⟨c,rfl,q1⟩:=q1;cases d;refine pj ?_;cases c with
 |true=>exact hb Zi s1 Z H1 Q I1 q1
 |false=>exact⟨.bl false,H1,I1,rfl,q1⟩⟩
theorem xh(ha:QE X a ta)(hb:QE X (.BoolOp .Or (b::rest) pos) tb):QE X (.BoolOp .Or (a::b::rest) pos) (gx ta tb):=⟨by
 have ha:=ha.h;have hb:=hb.h;intro Zi s Z H Q I h;refine BoolOp_or (AN (ha Zi s Z H _ I h) λv s1 EZ=>?_);obtain⟨x,H1,I1,d,q1⟩:=EZ;obtain⟨c,rfl,q1⟩:=q1;cases d;refine pj ?_;cases c with
 |false=>exact hb Zi s1 Z H1 Q I1 q1
 |true=>exact⟨.bl true,H1,I1,rfl,q1⟩⟩
theorem Gg(ha:QT X a tA):QW X (.BoolOp .And [a] pos) tA:=⟨by
 have ha:=ha.h;intro b Zi s Z H Q I h;refine isTrue_and (AN (ha Zi s Z H Q I h) λc s1 e=>?_);cases c with
 |true=>exact isTrue_and_nil e
 |false=>exact e⟩
theorem JM(ha:QT X a tA):QW X (.BoolOp .Or [a] pos) tA:=⟨by
 have ha:=ha.h;intro b Zi s Z H Q I h;refine isTrue_or (AN (ha Zi s Z H Q I h) λc s1 e=>?_);cases c with
 |false=>exact isTrue_or_nil e
 |true=>exact e⟩
theorem Fw(ha:QT X a tA)(hb:QW X (.BoolOp .And (b::rest) pos) IE):QW X (.BoolOp .And (a::b::rest) pos) (U6 tA IE):=⟨by
 have ha:=ha.h;have hb:=hb.h;intro d Zi s Z H Q I h;refine isTrue_and (AN (ha Zi s Z H _ I h) λc s1 EZ=>?_);obtain⟨H1,I1,q1⟩:=EZ;cases c with
 |true=>exact hb d Zi s1 Z H1 Q I1 q1
 |false=>exact⟨H1,I1,q1⟩⟩
theorem Iq(ha:QT X a tA)(hb:QW X (.BoolOp .Or (b::rest) pos) IE):QW X (.BoolOp .Or (a::b::rest) pos) (WI tA IE):=⟨by
 have ha:=ha.h;have hb:=hb.h;intro d Zi s Z H Q I h;refine isTrue_or (AN (ha Zi s Z H _ I h) λc s1 EZ=>?_);obtain⟨H1,I1,q1⟩:=EZ;cases c with
 |true=>exact⟨H1,I1,q1⟩
 |false=>exact hb d Zi s1 Z H1 Q I1 q1⟩
theorem QW.pt{t:TT}(h:QW X e t):QT X e t:=⟨h.h.pt⟩
theorem J9(ha:QT X a tA):QT X (.UnaryOp .Not a pos) (Rn tA):=⟨by
 have ha:=ha.h;intro Zi s Z H Q I h;exact isTrue_not (ha Zi s Z H (λc H1=>Q (!c) H1) I h)⟩
theorem MT(h:QE X e te)(c:∀a,isTrue e X.env a=(do let v <- a;standAt e.pos;holding [v] (truthy v)):=by intro _;rfl):QT X e (tB te):=⟨by
 have h:=h.h;intro Zi s Z H Q I hw;refine isTrue_plain (AN (h Zi s Z H _ I hw) λv s1⟨x,H1,I1,b,q1⟩=>?_) (c _);obtain⟨d,rfl,q⟩:=q1;cases b;exact pj ⟨H1,I1,q⟩⟩
theorem A5:QA X [] BO:=⟨λ_ _ _ _ H Q I h=>Yj ⟨[],H,I,.nil,h⟩⟩
theorem A0(ha:QE X e te)(b:QA X es t)(a:starEach (e::es) X.env=(false,eval e X.env)::starEach es X.env:=by rfl):QA X (e::es) (Al te t):=⟨uK ha.h b.h a⟩
theorem Ce{x1}(h:QA X es t):QE X (.Tuple es x1 pos) (XI t):=⟨zK h.h⟩
theorem Gw(h:QA X es t):QE X (.List es pos) (QZ t):=⟨ZA5 h.h⟩
theorem IJ:QO X none YG:=⟨by
 intro Zi s Z H Q I h;rw[evalPart_none];exact kX ⟨none,H,I,.none,h⟩⟩
theorem GW(h:QE X e te):QO X (some e) (U5 te):=⟨by
 have h:=h.h;intro Zi s Z H Q I hw;rw[evalPart_some];refine AN (h Zi s Z H _ I hw) λu s1 a=>?_;obtain⟨x,H1,I1,b,q1⟩:=a;obtain⟨i,rfl,q⟩:=q1;obtain⟨t,rfl⟩:=b;exact⟨some i,H1,I1,.int i t,q⟩⟩
theorem HH{r:V->Option Int->Option Int->Hp->VK->Prop}{lo hi:Option Expr}{tl th:TO}(k:KP X r)(f:QE X e te)(d:QO X lo tl)(c:QO X hi th):QE X (.Subscript e (.Slice lo hi none p2) pos) (Xp r te tl th):=⟨by
 have f:=f.h;have d:=d.h;have c:=c.h;intro Zi s Z H Q I h;refine Subscript_ (AN (f Zi s Z H _ I h) λv s1 EZ=>?_);obtain⟨x,H1,I1,g,q1⟩:=EZ;refine wpAny_Slice (AN (d Zi s1 Z H1 _ I1 q1) λvl s2⟨l,H2,I2,pl,q2⟩=>AN (c Zi s2 Z H2 _ I2 q2) λvu a NX=>?_);obtain⟨u,H3,I3,i,q3⟩:=NX;rw[evalPart_none];refine kX ?_;have o:Inv X Zi Z H3 { a with heap:=a.heap.push { cls:=.type "slice", data:=.fields #[vl,vu,.none] } }:=I3.kept (t':=a.toks) λb ob q=>B7 _ q
 obtain⟨T,id,n,j,m⟩:=k Zi { a with heap:=a.heap.push { cls:=.type "slice", data:=.fields #[vl,vu,.none] } } Z H3 x v vl vu l u a.heap.objs.size Q o g (Heap.IsSliceOf.new ..) pl i q3
 show wpAny (model X.prog X.w) X.A (subscriptTail e (.Slice lo hi none p2) v (.ref a.heap.objs.size)) (EP X Zi Z Q) X.xe { a with heap:=a.heap.push { cls:=.type "slice", data:=.fields #[vl,vu,.none] } }
 exact tail_any (ops:=[.ref a.heap.objs.size,v]) j n m (by with_unfolding_all rfl)⟩
theorem ZAl{r:R2}(f:J3 X r)(ha:QE X a ta)(hb:QE X b tb)(e:WW b):QE X (.Subscript a b pos) (Bn r ta tb):=⟨by
 have ha:=ha.h;have hb:=hb.h;intro Zi s Z H Q I h;exact Subscript_ (XS ha hb I h λv u s2 x y H2 I2 d c q=>f a b Zi s2 Z H2 x y v u Q I2 d c q (e _ _))⟩
theorem lG{k:Nat}(h:A9 X.prog X.w X.K X.mg X.base x k ps sp)(a:Bp j X.A)(hk:k<=j)(ha:QA X (e::es) t)(c:Gl X x:=by rfl)(Bs:(x == ("__debug__":Str))=false:=by decide)
  (he:starEach (e::es) X.env=(false,eval e X.env)::starEach es X.env:=by rfl) (Bo:(backTo pos (starEach es X.env)).any (·.1)=false:=by rfl):QE X (.Call (.Name x p) (e::es) [] pos) (D3 sp [] E0 t):=⟨by
 have ha:=ha.h;obtain⟨f,fd,F,b,kp,m⟩:=h;exact oO (F.mono hk) a c m kp b .nil To ha Bs he Bo⟩
theorem lJ{id:String}(d:DI X (.builtin id) r)(c:Gl X x)(b:X.mg x=none)(hv:bootBuiltins x=some (.builtin id))(ha:QA X (e::es) t)(hn:x ≠"__name__" := by decide)(Bs:(x == ("__debug__":Str))=false:=by decide)
  (he:starEach (e::es) X.env=(false,eval e X.env)::starEach es X.env:=by rfl) (Bo:(backTo pos (starEach es X.env)).any (·.1)=false:=by rfl):QE X (.Call (.Name x p) (e::es) [] pos) (Ea r t):=⟨by
 have ha:=ha.h;intro Zi s Z H Q I h;refine pO (J6 I c b hv ?_ hn Bs);exact PyProof.Rows.callWith_builtin1 (AN (ha pos Zi s Z H _ I h) λus s1 AJ=>by obtain⟨vs,H1,I1,a,q1⟩:=AJ;exact d Zi s1 Z H1 vs us Q I1 a q1) he Bo⟩
theorem ZAB(d:DI X (.type T) r)(c:Gl X x)(b:X.mg x=none)(hv:bootBuiltins x=some (.type T))(ha:QA X (e::es) t)(hn:x ≠"__name__" := by decide)(Bs:(x == ("__debug__":Str))=false:=by decide)
  (he:starEach (e::es) X.env=(false,eval e X.env)::starEach es X.env:=by rfl) (Bo:(backTo pos (starEach es X.env)).any (·.1)=false:=by rfl):QE X (.Call (.Name x p) (e::es) [] pos) (Ea r t):=⟨by
 have ha:=ha.h;intro Zi s Z H Q I h;refine pO (J6 I c b hv ?_ hn Bs);exact LV (AN (ha pos Zi s Z H _ I h) λus s1 AJ=>by obtain⟨vs,H1,I1,a,q1⟩:=AJ;exact d Zi s1 Z H1 vs us Q I1 a q1) he Bo⟩
theorem Ks{id:String}{r:V->List V->Hp->VK->Prop}(d:PlainAttrs T)(slot:Slot T name id)(YS:typeOf (.builtin id)=pure (.type "method_descriptor"))(f:MN X id r)(ho:QE X o to)(ha:QA X (e::es) t)
  (N0:attributeBase o name X.env (eval o X.env)=eval o X.env:=by rfl)
  (VP:((backTo BW (starEach (e::es) X.env)).all (λx=>!x.1) && (backToKw BW (keywordEach [] X.env)).all (λx=>x.1.isSome)
   && decide ((e::es).length+([]:List Keyword).length+(if([]:List Keyword).isEmpty then 0 else 1)<30))=true:=by rfl)
  (Mt:(apos.endLine == BW.line)=true:=by rfl) (hs:starEach (e::es) X.env=(false,eval e X.env)::starEach es X.env:=by rfl) (U4:(backTo BW (starEach es X.env)).any (·.1)=false:=by rfl) :
  QE X (.Call (.Attribute o name apos) (e::es) [] BW) (Np X.K T r to t):=⟨by
 have ho:=ho.h;have ha:=ha.h;intro Zi s Z H Q I h;refine wpAny_Call_method_late N0 VP Mt rfl (AN (ho Zi s Z H _ I h) λv s1 ZB0=>?_);obtain⟨x,H1,I1,a,ty,q1⟩:=ZB0;obtain⟨h1,h2⟩:=mf I1 a ty;refine⟨T,id,d,slot,YS,h1,h2,?_⟩;have b:=ha BW Zi s1 Z H1 _ I1 q1;rw[hs]at b ⊢;refine jS (by show(false || (backTo BW (starEach es X.env)).any (·.1))=false;rw[U4] <;> rfl) (Calls.evalArgs_plain ?_)
 exact AN b λus s2 AJ=>by obtain⟨vs,H2,I2,c,q2⟩:=AJ;exact f Zi s2 Z H2 x vs v us Q I2 a c q2⟩
variable{elt iter:Expr}{scope:Scope}{Ao:List Str}{js:List Nat}
theorem Hd(d:QE X l tl):QI X tg l (Sh X.K tl):=⟨by
 have d:=d.h;intro Zi s Z H R I h;refine AN (d Zi s Z H _ I h) λv s1⟨x,H1,I1,i,q1⟩=>?_;obtain⟨tp,a,xs,e,f,q⟩:=q1;subst e;cases i;have c:∀b∈[s1.heap.objs.size],Ds X Zi H1 b:=λb hb=>by
  have e:b=s1.heap.objs.size:=by simpa using hb
  subst e;exact I1.Ly (Ad _) (I1.AI.fresh (Ad _))
 cases tp with
 |false=>
  obtain⟨A3,g,p,j⟩:=I1.list f;refine ZA8 p.isList ?_;exact⟨s1.heap.objs.size,[s1.heap.objs.size],_,_,H1,rfl,I1.kept (t':=s1.toks) λb o e=>B7 _ e,sL a _ xs,⟨_,BM _ rfl,rfl,rfl⟩,c,q⟩
 |true=>
  obtain⟨A3,g,p,j⟩:=I1.tuple f;refine yg (show s1.heap.IsTuple a A3.toArray from p) ?_;exact⟨s1.heap.objs.size,[s1.heap.objs.size],_,_,H1,rfl,I1.kept (t':=s1.toks) λb o e=>B7 _ e,ZAp a _ xs,⟨_,BM _ rfl,rfl,rfl⟩,c,q⟩⟩
theorem ZAP(c:QE X l tl):QI X tg l (aa tl):=⟨by
 have c:=c.h;intro Zi s Z H R I h;refine AN (c Zi s Z H _ I h) λv s1⟨x,H1,I1,f,q1⟩=>?_;obtain⟨z,e,q⟩:=q1;subst e;obtain⟨t,rfl⟩:=f;have a:∀b∈[s1.heap.objs.size],Ds X Zi H1 b:=λb hb=>by
  have e:b=s1.heap.objs.size:=by simpa using hb
  subst e;exact I1.Ly (Ad _) (I1.AI.fresh (Ad _))
 have kp:∀(ob:Obj),Inv X Zi Z H1 { s1 with heap:=s1.heap.push ob }:=λob=>I1.kept (t':=s1.toks) λb o e=>B7 _ e
 cases ha:z.cps.all (· < 128)
 .refine wpAny_pyIter_wide ha ?_;exact⟨s1.heap.objs.size,[s1.heap.objs.size],_,_,H1,rfl,kp _,dI (t:=t) (by decide) (λA' d=>Walks.strWide d _ z t) (λ_ _ _ _ _ st h=>wpAny_pyIter_striter_wide st h),⟨_,BM _ rfl,rfl,rfl⟩,a,q⟩
 .refine wpAny_pyIter_ascii ha ?_;exact⟨s1.heap.objs.size,[s1.heap.objs.size],_,_,H1,rfl,kp _,dI (t:=t) (by decide) (λA' d=>Walks.strAscii d _ z t) (λ_ _ _ _ _ st h=>wpAny_pyIter_striter_ascii st h),⟨_,BM _ rfl,rfl,rfl⟩,a,q⟩⟩
theorem cg{ta:TA}(g:Gl X "range")(f:X.mg "range"=none)(ha:QA X [a] ta)(d:starEach [a] X.env=[(false,eval a X.env)]:=by rfl):QI X tg (.Call (.Name "range" p) [a] [] pos) (Xh ta):=⟨by
 have ha:=ha.h;intro Zi s Z H R I h;refine Call_ (J6 I g f boot_range (LV (AN (ha pos Zi s Z H _ I h) λus s1⟨vs,H1,I1,c,q1⟩=>?_) d rfl));obtain⟨j,e,q1,q2,q⟩:=q1;subst e;cases c with
 |cons r b=>
  cases b;obtain⟨t,rfl⟩:=r;exact call_range_1 (gN I1 (by omega) (by omega) q1 q2 (by simpa using q))⟩
theorem Uh:YJ X [] Yh:=⟨λZi s Z H Q I h=>by
 rw[ja];exact kX ⟨H,I,h⟩⟩
theorem RH{t:TT}(a:QT X c t):YJ X [c] t:=⟨nj a.h⟩
theorem Ky(b:X.calm=true)(S:Gd X.N X.env.scope scope x Ao js)(hi:QI X (.Name x px) iter wi)
  (Ib:∀fp C s H,YJ (S8 X (Ao++[x]) scope (DS X.env.cells scope.names) C s H fp) ifs tt) (J8:∀fp C s H,QE (S8 X (Ao++[x]) scope (DS X.env.cells scope.names) C s H fp) elt te)
  (a:∀v,foldedSetIterable iter X.env v=pure v:=by intro _;rfl):QE X (.ListComp elt [⟨.Name x px,iter,ifs,0⟩] scope pos) (PH wi js tt te):=⟨ZB7 b S hi.h (λfp C s H=>(Ib fp C s H).h) (λfp C s H=>(J8 fp C s H).h) a⟩
theorem lM(b:X.N.Nodup)(hi:X.N[i]?=some x)(hx:Loc X.env.scope x)(a:X.fn x=true∨X.env.scope.names.lookup x=some .local:=by first|exact .inl rfl|exact .inr rfl|assumption):QG X (.Name x pos) (Dr i):=⟨Zj b hi hx a⟩
theorem VX:SF X [] X4:=⟨by
 intro Zi s Z H vs us Q I r h;obtain⟨e,h⟩:=h;subst e;cases r;exact assignInOrder_nil ⟨Z,H,I,h⟩⟩
theorem MJ{t:TG}{u:HD}(h1:QG X e t)(h2:SF X es u)
  (b:(assignEach (e::es) X.env).map (·.2)=assign e X.env::(assignEach es X.env).map (·.2):=by rfl):SF X (e::es) (Qn t u):=⟨by
 have h1:=h1.h;have h2:=h2.h;intro Zi s Z H vs us Q I r h;obtain⟨v,d,c,h⟩:=h;subst c;cases r with
 |cons r a=>
  rw[b];refine assignInOrder_cons (AN (h1 Zi s Z H _ _ _ I r h) λ_ s1 ZAK=>?_);obtain⟨σ1,H1,I1,q1⟩:=ZAK;exact h2 Zi s1 σ1 H1 _ _ Q I1 a q1⟩
theorem XN{k:Nat}{t:HD}(i:X.calm=true)(h:SF X es t)(hn:(assignEach es X.env).length=n:=by rfl)(BA:(assignEach es X.env).findIdx? (·.1)=none:=by rfl):QG X (.Tuple es k pos) (VO X.K n t):=⟨by
 have h:=h.h;intro Zi s Z H v u Q I r hw;obtain⟨a,xs,j,f,g,hw⟩:=hw;subst j;cases r;obtain⟨A3,c,d,m⟩:=I.tuple f;refine assign_Tuple_tuple (I.ok.hd i) d (by simp[hn,<- g,c.length]) BA λh' hx=>?_;have l:Inv X Zi Z H { s with heap:=h' }:=I.kept (t':=s.toks) λb o e=>hx b o (BL (Az e)) e
 exact h Zi _ Z H xs _ Q l (by simpa using c) hw⟩
theorem fY{i:Expr}{ti:TE}{t:Pw}(ho:QE X o to)(hi:QE X i ti)(f:Ua X t)
  (ha:∀v,assign (.Subscript o i pos) X.env v=(do
   let a <- holding [v] (eval o X.env)
   let b <- holding [v,a] (eval i X.env)
   standAt pos
   holding [v,a,b] (setItem a b v)
   release [v,a,b] []):=by intro _;rfl):QG X (.Subscript o i pos) (iD to ti t):=⟨by
 have ho:=ho.h;have hi:=hi.h;intro Zi s Z H v u Q I r h;rw[ha];refine kU (oR (AN (ho Zi s Z H _ I h) λa s1 ZAE=>?_));obtain⟨x,H1,I1,e,q1⟩:=ZAE;refine kU (oR (AN (hi Zi s1 Z H1 _ I1 q1) λb s2 X0=>?_));obtain⟨y,H2,I2,d,q2⟩:=X0;refine kU (wpAny_standAt (kU (oR (AN (f Zi s2 Z H2 x y v a b u _ I2 e d r q2) λ_ g c=>?_))));obtain⟨H3,I3,q3⟩:=c;exact wpAny_release ⟨Z,H3,I3,q3⟩⟩
end
section
variable{st:Stmt}{u:TS}
theorem B6:FU X [] Tq:=⟨λ_ _ Z H _ I h=>wO ⟨Z,H,I,h⟩⟩
theorem AE(e:body=st::rest)(h:QS X st t)(h2:FU X rest u):FU X body (Mw t u):=⟨vY e h.h h2.h⟩
theorem AB(e:body=[st])(h:QS X st t):FU X body t:=⟨by have h:=h.h;rw[e];exact mD h⟩
theorem GF:QS X st dY:=⟨λ_ _ _ _ _ _ h=>h.elim⟩
theorem CP(a:QE X e te)(b:swapsWith e none pos.line X.env=pure false:=by rfl):QS X (.Expr e pos) (HG te):=⟨by
 have a:=a.h;intro Zi s Z H D I h;exact wpAny_Expr_any (AN (a Zi s Z H _ I h) λv s1 AJ=>by obtain⟨x,H1,I1,c,q1⟩:=AJ;exact⟨Z,H1,I1,q1⟩) I.quiet b⟩
theorem Af(a:QE X e te):QS X (.Return (some e) pos) (Jm te):=⟨by
 have a:=a.h;intro Zi s Z H D I h;exact wpAny_Return_some (AN (a Zi s Z H _ I h) λv s1 AJ=>by obtain⟨x,H1,I1,b,q1⟩:=AJ;exact⟨x,Z,H1,I1,b,q1⟩)⟩
theorem Aw{a b:List Stmt}(e:QT X c tc)(ha:FU X a t)(hb:FU X b u):QS X (.If c a b pos) (P7 tc t u):=⟨by
 have e:=e.h;have ha:=ha.h;have hb:=hb.h;intro Zi s Z H D I h;refine wpAny_If (AN (e Zi s Z H _ I h) λd s1 EZ=>?_);obtain⟨H1,I1,q1⟩:=EZ;cases d with
 |true=>exact ha Zi s1 Z H1 D I1 q1
 |false=>exact hb Zi s1 Z H1 D I1 q1⟩
theorem Xk(b:QE X e te)(a:QG X tg g)(d:swapsWithSole [tg] e pos.line X.env=pure false:=by rfl)(hw:swappedStores [tg] e X.env=pure none:=by rfl)
  (h1:(assignEach [tg] X.env).map (·.2)=[assign tg X.env]:=by rfl):QS X (.Assign [tg] e pos) (G9 te g):=⟨by
 have b:=b.h;have a:=a.h;intro Zi s Z H D I h;refine wpAny_Assign_stores (AN (b Zi s Z H _ I h) λv s1⟨x,H1,I1,c,q1⟩=>?_) d hw;rw[h1];exact AN (a Zi s1 Z H1 x v _ I1 c q1) λ_ s2 q=>q⟩
theorem pD(d:X.N.Nodup)(hi:X.N[i]?=some x)(hx:Loc X.env.scope x)(a:QE X e te)(c:swapsWith e (some (.Name x pos')) pos.line X.env=pure false:=by rfl)(hf:X.fn x=true∨X.env.scope.names.lookup x=some .local:=by first|exact .inl rfl|exact .inr rfl|assumption):
  QS X (.Assign [.Name x pos'] e pos) (G9 te (Dr i)):=⟨by
 have a:=a.h;intro Zi s Z H D I h;refine wpAny_Assign_Name (AN (a Zi s Z H _ I h) λv s1⟨y,H1,I1,b,q1⟩=>?_) c;exact Xa I1 d hi hx b (λs2 I2=>⟨_,H1,I2,q1⟩) hf⟩
theorem ah(j:PassesOwn (model X.prog X.w) X.A X.env X.xe)(i:QT X c tc)(hb:FU X body tb):QS X (.While c body [] pos) (gD tc tb):=⟨by
 have i:=i.h;have hb:=hb.h;intro Zi s Z H D I h;obtain⟨W,⟨p,m⟩,turn⟩:=h;refine wpAny_While (codeAny_whileLoop (λn s'=>∃ σ' H',Inv X Zi σ' H' s'/\W n σ' H') ?_ p ⟨Z,H,I,m⟩);rintro n s1⟨σ1,H1,I1,l⟩;refine tD j (AN (i Zi s1 σ1 H1 _ I1 (turn n σ1 H1 l)) λb s2 o=>?_);obtain⟨H2,I2,q2⟩:=o;cases b with
 |true=>
  obtain⟨N,k,q2⟩:=q2;rw[kz rfl];refine tD j (AN (hb Zi s2 σ1 H2 _ I2 q2) λf q q3=>?_);cases f with
  |next=>
   obtain⟨σ3,H3,I3,d⟩:=q3;obtain⟨e,g,a⟩:=k σ3 H3 d;exact⟨e,g,σ3,H3,I3,a⟩
  |cont=>
   obtain⟨σ3,H3,I3,d⟩:=q3;obtain⟨e,g,a⟩:=k σ3 H3 d;exact⟨e,g,σ3,H3,I3,a⟩
  |brk=>exact q3
  |ret v=>exact q3
 |false=>
  rw[km CZ];exact wO ⟨σ1,H2,I2,q2⟩⟩
theorem IC{iter:Expr}(k:PassesOwn (model X.prog X.w) X.A X.env X.xe)(B:X.calm=true)(hi:QI X tg iter wi)(q:QG X tg g)(hb:FU X body tb)
  (hs:∀x,foldedSetIterable iter X.env x=pure x:=by intro _;rfl):QS X (.For tg iter body [] pos) (T1 wi g tb):=⟨by
 have hi:=hi.h;have q:=q.h;have hb:=hb.h;intro Zi s Z H D I h;refine wpAny_For (AN (hi Zi s Z H _ I h) λv s1 h1=>AN h1 λVL s2 h2=>?_) hs;obtain⟨it,fp,tn,J,H2,e,I2,T,K7,C,W,⟨σ,O⟩,turn⟩:=h2;subst e
 -- lK stays true of GO ZDh objects through GO loop
 have t:∀{H':Hp},(∀b∈fp,H' b=none)->∀b∈fp,Ds X Zi H' b:=λhn b hb=>⟨hn b hb,(C b hb).2⟩;refine codeAny_forLoop_any (λn s'=>∃i σ' H',Inv X Zi σ' H' s'/\tn i s'.heap/\(∀b∈fp,H' b=none)/\W i n σ' H') ?_ σ ⟨0,Z,H2,I2,K7,λb hb=>(C b hb).1,O⟩;rintro n z⟨i,σ3,H3,I3,F,E,M⟩;rcases turn i n σ3 H3 M with⟨stop,U⟩|⟨go,N,hN,step⟩
 .refine tD k (AN (T.done X rfl rfl rfl B i Zi z σ3 H3 X.xe I3 (t E) F stop) λr s4 X0=>?_);obtain⟨p,I4⟩:=X0;subst p;exact wO ⟨σ3,H3,I4,U⟩
 .refine tD k (AN (T.item X rfl rfl rfl B i Zi z σ3 H3 X.xe I3 (t E) F go) λr s4 P=>?_);obtain⟨u,p,h4⟩:=P;subst p;refine tD k (AN h4 λ_ y lO=>?_);obtain⟨x,H5,I5,S,G,M0,S7⟩:=lO;have Y:=I5.pinned (t S7) (T.obj _ _ M0);refine tD k (AN (q _ y σ3 H5 x u _ Y S (step x H5 G)) λ_ Q ZC0=>?_);obtain⟨σ6,H6,I6,V⟩:=ZC0;refine tD k (AN (hb _ Q σ6 H6 _ I6 V) λf l c=>?_);have a:∀{σ7:St}{H7:Hp},Inv X (Zi++N2 fp y.heap) σ7 H7 l->N σ7 H7->∃m,m<n/\∃i σ' H',Inv X Zi σ' H' l/\tn i l.heap/\(∀b∈fp,H' b=none)/\W i m σ' H':=λ{σ7 H7}I7 j=>by
   obtain⟨m',hm,L⟩:=hN σ7 H7 j;refine⟨m',hm,i+1,σ7,H7,I7.Mz,T.keep _ _ _ M0 λb hb o e=>(I7.pin (b,o) (El _ (El _ (PB hb e)))).1,λb hb=>?_,L⟩;obtain⟨o,e,d⟩:=T.obj _ _ M0 b hb;exact(I7.pin (b,o) (El _ (El _ (PB hb e)))).2.1
  cases f with
  |next=>obtain⟨σ7,H7,I7,j⟩:=c;exact a I7 j
  |cont=>obtain⟨σ7,H7,I7,j⟩:=c;exact a I7 j
  |brk=>obtain⟨σ7,H7,I7,c⟩:=c;exact⟨σ7,H7,I7.Mz,c⟩
  |ret v=>obtain⟨K,σ7,H7,I7,R,c⟩:=c;exact⟨K,σ7,H7,I7.Mz,R,c⟩⟩
theorem D2(h:QS X st t):QS X st (Xg t):=⟨by
 have h:=h.h;intro Zi s Z H D I hw;obtain⟨J,h1,h2⟩:=hw;refine AN (h Zi s Z H _ I h1) λf s' q=>?_;cases f with
 |next=>obtain⟨σ',H',I',q⟩:=q;exact⟨σ',H',I',h2 σ' H' q⟩
 |ret v=>exact q
 |brk=>exact q
 |cont=>exact q⟩
end
theorem AH.B5{P:Program}{K:ZEW}{mg:ZEY}{Zl:Heap}{qual:Str}{st:Stmt}{fd:FuncData}{N:List Str}{k:Nat}(F:AH K x qual st f fd)(S:Ax N ps (Ae st))(len:∀vs H Q E,sp vs H Q E->vs.length=ps.length)
  (Nl:∀(AX:Value)(A:Around)(outer:List Env)(s:Shared)(H:Hp)(vs:List V)(Q:VK)(E:XK),Bp k (A.deeper (envOfC qual (Ae st) s.heap.objs.size f AX))->sp vs H Q E->
   ∃t,FU (KW FO P w K mg Zl N qual (Ae st) f AX A outer s H E).NV (Kn st) t/\t { nx:=λ_ H'=>Q .A7 H',rt:=Q } (start N vs) H):DK P w K mg Zl FO (k+1) f fd ps sp:=
 F.ok S len λAX A outer s H vs Q E a h=>let ⟨t,q,r⟩:=Nl AX A outer s H vs Q E a h;⟨t,q.h,r⟩
section
variable{b:Expr}{tb:TE}{t:TA}
theorem BQ{id:String}(c:DI X (.builtin id) r)(a:X.mg x=none)(ha:QA X (e::es) t)(b:Gl X x:=by rfl)(hv:bootBuiltins x=some (.builtin id):=by decide +kernel)(hn:x ≠"__name__" := by decide)(Bs:(x == ("__debug__":Str))=false:=by decide)
  (he:starEach (e::es) X.env=(false,eval e X.env)::starEach es X.env:=by rfl) (Bo:(backTo pos (starEach es X.env)).any (·.1)=false:=by rfl):QE X (.Call (.Name x p) (e::es) [] pos) (Ea r t):=lJ c b a hv ha hn Bs he Bo
theorem EO(c:DI X (.type T) r)(a:X.mg x=none)(ha:QA X (e::es) t)(b:Gl X x:=by rfl)(hv:bootBuiltins x=some (.type T):=by decide +kernel)(hn:x ≠"__name__" := by decide)(Bs:(x == ("__debug__":Str))=false:=by decide)
  (he:starEach (e::es) X.env=(false,eval e X.env)::starEach es X.env:=by rfl) (Bo:(backTo pos (starEach es X.env)).any (·.1)=false:=by rfl):QE X (.Call (.Name x p) (e::es) [] pos) (Ea r t):=ZAB c b a hv ha hn Bs he Bo
theorem AU{r:R2}(d:J3 X r)(ha:QE X a ta)(hb:QE X b tb)(c:WW b:=by exact λ_ _=>rfl):QE X (.Subscript a b pos) (Bn r ta tb):=ZAl d ha hb c
theorem AV{k:Nat}(h:A9 X.prog X.w X.K X.mg X.base x k ps sp)(a:Bp j X.A)(ha:QA X (e::es) t)(hk:k<=j:=by decide)(hg:Gl X x:=by rfl)(Bs:(x == ("__debug__":Str))=false:=by decide)
  (he:starEach (e::es) X.env=(false,eval e X.env)::starEach es X.env:=by rfl) (Bo:(backTo pos (starEach es X.env)).any (·.1)=false:=by rfl):QE X (.Call (.Name x p) (e::es) [] pos) (D3 sp [] E0 t):=lG h a hk ha hg Bs he Bo
theorem Hk{r:R2}(ho:BH X (compareOp op) r)(ha:QE X a ta)(hb:QE X b tb)(c:behindInMarks op b=false:=by first|exact eN _|with_unfolding_all rfl):QE X (.Compare a [op] [b] pos) (Bn r ta tb):=x6 ho ha hb c
theorem Ah{r:R2}(ho:BH X (compareOp op) r)(ha:QE X a ta)(hb:QE X b tb)(c:behindInMarks op b=false:=by first|exact eN _|with_unfolding_all rfl):QT X (.Compare a [op] [b] pos) (MV (Bn r ta tb)):=su ho ha hb c
theorem B2(i:Nat)(b:X.N.Nodup)(a:QE X e te)(hi:X.N[i]?=some x:=by rfl)(hx:Loc X.env.scope x:=by first|exact Or.inl rfl|exact Or.inr rfl)(hs:swapsWith e (some (.Name x pos')) pos.line X.env=pure false:=by rfl)(hf:X.fn x=true∨X.env.scope.names.lookup x=some .local:=by first|exact .inl rfl|exact .inr rfl|assumption):
  QS X (.Assign [.Name x pos'] e pos) (G9 te (Dr i)):=pD b hi hx a hs hf
theorem Ff(i:Nat)(a:X.N.Nodup)(hi:X.N[i]?=some x:=by rfl)(hx:Loc X.env.scope x:=by first|exact Or.inl rfl|exact Or.inr rfl)(hf:X.fn x=true∨X.env.scope.names.lookup x=some .local:=by first|exact .inl rfl|exact .inr rfl|assumption):QG X (.Name x pos) (Dr i):=lM a hi hx hf
theorem Qp{y:Str}{t:Tok}:Df (.str x) (.str y t)=(y == x):=rfl
theorem X9(x:Str):∀(ss:List Str)(m:Nat)(b:m<ss.length),m<ss.idxOf x->ss[m]≠x
 | [],_,b,_=>absurd b (Nat.not_lt_zero _)
 |a::r,m,b,h=>by
  rw[Yv]at h
  by_cases e:a=x
  .have:(a == x)=true:=by simpa using e
   rw[this]at h;exact absurd h (Nat.not_lt_zero _)
  .have c:(a == x)=false:=by simpa using e
   rw[c]at h;cases m with
   |zero=>exact e
   |succ k=>
    have h':k+1<r.idxOf x+1:=h;exact X9 x r k (by simpa using b) (by omega)
theorem IZ(h:x∈ss):∃a:ss.idxOf x<ss.length,ss[ss.idxOf x]=x/\∀m(b:m<ss.length),m<ss.idxOf x->ss[m]≠x:=by
 have a:ss.idxOf x<ss.length:=List.idxOf_lt_length_iff.mpr h;exact⟨a,SU a,λm b AM=>X9 x ss m b AM⟩
def ZBC(K:ZEW):V->List V->Hp->VK->Prop:=λx vs H Q=>∃(l:Addr)(ss:List Str)(y:Str),x=.ref l/\vs=[.str y]/\AQ K H l (ss.map V.str)/\y∈ss/\Q (.int (ss.idxOf y:Nat)) H
theorem mT:MN X "list.index" (ZBC X.K):=by
 intro Zi s Z H x vs v us Q I i j h;obtain⟨l,ss,y,rfl,rfl,p,o,q⟩:=h;cases i;obtain⟨u,rfl,k⟩:=j.one;obtain⟨A3,r,pl,b⟩:=I.list p;obtain⟨⟨c,d,G,sl⟩,n,ho,f,hd,FH⟩:=id pl;simp only at f hd FH;subst f;subst hd;subst FH;have A:=r.length;rw[AW]at A;obtain⟨D,O2,Ij⟩:=IZ o;have at':∀(m:Nat)(a:m<A3.toArray.size),∃t,A3.toArray[m]=.str (ss[m]'(by simp at a;omega)) t:=λm a=>by
  have B:m<A3.length:=by simpa using a
  obtain⟨h2,t,e⟩:=Pd r (Am B);exact⟨t,by simpa using e⟩
 have g:ss.idxOf y<A3.toArray.size:=by simp;omega
 refine call_meets ZDZ ⟨_,ho,rfl⟩ PySem.F.entry_list_index (PySem.F.args_list_index_2 _ _) (SeqAt.list_indexAt l A3.toArray n none sl u (Df (.str y)) (ss.idxOf y) g ?_ ?_ (λm a AM=>?_)) ⟨ho,λz NF=>LH k rfl r (by
   rw[Fi];intro w hw;obtain⟨C,_,rfl⟩:=List.mem_map.mp hw;rfl) z (by simpa using NF),?_⟩
 .have h1:ss.length<=sizeLine:=by rw[AW]at b;exact b
  have h2:=Kq;have E:((sizeLine:Nat):Int)<2 ^ 63:=by exact_mod_cast h2
  omega
 .obtain⟨t,e⟩:=at' _ g;rw[e,Qp];simpa using O2
 .obtain⟨t,e⟩:=at' _ a;rw[e,Qp];have:=Ij m (by simp at a;omega) AM
  simpa using this
 .exact⟨.int _,H,I.tok _,⟨_,rfl⟩,q⟩
theorem yA(l:Addr)(items:Array Value)(n:Nat)(dd:Option Addr)(sl:Array (Option Value))(x:Value)(e:Value->Bool)(j:Nat)(z:j<items.size)(f:e items[j]=true)(Ij:∀m(v:m<items.size),m<j->e items[m]=false):
  Meets (Builtin.«tuple.index» ⟨[.ref l,x],[]⟩)
   (λA R s=>s.heap.get? l=some { cls:=.type "tuple", dict:=dd,data:=.seq items n,slots:=sl }/\(∀y,y∈items->SeqAt.EqAt A.in1 s y x (e y))/\R (.ok (.ret (.int j s.toks))) { s with toks:=s.toks+1 }):=by
 refine Meets.of_wp λprog w A R s h=>?_;obtain⟨o,g,d,tk,os⟩:=s;obtain⟨p,q,h⟩:=h
 wp_walk using AutoSeq1.wpAny_loadPart' p
 show wpAny _ _ (forIn [:min items.size items.size] ((none:Option Fin),()) (λ(i:Nat)(_:Option Fin×Unit)=>match items[i]? with
  |some y=>(do let b <- eqBool y x;if b=true then do let r <- retInt ((i:Nat):Int);pure (ForInStep.done (some r,()))else pure (ForInStep.yield (none,())))
  |_=>pure (ForInStep.yield (none,())))) _ _ _
 rw[ZDg];have hsz:([:min items.size items.size]:Std.Legacy.Range).size=items.size:=by simp[Std.Legacy.Range.size]
 show wpAny _ _ (forIn (List.range' 0 ([:min items.size items.size]:Std.Legacy.Range).size 1) _ _) _ _ _;rw[hsz];refine wpAny_forIn_list _ (λrest b s'=>b=(none,())/\s'=⟨o,g,d,tk,os⟩/\∃i,rest=List.range' i (items.size - i) 1/\i<=j) _ ?_ ?_ _ _ ⟨rfl,rfl,0,rfl,C1 _⟩
 .rintro i rest b s'⟨rfl,rfl,a,c,Fb⟩;have k:a < items.size:=by omega
  have u:List.range' a (items.size - a) 1=a::List.range' (a+1) (items.size - (a+1)) 1:=by
   have:items.size - a=(items.size - (a+1))+1:=by omega
   rw[this,ZDL]
  rw[u]at c;injection c with zo hr2
  subst zo;subst hr2;have hi:items[i]?=some items[i]:=by simp[k]
  rw[hi];refine kU (q _ (Array.getElem_mem k) prog w _ _ ?_)
  by_cases t:i=j
  .subst t;rw[f,kz rfl]
   wp_walk
   exact⟨_,rfl,h⟩
  .rw[Ij i k (by omega),km (by decide)];exact kX ⟨rfl,rfl,i+1,rfl,by omega⟩
 .rintro b s'⟨rfl,rfl,i,c,Fb⟩;have:0<(List.range' i (items.size - i) 1).length:=by rw[List.length_range'];omega
  rw[<- c]at this;exact absurd this (by simp)
def ZCq(K:ZEW):V->List V->Hp->VK->Prop:=λx vs H Q=>∃(l:Addr)(ss:List Str)(y:Str),x=.ref l/\vs=[.str y]/\AD K H l (ss.map V.str)/\y∈ss/\Q (.int (ss.idxOf y:Nat)) H
theorem ZBi:MN X "tuple.index" (ZCq X.K):=by
 intro Zi s Z H x vs v us Q I g i h;obtain⟨l,ss,y,rfl,rfl,o,k,q⟩:=h;cases g;obtain⟨u,rfl,j⟩:=i.one;obtain⟨A3,r,pl,C⟩:=I.tuple o;obtain⟨⟨c,d,E,sl⟩,ho,b,n,FH⟩:=id pl;simp only at b FH;subst b;subst FH;have p:=r.length;rw[AW]at p;obtain⟨D,O2,Ij⟩:=IZ k;have at':∀(m:Nat)(a:m<A3.toArray.size),∃t,A3.toArray[m]=.str (ss[m]'(by simp at a;omega)) t:=λm a=>by
  have A:m<A3.length:=by simpa using a
  obtain⟨h2,t,e⟩:=Pd r (Am A);exact⟨t,by simpa using e⟩
 have f:ss.idxOf y<A3.toArray.size:=by simp;omega
 refine call_meets ZDb ⟨_,ho,rfl⟩ PySem.F.entry_tuple_index (PySem.F.args_tuple_index_2 _ _) (yA l A3.toArray n d sl u (Df (.str y)) (ss.idxOf y) f ?_ (λm a AM=>?_)) ⟨ho,λz NF=>LH j rfl r (by
   rw[Fi];intro w hw;obtain⟨B,_,rfl⟩:=List.mem_map.mp hw;rfl) z (by simpa using NF),?_⟩
 .obtain⟨t,e⟩:=at' _ f;rw[e,Qp];simpa using O2
 .obtain⟨t,e⟩:=at' _ a;rw[e,Qp];have:=Ij m (by simp at a;omega) AM
  simpa using this
 .exact⟨.int _,H,I.tok _,⟨_,rfl⟩,q⟩
def sj(t u:TE):TE:=λZ H Q=>t Z H Q∨u Z H Q
theorem qS{t u:TE}(h:QE X e t)(h2:QE X e u):QE X e (sj t u):=⟨λZi s Z H Q I q=>q.elim (h.h Zi s Z H Q I) (h2.h Zi s Z H Q I)⟩
end
theorem ZBd:typeLookup (.type "list_reverseiterator") "__len__"=pure none:=by rw[wg,qk];kernel_rfl
theorem wN:typeLookup (.type "list_reverseiterator") "__length_hint__"=pure (some (.builtin "list_reverseiterator.__length_hint__")):=by rw[wg,qk];kernel_rfl
section
variable{prog:Program}{A:Around}{s:Shared}{R:Result->Shared->Prop}
variable{fp wr:List Addr}{G:Array GenState->Array GenState->Prop}{P:Nat->Value->Prop}{St:Nat->Shared->Prop}
theorem vi(W:WalksS prog w A.in1 I fp wr G n P St)(c:∀i s,St i s->s.TypeIs (.ref I) "list_reverseiterator")(S:Addr)(res:Value)(m:Nat)(BA:St 0 s)(Cu:S∉fp)(l:I∈fp)
  (k:s.heap.get? S=some { cls:=.type "list", data:=.seq #[] m })
  (hR:∀s' Cd a,Moved (S::wr) G s s'->s'.heap.get? S=some { cls:=.type "list", dict:=none,data:=.seq Cd a,slots:=#[] }->ItemsOf P Cd n->R (.ok (.ret res)) s') (hn:n<=sizeLine) :
  wpAny (model prog w) A.in1 (Builtin.List.listExtendWith (.ref S) (.ref I) res)
   (λd s'=>match d with | .done f=>R (.ok f) s' | .again a=>a.quiet=true/\codeAny (model prog w) A a R s') (λe s'=>R (.error e) s') s:=by
 have h:S≠I:=λe=>Cu (e▸l);unfold Builtin.List.listExtendWith;refine kU (rY (c 0 _ BA) ?_);have h1:Builtin.List.listSameRef (.ref S) (.ref I)=false:=by simp[Builtin.List.listSameRef,h]
 rw[km (by rw[h1];decide)];refine kU (W.self 0 _ _ _ BA ?_);refine kU (oR ?_);unfold Builtin.List.listLengthHint;refine kU (vG (c 0 _ BA) ZBd ?_);show wpAny _ A.in1 (specialOf (Value.ref I) (Str.ofString "__length_hint__") >>= _) _ _ _;refine kU (vG (c 0 _ BA) wN ?_);generalize g:("list_reverseiterator.__length_hint__":String)=Kk
 wp_delta
 rw[show splitId Kk=some ("list_reverseiterator","__length_hint__")from by subst g;decide +kernel];subst g;refine kU (rL (b:=true) (c 0 _ BA) (by rw[qK];kernel_rfl) ?_);refine kX ?_;rw[km (by decide)];refine kX ⟨tX F.plain_extend_loop _,yW W hn _ Cu _ n 0 _ _ _ rfl (C1 _) BA k (Yn P) λs' Cd a j CU BB=>?_⟩;exact hR s' Cd a j CU BB
theorem tE(W:WalksS prog w A.in1 I fp wr G n P St)(l:∀i s,St i s->s.TypeIs (.ref I) "list_reverseiterator")(S:Addr)(BA:St 0 s)(Cu:S∉fp)(m:I∈fp)
  (d:s.heap.get? S=some { cls:=.type "list", data:=.seq #[] })
  (hR:∀s' Cd a,Moved (S::wr) G s s'->s'.heap.get? S=some { cls:=.type "list", dict:=none,data:=.seq Cd a,slots:=#[] }->ItemsOf P Cd n->R (.ok (.ret .none)) s') (hn:n<=sizeLine) :
  wpAny (model prog w) A.in1 (Builtin.«list.__init__» ⟨[.ref S,.ref I],[]⟩)
   (λg s'=>match g with | .done f=>R (.ok f) s' | .again a=>a.quiet=true/\codeAny (model prog w) A a R s') (λe s'=>R (.error e) s') s:=by
 show wpAny _ A.in1 (do let old <- Builtin.List.listItems (.ref S);Builtin.List.listUpdate (.ref S) (λ_=>#[]);letGo old.toList.reverse;Builtin.List.listExtendWith (.ref S) (.ref I) .none) _ _ s
 refine kU ?_;unfold Builtin.List.listItems;refine kU (zd d rfl (kX ?_));show wpAny _ A.in1 (updateSeq S (λ_=>#[]) >>= λ_=>letGo (#[]:Array Value).toList.reverse >>= λ_=>Builtin.List.listExtendWith (.ref S) (.ref I) .none) _ _ s;refine kU (rf d rfl ?_);have c:=EM (Obj.mapSeq (λ_=>(#[]:Array Value))) d rfl;have j:∀b o,b≠S->s.heap.get? b=some o->(s.heap.update S (Obj.mapSeq (λ_=>(#[]:Array Value)))).get? b=some o:=
  λb o hb e=>(EB _ _ (B0 hb)).trans e
 refine kU (wpAny_letGo ?_);refine vi (hn:=hn) W l S .none _ (W.frame 0 s _ s.toks BA (Ad _) λb hb o e=>j b o (λh=>Cu (h▸hb)) e) Cu m c λs' Cd a k CU BB=>?_;exact hR s' Cd a (Moved.trans W.gtrans ((Moved.refl W.grefl).then_heap (Ad _) λb o hb e=>j b o (λh=>hb (h▸CJ)) e) k) CU BB
theorem ZCw(W:WalksS prog w A.in1.in1 I fp wr G n P St)(h:∀i s,St i s->s.TypeIs (.ref I) "list_reverseiterator")(BA:St 0 s)(Lz:∀b∈fp,b<s.heap.objs.size)(k:I∈fp)
  (j:∀s' Cd c,Moved (s.heap.objs.size::wr) G { s with heap:=s.heap.push { cls:=.type "list", data:=.seq #[] } } s'->
   s'.heap.get? s.heap.objs.size=some { cls:=.type "list", dict:=none,data:=.seq Cd c,slots:=#[] }->ItemsOf P Cd n->Q (.ref s.heap.objs.size) s') (hn:n<=sizeLine) :
  wpAny (model prog w) A (call (.type "list") [.ref I]) Q E s:=by
 have l:s.heap.objs.size∉fp:=λa=>LR _ (Lz _ a);refine callType_codes (Q₁:=λobj d=>obj=.ref s.heap.objs.size/\d={ s with heap:=s.heap.push { cls:=.type "list", data:=.seq #[] } }) F.called_list (F.typeCall_list_1 _) F.entry_list_init
  (code_list_new _ ⟨rfl,rfl⟩) λobj d g=>?_
 obtain⟨rfl,rfl⟩:=g;have f:(s.heap.push { cls:=.type "list", data:=.seq #[] }).get? s.heap.objs.size=some { cls:=.type "list", data:=.seq #[] }:=BM _ rfl;refine⟨⟨_,f,rfl⟩,F.args_list_init_2 _ _,tE (hn:=hn) W h _ (W.frame 0 s _ s.toks BA (Ad _) λb _ o e=>B7 _ e) l k f λs' Cd c a CU BB=>?_⟩;exact⟨rfl,j s' Cd c a CU BB⟩
variable{l:Addr}{items:Array Value}
end
end L2
namespace HT
variable{E Q:Value->Shared->Prop}
section
variable{prog:Program}{w:World}{A:Around}{s:Shared}
theorem ZBl{t sl:Addr}{items:Array Value}{vl vu:Value}{lo hi:Option Int}(a:IsTup s.heap t items)(b:s.heap.IsSliceOf sl vl vu .none)(pl:IsPart vl lo)(d:IsPart vu hi)
  (hw:Aj items.size 0 lo=0/\Aj items.size items.size hi=items.size) (h:Q (.ref t) s):wpAny (model prog w) A (getItem (.ref t) (.ref sl)) Q E s:=by
 obtain⟨os,LK,Qi,O3⟩:=id b;have e:s.TypeIs (.ref sl) "slice" := ⟨os,LK,Qi⟩;unfold getItem
 try with_reducible refine oR ?_
 first|refine kU (kX ?_)|skip
 refine kU (wpAny_sequenceKey a.typeIs (by decide) ?_);refine kU (o8 (name:=Str.ofString "__getitem__") a.typeIs Z5
  (pE Z5 a.typeIs entry_tuple_getitem ?_ (args_tuple_getitem _ _)))
 show wpAny _ _ (Builtin.Tuple.tupleItemsOf (.ref t) >>= _) _ _ s;refine kU (tupleItemsOf_ a ?_);refine kU (rY e ?_);rw[kz (by decide)];refine kU (fT b pl d ?_);have c:((((Aj items.size 0 lo:Nat):Int) == 0 && (1:Int) == 1 && (Aj items.size items.size hi - Aj items.size 0 lo) == items.size)=true):=by
  rw[hw.1,hw.2];simp
 first
 |rw[kz c]
 |simp only[c,ZAL]
 refine kU ?_;unfold Builtin.Tuple.tupleIsExact;refine kU (rY a.typeIs (kX ?_));rw[kz (by decide)];exact kU (zU (kX ⟨_,rfl,kX h⟩))
end
end HT
namespace L2
variable{X:Cx}{xs ys:List V}{A3 vs:List Value}{acc items ps:Array Value}{Zi:ZEX}{Z:St}{H:Hp}{s:Shared}{h':Heap}{ep i k1 n nT nl pl sl t':Nat}{fp:List Addr}{I S a it:Addr}{o oT:Obj}{w:World}{es:Array (Int×Value)}{t:SetTable}{prog:Program}{A:Around}{E Q₁:Value->Shared->Prop}{Q:Option Value->Shared->Prop}{α:Type}{e:Int×Value}{f v x:Value}{AG ss:List Str}
def oY(K:ZEW):V->Option Int->Option Int->Hp->VK->Prop:=λx lo hi H Q=>∃a xs,x=.ref a/\AD K H a xs/\
 ((HT.Aj xs.length 0 lo=0/\HT.Aj xs.length xs.length hi=xs.length)->Q (.ref a) H)/\(¬ (HT.Aj xs.length 0 lo=0/\HT.Aj xs.length xs.length hi=xs.length)->∀p,H p=none->Q (.ref p) (upd H p (.tup (DT xs lo hi))))
theorem nE:KP X (oY X.K):=by
 intro Zi s Z H x v vl vu lo hi sl Q I c f pl d h;obtain⟨a,xs,rfl,hx,q1,q2⟩:=h
 by_cases hw:HT.Aj xs.length 0 lo=0/\HT.Aj xs.length xs.length hi=xs.length
 .cases c;obtain⟨A3,r,e,g⟩:=I.tuple hx;have b:A3.toArray.size=xs.length:=by rw[Bm];exact r.length.symm
  refine⟨"tuple", _,PyProof.Rows.slot_tuple_getitem.lookup,e.typeIs,?_⟩;exact HT.ZBl e f pl d (by rw[b];exact hw) ⟨.ref a,H,I,rfl,q1 hw⟩
 .exact xU Zi s Z H _ v vl vu lo hi sl Q I c f pl d ⟨a,xs,rfl,hx,hw,q2 hw⟩
def ZB4(K:ZEW):V->Option Int->Option Int->Hp->VK->Prop:=λx lo hi H Q=>∃a tp xs,x=.ref a/\CS K tp H a xs/\∀p H',A8 H H'->CS K tp H' p (DT xs lo hi)->Q (.ref p) H'
theorem zi{lo hi:Option Int}(h:HT.Aj xs.length 0 lo=0/\HT.Aj xs.length xs.length hi=xs.length):DT xs lo hi=xs:=by
 unfold DT;rw[h.1,h.2];simp
theorem Kw:KP X (ZB4 X.K):=by
 intro Zi s Z H x v vl vu lo hi sl Q I c e pl d h;obtain⟨a,tp,xs,rfl,hx,q⟩:=h;cases tp with
 |false=>exact ak Zi s Z H _ v vl vu lo hi sl Q I c e pl d ⟨a,xs,rfl,hx,λp b=>q p _ (Ap b _) (AQ.of AO)⟩
 |true=>exact nE Zi s Z H _ v vl vu lo hi sl Q I c e pl d ⟨a,xs,rfl,hx,λhw=>q a H (A8.refl _) (by rw[zi hw];exact hx),λ_ p b=>q p _ (Ap b _) (AD.of AO)⟩
theorem ZCJ(r:Vals ys A3)(h:ItemsOf (λi v=>A3.toArray[A3.toArray.size - 1 - i]?=some v) acc A3.toArray.size):∃us:List Value,Vals ys.reverse us/\acc=us.toArray:=by
 have e:acc=A3.reverse.toArray:=by
  apply Array.toList_inj.mp;rw[List.toList_toArray];apply Yr;intro i;have a:acc.size=A3.length:=by rw[h.1];simp
  by_cases hi:i<A3.length
  .have h1:acc.toList[i]?=some (acc[i]'(by omega)):=by simp
   have h2:=h.2 i (acc[i]'(by omega)) (by simp);rw[h1,List.getElem?_reverse hi];simp at h2;rw[<- h2]
  .have h1:acc.toList[i]?=none:=JB (by simp;omega);have h2:A3.reverse[i]?=none:=JB (by simp;omega);rw[h1,h2]
 exact⟨A3.reverse,r.reverse,e⟩
theorem Inv.aC(I:Inv X Zi Z H s)(d:∀b∈fp,Ds X Zi H b)(k:∀b o,b∉fp->s.heap.get? b=some o->h'.get? b=some o):
  Inv X Zi Z H { s with heap:=h',toks:=t' }:=by
 have f:∀b u,H b=some u->b∉fp:=λb u e z=>by rw[(d b z).1]at e;cases e
 refine I.step (g':=s.gens) (d':=s.drawn) (ch:=fp) (λb hb=>?_) (λb o _ _ a e _=>k b o a e) (λb o _ _ a e _=>⟨o.slots,k b o a e⟩) (λ_ _ _ _ n=>n)
  (λb o a e=>⟨o,k b o a e⟩) (λ_ _ e=>e) (λ_ _ _ e=>e) (λb ps e=>⟨#[],by rw[e];simp⟩) (λm g=>?_) (λb u e=>?_) I.bare
 .obtain⟨_,h1,_,j,i,h⟩:=d b hb;exact⟨j,h1,i,h⟩
 .obtain⟨o,es,ep,ho,r⟩:=g;exact⟨o,es,ep,k _ o (λz=>(d _ z).2.1 rfl) ho,r⟩
 .refine(I.AI b u e).HK (λc v a q=>k c v ?_ q) (λ_ q=>q) λ_ _ q=>q;rcases a with z|z
  .rw[z];exact f b u e
  .exact f c _ z
theorem Inv.dh{o:HO}(I:Inv X Zi Z H s)(h:∀b∈fp,Ds X Zi H b)(k:∀b o,b∉fp->s.heap.get? b=some o->h'.get? b=some o)
  (ha:s.heap.objs.size<=a) (f:CL X.prog X.w (upd H a o) h' a o):Inv X Zi Z (upd H a o) { s with heap:=h',toks:=t' }:=by
 have hn:H a=none:=I.AI.fresh ha;have i:∀b u,H b=some u->b∉fp:=λb u e z=>by rw[(h b z).1]at e;cases e
 have ne:∀b u,H b=some u->b≠a:=λb u e=>Eb e hn;have g:∀b u,s.heap.get? b=some u->b≠a:=λb u e=>BL (Cr (Az e) ha);refine I.step (g':=s.gens) (d':=s.drawn) (ch:=fp) (λb hb=>?_) (λb o _ _ d e _=>k b o d e) (λb o _ _ d e _=>⟨o.slots,k b o d e⟩) (λb o _ e n=>by rw[Ab (g b o e)];exact n)
  (λb o d e=>⟨o,k b o d e⟩) (λb _ e=>by rw[Ab (ne b _ e)];exact e) (λb _ _ e=>by rw[Ab (ne b _ e)];exact e) (λb ps e=>⟨#[],by rw[Ab (ne b _ e),e];simp⟩) (λm j=>?_) (λb u e=>?_) I.bare
 .obtain⟨_,h1,_,t,p,l⟩:=h b hb;exact⟨t,h1,p,l⟩
 .obtain⟨o,es,ep,ho,r⟩:=j;exact⟨o,es,ep,k _ o (λz=>(h _ z).2.1 rfl) ho,r⟩
 .by_cases hb:b=a
  .subst hb;rw[AO]at e;cases e;exact f
  .rw[Ab hb]at e;refine(I.AI b u e).HK (λc v d q=>k c v ?_ q) (λc q=>by rw[Ab (ne c _ q)];exact q) λc _ q=>by rw[Ab (ne c _ q)];exact q
   rcases d with z|z
   .rw[z];exact i b u e
   .exact i c _ z
def iQ(K:ZEW)(a:Addr)(xs:List V):It:=
 ⟨λi H=>AQ K H a xs/\i<xs.length,λi H x H'=>∃p y,xs[i]?=some y/\x=.ref p/\H p=none/\H'=upd H p (.tup [.int i,y]),λi H=>AQ K H a xs/\xs.length<=i⟩
theorem cN{P:Program}{K:ZEW}{es:List Expr}{F:Pos}(a e it:Addr)(xs:List V)(MF:e≠it):
  Turn P w K (.Tuple es k1 F) (iQ K a xs) [e,it] e (λi h=>(∃old,IsEnum h e it i old)/\h.IsListIter it a i) where
 mem:=by simp
 obj:=λi h st b hb=>by
  obtain⟨⟨old,h1⟩,o,h2,_,d⟩:=st;rcases List.mem_cons.mp hb with z|z
  .subst z;exact⟨_,h1,λv z=>by cases z⟩
  .have:b=it:=by simpa using z
   subst this;exact⟨o,h2,λv z=>by rw[d]at z;cases z⟩
 keep:=λi h h' st k=>⟨let ⟨old,h1⟩:=st.1;⟨old,k e (by simp) _ h1⟩,st.2.at λo q=>k it (by simp) o q⟩
 item:=by
  intro X n hw r y i Zi s Z H E I g st m;subst n hw r;obtain⟨l,hi⟩:=m;obtain⟨⟨old,f⟩,c⟩:=st;obtain⟨A3,j,p,G⟩:=I.list l;obtain⟨u,J,D⟩:=j.get (Am hi);refine wpAny_pyNext_enum_item f c p.isList (x:=u) (by simpa using J) MF λh1 HC C OM WD YD=>⟨_,rfl,?_⟩
  refine ZA6 HC λh2 JR CB=>?_;have B:e<s.heap.objs.size:=Az f;have A:h2.get? s.heap.objs.size=some { cls:=.type "tuple", data:=.seq #[.int i s.toks,u] }:=(CB.2 _ (JD B)).trans OM;have kp:∀b o,b∉[e,it]->s.heap.get? b=some o->h2.get? b=some o:=λb o hb q=>by
   have t:b≠e/\b≠it:=by simpa using hb
   exact(CB.2 b t.1).trans (YD b o t.1 t.2 q)
  refine⟨.ref s.heap.objs.size,_,I.dh (t':=s.toks+1) (a:=s.heap.objs.size) (o:=.tup [.int i,xs[i]]) g kp (Ad _) ?_,rfl,⟨_,_,Am hi,rfl,I.AI.fresh (Ad _),rfl⟩,⟨⟨_,JR⟩,C.at λo q=>(CB.2 it (B0 MF)).trans q⟩,λb hb=>?_⟩
  .exact⟨(by show 2<=sizeLine;decide),[.int i s.toks,u],.cons ⟨_,rfl⟩ (.cons D .nil),⟨_,A,rfl,_,rfl⟩,λob q=>by rw[A]at q;cases q;rfl⟩
  .have L:b<s.heap.objs.size:=by
    rcases List.mem_cons.mp hb with z|z
    .rw[z];exact B
    .have:b=it:=by simpa using z
     obtain⟨o,q,_⟩:=c;rw[this];exact Az q
   rw[Ab (BL L)];exact(g b hb).1
 done:=by
  intro X n hw r y i Zi s Z H E I g st m;subst n hw r;obtain⟨l,hx⟩:=m;obtain⟨⟨old,f⟩,c⟩:=st;obtain⟨A3,j,p,G⟩:=I.list l;have M:=j.length;exact wpAny_pyNext_enum_end (I.ok.hd y) f c p.isList (by simp;omega) λh' eb=>⟨rfl,I.aC (t':=s.toks) g λb o hb q=>eb b o (λz=>hb (by simp[z])) q⟩
 self:=λ_ _ _ _ _ st h=>let ⟨⟨_,f⟩,_⟩:=st;wx f h
def TB(K:ZEW)(t:TA):TI:=λZ H R=>t Z H λvs H1=>∃a xs,vs=[.ref a]/\AQ K H1 a xs/\R (iQ K a xs) H1
theorem ZB3{es:List Expr}{i p pos:Pos}{l:Expr}{t:TA}(n:Gl X "enumerate")(m:X.mg "enumerate"=none)(ha:QA X [l] t)(j:starEach [l] X.env=[(false,eval l X.env)]:=by rfl):
  QI X (.Tuple es k1 i) (.Call (.Name "enumerate" p) [l] [] pos) (TB X.K t):=⟨by
 have ha:=ha.h;intro Zi s Z H R I h;refine pO (J6 I n m (show bootBuiltins "enumerate"=some (.type "enumerate") by decide +kernel) ?_ (by decide) (by decide));refine LV (AN (ha pos Zi s Z H _ I h) λus s1⟨vs,H1,I1,g,q1⟩=>?_) j rfl;obtain⟨a,xs,rfl,k,q⟩:=q1;obtain⟨u,rfl,f⟩:=vals1 g;cases f;obtain⟨A3,r,p,v⟩:=I1.list k;refine call_enumerate_list p.isList λh' d c hsz kp=>?_;refine wx d ?_;have o:s1.heap.objs.size+1≠s1.heap.objs.size:=ZDQ _;refine⟨s1.heap.objs.size+1,[s1.heap.objs.size+1,s1.heap.objs.size],_,_,H1,rfl,I1.kept (t':=s1.toks) kp,cN a _ _ xs o,⟨⟨_,d⟩,c⟩,λb hb=>?_,q⟩;have e:s1.heap.objs.size<=b:=by
  rcases List.mem_cons.mp hb with z|z
  .rw[z];exact D6 _
  .have:b=s1.heap.objs.size:=by simpa using z
   rw[this];exact Ad _
 exact I1.Ly e (I1.AI.fresh e)⟩
theorem vJ(t:SetTable)(n:Nat):(t.orStandIn n).led=t.led:=by unfold SetTable.orStandIn;split <;> rfl
theorem kB(t:SetTable)(es:Array (Int×Value))(h:Int)(x:Value):(layNew t es h x).2.1.led=t.led:=by
 unfold layNew;split
 .show(SetTable.orStandIn (t.put _).1 _).led=t.led;rw[vJ];rfl
 .rfl
theorem ZB6{c b d:Nat}{led a:Bool}{e:Array Int}{p:SetTable×Array Nat}(h:SetTable.laid c b d led a e=some p):p.1.led=led/\p.1.plain=a:=by
 unfold SetTable.laid at h;cases f:SetTable.layClean c e with
 |none=>rw[f]at h;cases h
 |some ow=>rw[f]at h;cases h;exact⟨rfl,rfl⟩
theorem ZBf(t:SetTable)(es:Array (Int×Value))(n:Nat)(a:t.plain=false):(relayAll t es n).2.1.led=t.led/\(relayAll t es n).2.1.plain=false:=by
 unfold relayAll;split
 .next t' order hr=>
  have q:=ZB6 (p:=(t',order)) hr;dsimp only at q ⊢;split
  .exact⟨q.1,q.2.trans a⟩
  .exact⟨rfl,rfl⟩
 .exact⟨rfl,rfl⟩
noncomputable def GB(w:World):Bool:=w.params.followText "set-order"
def Cg(prog:Program)(w:World)(h:Heap)(a:Addr)(S:Str->Bool)(n:Nat):Prop:=
 ∃o es ep t,h.get? a=some o/\o.ExactSet/\o.data=.set es ep t/\ElemsOf (PySem.strKind prog w) es.toList/\(∀k,S k=true↔∃e∈es.toList,(PySem.strKind prog w).is k e.2=true)/\
  es.size<scanBound/\t.fits es.size=true/\es.size=n/\(t.led=!GB w)/\(0<es.size->t.plain=false)
theorem Cg.keep{h:Heap}{S:Str->Bool}(x:Cg prog w h a S n)(k:∀o,h.get? a=some o->h'.get? a=some o):Cg prog w h' a S n:=by
 obtain⟨o,es,ep,t,ho,r⟩:=x;exact⟨o,es,ep,t,k o ho,r⟩
theorem Cg.congr{h:Heap}{S S':Str->Bool}{b:Nat}(x:Cg prog w h a S n)(e:∀k,S k=S' k)(m:n=b):Cg prog w h a S' b:=by
 obtain⟨o,es,ep,t,h1,h2,l,j,i,g,f,d,c⟩:=x;exact⟨o,es,ep,t,h1,h2,l,j,λk=>by rw[<- e k];exact i k,g,f,d.trans m,c⟩
theorem eA{h:Heap}(ho:h.get? a=some o)(hd:o.data=.set es ep t)(DY:Array (Int×Value))(t':SetTable):
  (h.update a (Obj.putSet DY t')).get? a=some { o with data:=.set DY (ep+1) t' }:=by
 have q:=EM (Obj.putSet DY t') ho (by rw[putSet_of DY t' hd];rfl);rw[q,putSet_of DY t' hd]
theorem Cg.put{S:Str->Bool}{k:Str}{tk:Tok}{Q:Bool->Shared->Prop}(hS:Cg prog w s.heap a S n)(NC:n+1<scanBound)
  (h:∀h',Heap.SameBut a s.heap h'->Cg prog w h' a (λk'=>S k' || decide (k'=k)) (if S k then n else n+1)->Q (!S k) { s with heap:=h' }) :
  wpAny (model prog w) A (setAddHashed a (.str k tk) ((PySem.strKind prog w).hash k)) Q E s:=by
 obtain⟨o,es,ep,t,ho,f,hd,LX,FX,hb,y,hn,RX,Bo⟩:=hS;have F:(PySem.strKind prog w).is k (.str k tk)=true:=ZDf prog w k tk;have D:(Value.str k tk).scannable=true:=rfl;have rm:es.size+1<scanBound:=by rw[hn];exact NC
 have N:∀(b:Bool)(s1:Shared)(Q1:Unit->Shared->Prop),Q1 () s1->wpAny (model prog w) A (match b with|true=>rule "set.scan.the-table-gave-way" |false=>pure ()) Q1 E s1:=by
  intro b s1 Q1 q;cases b
  .exact kX q
  .exact zU q
 unfold setAddHashed setAddHashedIn;refine oR ?_;refine kU (tP ho hd y ?_);dsimp only;rw[byScan_of D hb LX];simp only[↓reduceIte];unfold setAddByScan;refine kU ?_;refine kU (zU ?_);refine kU (wpAny_setScan_of F ho hd y LX ?_);cases M:List.findIdx? (λe=>(PySem.strKind prog w).is k e.2) es.toList with
 |some j=>
  dsimp only;obtain⟨hj,W,_⟩:=List.findIdx?_eq_some_iff_getElem.mp M;have hk:S k=true:=(FX k).mpr ⟨es.toList[j],Gx hj,W⟩;refine kX ?_;refine kX ?_;have q:=h s.heap (Heap.SameBut.refl a s.heap) ⟨o,es,ep,t,ho,f,hd,LX,λk'=>by
   rw[<- FX k',Bool.or_eq_true,ZAC];exact⟨λz=>z.elim id λe=>e▸hk,Or.inl⟩,hb,y,by rw[kz hk];exact hn,RX,Bo⟩
  rw[hk]at q;exact q
 |none=>
  dsimp only;have hk:S k=false:=by
   cases e:S k with
   |false=>rfl
   |true=>
    obtain⟨x,hx,σ⟩:=(FX k).mp e;have q:=List.findIdx?_eq_none_iff.mp M x hx;rw[σ]at q;exact Bool.noConfusion q
  have g:=layNew_perm t es ((PySem.strKind prog w).hash k) (.str k tk);have u:=layNew_fits t es ((PySem.strKind prog w).hash k) (.str k tk);have l1:=kB t es ((PySem.strKind prog w).hash k) (.str k tk);generalize layNew t es ((PySem.strKind prog w).hash k) (.str k tk)=L at g u l1 ⊢;obtain⟨CF,J,U,gv⟩:=L;dsimp only at g u l1 ⊢;rw[ZCz]at g;have V:ElemsOf (PySem.strKind prog w) CF.toList:=(LX.push F D).perm g;have Y:∀k',(S k' || decide (k'=k))=true↔∃e∈CF.toList,(PySem.strKind prog w).is k' e.2=true:=mem_push_iff F FX g;have H:CF.size=n+1:=by rw[<- Fh,g.length_eq,C0,Fh,hn];rfl
  have P:CF.size<scanBound:=by rw[H];exact NC
  have i:∀(h':Heap)(o':Obj)(DY:Array (Int×Value))(Ko:Nat)(t':SetTable),Heap.SameBut a s.heap h'->h'.get? a=some o'->o'.ExactSet->o'.data=.set DY Ko t'->DY.toList.Perm CF.toList->t'.fits DY.size=true->t'.led=t.led->t'.plain=false->
    Q true { s with heap:=h' }:=by
   intro h' o' DY Ko t' sb go T d' l ff ll X;have G:DY.size=n+1:=by rw[<- H,<- Fh,l.length_eq,Fh]
   have q:=h h' sb ⟨o',DY,Ko,t',go,T,d',V.perm l,λk'=>(Y k').trans ⟨λ⟨e,B,q⟩=>⟨e,l.mem_iff.mpr B,q⟩,λ⟨e,B,q⟩=>⟨e,l.mem_iff.mp B,q⟩⟩,by rw[G];exact NC,ff,by rw[hk];exact G,ll.trans RX,λ_=>X⟩;rw[hk]at q;exact q
  have d:∀(c:SetTable),c.fits CF.size=true->c.led=t.led->c.plain=false->wpAny (model prog w) A (do
    storeSet a CF c
    if(
      !U && c.tooFull)=true then do
      (match(relayAll c CF (SetTable.grown CF.size)).2.2 with|true=>rule "set.scan.the-table-gave-way" |false=>pure ())
      storeSet a (relayAll c CF (SetTable.grown CF.size)).1 (relayAll c CF (SetTable.grown CF.size)).2.1
      pure (some true)
     else pure (some true)) (λr s'=>match r with|some b=>Q b s'|none=>False) E s:=by
   intro c f2 l2 O;refine kU (wpAny_storeSet_of ho hd ?_ (ZAA P));have v:=eA ho hd CF c;have K:=Mj s.heap a (Obj.putSet CF c);split
   .have m:=relayAll_perm c CF (SetTable.grown CF.size);have C:=relayAll_fits c CF (SetTable.grown CF.size);have p:=ZBf c CF (SetTable.grown CF.size) O;generalize relayAll c CF (SetTable.grown CF.size)=Rl at m C p ⊢;obtain⟨Km,I,g3⟩:=Rl;dsimp only at m C p ⊢;have R:Km.size=CF.size:=by rw[<- Fh,m.length_eq,Fh]
    refine kU (N _ _ _ ?_);refine kU (wpAny_storeSet_of v rfl ?_ (ZAA (by rw[R];exact P)));refine kX ?_;exact i _ _ Km _ I (K.trans (Mj _ a _)) (eA v rfl Km I) f rfl m C (p.1.trans l2) p.2
   .exact kX (i _ _ CF _ c K v f rfl (SO _) f2 l2 O)
  refine kU (N _ _ _ ?_);split
  .next Px=>
   refine kU ?_;rw[hashByValue_scannable 8 D];refine kX ?_;refine ni (d { J with plain:=false } (SetTable.fits_plain_off u) l1 rfl) (λr s' q=>?_) λ_ _ e=>e
   cases r with
   |none=>exact q.elim
   |some b=>exact kX q
  .next Px=>
   refine kU (kX ?_);simp only[↓reduceIte];refine ni (d J u l1 (by simpa using Px)) (λr s' q=>?_) λ_ _ e=>e
   cases r with
   |none=>exact q.elim
   |some b=>exact kX q
theorem Ur{α:Type}:∀(l:List α)(i:Nat)(h:i<l.length),(l[i]::l.eraseIdx i).Perm l
 |_::_,0,_=>SO _
 |x::r,i+1,h=>(List.Perm.swap x (r[i]'(by simpa using h)) (r.eraseIdx i)).trans ((Ur r i (by simpa using h)).cons x)
theorem kJ(nx:Nat->Nat):∀(n k:Nat)(l:List α)(out:Array α),l.length=n->(pickOrder.go nx n k l out).toList.Perm (out.toList++l):=by
 intro n
 induction n with
 |zero=>
  intro k l out b;rw[List.length_eq_zero_iff.mp b];unfold pickOrder.go;simp
 |succ n c=>
  intro k l out b;have a:nx k % l.length<l.length:=Nat.mod_lt _ (by omega);unfold pickOrder.go;rw[Am a];dsimp only;refine(c _ _ _ (by rw[Oi a];omega)).trans ?_;rw[ZCz,BV];exact List.Perm.append_left _ (Ur l _ a)
theorem VC(nx:Nat->Nat)(xs:Array α):(pickOrder nx xs).toList.Perm xs.toList:=by
 have q:=kJ nx xs.size 0 xs.toList #[] (by simp)
 simpa[pickOrder]using q
theorem nA{a:Source}{Q:Nat->Shared->Prop}(hn:n≠0)(h:∀k d,k<n->Q k { s with drawn:=d }):wpAny (model prog w) A (choose a n) Q E s:=by
 intro Γ p hΓ;show Sem.wp _ _ (.choose a n .pure) _ _ _ _;rw[Sem.wp_choose];refine⟨hn,?_⟩;rw[Sem.wp_pure];exact h _ _ (Nat.mod_lt _ (Nat.pos_of_ne_zero hn))
theorem oB:∀(n:Nat)(xs:List α)(s:Shared)(Q:List α->Shared->Prop),xs.length<=n->(∀ys d,ys.Perm xs->Q ys { s with drawn:=d })->wpAny (model prog w) A (drawOrder n xs) Q E s:=by
 intro n
 induction n with
 |zero=>
  intro xs s Q a h;rw[List.length_eq_zero_iff.mp (Nat.le_zero.mp a)]at h ⊢;exact kX (h [] s.drawn (SO _))
 |succ n b=>
  intro xs s Q a h;cases xs with
  |nil=>exact kX (h [] s.drawn (SO _))
  |cons x r=>
   unfold drawOrder;refine kU (nA (by simp) λk d hk=>?_);rw[Am hk];dsimp only;refine kU (b _ _ _ (by rw[Oi hk];simp only[Bw]at a ⊢;omega) λys d' c=>?_);exact kX (h _ d' ((c.cons _).trans (Ur (x::r) _ hk)))
theorem uX{Q:Bool->Shared->Prop}(ho:s.heap.get? a=some o)(hd:o.data=.set es ep t)(b:t.fits es.size=true)
  (h:Q (!GB w && (!t.plain && decide (es.size > 1))) s):wpAny (model prog w) A (setDrawn a) Q E s:=by
 unfold setDrawn;refine kU (tP ho hd b ?_);dsimp only;unfold setsByText;refine kU (kU (uT (kX ?_)));exact kX h
theorem Zv{Q:Option (Value×Nat)->Shared->Prop}(hb:GB w=true)(ho:s.heap.get? a=some o)(hd:o.data=.set es ep t)(b:t.fits es.size=true)
  (h:Q (((pickOrder (w.params.setOrder a ep) es)[i]?).map λe=>(e.2,sl)) s):wpAny (model prog w) A (setNext a sl i ep) Q E s:=by
 have c:w.params.followText "set-order"=true:=hb;unfold setNext;refine kU (tP ho hd b ?_);dsimp only;unfold setsByText;refine kU (kU (uT (kX ?_)));show wpAny _ _ (if w.params.followText "set-order"=true then _ else _) _ _ _
 rw[kz c,km (by simp)];refine kU ?_;unfold setWalk setsByText;refine kU (tP ho hd b ?_);dsimp only;refine kU (kU (uT (kX ?_)));show wpAny _ _ (if w.params.followText "set-order"=true then _ else _) _ _ _
 rw[kz c];exact kU (uT (kX (kX h)))
theorem cz{Q:Option (Value×Nat)->Shared->Prop}(hb:GB w=false)(ho:s.heap.get? a=some o)(hd:o.data=.set es ep t)(c:t.fits es.size=true)
  (h1:es.size<=1) (b:t.led=true)
  (h:Q (match es[SetTable.below t.place sl]?,t.place[SetTable.below t.place sl]? with|some (_,x),some j=>some (x,j+1)|_,_=>none) s):wpAny (model prog w) A (setNext a sl i ep) Q E s:=by
 have d:w.params.followText "set-order"=false:=hb;unfold setNext;refine kU (tP ho hd c ?_);dsimp only;unfold setsByText;refine kU (kU (uT (kX ?_)));show wpAny _ _ (if w.params.followText "set-order"=true then _ else _) _ _ _
 rw[km (by rw[d];decide)];show wpAny _ _ (if(!t.plain && decide (es.size > 1))=true then _ else _) _ _ _
 rw[km (by rw[lx (by omega)];simp)];refine kU (m:=_) ?_
 wp_delta
 rw[b];exact kX (kX h)
theorem ur{Q:Value->Shared->Prop}(ho:s.heap.get? a=some o)(hd:o.data=.set es ep t)(b:t.fits es.size=true)(c:es[pl]?=some e)
  (h:Q e.2 s):wpAny (model prog w) A (setNextDrawn a pl ep) Q E s:=by
 unfold setNextDrawn;refine kU (tP ho hd b ?_);dsimp only;rw[km (by simp),c];exact kX h
theorem fL:Manifest.owners.lookup (String.ofList ['r','o','t','a','r','e','t','i','_','t','e','s'].reverse)=some Manifest.sig_set_iterator:=by kernel_rfl
theorem Gv:Slot "set_iterator" "__next__" "set_iterator.__next__" :=
 .of (owner:="set_iterator") (n:="__next__") (by rw[wg,qk];kernel_rfl) (by decide +kernel) (by decide +kernel) (by decide +kernel)
  (by first|exact .inl (by decide +kernel)|exact .inr (by decide +kernel)) (by rw[qK];kernel_rfl)
theorem RU:entryFor table "set_iterator.__next__"=some Builtin.«set_iterator.__next__»:=entryFor_of_tree (by kernel_rfl)
theorem Pl(a:Value):argsOk "set_iterator.__next__" ⟨[a],[]⟩:=by
 unfold argsOk;rw[signature?_of (id:="set_iterator.__next__") (n:=['_','_','t','x','e','n','_','_']) (o:=['r','o','t','a','r','e','t','i','_','t','e','s']) (by kernel_rfl) fL];kernel_rfl
theorem jJ:Slot "set_iterator" "__iter__" "set_iterator.__iter__" :=
 .of (owner:="set_iterator") (n:="__iter__") (by rw[wg,qk];kernel_rfl) (by decide +kernel) (by decide +kernel) (by decide +kernel)
  (by first|exact .inl (by decide +kernel)|exact .inr (by decide +kernel)) (by rw[qK];kernel_rfl)
theorem kj(a:Value):argsOk "set_iterator.__iter__" ⟨[a],[]⟩:=by
 unfold argsOk;rw[signature?_of (id:="set_iterator.__iter__") (n:=['_','_','r','e','t','i','_','_']) (o:=['r','o','t','a','r','e','t','i','_','t','e','s']) (by kernel_rfl) fL];kernel_rfl
theorem ZAs:entryFor table "set_iterator.__iter__"=some Builtin.«dict_keyiterator.__iter__»:=
 entryFor_alias (id' := "dict_keyiterator.__iter__") (by kernel_rfl) (by first|rfl|decide +kernel|(unfold String.splitOn;simp +decide [String.splitOnAux])) (by decide +kernel) (by kernel_rfl)
theorem ZCl:entryFor table "set.__iter__"=some Builtin.«frozenset.__iter__»:=
 entryFor_alias (id' := "frozenset.__iter__") (by kernel_rfl) (by first|rfl|decide +kernel|(unfold String.splitOn;simp +decide [String.splitOnAux])) (by decide +kernel) (by kernel_rfl)
noncomputable def Io(f:Value)(i:Nat)(S:Addr)(n ep:Nat):Array Value:=#[f,rawInt (i:Int),.ref S,rawInt (n:Int),rawInt (ep:Int)]
def EU(h:Heap)(I:Addr)(f:Value)(i:Nat)(S:Addr)(n ep:Nat):Prop:=∃o,h.get? I=some o/\o.cls=.type "set_iterator" /\ o.data=.fields (Io f i S n ep)
theorem EU.typeIs(x:EU s.heap I f i S n ep):s.TypeIs (.ref I) "set_iterator" := let ⟨o,ho,hc,_⟩:=x;⟨o,ho,hc⟩
theorem EU.at{h:Heap}(x:EU h I f i S n ep)(e:∀o,h.get? I=some o->h'.get? I=some o):EU h' I f i S n ep:=let ⟨o,ho,r⟩:=x;⟨o,e _ ho,r⟩
theorem fF{Q:α->Shared->Prop}{F:Value->Shared->Prop}(hh:A.handled=none)
  (c:∀e h',(∀b o,s.heap.get? b=some o->h'.get? b=some o)->(Shared.TypeIs { s with heap:=h' } e "StopIteration")->F e { s with heap:=h' }) :
  wpAny (model prog w) A (newExc (.type "StopIteration") [] >>= λe=>raiseNew e) Q F s:=by
 refine kU ?_;simp only[newExc,newTuple];refine kU (nZ ?_ (by size_fits));refine kU (m:=firstArgMember _ _) (uq (a:=Value.none) (by first|rfl|(simp only[firstArgMember];rfl)) ?_)
 refine nZ ?_ (by size_fits);simp only[raiseNew];refine kU (wpAny_handled ?_);rw[hh];refine kU (kX (wpAny_throw ?_));exact c _ _ (λb o e=>B7 _ (B7 _ e)) ⟨_,BM _ rfl,rfl⟩
theorem iM{nx:Nat}(b:EU s.heap it (rawInt (sl:Int)) i S n ep)
  (ho:s.heap.get? S=some o) (hd:o.data=.set es ep t) (e:t.fits es.size=true) (hn:es.size=n)
  (Tp:∀(A1:Around)(E1:Value->Shared->Prop)(Q1:Option (Value×Nat)->Shared->Prop),Q1 (some (x,nx)) s->wpAny (model prog w) A1 (setNext S sl i ep) Q1 E1 s)
  (g:∀h',EU h' it (rawInt (nx:Int)) (i+1) S n ep->Heap.SameBut it s.heap h'->Q (some x) { s with heap:=h' }):wpAny (model prog w) A (pyNext (.ref it)) Q E s:=by
 obtain⟨h,Et,f,Dt⟩:=id b;subst hn;unfold pyNext;refine kU (yX (o8 (name:=Str.ofString "__next__") b.typeIs Gv
  (pE Gv b.typeIs RU ?_ (Pl _))))
 unfold Builtin.«set_iterator.__next__»;refine kU (uq (a:=(Value.ref it,[])) rfl ?_)
 try dsimp only
 refine kU (ZA3 Et Dt ?_);show wpAny _ _ (setEntries S >>= _) _ _ s;refine kU (uA ho hd e ?_);rw[km (by simp)];show wpAny _ _ (setNext S sl i ep >>= _) _ _ s;refine kU (Tp _ _ _ ?_);dsimp only;refine kU (pk Et Dt (by simp[Io]) ?_);have d:=EM (λob=>Obj.mapFields (·.setIfInBounds 0 (rawInt (nx:Int))) ob) Et (Mr (GI Dt _))
 have c:=GI Dt (·.setIfInBounds 0 (rawInt (nx:Int)))
 refine kU (pk (s:={ s with heap:=_ }) d c (by simp[Io]) ?_)
 refine kX ⟨x,rfl,kX (g _ ⟨_,EM _ d (Mr (GI c _)),?_,?_⟩ ((Mj ..).trans (Mj ..)))⟩
 .exact(Sb ..).trans ((Sb ..).trans f)
 .rw[GI c];simp[Io]
theorem iF(hh:A.handled=none)(c:EU s.heap it (rawInt (sl:Int)) i S n ep)
  (ho:s.heap.get? S=some o) (hd:o.data=.set es ep t) (d:t.fits es.size=true) (hn:es.size=n)
  (Tp:∀(A1:Around)(E1:Value->Shared->Prop)(Q1:Option (Value×Nat)->Shared->Prop),Q1 none s->wpAny (model prog w) A1 (setNext S sl i ep) Q1 E1 s)
  (g:∀h',Heap.ExtBut it s.heap h'->Q none { s with heap:=h' }):wpAny (model prog w) A (pyNext (.ref it)) Q E s:=by
 obtain⟨h,Et,j,Dt⟩:=id c;subst hn;unfold pyNext;refine kU (yX (o8 (name:=Str.ofString "__next__") c.typeIs Gv
  (pE Gv c.typeIs RU ?_ (Pl _))))
 unfold Builtin.«set_iterator.__next__»;refine kU (uq (a:=(Value.ref it,[])) rfl ?_)
 try dsimp only
 refine kU (ZA3 Et Dt ?_);show wpAny _ _ (setEntries S >>= _) _ _ s;refine kU (uA ho hd d ?_);rw[km (by simp)];show wpAny _ _ (setNext S sl i ep >>= _) _ _ s;refine kU (Tp _ _ _ ?_);dsimp only;refine kU (pk Et Dt (by simp[Io]) ?_);refine fF (A:=A.in1) hh λe h' k f=>?_;refine kU (rL (T:="StopIteration") (b:=true) f ZAH ?_);refine kX (g _ (λb ob hb e=>?_));exact k b ob ((EB _ _ (B0 hb)).trans e)
theorem ud{T:Addr}(b:EU s.heap it (.ref T) i S n ep)
  (ho:s.heap.get? S=some o) (hd:o.data=.set es ep t) (c:t.fits es.size=true) (hn:es.size=n) (h:s.heap.get? T=some oT) (Ef:oT.data=.seq ps nT) (d:ps[i]?=some (rawInt (pl:Int))) (f:es[pl]?=some e)
  (j:∀h',EU h' it (.ref T) (i+1) S n ep->Heap.SameBut it s.heap h'->Q (some e.2) { s with heap:=h' }):wpAny (model prog w) A (pyNext (.ref it)) Q E s:=by
 obtain⟨k,Et,g,Dt⟩:=id b;subst hn;unfold pyNext;refine kU (yX (o8 (name:=Str.ofString "__next__") b.typeIs Gv
  (pE Gv b.typeIs RU ?_ (Pl _))))
 unfold Builtin.«set_iterator.__next__»;refine kU (uq (a:=(Value.ref it,[])) rfl ?_)
 try dsimp only
 refine kU (ZA3 Et Dt ?_);show wpAny _ _ (setEntries S >>= _) _ _ s;refine kU (uA ho hd c ?_);rw[km (by simp)];show wpAny _ _ (seqItems? (.ref T) >>= _) _ _ s;refine kU ?_;unfold seqItems?;refine kU (zc h ?_);rw[Ef];refine kX ?_;show wpAny _ _ (match ps[i]? with|some (.int place _)=>_|some _=>_|none=>_) _ _ s
 rw[d];show wpAny _ _ (setNextDrawn S pl ep >>= _) _ _ s;refine kU (ur ho hd c f ?_);refine kU (pk Et Dt (by simp[Io]) ?_);refine kX ⟨e.2,rfl,kX (j _ ⟨_,EM _ Et (Mr (GI Dt _)),?_,?_⟩ (Mj ..))⟩
 .exact(Sb ..).trans g
 .rw[GI Dt];simp[Io]
theorem ZBk{T:Addr}(hh:A.handled=none)(c:EU s.heap it (.ref T) i S n ep)
  (ho:s.heap.get? S=some o) (hd:o.data=.set es ep t) (h:t.fits es.size=true) (hn:es.size=n) (d:s.heap.get? T=some oT) (Ef:oT.data=.seq ps nT) (g:ps[i]?=none)
  (j:∀h',Heap.ExtBut it s.heap h'->Q none { s with heap:=h' }):wpAny (model prog w) A (pyNext (.ref it)) Q E s:=by
 obtain⟨m,Et,p,Dt⟩:=id c;subst hn;unfold pyNext;refine kU (yX (o8 (name:=Str.ofString "__next__") c.typeIs Gv
  (pE Gv c.typeIs RU ?_ (Pl _))))
 unfold Builtin.«set_iterator.__next__»;refine kU (uq (a:=(Value.ref it,[])) rfl ?_)
 try dsimp only
 refine kU (ZA3 Et Dt ?_);show wpAny _ _ (setEntries S >>= _) _ _ s;refine kU (uA ho hd h ?_);rw[km (by simp)];show wpAny _ _ (seqItems? (.ref T) >>= _) _ _ s;refine kU ?_;unfold seqItems?;refine kU (zc d ?_);rw[Ef];refine kX ?_;show wpAny _ _ (match ps[i]? with|some (.int place _)=>_|some _=>_|none=>_) _ _ s
 rw[g];dsimp only;refine kU (pk Et Dt (by simp[Io]) ?_);have f:=EM (λob=>Obj.mapFields (·.setIfInBounds 0 (rawInt 0)) ob) Et (Mr (GI Dt _))
 have l:=GI Dt (·.setIfInBounds 0 (rawInt 0))
 refine kU (pk (s:={ s with heap:=_ }) f l (by simp[Io]) ?_)
 refine fF (A:=A.in1) hh λe h' k d=>?_;refine kU (rL (T:="StopIteration") (b:=true) d ZAH ?_);refine kX (j _ (λb ob hb e=>?_));exact k b ob ((EB _ _ (B0 hb)).trans ((EB _ _ (B0 hb)).trans e))
theorem Vl{Q:Value->Shared->Prop}(a:EU s.heap it f i S n ep)(h:Q (.ref it) s):wpAny (model prog w) A (pyIter (.ref it)) Q E s:=by
 refine wpAny_pyIter_slot a.typeIs jJ (pE jJ a.typeIs ZAs ?_ (kj _));show wpAny _ _ (ret (.ref it)) _ _ s;exact kX ⟨_,rfl, "set_iterator", _,a.typeIs,Gv.lookup,h⟩
theorem wy(hb:GB w=true)(hh:A.handled=none)(I S:Addr)(Ak:S≠I)(hd:o.data=.set es ep t)(c:t.fits es.size=true):
  Walks prog w A I [I,S] [I] es.size (λi v=>((pickOrder (w.params.setOrder S ep) es).toList.map (·.2))[i]?=some v) (λi h=>EU h I (rawInt ((0:Nat):Int)) i S es.size ep/\h.get? S=some o) where
 sub:=λb hb=>by simp at hb;simp[hb]
 frame:=λ_ _ _ x hk=>⟨x.1.at λo e=>hk I (by simp) o e,hk S (by simp) _ x.2⟩
 item:=λi s Q E hi x a=>by
  have g:(pickOrder (w.params.setOrder S ep) es).size=es.size:=by
   have q:=(VC (w.params.setOrder S ep) es).length_eq
   simpa using q
  have f:i<(pickOrder (w.params.setOrder S ep) es).size:=by omega
  refine iM (x:=((pickOrder (w.params.setOrder S ep) es)[i]).2) (nx:=0) x.1 x.2 hd c rfl (λA1 E1 Q1 q=>Zv hb x.2 hd c (by rw[LL f];exact q)) λh' Nr sb=>?_;exact a _ h' s.toks (by rw[B1,Og,LL f];rfl) ⟨Nr,sb.extBut S o Ak x.2⟩ λb ob hb d=>sb.extBut b ob (λh=>hb (by simp[h])) d
 done:=λs Q E x a=>by
  have g:(pickOrder (w.params.setOrder S ep) es).size=es.size:=by
   have q:=(VC (w.params.setOrder S ep) es).length_eq
   simpa using q
  refine iF hh x.1 x.2 hd c rfl (λA1 E1 Q1 q=>Zv hb x.2 hd c (by rw[jQ (by omega)];exact q)) λh' eb=>?_;exact a h' s.toks λb ob hb d=>eb b ob (λh=>hb (by simp[h])) d
 self:=λ_ _ _ _ x a=>Vl x.1 a
theorem VU:∀(a:Array α),a.size=1->∃x,a=#[x]
 | ⟨[x]⟩,_=>⟨x,rfl⟩
 | ⟨[]⟩,h=>by simp at h
 | ⟨_::_::_⟩,h=>by simp at h
theorem wA(p:Nat):SetTable.below #[p] 0=0:=by simp[SetTable.below,SetTable.below.go]
theorem below_1(p:Nat):SetTable.below #[p] (p+1)=1:=by simp[SetTable.below,SetTable.below.go]
theorem gs(h:t.fits n=true):t.place.size=n:=by
 simp only[SetTable.fits,Ek,beq_iff_eq]at h;exact h.1
theorem ze(hb:GB w=false)(hh:A.handled=none)(I S:Addr)(Ak:S≠I)(hd:o.data=.set es ep t)(a:t.fits es.size=true)(h1:es.size<=1)(l:t.led=true):
  Walks prog w A I [I,S] [I] es.size (λi v=>(es.toList.map (·.2))[i]?=some v) (λi h=>EU h I (rawInt (((if i=0 then 0 else t.place.getD 0 0+1:Nat)):Int)) i S es.size ep/\h.get? S=some o) where
 sub:=λb hb=>by simp at hb;simp[hb]
 frame:=λ_ _ _ x hk=>⟨x.1.at λo e=>hk I (by simp) o e,hk S (by simp) _ x.2⟩
 item:=λi s Q E hi x c=>by
  obtain rfl:i=0:=by omega
  have z:es.size=1:=by omega
  have f:t.place.size=1:=(gs a).trans z;obtain⟨e,rfl⟩:=VU es z;obtain⟨p,d⟩:=VU t.place f;have g:=x.1;refine iM (x:=e.2) (nx:=p+1) g x.2 hd a rfl (λA1 E1 Q1 q=>cz hb x.2 hd a h1 l (by rw[d,kz rfl,wA];exact q)) λh' Nr sb=>?_;refine c _ h' s.toks rfl ⟨?_,sb.extBut S o Ak x.2⟩ λb ob hb k=>sb.extBut b ob (λh=>hb (by simp[h])) k;rw[km (by omega),d];exact Nr
 done:=λs Q E x c=>by
  refine iF hh x.1 x.2 hd a rfl (λA1 E1 Q1 q=>cz hb x.2 hd a h1 l ?_) λh' eb=>?_
  .by_cases z:es.size=0
   .rw[jQ (by omega)];exact q
   .have m:es.size=1:=by omega
    have f:t.place.size=1:=(gs a).trans m;obtain⟨p,d⟩:=VU t.place f;rw[km z,d];show Q1 (match es[SetTable.below #[p] (p+1)]?,(#[p]:Array Nat)[SetTable.below #[p] (p+1)]? with|some (_,x),some j=>some (x,j+1)|_,_=>none) s
    rw[below_1,jQ (by omega)];exact q
  .exact c h' s.toks λb ob hb k=>eb b ob (λh=>hb (by simp[h])) k
 self:=λ_ _ _ _ x c=>Vl x.1 c
theorem qN(hh:A.handled=none)(I S T:Addr)(Ak:S≠I)(m:T≠I)(hd:o.data=.set es ep t)(j:t.fits es.size=true){ps:List Nat}(d:ps.Perm (List.range es.size))(l:oT.data=.seq (ps.map λi:Nat=>rawInt i).toArray nT):
  Walks prog w A I [I,S,T] [I] es.size (λi v=>(ps.map λp=>(es[p]?.map (·.2)).getD .none)[i]?=some v) (λi h=>EU h I (.ref T) i S es.size ep/\h.get? S=some o/\h.get? T=some oT) where
 sub:=λb hb=>by simp at hb;simp[hb]
 frame:=λ_ _ _ x hk=>⟨x.1.at λo e=>hk I (by simp) o e,hk S (by simp) _ x.2.1,hk T (by simp) _ x.2.2⟩
 item:=λi s Q E hi x a=>by
  have n:ps.length=es.size:=by have q:=d.length_eq;simpa using q
  have g:i<ps.length:=by omega
  have c:ps[i]<es.size:=by
   have q:=d.mem_iff.mp (Gx g)
   simpa using q
  have k:es[ps[i]]?=some es[ps[i]]:=LL c;refine ud (pl:=ps[i]) (e:=es[ps[i]]) x.1 x.2.1 hd j rfl x.2.2 l (by rw[ZDC,B1,Am g];rfl) k λh' Nr sb=>?_;exact a _ h' s.toks (by rw[B1,Am g];simp only[Sd,k,ZDS]) ⟨Nr,sb.extBut S o Ak x.2.1,sb.extBut T oT m x.2.2⟩ λb ob hb f=>sb.extBut b ob (λh=>hb (by simp[h])) f
 done:=λs Q E x a=>by
  have n:ps.length=es.size:=by have q:=d.length_eq;simpa using q
  refine ZBk hh x.1 x.2.1 hd j rfl x.2.2 l (by rw[ZDC,B1,JB (by omega)];rfl) λh' eb=>?_;exact a h' s.toks λb ob hb f=>eb b ob (λh=>hb (by simp[h])) f
 self:=λ_ _ _ _ x a=>Vl x.1 a
theorem lX(es:Array (Int×Value)):(List.range es.size).map (λp=>(es[p]?.map (·.2)).getD Value.none)=es.toList.map (·.2):=by
 refine jY (by simp) λi h1 h2=>?_;have hi:i<es.size:=by simpa using h1
 simp[LL hi]
theorem t8{l:List (Int×Value)}(h:ElemsOf (PySem.strKind prog w) l):∃ts,StrsAre (l.map (·.2)) ts/\∀k,k∈ts↔∃e∈l,(PySem.strKind prog w).is k e.2=true:=by
 induction l with
 |nil=>exact⟨[],.nil,λk=>by simp⟩
 |cons e r a=>
  obtain⟨ts,h1,h2⟩:=a h.tail;obtain⟨⟨k,hk,_⟩,_⟩:=h.head;obtain⟨tk,b⟩:=Value.isStrOf_shape hk;refine⟨k::ts,?_,λk'=>?_⟩
  .rw[Bh,b];exact .cons k tk h1
  .rw[Cp,h2 k'];constructor
   .rintro(rfl|⟨x,hx,q⟩)
    .exact⟨e,CJ,hk⟩
    .exact⟨x,Ca _ hx,q⟩
   .rintro⟨x,hx,q⟩;rcases List.mem_cons.mp hx with rfl|hx
    .exact .inl ((PySem.strKind prog w).inj x.2 k' k q hk)
    .exact .inr ⟨x,hx,q⟩
theorem StrsAre.len:∀{vs:List Value}{ss:List Str},StrsAre vs ss->vs.length=ss.length
 |_,_,.nil=>rfl
 |_,_,.cons _ _ h=>by rw[Bw,Bw,StrsAre.len h]
theorem StrsAre.perm{Bf:List Value}(h:StrsAre vs ss)(p:Bf.Perm vs):∃AG,StrsAre Bf AG/\AG.Perm ss:=by
 refine⟨Bf.map strOf,strsAre_map Bf λv hv=>h.all v (p.mem_iff.mp hv),?_⟩;rw[<- h.strs];exact p.map strOf
section
theorem xE{f:Str->Bool}{Q:Value->Shared->Prop}(H:Cg prog w s.heap S f n)
  (h:∀(I:Addr)(h1:Heap)(d:_)(fp:List Addr)(vs:List Value)(ts:List Str)(St:Nat->Heap->Prop),(∀A2:Around,A2.handled=none->Walks prog w A2 I fp [I] n (λi v=>vs[i]?=some v) St)->St 0 h1->(∀b∈fp,b=S∨s.heap.objs.size<=b/\b<h1.objs.size)->s.heap.objs.size<=I->s.heap.objs.size<=h1.objs.size->
   (∀b o,s.heap.get? b=some o->h1.get? b=some o)->StrsAre vs ts->ts.length=n->(∀k,f k=true↔k∈ts)->Q (.ref I) { s with heap:=h1,drawn:=d }):wpAny (model prog w) A (pyIter (.ref S)) Q E s:=by
 obtain⟨o,es,ep,t,ho,u,hd,LX,FX,hb,c,hn,RX,Bo⟩:=H;subst hn;have B:s.TypeIs (.ref S) "set" := ⟨o,ho,u.1⟩;have x:S<s.heap.objs.size:=Az ho;obtain⟨D,y,G⟩:=t8 LX;have j:∀(I:Addr)(h1:Heap)(d:_)(fp:List Addr)(vs:List Value)(St:Nat->Heap->Prop),(∀A2:Around,A2.handled=none->Walks prog w A2 I fp [I] es.size (λi v=>vs[i]?=some v) St)->St 0 h1->(∀b∈fp,b=S∨s.heap.objs.size<=b/\b<h1.objs.size)->s.heap.objs.size<=I->s.heap.objs.size<=h1.objs.size->
   (∀b o,s.heap.get? b=some o->h1.get? b=some o)->vs.Perm (es.toList.map (·.2))->Q (.ref I) { s with heap:=h1,drawn:=d }:=by
  intro I h1 d fp vs St P O N M L K J;obtain⟨ts,q1,q2⟩:=StrsAre.perm y J;refine h I h1 d fp vs ts St P O N M L K q1 ?_ λk=>?_
  .rw[q2.length_eq,<- StrsAre.len y];simp
  .rw[FX k,<- G k];exact q2.mem_iff.symm
 refine wpAny_pyIter_slot B F.slot_set_iter (pE F.slot_set_iter B ZCl ?_ (F.args_set_iter_1 _));unfold Builtin.«frozenset.__iter__»;refine kU (uq (a:=S) rfl ?_);refine kU ?_;unfold Builtin.Frozenset.sizeOf;refine kU (uA ho hd c (kX ?_));refine kU (uX ho hd c ?_)
 by_cases m:(!GB w && (!t.plain && decide (es.size > 1)))=true
 .rw[kz m];refine kU ?_;refine oB es.size (List.range es.size) _ _ (by rw[jg];exact Ad _) λps d r=>?_;have pz:(ps.map λi:Nat=>rawInt i).length<=sizeLine:=by rw[AW,r.length_eq,jg];exact ZAA hb
  refine kU (wpAny_newTuple ?_ pz);dsimp only;refine kU (wpAny_setEpoch_of (s:={ s with heap:=_,drawn:=d }) (B7 _ ho) hd c ?_)
  refine kU (nZ ?_);have g:∀(q:Obj)(b:Addr)(ob:Obj),s.heap.get? b=some ob->((s.heap.push (seqObj "tuple" (ps.map λi:Nat=>rawInt i).toArray 0)).push q).get? b=some ob:=λq b ob e=>B7 _ (B7 _ e);have l:(s.heap.push (seqObj "tuple" (ps.map λi:Nat=>rawInt i).toArray 0)).objs.size=s.heap.objs.size+1:=D5 ..;refine kX ⟨_,rfl, "set_iterator", _,⟨_,BM _ rfl,rfl⟩,Gv.lookup,?_⟩;refine j _ _ d [(s.heap.push (seqObj "tuple" (ps.map λi:Nat=>rawInt i).toArray 0)).objs.size,S,s.heap.objs.size] _ _ (λA2 hh=>qN hh _ S s.heap.objs.size (by rw[l];exact BL (Hx x)) (by rw[l];exact BL (LU _)) hd c r (oT:=seqObj "tuple" (ps.map λi:Nat=>rawInt i).toArray 0) rfl) ⟨⟨_,BM _ rfl,rfl,rfl⟩,g _ _ _ ho,B7 _ (BM _ rfl)⟩ ?_ (by show s.heap.objs.size<=(s.heap.push (seqObj "tuple" (ps.map λi:Nat=>rawInt i).toArray 0)).objs.size;rw[l];exact D6 _) ?_ (g _) ?_
  .intro b Bt;simp only[Cp,Au,yD]at Bt;rw[D5,l];rcases Bt with rfl|rfl|rfl
   .right;rw[l];exact⟨D6 _,LU _⟩
   .left;rfl
   .right;exact⟨Ad _,Hx (LU _)⟩
  .rw[D5,l];exact Z0 (D6 _)
  .rw[<- lX];exact r.map _
 .rw[km m];refine kU (kX ?_);refine kU (wpAny_setEpoch_of ho hd c ?_);refine kU (nZ ?_);have g:∀(q:Obj)(b:Addr)(ob:Obj),s.heap.get? b=some ob->(s.heap.push q).get? b=some ob:=λq b ob e=>B7 _ e;refine kX ⟨_,rfl, "set_iterator", _,⟨_,BM _ rfl,rfl⟩,Gv.lookup,?_⟩;have C:∀(q:Obj),∀b∈[s.heap.objs.size,S],b=S∨s.heap.objs.size<=b/\b<(s.heap.push q).objs.size:=by
   intro q b Bt;simp only[Cp,Au,yD]at Bt;rw[D5];rcases Bt with rfl|rfl
   .right;omega
   .left;rfl
  cases p:GB w with
  |true=>
   refine j _ _ s.drawn [s.heap.objs.size,S] _ _ (λA2 hh=>wy p hh _ S (BL x) hd c) ⟨⟨_,BM _ rfl,rfl,rfl⟩,g _ _ _ ho⟩ (C _) (Ad _) (by rw[D5];omega) (g _) ?_;exact(VC _ _).map _
  |false=>
   have h1:es.size<=1:=by
    rw[p]at m
    by_cases z:es.size<=1
    .exact z
    .rw[Bo (by omega),kc (by omega:es.size > 1)]at m;exact absurd rfl m
   refine j _ _ s.drawn [s.heap.objs.size,S] _ _ (λA2 hh=>ze p hh _ S (BL x) hd c h1 (by rw[RX,p];rfl)) ⟨⟨_,BM _ rfl,rfl,rfl⟩,g _ _ _ ho⟩ (C _) (Ad _) (by rw[D5];omega) (g _) (SO _)
theorem yw:typeLookup (.type "set") "__len__"=pure (some (.builtin "set.__len__")):=by rw[wg,qk];kernel_rfl
theorem pe{f:Str->Bool}{Q:List Value->Shared->Prop}(hh:A.handled=none)(m:Cg prog w s.heap S f n)(hn:n<=sizeLine)
  (h:∀(s':Shared)(vs:List Value)(ts:List Str),(∀b o,s.heap.get? b=some o->s'.heap.get? b=some o)->s.heap.objs.size<=s'.heap.objs.size->s'.gens=s.gens->s'.os=s.os->StrsAre vs ts->ts.length=n->(∀k,f k=true↔k∈ts)->Q vs s') :
  wpAny (model prog w) A (collect (.ref S)) Q E s:=by
 have P:S<s.heap.objs.size:=by obtain⟨o,_,_,_,ho,_⟩:=m;exact Az ho
 have q:s.heap.objs.size≠S:=JD P;unfold collect;refine kU (ZA1 (qG F.entry_proto_collect ?_));rw[Mg F.plain_proto_collect _];show wpAny _ A.in1 (newList [] >>= λl=>again (.builtin "list.__iadd__" ⟨[l,.ref S],[]⟩)) _ _ s;refine kU (nZ ?_);refine kX ⟨tX Yk _,qG F.entry_list_iadd ?_⟩;rw[Mg Yk _];generalize p:({ cls:=.type "list", data:=.seq ([]:List Value).toArray }:Obj)=so;have u:Cg prog w (s.heap.push so) S f n:=m.keep λo e=>B7 _ e;have O:(s.heap.push so).get? s.heap.objs.size=some so:=BM _ (by rw[<- p];rfl);have sz:(s.heap.push so).objs.size=s.heap.objs.size+1:=D5 ..;have y:Shared.TypeIs { s with heap:=s.heap.push so } (.ref S) "set" := by obtain⟨o,_,_,_,ho,c,_⟩:=u;exact⟨o,ho,c.1⟩
 have h1:Builtin.List.listSameRef (.ref s.heap.objs.size) (.ref S)=false:=by simp[Builtin.List.listSameRef,q]
 show wpAny _ A.in1 (Builtin.List.listExtendWith (.ref s.heap.objs.size) (.ref S) (.ref s.heap.objs.size)) _ _ { s with heap:=s.heap.push so }
 unfold Builtin.List.listExtendWith;refine kU (rY y ?_);rw[km (by rw[h1];decide)];refine kU (xE (s:={ s with heap:=s.heap.push so }) u λI h2 d fp vs ts St W BS Lz M ZDo kp YV tl H=>?_)
 have x:s.heap.objs.size∉fp:=λa=>by
  rcases Lz _ a with z|⟨z,_⟩
  .exact q z
  .have G:(s.heap.push so).objs.size<=s.heap.objs.size:=z;rw[sz]at G;omega
 have g:Shared.TypeIs { s with heap:=h2,drawn:=d } (.ref S) "set" := by obtain⟨o,ho,L⟩:=y;exact⟨o,kp _ _ ho,L⟩
 refine kU (oR ?_);unfold Builtin.List.listLengthHint;refine kU (vG g yw ?_);generalize t:("set.__len__":String)=Kk
 wp_delta
 rw[show splitId Kk=some ("set","__len__")from by subst t;decide +kernel];subst t;refine kU (rL (b:=true) g (by rw[qK];kernel_rfl) ?_);rw[km (by decide)];refine vT (λ_=>?_) (λCM=>absurd (by decide +kernel) CM);refine kU (rY g ?_);refine kX ?_;refine vT (λ_=>?_) (λCM=>absurd (by decide +kernel) CM);refine kU (zU ?_);refine kU ?_;show wpAny _ _ (updateSeq s.heap.objs.size (·.push .none) >>= λ_=>updateSeq s.heap.objs.size (·.pop)) _ _ _
 have D:(#[]:Array Value).size<=sizeLine:=C1 _;have j:((#[]:Array Value).push Value.none).size<=sizeLine:=by show 1<=sizeLine;decide
 have C:((#[]:Array Value).push Value.none).size<=sizeLine+1:=Z0 j;have B:(((#[]:Array Value).push Value.none).pop).size<=sizeLine+1:=C1 _;have r:=kp _ _ O;subst p;refine kU (rf (s:={ s with heap:=h2,drawn:=d }) r rfl ?_ D C)
 have q2:=EM (Obj.mapSeq (·.push Value.none)) r rfl
 refine rf q2 rfl ?_ j B;have q3:=EM (Obj.mapSeq (·.pop)) q2 rfl
 have v:∀b o,b≠s.heap.objs.size->h2.get? b=some o->((h2.update s.heap.objs.size (Obj.mapSeq (·.push Value.none))).update s.heap.objs.size (Obj.mapSeq (·.pop))).get? b=some o:=
  λb o hb e=>(EB _ _ (B0 hb)).trans ((EB _ _ (B0 hb)).trans e)
 refine kX ⟨tX jy _,yW (W A.in1 hh).toS hn _ x _ n 0 _ #[] _ rfl (C1 _) ?_ q3 (Yn _) λs' Cd R a CU BB=>?_⟩
 .exact(W A.in1 hh).frame 0 h2 _ BS λb hb o e=>v b o (λz=>x (z▸hb)) e
 .show wpAny _ A (load s.heap.objs.size >>= _) _ _ s';refine kU (zc CU ?_);have N:Cd.toList=vs:=by
   have K:vs.length=n:=(StrsAre.len YV).trans tl;refine Yr λi=>?_
   by_cases hi:i<n
   .have h1:Cd[i]?=some (Cd[i]'(by rw[BB.1];exact hi)):=LL _;rw[Og,h1];exact(BB.2 i _ h1).symm
   .rw[JB (by rw[Fh,BB.1];omega),JB (by omega)]
  refine kX ?_;rw[<- N]at YV;refine h s' Cd.toList ts (λb o e=>?_) (Mq (Az CU)) a.gens a.os YV tl H;have hb:b<s.heap.objs.size:=Az e;refine a.heap b o ?_ (v b o (BL hb) (kp b o (B7 _ e)));simp only[Cp,Au,yD,not_or];refine⟨BL hb,?_⟩;have J:s.heap.objs.size+1<=I:=by rw[<- sz];exact M
  exact BL (Cr hb (Nat.le_of_succ_le J))
variable{R:Result->Shared->Prop}{wr:List Addr}{G:Array GenState->Array GenState->Prop}{P:Nat->Value->Prop}{St:Nat->Shared->Prop}
theorem ZAr(W:WalksS prog w A.in1 I fp wr G ss.length P St)(S:Addr)(Cu:S∉fp)(Tb:∀i v,P i v->∃(h:i<ss.length)(t:Tok),v=.str ss[i] t)(hb:ss.length+1<scanBound):
  ∀(k i:Nat)(s:Shared),ss.length - i=k->i<=ss.length->St i s->Cg prog w s.heap S (λk'=>(dd (ss.take i)).any (· == k')) (dd (ss.take i)).length->
   (∀s',Moved (S::wr) G s s'->Cg prog w s'.heap S (λk'=>(dd ss).any (· == k')) (dd ss).length->R (.ok (.ret .none)) s')->
   codeAny (model prog w) A (.builtin "set.update.loop" ⟨[.ref S,.ref I],[]⟩) R s:=by
 have n:S∉wr:=λh=>Cu (W.sub _ h);have l:∀{s s':Shared}{f:Str->Bool}{m:Nat},Moved wr G s s'->Cg prog w s.heap S f m->Cg prog w s'.heap S f m:=λa d=>d.keep λo ho=>a.heap S _ n ho;intro k
 induction k with
 |zero=>
  intro i s hk hi BA d c;have e:i=ss.length:=by omega
  subst e;refine qG ZDU ?_;rw[Mg jv _];show wpAny _ A.in1 (pyNext (.ref I) >>= _) _ _ s;refine kU (W.done s _ _ BA λs' a=>?_);show wpAny _ A.in1 (ret Value.none) _ _ s';rw[KG]at d;exact kX (c s' (a.mono λb hb=>Ca _ hb) (l a d))
 |succ k u=>
  intro i s hk hi BA d c;have g:i<ss.length:=by omega
  refine qG ZDU ?_;rw[Mg jv _];show wpAny _ A.in1 (pyNext (.ref I) >>= _) _ _ s;refine kU (W.item i s _ _ g BA λv s' x r a=>?_);obtain⟨_,t,rfl⟩:=Tb i v x;have z:=l a d;show wpAny _ A.in1 (holding [Value.str ss[i] t] (setAdd S (.str ss[i] t)) >>= _) _ _ s';refine kU (oR ?_);unfold setAdd;have q:(PySem.strKind prog w).is ss[i] (.str ss[i] t)=true:=ZDf prog w ss[i] t;refine oR (kU ((PySem.strKind prog w).pyHash q ?_));have y:(dd (ss.take i)).length+1<scanBound:=by
   have:=dM (ss.take i);rw[CI]at this;omega
  refine Cg.put (s:={ s' with toks:=s'.toks+1 }) z y λh' SE YQ=>?_
  have j:Cg prog w h' S (λk'=>(dd (ss.take (i+1))).any (· == k')) (dd (ss.take (i+1))).length:=
   YQ.congr (λk'=>by rw[eR ss i g,ZCj]) (by rw[eR ss i g,Zm])
  refine kX ⟨tX jv _,u (i+1) _ (by omega) g (W.frame _ s' _ _ r (D6 _) λb hb o e=>?_) j λN1 p ZBm=>?_⟩
  .rw[SE.2 b (by rintro rfl;exact Cu hb)];exact e
  .refine c N1 (Moved.trans W.gtrans ((a.mono λb hb=>Ca _ hb).then_heap (D6 _) λb o hb e=>?_) p) ZBm;rw[SE.2 b (by rintro rfl;exact hb CJ)];exact e
theorem vE(a:Value)
  (h:Q₁ (.ref s.heap.objs.size) { s with heap:=s.heap.push { cls:=.type "set", dict:=none,data:=.set #[] 0 (.fresh 0 0 (!GB w)) } }) :
  codeAny (model prog w) A (.call (.builtin "set.__new__") ⟨[.type "set", a],[]⟩) (wants Q₁ E) s:=by
 refine codeAny_of_tree ?_;show wpAny _ A.in1 (do checkBuiltinCall "set.__new__" ⟨[.type "set", a],[]⟩;again (.builtin "set.__new__" ⟨[.type "set", a],[]⟩)) _ _ s
 refine kU (uq (PySem.F.newCall_set_1 a) ?_);refine kX ⟨tX ZDW _,qG PySem.F.entry_set_new ?_⟩;rw[Mg ZDW _];unfold Builtin.«set.__new__» Builtin.Frozenset.newClass;have c:isSubtype (.type "set") (.type "set")=pure true:=by rw[qK];kernel_rfl
 obtain⟨b,g,d,tk,os⟩:=s;dsimp only
 wp_walk
 refine uT (kX ?_);dsimp only;simp only[newObj];refine kU (wpAny_alloc (kX ?_));exact kX h
theorem bB{l:Addr}{T:String}{od:Option Addr}{GX:Array (Option Value)}{Q:Value->Shared->Prop}(ho:s.heap.get? l=some { cls:=.type T,dict:=od,data:=.seq items nl,slots:=GX })
  (hs1:isSubtype (.type T) (.type "set")=pure false) (CB:isSubtype (.type T) (.type "frozenset")=pure false) (Ak:(Value.type T == Value.type "dict")=false) (hb:ss.length+1<scanBound)
  (hit:∀(s1:Shared)(A1:Around)(Q1:Value->Shared->Prop),A1.handled=A.handled->s1.heap.get? l=s.heap.get? l->l<s1.heap.objs.size->
   (∀ob St P,WalksS prog w A1.in1 s1.heap.objs.size [s1.heap.objs.size,l] [s1.heap.objs.size] (λa b=>b=a) ss.length P St->(∀i v,P i v->∃(h:i<ss.length)(t:Tok),v=.str ss[i] t)->St 0 { s1 with heap:=s1.heap.push ob }->Q1 (.ref s1.heap.objs.size) { s1 with heap:=s1.heap.push ob })->
   wpAny (model prog w) A1 (pyIter (.ref l)) Q1 E s1)
  (h:∀(h':Heap)(tk:Nat),Cg prog w h' s.heap.objs.size (λk'=>(dd ss).any (· == k')) (dd ss).length->(∀b o,b<s.heap.objs.size->s.heap.get? b=some o->h'.get? b=some o)->Q (.ref s.heap.objs.size) { s with heap:=h',toks:=tk }) :
  wpAny (model prog w) A (call (.type "set") [.ref l]) Q E s:=by
 have u:l<s.heap.objs.size:=Az ho;obtain⟨c,tl,ZEP⟩:=PySem.F.called_set.mro;have L:=PySem.F.called_set.made;have S:=PySem.F.called_set.sub;refine wpAny_call (codeAny_of_tree (by
  show wpAny _ _ (callAny (.type "set") _) _ _ _;refine kX ⟨Code.quiet_builtin _ (by decide +kernel),qG PySem.F.entry_type_call ?_⟩;rw[Around.under_plain (weight_type_call_type "set" [.ref l] []) rfl];have h1:=PySem.F.called_set.notType;have h2:=PySem.F.called_set.canCreate;have C:=PySem.F.typeCall_set_1 (.ref l)
  repeat (any_goals (first|assumption|wp_step))
  refine zE (vE (.ref l) (E:=E) (Q₁:=λobj p=>obj=.ref s.heap.objs.size/\p={ s with heap:=s.heap.push { cls:=.type "set", dict:=none,data:=.set #[] 0 (.fresh 0 0 (!GB w)) } }) ⟨rfl,rfl⟩) λr p g=>?_
  cases r with
  |error e=>exact g
  |ok H=>
   cases H with
   |ret obj=>
    obtain⟨rfl,rfl⟩:=g;generalize m:({ cls:=.type "set", dict:=none,data:=.set #[] 0 (.fresh 0 0 (!GB w)) }:Obj)=so;have hsz:(s.heap.push so).objs.size=s.heap.objs.size+1:=D5 ..;have q:(s.heap.push so).get? s.heap.objs.size=some so:=BM _ (by rw[<- m];rfl);have G:Shared.TypeIs { s with heap:=s.heap.push so } (.ref s.heap.objs.size) "set" := ⟨_,q,by rw[<- m]⟩
    have O:=PySem.F.called_set.init.lookup;have D:=PySem.F.called_set.init.bind (.ref s.heap.objs.size)
    repeat (any_goals (first|assumption|wp_step))
    refine zE (codeAny_call_builtin (R:=wants (λr n=>r=.none/\∃h' tk,n={ s with heap:=h',toks:=tk }/\Cg prog w h' s.heap.objs.size (λk'=>(dd ss).any (· == k')) (dd ss).length/\
      (∀b o,b<s.heap.objs.size->s.heap.get? b=some o->h'.get? b=some o)) E) PySem.F.called_set.init.plain PySem.F.entry_set_init (check_set_init_1 G ?_)) λy n d=>?_
    .have M:(s.heap.push so).get? l=some { cls:=.type T,dict:=od,data:=.seq items nl,slots:=GX }:=B7 _ ho;subst m;unfold Builtin.«set.__init__» noKeywords Builtin.Frozenset.updateFrom;generalize x:pyIter=PI
     wp_walk
     subst x;refine hit { s with heap:=s.heap.push _ } _ _ rfl (M.trans ho.symm) (Nat.lt_of_lt_of_eq (Hx u) hsz.symm) λob St P W Tb BS=>?_
     refine kU (ZA1 ?_);have N:s.heap.objs.size∉[(s.heap.push { cls:=.type "set", dict:=none,data:=.set #[] 0 (.fresh 0 0 (!GB w)) }).objs.size,l]:=by
      rw[hsz];simp only[Cp,Au,yD,not_or];exact⟨BL (LU _),JD u⟩
     refine ZAr W s.heap.objs.size N Tb hb (ss.length - 0) 0 _ rfl (C1 _) BS ?_ ?_
     .have z:=B7 ob q;exact⟨_,#[],0,_,z,⟨rfl,rfl,rfl⟩,rfl,λe B=>by simp at B,λk=>by simp[dd],by decide,by rfl,rfl,rfl,λh=>absurd h (by simp)⟩
     .intro s' f CU;obtain⟨h',g',d',V4,NL⟩:=s';have J:g'=s.gens:=f.gens;have K:d'=s.drawn:=f.drawn;have I:NL=s.os:=f.os;subst J;subst K;subst I;show wpAny _ _ _ _ _ _;refine kX ?_;show wpAny _ _ (ret Value.none) _ _ _;refine kX ⟨rfl,h',V4,rfl,CU,λb o Bt e=>?_⟩;refine f.heap b o ?_ (B7 _ (B7 _ e));rw[hsz];simp only[Cp,Au,yD,not_or];exact⟨BL Bt,BL (Hx Bt)⟩
    .cases y with
     |error e=>exact d
     |ok j=>
      cases j with
      |ret r=>
       obtain⟨rfl,h',tk,rfl,CU,G3⟩:=d
       repeat (any_goals (first|assumption|wp_step))
       exact h _ _ CU G3
      |_=>exact d.elim
   |_=>exact g.elim))
end
noncomputable def PX(P:Program)(w:World)(a:Addr)(f:Str->Bool)(n:Nat):HO:=.ext λh=>Cg P w h a f n
theorem xk(y:X.calm=true):DI X (.type "set") (λxs H Q=>∃(p:Addr)(tp:Bool)(ss:List Str),xs=[.ref p]/\CS X.K tp H p (ss.map V.str)/\ss.length<4000/\
  ∀l,H l=none->Q (.ref l) (upd H l (PX X.prog X.w l (λk'=>(dd ss).any (· == k')) (dd ss).length))):=by
 intro Zi s Z H xs us Q I r h;obtain⟨p,tp,ss,rfl,x,E,q⟩:=h;obtain⟨u,rfl,B⟩:=vals1 r;cases B;have hb:ss.length+1<scanBound:=by unfold scanBound;omega
 have g:∀(h':Heap)(tk:Nat),Cg X.prog X.w h' s.heap.objs.size (λk'=>(dd ss).any (· == k')) (dd ss).length->(∀b o,b<s.heap.objs.size->s.heap.get? b=some o->h'.get? b=some o)->
   EP X Zi Z Q (.ref s.heap.objs.size) { s with heap:=h',toks:=tk }:=λh' tk z kp=>by
  refine⟨.ref s.heap.objs.size,_,I.laid (t':=tk) (λb o e=>kp b o (Az e) e) (Ad _) (show CL X.prog X.w _ h' _ (PX X.prog X.w s.heap.objs.size _ _)from⟨z,?_,λh1 h2 Dh C=>?_⟩),rfl,q _ (I.AI.fresh (Ad _))⟩
  .obtain⟨o,_,_,_,ho,_⟩:=z;exact⟨o,ho⟩
  .exact Dh.keep C
 cases tp with
 |false=>
  obtain⟨A3,a,pl,NF⟩:=I.list x;have f:=a.length;rw[AW]at f;obtain⟨⟨c,d,D,sl⟩,n,ho,FW,hd,FH⟩:=id pl;simp only at FW hd FH;subst FW;subst hd;subst FH;refine bB ho PySem.F.sub_list_set PySem.F.sub_list_frozenset (by decide) hb (λs1 A1 Q1 m j l1 WN=>?_) g;have k:s1.heap.IsList p A3.toArray:=⟨_,j.trans ho,rfl,n,rfl⟩;have t:A3.toArray.size=ss.length:=List.size_toArray.trans f.symm;refine ZA8 k (WN _ (λi s=>s.heap.IsListIter s1.heap.objs.size p i/\s.heap.IsList p A3.toArray) (λi v=>A3.toArray[i]?=some v) (by
   have W:=(Walks.list (prog:=X.prog) (w:=X.w) (A:=A1.in1) (by rw[jP,m];exact I.ok.hd y) s1.heap.objs.size p (BL l1) A3.toArray).toS;rw[t]at W;exact W) (λi v e=>Pd a (by simpa using e)) ⟨⟨_,BM _ rfl,rfl,rfl⟩,k.push _⟩)
 |true=>
  obtain⟨A3,a,pl,NF⟩:=I.tuple x;have f:=a.length;rw[AW]at f;obtain⟨⟨c,d,D,sl⟩,ho,FW,n,FH⟩:=id pl;simp only at FW FH;subst FW;subst FH;refine bB ho sub_tuple_set sub_tuple_frozenset (by decide) hb (λs1 A1 Q1 m j l1 WN=>?_) g;have k:s1.heap.IsTuple p A3.toArray:=⟨_,j.trans ho,rfl,n,rfl⟩;have t:A3.toArray.size=ss.length:=List.size_toArray.trans f.symm;refine yg k (WN _ (λi s=>s.heap.IsTupleIter s1.heap.objs.size p i/\s.heap.IsTuple p A3.toArray) (λi v=>A3.toArray[i]?=some v) (by
   have W:=(Walks.tuple (prog:=X.prog) (w:=X.w) (A:=A1.in1) (by rw[jP,m];exact I.ok.hd y) s1.heap.objs.size p (BL l1) A3.toArray).toS;rw[t]at W;exact W) (λi v e=>Pd a (by simpa using e)) ⟨⟨_,BM _ rfl,rfl,rfl⟩,?_⟩)
  exact⟨_,B7 _ (j.trans ho),rfl,n,rfl⟩
theorem Inv.drew(I:Inv X Zi Z H s)(d:Drawn):Inv X Zi Z H { s with drawn:=d }:=
 I.step (h':=s.heap) (g':=s.gens) (t':=s.toks) (d':=d) (ch:=[]) (λ_ z=>nomatch z) (λb o _ _ _ e _=>e) (λb o _ _ _ e _=>⟨o.slots,e⟩) (λ_ _ _ _ n=>n) (λb o _ e=>⟨o,e⟩) (λ_ _ e=>e) (λ_ _ _ e=>e) (λb ps e=>⟨#[],by rw[e];simp⟩) (λm a=>a) I.AI I.bare
theorem o9{l:Addr}{Q:List Value->Shared->Prop}(a:IsTup s.heap l vs.toArray)(h:Q vs { s with heap:=(s.heap.push (seqObj "list" #[] 0)).update s.heap.objs.size (Obj.mapSeq (·++vs.toArray)) })(hsz:vs.length<=sizeLine):
  wpAny (model prog w) A (collect (.ref l)) Q E s:=by
 obtain⟨o,ho,b,n,hd⟩:=id a;unfold collect;refine kU (ZA1 (qG entry_proto_collect' ?_));show wpAny _ _ (newList [] >>= λx=>again (.builtin "list.__iadd__" ⟨[x,.ref l],[]⟩)) _ _ s;refine kU (wpAny_newList ?_);refine kX ⟨Code.quiet_builtin _ (by decide +kernel),qG entry_list_iadd' ?_⟩;show wpAny _ _ (Builtin.List.listExtendWith (.ref s.heap.objs.size) (.ref l) (.ref s.heap.objs.size)) _ _ { s with heap:=s.heap.push (seqObj "list" #[] 0) }
 unfold Builtin.List.listExtendWith;have g:(s.heap.push (seqObj "list" #[] 0)).get? l=some o:=B7 _ ho;refine kU (rY (T:="tuple") ⟨o,g,b⟩ ?_);rw[kz (by simp)];refine kU (listItems_at g hd ?_);refine kU (listItems_at (xs:=#[]) (n:=0) (BM _ rfl) rfl ?_);rw[km (by simp)];refine kU (listUpdate_at (xs:=#[]) (n:=0) (BM _ rfl) rfl ?_ (C1 _) (by show(#[]++vs.toArray).size<=sizeLine+1;simp only[Array.size_append,Bm,SV];omega));refine kX ?_;show wpAny (model prog w) A (load s.heap.objs.size >>= λo=>(match o.data with | .seq xs _=>pure xs.toList|_=>unsupported "internal:collect")) Q E _
 refine kU (zc (get?_update_seq (BM _ rfl) _) ?_);show wpAny _ _ (pure ((#[]:Array Value)++vs.toArray).toList) Q E _;have e:((#[]:Array Value)++vs.toArray).toList=vs:=by simp
 rw[e];exact kX h
theorem Sk{Pc:List Value->Shared->Prop}{Q:Value->Shared->Prop}
  (g:∀(A1:Around)(E1:Value->Shared->Prop)(Q1:List Value->Shared->Prop),A1.handled=A.handled->(∀vs s1,Pc vs s1->Q1 vs s1)->wpAny (model prog w) A1 (collect v) Q1 E1 s)
  (h:∀vs s1,Pc vs s1->vs.length<64/\∃ss,StrsAre vs ss/\∀out AG e h',(∀b o,s1.heap.get? b=some o->h'.get? b=some o)->h'.get? s1.heap.objs.size=some (seqObj "list" out e)->StrsAre out.toList AG->AG.Perm ss->sortedS AG=true->Q (.ref s1.heap.objs.size) { s1 with heap:=h' }) :
  wpAny (model prog w) A (call (.builtin "sorted") [v]) Q E s:=by
 refine Calls.call_function_entry kind_sorted plain_sorted entry_sorted (args_sorted1 _) ?_;unfold Builtin.«sorted»;refine kU (m:=checkCount "sorted" 1 1 _) (kX ?_);refine kU (g _ _ _ rfl λvs s1 d=>?_);obtain⟨C3,ss,ID,k⟩:=h vs s1 d;refine kU (wpAny_newList ?_);have a:(s1.heap.push (seqObj "list" vs.toArray 0)).get? s1.heap.objs.size=some (seqObj "list" vs.toArray 0):=BM _ rfl;refine kU (oR (pE slot_list_sort ⟨_,a,rfl⟩ entry_list_sort (list_sort_treeK (s:={ s1 with heap:=s1.heap.push (seqObj "list" vs.toArray 0) }) strKind_oneLt a ID.keysOf (λr q rest e=>keyKind_strs (by rw[<- e];exact ID)) C3 λDA p n=>⟨_,rfl,?_⟩) (args_list_sort _)))
 obtain⟨AG,l,j,i⟩:=sorted_out_str ID p n;obtain⟨e,f⟩:=sortedHeap_at (out:=(arrOf DA).map (·.2)) a
 refine kX ⟨_,rfl,k _ AG e _ (λb o hb=>?_) f l j i⟩;have c:=Az hb;rw[sortedHeap_old (BL c) (by rw[D5];exact Hx c)];exact B7 _ hb
theorem fG:∀{ss:List Str}{us:List Value},Vals (ss.map V.str) us->StrsAre us ss
 | [],_,.nil=>.nil
 |x::r,_,.cons ⟨t,e⟩ h=>by rw[e];exact .cons x t (fG h)
theorem fS:∀{ss:List Str}{us:List Value},StrsAre us ss->Vals (ss.map V.str) us
 |_,_,.nil=>.nil
 |_,_,.cons x t h=>.cons ⟨t,rfl⟩ (fS h)
theorem WR{s1:Shared}{Q:VK}(I:Inv X Zi Z H s)(d:s1.gens=s.gens)(ho:s1.os=s.os)(hk:∀b o,s.heap.get? b=some o->s1.heap.get? b=some o)(c:s.heap.objs.size<=s1.heap.objs.size)
  {out:Array Value}{e:Nat}(kp:∀b o,s1.heap.get? b=some o->h'.get? b=some o) (f:h'.get? s1.heap.objs.size=some (seqObj "list" out e)) (h:StrsAre out.toList AG) (C3:AG.length<64)
  (q:∀l,H l=none->Q (.ref l) (upd H l (.lst (AG.map V.str)))):EP X Zi Z Q (.ref s1.heap.objs.size) { s1 with heap:=h' }:=by
 obtain⟨h1,g1,i,g,j⟩:=s1;simp only at d ho hk c kp f;subst d;subst ho;refine⟨.ref _,_,(I.drew i).laid (a:=h1.objs.size) (h':=h') (t':=g) (o:=.lst (AG.map V.str)) (λb o q=>kp b o (hk b o q)) c ?_,rfl,q _ (I.AI.fresh c)⟩;refine⟨?_,out.toList,e,fS h,by simpa[seqObj]using f⟩
 rw[AW];exact CK (Mq C3) (by decide +kernel)
def qZ(K:ZEW):List V->Hp->VK->Prop:=λxs H Q=>∃(p:Addr)(tp:Bool)(ss:List Str),xs=[.ref p]/\CS K tp H p (ss.map V.str)/\ss.length<64/\∀l AG,H l=none->AG.Perm ss->sortedS AG=true->Q (.ref l) (upd H l (.lst (AG.map V.str)))
theorem gS:DI X (.builtin "sorted") (qZ X.K):=by
 intro Zi s Z H xs us Q I r h;obtain⟨p,tp,ss,rfl,d,C3,q⟩:=h;obtain⟨u,rfl,i⟩:=vals1 r;cases i;have key:∀A3:List Value,Vals (ss.map V.str) A3->(∀(A1:Around)(E1:Value->Shared->Prop)(Q1:List Value->Shared->Prop),Q1 A3 { s with heap:=(s.heap.push (seqObj "list" #[] 0)).update s.heap.objs.size (Obj.mapSeq (·++A3.toArray)) }->wpAny (model X.prog X.w) A1 (collect (.ref p)) Q1 E1 s)->
   wpAny (model X.prog X.w) X.A (call (.builtin "sorted") [.ref p]) (EP X Zi Z Q) X.xe s:=by
  intro A3 c g;have a:=c.length;rw[AW]at a;refine Sk (Pc:=λvs s1=>vs=A3/\s1={ s with heap:=(s.heap.push (seqObj "list" #[] 0)).update s.heap.objs.size (Obj.mapSeq (·++A3.toArray)) }) (λA1 E1 Q1 _ k=>g A1 E1 Q1 (k _ _ ⟨rfl,rfl⟩)) ?_
  rintro vs s1⟨rfl,rfl⟩;refine⟨by omega,ss,fG c,λout AG e h' kp t v f m=>?_⟩;refine WR (s1:={ s with heap:=(s.heap.push (seqObj "list" #[] 0)).update s.heap.objs.size (Obj.mapSeq (·++vs.toArray)) }) I rfl rfl (λb o hb=>?_) (by show s.heap.objs.size<=((s.heap.push (seqObj "list" #[] 0)).update s.heap.objs.size (Obj.mapSeq (·++vs.toArray))).objs.size;rw[Heap.size_update,D5];exact D6 _) kp t v (by rw[f.length_eq];exact C3) λl n=>q l AG n f m
  show((s.heap.push _).update _ _).get? b=some o;rw[Heap.get?_update_ne _ _ _ _ (BL (Az hb))];exact B7 _ hb
 cases tp with
 |false=>
  obtain⟨A3,c,pl,j⟩:=I.list d;have a:=c.length;exact key A3 c λA1 E1 Q1 k=>collect_list pl.isList k (by omega)
 |true=>
  obtain⟨A3,c,pl,j⟩:=I.tuple d;have a:=c.length;exact key A3 c λA1 E1 Q1 k=>o9 pl k (by omega)
def wI(P:Program)(w:World):List V->Hp->VK->Prop:=λxs H Q=>∃(p:Addr)(f:Str->Bool)(n:Nat),xs=[.ref p]/\H p=some (PX P w p f n)/\n<64/\∀l ts,H l=none->ts.length=n->(∀k,f k=true↔k∈ts)->sortedS ts=true->Q (.ref l) (upd H l (.lst (ts.map V.str)))
theorem ZCm(B:X.calm=true):DI X (.builtin "sorted") (wI X.prog X.w):=by
 intro Zi s Z H xs us Q I r h;obtain⟨p,f,n,rfl,D,C3,q⟩:=h;obtain⟨u,rfl,v⟩:=vals1 r;cases v;have C:Cg X.prog X.w s.heap p f n:=(I.AI p _ D).1;have hh:X.A.handled=none:=I.ok.hd B;refine Sk (Pc:=λvs s1=>∃ts,(∀b o,s.heap.get? b=some o->s1.heap.get? b=some o)/\s.heap.objs.size<=s1.heap.objs.size/\s1.gens=s.gens/\s1.os=s.os/\StrsAre vs ts/\ts.length=n/\(∀k,f k=true↔k∈ts)) (λA1 E1 Q1 E k=>?_) ?_
 .exact pe (E.trans hh) C (CK (Mq C3) (by decide +kernel)) λs' vs ts t m j i c a g=>k vs s' ⟨ts,t,m,j,i,c,a,g⟩
 .rintro vs s1⟨ts,t,m,j,i,c,a,g⟩;refine⟨by rw[StrsAre.len c,a];exact C3,ts,c,λout AG e h' kp z CU d x=>?_⟩;exact WR I j i t m kp z CU (by rw[d.length_eq,a];exact C3) λl y=>q l AG y (d.length_eq.trans a) (λk=>(g k).trans d.mem_iff.symm) x
end L2
namespace MA
noncomputable def OO:Nat->Nat->List Nat
 | 0,n=>[97+n]
 |k+1,n=>if n<26 then[97+n]else(97+n % 26)::OO k (n / 26)
theorem Kg:∀(k:Nat){n:Nat},n<26->OO k n=[97+n]
 | 0,_,_=>rfl
 |_+1,_,h=>kz h
theorem bL:∀(k j n:Nat),n<=k->n<=j->OO k n=OO j n
 | 0,j,n,h,_=>by rw[Kg 0 (LS h (by decide)),Kg j (LS h (by decide))]
 |k+1,0,n,_,h=>by rw[Kg (k+1) (LS h (by decide)),Kg 0 (LS h (by decide))]
 |k+1,j+1,n,h1,h2=>by
  by_cases c:n<26
  .rw[Kg _ c,Kg _ c]
  .have d:n / 26<n:=Nat.div_lt_self (Cr (by decide) (ZDN c)) (by decide);show(if n<26 then _ else _)=(if n<26 then _ else _)
   rw[km c,km c,bL k j (n / 26) (jo (Cr d h1)) (jo (Cr d h2))]
def lets(n:Nat):List Nat:=OO n n
noncomputable def vals:List Nat->Nat
 | []=>0
 |c::r=>(c - 97)+26 * vals r
theorem MU{n:Nat}(h:n<26):lets n=[97+n]:=Kg n h
theorem NM{n:Nat}(h:¬ n<26):lets n=(97+n % 26)::lets (n / 26):=by
 cases n with
 |zero=>exact absurd (by decide) h
 |succ k=>
  have d:(k+1) / 26<k+1:=Nat.div_lt_self (Nat.succ_pos k) (by decide);show(if k+1<26 then _ else _)=_
  rw[km h,bL k ((k+1) / 26) ((k+1) / 26) (jo d) (Ad _)];rfl
theorem iE:∀n,vals (lets n)=n:=by
 intro n
 induction n using Nat.strongRecOn with
 |_ n a=>
  by_cases h:n<26
  .rw[MU h];simp[vals]
  .rw[NM h];have:=a (n / 26) (by omega);simp only[vals,this];omega
theorem qV{a b:Nat}(h:lets a=lets b):a=b:=by rw[<- iE a,h,iE]
theorem WQ(n:Nat):1<=(lets n).length:=by
 by_cases h:n<26
 .rw[MU h];simp
 .rw[NM h];simp
theorem RL:∀(k n:Nat),n<26 ^ (k+1)->(lets n).length<=k+1
 | 0,n,h=>by rw[MU (by simpa using h)];simp
 |k+1,n,h=>by
  by_cases h1:n<26
  .rw[MU h1];simp
  .rw[NM h1];have:=RL k (n / 26) (by rw[Nat.pow_succ]at h;exact Nat.div_lt_of_lt_mul (by rw[Nat.mul_comm];exact h));simp only[Bw];omega
theorem mZ:∀n,∀c∈lets n,97<=c/\c<=122:=by
 intro n
 induction n using Nat.strongRecOn with
 |_ n b=>
  by_cases h:n<26
  .rw[MU h];intro c a;simp at a;omega
  .rw[NM h];intro c a;rcases List.mem_cons.mp a with e|e
   .omega
   .exact b (n / 26) (by omega) c e
theorem jE{α:Type}[DecidableEq α]:∀(k:Nat)(f:Nat->α)(l:List α),(∀i j,i<k->j<k->f i=f j->i=j)->(∀i,i<k->f i∈l)->k<=l.length
 | 0,_,_,_,_=>C1 _
 |k+1,f,l,hi,hm=>by
  have h1:=hm k (LU k);have:=jE k f (l.erase (f k)) (λi j a b e=>hi i j (by omega) (by omega) e) (λi a=>by
   have c:f i≠f k:=λe=>by have:=hi i k (by omega) (by omega) e;omega
   exact(jj c).mpr (hm i (by omega)))
  rw[jf h1]at this;have d:=ZDG h1;omega
end MA
namespace Lw
open L2
variable{a l p:Addr}{H H' H2:Hp}{xs:List V}{o:HO}{α:Type}{hi i m n:Nat}{ns ss:List Str}{x y z:Str}{j r:Int}{A B c:Prop}
def BU(H:Hp)(p:Addr):Prop:=∃a b:Int,H p=some (.lst [.int a,.int b])/\0<=a/\a<10 ^ 256/\0<=b/\b<2147483647
structure BC (p:Addr) (H H':Hp):Prop where
 AF:BU H' p
 same:Fo p H H'
theorem BC.trans{H1:Hp}(a:BC p H H1)(b:BC p H1 H2):BC p H H2:=⟨b.AF,a.same.trans b.same⟩
theorem BC.of(h:BU H p)(s:A8 H H'):BC p H H':=by
 obtain⟨a,b,e,r⟩:=h;exact⟨⟨a,b,s _ _ e,r⟩,Fo.of s⟩
theorem BC.Nh{K:ZEW}(s:BC p H H')(h:AQ K H a xs)(Ak:a≠p):AQ K H' a xs:=by
 rcases h with(h|⟨o,h⟩)|h
 .exact .inl (.inl (s.same _ _ Ak h))
 .exact .inl (.inr ⟨o,s.same _ _ Ak h⟩)
 .exact .inr h
theorem BC.at'(s:BC p H H')(h:H a=some o)(Ak:a≠p):H' a=some o:=s.same _ _ Ak h
theorem Lj{a:Int}(c:-(10 ^ 20)<a)(h1:a<10 ^ 20):a.natAbs<2 ^ 1000:=by
 have b:a.natAbs<10 ^ 20:=by omega
 exact Nat.lt_trans b (by decide +kernel)
def US(K:ZEW):Sp:=λvs H Q _=>∃(a:Addr)(ns:List Int)(k:Int),vs=[.ref a,.int k]/\AQ K H a (ns.map V.int)/\0<=k/\k<=1000/\∀p H',H p=none->A8 H H'->BU H' p->Q (.ref p) H'
def Kz:Sp:=λvs H Q _=>∃(p:Addr)(m:Int),vs=[.ref p,.int m]/\BU H p/\0<m/\m<10 ^ 18/\∀r H',0<=r->r<m->BC p H H'->Q (.int r) H'
def Co(l:List Nat):Str:=⟨l.toArray⟩
def br:Sp:=λvs H Q _=>∃r:Int,vs=[.int r]/\0<=r/\r<26 ^ 8/\∀H',A8 H H'->Q (.str (Co (MA.lets r.toNat))) H'
theorem O1{xs:List α}{k:Int}{v:α}(b:0<=k)(h:xs[k.toNat]?=some v):C2 xs k=some v:=by
 have a:k=((k.toNat:Nat):Int):=by omega
 have q:=dX h;rw[<- a]at q;exact q
abbrev Hl:Str:="abcdefghijklmnopqrstuvwxyz"
theorem oo:∀j,j<26->Hl.cps.toList[j]?=some (97+j):=by decide +kernel
theorem fE{k:Int}(a:0<=k)(h1:k<26):C2 Hl.cps.toList k=some (97+k.toNat):=O1 a (oo _ (by omega))
theorem iT(l:List Nat)(c:Nat):Co l++(⟨#[c]⟩:Str)=Co (l++[c]):=by
 show(⟨l.toArray++#[c]⟩:Str)=⟨(l++[c]).toArray⟩;simp
theorem Py(l:List Nat):(Co l).length=l.length:=by simp[Co,Str.length]
theorem ij{l:List Nat}:(V.str (Co l)=V.str (Str.ofString ""))↔l=[]:=by
 constructor
 .intro h;injection h with h
  have h2:=oW (λx=>x.cps.toList) h;have e:(Str.ofString "").cps.toList=[]:=by decide +kernel
  rw[e]at h2
  simpa[Co]using h2
 .rintro rfl;rfl
theorem small(h:n<=100000):n<=sizeLine:=CK h (by decide +kernel)
theorem ZD{k:Nat}{pre:List Nat}(h:pre++MA.lets k=MA.lets n):(0<k / 26->(pre++[97+k % 26])++MA.lets (k / 26)=MA.lets n)/\(k / 26=0->pre++[97+k % 26]=MA.lets n):=by
 constructor
 .intro h1;rw[MA.NM (by omega)]at h;rw[<- h,BV];rfl
 .intro h1;have h2:k<26:=by omega
  rw[MA.MU h2]at h;rw[<- h,Nat.mod_eq_of_lt h2]
def Nm(x:Str):Prop:=1<=x.length/\x.length<=8/\∀c∈x.cps.toList,97<=c/\c<=122
instance (x:Str):Decidable (Nm x):=by unfold Nm;exact inferInstance
theorem Hg(x:Str):x.length=x.cps.toList.length:=by simp[Str.length]
theorem Ud(h:n<26 ^ 8):Nm (Co (MA.lets n)):=by
 refine⟨by rw[Py];exact MA.WQ n,by rw[Py];exact MA.RL 7 n h,λc a=>MA.mZ n c (by simpa[Co]using a)⟩
noncomputable def menu:List Str:=["put","take","none","ahead","all","over","next","a","ab","abc","abcdefgh","b","step"]
theorem wz:∀x∈menu,Nm x:=by decide +kernel
noncomputable def Rp:List V:=[.str "put",.str "take",.str "none",.str "ahead",.str "all",.str "over",.str "next",.str "a",.str "ab",.str "abc",.str "abcdefgh",.str "b",.str "step"]
theorem ZB8{i:Int}(a:0<=i)(h1:i<13):∃x,C2 Rp i=some (.str x)/\Nm x:=by
 have b:menu.length=13:=rfl;have hi:i.toNat<menu.length:=by omega
 have e:Rp=menu.map V.str:=rfl;refine⟨menu[i.toNat],O1 a ?_,wz _ (Gx hi)⟩;rw[e,B1,Am hi];rfl
theorem R8{i:Int}(a:0<=i)(h1:i<ns.length):∃x,C2 (ns.map V.str) i=some (.str x)/\x∈ns/\ns[i.toNat]?=some x:=by
 have hi:i.toNat<ns.length:=by omega
 exact⟨ns[i.toNat],O1 a (by rw[B1,Am hi];rfl),Gx hi,Am hi⟩
theorem EJ(ns:List Str):(ns.map V.str).all Dz=true:=by
 rw[Fi];intro x hx;obtain⟨y,_,rfl⟩:=List.mem_map.mp hx;rfl
theorem IB(x:Str)(ns:List Str):Di (.str x) (ns.map V.str)=decide (x∈ns):=by
 unfold Di;rw[Mh,ZD8,decide_eq_true_iff];constructor
 .rintro⟨v,hv,h⟩;obtain⟨y,a,rfl⟩:=List.mem_map.mp hv;have h':(y == x)=true:=h;have:y=x:=by simpa using h'
  rw[<- this];exact a
 .intro h;exact⟨.str x,List.mem_map.mpr ⟨x,h,rfl⟩,by show(x == x)=true;simp⟩
theorem OH(xs:List V):Dv xs []=decide (xs=[]):=by
 cases xs with
 |nil=>rfl
 |cons x r=>rw[LF (by simp)];simp
theorem tK(h:x.cps.toList=y.cps.toList):x=y:=by
 cases x;cases y;simp only[Str.mk.injEq];exact Array.toList_inj.mp h
theorem xf(z:Str){a b:Nat}{lo hi:Option Int}(CM:a<=b)(hb:b<=z.length)(e:Builtin.Str.strSliceIndices lo hi 1 z.length=Builtin.Str.strSliceIndices (some (a:Int)) (some (b:Int)) 1 z.length):
  (Txt.slice z lo hi).cps.toList=(z.cps.toList.drop a).take (b - a):=by
 have q:=StrLaws.sliced_plain z CM hb;rw[<- e]at q;unfold Txt.slice;split
 .rename_i h;have c:(Builtin.Str.strSliceIndices lo hi 1 z.length).length=z.length:=by simpa using h
  rw[e,StrLaws.strSliceIndices_plain CM hb,AW,jg]at c;have h1:a=0:=by omega
  have h2:b=z.length:=by omega
  subst h1;subst h2;rw[jX,Z3,Hg,KG]
 .rw[<- q]
theorem vb(h:0<=j):max (0:Int) (min j (n:Int))=max 0 (min ((min j.toNat n:Nat):Int) (n:Int)):=by
 have e:((min j.toNat n:Nat):Int)=min j n:=by
  rcases Z1 j.toNat n with c|c
  .rw[Ol c,jU h,Int.min_eq_left (by have:=Int.ofNat_le.mpr c;rw[jU h]at this;exact this)]
  .rw[Z2 c,Int.min_eq_right (by have:=Int.ofNat_le.mpr c;rw[jU h]at this;exact this)]
 rw[e,Int.min_assoc,Int.min_self]
theorem lF(z:Str)(h:0<=j):(Txt.slice z none (some j)).cps.toList=z.cps.toList.take j.toNat:=by
 have e:=xf z (a:=0) (b:=min j.toNat z.length) (lo:=none) (hi:=some j) (C1 _) (ZDO _ _) (by
  have h1:¬ j<0:=by omega
  have h2:¬ (((min j.toNat z.length:Nat):Int)<0):=Int.not_lt.mpr (ZD4 _);have c:max (0:Int) (min j (z.length:Int))=max 0 (min ((min j.toNat z.length:Nat):Int) (z.length:Int)):=vb h;simp only[Builtin.Str.strSliceIndices,h1,h2,if_false,c];rfl)
 rw[e,jX,Z3];rcases Z1 j.toNat z.length with h1|h1
 .rw[Ol h1]
 .rw[Z2 h1,Hg,KG,jn (by rw[<- Hg];exact h1)]
theorem fm(h:1<=j)(d:j<=8)(b:1<=z.length)(a:∀c∈z.cps.toList,97<=c/\c<=122):Nm (Txt.slice z none (some j)):=by
 have e:=lF z (j:=j) (by omega);refine⟨?_,?_,λc GL=>a c ?_⟩
 .rw[Hg,e,CI,<- Hg];omega
 .rw[Hg,e,CI];omega
 .rw[e]at GL;exact jl GL
theorem fg(x y:Str):(x++y).cps.toList=x.cps.toList++y.cps.toList:=by
 show(x.cps++y.cps).toList=_;simp
theorem eB(x y:Str):(x++y).length=x.length+y.length:=by rw[Hg,fg,C0,<- Hg,<- Hg]
def NI(K:ZEW):Sp:=λvs H Q _=>∃(p q:Addr)(ns:List Str),vs=[.ref p,.ref q]/\BU H p/\H q=some (.lst (ns.map V.str))/\q≠p/\(∀x∈ns,Nm x)/\ns.length<=1000/\∀x H',Nm x->x∉ns->BC p H H'->Q (.str x) H'
theorem pB{k:Nat}(h:∀j,j<k->Co (MA.lets j)∈ns):k<=ns.length:=
 MA.jE k (λj=>Co (MA.lets j)) ns (λi j _ _ e=>MA.qV (by
  have:=oW (λx=>x.cps.toList) e
  simpa[Co]using this)) h
theorem sG:1000<26 ^ 8:=by decide +kernel
theorem qm:(1000:Int)<26 ^ 8:=by decide +kernel
theorem kd:(26:Int) ^ (8:Int).toNat - 26<26 ^ 8:=by decide +kernel
theorem w8:(26:Int)<26 ^ 8:=by decide +kernel
theorem ZAZ:(0:Int)<26 ^ (8:Int).toNat - 26:=by decide +kernel
theorem ZCu:(26:Int) ^ (8:Int).toNat - 26<10 ^ 18:=by decide +kernel
theorem ZN(a:0<=r)(h:r<26 ^ 8):r.toNat<26 ^ 8:=by omega
theorem BC.upd(s:BC p H H2)(h:H l=none)(Ak:l≠p):BC p H (upd H2 l o):=by
 obtain⟨a,b,e,r⟩:=s.AF;refine⟨⟨a,b,by rw[Ab (B0 Ak)];exact e,r⟩,λc u d q=>?_⟩;rw[Ab (Eb q h)];exact s.same c u d q
theorem BC.none(s:BC p H H2)(h:H2 l=none):H l=none:=by
 cases q:H l with
 |none=>rfl
 |some o=>
  by_cases e:l=p
  .obtain⟨a,b,c,_⟩:=s.AF;rw[<- e,h]at c;cases c
  .rw[s.same l o e q]at h;cases h
theorem BU.ne(h:BU H p)(a:H l=none):l≠p:=by
 obtain⟨_,_,e,_⟩:=h;exact(Eb e a).symm
theorem A8.none(s:A8 H H2)(h:H2 l=none):H l=none:=by
 cases q:H l with
 |none=>rfl
 |some o=>rw[s l o q]at h;cases h
def j6:Sp:=λvs H Q _=>∃(p:Addr)(m:Int),vs=[.ref p,.int m]/\BU H p/\0<=m/\m<=100/\
 ∀l H'(ns:List Str),H l=none->BC p H H'->H' l=some (.lst (ns.map V.str))->(ns.length:Int)=m->(∀x∈ns,Nm x)->ns.Nodup->Q (.ref l) H'
def VQ:Sp:=λvs H Q _=>∃(p:Addr)(m:Int),vs=[.ref p,.int m]/\BU H p/\1<=m/\m<=100/\
 ∀l H'(ns:List Str),H l=none->BC p H H'->H' l=some (.lst (ns.map V.str))->(ns.length:Int)<=m->(∀x∈ns,Nm x)->ns.Nodup->Q (.ref l) H'
theorem M5{l:List α}{x:α}(h:l.Nodup)(hx:x∉l):(l++[x]).Nodup:=by
 rw[Bx];exact⟨h,by simp,λa ha b hb=>by
  have:b=x:=by simpa using hb
  subst this;rintro rfl;exact hx ha⟩
theorem qz{m:Int}(b:0<=j)(h1:j<3)(a:1<=m):∃k:Int,C2 [V.int 0,V.int 1,V.int m] j=some (.int k)/\0<=k/\k<=m:=by
 have:j=0∨j=1∨j=2:=by omega
 rcases this with rfl|rfl|rfl
 .exact⟨0,rfl,by omega,by omega⟩
 .exact⟨1,rfl,by omega,by omega⟩
 .exact⟨m,rfl,by omega,by omega⟩
noncomputable def MC(c:Nat):Bool:=!(Builtin.Str.occurrences Hl ⟨#[c]⟩ 0 Hl.length 1).isEmpty
def isNm(x:Str):Bool:=decide ((1:Int)<=x.length) && (decide ((x.length:Int)<=8) && x.cps.toList.all MC)
def PZ:Sp:=λvs H Q _=>∃x:Str,vs=[.str x]/\x.length<=1000/\∀H',A8 H H'->Q (.bl (isNm x)) H'
theorem iY(l:List α):l.filter (λ_=>true)=l:=List.filter_eq_self.mpr λ_ _=>rfl
noncomputable def cy:V->V
 | .str y=>.bl (!(Builtin.Str.occurrences Hl y 0 Hl.length 1).isEmpty)
 |_=>.bl false
theorem rB(x:Str):((G5 x).filter (λ_=>true)).map cy=(x.cps.toList.map MC).map V.bl:=by
 unfold G5;rw[iY,FD,FD];rfl
theorem signs_get{v:V}(h:(G5 x)[i]?=some v):∃c,v=.str ⟨#[c]⟩:=by
 unfold G5 at h;rw[B1]at h;cases q:x.cps.toList[i]? with
 |none=>rw[q]at h;cases h
 |some c=>rw[q]at h;simp at h;exact⟨c,h.symm⟩
theorem all_map{α:Type}(f:α->Bool)(l:List α):(l.map f).all id=l.all f:=by rw[jV];rfl
theorem Q8{v:V}(h:(ss.map V.str)[i]?=some v):∃x,v=.str x/\x∈ss:=by
 rw[B1]at h;cases q:ss[i]? with
 |none=>rw[q]at h;cases h
 |some x=>rw[q]at h;simp at h;exact⟨x,h.symm,Cq q⟩
theorem ZCa(xs:List Str):Dv (xs.map V.str) (xs.map V.str)=true:=by
 rw[Kt rfl,Fi];intro j a;have b:j<xs.length:=by simpa using a
 have e:(xs.map V.str)[j]?=some (.str xs[j]):=by rw[B1,Am b];rfl
 rw[Jc e];show(xs[j] == xs[j])=true;simp
def N4(K:ZEW):Sp:=λvs H Q _=>∃(a:Addr)(ns:List Int),vs=[.ref a]/\AQ K H a (ns.map V.int)/\ns.length<=63/\∀H',Q (.bl true) H'
inductive AY where
 |put (x:Str) (i:Nat)|take (x:Str)|move (x:Str) (i:Nat)|turn (lo hi:Nat)
noncomputable def AY.vals:AY->List V
 | .put x i=>[.str "put",.str x,.int i]
 | .take x=>[.str "take",.str x]
 | .move x i=>[.str "move",.str x,.int i]
 | .turn lo hi=>[.str "turn",.int lo,.int hi]
def AY.Ok(m:Nat)(ns:List Str):AY->Prop
 | .put x i=>Nm x/\x∉ns/\i<=ns.length/\ns.length<m
 | .take x=>x∈ns
 | .move x i=>x∈ns/\i<ns.length
 | .turn lo hi=>lo<=hi/\hi<=ns.length
noncomputable def ins(ns:List Str)(x:Str)(i:Nat):List Str:=ns.take i++x::ns.drop i
def wo(ns:List Str)(x:Str):List Str:=ns.filter λy=>!decide (y=x)
noncomputable def GA(ns:List Str)(lo hi:Nat):List Str:=ns.take lo++((ns.drop lo).take (hi - lo)).reverse++ns.drop hi
def AY.done(ns:List Str):AY->List Str
 | .put x i=>ins ns x i
 | .take x=>wo ns x
 | .move x i=>ins (wo ns x) x i
 | .turn lo hi=>GA ns lo hi
theorem iU(h:x∉ns):wo ns x=ns:=by
 unfold wo;rw[List.filter_eq_self];intro y a;have:y≠x:=λe=>h (e▸a);simp[this]
theorem FF:y∈wo ns x↔y∈ns/\y≠x:=by
 unfold wo;rw[jk];simp
theorem iw(h:ns.Nodup):(wo ns x).Nodup:=h.filter _
theorem oV(as bs:List Str)(x:Str):wo (as++bs) x=wo as x++wo bs x:=by unfold wo;rw[Yt]
theorem uk(bs:List Str)(x:Str):wo (x::bs) x=wo bs x:=by unfold wo;rw[SR];simp
theorem E9(h:x∈ns):ns=ns.take (ns.idxOf x)++x::ns.drop (ns.idxOf x+1):=by
 have a:ns.idxOf x<ns.length:=List.idxOf_lt_length_iff.mpr h;have e:ns[ns.idxOf x]=x:=SU a
 conv=>lhs;rw[<- LQ (ns.idxOf x) ns,jW a,e]
theorem sf(h:x∈ns):x∉ns.take (ns.idxOf x):=by
 intro a;obtain⟨m,JU,e⟩:=List.mem_iff_getElem.mp a;rw[CI]at JU;rw[ZDD]at e;exact X9 x ns m (by omega) (by omega) e
theorem sJ(h:x∈ns)(nd:ns.Nodup):x∉ns.drop (ns.idxOf x+1):=by
 rw[E9 h]at nd;have h2:=(List.nodup_append.mp nd).2.1;exact(List.nodup_cons.mp h2).1
theorem ub(h:x∈ns)(nd:ns.Nodup):wo ns x=ns.take (ns.idxOf x)++ns.drop (ns.idxOf x+1):=by
 conv=>lhs;rw[E9 h]
 rw[oV,uk,iU (sf h),iU (sJ h nd)]
theorem P9(h:x∈ns)(nd:ns.Nodup):(wo ns x).length+1=ns.length:=by
 have a:ns.idxOf x<ns.length:=List.idxOf_lt_length_iff.mpr h;rw[ub h nd,C0,CI,GG];omega
theorem QM:(ins ns x i).length=ns.length+1:=by
 unfold ins;rw[C0,Bw,CI,GG];omega
theorem Me:y∈ins ns x i↔y=x∨y∈ns:=by
 unfold ins;rw[GH,Cp];have:y∈ns↔y∈ns.take i∨y∈ns.drop i:=by rw[<- GH,LQ]
 rw[this];constructor
 .rintro(h|h|h)
  .exact .inr (.inl h)
  .exact .inl h
  .exact .inr (.inr h)
 .rintro(h|h|h)
  .exact .inr (.inl h)
  .exact .inl h
  .exact .inr (.inr h)
theorem Us(h:ns.Nodup)(hx:x∉ns):(ins ns x i).Nodup:=by
 unfold ins;have e:(ns.take i++ns.drop i).Nodup:=by rw[LQ];exact h
 obtain⟨h1,h2,c⟩:=List.nodup_append.mp e;rw[Bx];refine⟨h1,List.nodup_cons.mpr ⟨λz=>hx (ZDK z),h2⟩,λa ha b hb=>?_⟩;rcases List.mem_cons.mp hb with z|z
 .rw[z];rintro rfl;exact hx (jl ha)
 .exact c a ha b z
theorem gU{lo:Nat}(h1:lo<=hi)(h2:hi<=ns.length):(GA ns lo hi).length=ns.length:=by
 unfold GA;rw[C0,C0,Yw,CI,CI,GG,GG];omega
theorem Ze{lo:Nat}(h1:lo<=hi):ns=ns.take lo++(ns.drop lo).take (hi - lo)++ns.drop hi:=by
 have:ns.drop hi=(ns.drop lo).drop (hi - lo):=by rw[List.drop_drop];congr 1;omega
 rw[this,BV,LQ,LQ]
theorem Tj{lo:Nat}(h1:lo<=hi):y∈GA ns lo hi↔y∈ns:=by
 conv=>rhs;rw[Ze (ns:=ns) h1]
 unfold GA;simp only[GH,List.mem_reverse]
theorem qW{lo:Nat}(h1:lo<=hi)(nd:ns.Nodup):(GA ns lo hi).Nodup:=by
 have p:List.Perm (GA ns lo hi) ns:=by
  conv=>rhs;rw[Ze (ns:=ns) h1]
  unfold GA;exact((List.reverse_perm _).append_left _).append_right _
 exact p.nodup_iff.mpr nd
theorem AY.step{d:AY}(h:d.Ok m ns)(nd:ns.Nodup)(b:∀x∈ns,Nm x)(c:ns.length<=m):
  (d.done ns).Nodup/\(∀x∈d.done ns,Nm x)/\(d.done ns).length<=m:=by
 cases d with
 |put x i=>
  obtain⟨h1,h2,g,f⟩:=h;refine⟨Us nd h2,λy a=>?_,?_⟩
  .rcases Me.mp a with e|e
   .rw[e];exact h1
   .exact b y e
  .show(ins ns x i).length<=m;rw[QM];omega
 |take x=>
  refine⟨iw nd,λy a=>b y (FF.mp a).1,?_⟩;have:=P9 h nd;show(wo ns x).length<=m;omega
 |move x i=>
  obtain⟨h1,h2⟩:=h;refine⟨Us (iw nd) (λz=>(FF.mp z).2 rfl),λy a=>?_,?_⟩
  .rcases Me.mp a with e|e
   .rw[e];exact b x h1
   .exact b y (FF.mp e).1
  .have:=P9 h1 nd;show(ins (wo ns x) x i).length<=m;rw[QM];omega
 |turn lo hi=>
  obtain⟨h1,h2⟩:=h;exact⟨qW h1 nd,λy a=>b y ((Tj h1).mp a),by show(GA ns lo hi).length<=m;rw[gU h1 h2];exact c⟩
theorem XO(xs:List V)(i:Nat):DT xs none (some (i:Int))=xs.take i:=by
 unfold DT;rw[HT.Zf,HT.QK,jX,Z3];rcases Z1 i xs.length with h|h
 .rw[Ol h]
 .rw[Z2 h,KG,jn h]
theorem Xz(xs:List V)(i:Nat):DT xs (some (i:Int)) none=xs.drop i:=by
 unfold DT;rw[HT.Zf,HT.QK];rcases Z1 i xs.length with h|h
 .rw[Ol h,jn (by rw[GG];omega)]
 .rw[Z2 h,Sa,List.take_zero,List.drop_of_length_le h]
theorem nX(xs:List V){j:Nat}(hi:i<=j)(a:j<=xs.length):DT xs (some (i:Int)) (some (j:Int))=(xs.drop i).take (j - i):=by
 unfold DT;rw[HT.QK,HT.QK,Ol a,Ol (CK hi a)]
noncomputable def BF(tp:Bool)(xs:List V):HO:=match tp with
 |false=>.lst xs
 |true=>.tup xs
theorem BF.sq{K:ZEW}{tp:Bool}(h:H a=some (BF tp xs)):CS K tp H a xs:=by
 cases tp
 .exact AQ.of h
 .exact AD.of h
def My:Sp:=λvs H Q _=>∃(a:Addr)(tp:Bool)(ns:List Str)(x:Str),vs=[.ref a,.str x]/\H a=some (BF tp (ns.map V.str))/\x∈ns/\Q (.int (ns.idxOf x:Nat)) H
def iK:Sp:=λvs H Q _=>∃(a:Addr)(tp:Bool)(ns:List Str)(x:Str)(i:Nat),vs=[.ref a,.str x,.int i]/\H a=some (BF tp (ns.map V.str))/\(AY.put x i).Ok 40 ns/\∀H',A8 H H'->Q .A7 H'
def gB:Sp:=λvs H Q _=>∃(a:Addr)(tp:Bool)(ns:List Str)(x:Str)(i:Nat),vs=[.ref a,.str x,.int i]/\H a=some (BF tp (ns.map V.str))/\(AY.move x i).Ok 40 ns/\Q .A7 H
def iP:Sp:=λvs H Q _=>∃(a:Addr)(tp:Bool)(ns:List Str)(lo hi:Nat),vs=[.ref a,.int lo,.int hi]/\H a=some (BF tp (ns.map V.str))/\(AY.turn lo hi).Ok 40 ns/\Q .A7 H
def XD:Sp:=λvs H Q _=>∃(a t:Addr)(tp:Bool)(ns:List Str)(d:AY),vs=[.ref a,.ref t]/\H a=some (BF tp (ns.map V.str))/\H t=some (.tup d.vals)/\d.Ok 40 ns/\∀H',A8 H H'->Q .A7 H'
def LD(H:Hp)(Q:VK)(ns:List Str):Prop:=∀l H',H l=none->A8 H H'->H' l=some (.lst (ns.map V.str))->Q (.ref l) H'
def eX:Sp:=λvs H Q _=>∃(a:Addr)(tp:Bool)(ns:List Str)(x:Str)(i:Nat),vs=[.ref a,.str x,.int i]/\H a=some (BF tp (ns.map V.str))/\ns.length<=1000/\LD H Q (ins ns x i)
def aq:Sp:=λvs H Q _=>∃(a:Addr)(tp:Bool)(ns:List Str)(x:Str),vs=[.ref a,.str x]/\H a=some (BF tp (ns.map V.str))/\ns.length<=1000/\LD H Q (wo ns x)
def V9:Sp:=λvs H Q _=>∃(p a:Addr)(m:Nat)(ns:List Str),vs=[.ref p,.ref a,.int m]/\BU H p/\H a=some (.lst (ns.map V.str))/\a≠p/\(∀x∈ns,Nm x)/\ns.length<=m/\1<=m/\m<=100/\
 ∀(d:AY)t H',H t=none->BC p H H'->H' t=some (.tup d.vals)->d.Ok m ns->Q (.ref t) H'
theorem Ht[Decidable c](h:c)(a:A):if c then A else B:=by rw[kz h];exact a
theorem AZ[Decidable c](h:¬ c)(b:B):if c then A else B:=by rw[km h];exact b
theorem sA:∀j,j<26->MC (97+j)=true:=by decide +kernel
theorem gY(h:Nm x):isNm x=true:=by
 obtain⟨h1,h2,f⟩:=h;unfold isNm;rw[kc (by omega),kc (by omega),Mi,Mi,Fi];intro c d;obtain⟨a,b⟩:=f c d;have:=sA (c - 97) (by omega);have e:97+(c - 97)=c:=by omega
 rw[e]at this;exact this
theorem Fe(ns:List Str):(ns.map V.str).length=ns.length:=AW _
noncomputable def Rh(y:V):V->Bool:=λv=>!decide (v=y)
theorem eI(ns:List Str)(x:Str):((ns.map V.str).filter (Rh (.str x))).map (λv=>v)=(wo ns x).map V.str:=by
 unfold wo Rh;rw[List.map_id',jZ]
 congr 1
 apply ZD9;intro y _;simp
end Lw
namespace Fz
open L2 Lw
variable{F F' H H':Hp}{v:V}{Bf vs:List V}{i j n:Nat}{t:TA}{a l:Addr}{r:List V->Hp->VK->Prop}{Z τ:L2.St}{o:HO}{ta tb tc te:TE}{b neg tp:Bool}{u:TS}{g:TG}{wi:TI}{A:List Addr}{Q:VK}{X:XK}
inductive PV where
 |A7|bl (b:Bool)|int (i:Int)|str (x:Str)|lst (xs:List PV)|tup (xs:List PV)
 |AL (ks:List Key) (xs:List PV)|obj (C:Addr) (ns:List Str) (xs:List PV)|exc (C:Addr) (ns:List Str) (xs:List PV)|con (a:Addr) (xs:List PV)
variable{p:PV}{ps xs:List PV}
def HX(a C:Addr)(dx:Option Addr):HO:=.ext λh=>∃ob vs,h.get? a=some ob/\ob.cls=.ref C/\ob.dict=dx/\ob.data=.fields vs
mutual
inductive Rep (F:Hp):V->PV->Prop where
 |A7:Rep F .A7 .A7
 |bl (b:Bool):Rep F (.bl b) (.bl b)
 |int (i:Int):Rep F (.int i) (.int i)
 |str (x:Str):Rep F (.str x) (.str x)
 |lst {a:Addr}{vs:List V}{xs:List PV}:F a=some (.lst vs)->AS F vs xs->Rep F (.ref a) (.lst xs)
 |tup {a:Addr}{vs:List V}{xs:List PV}:F a=some (.tup vs)->AS F vs xs->Rep F (.ref a) (.tup xs)
 |AL {a:Addr}{ks:List Key}{vs:List V}{xs:List PV}:F a=some (.dK (ks.zip vs))->ks.length=vs.length->AS F vs xs->Rep F (.ref a) (.AL ks xs)
 |obj {a C dx:Addr}{ns:List Str}{vs:List V}{xs:List PV}:F a=some (.ins C dx (ns.zip vs))->F dx=some (.own a)->ns.length=vs.length->AS F vs xs->Rep F (.ref a) (.obj C ns xs)
 |con {a:Addr}{xs:List PV}:Rep F (.ref a) (.con a xs)
 |Oq {a C:Addr}:F a=some (HX a C none)->Rep F (.ref a) (.exc C [] [])
 |exc {a C dx:Addr}{ns:List Str}{vs:List V}{xs:List PV}:F a=some (HX a C (some dx))->F dx=some (.xd (ns.zip vs))->ns.length=vs.length->AS F vs xs->Rep F (.ref a) (.exc C ns xs)
inductive AS (F:Hp):List V->List PV->Prop where
 |nil:AS F [] []
 |cons {v:V}{p:PV}{vs:List V}{ps:List PV}:Rep F v p->AS F vs ps->AS F (v::vs) (p::ps)
end
theorem Rep.mono(s:A8 F F')(r:Rep F v p):Rep F' v p:=
 Rep.rec (motive_1:=λv p _=>Rep F' v p) (motive_2:=λvs ps _=>AS F' vs ps) .A7 .bl .int .str (λh _ i=>.lst (s _ _ h) i) (λh _ i=>.tup (s _ _ h) i) (λh e _ i=>.AL (s _ _ h) e i) (λh h2 e _ i=>.obj (s _ _ h) (s _ _ h2) e i) .con (λh=>.Oq (s _ _ h)) (λh h2 e _ i=>.exc (s _ _ h) (s _ _ h2) e i) .nil (λ_ _ i k=>.cons i k) r
def qt(F:Hp)(v:V):PV->Prop
 | .A7=>v=.A7
 | .bl b=>v=.bl b
 | .int i=>v=.int i
 | .str x=>v=.str x
 | .lst xs=>∃a vs,v=.ref a/\F a=some (.lst vs)/\AS F vs xs
 | .tup xs=>∃a vs,v=.ref a/\F a=some (.tup vs)/\AS F vs xs
 | .AL ks xs=>∃a vs,v=.ref a/\F a=some (.dK (ks.zip vs))/\ks.length=vs.length/\AS F vs xs
 | .obj C ns xs=>∃a dx vs,v=.ref a/\F a=some (.ins C dx (ns.zip vs))/\F dx=some (.own a)/\ns.length=vs.length/\AS F vs xs
 | .con a _=>v=.ref a
 | .exc C ns xs=>(∃a,v=.ref a/\F a=some (HX a C none)/\ns=[]/\xs=[])∨∃a dx vs,v=.ref a/\F a=some (HX a C (some dx))/\F dx=some (.xd (ns.zip vs))/\ns.length=vs.length/\AS F vs xs
theorem Rep.inv(r:Rep F v p):qt F v p:=by
 cases r with
 |lst h r=>exact⟨_,_,rfl,h,r⟩
 |tup h r=>exact⟨_,_,rfl,h,r⟩
 |AL h l r=>exact⟨_,_,rfl,h,l,r⟩
 |obj h h2 l r=>exact⟨_,_,_,rfl,h,h2,l,r⟩
 |Oq h=>exact .inl ⟨_,rfl,h,rfl,rfl⟩
 |exc h h2 l r=>exact .inr ⟨_,_,_,rfl,h,h2,l,r⟩
 |_=>exact rfl
theorem AS.inv(r:AS F vs (p::ps)):∃v ws,vs=v::ws/\Rep F v p/\AS F ws ps:=by
 cases r with
 |cons r t=>exact⟨_,_,rfl,r,t⟩
theorem AS.Cy(r:AS F vs []):vs=[]:=by
 cases r;rfl
theorem AS.mono(s:A8 F F')(r:AS F vs ps):AS F' vs ps:=by
 induction ps generalizing vs with
 |nil=>cases r.Cy;exact .nil
 |cons p ps c=>obtain⟨v,ws,rfl,a,b⟩:=r.inv;exact .cons (a.mono s) (c b)
theorem AS.length{F:Hp}{vs:List V}{ps:List PV}(r:AS F vs ps):vs.length=ps.length:=by
 induction ps generalizing vs with
 |nil=>cases r.Cy;rfl
 |cons p ps c=>obtain⟨v,ws,rfl,a,b⟩:=r.inv;exact oW (· + 1) (c b)
theorem AS.get{F:Hp}{vs:List V}{ps:List PV}{i:Nat}{p:PV}(r:AS F vs ps)(e:ps[i]?=some p):∃v,vs[i]?=some v/\Rep F v p:=by
 induction ps generalizing vs i with
 |nil=>cases e
 |cons q ps c=>
  obtain⟨v,ws,rfl,a,b⟩:=r.inv;cases i with
  |zero=>cases e;exact⟨_,rfl,a⟩
  |succ i=>exact c (vs:=ws) (i:=i) b e
theorem AS.get'(r:AS F vs ps)(e:vs[i]?=some v):∃p,ps[i]?=some p/\Rep F v p:=by
 induction ps generalizing vs i with
 |nil=>cases r.Cy;cases e
 |cons q ps c=>
  obtain⟨u,ws,rfl,a,b⟩:=r.inv;cases i with
  |zero=>cases e;exact⟨_,rfl,a⟩
  |succ i=>exact c (vs:=ws) (i:=i) b e
theorem AS.append{ws:List V}{c:List PV}(r:AS F vs ps)(s:AS F ws c):AS F (vs++ws) (ps++c):=by
 induction ps generalizing vs with
 |nil=>cases r.Cy;exact s
 |cons p ps d=>obtain⟨v,us,rfl,a,b⟩:=r.inv;exact .cons a (d b)
theorem AS.take(n:Nat)(r:AS F vs ps):AS F (vs.take n) (ps.take n):=by
 induction ps generalizing vs n with
 |nil=>cases r.Cy;rw[List.take_nil,List.take_nil];exact .nil
 |cons p ps c=>
  obtain⟨v,us,rfl,a,b⟩:=r.inv;cases n with
  |zero=>exact .nil
  |succ n=>exact .cons a (c n b)
theorem AS.drop(n:Nat)(r:AS F vs ps):AS F (vs.drop n) (ps.drop n):=by
 induction ps generalizing vs n with
 |nil=>cases r.Cy;rw[List.drop_nil,List.drop_nil];exact .nil
 |cons p ps c=>
  cases n with
  |zero=>exact r
  |succ n=>obtain⟨v,us,rfl,a,b⟩:=r.inv;exact c n b
theorem AS.one(r:Rep F v p):AS F [v] [p]:=.cons r .nil
noncomputable def flat:PV->Bool
 | .lst _=>false
 | .tup _=>false
 | .AL _ _=>false
 | .obj _ _ _=>false
 | .exc _ _ _=>false
 | .con _ _=>false
 |_=>true
noncomputable def enc:PV->V
 | .bl b=>.bl b
 | .int i=>.int i
 | .str x=>.str x
 |_=>.A7
theorem Rep.enc(h:flat p=true)(r:Rep F v p):v=enc p:=by
 cases r <;> first|rfl|cases h
theorem rQ(h:flat p=true):Rep F (enc p) p:=by
 cases p with
 |A7=>exact .A7
 |bl b=>exact .bl b
 |int i=>exact .int i
 |str x=>exact .str x
 |lst xs=>cases h
 |tup xs=>cases h
 |AL ks xs=>cases h
 |obj C ns xs=>cases h
 |exc C ns xs=>cases h
 |con a xs=>cases h
theorem AS.enc(h:ps.all flat=true)(r:AS F vs ps):vs=ps.map enc:=by
 induction ps generalizing vs with
 |nil=>exact r.Cy
 |cons p ps c=>
  obtain⟨v,us,rfl,a,b⟩:=r.inv;rw[SQ,Ek]at h;rw[Bh,<- Rep.enc h.1 a,<- c h.2 b]
theorem fk(h:ps.all flat=true):AS F (ps.map enc) ps:=by
 induction ps with
 |nil=>exact .nil
 |cons p r a=>
  rw[SQ,Ek]at h;exact .cons (rQ h.1) (a h.2)
theorem Pb(h:flat p=true):Dz (Fz.enc p)=true:=by cases p <;> first|rfl|cases h
theorem fe(ns:List Str):(ns.map PV.str).all flat=true:=by
 rw[Fi];intro x hx;obtain⟨y,_,rfl⟩:=List.mem_map.mp hx;rfl
theorem lW(ns:List Int):(ns.map PV.int).all flat=true:=by
 rw[Fi];intro x hx;obtain⟨y,_,rfl⟩:=List.mem_map.mp hx;rfl
theorem vH(ns:List Bool):(ns.map PV.bl).all flat=true:=by
 rw[Fi];intro x hx;obtain⟨y,_,rfl⟩:=List.mem_map.mp hx;rfl
theorem Ss(ns:List Str):(ns.map PV.str).map Fz.enc=ns.map V.str:=by rw[FD];rfl
theorem z9(ns:List Bool):(ns.map PV.bl).map Fz.enc=ns.map V.bl:=by rw[FD];rfl
theorem pQ(ns:List Int):(ns.map PV.int).map Fz.enc=ns.map V.int:=by rw[FD];rfl
theorem AS.strs{ns:List Str}(r:AS F vs (ns.map PV.str)):vs=ns.map V.str:=(r.enc (fe ns)).trans (Ss ns)
theorem R4(ns:List Str):AS F (ns.map V.str) (ns.map PV.str):=by rw[<- Ss];exact fk (fe ns)
theorem AS.bls{ns:List Bool}(r:AS F vs (ns.map PV.bl)):vs=ns.map V.bl:=(r.enc (vH ns)).trans (z9 ns)
theorem AS.ints{ns:List Int}(r:AS F vs (ns.map PV.int)):vs=ns.map V.int:=(r.enc (lW ns)).trans (pQ ns)
inductive NK where
 |lst|AL (ks:List Key)|obj (C dx:Addr) (ns:List Str)
noncomputable def NK.ho:NK->List V->HO
 | .lst,vs=>.lst vs
 | .AL ks,vs=>.dK (ks.zip vs)
 | .obj C dx ns,vs=>.ins C dx (ns.zip vs)
noncomputable def NK.more:NK->List Addr
 | .obj _ dx _=>[dx]
 |_=>[]
def NK.side(k:NK)(a:Addr)(H:Hp):Prop:=match k with
 | .obj _ dx _=>H dx=some (.own a)
 |_=>True
def NK.fit(k:NK)(n:Nat):Prop:=match k with
 | .AL ks=>ks.length=n
 | .obj _ _ ns=>ns.length=n
 |_=>True
inductive OV where
 |fz (p:PV)
 |tp (xs:List OV)
 |nd (k:NK) (a:Addr) (xs:List OV)
variable{ts:List OV}
mutual
def OV.addrs:OV->List Addr
 | .fz _=>[]
 | .tp xs=>OV.Ag xs
 | .nd k a xs=>a::(k.more++OV.Ag xs)
def OV.Ag:List OV->List Addr
 | []=>[]
 |x::r=>x.addrs++OV.Ag r
end
mutual
def OV.pv:OV->PV
 | .fz p=>p
 | .tp xs=>.tup (OV.CT xs)
 | .nd .lst _ xs=>.lst (OV.CT xs)
 | .nd (.AL ks) _ xs=>.AL ks (OV.CT xs)
 | .nd (.obj C _ ns) _ xs=>.obj C ns (OV.CT xs)
def OV.CT:List OV->List PV
 | []=>[]
 |x::r=>x.pv::OV.CT r
end
mutual
inductive B4 (F H:Hp):V->OV->Prop where
 |fz {v:V}{p:PV}:Rep F v p->B4 F H v (.fz p)
 |tp {a:Addr}{vs:List V}{xs:List OV}:F a=some (.tup vs)->BG F H vs xs->B4 F H (.ref a) (.tp xs)
 |nd {k:NK}{a:Addr}{vs:List V}{xs:List OV}:H a=some (k.ho vs)->k.side a H->k.fit vs.length->BG F H vs xs->B4 F H (.ref a) (.nd k a xs)
inductive BG (F H:Hp):List V->List OV->Prop where
 |nil:BG F H [] []
 |cons {v:V}{t:OV}{vs:List V}{ts:List OV}:B4 F H v t->BG F H vs ts->BG F H (v::vs) (t::ts)
end
def ot(F H:Hp)(v:V):OV->Prop
 | .fz p=>Rep F v p
 | .tp xs=>∃a vs,v=.ref a/\F a=some (.tup vs)/\BG F H vs xs
 | .nd k a xs=>∃vs,v=.ref a/\H a=some (k.ho vs)/\k.side a H/\k.fit vs.length/\BG F H vs xs
theorem B4.inv{t:OV}(r:B4 F H v t):ot F H v t:=by
 cases r with
 |fz r=>exact r
 |tp h r=>exact⟨_,_,rfl,h,r⟩
 |nd h a b r=>exact⟨_,rfl,h,a,b,r⟩
theorem BG.inv{t:OV}(r:BG F H vs (t::ts)):∃v ws,vs=v::ws/\B4 F H v t/\BG F H ws ts:=by
 cases r with
 |cons r t=>exact⟨_,_,rfl,r,t⟩
theorem BG.Cy(r:BG F H vs []):vs=[]:=by
 cases r;rfl
theorem OV.Cm{k:NK}{xs:List OV}:(OV.nd k a xs).addrs=a::(k.more++OV.Ag xs):=by rw[OV.addrs]
theorem OV.HP{xs:List OV}:(OV.tp xs).addrs=OV.Ag xs:=by rw[OV.addrs]
theorem OV.GZ:(OV.fz p).addrs=[]:=by rw[OV.addrs]
theorem OV.CQ{x:OV}{r:List OV}:OV.Ag (x::r)=x.addrs++OV.Ag r:=by rw[OV.Ag]
theorem OV.HM:OV.Ag []=[]:=by rw[OV.Ag]
theorem NK.bD{k:NK}(h:k.side a H)(s:∀b∈k.more,∀o,H b=some o->H' b=some o):k.side a H':=by
 cases k with
 |obj C dx ns=>exact s dx (by simp[NK.more]) _ h
 |_=>trivial
theorem B4.mono(f:A8 F F'){t:OV}(r:B4 F H v t):(∀a∈t.addrs,∀o,H a=some o->H' a=some o)->B4 F' H' v t:=
 B4.rec (motive_1:=λv t _=>(∀a∈t.addrs,∀o,H a=some o->H' a=some o)->B4 F' H' v t) (motive_2:=λvs ts _=>(∀a∈OV.Ag ts,∀o,H a=some o->H' a=some o)->BG F' H' vs ts)
  (λr _=>.fz (r.mono f))
  (λh _ i s=>.tp (f _ _ h) (i (by rw[OV.HP]at s;exact s)))
  (λh c d _ i s=>by
   rw[OV.Cm]at s;exact .nd (s _ CJ _ h) (NK.bD c λb hb=>s b (Ca _ (Gz _ hb))) d (i λa ha=>s a (Ca _ (El _ ha))))
  (λ_=>.nil)
  (λ_ _ i k s=>by
   rw[OV.CQ]at s;exact .cons (i λa ha=>s a (Gz _ ha)) (k λa ha=>s a (El _ ha)))
  r
theorem BG.mono(f:A8 F F')(r:BG F H vs ts)(s:∀a∈OV.Ag ts,∀o,H a=some o->H' a=some o):BG F' H' vs ts:=by
 induction ts generalizing vs with
 |nil=>cases r.Cy;exact .nil
 |cons p ps c=>
  obtain⟨v,ws,rfl,a,b⟩:=r.inv;rw[OV.CQ]at s;exact .cons (a.mono f λa ha=>s a (Gz _ ha)) (c b λa ha=>s a (El _ ha))
theorem B4.there{t:OV}(r:B4 F H v t):∀a∈t.addrs,H a≠none:=
 B4.rec (motive_1:=λv t _=>∀a∈t.addrs,H a≠none) (motive_2:=λvs ts _=>∀a∈OV.Ag ts,H a≠none)
  (λ_ a ha=>by rw[OV.GZ]at ha;cases ha)
  (λ_ _ i a ha=>i a (by rw[OV.HP]at ha;exact ha))
  (λ{k b vs xs}h c d _ i a ha=>by
   rw[OV.Cm,Cp,GH]at ha;rcases ha with rfl|ha|ha
   .rw[h];exact λz=>by cases z
   .cases k with
    |obj C dx ns=>
     have e:a=dx:=List.mem_singleton.mp ha;rw[e,show H dx=some (.own b)from c];exact λz=>by cases z
    |_=>cases ha
   .exact i a ha)
  (λa ha=>by rw[OV.HM]at ha;cases ha)
  (λ_ _ i k a ha=>by
   rw[OV.CQ,GH]at ha;exact ha.elim (i a) (k a))
  r
theorem BG.there(r:BG F H vs ts):∀a∈OV.Ag ts,H a≠none:=by
 induction ts generalizing vs with
 |nil=>intro a ha;rw[OV.HM]at ha;cases ha
 |cons p ps c=>
  obtain⟨v,ws,rfl,x,b⟩:=r.inv;intro a ha;rw[OV.CQ,GH]at ha;exact ha.elim (x.there a) (c b a)
theorem BG.length{F H:Hp}{vs:List V}{ts:List OV}(r:BG F H vs ts):vs.length=ts.length:=by
 induction ts generalizing vs with
 |nil=>cases r.Cy;rfl
 |cons p ps c=>obtain⟨v,ws,rfl,a,b⟩:=r.inv;exact oW (· + 1) (c b)
inductive Slot where
 |any|is (p:PV)|own (xs:List PV)|AF|sq (tp:Bool) (xs:List PV)|raw (P:Hp->V->Prop)|ow (lt:Bool) (t:OV)
variable{ss:List Slot}{s:Slot}{RB nx:List Slot->Prop}
structure Ent0 where
 A:List Addr
 F0:Hp
 H0:Hp
 B:List Addr
variable{E:Ent0}
abbrev E3(A:List Addr)(F H:Hp):Ent0:=⟨A,F,H,[]⟩
def Ok(E:Ent0)(F H:Hp):Slot->Option (Option V)->Prop
 | .any,_=>True
 | .is p,o=>∃v,o=some (some v)/\Rep F v p
 | .own xs,o=>∃l vs,o=some (some (.ref l))/\F l=none/\E.H0 l=none/\H l=some (.lst vs)/\AS F vs xs
 | .AF,o=>∃l,o=some (some (.ref l))/\F l=none/\(E.H0 l=none∨l∈E.A)/\BU H l
 | .sq true xs,o=>∃v,o=some (some v)/\Rep F v (.tup xs)
 | .sq false xs,o=>∃l vs,o=some (some (.ref l))/\(l∉E.A/\l∉E.B)/\E.H0 l=some (.lst vs)/\AS F vs xs
 | .raw P,o=>∃v,o=some (some v)/\P F v/\∀F F',A8 F F'->P F v->P F' v
 | .ow lt t,o=>∃v,o=some (some v)/\B4 F H v t/\t.addrs.Nodup/\∀a∈t.addrs,F a=none/\(E.H0 a=none∨(lt=true/\a∈E.B))
def BK:Slot->Option (Option V)->Addr->Prop
 | .own _,o,l=>o=some (some (.ref l))
 | .AF,o,l=>o=some (some (.ref l))
 | .ow _ t,_,l=>l∈t.addrs
 |_,_,_=>False
structure Fin (E:Ent0) (F H:Hp):Prop where
 fh:A8 F H
 f0:A8 E.F0 F
 keep:∀a o,(a∉E.A/\a∉E.B)->E.H0 a=some o->H a=some o
 fresh:∀a o,F a=some o->E.F0 a=some o∨E.H0 a=none
 DV:∀a,a∈E.A->BU H a
 Ja:∀a,a∈E.A->F a=none
 a0:∀a,a∈E.A->E.H0 a≠none
 bF:∀a,a∈E.B->F a=none
 bH:∀a,a∈E.B->H a≠none
 b0:∀a,a∈E.B->E.H0 a≠none/\a∉E.A
structure Sg (E:Ent0) (ss:List Slot) (Z:L2.St) (F H:Hp):Prop extends Fin E F H where
 len:ss.length=Z.length
 ok:∀(i:Nat)s,ss[i]?=some s->Ok E F H s Z[i]?
 Bb:∀(i j:Nat)s u l,i≠j->ss[i]?=some s->ss[j]?=some u->BK s Z[i]? l->¬ BK u Z[j]? l
structure Ex where
 C:Addr
 ns:List Str
 xs:List PV
def Ex.at(x:Ex)(F:Hp)(C:Value)(dx:Option Addr):Prop:=
 C=.ref x.C/\((x.ns=[]/\x.xs=[]/\dx=none)∨∃a vs,dx=some a/\F a=some (.xd (x.ns.zip vs))/\x.ns.length=vs.length/\AS F vs x.xs)
class Xw where
 e:L2.St->XK
 J:List Slot->Prop
 D:Ex->Prop
structure Ent [Xw] extends Ent0 where
 hx:∀(ss:List Slot)(Z:L2.St)(F H:Hp)(x:Ex)(C:Value)(dx:Option Addr),Xw.J ss->Sg toEnt0 ss Z F H->Xw.D x->x.at F C dx->Xw.e Z C dx H
instance [Xw]:CoeOut Ent Ent0:=⟨Ent.toEnt0⟩
instance noX:Xw:=⟨λ_=>E0,λ_=>True,λ_=>False⟩
def D1(ss:List Slot)(Z:L2.St)(a:Addr):Prop:=∀i:Nat,ss[i]?=some .AF->Z[i]?≠some (some (.ref a))
structure Mv (E:Ent0) (ss:List Slot) (Z:L2.St) (F H F' H':Hp):Prop where
 st:Sg E ss Z F' H'
 ff:A8 F F'
 hh:∀a o,D1 ss Z a->H a=some o->H' a=some o
 nn:∀a o,F' a=some o->F a=some o∨H a=none
theorem Sg.NQ(S:Sg E ss Z F H)(h:H l=none):D1 ss Z l:=λi hi e=>by
 obtain⟨c,b,_,_,_,_,a,_⟩:=S.ok i _ hi;rw[e]at b;cases b;rw[h]at a;cases a
theorem Mv.none(m:Mv E ss Z F H F' H')(h:H' a=none):H a=none:=by
 cases e:H a with
 |none=>rfl
 |some o=>rw[m.hh a o (m.st.NQ h) e]at h;cases h
theorem Mv.refl{E:Ent0}{ss:List Slot}{Z:L2.St}{F H:Hp}(S:Sg E ss Z F H):Mv E ss Z F H F H:=⟨S,A8.refl _,λ_ _ _ e=>e,λ_ _ e=>.inl e⟩
theorem Mv.trans{F1 H1 F2 H2:Hp}(a:Mv E ss Z F H F1 H1)(b:Mv E ss Z F1 H1 F2 H2):Mv E ss Z F H F2 H2:=
 ⟨b.st,a.ff.trans b.ff,λc o n e=>b.hh c o n (a.hh c o n e),λc o e=>(b.nn c o e).elim (λe=>a.nn c o e) λe=>.inr (a.none e)⟩
theorem Sg.ES(S:Sg E ss Z F H){p:Addr}(h:H p=none):E.H0 p=none:=by
 cases e:E.H0 p with
 |none=>rfl
 |some o=>
  by_cases q:p∈E.A
  .obtain⟨_,_,b,_⟩:=S.DV p q;rw[h]at b;cases b
  .by_cases a:p∈E.B
   .exact absurd h (S.bH p a)
   .rw[S.keep p o ⟨q,a⟩ e]at h;cases h
theorem Sg.Bd(S:Sg E ss Z F H){p:Addr}(h:H p=none):F p=none:=A8.none S.fh h
theorem BU.keep(h:BU H l)(k:∀o,H l=some o->H' l=some o):BU H' l:=by
 obtain⟨a,b,e,r⟩:=h;exact⟨a,b,k _ e,r⟩
theorem Sg.xD(S:Sg E ss Z F H)(h:F l=some o):D1 ss Z l:=λi hi e=>by
 obtain⟨c,b,a,_⟩:=S.ok i _ hi;rw[e]at b;cases b;rw[h]at a;cases a
theorem Sg.uy(S:Sg E ss Z F H)(b:l∉E.A)(h:E.H0 l=some o):D1 ss Z l:=λi hi e=>by
 obtain⟨c,a,_,q,_⟩:=S.ok i _ hi;rw[e]at a;cases a;rcases q with q|q
 .rw[h]at q;cases q
 .exact b q
theorem Sg.sX(S:Sg E ss Z F H)(h:l∈E.B):D1 ss Z l:=λi hi e=>by
 obtain⟨d,a,_,q,_⟩:=S.ok i _ hi;rw[e]at a;cases a;obtain⟨c,b⟩:=S.b0 l h;rcases q with q|q
 .exact c q
 .exact b q
theorem Sg.DR(S:Sg E ss Z F H)(h:ss[i]?=some s)(m:BK s Z[i]? l):H l≠none:=by
 have k:=S.ok i s h;cases s with
 |own xs=>obtain⟨c,vs,a,_,_,b,_⟩:=k;rw[show Z[i]?=some (some (.ref l))from m]at a;cases a;rw[b];simp
 |AF=>obtain⟨c,a,_,_,_,_,b,_⟩:=k;rw[show Z[i]?=some (some (.ref l))from m]at a;cases a;rw[b];simp
 |ow lt t=>obtain⟨v,_,r,_⟩:=k;exact r.there l m
 |_=>cases m
theorem Sg.v7(S:Sg E ss Z F H)(h:ss[i]?=some s)(m:BK s Z[i]? l):F l=none:=by
 have k:=S.ok i s h;cases s with
 |own xs=>obtain⟨c,vs,a,b,_⟩:=k;rw[show Z[i]?=some (some (.ref l))from m]at a;cases a;exact b
 |AF=>obtain⟨c,a,b,_⟩:=k;rw[show Z[i]?=some (some (.ref l))from m]at a;cases a;exact b
 |ow lt t=>obtain⟨v,_,r,_,q⟩:=k;exact(q l m).1
 |_=>cases m
theorem Sg.QR(S:Sg E ss Z F H)(h:ss[i]?=some s)(a:H l=none):¬ BK s Z[i]? l:=λm=>S.DR h m a
theorem Sg.Lf(S:Sg E ss Z F H)(h:ss[i]?=some s)(m:BK s Z[i]? l)(np:s≠.AF):D1 ss Z l:=λj a b=>
 S.Bb i j s _ l (by rintro rfl;rw[h]at a;exact np (BE a)) h a m b
theorem Ok.go(S:Sg E ss Z F H){i:Nat}{s:Slot}(hi:ss[i]?=some s)(ff:A8 F F')(hk:∀a o,BK s Z[i]? a->H a=some o->H' a=some o)(Bd:∀a,H a≠none->F a=none->F' a=none)(np:s≠.AF):Ok E F' H' s Z[i]?:=by
 have k:=S.ok i s hi;cases s with
 |any=>trivial
 |is p=>obtain⟨v,e,r⟩:=k;exact⟨v,e,r.mono ff⟩
 |own xs=>
  obtain⟨l,vs,e,c,b,d,r⟩:=k;exact⟨l,vs,e,Bd l (by rw[d];simp) c,b,hk l _ e d,r.mono ff⟩
 |AF=>exact absurd rfl np
 |sq tp xs=>
  cases tp with
  |true=>obtain⟨v,e,r⟩:=k;exact⟨v,e,r.mono ff⟩
  |false=>obtain⟨l,vs,e,c,b,r⟩:=k;exact⟨l,vs,e,c,b,r.mono ff⟩
 |raw P=>obtain⟨v,e,r,st⟩:=k;exact⟨v,e,st _ _ ff r,st⟩
 |ow lt t=>
  obtain⟨v,e,r,nd,q⟩:=k;exact⟨v,e,r.mono ff λa ha o=>hk a o ha,nd,λa ha=>⟨Bd a (r.there a ha) (q a ha).1,(q a ha).2⟩⟩
theorem Sg.step(S:Sg E ss Z F H)(ff:A8 F F')(fh:A8 F' H')(hk:∀a o,D1 ss Z a->H a=some o->H' a=some o)(hn:∀a o,F' a=some o->F a=some o∨H a=none)
  (f:∀(i:Nat)l,ss[i]?=some .AF->Z[i]?=some (some (.ref l))->BU H' l):Mv E ss Z F H F' H':=by
 have Bd:∀a,H a≠none->F a=none->F' a=none:=λa h1 h2=>by
  cases e:F' a with
  |none=>rfl
  |some o=>
   rcases hn a o e with q|q
   .rw[h2]at q;cases q
   .exact absurd q h1
 have g:∀a,BU H a->D1 ss Z a->BU H' a:=λa p n=>BU.keep p λo e=>hk a o n e;refine⟨⟨⟨fh,S.f0.trans ff,λa o b e=>?_,λa o e=>?_,λa b=>?_,λa b=>?_,S.a0,λa c=>Bd a (S.bH a c) (S.bF a c),λa c=>?_,S.b0⟩,S.len,λi s hi=>?_,S.Bb⟩,ff,hk,hn⟩
 .exact hk a o (S.uy b.1 e) (S.keep a o b e)
 .rcases hn a o e with q|q
  .exact S.fresh a o q
  .exact .inr (S.ES q)
 .by_cases q:∃i:Nat,ss[i]?=some .AF/\Z[i]?=some (some (.ref a))
  .obtain⟨i,q1,q2⟩:=q;exact f i a q1 q2
  .exact g a (S.DV a b) λi h1 h2=>q ⟨i,h1,h2⟩
 .refine Bd a ?_ (S.Ja a b);obtain⟨_,_,d,_⟩:=S.DV a b;rw[d];simp
 .obtain⟨o,e⟩:=Option.ne_none_iff_exists'.mp (S.bH a c);rw[hk a o (S.sX c) e];simp
 .by_cases np:s=.AF
  .subst np;obtain⟨l,e,d,k,j⟩:=S.ok i _ hi;have r:=j;obtain⟨_,_,h,_⟩:=r;exact⟨l,e,Bd l (by rw[h];simp) d,k,f i l hi e⟩
  .exact Ok.go S hi ff (λa o m=>hk a o (S.Lf hi m np)) Bd np
theorem Sg.EF(S:Sg E ss Z F H)(hi:ss[i]?=some .AF)(e:Z[i]?=some (some (.ref l))):BU H l:=by
 obtain⟨b,a,_,_,p⟩:=S.ok i _ hi;rw[e]at a;cases a;exact p
theorem Sg.alloc(S:Sg E ss Z F H){p:Addr}(h:H p=none)(o:HO):Mv E ss Z F H (upd F p o) (upd H p o):=by
 refine S.step (Ap (S.Bd h) _) (λa u e=>?_) (λa u _ e=>Ap h o a u e) (λa u e=>?_) λi l hi e=>BU.keep (S.EF hi e) λu e=>Ap h o l u e
 .by_cases q:a=p
  .subst q;rw[AO]at e ⊢;exact e
  .rw[Ab q]at e ⊢;exact S.fh a u e
 .by_cases q:a=p
  .subst q;exact .inr h
  .rw[Ab q]at e;exact .inl e
theorem Sg.make(S:Sg E ss Z F H){p:Addr}(h:H p=none)(o:HO):Mv E ss Z F H F (upd H p o):=
 S.step (A8.refl _) (S.fh.trans (Ap h o)) (λa u _ e=>Ap h o a u e) (λa u e=>.inl e) λi l hi e=>BU.keep (S.EF hi e) λu e=>Ap h o l u e
theorem Sg.grow(S:Sg E ss Z F H)(s:A8 H H'):Mv E ss Z F H F H':=
 S.step (A8.refl _) (S.fh.trans s) (λa u _ e=>s a u e) (λa u e=>.inl e) λi l hi e=>BU.keep (S.EF hi e) λu e=>s l u e
theorem Sg.setG(S:Sg E ss Z F H)(AI:Ok E F H s (some (some v)))(d:∀l,BK s (some (some v)) l->∀(i:Nat)u,i≠j->ss[i]?=some u->¬ BK u Z[i]? l):Sg E (ss.set j s) (Z.set j (some v)) F H:=by
 refine⟨S.toFin,by rw[Hw,Hw];exact S.len,λi u hi=>?_,λi k u w l MR hi hk c b=>?_⟩
 .by_cases q:i=j
  .subst q;have a:i<ss.length:=by have:=(List.getElem?_eq_some_iff.mp hi).1;simpa using this
   rw[CH a]at hi;cases hi;rw[CH (by rw[<- S.len];exact a)];exact AI
  .rw[C4 (B0 q)]at hi ⊢;exact S.ok i u hi
 .by_cases q:i=j
  .subst q;have a:i<ss.length:=by have:=(List.getElem?_eq_some_iff.mp hi).1;simpa using this
   rw[CH a]at hi;rw[CH (by rw[<- S.len];exact a)]at c;cases hi;rw[C4 MR]at hk b;exact d l c k w (B0 MR) hk b
  .rw[C4 (B0 q)]at hi c
   by_cases q2:k=j
   .subst q2;have a:k<ss.length:=by have:=(List.getElem?_eq_some_iff.mp hk).1;simpa using this
    rw[CH a]at hk;cases hk;rw[CH (by rw[<- S.len];exact a)]at b;exact d l b i u MR hi c
   .rw[C4 (B0 q2)]at hk b;exact S.Bb i k u w l MR hi hk c b
theorem Sg.Jb(S:Sg E ss Z F H)(r:Rep F v p):Sg E (ss.set j (.is p)) (Z.set j (some v)) F H:=S.setG ⟨v,rfl,r⟩ λ_ h=>by cases h
def Sv(ss:List Slot)(Z:L2.St)(F H:Hp)(v:V):Bool->List PV->Prop
 |true,xs=>Rep F v (.tup xs)
 |false,xs=>∃l vs,v=.ref l/\D1 ss Z l/\H l=some (.lst vs)/\AS F vs xs
def Fv(E:Ent0)(F:Hp)(v:V):Bool->List PV->Prop
 |true,xs=>Rep F v (.tup xs)
 |false,xs=>∃l vs,v=.ref l/\(F l=some (.lst vs)∨((l∉E.A/\l∉E.B)/\E.H0 l=some (.lst vs)))/\AS F vs xs
structure Wp [Xw] (ss:List Slot) (t:TE) (k:PV->Prop):Prop where
 go:∀(E:Ent)(Z:L2.St)(F H:Hp)(Q:VK),Sg E ss Z F H->(∀v p F' H',Mv E ss Z F H F' H'->Rep F' v p->k p->Q v H')->t Z H Q
structure Wn [Xw] (ss:List Slot) (t:TE) (k:List PV->Prop):Prop where
 go:∀(E:Ent)(Z:L2.St)(F H:Hp)(Q:VK),Sg E ss Z F H->(∀l vs xs F' H',Mv E ss Z F H F' H'->F' l=none->H l=none->H' l=some (.lst vs)->AS F' vs xs->k xs->Q (.ref l) H')->t Z H Q
structure Wq [Xw] (ss:List Slot) (t:TE) (k:Bool->List PV->Prop):Prop where
 go:∀(E:Ent)(Z:L2.St)(F H:Hp)(Q:VK),Sg E ss Z F H->(∀v tp xs F' H',Mv E ss Z F H F' H'->Sv ss Z F' H' v tp xs->k tp xs->Q v H')->t Z H Q
structure Wz [Xw] (ss:List Slot) (t:TE) (k:Bool->List PV->Prop):Prop where
 go:∀(E:Ent)(Z:L2.St)(F H:Hp)(Q:VK),Sg E ss Z F H->(∀v tp xs F' H',Mv E ss Z F H F' H'->Fv E F' v tp xs->k tp xs->Q v H')->t Z H Q
structure Wt [Xw] (ss:List Slot) (t:TT) (k:Bool->Prop):Prop where
 go:∀(E:Ent)(Z:L2.St)(F H:Hp)(Q:Bool->Hp->Prop),Sg E ss Z F H->(∀b F' H',Mv E ss Z F H F' H'->k b->Q b H')->t Z H Q
def Av(ss:List Slot)(Z:L2.St)(F H:Hp)(v:V):Slot->Prop
 | .is p=>Rep F v p
 | .sq tp xs=>Sv ss Z F H v tp xs
 | .raw P=>P F v/\∀F F',A8 F F'->P F v->P F' v
 |_=>False
inductive II (ss:List Slot) (Z:L2.St) (F H:Hp):List V->List Slot->Prop where
 |nil:II ss Z F H [] []
 |cons {v:V}{s:Slot}{vs:List V}{l:List Slot}:Av ss Z F H v s->II ss Z F H vs l->II ss Z F H (v::vs) (s::l)
structure Wa [Xw] (ss:List Slot) (t:TA) (k:List Slot->Prop):Prop where
 go:∀(E:Ent)(Z:L2.St)(F H:Hp)(Q:List V->Hp->Prop),Sg E ss Z F H->(∀vs l F' H',Mv E ss Z F H F' H'->II ss Z F' H' vs l->k l->Q vs H')->t Z H Q
inductive Ai where
 |is (k:PV->Prop)|new (k:List PV->Prop)|AF|ow (k:OV->Prop)|mt (k:PV->OV->Prop)|zJ (k:PV->OV->OV->Prop)
noncomputable def OV.val:OV->V
 | .nd _ a _=>.ref a
 |_=>.A7
def Ai.ok(R:Ai)(E:Ent0)(F' H':Hp)(v:V):Prop:=match R with
 | .is k=>∃p,Rep F' v p/\k p
 | .new k=>∃l vs xs,v=.ref l/\F' l=none/\E.H0 l=none/\H' l=some (.lst vs)/\AS F' vs xs/\k xs
 | .AF=>∃l,v=.ref l/\F' l=none/\E.H0 l=none/\BU H' l
 | .ow k=>∃t,B4 F' H' v t/\t.addrs.Nodup/\(∀a∈t.addrs,F' a=none/\E.H0 a=none)/\k t
 | .mt k=>∃p t,Rep F' v p/\B4 F' H' t.val t/\t.addrs.Nodup/\(∀a∈t.addrs,F' a=none/\(E.H0 a=none∨a∈E.B))/\k p t
 | .zJ k=>∃p t u,Rep F' v p/\B4 F' H' t.val t/\B4 F' H' u.val u/\(t.addrs++u.addrs).Nodup/\(∀a∈t.addrs++u.addrs,F' a=none/\(E.H0 a=none∨a∈E.B))/\k p t u
structure Ws [Xw] (ss:List Slot) (t:TS) (nx:List Slot->Prop) (R:Ai):Prop where
 go:∀(E:Ent)(D:Ends)(Z:L2.St)(F H:Hp),Sg E ss Z F H->(∀AG σ' F' H',nx AG->Sg E AG σ' F' H'->A8 F F'->D.nx σ' H')->(∀v F' H',Fin E F' H'->R.ok E F' H' v->D.rt v H')->t D Z H
section
variable[Xw]
variable{K:ZEW}{k:PV->Prop}{R:Ai}
theorem Sv.mv(h:Sv ss Z F H v tp xs)(m:Mv E ss Z F H F' H'):Sv ss Z F' H' v tp xs:=by
 cases tp with
 |true=>exact Rep.mono m.ff h
 |false=>
  obtain⟨l,vs,e,n,r,q⟩:=h;exact⟨l,vs,e,n,m.hh l _ n r,q.mono m.ff⟩
theorem Sv.seq(S:Sg E ss Z F H)(h:Sv ss Z F H v tp xs):∃l vs,v=.ref l/\H l=some (BF tp vs)/\AS F vs xs:=by
 cases tp with
 |true=>cases h with|tup e r=>exact⟨_,_,rfl,S.fh _ _ e,r⟩
 |false=>obtain⟨l,vs,e,_,r,q⟩:=h;exact⟨l,vs,e,r,q⟩
theorem Wp.mono{k':PV->Prop}(h:Wp ss te k)(i:∀p,k p->k' p):Wp ss te k':=⟨λE Z F H Q S q=>h.go E Z F H Q S λv p F' H' m r kk=>q v p F' H' m r (i p kk)⟩
theorem AK(h:ss[i]?=some (.is p))(hk:k p):Wp ss (BP i) k:=⟨λE Z F H Q S q=>by
 obtain⟨v,hv,r⟩:=S.ok i _ h;exact⟨v,hv,q v p F H (.refl S) r hk⟩⟩
theorem Er{i:Int}(hk:k (.int i)):Wp ss (tC (.int i)) k:=⟨λE Z F H Q S q=>q _ _ F H (.refl S) (.int i) hk⟩
theorem FQ{x:Str}(hk:k (.str x)):Wp ss (tC (.str x)) k:=⟨λE Z F H Q S q=>q _ _ F H (.refl S) (.str x) hk⟩
theorem GV(hk:k (.bl b)):Wp ss (tC (.bl b)) k:=⟨λE Z F H Q S q=>q _ _ F H (.refl S) (.bl b) hk⟩
theorem KU(hk:k .A7):Wp ss (tC .A7) k:=⟨λE Z F H Q S q=>q _ _ F H (.refl S) .A7 hk⟩
theorem G6(h:Wn ss te (λxs=>k (.lst xs))):Wp ss te k:=⟨λE Z F H Q S q=>h.go E Z F H Q S λl vs xs F' H' m c f Dj r kk=>by
 have b:=m.st;have fr:Mv E ss Z F H (upd F' l (.lst vs)) H':=by
  have z:∀a,H' a≠none->a≠l->F' a=none->upd F' l (.lst vs) a=none:=λa _ h1 h2=>by rw[Ab h1];exact h2
  refine⟨⟨⟨λa u e=>?_,b.f0.trans (Ap c _),b.keep,λa u e=>?_,b.DV,λa y=>?_,b.a0,λa x=>?_,b.bH,b.b0⟩,b.len,λi s hi=>?_,b.Bb⟩,m.ff.trans (Ap c _),m.hh,λa u e=>?_⟩
  .by_cases q:a=l
   .subst q;rw[AO]at e;rw[<- e];exact Dj
   .rw[Ab q]at e;exact b.fh a u e
  .by_cases q:a=l
   .subst q;exact .inr (S.ES f)
   .rw[Ab q]at e;exact b.fresh a u e
  .by_cases q:a=l
   .subst q;obtain⟨_,_,e,_⟩:=S.DV _ y;rw[f]at e;cases e
   .rw[Ab q];exact b.Ja a y
  .by_cases q:a=l
   .subst q;exact absurd f (S.bH _ x)
   .rw[Ab q];exact b.bF a x
  .have w:∀a,BK s Z[i]? a->a≠l:=by
    rintro a m rfl;exact S.QR hi f m
   have kk:=b.ok i s hi;cases s with
   |any=>trivial
   |is p=>obtain⟨v,e,r⟩:=kk;exact⟨v,e,r.mono (Ap c _)⟩
   |own ys=>
    obtain⟨d,ws,e,j,g,n,r⟩:=kk;exact⟨d,ws,e,by rw[Ab (w d e)];exact j,g,n,r.mono (Ap c _)⟩
   |AF=>
    obtain⟨d,e,j,g,n⟩:=kk;exact⟨d,e,by rw[Ab (w d e)];exact j,g,n⟩
   |sq tp ys=>
    cases tp with
    |true=>obtain⟨v,e,r⟩:=kk;exact⟨v,e,r.mono (Ap c _)⟩
    |false=>obtain⟨d,ws,e,j,g,r⟩:=kk;exact⟨d,ws,e,j,g,r.mono (Ap c _)⟩
   |raw P=>obtain⟨v,e,r,st⟩:=kk;exact⟨v,e,st _ _ (Ap c _) r,st⟩
   |ow lt t=>
    obtain⟨v,e,r,nd,q⟩:=kk;exact⟨v,e,r.mono (Ap c _) λa _ o h=>h,nd,λa ha=>⟨by rw[Ab (w a ha)];exact(q a ha).1,(q a ha).2⟩⟩
  .by_cases q:a=l
   .subst q;exact .inr f
   .rw[Ab q]at e;exact m.nn a u e
 exact q _ _ _ _ fr (.lst AO (r.mono (Ap c _))) kk⟩
theorem Cb{k:Bool->List PV->Prop}(h:Wp ss te (λp=>∃xs,(p=.lst xs/\k false xs)∨(p=.tup xs/\k true xs))):Wq ss te k:=⟨λE Z F H Q S q=>h.go E Z F H Q S λv p F' H' m r AJ=>by
 obtain⟨xs,h⟩:=AJ;rcases h with⟨rfl,kk⟩|⟨rfl,kk⟩
 .cases r with|lst h r=>exact q _ false xs F' H' m ⟨_,_,rfl,m.st.xD h,m.st.fh _ _ h,r⟩ kk
 .exact q v true xs F' H' m r kk⟩
theorem PL{k:Bool->List PV->Prop}(h:ss[i]?=some (.is (.lst xs)))(hk:k false xs):Wq ss (BP i) k:=Cb (AK h ⟨xs,.inl ⟨rfl,hk⟩⟩)
theorem RZ{k:Bool->List PV->Prop}(h:ss[i]?=some (.is (.tup xs)))(hk:k true xs):Wq ss (BP i) k:=Cb (AK h ⟨xs,.inr ⟨rfl,hk⟩⟩)
theorem P0{k:Bool->List PV->Prop}(h:ss[i]?=some (.own xs))(hk:k false xs):Wq ss (BP i) k:=⟨λE Z F H Q S q=>by
 obtain⟨l,vs,e,c,b,a,r⟩:=S.ok i _ h;exact⟨_,e,q _ false xs F H (.refl S) ⟨l,vs,rfl,S.Lf h e (by simp),a,r⟩ hk⟩⟩
theorem Jf{k:Bool->List PV->Prop}(h:Wp ss te (λp=>∃xs,(p=.lst xs/\k false xs)∨(p=.tup xs/\k true xs))):Wz ss te k:=⟨λE Z F H Q S q=>h.go E Z F H Q S λv p F' H' m r AJ=>by
 obtain⟨xs,h⟩:=AJ;rcases h with⟨rfl,kk⟩|⟨rfl,kk⟩
 .cases r with|lst h r=>exact q _ false xs F' H' m ⟨_,_,rfl,.inl h,r⟩ kk
 .exact q _ true xs F' H' m r kk⟩
theorem ZI{f:Int->Int->Int}(h:Wp ss ta λx=>∃i,x=.int i/\Wp ss tb λy=>∃j,y=.int j/\k (.int (f i j))):Wp ss (Bn (Hj λi j=>.int (f i j)) ta tb) k:=⟨λE Z F H Q S q=>
 h.go E Z F H _ S λv p F1 H1 a c AJ=>by
  obtain⟨i,g,h2⟩:=AJ;subst g;cases c.inv;exact h2.go E Z F1 H1 _ a.st λl p2 F2 H2 d b D0=>by
   obtain⟨j,e,kk⟩:=D0;subst e;cases b.inv;exact⟨i,j,rfl,rfl,q _ _ F2 H2 (a.trans d) (.int _) kk⟩⟩
theorem Jr{f:Int->Int->Bool}(h:Wp ss ta λx=>∃i,x=.int i/\Wp ss tb λy=>∃j,y=.int j/\k (.bl (f i j))):Wp ss (Bn (Hj λi j=>.bl (f i j)) ta tb) k:=⟨λE Z F H Q S q=>
 h.go E Z F H _ S λv p F1 H1 a c AJ=>by
  obtain⟨i,g,h2⟩:=AJ;subst g;cases c.inv;exact h2.go E Z F1 H1 _ a.st λl p2 F2 H2 d b D0=>by
   obtain⟨j,e,kk⟩:=D0;subst e;cases b.inv;exact⟨i,j,rfl,rfl,q _ _ F2 H2 (a.trans d) (.bl _) kk⟩⟩
noncomputable def alike:PV->PV->Bool
 | .int i,.int j=>decide (i=j)
 | .str i,.str j=>decide (i=j)
 | .bl i,.bl j=>decide (i=j)
 | .A7,.A7=>true
 |_,_=>false
def Le(p q:PV):Bool:=flat p && flat q && UA (Fz.enc p) (Fz.enc q)
theorem dQ{q:PV}(h:Le p q=true):decide (Fz.enc p=Fz.enc q)=alike p q:=by
 unfold Le at h;rw[Ek,Ek]at h;obtain⟨⟨h1,h2⟩,a⟩:=h;cases p <;> first|exact Bool.noConfusion h1|skip
 all_goals cases q <;> first|exact Bool.noConfusion h2|exact Bool.noConfusion a|rfl|exact decide_eq_decide.mpr ⟨λe=>by injection e,oW _⟩
theorem wY(h:Wp ss ta λx=>Wp ss tb λy=>Le x y=true/\k (.bl (alike x y))):Wp ss (Bn dw ta tb) k:=⟨λE Z F H Q S q=>
 h.go E Z F H _ S λv p F1 H1 a c h2=>h2.go E Z F1 H1 _ a.st λf p2 F2 H2 d b AJ=>by
  obtain⟨sc,kk⟩:=AJ;have e:=sc;unfold Le at sc;rw[Ek,Ek]at sc;rw[c.enc sc.1.1,b.enc sc.1.2];refine⟨sc.2,?_⟩;rw[dQ e];exact q _ _ F2 H2 (a.trans d) (.bl _) kk⟩
theorem dU(h:Wp ss ta λx=>Wp ss tb λy=>Le x y=true/\k (.bl (!alike x y))):Wp ss (Bn eW ta tb) k:=⟨λE Z F H Q S q=>
 h.go E Z F H _ S λv p F1 H1 a c h2=>h2.go E Z F1 H1 _ a.st λf p2 F2 H2 d b AJ=>by
  obtain⟨sc,kk⟩:=AJ;have e:=sc;unfold Le at sc;rw[Ek,Ek]at sc;rw[c.enc sc.1.1,b.enc sc.1.2];refine⟨sc.2,?_⟩;rw[dQ e];exact q _ _ F2 H2 (a.trans d) (.bl _) kk⟩
theorem DB{k:Bool->Prop}(h:Wp ss te λx=>∃c,x=.bl c/\k c):Wt ss (MV te) k:=⟨λE Z F H Q S q=>
 h.go E Z F H _ S λv p F1 H1 b a AJ=>by obtain⟨c,e,kk⟩:=AJ;subst e;cases a.inv;exact⟨c,rfl,q _ F1 H1 b kk⟩⟩
theorem JQ{k:Bool->Prop}(h:Wp ss te λx=>∃c,x=.bl c/\k c):Wt ss (tB te) k:=⟨λE Z F H Q S q=>
 h.go E Z F H _ S λv p F1 H1 b a AJ=>by obtain⟨c,e,kk⟩:=AJ;subst e;cases a.inv;exact⟨c,rfl,q _ F1 H1 b kk⟩⟩
theorem iG{k:Bool->Prop}(h:k true):Wt ss Yh k:=⟨λE Z F H Q S q=>q _ F H (.refl S) h⟩
theorem Vj{t:TT}{k:Bool->Prop}(h:Wt ss t λc=>k (!c)):Wt ss (Rn t) k:=⟨λE Z F H Q S q=>h.go E Z F H _ S λc F1 H1 a kk=>q _ F1 H1 a kk⟩
theorem R0{t u:TT}{k:Bool->Prop}(h:Wt ss t λc=>if c=true then Wt ss u k else k false):Wt ss (U6 t u) k:=⟨λE Z F H Q S q=>
 h.go E Z F H _ S λc F1 H1 a h2=>by
  show if c=true then _ else _
  cases c with
  |true=>rw[kz rfl]at h2 ⊢;exact h2.go E Z F1 H1 _ a.st λd F2 H2 b kk=>q _ F2 H2 (a.trans b) kk
  |false=>rw[km (by decide)]at h2 ⊢;exact q _ F1 H1 a h2⟩
theorem Kc{t u:TT}{k:Bool->Prop}(h:Wt ss t λc=>if c=true then k true else Wt ss u k):Wt ss (WI t u) k:=⟨λE Z F H Q S q=>
 h.go E Z F H _ S λc F1 H1 a h2=>by
  show if c=true then _ else _
  cases c with
  |true=>rw[kz rfl]at h2 ⊢;exact q _ F1 H1 a h2
  |false=>rw[km (by decide)]at h2 ⊢;exact h2.go E Z F1 H1 _ a.st λd F2 H2 b kk=>q _ F2 H2 (a.trans b) kk⟩
end
structure We [Xw] (ss:List Slot) (t:TA) (k:List PV->Prop):Prop where
 go:∀(E:Ent)(Z:L2.St)(F H:Hp)(Q:List V->Hp->Prop),Sg E ss Z F H->(∀vs ps F' H',Mv E ss Z F H F' H'->AS F' vs ps->k ps->Q vs H')->t Z H Q
structure Wo [Xw] (ss:List Slot) (t:TO) (k:Option Int->Prop):Prop where
 go:∀(E:Ent)(Z:L2.St)(F H:Hp)(Q:Option Int->Hp->Prop),Sg E ss Z F H->(∀o F' H',Mv E ss Z F H F' H'->k o->Q o H')->t Z H Q
section
variable[Xw]
variable{K:ZEW}{k:PV->Prop}{R:Ai}
theorem IV{k:List PV->Prop}(h:k []):We ss BO k:=⟨λE Z F H Q S q=>q _ _ F H (.refl S) .nil h⟩
theorem Dl{k:List PV->Prop}(h:Wp ss te λp=>We ss t λps=>k (p::ps)):We ss (Al te t) k:=⟨λE Z F H Q S q=>
 h.go E Z F H _ S λv p F1 H1 b d h2=>h2.go E Z F1 H1 _ b.st λvs ps F2 H2 a c kk=>q _ _ F2 H2 (b.trans a) (.cons (d.mono a.ff) c) kk⟩
theorem Je{k:List Slot->Prop}(h:k []):Wa ss BO k:=⟨λE Z F H Q S q=>q _ _ F H (.refl S) .nil h⟩
theorem E8{k:List Slot->Prop}(h:Wp ss te λp=>Wa ss t λl=>k (.is p::l)):Wa ss (Al te t) k:=⟨λE Z F H Q S q=>
 h.go E Z F H _ S λv p F1 H1 b d h2=>h2.go E Z F1 H1 _ b.st λvs l F2 H2 a c kk=>q _ _ F2 H2 (b.trans a) (.cons (s:=.is p) (d.mono a.ff) c) kk⟩
theorem ZC4{k:Option Int->Prop}(h:k none):Wo ss YG k:=⟨λE Z F H Q S q=>q _ F H (.refl S) h⟩
theorem nW{k:Option Int->Prop}(h:Wp ss te λp=>∃i,p=.int i/\k (some i)):Wo ss (U5 te) k:=⟨λE Z F H Q S q=>
 h.go E Z F H _ S λv p F1 H1 b a AJ=>by obtain⟨i,e,kk⟩:=AJ;subst e;cases a.inv;exact⟨i,rfl,q _ F1 H1 b kk⟩⟩
theorem NA(h:n<=99999):n<sizeLine:=Cr (Nat.lt_succ_of_le h) (small (Ad 100000))
theorem Ji(h:We ss t λps=>ps.length<=100000/\k (.tup ps)):Wp ss (XI t) k:=⟨λE Z F H Q S q=>
 h.go E Z F H _ S λvs ps F1 H1 d b AJ=>by obtain⟨e,kk⟩:=AJ;exact⟨small (by rw[b.length];exact e),λa ha=>by
  have c:=d.st.alloc ha (.tup vs);exact q _ _ _ _ (d.trans c) (.tup AO (b.mono c.ff)) kk⟩⟩
theorem jC{k:List PV->Prop}(h:We ss t λps=>ps.length<=100000/\k ps):Wn ss (QZ t) k:=⟨λE Z F H Q S q=>
 h.go E Z F H _ S λvs ps F1 H1 b c AJ=>by obtain⟨f,kk⟩:=AJ;exact⟨small (by rw[c.length];exact f),λa ha=>by
  have d:=b.st.make ha (.lst vs);refine q a vs ps F1 _ (b.trans d) (b.st.Bd ha) ?_ AO c kk;cases e:H a with
  |none=>rfl
  |some o=>rw[b.hh a o (b.st.NQ ha) e]at ha;cases ha⟩⟩
theorem Fg(h:Wq ss te λ_ xs=>k (.int xs.length)):Wp ss (Ea (Vm K) (Al te BO)) k:=⟨λE Z F H Q S q=>
 h.go E Z F H _ S λv tp xs F1 H1 a b kk=>by
  obtain⟨l,vs,rfl,c,r⟩:=b.seq a.st;refine⟨l,vs,rfl,(BF.sq (K:=K) c).or,?_⟩;rw[r.length];exact q _ _ F1 H1 a (.int _) kk⟩
theorem AS.C2{i:Int}(r:AS F vs xs)(h:L2.C2 xs i=some p):∃u,L2.C2 vs i=some u/\Rep F u p:=by
 unfold L2.C2 at h ⊢;rw[r.length];cases e:Hb xs.length i with
 |none=>rw[e]at h;cases h
 |some j=>
  rw[e]at h;exact r.get h
theorem uz(h:Wq ss ta λtp xs=>tp=false/\Wp ss tb λy=>∃i p,y=.int i/\L2.C2 xs i=some p/\k p):Wp ss (Bn (TR K) ta tb) k:=⟨λE Z F H Q S q=>
 h.go E Z F H _ S λv tp xs F1 H1 b c⟨m,h2⟩=>h2.go E Z F1 H1 _ b.st λn p2 F2 H2 a f⟨i,p,e,ha,kk⟩=>by
  subst e;cases f.inv;subst m;obtain⟨l,vs,rfl,j,r⟩:=(c.mv a).seq a.st;obtain⟨u,g,d⟩:=r.C2 ha;exact⟨l,vs,i,u,rfl,rfl,AQ.of j,g,q _ _ F2 H2 (b.trans a) d kk⟩⟩
theorem Lx(h:Wq ss ta λtp xs=>tp=true/\Wp ss tb λy=>∃i p,y=.int i/\L2.C2 xs i=some p/\k p):Wp ss (Bn (J7 K) ta tb) k:=⟨λE Z F H Q S q=>
 h.go E Z F H _ S λv tp xs F1 H1 b c⟨m,h2⟩=>h2.go E Z F1 H1 _ b.st λn p2 F2 H2 a f⟨i,p,e,ha,kk⟩=>by
  subst e;cases f.inv;subst m;obtain⟨l,vs,rfl,j,r⟩:=(c.mv a).seq a.st;obtain⟨u,g,d⟩:=r.C2 ha;exact⟨l,vs,i,u,rfl,rfl,AD.of j,g,q _ _ F2 H2 (b.trans a) d kk⟩⟩
theorem lP(h:Wp ss ta λp=>∃x,p=.str x/\Wq ss tb λ_ ys=>∃ns:List Str,ys=ns.map PV.str/\k (.bl (if neg then !decide (x∈ns)else decide (x∈ns)))):Wp ss (Bn (I0 K neg) ta tb) k:=⟨λE Z F H Q S q=>
 h.go E Z F H _ S λv p F1 H1 b f AJ=>by
  obtain⟨x,e,h2⟩:=AJ;subst e;cases f.inv;exact h2.go E Z F1 H1 _ b.st λi tp ys F2 H2 a d D0=>by
   obtain⟨ns,g,kk⟩:=D0;subst g;obtain⟨l,vs,rfl,c,r⟩:=d.seq a.st;rw[r.strs]at c;refine⟨l,_,rfl,(BF.sq (K:=K) c).or,rfl,EJ ns,?_⟩;rw[IB];exact q _ _ F2 H2 (b.trans a) (.bl _) kk⟩
theorem PM{k:List PV->Prop}(e:r=λxs H Q=>∃p ys,xs=[.ref p]/\(AQ K H p ys∨AD K H p ys)/\∀l,H l=none->Q (.ref l) (upd H l (.lst ys)))(h:Wq ss te λ_ xs=>k xs):Wn ss (Ea r (Al te BO)) k:=⟨λE Z F H Q S q=>
 h.go E Z F H _ S λv tp xs F1 H1 b c kk=>by
  subst e;obtain⟨l,vs,rfl,f,r⟩:=c.seq b.st;refine⟨l,vs,rfl,(BF.sq (K:=K) f).or,λa ha=>?_⟩;have d:=b.st.make ha (.lst vs);exact q a vs xs F1 _ (b.trans d) (b.st.Bd ha) (b.none ha) AO r kk⟩
def Qr{α:Type}(xs:List α)(lo hi:Option Int):List α:=(xs.drop (HT.Aj xs.length 0 lo)).take (HT.Aj xs.length xs.length hi - HT.Aj xs.length 0 lo)
theorem AS.cut(r:AS F vs xs)(lo hi:Option Int):AS F (DT vs lo hi) (Qr xs lo hi):=by
 unfold DT Qr;rw[r.length];exact(r.drop _).take _
theorem ZA{k:List PV->Prop}{tl th:TO}(h:Wq ss te λtp xs=>tp=false/\Wo ss tl λlo=>Wo ss th λhi=>k (Qr xs lo hi)):Wn ss (Xp (fq K) te tl th) k:=⟨λE Z F H Q S q=>
 h.go E Z F H _ S λv tp xs F1 H1 d e⟨j,h2⟩=>h2.go E Z F1 H1 _ d.st λlo F2 H2 c i=>i.go E Z F2 H2 _ c.st λhi F3 H3 b kk=>by
  subst j;obtain⟨l,vs,rfl,g,r⟩:=(e.mv (c.trans b)).seq b.st;refine⟨l,vs,rfl,AQ.of g,λa ha=>?_⟩;have f:=b.st.make ha (.lst (DT vs lo hi));exact q a _ _ F3 _ (d.trans (c.trans (b.trans f))) (b.st.Bd ha) ((d.trans (c.trans b)).none ha) AO (r.cut lo hi) kk⟩
theorem tf(xs ys:List Str):Dv (xs.map V.str) (ys.map V.str)=decide (xs=ys):=by
 by_cases h:xs=ys
 .subst h;rw[ZCa,kc rfl]
 .rw[lx h]
  by_cases a:xs.length=ys.length
  .rw[Kt (by simpa using a)]
   cases c:(List.range (xs.map V.str).length).all λj=>DF ((xs.map V.str).getD j .A7) ((ys.map V.str).getD j .A7)with
   |false=>rfl
   |true=>
    exfalso;apply h;apply jY a;intro j h1 h2;have q:=List.all_eq_true.mp c j (List.mem_range.mpr (by simpa using h1))
    have e:(xs.map V.str)[j]?=some (.str xs[j]):=by rw[B1,Am h1];rfl
    have d:(ys.map V.str)[j]?=some (.str ys[j]):=by rw[B1,Am h2];rfl
    rw[Jc e,Jc d]at q;have b:(xs[j] == ys[j])=true:=q
    simpa using b
  .rw[LF (by simpa using a)]
theorem ZCM(h:Wq ss ta λtp xs=>∃ns:List Str,xs=ns.map PV.str/\Wq ss tb λCw ys=>Cw=tp/\∃a:List Str,ys=a.map PV.str/\k (.bl (if neg then !decide (ns=a)else decide (ns=a)))):Wp ss (Bn (QL K neg) ta tb) k:=⟨λE Z F H Q S q=>
 h.go E Z F H _ S λv tp xs F1 H1 d f⟨ns,m,h2⟩=>h2.go E Z F1 H1 _ d.st λn Cw ys F2 H2 b c⟨i,a,j,kk⟩=>by
  subst m;subst j;subst i;obtain⟨l,vs,rfl,e,r⟩:=(f.mv b).seq b.st;obtain⟨l2,Nz,rfl,EG,g⟩:=c.seq b.st;rw[r.strs]at e;rw[g.strs]at EG;refine⟨l,l2,ns.map V.str,a.map V.str,rfl,rfl,?_,EJ _,EJ _,?_⟩
  .cases Cw
   .exact .inl ⟨AQ.of e,AQ.of EG⟩
   .exact .inr ⟨AD.of e,AD.of EG⟩
  .rw[tf];cases neg
   .exact q _ _ F2 H2 (d.trans b) (.bl _) kk
   .exact q _ _ F2 H2 (d.trans b) (.bl _) kk⟩
theorem cY(d:r=λxs H Q=>∃(p:Addr)(bs:List Bool),xs=[.ref p]/\AQ K H p (bs.map V.bl)/\Q (.bl (bs.all id)) H)(h:Wq ss te λtp xs=>tp=false/\∃bs:List Bool,xs=bs.map PV.bl/\k (.bl (bs.all id))):Wp ss (Ea r (Al te BO)) k:=⟨λE Z F H Q S q=>
 h.go E Z F H _ S λv tp xs F1 H1 a c AJ=>by
  obtain⟨f,bs,e,kk⟩:=AJ;subst d;subst e;subst f;obtain⟨l,vs,rfl,b,r⟩:=c.seq a.st;rw[r.bls]at b;exact⟨l,bs,rfl,AQ.of b,q _ _ F1 H1 a (.bl _) kk⟩⟩
theorem vk(e:r=λxs H Q=>∃i j,xs=[.int i,.int j]/\Q (.int (if j > i then j else i)) H)(h:Wp ss ta λx=>∃i,x=.int i/\Wp ss tb λy=>∃j,y=.int j/\k (.int (if j > i then j else i))):Wp ss (Ea r (Al ta (Al tb BO))) k:=⟨λE Z F H Q S q=>
 h.go E Z F H _ S λv p F1 H1 a c AJ=>by
  obtain⟨i,g,h2⟩:=AJ;subst e;subst g;cases c.inv;exact h2.go E Z F1 H1 _ a.st λl p2 F2 H2 d b D0=>by
   obtain⟨j,f,kk⟩:=D0;subst f;cases b.inv;exact⟨i,j,rfl,q _ _ F2 H2 (a.trans d) (.int _) kk⟩⟩
theorem wK(e:r=λxs H Q=>∃i j,xs=[.int i,.int j]/\Q (.int (if j<i then j else i)) H)(h:Wp ss ta λx=>∃i,x=.int i/\Wp ss tb λy=>∃j,y=.int j/\k (.int (if j<i then j else i))):Wp ss (Ea r (Al ta (Al tb BO))) k:=⟨λE Z F H Q S q=>
 h.go E Z F H _ S λv p F1 H1 a c AJ=>by
  obtain⟨i,g,h2⟩:=AJ;subst e;subst g;cases c.inv;exact h2.go E Z F1 H1 _ a.st λl p2 F2 H2 d b D0=>by
   obtain⟨j,f,kk⟩:=D0;subst f;cases b.inv;exact⟨i,j,rfl,q _ _ F2 H2 (a.trans d) (.int _) kk⟩⟩
end
structure Src (E:Ent0) (F1:Hp) (J:It) (xs:List PV):Prop where
 go:∀(ss:List Slot)(Z:L2.St)(F H:Hp)(i:Nat),A8 F1 F->Sg E ss Z F H->i<xs.length->J.go i H
 stop:∀(ss:List Slot)(Z:L2.St)(F H:Hp),A8 F1 F->Sg E ss Z F H->J.stop xs.length H
 G4:∀(ss:List Slot)(Z:L2.St)(F H:Hp)(i:Nat)(x:V)(H':Hp),A8 F1 F->Sg E ss Z F H->i<xs.length->J.G4 i H x H'->∃p F',xs[i]?=some p/\Mv E ss Z F H F' H'/\Rep F' x p
structure Wi [Xw] (ss:List Slot) (wi:TI) (k:List PV->Prop):Prop where
 go:∀(E:Ent)(Z:L2.St)(F H:Hp)(R:It->Hp->Prop),Sg E ss Z F H->(∀J xs F' H',Mv E ss Z F H F' H'->Src E F' J xs->k xs->R J H')->wi Z H R
structure Wg [Xw] (ss:List Slot) (g:TG) (p:PV) (k:List Slot->Prop):Prop where
 go:∀(E:Ent)(Z:L2.St)(F H:Hp)(v:V)(Q:L2.St->Hp->Prop),Sg E ss Z F H->Rep F v p->(∀AG σ',k AG->Sg E AG σ' F H->Q σ' H)->g v Z H Q
section
variable[Xw]
variable{K:ZEW}{k:PV->Prop}{R:Ai}
theorem eM(h:∀(ss:List Slot)(Z:L2.St)(F H:Hp),A8 F' F->Sg E ss Z F H->H l=some (BF tp vs))(r:AS F' vs xs):Src E F' (Nb K tp l vs) xs where
 go:=λss Z F H i s S hi=>⟨BF.sq (h ss Z F H s S),by rw[r.length];exact hi⟩
 stop:=λss Z F H s S=>⟨BF.sq (h ss Z F H s S),by rw[r.length];exact Ad _⟩
 G4:=λss Z F H i x H' s S hi y=>by
  obtain⟨e,hx⟩:=y;subst e;obtain⟨p,b,a⟩:=r.get' hx;exact⟨p,F,b,.refl S,a.mono s⟩
theorem Lk{k:List PV->Prop}(h:Wz ss te λ_ xs=>k xs):Wi ss (Sh K te) k:=⟨λE Z F H R S q=>
 h.go E Z F H _ S λv tp xs F1 H1 a f kk=>by
  cases tp with
  |true=>
   have c:Rep F1 v (.tup xs):=f;cases c with
   |tup e r=>exact⟨true,_,_,rfl,AD.of (a.st.fh _ _ e),q _ _ F1 H1 a (eM (tp:=true) (λss Z F H s S=>S.fh _ _ (s _ _ e)) r) kk⟩
  |false=>
   obtain⟨l,vs,rfl,h1,r⟩:=f;have b:∀(ss:List Slot)(Z:L2.St)(F H:Hp),A8 F1 F->Sg E ss Z F H->H l=some (.lst vs):=λss Z F H s S=>by
    rcases h1 with h1|⟨hA,h1⟩
    .exact S.fh _ _ (s _ _ h1)
    .exact S.keep _ _ hA h1
   exact⟨false,l,vs,rfl,AQ.of (b ss Z F1 H1 (A8.refl _) a.st),q _ _ F1 H1 a (eM (tp:=false) b r) kk⟩⟩
def KZ(n:Nat):List PV:=(List.range n).map λi:Nat=>PV.int (i:Int)
theorem O5(n:Nat):(KZ n).length=n:=by simp[KZ]
theorem vy(h:(KZ n)[i]?=some p):i<n/\p=.int (i:Int):=by
 have hi:i<n:=by have:=(List.getElem?_eq_some_iff.mp h).1;rwa [O5]at this
 unfold KZ at h;rw[B1,SS hi]at h;exact⟨hi,(BE h).symm⟩
theorem vV{k:List PV->Prop}(h:Wp ss te λp=>∃j:Int,p=.int j/\j<=1000000/\-1000000<=j/\k (KZ j.toNat)):Wi ss (Xh (Al te BO)) k:=⟨λE Z F H R S q=>
 h.go E Z F H _ S λv p F1 H1 a r AJ=>by
  obtain⟨j,e,h1,h2,kk⟩:=AJ;subst e;cases r.inv;refine⟨j,rfl,by omega,by omega,q _ (KZ j.toNat) F1 H1 a ⟨λss Z F H i s S hi=>?_,λss Z F H s S=>?_,λss Z F H i x H' s S hi y=>?_⟩ kk⟩
  .rw[O5]at hi;exact hi
  .show _<=_;rw[O5];exact Ad _
  .obtain⟨e,hx⟩:=y;subst e;subst hx;rw[O5]at hi;refine⟨.int (i:Int),F,?_,.refl S,?_⟩
   .unfold KZ;rw[B1,SS hi];rfl
   .rw[Int.zero_add];exact .int _⟩
theorem Mc{k:List Slot->Prop}(h:k (ss.set j (.is p))):Wg ss (Dr j) p k:=⟨λE Z F H v Q S r q=>q _ _ h (S.Jb r)⟩
theorem R9{k:List Slot->Prop}(h:∃a b,p=.tup [a,b]/\k ((ss.set i (.is a)).set j (.is b))):Wg ss (VO K 2 (Qn (Dr i) (Qn (Dr j) X4))) p k:=⟨λE Z F H v Q S r q=>by
 obtain⟨a,b,rfl,kk⟩:=h;obtain⟨_,_,rfl,e,r⟩:=r.inv;obtain⟨_,_,rfl,d,r⟩:=r.inv;obtain⟨_,_,rfl,c,r⟩:=r.inv;obtain rfl:=r.Cy;exact⟨_,_,rfl,AD.of (S.fh _ _ e),rfl,_,_,rfl,_,_,rfl,rfl,q _ _ kk ((S.Jb d).Jb c)⟩⟩
theorem Aq{t:TS}(h:Ws ss t (λAG=>Ws AG u nx R) R):Ws ss (Mw t u) nx R:=⟨λE D Z F H S hn a=>
 h.go E { D with nx:=u D } Z F H S (λAG σ' F' H' w S' s=>w.go E D σ' F' H' S' (λDD σ2 F2 H2 n2 S2 s2=>hn DD σ2 F2 H2 n2 S2 (s.trans s2)) a) a⟩
theorem Gn{t:TS}(h:Ws ss t nx R):Ws ss (Xg t) nx R:=⟨λE D Z F H S hn a=>⟨D.nx,h.go E { D with nx:=D.nx } Z F H S hn a,λ_ _ q=>q⟩⟩
theorem Ws.mono{t:TS}(h:Ws ss t nx R)(i:∀s,nx s->RB s):Ws ss t RB R:=⟨λE D Z F H S hn a=>h.go E D Z F H S (λAG σ' F' H' n=>hn AG σ' F' H' (i _ n)) a⟩
theorem ZA9{t:TS}(J:List Slot->Prop)(h:Ws ss t J R)(h2:∀AG,J AG->Ws AG u nx R):Ws ss (Mw t u) nx R:=Aq (h.mono h2)
theorem Hr(h:Wp ss te λp=>nx (ss.set i (.is p))):Ws ss (G9 te (Dr i)) nx R:=⟨λE D Z F H S hn b=>
 h.go E Z F H _ S λv p F1 H1 a r kk=>hn _ _ F1 H1 kk (a.st.Jb r) a.ff⟩
theorem yY(h:Wp ss te λp=>Wg ss g p nx):Ws ss (G9 te g) nx R:=⟨λE D Z F H S hn b=>
 h.go E Z F H _ S λv p F1 H1 a r kk=>kk.go E Z F1 H1 v _ a.st r λAG σ' n S'=>hn _ _ F1 H1 n S' a.ff⟩
theorem NZ(h:Wn ss te λxs=>nx (ss.set i (.own xs))):Ws ss (G9 te (Dr i)) nx R:=⟨λE D Z F H S hn k=>
 h.go E Z F H _ S λl vs xs F1 H1 a f b IQ r kk=>hn _ _ F1 H1 kk (a.st.setG ⟨l,vs,rfl,f,S.ES b,IQ,r⟩ λg e j u _ d c=>by cases e;exact S.QR d b c) a.ff⟩
theorem HE(h:Wp ss te k):Ws ss (Jm te) nx (.is k):=⟨λE D Z F H S hn b=>
 h.go E Z F H _ S λv p F1 H1 a r kk=>b v F1 H1 a.st.toFin ⟨p,r,kk⟩⟩
theorem DH{c:TT}{t:TS}(h:Wt ss c λb=>if b=true then Ws ss t nx R else Ws ss u nx R):Ws ss (P7 c t u) nx R:=⟨λE D Z F H S hn d=>
 h.go E Z F H _ S λb F1 H1 a w=>by
  show if b=true then _ else _
  cases b with
  |true=>rw[kz rfl]at w ⊢;exact w.go E D Z F1 H1 a.st (λDD σ2 F2 H2 n S2 s2=>hn DD σ2 F2 H2 n S2 (a.ff.trans s2)) d
  |false=>rw[km (by decide)]at w ⊢;exact w.go E D Z F1 H1 a.st (λDD σ2 F2 H2 n S2 s2=>hn DD σ2 F2 H2 n S2 (a.ff.trans s2)) d⟩
theorem Ar(h:nx ss):Ws ss Tq nx R:=⟨λE D Z F H S hn a=>hn ss Z F H h S (A8.refl _)⟩
theorem vQ(h:Wp ss te λ_=>nx ss):Ws ss (HG te) nx R:=⟨λE D Z F H S hn b=>
 h.go E Z F H _ S λv p F1 H1 a r kk=>hn ss Z F1 H1 kk a.st a.ff⟩
theorem Sg.drop(S:Sg E ss Z F H)(i:Nat):Sg E (ss.set i .any) Z F H:=by
 have b:∀(j:Nat)u,(ss.set i .any)[j]?=some u->u=.any∨ss[j]?=some u:=λj u a=>by
  by_cases q:j=i
  .subst q;have e:j<ss.length:=by have:=(List.getElem?_eq_some_iff.mp a).1;simpa using this
   rw[CH e]at a;exact .inl (BE a).symm
  .rw[C4 (B0 q)]at a;exact .inr a
 refine⟨S.toFin,by rw[Hw];exact S.len,λj u a=>?_,λj k u w l Qs a hk d c=>?_⟩
 .rcases b j u a with rfl|h
  .trivial
  .exact S.ok j u h
 .rcases b j u a with rfl|h
  .cases d
  .rcases b k w hk with rfl|h2
   .cases c
   .exact S.Bb j k u w l Qs h h2 d c
theorem Ru(e:Z[i]?=some (some v)):Z.set i (some v)=Z:=by
 apply Yr;intro j
 by_cases q:j=i
 .subst q;rw[CH (List.getElem?_eq_some_iff.mp e).1,e]
 .rw[C4 (B0 q)]
theorem Sg.Xj(S:Sg E ss Z F H)(g:F a=none)(c:E.H0 a=none∨a∈E.B)(hn:∀(i:Nat)s,ss[i]?=some s->¬ BK s Z[i]? a):Sg E ss Z F (upd H a o):=by
 have hb:∀b u,b≠a->H b=some u->upd H a o b=some u:=λb u h e=>by rw[Ab h];exact e
 refine⟨⟨λb u e=>?_,S.f0,λb u d e=>?_,S.fresh,λb d=>?_,S.Ja,S.a0,S.bF,λb f=>?_,S.b0⟩,S.len,λi s hi=>?_,S.Bb⟩
 .exact hb b u (Eb e g) (S.fh b u e)
 .refine hb b u ?_ (S.keep b u d e);rintro rfl;rcases c with c|c
  .rw[c]at e;cases e
  .exact d.2 c
 .refine BU.keep (S.DV b d) λu e=>hb b u ?_ e;rintro rfl;rcases c with c|c
  .exact S.a0 _ d c
  .exact(S.b0 _ c).2 d
 .by_cases q:b=a
  .subst q;rw[AO];simp
  .rw[Ab q];exact S.bH b f
 .by_cases np:s=.AF
  .subst np;obtain⟨l,e,n,k,j⟩:=S.ok i _ hi;exact⟨l,e,n,k,BU.keep j λu h=>hb l u (by rintro rfl;exact hn i _ hi e) h⟩
  .exact Ok.go S hi (A8.refl _) (λb u m h=>hb b u (by rintro rfl;exact hn i _ hi m) h) (λ_ _ h=>h) np
theorem Sg.put(S:Sg E ss Z F H){ys:List PV}(hi:ss[i]?=some (.own xs))(e:Z[i]?=some (some (.ref l)))(f:F l=none)(d:E.H0 l=none)(r:AS F Bf ys):Sg E (ss.set i (.own ys)) Z F (upd H l (.lst Bf)):=by
 have a:∀(j:Nat)s,(ss.set i .any)[j]?=some s->¬ BK s Z[j]? l:=λj s b c=>by
  by_cases q:j=i
  .subst q;have p:j<ss.length:=(List.getElem?_eq_some_iff.mp hi).1;rw[CH p]at b;cases b;cases c
  .rw[C4 (B0 q)]at b;exact S.Bb j i s _ l q b hi c e
 have n:=(S.drop i).Xj (o:=.lst Bf) f (.inl d) a;have g:=n.setG (j:=i) (s:=.own ys) (v:=.ref l) ⟨l,Bf,rfl,f,d,AO,r⟩ λt m j u b k h=>by cases m;exact a j u k h
 rw[Ru e,Yz]at g;exact g
theorem bP(hi:ss[i]?=some (.own xs))(h:Wp ss te λp=>xs.length<=99999/\nx (ss.set i (.own (xs++[p])))):Ws ss (HG (Np K "list" SA (BP i) (Al te BO))) nx R:=⟨λE D Z F H S hn k=>by
 obtain⟨l,vs,e,n,m,g,r⟩:=S.ok i _ hi;refine⟨_,e,.inl ⟨rfl,_,AQ.of g⟩,h.go E Z F H _ S λv p F1 H1 a d⟨f,kk⟩=>?_⟩;obtain⟨j,Bf,c,De,C5,Lu,b⟩:=a.st.ok i _ hi;rw[e]at c;cases c;refine⟨l,Bf,v,rfl,rfl,Lu,NA (by rw[b.length];exact f),?_⟩;exact hn _ Z F1 _ kk (a.st.put hi e De C5 (b.append (.one d))) a.ff⟩
noncomputable def CO(F H:Hp)(as:List Addr):Hp:=λa=>if a∈as then H a else F a
theorem Sg.lay(S:Sg E ss Z F H)(as:List Addr)(d:∀a∈as,F a=none/\E.H0 a=none/\H a≠none)(hn:∀a∈as,∀(i:Nat)s,ss[i]?=some s->¬ BK s Z[i]? a):Sg E ss Z (CO F H as) H/\A8 F (CO F H as):=by
 have k:∀a,a∈as->CO F H as a=H a:=λa h=>kz h;have f:∀a,a∉as->CO F H as a=F a:=λa h=>km h;have ff:A8 F (CO F H as):=λa o e=>by
  by_cases q:a∈as
  .rw[(d a q).1]at e;cases e
  .rw[f a q];exact e
 have c:∀a,a∉as->F a=none->CO F H as a=none:=λa q h=>by rw[f a q];exact h
 refine⟨⟨⟨λa o e=>?_,S.f0.trans ff,S.keep,λa o e=>?_,S.DV,λa j=>?_,S.a0,λa g=>?_,S.bH,S.b0⟩,S.len,λi s hi=>?_,S.Bb⟩,ff⟩
 .by_cases q:a∈as
  .rw[k a q]at e;exact e
  .rw[f a q]at e;exact S.fh a o e
 .by_cases q:a∈as
  .exact .inr (d a q).2.1
  .rw[f a q]at e;exact S.fresh a o e
 .exact c a (λq=>S.a0 a j (d a q).2.1) (S.Ja a j)
 .exact c a (λq=>(S.b0 a g).1 (d a q).2.1) (S.bF a g)
 .have no:∀a,BK s Z[i]? a->a∉as:=λa m q=>hn a q i s hi m;have kk:=S.ok i s hi;cases s with
  |any=>trivial
  |is p=>obtain⟨v,e,r⟩:=kk;exact⟨v,e,r.mono ff⟩
  |own ys=>
   obtain⟨b,ws,q,q1,q2,q3,r⟩:=kk;exact⟨b,ws,q,c b (no b q) q1,q2,q3,r.mono ff⟩
  |AF=>
   obtain⟨b,q,q1,q2,q3⟩:=kk;exact⟨b,q,c b (no b q) q1,q2,q3⟩
  |sq tp ys=>
   cases tp with
   |true=>obtain⟨v,e,r⟩:=kk;exact⟨v,e,r.mono ff⟩
   |false=>obtain⟨b,ws,q,q1,q2,r⟩:=kk;exact⟨b,ws,q,q1,q2,r.mono ff⟩
  |raw P=>obtain⟨v,e,r,st⟩:=kk;exact⟨v,e,st _ _ ff r,st⟩
  |ow lt t=>
   obtain⟨v,e,r,nd,q⟩:=kk;exact⟨v,e,r.mono ff λa _ o h=>h,nd,λa ha=>⟨c a (no a ha) (q a ha).1,(q a ha).2⟩⟩
theorem Mu{t:TS}(i:Nat)(hi:ss[i]?=some (.own xs))(h:Ws (ss.set i (.is (.lst xs))) t nx R):Ws ss t nx R:=⟨λE D Z F H S hn g=>by
 obtain⟨l,vs,e,o,k,f,r⟩:=S.ok i _ hi;have one:∀a,a∈[l]->a=l:=λa h=>by simpa using h
 obtain⟨S1,d⟩:=(S.drop i).lay [l] (λa h=>by rw[one a h,f];exact⟨o,k,by simp⟩) λa h j s b m=>by
  rw[one a h]at m
  by_cases q:j=i
  .subst q;rw[CH (List.getElem?_eq_some_iff.mp hi).1]at b;cases b;cases m
  .rw[C4 (B0 q)]at b;exact S.Bb j i s _ l q b hi m e
 have c:=S1.Jb (j:=i) (v:=.ref l) (p:=.lst xs) (.lst (by unfold CO;rw[kz (by simp)];exact f) (r.mono d));rw[Ru e,Yz]at c;exact h.go E D Z _ H c (λDD σ2 F2 H2 n c s2=>hn DD σ2 F2 H2 n c (d.trans s2)) g⟩
theorem Jk{tb:TS}(I:List PV->Nat->List Slot->Prop)(h:Wi ss wi λxs=>I xs 0 ss/\(∀(i:Nat)p AG,xs[i]?=some p->I xs i AG->Wg AG g p λDD=>Ws DD tb (I xs (i+1)) R)/\∀AG,I xs xs.length AG->nx AG):Ws ss (T1 wi g tb) nx R:=⟨λE D Z F H S hn v=>
 h.go E Z F H _ S λJ xs F1 H1 k d AJ=>by
  obtain⟨t,u,hd⟩:=AJ;refine⟨λi m σ' H'=>m=xs.length - i/\i<=xs.length/\∃AG F',I xs i AG/\Sg E AG σ' F' H'/\A8 F1 F',⟨_,rfl,C1 _,ss,F1,t,k.st,A8.refl _⟩,?_⟩;rintro i m σ' H'⟨rfl,hi,AG,F',l,S',s'⟩
  by_cases f:i<xs.length
  .refine .inr ⟨d.go AG σ' F' H' i s' S' f,λσ2 H2=>∃DD F2,I xs (i+1) DD/\Sg E DD σ2 F2 H2/\A8 F1 F2,λσ2 H2 D0=>by obtain⟨DD,F2,a,b,c⟩:=D0;exact⟨_,by omega,rfl,f,DD,F2,a,b,c⟩,λx H3 y=>?_⟩;obtain⟨p,F3,z,j,q⟩:=d.G4 AG σ' F' H' i x H3 s' S' f y;refine(u i p AG z l).go E σ' F3 H3 x _ j.st q λn σ4 w S4=>?_;exact w.go E _ σ4 F3 H3 S4 (λs σ5 F5 H5 r S5 o=>⟨s,F5,r,S5,(s'.trans j.ff).trans o⟩) v
  .have e:i=xs.length:=by omega
   subst e;exact .inl ⟨d.stop AG σ' F' H' s' S',hn AG σ' F' H' (hd AG l) S' (k.ff.trans s')⟩⟩
end
def Dc(js:List Nat)(ss:List Slot):List Slot:=js.map λj=>(ss[j]?).getD .any
def Xm(js:List Nat)(ss:List Slot):Bool:=js.all λj=>match ss[j]? with
 |some .AF=>false
 |_=>true
section
variable[Xw]
variable{K:ZEW}{js:List Nat}
theorem oN(h:js[i]?=some j)(e:(Dc js ss)[i]?=some s):s=(ss[j]?).getD .any:=by
 unfold Dc at e;rw[B1,h]at e;exact(BE e).symm
theorem Sg.Ao(S:Sg E ss Z F H)(nd:js.Nodup)(r:AS F vs ps):Sg E (Dc js ss++ps.map .is) (Bc js Z++vs.map some) F H:=by
 have d:(Dc js ss).length=js.length:=by simp[Dc]
 have f:(Bc js Z).length=js.length:=by simp[Bc]
 have h:∀(i:Nat)(hi:i<js.length),(Dc js ss++ps.map .is)[i]?=some ((ss[js[i]]?).getD .any)/\(Bc js Z++vs.map some)[i]?=some ((Z[js[i]]?).join):=λi hi=>by
  rw[EN (by rw[d];exact hi),EN (by rw[f];exact hi)];unfold Dc Bc;rw[B1,B1,Am hi];exact⟨rfl,rfl⟩
 have c:∀(i:Nat)s,js.length<=i->(Dc js ss++ps.map .is)[i]?=some s->∃p v,s=.is p/\(Bc js Z++vs.map some)[i]?=some (some v)/\Rep F v p:=λi s hi e=>by
  rw[Fj (by rw[d];exact hi),d,B1]at e;rw[Fj (by rw[f];exact hi),f,B1];cases q:ps[i - js.length]? with
  |none=>rw[q]at e;cases e
  |some p=>
   rw[q]at e;obtain⟨v,hv,g⟩:=r.get q;rw[hv];exact⟨p,v,(BE e).symm,rfl,g⟩
 have D:∀(s:Slot)(m:Nat)(l:Addr),BK s (some (Z[m]?).join) l->BK s Z[m]? l:=λs m l o=>by
  have n:∀l,some (Z[m]?).join=some (some (V.ref l))->Z[m]?=some (some (.ref l)):=λl e=>by
   cases q:Z[m]? with
   |none=>rw[q]at e;cases e
   |some o=>rw[q]at e;cases o with
    |none=>cases e
    |some v=>simpa using e
  cases s with
  |own xs=>exact n l o
  |AF=>exact n l o
  |ow lt t=>exact o
  |_=>exact o
 have k:∀(i:Nat)s l,(Dc js ss++ps.map .is)[i]?=some s->BK s (Bc js Z++vs.map some)[i]? l->∃hi:i<js.length,ss[js[i]]?=some s/\BK s Z[js[i]]? l:=λi s l e m=>by
  by_cases hi:i<js.length
  .rw[(h i hi).2]at m;refine⟨hi,?_,D s _ l m⟩;rw[(h i hi).1]at e;cases q:ss[js[i]]? with
   |none=>rw[q]at e;cases e;cases m
   |some u=>rw[q]at e;exact e
  .obtain⟨p,v,rfl,_⟩:=c i s (by omega) e;cases m
 refine⟨S.toFin,?_,λi s e=>?_,λi j s u l Fb hi C B A=>?_⟩
 .rw[C0,C0,d,f,AW,AW,r.length]
 .by_cases hi:i<js.length
  .obtain⟨a,b⟩:=h i hi;rw[a]at e;rw[b];cases q:ss[js[i]]? with
   |none=>rw[q]at e;cases e;trivial
   |some u=>
    rw[q]at e;have G:u=s:=BE e;subst G;have kk:=S.ok _ _ q;cases u with
    |any=>trivial
    |is p=>obtain⟨v,e,r⟩:=kk;rw[e];exact⟨v,rfl,r⟩
    |own xs=>obtain⟨l,vs,e,r⟩:=kk;rw[e];exact⟨l,vs,rfl,r⟩
    |AF=>obtain⟨l,e,r⟩:=kk;rw[e];exact⟨l,rfl,r⟩
    |sq tp xs=>
     cases tp with
     |true=>obtain⟨v,e,r⟩:=kk;rw[e];exact⟨v,rfl,r⟩
     |false=>obtain⟨l,vs,e,r⟩:=kk;rw[e];exact⟨l,vs,rfl,r⟩
    |raw P=>obtain⟨v,e,r⟩:=kk;rw[e];exact⟨v,rfl,r⟩
    |ow lt t=>obtain⟨v,e,r⟩:=kk;rw[e];exact⟨v,rfl,r⟩
  .obtain⟨p,v,rfl,hv,g⟩:=c i s (by omega) e;rw[hv];exact⟨v,rfl,g⟩
 .obtain⟨J,x,z⟩:=k i s l hi B;obtain⟨I,w,y⟩:=k j u l C A;refine S.Bb js[i] js[j] s u l (λe=>Fb ?_) x w z y;exact(Mm nd).mp e
theorem Mv.out(S:Sg E ss Z F H)(np:Xm js ss=true)(m:Mv E (Dc js ss++ps.map .is) τ F H F' H'):Mv E ss Z F H F' H':=by
 have nn:∀a,D1 (Dc js ss++ps.map .is) τ a:=λa i hi _=>by
  by_cases h:i<(Dc js ss).length
  .rw[EN h]at hi;have b:i<js.length:=by simpa[Dc]using h
   have q:=oN (Am b) hi;have z:=List.all_eq_true.mp np js[i] (Gx b);cases w:ss[js[i]]? with
   |none=>rw[w]at q;cases q
   |some u=>rw[w]at q z;cases q;cases z
  .rw[Fj (by omega),B1]at hi;cases w:ps[i - (Dc js ss).length]? with
   |none=>rw[w]at hi;cases hi
   |some p=>rw[w]at hi;cases hi
 have hk:∀a o,H a=some o->H' a=some o:=λa o e=>m.hh a o (nn a) e;exact S.step m.ff m.st.fh (λa o _ e=>hk a o e) m.nn λi l hi e=>BU.keep (S.EF hi e) λo e=>hk l o e
theorem dF{tt:TT}{k:List PV->Prop}(f:PV->Bool)(g:PV->PV)
  (h:Wi ss wi λxs=>xs.length<=100000/\(∀x∈xs,Wt (Dc js ss++[.is x]) tt λb=>b=f x)/\(∀x∈xs,f x=true->Wp (Dc js ss++[.is x]) te λp=>p=g x)/\k ((xs.filter f).map g))
  (nd:js.Nodup:=by decide) (np:Xm js ss=true:=by rfl):Wn ss (PH wi js tt te) k:=⟨λE Z F H Q S q=>
 h.go E Z F H _ S λJ xs F1 H1 d B⟨hz,Y,σ,kk⟩acc BB=>by
  have R:D1 ss Z acc:=d.st.NQ BB;have X:=d.st.ES BB;have U:∀(i:Nat)s,ss[i]?=some s->¬ BK s Z[i]? acc:=λi s hi=>d.st.QR hi BB;refine⟨λi m H2=>m=xs.length - i/\i<=xs.length/\∃F2 vs,Mv E ss Z F1 H1 F2 H2/\F2 acc=none/\H2 acc=some (.lst vs)/\AS F2 vs (((xs.take i).filter f).map g),⟨_,rfl,C1 _,F1,[],d.st.make BB _,d.st.Bd BB,AO,.nil⟩,?_⟩;rintro i m H2⟨rfl,hi,F2,vs,c,L,ha,t⟩
  by_cases r:i<xs.length
  .refine .inr ⟨B.go ss Z F2 H2 i c.ff c.st r,λx H3 y=>?_⟩;obtain⟨p,F3,G,u,I⟩:=B.G4 ss Z F2 H2 i x H3 c.ff c.st r y;have P:p∈xs:=Cq G;have VR:(xs.take (i+1))=xs.take i++[p]:=by
    have e2:xs[i]=p:=by rw[Am r]at G;exact BE G
    rw[Mp r,e2]
   have M:List.filter f (xs.take (i+1))=(xs.take i).filter f++(if f p=true then[p]else[]):=by
    rw[VR,Yt];congr 1
    by_cases j:f p=true <;> simp[j]
   have O:∀{F4:Hp},(∀a o,F4 a=some o->F2 a=some o∨H2 a=none)->F4 acc=none:=λ{F4}n=>by
    cases e:F4 acc with
    |none=>rfl
    |some o=>
     rcases n acc o e with w|w
     .rw[L]at w;cases w
     .rw[ha]at w;cases w
   have S3:=u.st.Ao (js:=js) nd (.one I);refine(Y p P).go E _ F3 H3 _ S3 λb F4 H4 D hb=>?_;have l:=u.trans (D.out (ps:=[p]) u.st np);show if b=true then _ else _
   rw[hb]
   by_cases j:f p=true
   .rw[kz j];have S4:=l.st.Ao (js:=js) nd (.one (I.mono (D.out (ps:=[p]) u.st np).ff));refine(σ p P j).go E _ F4 H4 _ S4 λw pw F5 H5 V K ew=>?_;have W:=D.out (ps:=[p]) u.st np;have C:=V.out (ps:=[p]) l.st np;have A:=l.trans C;have T:=A.hh acc _ R ha;have N:=O A.nn;have v:vs.length<=99999:=by
     rw[t.length,AW];have:=Oj f (xs.take i);rw[CI]at this;omega
    refine⟨vs,T,NA v,xs.length - (i+1),by omega,rfl,r,F5,vs++[w],?_,N,AO,?_⟩
    .have z:=c.trans A;refine⟨z.st.Xj N (.inl X) U,z.ff,λa o n e=>?_,z.nn⟩;rw[Ab (Eb e BB)];exact z.hh a o n e
    .rw[M,kz j,Dp];rw[ew]at K;exact(t.mono A.ff).append (.one K)
   .have YU:f p=false:=by simpa using j
    rw[YU,km (by decide)];refine⟨xs.length - (i+1),by omega,rfl,r,F4,vs,c.trans l,O l.nn,l.hh acc _ R ha,?_⟩;rw[M,km j,FC];exact t.mono l.ff
  .have e:i=xs.length:=by omega
   subst e;refine .inl ⟨B.stop ss Z F2 H2 c.ff c.st,q acc vs _ F2 H2 (d.trans c) L (d.none BB) ha ?_ kk⟩;rw[KG]at t;exact t⟩
end
abbrev Pre:=List Slot->Ai->Prop
def CG(pre:Pre):Sp:=λvs H Q _=>∃(ss:List Slot)(R:Ai)(F:Hp)(A:List Addr),pre ss R/\Sg (E3 A F H) ss (vs.map some) F H/\∀v F' H',Fin (E3 A F H) F' H'->R.ok (E3 A F H) F' H' v->Q v H'
section
variable[Xw]
variable{pre:Pre}{k:PV->Prop}
theorem II.at{l:List Slot}(h:II ss Z F H vs l):∀{i:Nat}{s:Slot},l[i]?=some s->∃v,vs[i]?=some v/\Av ss Z F H v s:=by
 induction h with
 |nil=>intro i s e;simp at e
 |cons a _ b=>
  intro i s e;cases i with
  |zero=>simp at e;subst e;exact⟨_,rfl,a⟩
  |succ i=>exact b (by simpa using e)
theorem II.len{l:List Slot}(h:II ss Z F H vs l):l.length=vs.length:=by
 induction h with
 |nil=>rfl
 |cons a _ b=>rw[Bw,Bw,b]
theorem Av.ok(S:Sg E ss Z F H)(a:Av ss Z F H v s)(b:∀l,D1 ss Z l->l∉A):Ok (E3 A F H) F H s (some (some v))/\∀o l,¬ BK s o l:=by
 cases s with
 |is p=>exact⟨⟨v,rfl,a⟩,λ_ _ z=>z⟩
 |sq tp xs=>
  cases tp with
  |true=>exact⟨⟨v,rfl,a⟩,λ_ _ z=>z⟩
  |false=>obtain⟨l,vs,rfl,n,h,r⟩:=a;exact⟨⟨l,vs,rfl,⟨b l n,Au⟩,h,r⟩,λ_ _ z=>z⟩
 |raw P=>exact⟨⟨v,rfl,a⟩,λ_ _ z=>z⟩
 |any=>exact a.elim
 |own xs=>exact a.elim
 |AF=>exact a.elim
 |ow lt t=>exact a.elim
theorem Sg.UY(S:Sg E ss Z F H){l:List Slot}(a:II ss Z F H vs l):Sg (E3 [] F H) l (vs.map some) F H:=by
 have nn:∀{p:Prop}(a:Addr),a∈([]:List Addr)->p:=λa h=>absurd h Au;refine⟨⟨S.fh,A8.refl _,λ_ _ _ e=>e,λ_ _ e=>.inl e,λa h=>nn a h,λa h=>nn a h,λa h=>nn a h,λa h=>nn a h,λa h=>nn a h,λa h=>nn a h⟩,by rw[AW];exact a.len,λi s hi=>?_,λi j s u l Fb hi d b c=>?_⟩
 .obtain⟨v,hv,q⟩:=a.at hi;rw[B1,hv];exact(q.ok S λ_ _ h=>absurd h Au).1
 .obtain⟨v,hv,q⟩:=a.at hi;exact(q.ok S (A:=[]) λ_ _ h=>absurd h Au).2 _ _ b
theorem Sg.back(S:Sg E ss Z F H)(b:∀a,a∈A->∃i:Nat,ss[i]?=some .AF/\Z[i]?=some (some (.ref a)))(f:Fin (E3 A F H) F' H'):Mv E ss Z F H F' H':=by
 refine S.step f.f0 f.fh (λa o n e=>f.keep a o ⟨λh=>?_,Au⟩ e) f.fresh λi l hi e=>?_
 .obtain⟨i,q1,q2⟩:=b a h;exact n i q1 q2
 .by_cases q:l∈A
  .exact f.DV l q
  .exact BU.keep (S.EF hi e) λo e=>f.keep l o ⟨q,Au⟩ e
theorem wp_call(h:Wa ss t λl=>∃k',pre l (.is k')/\∀p,k' p->k p):Wp ss (D3 (CG pre) [] E0 t) k:=⟨λE Z F H Q S q=>
 h.go E Z F H _ S λvs l F1 H1 b a⟨k',c,kk⟩=>by
  rw[FC];refine⟨l,.is k',F1,[],c,b.st.UY a,λv F' H' f⟨p,r,kp⟩=>?_⟩;exact q v p F' H' (b.trans (b.st.back (λ_ h=>absurd h Au) f)) r (kk p kp)⟩
theorem Sg.grown(S:Sg E ss Z F H)(n:Nat):Sg E (ss++List.replicate n .any) (Z++List.replicate n none) F H:=by
 have k:∀(i:Nat)s,(ss++List.replicate n .any)[i]?=some s->s≠.any->ss[i]?=some s/\(Z++List.replicate n none)[i]?=Z[i]?:=λi s e o=>by
  by_cases h:i<ss.length
  .rw[EN h]at e;rw[EN (by rw[<- S.len];exact h)];exact⟨e,rfl⟩
  .rw[Fj (by omega),jd]at e;split at e
   .exact absurd (BE e).symm o
   .cases e
 refine⟨S.toFin,by simp[S.len],λi s e=>?_,λi j s u l Fb hi p g f=>?_⟩
 .cases s with
  |any=>trivial
  |_=>obtain⟨a,b⟩:=k i _ e (by simp);rw[b];exact S.ok i _ a
 .have ns:s≠.any:=by rintro rfl;cases g
  have m:u≠.any:=by rintro rfl;cases f
  obtain⟨a,b⟩:=k i s hi ns;obtain⟨c,d⟩:=k j u p m;rw[b]at g;rw[d]at f;exact S.Bb i j s u l Fb a c g f
end
section
variable{pre:Pre}{k:PV->Prop}
def NT(E:Ent0):Ent:=⟨E,λ_ _ _ _ _ _ _ _ _ d=>d.elim⟩
theorem Kj{N:List Str}{t:TS}(h:CG pre vs H Q X)(c:∀ss R,pre ss R->ss.length=n)
  (hw:∀ss R,pre ss R->Ws (ss++List.replicate (N.length - n) .any) t (λ_=>∃k,R=.is k/\k .A7) R):t { nx:=λ_ H'=>Q .A7 H',rt:=Q } (L2.start N vs) H:=by
 obtain⟨ss,R,F,A,a,S,q⟩:=h;have e:vs.length=n:=by have:=S.len;rw[AW]at this;rw[<- this];exact c ss R a
 unfold L2.start;rw[e];refine(hw ss R a).go (NT (E3 A F H)) _ _ F H (S.grown _) (λAG σ' F' H'⟨k,e,b⟩S' _=>?_) λv F' H' f ok=>q v F' H' f ok;subst e;exact q .A7 F' H' S'.toFin ⟨.A7,.A7,b⟩
theorem Kx(b:∀ss R,pre ss R->ss.length=n)(h:CG pre vs H Q X):vs.length=n:=by
 obtain⟨ss,R,F,A,a,S,q⟩:=h;have:=S.len;rw[AW]at this;rw[<- this];exact b ss R a
end
end Fz
namespace Lw
open L2
variable{GK acc l ns ss:List Str}{r x:Str}{H H':Hp}{t:Addr}{g:Int}
theorem OI:∀l:List Nat,¬ l<l
 | [],h=>by simp at h
 |a::r,h=>by
  rw[Yp]at h;rcases h with h|⟨_,h⟩
  .omega
  .exact OI r h
theorem P8:∀{a b c:List Nat},a<b->b<c->a<c
 |_,[],_,h,_=>by simp at h
 |_,_::_,[],_,h=>by simp at h
 | [],_::_,_::_,_,_=>by simp
 |a::r,b::s,c::t,h,h'=>by
  rw[Yp]at h h' ⊢;rcases h with h|⟨rfl,h⟩
  .rcases h' with h'|⟨rfl,h'⟩
   .left;omega
   .left;exact h
  .rcases h' with h'|⟨rfl,h'⟩
   .left;exact h'
   .right;exact⟨rfl,P8 h h'⟩
theorem aB:∀a b:List Nat,a<b∨a=b∨b<a
 | [],[]=>.inr (.inl rfl)
 | [],_::_=>.inl (by simp)
 |_::_,[]=>.inr (.inr (by simp))
 |a::r,b::s=>by
  rw[Yp,Yp];rcases jq a b with h|rfl|h
  .exact .inl (.inl h)
  .rcases aB r s with h|rfl|h
   .exact .inl (.inr ⟨rfl,h⟩)
   .exact .inr (.inl rfl)
   .exact .inr (.inr (.inr ⟨rfl,h⟩))
  .exact .inr (.inr (.inl h))
abbrev IX(a b:Str):Prop:=a.cps.toList<b.cps.toList
theorem VW(a b:Str):IX a b∨a=b∨IX b a:=by
 rcases aB a.cps.toList b.cps.toList with h|h|h
 .exact .inl h
 .exact .inr (.inl (tK h))
 .exact .inr (.inr h)
abbrev Up(ss:List Str):Prop:=ss.Pairwise IX
theorem ZJ(h:Up ss):ss.Nodup:=by
 refine List.Pairwise.imp (λ{a b}(CM:IX a b)(e:a=b)=>?_) h;subst e;exact OI _ CM
theorem bb:∀(l:List Str)(p:Str),risingS p l=true->(∀x∈l,¬ IX x p)/\l.Pairwise λa b=>¬ IX b a
 | [],p,_=>⟨λx hx=>absurd hx (by simp),.nil⟩
 |y::r,p,h=>by
  have h1:(!ltCps y.cps.toList p.cps.toList && risingS y r)=true:=h;rw[Ek,ltCps_eq]at h1;have c:¬ IX y p:=by
   intro z;rw[kc z]at h1;exact absurd h1.1 (by decide)
  obtain⟨h2,d⟩:=bb r y h1.2;refine⟨λx hx=>?_,List.pairwise_cons.mpr ⟨λx hx=>h2 x hx,d⟩⟩;rcases List.mem_cons.mp hx with rfl|hx
  .exact c
  .intro z;rcases VW y p with q|q|q
   .exact c q
   .exact h2 x hx (q▸z)
   .exact h2 x hx (P8 z q)
theorem zt(h:sortedS l=true):l.Pairwise λa b=>¬ IX b a:=by
 cases l with
 |nil=>exact .nil
 |cons x r=>
  obtain⟨h1,h2⟩:=bb r x h;exact List.pairwise_cons.mpr ⟨h1,h2⟩
theorem Tf(h:sortedS l=true)(nd:l.Nodup):Up l:=by
 have w:=zt h;have q:=List.Pairwise.and w nd;refine q.imp λ{a b}CM=>?_;rcases VW a b with z|z|z
 .exact z
 .exact absurd z CM.2
 .exact absurd z CM.1
theorem Pn:∀{as bs:List Str},Up as->Up bs->(∀x,x∈as↔x∈bs)->as=bs
 | [],[],_,_,_=>rfl
 | [],b::bs,_,_,h=>absurd ((h b).mpr CJ) (by simp)
 |a::as,[],_,_,h=>absurd ((h a).mp CJ) (by simp)
 |a::as,b::bs,ha,hb,h=>by
  obtain⟨d,g⟩:=List.pairwise_cons.mp ha;obtain⟨c,f⟩:=List.pairwise_cons.mp hb;have e:a=b:=by
   rcases List.mem_cons.mp ((h a).mp CJ)with z|z
   .exact z
   .rcases List.mem_cons.mp ((h b).mpr CJ)with y|y
    .exact y.symm
    .exact absurd (P8 (d b y) (c a z)) (OI _)
  subst e
  congr 1
  refine Pn g f λx=>⟨λhx=>?_,λhx=>?_⟩
  .rcases List.mem_cons.mp ((h x).mp (Ca _ hx))with z|z
   .exact absurd (z▸d x hx) (OI _)
   .exact z
  .rcases List.mem_cons.mp ((h x).mpr (Ca _ hx))with z|z
   .exact absurd (z▸c x hx) (OI _)
   .exact z
theorem IP:∀{as bs:List Str},as.Nodup->(∀x∈as,x∈bs)->as.length<=bs.length
 | [],_,_,_=>C1 _
 |a::as,bs,nd,h=>by
  obtain⟨h1,h2⟩:=List.nodup_cons.mp nd;have ha:=h a CJ;have q:=IP (bs:=bs.erase a) h2 λx hx=>(jj (λe:x=a=>h1 (by rw[<- e];exact hx))).mpr (h x (Ca _ hx));have e:=jf ha;have p:=ZDG ha;simp only[Bw];omega
theorem gj:∀{as bs:List Str},as.Nodup->(∀x∈as,x∈bs)->bs.length=as.length->bs.Nodup
 | [],bs,_,_,hl=>by
  have e:bs=[]:=List.length_eq_zero_iff.mp (by simpa using hl)
  rw[e];exact LP
 |a::as,bs,nd,h,hl=>by
  obtain⟨h1,h2⟩:=List.nodup_cons.mp nd;have ha:=h a CJ;have c:bs.length=as.length+1:=by simpa using hl
  have sub:∀x∈as,x∈bs.erase a:=λx hx=>(jj (λe:x=a=>h1 (by rw[<- e];exact hx))).mpr (h x (Ca _ hx));have e:=jf ha;have q:=gj (bs:=bs.erase a) h2 sub (by omega);have p:=List.perm_cons_erase ha;rw[p.nodup_iff,List.nodup_cons];refine⟨λb=>?_,q⟩;have r:=IP (as:=a::as) (bs:=bs.erase a) nd λx hx=>by
   rcases List.mem_cons.mp hx with rfl|hx
   .exact b
   .exact sub x hx
  simp only[Bw]at r;omega
theorem zu{k:Str}:k∈Ei acc x↔k∈acc∨k=x:=by
 unfold Ei
 by_cases h:acc.any (· == x)=true
 .rw[kz h];refine⟨.inl,λq=>q.elim id λe=>?_⟩;obtain⟨y,a,b⟩:=List.any_eq_true.mp h;have:y=x:=by simpa using b
  rw[e,<- this];exact a
 .rw[km h];simp
theorem Wk:∀(l acc:List Str),acc.Nodup->(l.foldl Ei acc).Nodup/\∀k,k∈l.foldl Ei acc↔k∈acc∨k∈l
 | [],acc,h=>⟨h,λk=>by simp⟩
 |x::r,acc,h=>by
  have hn:(Ei acc x).Nodup:=by
   unfold Ei
   by_cases c:acc.any (· == x)=true
   .rw[kz c];exact h
   .rw[km c];exact M5 h λa=>c (List.any_eq_true.mpr ⟨x,a,by simp⟩)
  obtain⟨h1,h2⟩:=Wk r (Ei acc x) hn;refine⟨h1,λk=>?_⟩;rw[Yu,h2 k,zu,Cp,or_assoc]
theorem sO(ss:List Str):(dd ss).Nodup:=(Wk ss [] LP).1
theorem y3(ss:List Str)(k:Str):k∈dd ss↔k∈ss:=by
 have q:=(Wk ss [] LP).2 k;refine(show(k∈dd ss↔_)from q).trans ⟨λz=>z.elim (λy=>absurd y (by simp)) id,.inr⟩
theorem iH(l:List Str)(k:Str):l.any (· == k)=true↔k∈l:=by
 rw[ZD8];exact⟨λ⟨y,a,e⟩=>by
   have:y=k:=by simpa using e
   rw[<- this];exact a,λh=>⟨k,h,by simp⟩⟩
theorem si{ts:List Str}(d:ts.length=(dd ss).length)(b:∀k,(dd ss).any (· == k)=true↔k∈ts)(c:sortedS ts=true):(ss=ts)↔Up ss:=by
 have nd:ts.Nodup:=gj (sO ss) (λx hx=>(b x).mp ((iH _ _).mpr hx)) d;have a:=Tf c nd;constructor
 .rintro rfl;exact a
 .intro us;exact Pn us a λx=>by rw[<- b x,iH,y3]
theorem ZBP:∀(as bs:List Str),Dv (as.map V.str) (bs.map V.str)=decide (as=bs):=by
 intro as bs
 by_cases a:as.length=bs.length
 .rw[Kt (by simpa using a),Mh,Fi,decide_eq_true_iff]
  constructor
  .intro h;refine jY a λi h1 h2=>?_;have q:=h i (by simpa using h1)
   have b:(as.map V.str)[i]?=some (.str as[i]):=by rw[B1,Am h1];rfl
   have d:(bs.map V.str)[i]?=some (.str bs[i]):=by rw[B1,Am h2];rfl
   rw[Jc b,Jc d]at q;have c:(as[i] == bs[i])=true:=q
   simpa using c
  .rintro rfl i hi;have h1:i<as.length:=by simpa using hi
   have b:(as.map V.str)[i]?=some (.str as[i]):=by rw[B1,Am h1];rfl
   rw[Jc b];show(as[i] == as[i])=true;simp
 .rw[LF (by simpa using a),lx]
  rintro rfl;exact a rfl
noncomputable def Dk:List Str:=["none","ahead","all"]
noncomputable def Jz(ss:List Str):Bool:=decide (Up ss)
def Jv(ns ss:List Str):Bool:=ss.all λx=>decide (x∈ns)
noncomputable def KO(n:Nat)(g:Int):Bool:=decide (0<=g) && decide (g<=(n:Int))
def Eg(ns:List Str)(r:Str)(g:Int)(ss:List Str):Bool:=decide (r∈Dk) && (KO ns.length g && (Jz ss && Jv ns ss))
def bS(K:ZEW):Sp:=λvs H Q _=>∃(a:Addr)(tp:Bool)(ns:List Str)(g:Int),vs=[.ref a,.int g]/\CS K tp H a (ns.map V.str)/\Q (.bl (KO ns.length g)) H
def aX(K:ZEW):Sp:=λvs H Q _=>∃(a:Addr)(tp:Bool)(ns:List Str)(c:Addr)(ss:List Str),vs=[.ref a,.ref c]/\CS K tp H a (ns.map V.str)/\AD K H c (ss.map V.str)/\ss.length<64/\∀H',A8 H H'->Q (.bl (Jz ss && Jv ns ss)) H'
def LoopAt(K:ZEW)(H:Hp)(t:Addr)(r:Str)(g:Int)(ss:List Str):Prop:=∃c,AD K H t [.str r,.int g,.ref c]/\AD K H c (ss.map V.str)
theorem LoopAt.same{K:ZEW}(s:A8 H H')(h:LoopAt K H t r g ss):LoopAt K H' t r g ss:=by
 obtain⟨c,h1,h2⟩:=h;exact⟨c,s.Jl h1,s.Jl h2⟩
def ai(K:ZEW):Sp:=λvs H Q _=>∃(a:Addr)(tp:Bool)(ns:List Str)(t:Addr)(r:Str)(g:Int)(ss:List Str),vs=[.ref a,.ref t]/\CS K tp H a (ns.map V.str)/\LoopAt K H t r g ss/\ss.length<64/\∀H',A8 H H'->Q (.bl (Eg ns r g ss)) H'
theorem wH(ns ss:List Str):((ss.map V.str).filter λ_=>true).map (λv=>V.bl (Di v (ns.map V.str)))=(ss.map λx=>decide (x∈ns)).map V.bl:=by
 rw[iY,FD,FD];refine List.map_congr_left λx _=>?_;show V.bl _=V.bl _;rw[IB]
noncomputable def Jj(ss:List Str)(x:Str):Bool:=decide (x∈ss)
def Ey(ns:List Str)(g:Nat)(ss:List Str):List Str:=(ns.drop g).filter (Jj ss)++(ns.take g).filter (Jj ss)
theorem Pe{g:Nat}:x∈Ey ns g ss↔x∈ns/\x∈ss:=by
 unfold Ey;rw[GH,jk,jk];have e:(x∈ns)↔(x∈ns.take g∨x∈ns.drop g):=by
  rw[<- GH,LQ]
 unfold Jj;simp only[ZAC];rw[e];constructor
 .rintro(⟨a,b⟩|⟨a,b⟩)
  .exact⟨.inr a,b⟩
  .exact⟨.inl a,b⟩
 .rintro⟨a|a,b⟩
  .exact .inr ⟨a,b⟩
  .exact .inl ⟨a,b⟩
theorem rU(ns ss:List Str):((ns.map V.str).filter (λv=>Di v (ss.map V.str))).map (λv=>v)=(ns.filter (Jj ss)).map V.str:=by
 rw[List.map_id',jZ]
 congr 1
 apply ZD9;intro y _;show Di (.str y) (ss.map V.str)=Jj ss y;rw[IB];rfl
def Js(H:Hp)(t:Addr)(r:Str)(g:Int)(ss:List Str):Prop:=∃c,H t=some (.tup [.str r,.int g,.ref c])/\H c=some (.tup (ss.map V.str))
theorem Js.at{K:ZEW}(h:Js H t r g ss):LoopAt K H t r g ss:=by
 obtain⟨c,a,b⟩:=h;exact⟨c,AD.of a,AD.of b⟩
theorem Js.same(s:A8 H H')(h:Js H t r g ss):Js H' t r g ss:=by
 obtain⟨c,a,b⟩:=h;exact⟨c,s _ _ a,s _ _ b⟩
structure DG (ns:List Str) (r:Str) (g:Int) (ss:List Str):Prop where
 rule:r∈Dk
 g0:0<=g
 g1:g<=(ns.length:Int)
 up:Up ss
 sub:∀x∈ss,x∈ns
theorem DG.Eg(h:DG ns r g ss):Eg ns r g ss=true:=by
 unfold Lw.Eg KO Jz Jv;rw[kc h.rule,kc h.g0,kc h.g1,kc h.up,Mi,Mi,Mi,Mi,Fi];intro x hx;exact kc (h.sub x hx)
theorem Sl(x:Str)(h:Up ss):Up (wo ss x):=h.filter _
theorem DG.step(h:DG ns r g ss)(hx:x∈ns):DG ns r ((ns.idxOf x:Nat)+1) (wo ss x):=by
 have b:ns.idxOf x<ns.length:=List.idxOf_lt_length_iff.mpr hx;exact⟨h.rule,by omega,by omega,Sl x h.up,λy a=>h.sub y (FF.mp a).1⟩
def fV(K:ZEW):Sp:=λvs H Q _=>∃(a:Addr)(tp:Bool)(ns:List Str)(t:Addr)(r:Str)(g:Int)(ss:List Str),vs=[.ref a,.ref t]/\CS K tp H a (ns.map V.str)/\LoopAt K H t r g ss/\ns.length<=1000/\LD H Q (ns.filter (Jj ss))
def V5(K:ZEW):Sp:=λvs H Q _=>∃(a:Addr)(tp:Bool)(ns:List Str)(t:Addr)(r:Str)(g:Int)(ss:List Str),vs=[.ref a,.ref t]/\CS K tp H a (ns.map V.str)/\LoopAt K H t r g ss/\ss.length<64/\Eg ns r g ss=true/\∀H',A8 H H'->Q .A7 H'
def gL(K:ZEW):Sp:=λvs H Q _=>∃(a:Addr)(tp:Bool)(ns:List Str)(t:Addr)(r:Str)(g:Nat)(ss:List Str),vs=[.ref a,.ref t]/\H a=some (BF tp (ns.map V.str))/\LoopAt K H t r g ss/\ss.length<64/\Eg ns r g ss=true/\ns.length<=1000/\LD H Q (Ey ns g ss)
def Tu(K:ZEW):Sp:=λvs H Q _=>∃(c:Addr)(ss:List Str)(x:Str),vs=[.ref c,.str x]/\AD K H c (ss.map V.str)/\ss.length<=1000/\∀l H',H l=none->A8 H H'->H' l=some (.tup ((wo ss x).map V.str))->Q (.ref l) H'
def Ow(ns:List Str)(g:Nat)(ss:List Str):Option Str:=(Ey ns g ss).head?
def bK(ns:List Str)(g:Nat)(ss:List Str):Nat:=match Ow ns g ss with
 |none=>g
 |some x=>ns.idxOf x+1
def il(ns:List Str)(g:Nat)(ss:List Str):List Str:=match Ow ns g ss with
 |none=>ss
 |some x=>wo ss x
theorem gy:C2 ((x::GK).map V.str) 0=some (.str x):=O1 (by decide) rfl
structure Ent where
 a:Addr
 ns:List Str
 t:Addr
 r:Str
 g:Nat
 ss:List Str
end Lw
namespace L2
section
variable{X:Cx}
def ZCc(K:ZEW):R2:=λx y H Q=>∃a b xs ys,x=.ref a/\y=.ref b/\AD K H a xs/\AD K H b ys/\ys≠[]/\xs.length+ys.length<=sizeLine/\∀p H',A8 H H'->AD K H' p (xs++ys)->Q (.ref p) H'
theorem xA:BH X (binaryOp .Add) (ZCc X.K):=by
 intro Zi s Z H x y v u Q I g f h;obtain⟨a,b,xs,ys,rfl,rfl,ha,hb,m,l,q⟩:=h
 by_cases hx:xs=[]
 .subst hx;cases g;cases f;obtain⟨A3,j,k,_⟩:=I.tuple ha;obtain⟨Ba,t,p2,_⟩:=I.tuple hb;obtain⟨⟨cls,dd,data,sl⟩,ho,i,n,hd⟩:=id k;obtain⟨⟨r,Q7,d,JA⟩,FG,Kv,n2,c⟩:=id p2;simp only at i hd Kv c;subst i hd Kv c;have e:A3=[]:=j.Rz.mpr rfl;exact concat_meets ⟨_,ho,rfl⟩ ⟨_,FG,rfl⟩ ZAF seq_tuple_add jz jx (jw _ _)
   (tuple_addW0 a b A3.toArray Ba.toArray n n2 dd Q7 sl JA (by simp[e])) ⟨ho,FG,⟨.ref b,H,I,rfl,q b H (A8.refl _) hb⟩⟩
 .exact sH Zi s Z H _ _ _ _ Q I g f ⟨a,b,xs,ys,rfl,rfl,ha,hb,hx,l,λe=>absurd e m,λ_ p o=>q p _ (Ap o _) (AD.of AO)⟩
end
end L2
namespace Lw
open L2
variable{ns rs ss:List Str}{r x:Str}{g i:Nat}{d:AY}
def GR(i g:Nat):Nat:=if i<g then g+1 else g
def Gq(p g:Nat):Nat:=if p<g then g - 1 else g
def AY.gap(ns:List Str)(g:Nat):AY->Nat
 | .put _ i=>GR i g
 | .take x=>Gq (ns.idxOf x) g
 | .move x i=>GR i (Gq (ns.idxOf x) g)
 | .turn _ _=>g
def EV:List Str->Str->List Str
 | [],x=>[x]
 |y::r,x=>if IX x y then x::y::r else y::EV r x
def Ep(r:Str)(g i:Nat):Bool:=if decide (V.str r=V.str "all")=true then true else if decide (V.str r=V.str "ahead")=true then decide ((g:Int)<=(i:Int))else false
def AY.Fp(r:Str)(g:Nat)(ss:List Str):AY->List Str
 | .put x i=>if Ep r g i=true then EV ss x else ss
 | .take x=>wo ss x
 | .move _ _=>ss
 | .turn _ _=>ss
theorem LJ{x k:Str}:∀{ss:List Str},k∈EV ss x↔k=x∨k∈ss
 | []=>by simp[EV]
 |y::r=>by
  unfold EV;split
  .simp
  .rw[Cp,LJ (ss:=r),Cp];constructor
   .rintro(h|h|h)
    .exact .inr (.inl h)
    .exact .inl h
    .exact .inr (.inr h)
   .rintro(h|h|h)
    .exact .inr (.inl h)
    .exact .inl h
    .exact .inr (.inr h)
theorem Rf{x:Str}:∀{ss:List Str},Up ss->x∉ss->Up (EV ss x)
 | [],_,_=>List.pairwise_singleton _ _
 |y::r,h,hx=>by
  obtain⟨h1,h2⟩:=List.pairwise_cons.mp h;unfold EV;split
  .next c=>exact List.pairwise_cons.mpr ⟨λk hk=>(List.mem_cons.mp hk).elim (λe=>by rw[e];exact c) λhk=>P8 c (h1 k hk),h⟩
  .next c=>
   refine List.pairwise_cons.mpr ⟨λk hk=>?_,Rf h2 λa=>hx (Ca _ a)⟩;rcases LJ.mp hk with rfl|hk
   .rcases VW k y with z|z|z
    .exact absurd z c
    .exact absurd (by rw[z];exact CJ) hx
    .exact z
   .exact h1 k hk
theorem zI{ts:List Str}(a:ts.Perm (ss++[x]))(b:sortedS ts=true)(h:Up ss)(hx:x∉ss):ts=EV ss x:=by
 have nd:ts.Nodup:=a.nodup_iff.mpr (M5 (ZJ h) hx);refine Pn (Tf b nd) (Rf h hx) λk=>?_;rw[a.mem_iff,LJ,GH,jm];exact or_comm
theorem DG.len{g:Int}(h:DG ns r g ss):ss.length<=ns.length:=IP (ZJ h.up) h.sub
theorem DG.led(h:DG ns r g ss)(ok:d.Ok 40 ns)(nd:ns.Nodup):DG (d.done ns) r (d.gap ns g:Nat) (d.Fp r g ss):=by
 have g1:=h.g1;cases d with
 |put x i=>
  obtain⟨h1,h2,n,m⟩:=ok;refine⟨h.rule,by omega,?_,?_,?_⟩
  .show((GR i g:Nat):Int)<=((ins ns x i).length:Int);rw[QM];unfold GR;split <;> omega
  .show Up (if Ep r g i=true then EV ss x else ss)
   split
   .exact Rf h.up λf=>h2 (h.sub x f)
   .exact h.up
  .intro k hk;show k∈ins ns x i;rw[Me];have c:k∈(if Ep r g i=true then EV ss x else ss):=hk
   split at c
   .rcases LJ.mp c with z|z
    .exact .inl z
    .exact .inr (h.sub k z)
   .exact .inr (h.sub k c)
 |take x=>
  have hx:x∈ns:=ok;have j:=P9 hx nd;have l:ns.idxOf x<ns.length:=List.idxOf_lt_length_iff.mpr hx;refine⟨h.rule,by omega,?_,Sl x h.up,λk hk=>?_⟩
  .show((Gq (ns.idxOf x) g:Nat):Int)<=((wo ns x).length:Int);unfold Gq;split <;> omega
  .obtain⟨a,b⟩:=FF.mp (show k∈wo ss x from hk);exact FF.mpr ⟨h.sub k a,b⟩
 |move x i=>
  obtain⟨hx,hi⟩:=ok;have j:=P9 hx nd;have l:ns.idxOf x<ns.length:=List.idxOf_lt_length_iff.mpr hx;refine⟨h.rule,by omega,?_,h.up,λk hk=>?_⟩
  .show((GR i (Gq (ns.idxOf x) g):Nat):Int)<=((ins (wo ns x) x i).length:Int);rw[QM];unfold GR Gq;split <;> split <;> omega
  .show k∈ins (wo ns x) x i;rw[Me,FF]
   by_cases e:k=x
   .exact .inl e
   .exact .inr ⟨h.sub k hk,e⟩
 |turn lo hi=>
  obtain⟨h1,h2⟩:=ok;refine⟨h.rule,by omega,?_,h.up,λk hk=>(Tj h1).mpr (h.sub k hk)⟩;show((g:Nat):Int)<=((GA ns lo hi).length:Int);rw[gU h1 h2];exact g1
def cD:Sp:=λvs H Q _=>∃(g i:Nat),vs=[.int g,.int i]/\Q (.int (GR i g:Nat)) H
def aT:Sp:=λvs H Q _=>∃(g p:Nat),vs=[.int g,.int p]/\Q (.int (Gq p g:Nat)) H
def cH:Sp:=λvs H Q _=>∃(t:Addr)(r:Str)(g i:Nat)(c:Addr),vs=[.ref t,.int i]/\H t=some (.tup [.str r,.int g,.ref c])/\Q (.bl (Ep r g i)) H
theorem uH{g:Int}(h:DG ns r g ss)(ok:d.Ok 40 ns):∀x i,d=.put x i->x∉ss:=by
 rintro x i rfl a;exact ok.2.1 (h.sub x a)
noncomputable def AY.kind:AY->Str
 | .put _ _ => "put"
 | .take _ => "take"
 | .move _ _ => "move"
 | .turn _ _ => "turn"
theorem Nq(d:AY):C2 d.vals 0=some (.str d.kind):=by cases d <;> rfl
def AY.ao(ss:List Str):AY->List Str
 | .take x=>wo ss x
 |_=>ss
theorem lH(h:¬ decide (V.str d.kind=V.str "take")=true):d.ao ss=ss:=by
 cases d with
 |take x=>exact absurd (by simp only[AY.kind];decide +kernel) h
 |_=>rfl
theorem Zu(h:decide (V.str d.kind=V.str "put")=true):∃x i,d=.put x i:=by
 cases d with
 |put x i=>exact⟨x,i,rfl⟩
 |_=>
  have h':=lg h;injection h' with h2
  exact absurd h2 (by simp only[AY.kind];decide +kernel)
theorem wa(h:¬ decide (V.str d.kind=V.str "put")=true):d.Fp r g ss=d.ao ss:=by
 cases d with
 |put x i=>exact absurd (by simp only[AY.kind];decide +kernel) h
 |_=>rfl
theorem vR(h:Ep r g i=true):AY.Fp r g ss (.put x i)=EV ss x:=by show(if _ then _ else _)=_;rw[kz h]
theorem ZA2(h:Ep r g i=false):AY.Fp r g ss (.put x i)=ss:=by show(if _ then _ else _)=_;rw[km (by rw[h];decide)]
theorem Zn(h:decide (V.str d.kind=V.str "take")=true):∃x,d=.take x:=by
 cases d with
 |take x=>exact⟨x,rfl⟩
 |_=>
  have h':=lg h;injection h' with h2
  exact absurd h2 (by simp only[AY.kind];decide +kernel)
theorem zw(h:decide (V.str d.kind=V.str "move")=true):∃x i,d=.move x i:=by
 cases d with
 |move x i=>exact⟨x,i,rfl⟩
 |_=>
  have h':=lg h;injection h' with h2
  exact absurd h2 (by simp only[AY.kind];decide +kernel)
theorem oX(h1:¬ decide (V.str d.kind=V.str "put")=true)(h2:¬ decide (V.str d.kind=V.str "take")=true)(a:¬ decide (V.str d.kind=V.str "move")=true):∃lo hi,d=.turn lo hi:=by
 cases d with
 |put x i=>exact absurd (by simp only[AY.kind];decide +kernel) h1
 |take x=>exact absurd (by simp only[AY.kind];decide +kernel) h2
 |move x i=>exact absurd (by simp only[AY.kind];decide +kernel) a
 |turn lo hi=>exact⟨lo,hi,rfl⟩
theorem zX(h1:¬ decide (V.str d.kind=V.str "put")=true)(h2:¬ decide (V.str d.kind=V.str "take")=true):d.Fp r g ss=ss:=by
 rw[wa h1,lH h2]
def d4:Sp:=λvs H Q _=>∃r:Str,vs=[.str r]/\r∈Dk/\Q .A7 H
theorem IZ(nd:rs.Nodup)(h:rs[g]?=some x):rs.idxOf x=g:=by
 obtain⟨d,e⟩:=List.getElem?_eq_some_iff.mp h;have hx:x∈rs:=Cq h;have a:rs.idxOf x<rs.length:=List.idxOf_lt_length_iff.mpr hx;have f:rs[rs.idxOf x]=x:=SU a;have b:=List.pairwise_iff_getElem.mp nd;rcases jq (rs.idxOf x) g with c|c|c
 .exact absurd (f.trans e.symm) (b _ _ a d c)
 .exact c
 .exact absurd (e.trans f.symm) (b _ _ d a c)
end Lw
namespace L2
section
variable{X:Cx}{Zi:ZEX}{Z:St}{H2:Hp}{s2:Shared}{elt iter:Expr}{x z:Str}{px pz tp pos:Pos}{tk:Nat}{scope:Scope}{Ao:List Str}{js:List Nat}{te:TE}{J:It}{fp:List Addr}{it:Addr}
 {tn:Nat->Heap->Prop}
end
end L2
namespace Fz
open L2 Lw
variable{E:Ent0}{ss:List Slot}{Z:L2.St}{F F' H H':Hp}{js:List Nat}{ta tb te:TE}{nx:List Slot->Prop}{R:Ai}{i:Nat}{ns:List Int}{wi:TI}
section
variable[Xw]
variable{K:ZEW}{k:PV->Prop}
theorem Sg.Q2(S:Sg E ss Z F H){p:Addr}(hi:ss[i]?=some .AF)(e:Z[i]?=some (some (.ref p)))(s:BC p H H'):Mv E ss Z F H F H':=by
 obtain⟨g,b,fp,_,f⟩:=S.ok i _ hi;rw[e]at b;cases b;refine S.step (A8.refl _) (λa o q=>s.same a o (Eb q fp) (S.fh a o q)) (λa o n q=>s.same a o (λz=>?_) q) (λa o q=>.inl q) λj l c d=>?_
 .rw[z]at n;exact n i hi e
 .by_cases z:l=p
  .rw[z];exact s.AF
  .exact BU.keep (S.EF c d) λo q=>s.same l o z q
theorem wD(hi:ss[i]?=some .AF)(h:Wp ss te λx=>∃m,x=.int m/\0<m/\m<10 ^ 18/\∀r:Int,0<=r->r<m->k (.int r)):Wp ss (D3 Kz [] E0 (Al (BP i) (Al te BO))) k:=⟨λE Z F H Q S q=>by
 obtain⟨p,e,_⟩:=S.ok i _ hi;refine⟨_,e,h.go E Z F H _ S λv x F1 H1 a r⟨m,f,d,NG,kk⟩=>?_⟩;subst f;cases r.inv;exact⟨p,m,rfl,a.st.EF hi e,d,NG,λr H2 c b s=>q _ _ F1 H2 (a.trans (a.st.Q2 hi e s)) (.int r) (kk r c b)⟩⟩
theorem pR{sp:Sp}{k:List PV->Prop}(FI:sp=VQ)(hi:ss[i]?=some .AF)(h:Wp ss te λx=>∃m,x=.int m/\1<=m/\m<=100/\∀ns:List Str,(ns.length:Int)<=m->(∀x∈ns,Nm x)->ns.Nodup->k (ns.map PV.str)):Wn ss (D3 sp [] E0 (Al (BP i) (Al te BO))) k:=⟨λE Z F H Q S q=>by
 subst FI;obtain⟨p,e,_⟩:=S.ok i _ hi;refine⟨_,e,h.go E Z F H _ S λv x F1 H1 a r⟨m,j,d,NG,kk⟩=>?_⟩;subst j;cases r.inv;refine⟨p,m,rfl,a.st.EF hi e,d,NG,λl H2 ns b s EG f g nd=>?_⟩;have c:=a.st.Q2 hi e s;exact q l _ _ F1 H2 (a.trans c) (a.st.Bd b) (a.none b) EG (R4 ns) (kk ns f g nd)⟩
def FV(K:ZEW)(ns:List Int):Hp->V->Prop:=λF v=>∃a,v=.ref a/\AQ K F a (ns.map V.int)
theorem TQ(K:ZEW)(ns:List Int):∀(v:V)(F F':Hp),A8 F F'->FV K ns F v->FV K ns F' v:=λv F F' s AJ=>by obtain⟨a,e,h⟩:=AJ;exact⟨a,e,by
 rcases h with(h|⟨o,h⟩)|h
 .exact .inl (.inl (s _ _ h))
 .exact .inl (.inr ⟨o,s _ _ h⟩)
 .exact .inr h⟩
theorem ZCR(hi:ss[i]?=some (.raw (FV K ns)))(h:k (.int ns.length)):Wp ss (Ea (Vm K) (Al (BP i) BO)) k:=⟨λE Z F H Q S q=>by
 obtain⟨v,e,⟨a,c,b⟩,st⟩:=S.ok i _ hi;subst c;obtain⟨d,ea,Iu⟩:=TQ K ns _ F H S.fh ⟨a,rfl,b⟩;cases ea;refine⟨_,e,a,_,rfl,.inl Iu,?_⟩;rw[AW];exact q _ _ F H (.refl S) (.int _) h⟩
theorem yN{j:Nat}(hi:ss[i]?=some (.raw (FV K ns)))(h:Wp ss te λx=>∃m,x=.int m/\0<=m/\m<=1000/\nx (ss.set j .AF)):Ws ss (G9 (D3 (US K) [] E0 (Al (BP i) (Al te BO))) (Dr j)) nx R:=⟨λE D Z F H S hn A=>by
 obtain⟨v,e,⟨a,w,B⟩,st⟩:=S.ok i _ hi;subst w;refine⟨_,e,h.go E Z F H _ S λv x F1 H1 c r⟨m,y,q,NG,kk⟩=>?_⟩;subst y;cases r.inv;obtain⟨z,f,n,_⟩:=c.st.ok i _ hi;rw[e]at f;cases f;obtain⟨C,ea,Iu⟩:=TQ K ns _ F1 H1 c.st.fh n;cases ea;refine⟨a,ns,m,rfl,Iu,q,NG,λp H2 d s g=>?_⟩;have o:=c.st.grow s;exact hn _ _ F1 H2 kk (o.st.setG ⟨p,rfl,c.st.Bd d,.inl (c.st.ES d),g⟩ λl e b u _ t k=>by cases e;exact c.st.QR t d k) c.ff⟩
end
section
variable{K:ZEW}
theorem kG{N:List Str}{vs:List V}{Q:VK}{X:XK}{t:TS}(h:N4 K vs H Q X)(hw:∀ns:List Int,ns.length<=63->Ws (.raw (FV K ns)::List.replicate (N.length - 1) .any) t (λ_=>False) (.is λp=>p=.bl true)):t { nx:=λ_ H'=>Q .A7 H',rt:=Q } (L2.start N vs) H:=by
 obtain⟨a,ns,rfl,c,d,q⟩:=h;have S:Sg (E3 [] H H) [.raw (FV K ns)] [some (.ref a)] H H:=by
  have nn:∀{p:Prop}(a:Addr),a∈([]:List Addr)->p:=λa h=>absurd h Au;refine⟨⟨A8.refl _,A8.refl _,λ_ _ _ e=>e,λ_ _ e=>.inl e,λa h=>nn a h,λa h=>nn a h,λa h=>nn a h,λa h=>nn a h,λa h=>nn a h,λa h=>nn a h⟩,rfl,λi s hi=>?_,λi j s u l Fb hi g b=>?_⟩
  .cases i with
   |zero=>cases hi;exact⟨_,rfl,⟨a,rfl,c⟩,TQ K ns _⟩
   |succ i=>simp at hi
  .cases i with
   |zero=>cases hi;cases b
   |succ i=>simp at hi
 refine(hw ns d).go (NT (E3 [] H H)) _ _ H H (S.grown _) (λ_ _ _ _ h=>h.elim) λv F' H' f ok=>?_;obtain⟨p,r,rfl⟩:=ok;cases r.inv;exact q H'
end
section
variable[Xw]
variable{K:ZEW}{k:PV->Prop}
theorem Wi.mono{k k':List PV->Prop}(h:Wi ss wi k)(i:∀xs,k xs->k' xs):Wi ss wi k':=⟨λE Z F H R S q=>h.go E Z F H R S λJ xs F' H' m s kk=>q J xs F' H' m s (i xs kk)⟩
theorem eZ{α:Type}{tt:TT}{k:List PV->Prop}(c:α->PV)(f:α->Bool)(g:α->PV)
  (h:Wi ss wi λxs=>∃ns:List α,xs=ns.map c/\ns.length<=100000/\(∀x∈ns,Wt (Dc js ss++[.is (c x)]) tt λb=>b=f x)/\(∀x∈ns,f x=true->Wp (Dc js ss++[.is (c x)]) te λp=>p=g x)/\k ((ns.filter f).map g))
  (inj:∀x y,c x=c y->x=y) (nd:js.Nodup:=by decide) (np:Xm js ss=true:=by rfl):Wn ss (PH wi js tt te) k:=by
 by_cases hα:Nonempty α
 .obtain⟨l⟩:=hα;have inv:∀p:PV,∃x:α,∀y,c y=p->y=x:=λp=>by
   by_cases q:∃y,c y=p
   .obtain⟨y,a⟩:=q;exact⟨y,λz i=>inj _ _ (i.trans a.symm)⟩
   .exact⟨l,λy a=>absurd ⟨y,a⟩ q⟩
  let d:PV->α:=λp=>Classical.choose (inv p)
  have hd:∀x,d (c x)=x:=λx=>(Classical.choose_spec (inv (c x)) x rfl).symm;refine dF (λp=>f (d p)) (λp=>g (d p)) (h.mono λxs⟨ns,e,i,h1,h2,kk⟩=>?_) nd np;subst e;refine⟨by rw[AW];exact i,λx hx=>?_,λx hx j=>?_,?_⟩
  .obtain⟨y,a,rfl⟩:=List.mem_map.mp hx;rw[hd];exact h1 y a
  .obtain⟨y,a,rfl⟩:=List.mem_map.mp hx;rw[hd]at j ⊢;exact h2 y a j
  .have e:((ns.map c).filter λp=>f (d p)).map (λp=>g (d p))=(ns.filter f).map g:=by
    rw[jZ,FD]
    congr 1
    .funext x;show g (d (c x))=g x;rw[hd]
    .congr 1;funext x;show f (d (c x))=f x;rw[hd]
   rw[e];exact kk
 .refine dF (λ_=>true) (λp=>p) (h.mono λxs⟨ns,e,i,h1,h2,kk⟩=>?_) nd np;have m:ns=[]:=by
   cases ns with
   |nil=>rfl
   |cons x r=>exact absurd ⟨x⟩ hα
  subst m;subst e;exact⟨by simp,λx hx=>absurd hx (by simp),λx hx=>absurd hx (by simp),kk⟩
theorem dg(h:Wp ss ta λp=>∃x,p=.str x/\Wq ss tb λ_ ys=>∃ns:List Str,ys=ns.map PV.str/\k (.bl (!decide (x∈ns)))):Wp ss (Bn (I0 K true) ta tb) k:=lP h
theorem nC(h:Wq ss ta λtp xs=>∃ns:List Str,xs=ns.map PV.str/\Wq ss tb λCw ys=>Cw=tp/\∃a:List Str,ys=a.map PV.str/\k (.bl (decide (ns=a)))):Wp ss (Bn (QL K false) ta tb) k:=ZCM h
end
end Fz
namespace HT
open AutoSeq1 (wpAny_loadPart')
variable{prog:Program}{w:World}{A:Around}{E Q:Value->Shared->Prop}{it tu:Addr}{i:Nat}{old v:Value}
theorem uW(tu:Addr)(vals:Array Value)(k:Nat)(e:Option Addr)(W9:Array (Option Value)):
  Meets (Builtin.«enumerate.__new__» ⟨[.type "enumerate",.ref tu],[]⟩) (λ_ R s=>s.heap.get? tu=some { cls:=.type "tuple", dict:=e,data:=.seq vals k,slots:=W9 }/\R (.ok (.ret (.ref (s.heap.push { cls:=.type "tuple_iterator", data:=.fields #[.ref tu,.int 0 0] }).objs.size)))
    { s with heap:=(s.heap.push { cls:=.type "tuple_iterator", data:=.fields #[.ref tu,.int 0 0] }).push { cls:=.type "enumerate", data:=.fields #[.none,.bool false,.ref s.heap.objs.size,rawInt 0,.none,.none] } }):=.of_wp λprog w A R s h=>by
 obtain⟨b,g,d,tk,os⟩:=s;obtain⟨ho,h⟩:=h;have sb:=sub_enumerate;have a:Heap.IsTuple (Shared.heap ⟨b,g,d,tk,os⟩) tu vals:=⟨_,ho,rfl,k,rfl⟩
 wp_walk using wpAny_loadPart' ho
 refine wpAny_stack_any λfr=>kX ?_;split
 .rename_i c _ _ _ _ _;cases(c == Value.type "enumerate") <;> (wp_walk using wpAny_loadPart' ho,yg a;exact⟨_,rfl,h⟩)
 .wp_walk using wpAny_loadPart' ho,yg a
  exact⟨_,rfl,h⟩
section
variable{s:Shared}
theorem yM{vals:Array Value}(e:s.heap.IsTuple tu vals)
  (q:∀h',IsEnum h' (s.heap.objs.size+1) s.heap.objs.size 0 .none->h'.IsTupleIter s.heap.objs.size tu 0->h'.objs.size=s.heap.objs.size+2->(∀b o,s.heap.get? b=some o->h'.get? b=some o)->Q (.ref (s.heap.objs.size+1)) { s with heap:=h' }) :
  wpAny (model prog w) A (call (.type "enumerate") [.ref tu]) Q E s:=by
 obtain⟨⟨c,g,f,W9⟩,ho,a,k,hd⟩:=e;replace a:c=.type "tuple" := a;replace hd:f=.seq vals k:=hd;subst a hd;refine callType_new F.called_enumerate (by decide) (F.typeCall_enumerate_1 _) (F.newCall_enumerate_1 _) (λob=>F.args_object_init_2 ob _) F.entry_enumerate_new (uW tu vals k g W9) ⟨ho,?_⟩;have z:(s.heap.push { cls:=.type "tuple_iterator", data:=.fields #[.ref tu,.int 0 0] }).objs.size=s.heap.objs.size+1:=D5 ..;show _/\_;rw[z];have d:IsEnum ((s.heap.push { cls:=.type "tuple_iterator", data:=.fields #[.ref tu,.int 0 0] }).push { cls:=.type "enumerate", data:=.fields #[.none,.bool false,.ref s.heap.objs.size,rawInt 0,.none,.none] }) (s.heap.objs.size+1) s.heap.objs.size 0 .none:=by
  have y:=BM (s.heap.push { cls:=.type "tuple_iterator", data:=.fields #[.ref tu,.int 0 0] }) (o:={ cls:=.type "enumerate", data:=.fields #[.none,.bool false,.ref s.heap.objs.size,rawInt 0,.none,.none] }) rfl;rw[z]at y;exact y
 exact⟨⟨_,d,rfl⟩,q _ d ⟨_,B7 _ (BM _ rfl),rfl,rfl⟩ (by rw[D5,z]) λb o y=>B7 _ (B7 _ y)⟩
theorem ZCv{vals:Array Value}(hi:s.heap.IsTupleIter it tu i)(b:s.heap.IsTuple tu vals)(hv:vals[i]?=some v)
  (q:∀h',h'.IsTupleIter it tu (i+1)->Heap.SameBut it s.heap h'->Q v { s with heap:=h' }):wpAny (model prog w) A (Builtin.SmallTypes.nextOf (.ref it)) Q E s:=by
 obtain⟨o,ho,c,hd⟩:=id hi;obtain⟨d,FG,_,k,a⟩:=b;unfold Builtin.SmallTypes.nextOf;refine kU (o8 (name:=Str.ofString "__next__") hi.typeIs Yl (pE Yl hi.typeIs ZD2 ?_ (ZD1 _)));show wpAny _ _ (field (.ref it) 0 >>= _) _ _ s;refine kU (t6 ho hd (x:=.ref tu) rfl ?_);show wpAny _ _ (if(Value.ref tu == Value.none)=true then _ else _) _ _ s;rw[km (show ¬ ((Value.ref tu == Value.none)=true)from CZ)]
 show wpAny _ _ (field (.ref it) 1 >>= _) _ _ s;refine kU (t6 ho hd (x:=.int i 0) rfl ?_);show wpAny _ _ (seqItems? (.ref tu) >>= _) _ _ s;refine kU (zd FG a ?_);simp only[SN,hv];refine kU (pk ho hd (by simp) (kX ⟨v,rfl,kX (q _ ?_ (Mj ..))⟩));exact⟨_,EM _ ho (Mr (GI hd _)),(Sb ..).trans c,by rw[GI hd];simp[rawInt]⟩
theorem cW{vals:Array Value}(hh:A.handled=none)(hi:s.heap.IsTupleIter it tu i)(c:s.heap.IsTuple tu vals)(hv:vals[i]?=none)
  (q:∀h' e,Heap.ExtBut it s.heap h'->(∃o,h'.get? e=some o/\o.cls=.type "StopIteration")->E (.ref e) { s with heap:=h' }):wpAny (model prog w) A (Builtin.SmallTypes.nextOf (.ref it)) Q E s:=by
 obtain⟨o,ho,f,hd⟩:=id hi;obtain⟨d,FG,_,k,b⟩:=c;unfold Builtin.SmallTypes.nextOf;refine kU (o8 (name:=Str.ofString "__next__") hi.typeIs Yl (pE Yl hi.typeIs ZD2 ?_ (ZD1 _)));show wpAny _ _ (field (.ref it) 0 >>= _) _ _ s;refine kU (t6 ho hd (x:=.ref tu) rfl ?_);show wpAny _ _ (if(Value.ref tu == Value.none)=true then _ else _) _ _ s;rw[km (show ¬ ((Value.ref tu == Value.none)=true)from CZ)]
 show wpAny _ _ (field (.ref it) 1 >>= _) _ _ s;refine kU (t6 ho hd (x:=.int i 0) rfl ?_);show wpAny _ _ (seqItems? (.ref tu) >>= _) _ _ s;refine kU (zd FG b ?_);simp only[SN,hv];refine kU (zU (kU (pk ho hd (by simp) ?_)));show wpAny _ _ (newExc (.type "StopIteration") [] >>= _) _ _ _;refine kU ?_;simp only[newExc,newTuple];refine kU (nZ ?_ (by size_fits));refine kU (m:=firstArgMember _ _) (uq (a:=Value.none) (by first|rfl|(simp only[firstArgMember];rfl)) ?_);refine nZ ?_ (by size_fits)
 simp only[raiseNew];refine kU (wpAny_handled ?_);first|rw[show A.in1.handled=none from hh]|rw[hh]
 refine kU (kX (wpAny_throw ?_));exact q _ _ (((Mj ..).extBut.push _).push _) ⟨_,BM _ rfl,rfl⟩
theorem lY{e:Addr}{vals:Array Value}{j:Int}{Q:Option Value->Shared->Prop}(hh:A.handled=none)(a:IsEnum s.heap e it j old)(hi:s.heap.IsTupleIter it tu i)(c:s.heap.IsTuple tu vals)(hv:vals[i]?=none)
  (q:∀h',Heap.ExtBut it s.heap h'->Q none { s with heap:=h' }):wpAny (model prog w) A (pyNext (.ref e)) Q E s:=by
 have ty:s.TypeIs (.ref e) "enumerate" := ⟨_,a,rfl⟩;unfold pyNext;refine kU (yX (o8 (name:=Str.ofString "__next__") ty F.slot_enumerate_next (pE F.slot_enumerate_next ty F.entry_enumerate_next ?_ (F.args_enumerate_next_1 _))));show wpAny _ _ (field (.ref e) 2 >>= _) _ _ _;refine kU (t6 a rfl (x:=.ref it) rfl ?_);refine kU (cW (show A.in1.handled=none from hh) hi c hv λh' x eb hx=>?_)
 obtain⟨o,ho,d⟩:=hx;exact kU (rL (T:="StopIteration") (b:=true) ⟨o,ho,d⟩ ZAH (kX (q _ eb)))
end
theorem uu(hh:A.handled=none)(it tu:Addr)(Ak:tu≠it)(vals:Array Value):
  Draws prog w A it [it,tu] vals.size (λi v=>vals[i]?=some v) (λi h=>h.IsTupleIter it tu i/\h.IsTuple tu vals) where
 live:=λ_ _ st=>by obtain⟨o,ho,_⟩:=st.1;exact⟨o,ho⟩
 frame:=λ_ _ _ st hk=>by
  obtain⟨⟨o,ho,r⟩,c,FG,d⟩:=st;exact⟨⟨o,hk it (by simp) o ho,r⟩,c,hk tu (by simp) c FG,d⟩
 item:=λi s Q E hi st e=>ZCv st.1 st.2 (v:=vals[i]) (by simp[hi]) λh' a b=>e _ h' s.toks (by simp[hi]) ⟨a,st.2.extBut b.extBut Ak⟩ b
 done:=λs Q E st f=>cW hh st.1 st.2 (by simp) f
end HT
namespace L2
variable{es:List Expr}{k1:Nat}
section
variable{X:Cx}
noncomputable def av(K:ZEW)(tp:Bool)(a:Addr)(xs:List V):It:=
 ⟨λi H=>CS K tp H a xs/\i<xs.length,λi H x H'=>∃p y,xs[i]?=some y/\x=.ref p/\H p=none/\H'=upd H p (.tup [.int i,y]),λi H=>CS K tp H a xs/\xs.length<=i⟩
theorem wB{P:Program}{w:World}{K:ZEW}{L:Pos}(a e it:Addr)(xs:List V)(MF:e≠it):
  Turn P w K (.Tuple es k1 L) (av K true a xs) [e,it] e (λi h=>(∃old,IsEnum h e it i old)/\h.IsTupleIter it a i) where
 mem:=by simp
 obj:=λi h st b hb=>by
  obtain⟨⟨old,h1⟩,o,h2,_,d⟩:=st;rcases List.mem_cons.mp hb with z|z
  .subst z;exact⟨_,h1,λv z=>by cases z⟩
  .have y:b=it:=by simpa using z
   subst y;exact⟨o,h2,λv z=>by rw[d]at z;cases z⟩
 keep:=λi h h' st k=>⟨let ⟨old,h1⟩:=st.1;⟨old,k e (by simp) _ h1⟩,let ⟨o,h2,r⟩:=st.2;⟨o,k it (by simp) o h2,r⟩⟩
 item:=by
  intro X B hw C x i Zi s Z H E I m st t;subst B hw C;obtain⟨p,hi⟩:=t;obtain⟨⟨old,f⟩,c⟩:=st;obtain⟨A3,j,g,O⟩:=I.tuple p;obtain⟨u,Q,J⟩:=j.get (Am hi);have U:A3.toArray[i]?=some u:=by simpa using Q
  have R:a<s.heap.objs.size:=g.lt;have ha:a≠it:=by
   rintro rfl;obtain⟨o,q1,q2,_⟩:=c;obtain⟨M,q3,l,_⟩:=g;rw[q1]at q3;cases q3;rw[q2]at l;exact absurd l (by decide)
  have T:e≠a:=by
   rintro rfl;obtain⟨M,q3,l,_⟩:=g;have q1:=f;unfold IsEnum at q1;rw[q1]at q3;cases q3;exact absurd (show Value.type "enumerate"=Value.type "tuple" from l) (by decide)
  have F:e<s.heap.objs.size:=Az f;refine wpAny_pyNext_enum_itemD (n:=A3.toArray.size) (HT.uu (show X.A.in1.handled=none from I.ok.hd x) it a ha A3.toArray) f ⟨c,g⟩ (by rw[Bm,<- j.length];exact hi) MF (by simp[MF,T]) λv h1 WO pv HC N OM WD YD=>⟨_,rfl,?_⟩;have S:v=u:=by rw[U]at pv;exact(BE pv).symm
  subst S;refine ZA6 HC λh2 JR CB=>?_;have D:h2.get? s.heap.objs.size=some { cls:=.type "tuple", data:=.seq #[.int i WO,v] }:=(CB.2 _ (JD F)).trans OM;have kp:∀b o,b∉[e,it]->s.heap.get? b=some o->h2.get? b=some o:=λb o hb q=>by
   have y:b≠e/\b≠it:=by simpa using hb
   exact(CB.2 b y.1).trans (YD b o y.1 y.2 q)
  refine⟨.ref s.heap.objs.size,_,I.dh (t':=WO+1) (a:=s.heap.objs.size) (o:=.tup [.int i,xs[i]]) m kp (Ad _) ?_,rfl,⟨_,_,Am hi,rfl,I.AI.fresh (Ad _),rfl⟩,⟨⟨_,JR⟩,?_⟩,λb hb=>?_⟩
  .exact⟨(by show 2<=sizeLine;decide),[.int i WO,v],.cons ⟨_,rfl⟩ (.cons J .nil),⟨_,D,rfl,_,rfl⟩,λob q=>by rw[D]at q;cases q;rfl⟩
  .obtain⟨o,q,r⟩:=N.1;exact⟨o,(CB.2 it (B0 MF)).trans q,r⟩
  .have y:b<s.heap.objs.size:=by
    rcases List.mem_cons.mp hb with z|z
    .rw[z];exact F
    .have G:b=it:=by simpa using z
     obtain⟨o,q,_⟩:=c;rw[G];exact Az q
   rw[Ab (BL y)];exact(m b hb).1
 done:=by
  intro X B hw C x i Zi s Z H E I m st t;subst B hw C;obtain⟨p,hx⟩:=t;obtain⟨⟨old,f⟩,c⟩:=st;obtain⟨A3,j,g,O⟩:=I.tuple p;have W:=j.length;exact HT.lY (I.ok.hd x) f c g (by simp;omega) λh' eb=>⟨rfl,I.aC (t':=s.toks) m λb o hb q=>eb b o (λz=>hb (by simp[z])) q⟩
 self:=λ_ _ _ _ _ st h=>let ⟨⟨_,f⟩,_⟩:=st;wx f h
def Te(K:ZEW)(t:TA):TI:=λZ H R=>t Z H λvs H1=>∃a tp xs,vs=[.ref a]/\CS K tp H1 a xs/\R (av K tp a xs) H1
theorem zS{m p pos:Pos}{l:Expr}{t:TA}(w:Gl X "enumerate")(v:X.mg "enumerate"=none)(ha:QA X [l] t)(r:starEach [l] X.env=[(false,eval l X.env)]:=by rfl):
  QI X (.Tuple es k1 m) (.Call (.Name "enumerate" p) [l] [] pos) (Te X.K t):=⟨by
 have ha:=ha.h;intro Zi s Z H R I h;refine pO (J6 I w v (show bootBuiltins "enumerate"=some (.type "enumerate") by decide +kernel) ?_ (by decide) (by decide));refine LV (AN (ha pos Zi s Z H _ I h) λus s1⟨vs,H1,I1,k,q1⟩=>?_) r rfl;obtain⟨a,tp,xs,rfl,e,q⟩:=q1;obtain⟨u,rfl,i⟩:=vals1 k;cases i;have f:s1.heap.objs.size+1≠s1.heap.objs.size:=ZDQ _;have fp:∀b∈[s1.heap.objs.size+1,s1.heap.objs.size],Ds X Zi H1 b:=λb hb=>by
  have y:s1.heap.objs.size<=b:=by
   rcases List.mem_cons.mp hb with z|z
   .rw[z];exact D6 _
   .have g:b=s1.heap.objs.size:=by simpa using z
    rw[g];exact Ad _
  exact I1.Ly y (I1.AI.fresh y)
 cases tp with
 |false=>
  obtain⟨A3,j,p,n⟩:=I1.list e;refine call_enumerate_list p.isList λh' d c hsz kp=>wx d ?_;exact⟨s1.heap.objs.size+1,[s1.heap.objs.size+1,s1.heap.objs.size],_,_,H1,rfl,I1.kept (t':=s1.toks) kp,cN a _ _ xs f,⟨⟨_,d⟩,c⟩,fp,q⟩
 |true=>
  obtain⟨A3,j,o,n⟩:=I1.tuple e;refine HT.yM o λh' d c hsz kp=>wx d ?_;exact⟨s1.heap.objs.size+1,[s1.heap.objs.size+1,s1.heap.objs.size],_,_,H1,rfl,I1.kept (t':=s1.toks) kp,wB a _ _ xs f,⟨⟨_,d⟩,c⟩,fp,q⟩⟩
end
end L2
namespace Fz
open L2 Lw
variable{xs:List PV}{i:Nat}
section
variable[Xw]
variable{E:Ent0}{ss:List Slot}{Z:L2.St}{F H F' H':Hp}{K:ZEW}{js:List Nat}{ta tb te:TE}{k:PV->Prop}{nx:List Slot->Prop}{R:Ai}{ys:List PV}
noncomputable def IY(xs:List PV):List PV:=(List.range xs.length).map λi:Nat=>.tup [.int (i:Int),xs.getD i .A7]
theorem Ke(xs:List PV):(IY xs).length=xs.length:=by simp[IY]
theorem VS{x:PV}(h:xs[i]?=some x):(IY xs)[i]?=some (.tup [.int (i:Int),x]):=by
 have hi:i<xs.length:=(List.getElem?_eq_some_iff.mp h).1;unfold IY;rw[B1,SS hi];show some (PV.tup [PV.int (i:Int),xs.getD i PV.A7])=_;rw[Ml,h];rfl
theorem hZ{p:PV}(h:(IY xs)[i]?=some p):∃x,xs[i]?=some x/\p=.tup [.int (i:Int),x]:=by
 have hi:i<xs.length:=by have:=(List.getElem?_eq_some_iff.mp h).1;rwa [Ke]at this
 have e:=Am hi;refine⟨xs[i],e,?_⟩;rw[VS e]at h;exact(BE h).symm
theorem tR{k:List PV->Prop}(h:Wz ss te λ_ xs=>k (IY xs)):Wi ss (Te K (Al te BO)) k:=⟨λE Z F H R S q=>
 h.go E Z F H _ S λv tp xs F1 H1 b f kk=>by
  obtain⟨l,vs,o,a,r⟩:∃l vs,v=.ref l/\(∀(ss:List Slot)(Z:L2.St)(F H:Hp),A8 F1 F->Sg E ss Z F H->H l=some (BF tp vs))/\AS F1 vs xs:=by
   cases tp with
   |true=>
    have n:Rep F1 v (.tup xs):=f;cases n with
    |tup e r=>exact⟨_,_,rfl,λss Z F H s S=>S.fh _ _ (s _ _ e),r⟩
   |false=>
    obtain⟨l,vs,e,h1,r⟩:=f;refine⟨l,vs,e,λss Z F H s S=>?_,r⟩;rcases h1 with h1|⟨hA,h1⟩
    .exact S.fh _ _ (s _ _ h1)
    .exact S.keep _ _ hA h1
  subst o;refine⟨l,tp,vs,rfl,BF.sq (a ss Z F1 H1 (A8.refl _) b.st),q _ (IY xs) F1 H1 b ⟨λss Z F H i s S hi=>?_,λss Z F H s S=>?_,λss Z F H i x H' s S hi y=>?_⟩ kk⟩
  .rw[Ke]at hi;exact⟨BF.sq (a ss Z F H s S),by rw[r.length];exact hi⟩
  .refine⟨BF.sq (a ss Z F H s S),?_⟩;rw[Ke,r.length];exact Ad _
  .obtain⟨p,y,g,ex,j,t⟩:=y;subst ex;subst t;obtain⟨z,d,c⟩:=r.get' g;have m:=S.alloc j (.tup [.int i,y]);exact⟨_,_,VS d,m,.tup AO (.cons (.int _) (.one (c.mono (s.trans m.ff))))⟩⟩
theorem o6{r:List V->Hp->VK->Prop}(c:r=λxs H Q=>(∃i,xs=[.int i]/\Q (.int i) H)∨∃k,xs=[.bl k]/\Q (.int (if k then 1 else 0)) H)(h:Wp ss te λp=>∃b,p=.bl b/\k (.int (if b then 1 else 0))):Wp ss (Ea r (Al te BO)) k:=⟨λE Z F H Q S q=>
 h.go E Z F H _ S λv p F1 H1 a r AJ=>by
  obtain⟨b,e,kk⟩:=AJ;subst c;subst e;cases r.inv;exact .inr ⟨b,rfl,q _ _ F1 H1 a (.int _) kk⟩⟩
end
theorem ED{c A B:Prop}[Decidable c](h:c)(a:A):if c then A else B:=by rw[kz h];exact a
end Fz
namespace L2
theorem zG{X:Cx}{tg:Expr}{a b:Expr}{ta:TA}{p pos:Pos}(m:Gl X "range")(l:X.mg "range"=none)(ha:QA X [a,b] ta)(k:starEach [a,b] X.env=[(false,eval a X.env),(false,eval b X.env)]:=by rfl)(CB:starEach [b] X.env=[(false,eval b X.env)]:=by rfl):QI X tg (.Call (.Name "range" p) [a,b] [] pos) (Vk ta):=⟨by
 have ha:=ha.h;intro Zi s Z H R I h;refine Call_ (J6 I m l boot_range (LV (AN (ha pos Zi s Z H _ I h) λus s1⟨vs,H1,I1,d,q1⟩=>?_) (by rw[k,CB]) (by rw[CB];rfl)));obtain⟨i,j,e,⟨q1,q2,q3,g⟩,q⟩:=q1;subst e;cases d with
 |cons r c=>
  cases c with
  |cons f c=>
   cases c;obtain⟨t,rfl⟩:=r;obtain⟨t',rfl⟩:=f;exact call_range_2 (gN I1 q1 q2 q3 g q)⟩
end L2
namespace Fz
open L2 Lw
variable{d:AY}{t:Addr}
section
variable[Xw]
variable{E:Ent0}{ss:List Slot}{Z:L2.St}{F H F' H':Hp}{K:ZEW}{js:List Nat}{ta tb tc te:TE}{k:PV->Prop}{nx:List Slot->Prop}{R:Ai}{xs ys:List PV}
def L9(i:Int)(n:Nat):List PV:=(List.range n).map λj:Nat=>PV.int (i+(j:Int))
theorem Nc(i:Int)(n:Nat):(L9 i n).length=n:=by simp[L9]
theorem uo{i:Int}{n j:Nat}{p:PV}(h:(L9 i n)[j]?=some p):j<n/\p=.int (i+(j:Int)):=by
 have a:j<n:=by have:=(List.getElem?_eq_some_iff.mp h).1;rwa [Nc]at this
 unfold L9 at h;rw[B1,SS a]at h;exact⟨a,(BE h).symm⟩
theorem yl{k:List PV->Prop}(h:Wp ss ta λp=>∃i:Int,p=.int i/\Wp ss tb λp=>∃j:Int,p=.int j/\(i<=1000000/\-1000000<=i/\j<=1000000/\-1000000<=j)/\k (L9 i (j - i).toNat)):Wi ss (Vk (Al ta (Al tb BO))) k:=⟨λE Z F H R S q=>
 h.go E Z F H _ S λv p F1 H1 a r AJ=>by
  obtain⟨i,e,h2⟩:=AJ;subst e;cases r.inv;exact h2.go E Z F1 H1 _ a.st λf p2 F2 H2 c b D0=>by
   obtain⟨j,d,hb,kk⟩:=D0;subst d;cases b.inv;refine⟨i,j,rfl,by omega,q _ (L9 i (j - i).toNat) F2 H2 (a.trans c) ⟨λss Z F H n s S hn=>?_,λss Z F H s S=>?_,λss Z F H n x H' s S hn y=>?_⟩ kk⟩
   .rw[Nc]at hn;exact hn
   .show _<=_;rw[Nc];exact Ad _
   .obtain⟨e,hx⟩:=y;subst e;subst hx;rw[Nc]at hn;refine⟨.int (i+(n:Int)),F,?_,.refl S,.int _⟩;unfold L9;rw[B1,SS hn];rfl⟩
noncomputable def dP:AY->PV
 | .put x i=>.tup [.str "put",.str x,.int i]
 | .take x=>.tup [.str "take",.str x]
 | .move x i=>.tup [.str "move",.str x,.int i]
 | .turn lo hi=>.tup [.str "turn",.int lo,.int hi]
theorem ZCy(h:F t=some (.tup d.vals)):Rep F (.ref t) (dP d):=by
 cases d with
 |put x i=>exact .tup h (.cons (.str _) (.cons (.str _) (.one (.int _))))
 |take x=>exact .tup h (.cons (.str _) (.one (.str _)))
 |move x i=>exact .tup h (.cons (.str _) (.cons (.str _) (.one (.int _))))
 |turn lo hi=>exact .tup h (.cons (.str _) (.cons (.int _) (.one (.int _))))
theorem dv{v:V}(r:Rep F v (dP d)):∃t,v=.ref t/\F t=some (.tup d.vals):=by
 cases d <;> (obtain⟨a,vs,rfl,h,b⟩:=r.inv;cases b.enc rfl;exact⟨a,rfl,h⟩)
theorem Sg.adopt(S:Sg E ss Z F H)(m:Mv E ss Z F H F H'){o:HO}(b:H t=none)(e:H' t=some o):Mv E ss Z F H (upd F t o) H':=by
 have fn:=S.Bd b;refine S.step (Ap fn o) (λa u q=>?_) m.hh (λa u q=>?_) λi l hi c=>m.st.EF hi c
 .by_cases z:a=t
  .subst z;rw[AO]at q;rw[<- q];exact e
  .rw[Ab z]at q;exact m.st.fh a u q
 .by_cases z:a=t
  .subst z;exact .inr b
  .rw[Ab z]at q;exact .inl q
theorem fA{i:Nat}(hi:ss[i]?=some .AF)(h:Wq ss ta λtp xs=>tp=false/\∃ns:List Str,xs=ns.map PV.str/\Wp ss tb λp=>∃m:Nat,p=.int m/\(∀x∈ns,Nm x)/\ns.length<=m/\1<=m/\m<=100/\∀d:AY,d.Ok m ns->k (dP d)):
  Wp ss (D3 V9 [] E0 (Al (BP i) (Al ta (Al tb BO)))) k:=⟨λE Z F H Q S q=>by
 obtain⟨p,e,_⟩:=S.ok i _ hi;refine⟨_,e,h.go E Z F H _ S λv tp xs F1 H1 b f⟨A,ns,ex,h2⟩=>h2.go E Z F1 H1 _ b.st λD p2 F2 H2 a g⟨m,B,u,n,h1,w,kk⟩=>?_⟩;subst A;subst ex;subst B;cases g.inv;obtain⟨l,vs,y,hn,c,r⟩:=f.mv a;subst y;rw[r.strs]at c;refine⟨p,l,m,ns,rfl,a.st.EF hi e,c,λz=>hn i hi (z▸e),u,n,h1,w,λd t H3 o s C hd=>?_⟩;have j:=a.st.adopt (a.st.Q2 hi e s) o C;exact q _ _ _ H3 (b.trans (a.trans j)) (ZCy AO) (kk d hd)⟩
end
end Fz
namespace Lw
open L2
variable{c t:Addr}{r:Str}{g:Int}{ss:List Str}
def dW:Sp:=λvs H Q _=>∃(a t:Addr)(tp:Bool)(ns:List Str)(g:Nat)(d:AY),vs=[.ref a,.int g,.ref t]/\H a=some (BF tp (ns.map V.str))/\H t=some (.tup d.vals)/\d.Ok 40 ns/\Q (.int (d.gap ns g:Nat)) H
def E7(H:Hp)(t c:Addr)(r:Str)(g:Int)(ss:List Str):Prop:=H t=some (.tup [.str r,.int g,.ref c])/\H c=some (.tup (ss.map V.str))
theorem E7.h{H:Hp}(h:E7 H t c r g ss):Js H t r g ss:=⟨c,h⟩
theorem E7.same{H H':Hp}(s:A8 H H')(h:E7 H t c r g ss):E7 H' t c r g ss:=⟨s _ _ h.1,s _ _ h.2⟩
def aA:Sp:=λvs H Q _=>∃(tl td a:Addr)(r:Str)(g:Nat)(ss:List Str)(d:AY),vs=[.ref tl,.ref td]/\E7 H tl a r g ss/\H td=some (.tup d.vals)/\ss.length<=60/\Up ss/\(∀x i,d=.put x i->x∉ss)/\
 ∀c H',(H c=none∨c=a)->A8 H H'->H' c=some (.tup ((d.Fp r g ss).map V.str))->Q (.ref c) H'
def M4:Sp:=λvs H Q _=>∃(a tl td c:Addr)(tp:Bool)(ns:List Str)(r:Str)(g:Nat)(ss:List Str)(d:AY),vs=[.ref a,.ref tl,.ref td]/\H a=some (BF tp (ns.map V.str))/\E7 H tl c r g ss/\H td=some (.tup d.vals)/\d.Ok 40 ns/\DG ns r g ss/\ns.length<=40/\
 ∀t' b H',H t'=none->(H b=none∨b=c)->A8 H H'->E7 H' t' b r (d.gap ns g:Nat) (d.Fp r g ss)->Q (.ref t') H'
def QV(K:ZEW):Sp:=λvs H Q _=>∃(a:Addr)(tp:Bool)(ns:List Str)(t:Addr)(r:Str)(g:Nat)(ss:List Str)(x:Str),vs=[.ref a,.ref t,.str x]/\H a=some (BF tp (ns.map V.str))/\Js H t r g ss/\ss.length<64/\x∈ns/\
 ∀t' b H',H t'=none->H b=none->A8 H H'->E7 H' t' b r ((ns.idxOf x:Nat)+1) (wo ss x)->Q (.ref t') H'
def Zg(H H':Hp)(t' t:Addr)(ns:List Str)(r:Str)(g:Nat)(ss:List Str):Prop:=
 (Ey ns g ss=[]/\H' t'=some (.tup [.A7,.ref t]))∨∃x GK a b,Ey ns g ss=x::GK/\H a=none/\H b=none/\H' t'=some (.tup [.str x,.ref a])/\E7 H' a b r ((ns.idxOf x:Nat)+1) (wo ss x)
def UN(K:ZEW):Sp:=λvs H Q _=>∃(a:Addr)(tp:Bool)(ns:List Str)(t:Addr)(r:Str)(g:Nat)(ss:List Str),vs=[.ref a,.ref t]/\H a=some (BF tp (ns.map V.str))/\Js H t r g ss/\ss.length<64/\Eg ns r g ss=true/\ns.length<=1000/\
 ∀t' H',H t'=none->A8 H H'->Zg H H' t' t ns r g ss->Q (.ref t') H'
def RF(K:ZEW):Sp:=λvs H Q _=>∃(a:Addr)(tp:Bool)(ns:List Str)(r:Str),vs=[.ref a,.str r]/\CS K tp H a (ns.map V.str)/\r∈Dk/\ns.length<64/\∀t c H' ts,H t=none->H c=none->A8 H H'->ts.Perm ns->sortedS ts=true->E7 H' t c r (0:Nat) ts->Q (.ref t) H'
end Lw
namespace Fz
open L2 Lw
variable{E:Ent0}{ss:List Slot}{Z:L2.St}{F F' F0 F1 H H' H0:Hp}{js m p:List Nat}{ta tb tc te ti:TE}{nx:List Slot->Prop}{R:Ai}{n t u x y:OV}{o:HO}{v:V}{r:Str}{g i j:Nat}{cs ns:List Str}{a b c:Addr}{ps xs ys:List PV}{A:Around}{Bf vs ws:List V}{A3 Ba:List Value}{Cw tp:Bool}{q:PV}{tr:TA}{us:List OV}{pre:Pre}
def Cc(r:Str)(g:Nat)(ss:List Str):PV:=.tup [.str r,.int g,.tup (ss.map .str)]
section
variable[Xw]
variable{K:ZEW}{k:PV->Prop}
theorem Mv.adopt(m:Mv E ss Z F H F1 H')(S:Sg E ss Z F H){t:Addr}(c:H t=Option.none)(e:H' t=some o):Mv E ss Z F H (upd F1 t o) H':=by
 have b:A8 F1 (upd F1 t o):=λa u q=>by
  by_cases z:a=t
  .subst z;have w:=m.st.fh _ _ q;rw[e]at w;rw[AO];exact w
  .rw[Ab z];exact q
 refine S.step (m.ff.trans b) (λa u q=>?_) m.hh (λa u q=>?_) λi l hi d=>m.st.EF hi d
 .by_cases z:a=t
  .subst z;rw[AO]at q;rw[<- q];exact e
  .rw[Ab z]at q;exact m.st.fh a u q
 .by_cases z:a=t
  .subst z;exact .inr c
  .rw[Ab z]at q;exact m.nn a u q
theorem Xc(h:Rep F v (Cc r g cs)):∃t c,v=.ref t/\E7 F t c r g cs:=by
 obtain⟨_,_,rfl,e,q⟩:=h.inv;obtain⟨_,_,rfl,a,q⟩:=q.inv;obtain⟨_,_,rfl,b,q⟩:=q.inv;obtain⟨_,_,rfl,c,q⟩:=q.inv;cases q;cases a;cases b;obtain⟨_,_,rfl,d,q2⟩:=c.inv;rw[q2.strs]at d;exact⟨_,_,rfl,e,d⟩
theorem Y7{t:Addr}(h:E7 F t c r g cs):Rep F (.ref t) (Cc r g cs):=.tup h.1 (.cons (.str _) (.cons (.int _) (.one (.tup h.2 (R4 cs)))))
theorem Mv.XA(m:Mv E ss Z F H F1 H')(S:Sg E ss Z F H){t i:Addr}(j:H t=Option.none)(b:H c=Option.none∨c=i)(k:F i=some o)(e:E7 H' t c r g cs):∃F2,Mv E ss Z F H F2 H'/\A8 F1 F2/\Rep F2 (.ref t) (Cc r g cs):=by
 have key:∃F2,Mv E ss Z F H F2 H'/\A8 F1 F2/\F2 c=some (.tup (cs.map V.str)):=by
  rcases b with b|rfl
  .refine⟨_,m.adopt S b e.2,λa u q=>?_,AO⟩
   by_cases z:a=c
   .subst z;have w:=m.st.fh _ _ q;rw[e.2]at w;rw[AO];exact w
   .rw[Ab z];exact q
  .refine⟨F1,m,A8.refl _,?_⟩;have w:=m.ff _ _ k;have d:=m.st.fh _ _ w;rw[e.2]at d;rw[w,<- d]
 obtain⟨F2,h,s2,Kv⟩:=key;have f:A8 F2 (upd F2 t (.tup [.str r,.int g,.ref c])):=λa u q=>by
  by_cases z:a=t
  .subst z;have w:=h.st.fh _ _ q;rw[e.1]at w;rw[AO];exact w
  .rw[Ab z];exact q
 exact⟨_,h.adopt S j e.1,s2.trans f,Y7 ⟨AO,f _ _ Kv⟩⟩
theorem iZ(h:Wq ss ta λtp xs=>∃ns:List Str,xs=ns.map PV.str/\Wp ss tb λp=>∃(r:Str)(g:Nat)(cs:List Str),p=Cc r g cs/\Wp ss tc λp2=>∃d:AY,p2=dP d/\d.Ok 40 ns/\DG ns r g cs/\ns.length<=40/\k (Cc r (d.gap ns g) (d.Fp r g cs))):
  Wp ss (D3 M4 [] E0 (Al ta (Al tb (Al tc BO)))) k:=⟨λE Z F H Q S q=>
 h.go E Z F H _ S λv tp xs F1 H1 c i⟨ns,ex,h2⟩=>h2.go E Z F1 H1 _ c.st λD p2 F2 H2 b o⟨r,g,cs,ep,x⟩=>x.go E Z F2 H2 _ b.st λC G F3 H3 a n⟨d,z,hd,y,u,kk⟩=>by
  subst ex;subst ep;subst z;obtain⟨l,vs,rfl,f,j⟩:=(i.mv (b.trans a)).seq a.st;rw[j.strs]at f;obtain⟨tl,B,rfl,e⟩:=Xc (o.mono a.ff);obtain⟨t,rfl,w⟩:=dv n;refine⟨l,tl,t,B,tp,ns,r,g,cs,d,rfl,f,e.same a.st.fh,a.st.fh _ _ w,hd,y,u,λt' I H4 Hh GL s4 A=>?_⟩;obtain⟨F4,s,_,m⟩:=(a.st.grow s4).XA a.st Hh GL e.2 A;exact q _ _ F4 H4 (c.trans (b.trans (a.trans s))) m kk⟩
def JV(ns:List Str)(r:Str)(g:Nat)(cs:List Str):PV:=match Ey ns g cs with
 | []=>.tup [.A7,Cc r g cs]
 |x::_=>.tup [.str x,Cc r (ns.idxOf x+1) (wo cs x)]
theorem Mv.sV(m:Mv E ss Z F H F1 H')(S:Sg E ss Z F H){t t':Addr}(d:H t'=Option.none)(j:E7 F t c r g cs)(e:Zg H H' t' t ns r g cs):∃F2,Mv E ss Z F H F2 H'/\Rep F2 (.ref t') (JV ns r g cs):=by
 rcases e with⟨f,e⟩|⟨x,GK,h,o,f,h2,n,e,l⟩
 .refine⟨_,m.adopt S d e,?_⟩;have b:=(m.adopt S d e).ff;unfold JV;rw[f];exact .tup AO (.cons .A7 (.one (Y7 (j.same b))))
 .have p:E7 H' h o r ((ns.idxOf x+1:Nat):Int) (wo cs x):=l;obtain⟨F2,i,_,k⟩:=m.XA S h2 (.inl n) j.1 p;refine⟨_,i.adopt S d e,?_⟩;have b:A8 F2 (upd F2 t' (.tup [.str x,.ref h])):=λa u q=>by
   by_cases z:a=t'
   .subst z;have w:=i.st.fh _ _ q;rw[e]at w;rw[AO];exact w
   .rw[Ab z];exact q
  unfold JV;rw[f];exact .tup AO (.cons (.str _) (.one (k.mono b)))
theorem oH(h:Wq ss ta λtp xs=>∃ns:List Str,xs=ns.map PV.str/\Wp ss tb λp=>∃(r:Str)(g:Nat)(cs:List Str),p=Cc r g cs/\DG ns r g cs/\ns.length<=60/\k (JV ns r g cs)):
  Wp ss (D3 (UN K) [] E0 (Al ta (Al tb BO))) k:=⟨λE Z F H Q S q=>
 h.go E Z F H _ S λv tp xs F1 H1 b i⟨ns,ex,h2⟩=>h2.go E Z F1 H1 _ b.st λt p2 F2 H2 a n⟨r,g,cs,ep,f,u,kk⟩=>by
  subst ex;subst ep;obtain⟨l,vs,rfl,e,j⟩:=(i.mv a).seq a.st;rw[j.strs]at e;obtain⟨tl,w,rfl,c⟩:=Xc n;have d:=f.len;refine⟨l,tp,ns,tl,r,g,cs,rfl,e,(c.same a.st.fh).h,by omega,f.Eg,by omega,λt' H4 Hh s4 s=>?_⟩;obtain⟨F4,o,m⟩:=(a.st.grow s4).sV a.st Hh c s;exact q _ _ F4 H4 (b.trans (a.trans o)) m kk⟩
theorem bY(h:Wq ss ta λtp xs=>∃ns:List Str,xs=ns.map PV.str/\Wp ss tb λp=>∃r:Str,p=.str r/\r∈Dk/\ns.length<64/\∀ts:List Str,ts.Perm ns->sortedS ts=true->k (Cc r 0 ts)):
  Wp ss (D3 (RF K) [] E0 (Al ta (Al tb BO))) k:=⟨λE Z F H Q S q=>
 h.go E Z F H _ S λv tp xs F1 H1 c f⟨ns,ex,h2⟩=>h2.go E Z F1 H1 _ c.st λw p2 F2 H2 a j⟨r,ep,t,s,kk⟩=>by
  subst ex;subst ep;cases j.inv;obtain⟨l,vs,rfl,d,g⟩:=(f.mv a).seq a.st;rw[g.strs]at d;refine⟨l,tp,ns,r,rfl,BF.sq d,t,s,λt' e H4 ts Hh GL s4 m st u=>?_⟩;have b:E7 H4 t' e r ((0:Nat):Int) ts:=u;have o:=(a.st.grow s4).adopt a.st GL b.2;obtain⟨F4,n,_,i⟩:∃F4,Mv E ss Z F2 H2 F4 H4/\True/\Rep F4 (.ref t') (Cc r 0 ts):=by
   refine⟨_,o.adopt a.st Hh b.1,trivial,Y7 ⟨AO,?_⟩⟩
   by_cases z:e=t'
   .subst z;rw[AO];exact b.1.symm.trans b.2
   .rw[Ab z,AO]
  exact q _ _ F4 H4 (c.trans (a.trans n)) i (kk ts m st)⟩
end
mutual
def DM:PV->PV->Bool
 | .lst xs,.lst ys=>CV xs ys
 | .tup xs,.tup ys=>CV xs ys
 | .tup xs,.con _ ys=>CV xs ys
 | .con _ xs,.tup ys=>CV xs ys
 | .con _ xs,.con _ ys=>CV xs ys
 | .A7,.A7=>true
 | .bl a,.bl b=>a == b
 | .bl a,.int b=>(if a then 1 else 0) == b
 | .int a,.bl b=>a == (if b then 1 else 0)
 | .int a,.int b=>a == b
 | .str a,.str b=>a == b
 |_,_=>false
def CV:List PV->List PV->Bool
 | [],[]=>true
 |x::r,y::t=>DM x y && CV r t
 |_,_=>false
end
theorem QJ(x y:PV)(r t:List PV):CV (x::r) (y::t)=(DM x y && CV r t):=by rw[CV]
theorem Xd:∀(xs ys:List PV),xs.length≠ys.length->CV xs ys=false
 | [],[],h=>absurd rfl h
 | [],_::_,_=>by rw[CV];all_goals simp
 |_::_,[],_=>by rw[CV];all_goals simp
 |x::r,y::t,h=>by rw[QJ,Xd r t (by simpa using h),SK]
theorem UD:∀(xs ys:List PV),xs.length=ys.length->CV xs ys=(List.range xs.length).all λj=>DM (xs.getD j .A7) (ys.getD j .A7)
 | [],[],_=>by rw[CV];rfl
 |x::r,y::t,h=>by
  rw[QJ,UD r t (by simpa using h),Bw,List.range_succ_eq_map,SQ,jV]
  rfl
def dat(K:ZEW):Nat->PV->Prop
 |_,.A7=>True
 |_,.bl _=>True
 |_,.int _=>True
 |_,.str _=>True
 |d+1,.lst xs=>∀x∈xs,dat K d x
 |d+1,.tup xs=>∀x∈xs,dat K d x
 |d+1,.con a xs=>(∀x∈xs,dat K d x)/\xs.all flat=true/\∀H,AD K H a (xs.map Fz.enc)
 |_,_=>False
inductive Ez (K:ZEW) (H:Hp):V->PV->Bool->Addr->List V->List PV->Prop where
 |lst {a:Addr}{vs:List V}{xs:List PV}:AQ K H a vs->AS H vs xs->Ez K H (.ref a) (.lst xs) false a vs xs
 |tup {a:Addr}{vs:List V}{xs:List PV}:AD K H a vs->AS H vs xs->Ez K H (.ref a) (.tup xs) true a vs xs
 |con {a:Addr}{vs:List V}{xs:List PV}:AD K H a vs->AS H vs xs->Ez K H (.ref a) (.con a xs) true a vs xs
theorem HS{K:ZEW}:∀{d:Nat}{x:V}{p:PV},dat K d p->Rep H x p->(flat p=true/\x=Fz.enc p)∨∃d' tp a vs xs,d=d'+1/\Ez K H x p tp a vs xs/\∀y∈xs,dat K d' y:=by
 intro d x p h r;cases r with
 |A7=>exact .inl ⟨rfl,rfl⟩
 |bl b=>exact .inl ⟨rfl,rfl⟩
 |int b=>exact .inl ⟨rfl,rfl⟩
 |str b=>exact .inl ⟨rfl,rfl⟩
 |lst e r=>cases d with
  |zero=>exact h.elim
  |succ d=>exact .inr ⟨d,_,_,_,_,rfl,.lst (AQ.of e) r,h⟩
 |tup e r=>cases d with
  |zero=>exact h.elim
  |succ d=>exact .inr ⟨d,_,_,_,_,rfl,.tup (AD.of e) r,h⟩
 |con=>cases d with
  |zero=>exact h.elim
  |succ d=>obtain⟨h1,h2,c⟩:=h;exact .inr ⟨d,_,_,_,_,rfl,.con (c H) (fk h2),h1⟩
 |AL _ _ _=>cases d <;> exact h.elim
 |obj _ _ _ _=>cases d <;> exact h.elim
 |Oq _=>cases d <;> exact h.elim
 |exc _ _ _ _=>cases d <;> exact h.elim
section
variable{X:Cx}{Zi:ZEX}{s:Shared}
theorem ZBv(d:Vals vs A3)(c:Vals ws Ba)(q1:AS H vs xs)(q2:AS H ws ys)
  (h:∀(x y:V)(p q:PV)(u v:Value),p∈xs->q∈ys->Rep H x p->Rep H y q->RelV x u->RelV y v->SeqAt.EqAt A s u v (DM p q)) :
  ∀j(h1:j<A3.toArray.size)(h2:j<Ba.toArray.size),SeqAt.EqAt A s A3.toArray[j] Ba.toArray[j] ((λj=>DM (xs.getD j .A7) (ys.getD j .A7)) j):=λj h1 h2=>by
 have l1:=d.length;have l2:=c.length;have z:=q1.length;have w:=q2.length;have t:j<A3.length:=by simpa using h1
 have o:j<Ba.length:=by simpa using h2
 have b:j<xs.length:=by omega
 have a:j<ys.length:=by omega
 obtain⟨x,hx,g⟩:=q1.get (i:=j) (p:=xs[j]) (Am b);obtain⟨y,m,f⟩:=q2.get (i:=j) (p:=ys[j]) (Am a);obtain⟨u,e,l⟩:=d.get hx;obtain⟨v,hv,k⟩:=c.get m;rw[Am t]at e;rw[Am o]at hv;have n:A3[j]=u:=BE e;have r:Ba[j]=v:=BE hv;have q:=h x y _ _ u v (Gx b) (Gx a) g f l k;rw[<- n,<- r]at q;show SeqAt.EqAt A s _ _ (DM (xs.getD j .A7) (ys.getD j .A7));rw[Ml,Am b,Ml,Am a]
 simpa using q
theorem fc{p:PV}{x:V}(h:Ez X.K H x p tp a vs xs)(f:flat q=true):DM p q=false/\DM q p=false:=by
 cases h <;> cases q <;> first|exact Bool.noConfusion f|exact⟨rfl,rfl⟩
theorem gp{p:PV}{x y:V}(h:Ez X.K H x p tp a vs xs)(h2:Ez X.K H y q Cw b ws ys):DM p q=(if tp=Cw then CV xs ys else false):=by
 cases h <;> cases h2 <;> rfl
theorem Pm{p:PV}(h:flat p=true)(h2:flat q=true):DM p q=DF (Fz.enc p) (Fz.enc q):=by
 cases p <;> cases q <;> first|exact Bool.noConfusion h|exact Bool.noConfusion h2|rfl
def Pa(h:Heap)(tp:Bool)(a:Addr)(A3:Array Value):Prop:=if tp then IsTup h a A3 else h.IsList a A3
theorem Ez.He(I:Inv X Zi Z H s){x:V}{p:PV}(h:Ez X.K H x p tp a vs xs):∃A3:List Value,x=.ref a/\Vals vs A3/\Pa s.heap tp a A3.toArray/\AS H vs xs:=by
 cases h with
 |lst h r=>obtain⟨A3,b,c,_⟩:=I.list h;exact⟨A3,rfl,b,c.isList,r⟩
 |tup h r=>obtain⟨A3,b,c,_⟩:=I.tuple h;exact⟨A3,rfl,b,c,r⟩
 |con h r=>obtain⟨A3,b,c,_⟩:=I.tuple h;exact⟨A3,rfl,b,c,r⟩
theorem gH{A3:Array Value}{v:Value}(h:Pa s.heap tp a A3)(f:flat q=true)(c:RelV (Fz.enc q) v)(b:A.units<cLine):
  (SeqAt.EqAt A s (.ref a) v false/\SeqAt.EqAt A s v (.ref a) false)/\(SeqAt.RcAt A s (.ref a) v false/\SeqAt.RcAt A s v (.ref a) false)/\(SeqAt.RcNeAt A s (.ref a) v true/\SeqAt.RcNeAt A s v (.ref a) true):=by
 cases tp with
 |false=>
  have h':s.heap.IsList a A3:=h;cases q <;> first|exact Bool.noConfusion f|skip
  .cases c;exact⟨⟨.list_none h' b,.none_list h' b⟩,⟨.list_none h' b,.none_list h' b⟩,⟨.list_none h' b,.none_list h' b⟩⟩
  .cases c;exact⟨⟨.list_bool _ h' b,.bool_list _ h' b⟩,⟨.list_bool _ h' b,.bool_list _ h' b⟩,⟨.list_bool _ h' b,.bool_list _ h' b⟩⟩
  .obtain⟨t,rfl⟩:=c;exact⟨⟨.list_int _ _ h' b,.int_list _ _ h' b⟩,⟨.list_int _ _ h' b,.int_list _ _ h' b⟩,⟨.list_int _ _ h' b,.int_list _ _ h' b⟩⟩
  .obtain⟨t,rfl⟩:=c;exact⟨⟨.list_str _ _ h' b,.str_list _ _ h' b⟩,⟨.list_str _ _ h' b,.str_list _ _ h' b⟩,⟨.list_str _ _ h' b,.str_list _ _ h' b⟩⟩
 |true=>
  have h':IsTup s.heap a A3:=h;cases q <;> first|exact Bool.noConfusion f|skip
  .cases c;exact⟨⟨.tuple_none h' b,.none_tuple h' b⟩,⟨.tuple_none h' b,.none_tuple h' b⟩,⟨.tuple_none h' b,.none_tuple h' b⟩⟩
  .cases c;exact⟨⟨.tuple_bool _ h' b,.bool_tuple _ h' b⟩,⟨.tuple_bool _ h' b,.bool_tuple _ h' b⟩,⟨.tuple_bool _ h' b,.bool_tuple _ h' b⟩⟩
  .obtain⟨t,rfl⟩:=c;exact⟨⟨.tuple_int _ _ h' b,.int_tuple _ _ h' b⟩,⟨.tuple_int _ _ h' b,.int_tuple _ _ h' b⟩,⟨.tuple_int _ _ h' b,.int_tuple _ _ h' b⟩⟩
  .obtain⟨t,rfl⟩:=c;exact⟨⟨.tuple_str _ _ h' b,.str_tuple _ _ h' b⟩,⟨.tuple_str _ _ h' b,.str_tuple _ _ h' b⟩,⟨.tuple_str _ _ h' b,.str_tuple _ _ h' b⟩⟩
theorem Ez.inj(I:Inv X Zi Z H s){x y:V}{p q:PV}{tp Cw:Bool}{a:Addr}{vs ws:List V}{xs ys:List PV}(h:Ez X.K H x p tp a vs xs)(h2:Ez X.K H y q Cw a ws ys):tp=Cw/\vs=ws:=by
 have no:∀{vs ws:List V},AQ X.K H a vs->AD X.K H a ws->False:=λ{vs ws}h1 h2=>by
  obtain⟨A3,_,f,_⟩:=I.list h1;obtain⟨Ba,_,p2,_⟩:=I.tuple h2;obtain⟨o,n,e,c,_⟩:=f;obtain⟨g,b,d,_⟩:=p2;rw[e]at b;cases b;rw[c]at d;exact absurd d (by decide)
 cases h with
 |lst h r=>cases h2 with
  |lst h2 _=>exact⟨rfl,I.iX h h2⟩
  |tup h2 _=>exact(no h h2).elim
  |con h2 _=>exact(no h h2).elim
 |tup h r=>cases h2 with
  |lst h2 _=>exact(no h2 h).elim
  |tup h2 _=>exact⟨rfl,I.OB h h2⟩
  |con h2 _=>exact⟨rfl,I.OB h h2⟩
 |con h r=>cases h2 with
  |lst h2 _=>exact(no h2 h).elim
  |tup h2 _=>exact⟨rfl,I.OB h h2⟩
  |con h2 _=>exact⟨rfl,I.OB h h2⟩
theorem eP{p:PV}(h:flat p=true):DF (Fz.enc p) (Fz.enc p)=true:=by cases p <;> first|exact Bool.noConfusion h|exact pI _|rfl
theorem vF(i:∀(x:V)(p q:PV),Rep H x p->Rep H x q->dat X.K d p->dat X.K d q->DM p q=true)(g:AS H vs xs)(c:AS H vs ys)(h1:∀x∈xs,dat X.K d x)(h2:∀y∈ys,dat X.K d y):CV xs ys=true:=by
 induction xs generalizing vs ys with
 |nil=>
  cases g.Cy;cases ys with
  |nil=>rfl
  |cons y t=>obtain⟨v,ws,e,_⟩:=c.inv;cases e
 |cons x xs f=>
  obtain⟨v,ws,rfl,a,b⟩:=g.inv;cases ys with
  |nil=>have e:=c.Cy;cases e
  |cons y t=>
   obtain⟨l,h,e,k,j⟩:=c.inv;cases e;rw[QJ,i _ _ _ a k (h1 _ CJ) (h2 _ CJ),f b j (λx hx=>h1 x (Ca _ hx)) (λx hx=>h2 x (Ca _ hx))];rfl
theorem ZA4(I:Inv X Zi Z H s):∀(d:Nat)(x:V)(p q:PV),Rep H x p->Rep H x q->dat X.K d p->dat X.K d q->DM p q=true:=λd=>by
 induction d with
 |zero=>
  intro x p q j g h1 h2;rcases HS h1 j with⟨h,i⟩|⟨d',_,_,_,_,e,_⟩
  .rcases HS h2 g with⟨c,f⟩|⟨d',_,_,_,_,e,_⟩
   .rw[Pm h c,<- i,f];exact eP c
   .cases e
  .cases e
 |succ d o=>
  intro x p q j g h1 h2;rcases HS h1 j with⟨h,i⟩|⟨v,tp,a,vs,xs,e,q1,k1⟩
  .rcases HS h2 g with⟨c,f⟩|⟨u,Cw,b,ws,ys,e,q2,k⟩
   .rw[Pm h c,<- i,f];exact eP c
   .obtain⟨_,ex,_⟩:=q2.He I;subst ex;cases p <;> first|(cases h;done)|(cases i;done)
  .cases e;rcases HS h2 g with⟨c,f⟩|⟨u,Cw,b,ws,ys,e,q2,k⟩
   .obtain⟨_,ex,_⟩:=q1.He I;subst ex;cases q <;> first|(cases c;done)|(cases f;done)
   .cases e;obtain⟨_,ex,_,_,n⟩:=q1.He I;obtain⟨_,l,_,_,m⟩:=q2.He I;rw[ex]at l;cases l;obtain⟨t,r⟩:=q1.inj I q2;subst r;rw[gp q1 q2,kz t];exact vF o n m k1 k
theorem ZBw(b:Vals vs A3)(a:Vals ws Ba)(q1:AS H vs xs)(q2:AS H ws ys):A3.toArray.size=xs.length/\Ba.toArray.size=ys.length:=by
 have l1:=b.length;have l2:=a.length;have d:=q1.length;have c:=q2.length;simp only[Bm];omega
theorem mQ(h1:Pa s.heap tp a A3.toArray)(h2:Pa s.heap Cw b Ba.toArray)(m:Vals vs A3)(l:Vals ws Ba)(q1:AS H vs xs)(q2:AS H ws ys)(c:A.units<cLine)
  (h:∀(x y:V)(p q:PV)(u v:Value),p∈xs->q∈ys->Rep H x p->Rep H y q->RelV x u->RelV y v->SeqAt.EqAt A.in1 s u v (DM p q)) :
  SeqAt.RcAt A s (.ref a) (.ref b) (if tp=Cw then CV xs ys else false)/\SeqAt.RcNeAt A s (.ref a) (.ref b) (!(if tp=Cw then CV xs ys else false)):=by
 obtain⟨i,k⟩:=ZBw m l q1 q2;have it:=ZBv (A:=A.in1) m l q1 q2 h;cases tp with
 |false=>cases Cw with
  |false=>
   rw[kz rfl];have g:s.heap.IsList a A3.toArray:=h1;have f:s.heap.IsList b Ba.toArray:=h2
   by_cases d:xs.length=ys.length
   .rw[UD xs ys d,<- i];exact⟨.lists g f (by omega) c it,.lists g f (by omega) c it⟩
   .rw[Xd xs ys d];have o:(A3.toArray.size != Ba.toArray.size)=true:=by simp only[bne_iff_ne,ne_eq];omega
    exact⟨.lists_lengths g f o c,.lists_lengths g f o c⟩
  |true=>rw[km (by decide)];exact⟨.list_tuple h1 h2 c,.list_tuple h1 h2 c⟩
 |true=>cases Cw with
  |false=>rw[km (by decide)];exact⟨.tuple_list h1 h2 c,.tuple_list h1 h2 c⟩
  |true=>
   rw[kz rfl];have g:IsTup s.heap a A3.toArray:=h1;have f:IsTup s.heap b Ba.toArray:=h2;have e:((List.range (min A3.toArray.size Ba.toArray.size)).all (λj=>DM (xs.getD j .A7) (ys.getD j .A7)) && A3.toArray.size == Ba.toArray.size)=CV xs ys:=by
    by_cases d:xs.length=ys.length
    .rw[UD xs ys d,i,k,<- d,jr,pI,jR]
    .rw[Xd xs ys d,i,k,show(xs.length == ys.length)=false from by simpa using d,SK]
   have k1:=SeqAt.RcAt.tuples (A:=A) (e:=λj=>DM (xs.getD j .A7) (ys.getD j .A7)) g f c it;have n:=k9 (A:=A) (e:=λj=>DM (xs.getD j .A7) (ys.getD j .A7)) g f c it;rw[e]at k1 n;exact⟨k1,n⟩
theorem Zo(I:Inv X Zi Z H s):∀(d:Nat)(x y:V)(p q:PV),Rep H x p->Rep H y q->dat X.K d p->dat X.K d q->∀(A:Around)(u v:Value),RelV x u->RelV y v->A.units+d<cLine->SeqAt.EqAt A s u v (DM p q):=λd=>by
 induction d with
 |zero=>
  intro x y p q k h h1 h2 A u v f c F;rcases HS h1 k with⟨i,m⟩|⟨_,_,_,_,_,e,_⟩
  .rcases HS h2 h with⟨g,l⟩|⟨_,_,_,_,_,e,_⟩
   .subst m;subst l;rw[Pm i g];exact Pk f c (Pb i) (Pb g)
   .cases e
  .cases e
 |succ d E=>
  intro x y p q k h h1 h2 A u v f c F;rcases HS h1 k with⟨i,m⟩|⟨M,tp,a,vs,xs,e,q1,k1⟩
  .rcases HS h2 h with⟨g,l⟩|⟨L,Cw,b,ws,ys,e,q2,o⟩
   .subst m;subst l;rw[Pm i g];exact Pk f c (Pb i) (Pb g)
   .obtain⟨A3,n,_,j,_⟩:=q2.He I;subst m;subst n;cases(show v=Value.ref b from c);rw[(fc q2 i).2];exact(gH j i f (by omega)).1.2
  .cases e;rcases HS h2 h with⟨g,l⟩|⟨L,Cw,b,ws,ys,e,q2,o⟩
   .obtain⟨A3,ex,_,j,_⟩:=q1.He I;subst l;subst ex;cases(show u=Value.ref a from f);rw[(fc q1 g).1];exact(gH j g c (by omega)).1.1
   .cases e;obtain⟨A3,ex,B,D,w⟩:=q1.He I;obtain⟨Ba,n,z,C,t⟩:=q2.He I;subst ex;subst n;cases(show u=Value.ref a from f);cases(show v=Value.ref b from c)
    by_cases r:a=b
    .subst r;rw[ZA4 I (d+1) _ p q k h h1 h2];exact .same _
    .rw[gp q1 q2];refine SeqAt.EqAt.of_refs r (mQ D C B z w t (by omega) λx y p q u v J G k h f c=>?_).1;exact E x y p q k h (k1 p J) (o q G) A.in1 u v f c (by show A.units+1+d<cLine;omega)
end
noncomputable def OV.at(t:OV):List Nat->Option OV
 | []=>some t
 |j::p=>match t with
  | .nd _ _ xs=>(xs[j]?).bind λx=>OV.at x p
  | .tp xs=>(xs[j]?).bind λx=>OV.at x p
  | .fz _=>none
noncomputable def OV.put(t:OV)(l:List Nat)(n:OV):OV:=match l with
 | []=>n
 |j::p=>match t with
  | .nd k a xs=>match xs[j]? with
   |some x=>.nd k a (xs.set j (OV.put x p n))
   |none=>.nd k a xs
  | .tp xs=>match xs[j]? with
   |some x=>.tp (xs.set j (OV.put x p n))
   |none=>.tp xs
  | .fz q=>.fz q
theorem OV.Hs:t.at []=some t:=by rw[OV.at]
theorem OV.Kh{k:NK}{xs:List OV}:(OV.nd k a xs).at (j::p)=(xs[j]?).bind λx=>x.at p:=by rw[OV.at]
theorem OV.O6{xs:List OV}:(OV.tp xs).at (j::p)=(xs[j]?).bind λx=>x.at p:=by rw[OV.at]
theorem OV.DN:t.put [] n=n:=by rw[OV.put]
theorem OV.GU{k:NK}{xs:List OV}(h:xs[j]?=some x):(OV.nd k a xs).put (j::p) n=.nd k a (xs.set j (x.put p n)):=by rw[OV.put,h]
theorem OV.RT{xs:List OV}(h:xs[j]?=some x):(OV.tp xs).put (j::p) n=.tp (xs.set j (x.put p n)):=by rw[OV.put,h]
theorem OV.LZ{u w:OV}:∀{p:List Nat}{t:OV}{j:Nat},t.at p=some u->u.at [j]=some w->t.at (p++[j])=some w
 | [],t,j,h,h2=>by rw[OV.Hs]at h;cases h;exact h2
 |i::p,.nd k a xs,j,h,h2=>by
  rw[OV.Kh]at h;rw[Yo,OV.Kh];cases e:xs[i]? with
  |none=>rw[e]at h;cases h
  |some x=>rw[e]at h;exact OV.LZ (t:=x) h h2
 |i::p,.tp xs,j,h,h2=>by
  rw[OV.O6]at h;rw[Yo,OV.O6];cases e:xs[i]? with
  |none=>rw[e]at h;cases h
  |some x=>rw[e]at h;exact OV.LZ (t:=x) h h2
 |i::p,.fz q,j,h,h2=>by rw[OV.at]at h;cases h
theorem Iz:∀{xs:List OV}{j:Nat}{x:OV},xs[j]?=some x->∃l r,OV.Ag xs=l++x.addrs++r/\∀y:OV,OV.Ag (xs.set j y)=l++y.addrs++r
 |x::xs,0,z,h=>by
  simp at h;subst h;exact⟨[],OV.Ag xs,by rw[OV.CQ];rfl,λy=>by rw[Yy,OV.CQ];rfl⟩
 |x::xs,j+1,z,h=>by
  obtain⟨l,r,b,a⟩:=Iz (xs:=xs) (j:=j) (x:=z) (by simpa using h)
  refine⟨x.addrs++l,r,by rw[OV.CQ,b];simp[BV],λy=>by rw[SY,OV.CQ,a];simp[BV]⟩
theorem OV.split{u:OV}:∀{p:List Nat}{t:OV},t.at p=some u->∃l r,t.addrs=l++u.addrs++r/\∀n:OV,(t.put p n).addrs=l++n.addrs++r
 | [],t,h=>by rw[OV.Hs]at h;cases h;exact⟨[],[],by simp,λn=>by rw[OV.DN];simp⟩
 |j::p,.nd k a xs,h=>by
  rw[OV.Kh]at h;cases e:xs[j]? with
  |none=>rw[e]at h;cases h
  |some x=>
   rw[e]at h;obtain⟨l,r,g,f⟩:=Iz e;obtain⟨l2,b,d,c⟩:=OV.split (t:=x) h;refine⟨a::(k.more++(l++l2)),b++r,by rw[OV.Cm,g,d];simp[BV],λn=>by rw[OV.GU e,OV.Cm,f,c];simp[BV]⟩
 |j::p,.tp xs,h=>by
  rw[OV.O6]at h;cases e:xs[j]? with
  |none=>rw[e]at h;cases h
  |some x=>
   rw[e]at h;obtain⟨l,r,g,f⟩:=Iz e;obtain⟨l2,b,d,c⟩:=OV.split (t:=x) h;refine⟨l++l2,b++r,by rw[OV.HP,g,d];simp[BV],λn=>by rw[OV.RT e,OV.HP,f,c];simp[BV]⟩
 |j::p,.fz q,h=>by rw[OV.at]at h;cases h
theorem BG.get{F H:Hp}{vs:List V}{ts:List OV}{j:Nat}{t:OV}(r:BG F H vs ts)(e:ts[j]?=some t):∃v,vs[j]?=some v/\B4 F H v t:=by
 induction ts generalizing vs j with
 |nil=>cases e
 |cons q ps c=>
  obtain⟨v,ws,rfl,a,b⟩:=r.inv;cases j with
  |zero=>cases e;exact⟨_,rfl,a⟩
  |succ j=>exact c (vs:=ws) (j:=j) b e
theorem BG.append{xs ys:List OV}(r:BG F H vs xs)(s:BG F H ws ys):BG F H (vs++ws) (xs++ys):=by
 induction xs generalizing vs with
 |nil=>cases r.Cy;exact s
 |cons p ps c=>obtain⟨v,us,rfl,a,b⟩:=r.inv;exact .cons a (c b)
theorem BG.one(r:B4 F H v t):BG F H [v] [t]:=.cons r .nil
theorem zh(r:AS F vs xs):BG F H vs (xs.map .fz):=by
 induction xs generalizing vs with
 |nil=>cases r.Cy;exact .nil
 |cons p ps c=>obtain⟨v,us,rfl,a,b⟩:=r.inv;exact .cons (.fz a) (c b)
theorem BG.PF(r:BG F H vs (xs.map .fz)):AS F vs xs:=by
 induction xs generalizing vs with
 |nil=>cases r.Cy;exact .nil
 |cons p ps c=>obtain⟨v,us,rfl,a,b⟩:=r.inv;exact .cons a.inv (c b)
theorem aG:∀(xs:List PV),OV.Ag (xs.map .fz)=[]
 | []=>by rw[SW,OV.Ag]
 |x::r=>by rw[Bh,OV.CQ,OV.GZ,aG r];rfl
theorem BG.set{xs:List OV}(j:Nat)(r:BG F H vs xs)(q:B4 F H v t):BG F H (vs.set j v) (xs.set j t):=by
 induction xs generalizing vs j with
 |nil=>cases r.Cy;exact .nil
 |cons p ps c=>
  obtain⟨u,us,rfl,a,b⟩:=r.inv;cases j with
  |zero=>exact .cons q b
  |succ j=>exact .cons a (c j b)
theorem BG.swap{xs:List OV}(r:BG F H vs xs)(h:xs[j]?=some x)(hv:vs[j]?=some v)(hk:∀l r,OV.Ag xs=l++x.addrs++r->(∀z:OV,OV.Ag (xs.set j z)=l++z.addrs++r)->∀b∈l++r,∀o,H b=some o->H' b=some o)(e:B4 F H' v y):BG F H' vs (xs.set j y):=by
 induction xs generalizing vs j with
 |nil=>cases h
 |cons p ps i=>
  obtain⟨u,us,rfl,a,b⟩:=r.inv;cases j with
  |zero=>
   cases h;cases hv;refine .cons e (b.mono (A8.refl _) λc d o=>hk [] (OV.Ag ps) (by rw[OV.CQ];rfl) (λz=>by rw[Yy,OV.CQ];rfl) c d o)
  |succ j=>
   rw[SY];obtain⟨l,q,m,k⟩:=Iz (xs:=ps) (j:=j) h;refine .cons (a.mono (A8.refl _) λc d o=>hk (p.addrs++l) q (by rw[OV.CQ,m,BV,BV,BV]) (λz=>by rw[SY,OV.CQ,k,BV,BV,BV]) c (Gz _ (Gz _ d)) o) (i (vs:=us) (j:=j) b h hv λg f De C5 c d o=>?_);refine hk (p.addrs++g) f (by rw[OV.CQ,De,BV,BV,BV]) (λz=>by rw[SY,OV.CQ,C5,BV,BV,BV]) c ?_ o;rcases List.mem_append.mp d with hz|hz
   .exact Gz _ (El _ hz)
   .exact El _ hz
theorem B4.at{F H:Hp}{u:OV}:∀{p:List Nat}{t:OV}{v:V},B4 F H v t->t.at p=some u->∃w,B4 F H w u/\∀(H':Hp)(n:OV),B4 F H' w n->(∀l r,t.addrs=l++u.addrs++r->(∀n:OV,(t.put p n).addrs=l++n.addrs++r)->∀b∈l++r,∀o,H b=some o->H' b=some o)->B4 F H' v (t.put p n)
 | [],t,v,h,e=>by rw[OV.Hs]at e;cases e;exact⟨v,h,λH' n r _=>by rw[OV.DN];exact r⟩
 |j::p,.fz q,v,h,e=>by rw[OV.at]at e;cases e
 |j::p,.nd k a xs,_,.nd h sd ft r,e=>by
  rw[OV.Kh]at e;cases ex:xs[j]? with
  |none=>rw[ex]at e;cases e
  |some x=>
   rw[ex]at e;obtain⟨D,TL,y⟩:=r.get ex;obtain⟨w,c,go⟩:=B4.at (t:=x) y e;refine⟨w,c,λH' n s hk=>?_⟩;obtain⟨l2,m,C,B⟩:=OV.split e;have key:∀l r,OV.Ag xs=l++x.addrs++r->(∀z:OV,OV.Ag (xs.set j z)=l++z.addrs++r)->∀b,b∈(a::(k.more++(l++l2)))++(m++r)->∀o,H b=some o->H' b=some o:=λl r i g b hb o=>
    hk (a::(k.more++(l++l2))) (m++r) (by rw[OV.Cm,i,C];simp[BV]) (λn=>by rw[OV.GU ex,OV.Cm,g,B];simp[BV]) b hb o
   obtain⟨l,q,i,g⟩:=Iz ex;rw[OV.GU ex];refine .nd (key l q i g a (by simp) _ h) (NK.bD sd λb hb=>key l q i g b (by simp[hb])) ft ?_;refine r.swap ex TL (λf d De C5 b hb o=>key f d De C5 b (by rcases List.mem_append.mp hb with hz|hz <;> simp[hz]) o) ?_
   refine go H' n s λf d g1 A b hb o=>?_;refine hk (a::(k.more++(l++f))) (d++q) (by rw[OV.Cm,i,g1];simp[BV]) (λn=>by rw[OV.GU ex,OV.Cm,g,A];simp[BV]) b (by rcases List.mem_append.mp hb with hz|hz <;> simp[hz]) o
 |j::p,.tp xs,_,.tp h r,e=>by
  rw[OV.O6]at e;cases ex:xs[j]? with
  |none=>rw[ex]at e;cases e
  |some x=>
   rw[ex]at e;obtain⟨D,TL,y⟩:=r.get ex;obtain⟨w,c,go⟩:=B4.at (t:=x) y e;refine⟨w,c,λH' n s hk=>?_⟩;obtain⟨l2,m,C,B⟩:=OV.split e;obtain⟨l,q,i,g⟩:=Iz ex;rw[OV.RT ex];refine .tp h (r.swap ex TL (λf d De C5 b hb o=>?_) (go H' n s λf d g1 A b hb o=>?_))
   .exact hk (f++l2) (m++d) (by rw[OV.HP,De,C];simp[BV]) (λn=>by rw[OV.RT ex,OV.HP,C5,B];simp[BV]) b (by rcases List.mem_append.mp hb with hz|hz <;> simp[hz]) o
   .exact hk (l++f) (d++q) (by rw[OV.HP,i,g1];simp[BV]) (λn=>by rw[OV.RT ex,OV.HP,g,A];simp[BV]) b (by rcases List.mem_append.mp hb with hz|hz <;> simp[hz]) o
theorem R1{l u r n:List Addr}(h:(l++u++r).Nodup)(hn:n.Nodup)(hd:∀b∈n,b∈u∨b∉l++u++r):(l++n++r).Nodup:=by
 rw[Bx]at h ⊢;obtain⟨h1,h2,c⟩:=h;rw[Bx]at h1 ⊢;obtain⟨f,g,d⟩:=h1;refine⟨⟨f,hn,λa ha b hb e=>?_⟩,h2,λa ha b hb e=>?_⟩
 .subst e;rcases hd a hb with z|z
  .exact d a ha a z rfl
  .exact z (by simp[ha])
 .subst e;rcases List.mem_append.mp ha with ha|ha
  .exact c a (by simp[ha]) a hb rfl
  .rcases hd a ha with z|z
   .exact c a (by simp[z]) a hb rfl
   .exact z (by simp[hb])
theorem Sg.QC(S:Sg E ss Z F H){k:NK}{xs:List OV}{ho:HO}{lt:Bool}(hi:ss[i]?=some (.ow lt t))(B3:t.at p=some (.nd k a xs))(hn:B4 F (upd H a ho) (.ref a) n)(nd:n.addrs.Nodup)
  (B:∀b∈n.addrs,b∈(OV.nd k a xs).addrs∨(F b=none/\E.H0 b=none/\∀(j:Nat)s,ss[j]?=some s->¬ BK s Z[j]? b)):Sg E (ss.set i (.ow lt (t.put p n))) Z F (upd H a ho):=by
 obtain⟨v,e,r,Vp,q⟩:=S.ok i _ hi;obtain⟨l,J,f,C⟩:=OV.split B3;have d:a∈(OV.nd k a xs).addrs:=by rw[OV.Cm];simp
 have h:∀b∈(OV.nd k a xs).addrs,b∈t.addrs:=λb hb=>by rw[f];simp[hb]
 have T:∀b∈n.addrs,b∈(OV.nd k a xs).addrs∨b∉t.addrs:=λb hb=>(B b hb).imp id λz m=>z.2.2 i _ hi m;obtain⟨w,u,go⟩:=r.at B3;have L:w=.ref a:=by cases u;rfl
 subst L;have g:∀(j:Nat)s,(ss.set i .any)[j]?=some s->∀b,b∈t.addrs->¬ BK s Z[j]? b:=λj s c b hb m=>by
  by_cases z:j=i
  .subst z;rw[CH (List.getElem?_eq_some_iff.mp hi).1]at c;cases c;cases m
  .rw[C4 (B0 z)]at c;exact S.Bb j i s _ b z c hi m hb
 have R:=(S.drop i).Xj (o:=ho) (q a (h a d)).1 ((q a (h a d)).2.imp id λz=>z.2) λj s c=>g j s c a (h a d);have A:=Vp;rw[f,Bx,Bx]at A;obtain⟨⟨_,_,N⟩,_,M⟩:=A;have Q:∀b,b∈l++J->b≠a:=λb hb z=>by
  subst z;rcases List.mem_append.mp hb with hb|hb
  .exact N b hb b d rfl
  .exact M b (by simp[d]) b hb rfl
 have K:B4 F (upd H a ho) v (t.put p n):=go _ n hn λV U g1 W b hb o y=>by
  rw[Ab ?_];exact y;rintro rfl;have D:=Vp;rw[g1,Bx,Bx]at D;obtain⟨⟨_,_,P⟩,_,O⟩:=D;rcases List.mem_append.mp hb with hb|hb
  .exact P b hb b d rfl
  .exact O b (by simp[d]) b hb rfl
 have G:∀b∈(t.put p n).addrs,b∈t.addrs∨(F b=none/\E.H0 b=none/\∀(j:Nat)s,ss[j]?=some s->¬ BK s Z[j]? b):=λb hb=>by
  rw[C]at hb;rcases List.mem_append.mp hb with hb|hb
  .rcases List.mem_append.mp hb with hb|hb
   .exact .inl (by rw[f];simp[hb])
   .exact(B b hb).imp (h b) id
  .exact .inl (by rw[f];simp[hb])
 have I:=R.setG (j:=i) (s:=.ow lt (t.put p n)) (v:=v) ⟨v,rfl,K,by rw[C];exact R1 (f▸Vp) nd λb hb=>(T b hb).imp id (by rw[f];exact id),λb hb=>(G b hb).elim (q b) λz=>⟨z.1,.inl z.2.1⟩⟩ λb hb j s c x m=>by
  rcases G b hb with z|z
  .exact g j s x b z m
  .rw[C4 (B0 c)]at x;exact z.2.2 j s x m
 rw[Ru e,Yz]at I;exact I
structure Wl [Xw] (ss:List Slot) (i:Nat) (t:OV) (te:TE) (k:List Nat->OV->Prop):Prop where
 hi:∃lt,ss[i]?=some (.ow lt t)
 go:∀(E:Ent)(Z:L2.St)(F H:Hp)(Q:VK),Sg E ss Z F H->(∀v p u F' H',Mv E ss Z F H F' H'->B4 F' H' v u->t.at p=some u->k p u->Q v H')->te Z H Q
noncomputable def DE:List Nat->List Slot->List Slot
 | [],ss=>ss
 |i::m,ss=>DE m (ss.set i .any)
structure Wx [Xw] (ss:List Slot) (te:TE) (k:List Nat->OV->Prop):Prop where
 go:∀(E:Ent)(Z:L2.St)(F H:Hp)(Q:VK),Sg E ss Z F H->(∀v m u F' H',Mv E ss Z F H F' H'->B4 F' H' v u->u.addrs.Nodup->(∀a∈u.addrs,F' a=none/\E.H0 a=none/\((∃i∈m,∃s,s≠Slot.AF/\ss[i]?=some s/\BK s Z[i]? a)∨H a=none))->k m u->Q v H')->te Z H Q
structure Lb [Xw] (ss:List Slot) (te:TA) (k:List Nat->List OV->Prop):Prop where
 go:∀(E:Ent)(Z:L2.St)(F H:Hp)(Q:List V->Hp->Prop),Sg E ss Z F H->(∀vs m us F' H',Mv E ss Z F H F' H'->BG F' H' vs us->(OV.Ag us).Nodup->(∀a∈OV.Ag us,F' a=none/\E.H0 a=none/\((∃i∈m,∃s,s≠Slot.AF/\ss[i]?=some s/\BK s Z[i]? a)∨H a=none))->k m us->Q vs H')->te Z H Q
section
variable[Xw]
variable{K:ZEW}{k:PV->Prop}
theorem OV.IS(h:t.at p=some u):∀a∈u.addrs,a∈t.addrs:=λa ha=>by
 obtain⟨l,r,e,_⟩:=OV.split h;rw[e];simp[ha]
theorem B4.mv(r:B4 F H v u)(S:Sg E ss Z F H)(hi:∃lt,ss[i]?=some (.ow lt t))(h:t.at p=some u)(m:Mv E ss Z F H F' H'):B4 F' H' v u:=
 r.mono m.ff λa ha o e=>m.hh a o (S.Lf hi.choose_spec (OV.IS h a ha) (by simp)) e
theorem Bv{lt:Bool}{k:List Nat->OV->Prop}(hi:ss[i]?=some (.ow lt t))(hk:k [] t):Wl ss i t (BP i) k:=⟨⟨lt,hi⟩,λE Z F H Q S q=>by
 obtain⟨v,e,r,_,_⟩:=S.ok i _ hi;exact⟨v,e,q v [] t F H (.refl S) r OV.Hs hk⟩⟩
theorem OJ{k:List Nat->OV->Prop}(h:Wl ss i t ta λp u=>∃a xs,u=.nd .lst a xs/\Wp ss tb λq=>∃(j:Int)(n:Nat)(w:OV),q=.int j/\Hb xs.length j=some n/\xs[n]?=some w/\k (p++[n]) w):Wl ss i t (Bn (TR K) ta tb) k:=⟨h.hi,λE Z F H Q S q=>
 h.go E Z F H _ S λv p u F1 H1 b m h1⟨a,xs,o,h2⟩=>h2.go E Z F1 H1 _ b.st λr p2 F2 H2 d l⟨j,n,w,e,hn,hw,kk⟩=>by
  subst e;cases l.inv;have g:=m.mv b.st h.hi h1 d;subst o;obtain⟨_,rfl,ha,s,y,c⟩:=g.inv;obtain⟨x,hx,f⟩:=c.get hw;refine⟨a,_,j,x,rfl,rfl,AQ.of ha,?_,q x (p++[n]) w F2 H2 (b.trans d) f (OV.LZ h1 (by rw[OV.Kh,hw];exact OV.Hs)) kk⟩;unfold L2.C2;rw[c.length,hn];exact hx⟩
theorem Nu{k:List Nat->OV->Prop}(h:Wl ss i t ta λp u=>∃xs,u=.tp xs/\Wp ss tb λq=>∃(j:Int)(n:Nat)(w:OV),q=.int j/\Hb xs.length j=some n/\xs[n]?=some w/\k (p++[n]) w):Wl ss i t (Bn (J7 K) ta tb) k:=⟨h.hi,λE Z F H Q S q=>
 h.go E Z F H _ S λv p u F1 H1 b l h1⟨xs,m,h2⟩=>h2.go E Z F1 H1 _ b.st λo p2 F2 H2 a g⟨j,n,w,e,hn,hw,kk⟩=>by
  subst e;cases g.inv;have f:=l.mv b.st h.hi h1 a;subst m;obtain⟨_,_,rfl,ha,c⟩:=f.inv;obtain⟨x,hx,d⟩:=c.get hw;refine⟨_,_,j,x,rfl,rfl,AD.of (a.st.fh _ _ ha),?_,q x (p++[n]) w F2 H2 (b.trans a) d (OV.LZ h1 (by rw[OV.O6,hw];exact OV.Hs)) kk⟩;unfold L2.C2;rw[c.length,hn];exact hx⟩
theorem DL(h:Wl ss i t te λ_ u=>∃p,u=.fz p/\k p):Wp ss te k:=⟨λE Z F H Q S q=>
 h.go E Z F H _ S λv p u F1 H1 b a h1 AJ=>by obtain⟨p,c,kk⟩:=AJ;subst c;cases a with|fz r=>exact q v p F1 H1 b r kk⟩
theorem Rv{k:Bool->List PV->Prop}(h:Wl ss i t te λ_ u=>∃a ps,u=.nd .lst a (ps.map .fz)/\k false ps):Wq ss te k:=⟨λE Z F H Q S q=>
 h.go E Z F H _ S λv p u F1 H1 b d h1 AJ=>by
  obtain⟨a,ps,e,kk⟩:=AJ;subst e;have np:D1 ss Z a:=b.st.Lf h.hi.choose_spec (OV.IS h1 a (by rw[OV.Cm];simp)) (by simp);obtain⟨_,rfl,ha,f,g,c⟩:=d.inv;exact q _ false ps F1 H1 b ⟨a,_,rfl,np,ha,c.PF⟩ kk⟩
theorem E6{k:List Nat->OV->Prop}(h:Wp ss te λp=>k [] (.fz p)):Wx ss te k:=⟨λE Z F H Q S q=>
 h.go E Z F H _ S λv p F1 H1 b r kk=>q v [] (.fz p) F1 H1 b (.fz r) (by rw[OV.GZ];exact LP) (λa ha=>by rw[OV.GZ]at ha;cases ha) kk⟩
theorem Se{k:List Nat->List OV->Prop}(h:k [] []):Lb ss BO k:=⟨λE Z F H Q S q=>q _ [] [] F H (.refl S) .nil (by rw[OV.HM];exact LP) (λa ha=>by rw[OV.HM]at ha;cases ha) h⟩
theorem ZCQ{k:List Nat->OV->Prop}(hi:ss[i]?=some (.ow false t))(h:k [i] t):Wx ss (BP i) k:=⟨λE Z F H Q S q=>by
 obtain⟨v,e,r,nd,b⟩:=S.ok i _ hi;refine⟨_,e,q v [i] t F H (.refl S) r nd (λa ha=>⟨(b a ha).1,?_,.inl ⟨i,by simp,_,by simp,hi,ha⟩⟩) h⟩;exact(b a ha).2.elim id λz=>by cases z.1⟩
theorem Wx.qE(S:Sg E ss Z F H)(h:(∃i∈m,∃s,s≠Slot.AF/\ss[i]?=some s/\BK s Z[i]? a)∨H a=none):D1 ss Z a:=by
 rcases h with⟨j,_,s,c,b,o⟩|z
 .exact S.Lf b o c
 .exact S.NQ z
theorem Mv.mI(m:Mv E ss Z F H F' H')(h:F a=Option.none)(h2:H a≠Option.none):F' a=Option.none:=by
 cases e:F' a with
 |none=>rfl
 |some o=>
  rcases m.nn a o e with z|z
  .rw[h]at z;cases z
  .exact absurd z h2
theorem P1{k:List Nat->List OV->Prop}(h:Wx ss te λm u=>Lb ss tr λc us=>(∀i∈m,i∉c)/\k (m++c) (u::us)):Lb ss (Al te tr) k:=⟨λE Z F H Q S q=>
 h.go E Z F H _ S λv m u F1 H1 l g GY p h2=>h2.go E Z F1 H1 _ l.st λvs A us F2 H2 c x IM t AJ=>by
  obtain⟨D,kk⟩:=AJ;have np:∀a∈u.addrs,D1 ss Z a:=λa ha=>Wx.qE S (p a ha).2.2;refine q (v::vs) (m++A) (u::us) F2 H2 (l.trans c) (.cons (g.mono c.ff λa ha o e=>c.hh a o (np a ha) e) x) ?_ (λa ha=>?_) kk
  .rw[OV.CQ,Bx];refine⟨GY,IM,λa ha b hb e=>?_⟩;subst e;rcases(t a hb).2.2 with⟨B,Tv,s2,I,CB,r⟩|z
   .rcases(p a ha).2.2 with⟨j,d,s,G,C,o⟩|z
    .exact S.Bb j B s s2 a (by rintro rfl;exact D j d Tv) C CB o r
    .exact S.DR CB r z
   .exact g.there a ha z
  .rw[OV.CQ]at ha;rcases List.mem_append.mp ha with ha|ha
   .obtain⟨f,n,w⟩:=p a ha;exact⟨c.mI f (g.there a ha),n,w.imp (λD0=>by obtain⟨j,d,z⟩:=D0;exact⟨j,by simp[d],z⟩) id⟩
   .obtain⟨f,n,w⟩:=t a ha;exact⟨f,n,w.imp (λy=>by obtain⟨j,d,z⟩:=y;exact⟨j,by simp[d],z⟩) l.none⟩⟩
theorem bx{k:List Nat->OV->Prop}(h:Lb ss tr λm us=>us.length<=100000/\∀l,k m (.nd .lst l us)):Wx ss (QZ tr) k:=⟨λE Z F H Q S q=>
 h.go E Z F H _ S λvs m us F1 H1 b d GY r AJ=>by obtain⟨j,kk⟩:=AJ;exact⟨small (by rw[d.length];exact j),λp c=>by
  have g:=b.st.make c (.lst vs);have i:p∉OV.Ag us:=λha=>d.there _ ha c;refine q _ m (.nd .lst p us) _ _ (b.trans g) (.nd (k:=.lst) AO trivial trivial (d.mono g.ff λa ha o e=>by rw[Ab (by rintro rfl;exact i ha)];exact e)) ?_ (λa ha=>?_) (kk p)
  .rw[OV.Cm];exact List.nodup_cons.mpr ⟨i,GY⟩
  .rw[OV.Cm]at ha;rcases List.mem_cons.mp ha with e|ha
   .subst e;exact⟨b.st.Bd c,b.st.ES c,.inr (b.none c)⟩
   .obtain⟨f,n,w⟩:=r a ha;exact⟨f,n,w⟩⟩⟩
theorem N3{j:Nat}{s:Slot}:∀{m:List Nat}{ss:List Slot},(DE m ss)[j]?=some s->s=.any∨(ss[j]?=some s/\j∉m)
 | [],ss,h=>.inr ⟨h,by simp⟩
 |i::m,ss,h=>by
  rcases N3 (m:=m) (ss:=ss.set i .any) h with e|⟨e,hm⟩
  .exact .inl e
  .by_cases q:j=i
   .subst q;have a:j<ss.length:=by have:=(List.getElem?_eq_some_iff.mp e).1;simpa using this
    rw[CH a]at e;exact .inl (BE e).symm
   .rw[C4 (B0 q)]at e;exact .inr ⟨e,by simp[q,hm]⟩
theorem Sg.DE{E:Ent0}{Z:L2.St}{F H:Hp}:∀(m:List Nat){ss:List Slot},Sg E ss Z F H->Sg E (Fz.DE m ss) Z F H
 | [],_,S=>S
 |i::m,_,S=>Sg.DE m (S.drop i)
theorem Sg.d8(S0:Sg E ss Z F0 H0)(S:Sg E ss Z F H)(r:B4 F H v u)(nd:u.addrs.Nodup)(b:∀a∈u.addrs,F a=none/\E.H0 a=none/\((∃i∈m,∃s,s≠Slot.AF/\ss[i]?=some s/\BK s Z[i]? a)∨H0 a=none)):
  Sg E ((Fz.DE m ss).set j (.ow false u)) (Z.set j (some v)) F H:=by
 refine(S.DE m).setG ⟨v,rfl,r,nd,λa ha=>⟨(b a ha).1,.inl (b a ha).2.1⟩⟩ λa ha i s Fb f o=>?_;rcases N3 f with e|⟨Gk,hm⟩
 .subst e;cases o
 .rcases(b a ha).2.2 with⟨d,EE,s2,_,CB,c⟩|z
  .exact S.Bb i d s s2 a (by rintro rfl;exact hm EE) Gk CB o c
  .exact S0.DR Gk o z
theorem Mx(h:Wx ss te λm u=>nx ((Fz.DE m ss).set j (.ow false u))):Ws ss (G9 te (Dr j)) nx R:=⟨λE D Z F H S hn c=>
 h.go E Z F H _ S λv m u F1 H1 a r nd b kk=>hn _ _ F1 H1 kk (Sg.d8 S a.st r nd b) a.ff⟩
theorem B4.rep(ff:A8 F F1):∀{v:V}{t:OV},B4 F H v t->(∀a∈t.addrs,∀o,H a=some o->F1 a=some o)->Rep F1 v t.pv:=by
 intro v t r h;exact B4.rec (motive_1:=λv t _=>(∀a∈t.addrs,∀o,H a=some o->F1 a=some o)->Rep F1 v t.pv) (motive_2:=λvs ts _=>(∀a∈OV.Ag ts,∀o,H a=some o->F1 a=some o)->AS F1 vs (OV.CT ts))
  (λ{v p}r _=>by rw[OV.pv];exact r.mono ff)
  (λ{a vs xs}e _ b h=>by rw[OV.pv];exact .tup (ff _ _ e) (b (by rw[OV.HP]at h;exact h)))
  (λ{k a vs xs}e g f _ b h=>by
   rw[OV.Cm]at h;have d:=b λa ha=>h a (by simp[ha]);have c:=h a (by simp) _ e;cases k with
   |lst=>rw[OV.pv];exact .lst c d
   |AL ks=>rw[OV.pv];exact .AL c f d
   |obj C dx ns=>rw[OV.pv];exact .obj c (h dx (by simp[NK.more]) _ g) f d)
  (λ_=>by rw[OV.CT];exact .nil)
  (λ_ _ UH Ts h=>by
   rw[OV.CQ]at h;rw[OV.CT];exact .cons (UH λa ha=>h a (by simp[ha])) (Ts λa ha=>h a (by simp[ha])))
  r h
theorem iI{t':TS}(i:Nat)(hi:ss[i]?=some (.ow false t))(h:Ws (ss.set i (.is t.pv)) t' nx R):Ws ss t' nx R:=⟨λE D Z F H S hn g=>by
 obtain⟨v,e,r,nd,d⟩:=S.ok i _ hi;obtain⟨S1,f⟩:=(S.drop i).lay t.addrs (λa ha=>⟨(d a ha).1,(d a ha).2.elim id (λz=>by cases z.1),r.there a ha⟩) λa ha j s b m=>by
  by_cases q:j=i
  .subst q;rw[CH (List.getElem?_eq_some_iff.mp hi).1]at b;cases b;cases m
  .rw[C4 (B0 q)]at b;exact S.Bb j i s _ a q b hi m ha
 have c:=S1.Jb (j:=i) (v:=v) (p:=t.pv) (r.rep f λa ha o ho=>by unfold CO;rw[kz ha];exact ho);rw[Ru e,Yz]at c;exact h.go E D Z _ H c (λDD σ2 F2 H2 n c s2=>hn DD σ2 F2 H2 n c (f.trans s2)) g⟩
variable{lt:Bool}
theorem Mb:(OV.nd .lst a us).addrs=a::OV.Ag us:=by rw[OV.Cm];rfl
theorem L5:∀(us ws:List OV),OV.Ag (us++ws)=OV.Ag us++OV.Ag ws
 | [],ws=>by rw[SX,OV.HM,SX]
 |u::us,ws=>by rw[Yo,OV.CQ,OV.CQ,L5 us ws,BV]
theorem Ln(u:OV):OV.Ag [u]=u.addrs:=by rw[OV.CQ,OV.HM,FC]
theorem Sg.u4{us':List OV}(S0:Sg E ss Z F0 H0)(S:Sg E ss Z F H)(hi:ss[i]?=some (.ow lt t))(B3:t.at p=some (.nd .lst a us))
  (c:∀a∈u.addrs,F a=none/\E.H0 a=none/\((∃i∈m,∃s,s≠Slot.AF/\ss[i]?=some s/\BK s Z[i]? a)∨H0 a=none)) (EA:i∉m)
  (D:BG F H Bf us') (OT:(OV.Ag us').Nodup) (Gi:∀b∈OV.Ag us',b∈OV.Ag us∨b∈u.addrs):Sg E ((Fz.DE m ss).set i (.ow lt (t.put p (.nd .lst a us')))) Z F (upd H a (.lst Bf)):=by
 have K:(Fz.DE m ss)[i]?=some (.ow lt t):=by
  have g:∀(m:List Nat)(ss:List Slot),ss[i]?=some (.ow lt t)->i∉m->(Fz.DE m ss)[i]?=some (.ow lt t):=by
   intro m
   induction m with
   |nil=>intro ss h _;exact h
   |cons j m B=>
    intro ss h d;refine B _ ?_ λz=>d (by simp[z]);rw[C4 (by rintro rfl;exact d (by simp))];exact h
  exact g m ss hi EA
 obtain⟨v,e,r,nd,q⟩:=S.ok i _ hi;have x:∀b,b∈a::OV.Ag us->b∈t.addrs:=λb hb=>OV.IS B3 b (by rw[Mb];exact hb);have J:∀b∈u.addrs,b∉t.addrs:=λb hb z=>by
  rcases(c b hb).2.2 with⟨j,G,s,_,f,o⟩|w
  .exact S.Bb j i s _ b (by rintro rfl;exact EA G) f hi o z
  .exact S0.DR hi z w
 have n:(OV.nd .lst a us).addrs.Nodup:=by
  obtain⟨l,L,I,_⟩:=OV.split B3;rw[I,Bx,Bx]at nd;exact nd.1.2.1
 rw[Mb]at n;have na:∀b∈OV.Ag us',b≠a:=λb hb z=>by
  subst z;rcases Gi b hb with w|w
  .exact(List.nodup_cons.mp n).1 w
  .exact J b w (x b (by simp))
 refine(S.DE m).QC K B3 (.nd (k:=.lst) AO trivial trivial (D.mono (A8.refl _) λb hb o ho=>by rw[Ab (na b hb)];exact ho)) (by rw[Mb];exact List.nodup_cons.mpr ⟨λz=>na a z rfl,OT⟩) λb hb=>?_;rw[Mb]at hb ⊢;rcases List.mem_cons.mp hb with w|w
 .exact .inl (by simp[w])
 .rcases Gi b w with z|z
  .exact .inl (by simp[z])
  .refine .inr ⟨(c b z).1,(c b z).2.1,λj s f o=>?_⟩;rcases N3 f with y|⟨Gk,d⟩
   .subst y;cases o
   .rcases(c b z).2.2 with⟨C,EE,s2,_,CB,A⟩|y
    .exact S.Bb j C s s2 b (by rintro rfl;exact d EE) Gk CB o A
    .exact S0.DR Gk o y
theorem i5(h:Wl ss i t ta λp u=>∃lt a us,ss[i]?=some (.ow lt t)/\u=.nd .lst a us/\us.length<=99999/\Wx ss te λm w=>i∉m/\nx ((DE m ss).set i (.ow lt (t.put p (.nd .lst a (us++[w])))))):Ws ss (HG (Np K "list" SA ta (Al te BO))) nx R:=⟨λE D Z F H S hn σ=>
 h.go E Z F H _ S λv p u F1 H1 c M h1⟨lt,a,us,hi,V,N,hw⟩=>by
  subst V;cases M with
  |@nd k a' vs _ ha I U g=>
   refine .inl ⟨rfl,_,AQ.of ha⟩ |> λn=>⟨n,hw.go E Z F1 H1 _ c.st λB m w F2 H2 d L IM r⟨EA,kk⟩=>?_⟩;have J:=(B4.nd (k:=.lst) ha I U g).mv c.st h.hi h1 d;cases J with
   |@nd _ _ C _ A G T q=>
    refine⟨a,C,B,rfl,rfl,A,NA (by rw[q.length];exact N),?_⟩;refine hn _ Z F2 _ kk (Sg.u4 (u:=w) c.st d.st hi h1 r EA (q.append (.one L)) ?_ λb hb=>?_) (c.ff.trans d.ff)
    .rw[L5,Ln,Bx];obtain⟨X,e0,Y,Bq,n⟩:=d.st.ok i _ hi;have z:(OV.nd .lst a us).addrs.Nodup:=by
      obtain⟨l,g,W,_⟩:=OV.split h1;rw[W,Bx,Bx]at Bq;exact Bq.1.2.1
     rw[Mb]at z;refine⟨(List.nodup_cons.mp z).2,IM,λx hx y O e=>?_⟩;subst e;have f:x∈t.addrs:=OV.IS h1 x (by rw[Mb];simp[hx]);rcases(r x O).2.2 with⟨j,Q,s,_,P,o⟩|w
     .exact c.st.Bb j i s _ x (by rintro rfl;exact EA Q) P hi o f
     .exact c.st.DR hi f w
    .rw[L5,Ln]at hb;exact List.mem_append.mp hb⟩
theorem qI{k:OV->Prop}(h:Wx ss te λ_ u=>k u):Ws ss (Jm te) nx (.ow k):=⟨λE D Z F H S hn d=>
 h.go E Z F H _ S λv m u F1 H1 c r nd b kk=>d v F1 H1 c.st.toFin ⟨u,r,nd,λa ha=>⟨(b a ha).1,(b a ha).2.1⟩,kk⟩⟩
theorem V8{ta:TA}{k:List Nat->OV->Prop}(h:Wa ss ta λl=>∃k',pre l (.ow k')/\∀u,k' u->k [] u):Wx ss (D3 (CG pre) [] E0 ta) k:=⟨λE Z F H Q S q=>
 h.go E Z F H _ S λvs l F1 H1 b a⟨k',e,kk⟩=>by
  rw[FC];refine⟨l,.ow k',F1,[],e,b.st.UY a,λv F' H' f⟨u,r,nd,c,d⟩=>?_⟩;exact q v [] u F' H' (b.trans (b.st.back (λ_ h=>absurd h Au) f)) r nd (λa ha=>⟨(c a ha).1,S.ES (b.none (c a ha).2),.inr (b.none (c a ha).2)⟩) (kk u d)⟩
end
def ptr(a:Addr):Hp->V->Prop:=λ_ v=>v=.ref a
section
variable[Xw]
variable{K:ZEW}{k:PV->Prop}{lt:Bool}
theorem WG{k:List Nat->OV->Prop}{nk:NK}(f:ss[j]?=some (.raw (ptr a)))(hi:ss[i]?=some (.ow lt t))(B3:t.at p=some (.nd nk a us))(hk:k p (.nd nk a us)):Wl ss i t (BP j) k:=⟨⟨lt,hi⟩,λE Z F H Q S q=>by
 obtain⟨v,e,c,_⟩:=S.ok j _ f;obtain⟨h,l,d,_,_⟩:=S.ok i _ hi;obtain⟨w,b,_⟩:=d.at B3;have g:w=.ref a:=by cases b;rfl
 subst g;cases(show v=.ref a from c);exact⟨_,e,q _ p _ F H (.refl S) b B3 hk⟩⟩
end
def Cz:List Slot->L2.St->List Addr
 | .own _::ss,some (.ref l)::Z=>l::Cz ss Z
 | .ow _ t::ss,_::Z=>t.addrs++Cz ss Z
 |_::ss,_::Z=>Cz ss Z
 |_,_=>[]
theorem cG:∀{ss:List Slot}{Z:L2.St}{a:Addr},a∈Cz ss Z->∃(i:Nat)(s:Slot),ss[i]?=some s/\s≠.AF/\BK s Z[i]? a
 | [],Z,a,h=>absurd h Au
 |s::ss,[],a,h=>by cases s <;> exact absurd h Au
 |s::ss,o::Z,a,h=>by
  have up:a∈Cz ss Z->∃(i:Nat)(s':Slot),(s::ss)[i]?=some s'/\s'≠.AF/\BK s' (o::Z)[i]? a:=λh=>by
   obtain⟨i,s',h1,h2,b⟩:=cG h;exact⟨i+1,s',by simpa using h1,h2,by simpa using b⟩
  cases s with
  |own xs=>
   cases o with
   |none=>exact up h
   |some v=>
    cases v with
    |ref l=>
     have h:a∈l::Cz ss Z:=h;rcases List.mem_cons.mp h with e|h
     .subst e;exact⟨0,_,rfl,by simp,rfl⟩
     .exact up h
    |_=>exact up h
  |ow lt t=>
   have h:a∈t.addrs++Cz ss Z:=h;rcases List.mem_append.mp h with h|h
   .exact⟨0,_,rfl,by simp,h⟩
   .exact up h
  |_=>exact up h
theorem fu:∀{ss:List Slot}{Z:L2.St}{i:Nat}{s:Slot}{a:Addr},ss.length=Z.length->ss[i]?=some s->s≠.AF->BK s Z[i]? a->a∈Cz ss Z
 | [],Z,i,s,a,_,h,_,_=>by simp at h
 |s0::ss,[],i,s,a,hl,_,_,_=>by simp at hl
 |s0::ss,o::Z,0,s,a,hl,h,hp,ho=>by
  simp at h;subst h;cases s0 with
  |own xs=>
   have e:o=some (.ref a):=by have:some o=some (some (V.ref a)):=ho;exact BE this
   subst e;exact CJ
  |ow lt t=>exact Gz _ ho
  |AF=>exact absurd rfl hp
  |_=>cases ho
 |s0::ss,o::Z,i+1,s,a,hl,h,hp,ho=>by
  have q:=fu (ss:=ss) (Z:=Z) (i:=i) (a:=a) (by simpa using hl) (by simpa using h) hp (by simpa using ho)
  cases s0 with
  |own xs=>cases o with
   |none=>exact q
   |some v=>cases v with
    |ref l=>exact Ca _ q
    |_=>exact q
  |ow lt t=>exact El _ q
  |_=>exact q
theorem B4.oF(r:B4 F H v t):∀a∈t.addrs,∀vs,H a≠some (.tup vs):=
 B4.rec (motive_1:=λ_ t _=>∀a∈t.addrs,∀vs,H a≠some (.tup vs)) (motive_2:=λ_ ts _=>∀a∈OV.Ag ts,∀vs,H a≠some (.tup vs))
  (λ_ a ha _=>by rw[OV.GZ]at ha;cases ha)
  (λ_ _ i a ha vs=>by rw[OV.HP]at ha;exact i a ha vs)
  (λ{k}{b}{_}{_}h c _ _ i a ha vs=>by
   rw[OV.Cm,Cp,GH]at ha;rcases ha with rfl|ha|ha
   .rw[h];cases k <;> (intro z;cases z)
   .cases k with
    |obj C dx ns=>
     have e:a=dx:=List.mem_singleton.mp ha;subst e;have d:H a=some (.own b):=c;rw[d];intro z;cases z
    |_=>exact absurd ha Au
   .exact i a ha vs)
  (λa ha _=>by rw[OV.HM]at ha;cases ha)
  (λ_ _ i k a ha ws=>by
   rw[OV.CQ,GH]at ha;rcases ha with ha|ha
   .exact i a ha ws
   .exact k a ha ws)
  r
mutual
def Fl:PV->Bool
 | .lst _=>false
 | .AL _ _=>false
 | .obj _ _ _=>false
 | .exc _ _ _=>false
 | .tup xs=>Nx xs
 |_=>true
def Nx:List PV->Bool
 | []=>true
 |x::r=>Fl x && Nx r
end
noncomputable def Jg(F:Hp)(as:List Addr):Hp:=λa=>if a∈as then none else F a
theorem Rep.sub{as:List Addr}(h:∀a∈as,∀vs,F a≠some (.tup vs)):∀{v:V}{p:PV},Rep F v p->Fl p=true->Rep (Jg F as) v p:=by
 intro v p r hn;exact Rep.rec (motive_1:=λv p _=>Fl p=true->Rep (Jg F as) v p) (motive_2:=λvs ps _=>Nx ps=true->AS (Jg F as) vs ps)
  (λ_=>.A7) (λb _=>.bl b) (λi _=>.int i) (λx _=>.str x)
  (λ_ _ _ z=>by simp[Fl]at z)
  (λ{a vs xs}e _ c z=>.tup (by unfold Jg;rw[km (λq=>h a q vs e)];exact e) (c (by simpa[Fl]using z)))
  (λ_ _ _ _ z=>by simp[Fl]at z)
  (λ_ _ _ _ _ z=>by simp[Fl]at z)
  (λ_=>.con)
  (λ_ z=>by simp[Fl]at z)
  (λ_ _ _ _ _ z=>by simp[Fl]at z)
  (λ_=>.nil)
  (λ_ _ UH Ts z=>by
   rw[Nx,Ek]at z;exact .cons (UH z.1) (Ts z.2))
  r hn
structure Wb [Xw] (ss:List Slot) (ta:TA) (k:List PV->Prop):Prop where
 go:∀(E:Ent)(Z:L2.St)(F H:Hp)(Q:List V->Hp->Prop),Sg E ss Z F H->(∀vs ps F' H',Mv E ss Z F H F' H'->AS (CO F' H' (Cz ss Z)) vs ps->k ps->Q vs H')->ta Z H Q
theorem Sg.as(S:Sg E ss Z F H)(h:a∈Cz ss Z):F a=none/\H a≠none/\(∀vs,H a≠some (.tup vs))/\D1 ss Z a:=by
 obtain⟨i,s,b,c,ho⟩:=cG h;refine⟨S.v7 b ho,S.DR b ho,?_,S.Lf b ho c⟩;have k:=S.ok i s b;cases s with
 |own xs=>obtain⟨l,vs,e,_,_,d,_⟩:=k;rw[show Z[i]?=some (some (.ref a))from ho]at e;cases e;rw[d];simp
 |ow lt t=>obtain⟨v,_,r,_⟩:=k;exact r.oF a ho
 |AF=>exact absurd rfl c
 |_=>cases ho
theorem Sg.Q3(S:Sg E ss Z F H):A8 F (CO F H (Cz ss Z))/\A8 (CO F H (Cz ss Z)) H:=by
 refine⟨λa o e=>?_,λa o e=>?_⟩
 .unfold CO;rw[km (λq=>by rw[(S.as q).1]at e;cases e)];exact e
 .unfold CO at e;split at e
  .exact e
  .exact S.fh a o e
theorem Sg.lend(S:Sg E ss Z F H)(r:AS (CO F H (Cz ss Z)) vs ps):Sg (E3 [] (CO F H (Cz ss Z)) H) (ps.map .is) (vs.map some) (CO F H (Cz ss Z)) H:=by
 have nn:∀{p:Prop}(a:Addr),a∈([]:List Addr)->p:=λa h=>absurd h Au;refine⟨⟨S.Q3.2,A8.refl _,λ_ _ _ e=>e,λ_ _ e=>.inl e,λa h=>nn a h,λa h=>nn a h,λa h=>nn a h,λa h=>nn a h,λa h=>nn a h,λa h=>nn a h⟩,by rw[AW,AW,r.length],λi s hi=>?_,λi j s u l Fb hi f c d=>?_⟩
 .rw[B1]at hi;cases e:ps[i]? with
  |none=>rw[e]at hi;cases hi
  |some p=>
   rw[e]at hi;obtain⟨v,hv,b⟩:=r.get e;have es:Slot.is p=s:=BE hi;subst es;rw[B1,hv];exact⟨v,rfl,b⟩
 .rw[B1]at hi;cases e:ps[i]? with
  |none=>rw[e]at hi;cases hi
  |some p=>rw[e]at hi;have es:Slot.is p=s:=BE hi;subst es;cases c
theorem Sg.pK(S:Sg E ss Z F H)(f:Fin (E3 [] (CO F H (Cz ss Z)) H) F' H'):Mv E ss Z F H (Jg F' (Cz ss Z)) H'/\∀a∈Cz ss Z,∀vs,F' a≠some (.tup vs):=by
 have kp:∀a o,H a=some o->H' a=some o:=λa o e=>f.keep a o ⟨Au,Au⟩ e;refine⟨S.step (λa o e=>?_) (λa o e=>?_) (λa o _ e=>kp a o e) (λa o e=>?_) (λi l hi e=>BU.keep (S.EF hi e) λo e=>kp l o e),λa ha vs e=>?_⟩
 .unfold Jg;rw[km (λq=>by rw[(S.as q).1]at e;cases e)];exact f.f0 a o (S.Q3.1 a o e)
 .unfold Jg at e;split at e
  .cases e
  .exact f.fh a o e
 .unfold Jg at e;split at e
  .cases e
  .rename_i q;rcases f.fresh a o e with z|z
   .left
    have b:CO F H (Cz ss Z) a=some o:=z;unfold CO at b;rw[km q]at b;exact b
   .exact .inr z
 .obtain⟨o,ho⟩:=Option.ne_none_iff_exists'.mp (S.as ha).2.1;have z:F' a=some o:=f.f0 a o (by show CO F H (Cz ss Z) a=some o;unfold CO;rw[kz ha];exact ho);rw[z]at e;cases e;exact(S.as ha).2.2.1 vs ho
section
variable[Xw]
variable{K:ZEW}{k:PV->Prop}{lt:Bool}
theorem iz{k:List PV->Prop}(h:k []):Wb ss BO k:=⟨λE Z F H Q S q=>q _ _ F H (.refl S) .nil h⟩
theorem ZM{k:List PV->Prop}(h:Wp ss te λp=>Wb ss tr λps=>k (p::ps)):Wb ss (Al te tr) k:=⟨λE Z F H Q S q=>
 h.go E Z F H _ S λv p F1 H1 b d h2=>h2.go E Z F1 H1 _ b.st λvs ps F2 H2 a c kk=>q _ _ F2 H2 (b.trans a) (.cons ((d.mono a.ff).mono a.st.Q3.1) c) kk⟩
theorem oz(h:Wx ss te λm u=>m=[]/\k u.pv):Wp ss te k:=⟨λE Z F H Q S q=>
 h.go E Z F H _ S λv m u F1 H1 b r nd c AJ=>by
  obtain⟨j,kk⟩:=AJ;subst j;have f:∀a∈u.addrs,H a=none:=λa ha=>by
   rcases(c a ha).2.2 with⟨i,hi,_⟩|z
   .cases hi
   .exact z
  obtain⟨S1,d⟩:=b.st.lay u.addrs (λa ha=>⟨(c a ha).1,(c a ha).2.1,r.there a ha⟩) λa ha i s g o=>S.DR g o (f a ha);refine q v u.pv _ H1 ⟨S1,b.ff.trans d,b.hh,λa o e=>?_⟩ (r.rep d λa ha o ho=>by unfold CO;rw[kz ha];exact ho) kk;unfold CO at e;split at e
  .rename_i z;exact .inr (f a z)
  .exact b.nn a o e⟩
end
theorem Po:∀{xs:List PV},(∀x∈xs,DM x x=true)->CV xs xs=true
 | [],_=>by rw[CV]
 |x::r,h=>by rw[QJ,h x (by simp),Po (xs:=r) λy a=>h y (by simp[a])];rfl
theorem ik{K:ZEW}:∀(d:Nat){p:PV},dat K d p->DM p p=true:=by
 intro d
 induction d with
 |zero=>intro p h;cases p <;> first|exact h.elim|rfl|exact pI _
 |succ d b=>
  intro p h;cases p with
  |lst xs=>show CV xs xs=true;exact Po λx hx=>b (h x hx)
  |tup xs=>show CV xs xs=true;exact Po λx hx=>b (h x hx)
  |con a xs=>show CV xs xs=true;exact Po λx hx=>b (h.1 x hx)
  |_=>first|exact h.elim|rfl|exact pI _
theorem Vu:∀(xs:List PV),OV.CT (xs.map .fz)=xs
 | []=>by rw[SW,OV.CT]
 |x::r=>by rw[Bh,OV.CT,OV.pv,Vu r]
end Fz
namespace L2
variable{M:Model}{A:Around}{E Q xe:Value->Shared->Prop}{s:Shared}{Zl h':Heap}{env:Env}{l outer:List Env}{C S b ea f fI:Addr}{dx fr tb:Option Addr}{o oe ox:Obj}{vs:Array Value}{cd head v:Value}{w:World}{mg:ZEY}{N ps sn:List Str}{n name par qual x:Str}{scope:Scope}{H H':Hp}{X:Cx}{E':St->XK}{BW GQ np p pos:Pos}{e e0:Expr}{es:List Expr}{t:TA}{ZCo ab:Bool}{prog:Program}{Zi pn:ZEX}{Z:St}{j kk:Nat}{fd:FuncData}{b0:Stmt}{Hm:(St->XK)->TS}{th:TS}{sp:Sp}
structure HL (h:Heap) (ea:Addr) (C:Value) (dx tb:Option Addr):Prop where
 obj:∃oe vs,h.get? ea=some oe/\oe.cls=C/\oe.dict=dx/\oe.data=.fields vs/\1<vs.size/\vs[1]?=some (tb.elim Value.none Value.ref)
 ent:∀T,tb=some T->T≠ea/\∃oT ts,h.get? T=some oT/\oT.data=.fields ts/\3<ts.size
section
variable{L:Addr}{C:Value}{Q:Unit->Shared->Prop}
theorem ZBy(o:Obj)(g:Array Value->Array Value):(o.mapFields g).dict=o.dict:=by
 obtain⟨c,d,a,sl⟩:=o;cases a <;> rfl
structure Kp (l:List Env) (ea:Addr) (tb:Option Addr) (h h':Heap):Prop where
 keep:∀b o,h.get? b=some o->b∉Ci l->b≠ea->tb≠some b->h'.get? b=some o
 slot:∀b o,h.get? b=some o->b∈Ci l->∃sl,h'.get? b=some { o with slots:=sl }
 size:h.objs.size<=h'.objs.size
theorem d9(d:s.heap.FunFrames Zl (env::outer))(ho:s.heap.get? b=some o)(hd:o.data=.fields vs):b∉Ci (env::outer):=λc=>by
 obtain⟨_,u,a,hn⟩:=d.mem c;rw[ho]at a;cases a;exact hn vs hd
theorem eV{more:Bool}(MW:A.frames=some (env::outer))(e:s.heap.FunFrames Zl (env::outer))(q:env.frame=some L)
  (f:s.heap.get? ea=some oe) (r:oe.cls=C) (Ka:oe.dict=dx) (hd:oe.data=.fields vs) (c:1<vs.size)
  (h:∀h' T,Kp (env::outer) ea none s.heap h'->s.heap.objs.size<=T->HL h' ea C dx (some T)->Q () { s with heap:=h' }) :
  wpAny M A (do
   let fr <- frameOf env
   let pl <- entryPlaceOf L more
   let b <- EntryCells.newEntry head fr Value.none (rawInt L) Value.none pl
   setField (.ref ea) 1 b) Q E s:=by
 have l:=d9 e f hd;refine kU (wpAny_frameOf_fun MW e q λg a=>?_);refine kU (wpAny_entryPlaceOf λpl p=>?_);unfold EntryCells.newEntry newFields;refine kU (nZ ?_ (p.sizeOk5 _ _ _ _ _));generalize t:([head,Value.ref L,Value.none,rawInt L,Value.none]++(if pl.isEmpty then List.replicate 6 Value.none else pl)).toArray=ts
 have n:3<ts.size:=by
  rw[<- t];simp only[Bm,C0,Bw,SV];omega
 have j:g.get? ea=some oe:=(a.2.1 ea l).trans f;have u:(g.push { cls:=.type "traceback", dict:=none,data:=.fields ts }).get? g.objs.size=some { cls:=.type "traceback", dict:=none,data:=.fields ts }:=BM g rfl;have i:=B7 (h:=g) { cls:=.type "traceback", dict:=none,data:=.fields ts } j;have m:g.objs.size≠ea:=JD (Az j);have k:=GI hd (·.setIfInBounds 1 (Value.ref g.objs.size))
 have w:=EM (Obj.mapFields (·.setIfInBounds 1 (Value.ref g.objs.size))) i (Mr k)
 have x:=(EB (g.push { cls:=.type "traceback", dict:=none,data:=.fields ts }) (Obj.mapFields (·.setIfInBounds 1 (Value.ref g.objs.size))) (B0 m)).trans u
 refine pk i hd c (h _ g.objs.size ⟨λb o hb MI Eo _=>?_,λb o hb Ie=>?_,?_⟩ ?_ ⟨⟨_,_,w,?_,?_,k,?_,?_⟩,λT v=>?_⟩)
 .have d:g.get? b=some o:=(a.2.1 b MI).trans hb;rw[EB _ _ (B0 Eo)];exact B7 _ d
 .obtain⟨sl,d⟩:=a.2.2 b o hb;refine⟨sl,?_⟩;rw[EB _ _ (by rintro rfl;exact l Ie)];exact B7 _ d
 .rw[Ym,D5,a.1];exact D6 _
 .rw[a.1];exact Ad _
 .rw[Sb];exact r
 .rw[ZBy];exact Ka
 .simpa using c
 .simp[c]
 .cases v;exact⟨m,_,_,x,rfl,n⟩
theorem Kp.refl{l:List Env}{ea:Addr}{tb:Option Addr}{h:Heap}:Kp l ea tb h h:=⟨λ_ _ hb _ _ _=>hb,λ_ o hb _=>⟨o.slots,hb⟩,Ad _⟩
theorem ZCH(MW:A.frames=some (env::outer))(d:s.heap.FunFrames Zl (env::outer))(e:env.frame=some L)(hx:HL s.heap ea C dx tb)
  (h:∀h' T,Kp (env::outer) ea tb s.heap h'->s.heap.objs.size<=T∨tb=some T->HL h' ea C dx (some T)->Q () { s with heap:=h' }) :
  wpAny M A (noteFrame (.ref ea) env) Q E s:=by
 obtain⟨oe,vs,f,l,hd,Es,i,h1⟩:=hx.obj;unfold noteFrame;simp only[e];refine kU (t6 f Es h1 ?_);cases tb with
 |none=>
  rw[km (by decide)];exact eV MW d e f l hd Es i λh' T k q=>h h' T k (.inl q)
 |some T=>
  obtain⟨KJ,oT,ts,a,Ef,g⟩:=hx.ent T rfl;show wpAny M A (do if(Value.ref T != Value.none)=true then _ else _) _ _ _
  rw[kz (show(Value.ref T != Value.none)=true from by simp)];refine kU (t6 a Ef (LL g) ?_)
  by_cases j:(ts[3] == rawInt L)=true
  .rw[kz j];exact kX (h s.heap T Kp.refl (.inr rfl) hx)
  rw[km j];refine kU (pk a Ef g ?_);have c:∀b,b≠T->(s.heap.update T (Obj.mapFields (·.setIfInBounds 3 Value.none))).get? b=s.heap.get? b:=λb hb=>EB _ _ (B0 hb)
  have nT:=d9 d a Ef;refine eV (s:={ s with heap:=s.heap.update T (Obj.mapFields (·.setIfInBounds 3 Value.none)) }) MW (d.of_keeps λb o hb hn=>⟨o,(c b (by rintro rfl;rw[a]at hb;cases hb;exact hn ts Ef)).trans hb,rfl⟩) e ((c ea (B0 KJ)).trans f) l hd Es i λh' T' k hn x=>?_
  refine h h' T' ⟨λb o hb MI Eo GP=>k.keep b o ((c b (by rintro rfl;exact GP rfl)).trans hb) MI Eo (by simp),λb o hb Ie=>k.slot b o ((c b (by rintro rfl;exact nT Ie)).trans hb) Ie,?_⟩ (.inl ?_) x
  .have z:=k.size;rw[show(s.heap.update T (Obj.mapFields (·.setIfInBounds 3 Value.none))).objs.size=s.heap.objs.size from Ym ..]at z
   exact z
  .have z:=hn;rw[show(s.heap.update T (Obj.mapFields (·.setIfInBounds 3 Value.none))).objs.size=s.heap.objs.size from Ym ..]at z
   exact z
theorem Vo(x:HL s.heap ea C dx tb)(i:∀b∈Ci l,∃o,s.heap.get? b=some o/\∀vs,o.data≠.fields vs)
  (h:∀h',Kp l ea tb s.heap h'->HL h' ea C dx tb->Q () { s with heap:=h' }):wpAny M A (setFlight (.ref ea) fr) Q E s:=by
 obtain⟨oe,vs,e,j,hd,Es,g,h1⟩:=x.obj;unfold setFlight;refine kU (t6 e Es h1 ?_);cases tb with
 |none=>
  rw[km (by decide)];exact kX (h s.heap Kp.refl x)
 |some T=>
  obtain⟨KJ,oT,ts,a,Ef,d⟩:=x.ent T rfl;rw[kz (show((some T).elim Value.none Value.ref != Value.none)=true from by simp)];generalize (fr.elim Value.none λf=>rawInt f)=mk;have c:∀b,b≠T->(s.heap.update T (Obj.mapFields (·.setIfInBounds 3 mk))).get? b=s.heap.get? b:=λb hb=>EB _ _ (B0 hb)
  have m:=EM (Obj.mapFields (·.setIfInBounds 3 mk)) a (Mr (GI Ef _))
  refine pk a Ef d (h _ ⟨λb o hb _ _ GP=>(c b (by rintro rfl;exact GP rfl)).trans hb,λb o hb Ie=>⟨o.slots,(c b ?_).trans hb⟩,by rw[Ym];exact Ad _⟩ ⟨⟨oe,vs,(c ea (B0 KJ)).trans e,j,hd,Es,g,h1⟩,λT' k=>?_⟩)
  .rintro rfl;obtain⟨o',DJ,hn⟩:=i b Ie;rw[a]at DJ;cases DJ;exact hn ts Ef
  .cases k;exact⟨KJ,_,_,m,GI Ef _,by simpa using d⟩
theorem Kp.frames{h:Heap}(k:Kp l ea tb h h')(a:h.FunFrames Zl l):∀b∈Ci l,∃o,h'.get? b=some o/\∀vs,o.data≠.fields vs:=λb hb=>by
 obtain⟨_,o,ho,hn⟩:=a.mem hb;obtain⟨sl,e⟩:=k.slot b o ho hb;exact⟨_,e,hn⟩
theorem Kp.trans{T:Addr}{h h1 h2:Heap}(k:Kp l ea tb h h1)(c:h.objs.size<=T∨tb=some T)(a:Kp l ea (some T) h1 h2):Kp l ea tb h h2:=
 ⟨λb o hb MI Eo GP=>a.keep b o (k.keep b o hb MI Eo GP) MI Eo (λz=>c.elim (λy=>absurd (Az hb) (Nat.not_lt.mpr (BE z▸y))) λy=>GP (y.trans z)),
  λb o hb Ie=>by
  obtain⟨sl,e⟩:=k.slot b o hb Ie;obtain⟨JA,d⟩:=a.slot b _ e Ie;exact⟨JA,d⟩,CK k.size a.size⟩
theorem dZ(MW:A.frames=some (env::outer))(a:s.heap.FunFrames Zl (env::outer))(e:env.frame=some L)(hx:HL s.heap ea C dx tb)
  (h:∀h' T,Kp (env::outer) ea tb s.heap h'->s.heap.objs.size<=T∨tb=some T->HL h' ea C dx (some T)->Q () { s with heap:=h' }) :
  wpAny M A (noteFrame (.ref ea) env) (λ_ s'=>wpAny M A (setFlight (.ref ea) none) Q E s') E s:=
 ZCH MW a e hx λh1 T k b x=>Vo x (k.frames a) λh2 d c=>h h2 T (k.trans b d) b c
end
section
variable{P:Program}{K:ZEW}{E:XK}
theorem Bk.ZAx{h:Heap}(ok:Bk P w H' h)(k:∀b u,H' b≠none->h.get? b=some u->h'.get? b=some u):Bk P w H' h':=λa o e=>
 (ok a o e).HK (λb u hb c=>k b u (by rcases hb with rfl|hb;(rw[e];simp);(rw[hb];simp)) c) (λ_ z=>z) λ_ _ z=>z
def Goes(X:Cx)(E:St->XK):Prop:=∀(Zi:ZEX)(Z:St)(H':Hp)(s':Shared)(ea C:Addr)(dx tb:Option Addr),Inv X Zi Z H' s'->HL s'.heap ea (.ref C) dx tb->(H' ea=none/\X.s₀.heap.get? ea=none)->(∀T,tb=some T->H' T=none/\X.s₀.heap.get? T=none)->
 (∀p∈X.pn++Zi,p.1≠ea/\tb≠some p.1)->E Z (.ref C) dx H'->X.xe (.ref ea) s'
end
section
variable{K:ZEW}{x t:Addr}
section
open PySem.Builtin PySem.Builtin.ObjectAttr
end
end
section
variable{C:Value}
theorem Inv.Qw(I:Inv X Zi Z H s)(BA:X.stack=X.env::X.outer)(x:HL s.heap ea C dx tb)(E:H ea=none)(j:X.s₀.heap.get? ea=none)(f:∀T,tb=some T->H T=none/\X.s₀.heap.get? T=none)
  (n:∀p∈X.pn++Zi,p.1≠ea/\tb≠some p.1)(kp:Kp (X.env::X.outer) ea tb s.heap h'):Inv X Zi Z H { s with heap:=h' }:=by
 obtain⟨oe,vs,K,_,_,D,_⟩:=x.obj;have mem:∀b,b∈Ci (X.env::X.outer)->b=X.env.locals∨b∈X.fs:=λb hb=>by
  rw[<- BA]at hb;exact List.mem_cons.mp (I.Ov b hb)
 have B:∀b,b=X.env.locals∨b∈X.fs->b∈Ci (X.env::X.outer):=λb hb=>by
  have a:X.env.frame=some X.env.locals:=by
   rcases I.ok.Hf with e|⟨_,a⟩
   .rw[e]at BA;exact absurd (oW List.length BA) (by simp)
   .exact a
  unfold Ci;rw[Ys,a];rcases hb with rfl|hb
  .exact CJ
  .exact Ca _ hb
 have d:∀b o,s.heap.get? b=some o->(∀vs,o.data≠.fields vs)->∃sl,h'.get? b=some { o with slots:=sl }:=λb o hb hd=>by
  by_cases a:b∈Ci (X.env::X.outer)
  .exact kp.slot b o hb a
  .refine⟨o.slots,kp.keep b o hb a (by rintro rfl;rw[K]at hb;cases hb;exact hd _ D) λz=>?_⟩;obtain⟨_,oT,ts,L,Ef,_⟩:=x.ent b z;rw[L]at hb;cases hb;exact hd _ Ef
 have old:∀b o,s.heap.get? b=some o->H b≠none->h'.get? b=some o:=λb o hb hn=>kp.keep b o hb (λz=>hn (I.T9 b (by rw[BA];exact z))) (λz=>hn (z▸E)) λz=>hn (f b z).1;have g:∀b o,X.s₀.heap.get? b=some o->b≠X.env.locals:=λb o hb z=>absurd (Az hb) (Nat.not_lt.mpr (z▸I.ok.above));have A:∀c v,s.heap.IsCell c v->h'.IsCell c v:=λc v AJ=>by
  obtain⟨o,ho,hd⟩:=AJ;obtain⟨sl,h1⟩:=d c o ho (by rw[hd];intro vs z;cases z);exact⟨_,h1,hd⟩
 refine⟨I.ok,I.os,I.bare,⟨λb o hb hn a hx=>?_,λb o hb hn a hx=>?_,I.base.free,λb o hb hx=>?_,I.base.Gr,I.base.G2,I.base.Ge⟩,?_,λy c q=>?_,I.free,I.Dy,λp HW=>?_,I.AI.ZAx λb u hn hb=>old b u hb hn,I.len⟩
 .exact kp.keep b o (I.base.keep b o hb hn a hx) (λz=>(mem b z).elim (g b o hb) a) (by rintro rfl;rw[j]at hb;cases hb) λz=>by rw[(f b z).2]at hb;cases hb
 .obtain⟨sl,h1⟩:=I.base.slot b o hb hn a hx;obtain⟨JA,h2⟩:=kp.slot b _ h1 (B b (.inr a));exact⟨JA,h2⟩
 .obtain⟨l,h1⟩:=I.base.there b o hb hx
  by_cases a:b∈Ci (X.env::X.outer)
  .obtain⟨JA,h2⟩:=kp.slot b _ h1 a;exact⟨_,h2⟩
  .exact⟨l,kp.keep b l h1 a (by rintro rfl;rw[j]at hb;cases hb) λz=>by rw[(f b z).2]at hb;cases hb⟩
 .obtain⟨m,⟨o,es,ep,ho,r⟩,J⟩:=I.loc;obtain⟨sl,h1⟩:=kp.slot _ _ ho (B _ (.inl rfl));refine⟨m,⟨_,es,ep,h1,r⟩,λi y v hi hv G=>?_⟩;obtain⟨u,F,h⟩:=J i y v hi hv G;refine⟨u,F,?_⟩;rcases h with h|⟨k,c,hc,ic⟩
  .exact .inl h
  .exact .inr ⟨k,c,hc,A c _ ic⟩
 .obtain⟨v,hv⟩:=I.cell y c q;exact⟨v,A c v hv⟩
 .obtain⟨h1,h2,w,t,M⟩:=I.pin p HW;exact⟨kp.keep _ _ h1 (λz=>(mem _ z).elim w t) (n p HW).1 (n p HW).2,h2,w,t,M⟩
end
theorem Inv.unbind{Q:Unit->Shared->Prop}(I:Inv X Zi Z H s)(D:X.N.Nodup)(g:X.N[j]?=some n)(hk:X.env.scope.names.lookup n=some .local)
  (h:∀s',Inv X Zi (Z.set j none) H s'->Q () s'):wpAny M A (do bindName X.env n .none;unbindBehindTheSuite X.env n pos) Q E s:=by
 refine kU (wpAny_bindName (Z9 (v:=.A7) I D g (.inl hk) rfl (λs1 I1 _=>?_) (.inr hk)));unfold unbindBehindTheSuite;refine wpAny_onRaise ?_;obtain⟨m,hn,C⟩:=id I1.loc;have R:(X.env.scope.kind == .class || (X.env.scope.kind == .module && X.env.locals != X.env.globals))=false:=by rw[I.ok.kind];rfl
 have hjσ:j<Z.length:=by rw[I.len];exact(List.getElem?_eq_some_iff.mp g).1
 obtain⟨u,U,K⟩:=C j n .A7 g (CH hjσ) (.inl hk);have O:m n=some u:=by
  rcases K with⟨_,e⟩|⟨z,_⟩
  .exact e
  .have S:X.env.kindOf n=some .local:=hk;rw[S]at z;rcases z with z|z <;> cases z
 refine wpAny_unbindName_local hk hn O R λh' T Wv f=>?_;obtain⟨V,_,_,MS,_⟩:=id hn;have FT:=I1.FT;have a:∀b o,X.s₀.heap.get? b=some o->b≠X.env.locals:=λb o hb=>BL (Cr (Az hb) I.ok.above);refine h _ ⟨I1.ok,I1.os,I1.bare,⟨λb o e n hb hx=>(f.2 b (a b o e)).trans (I1.base.keep b o e n hb hx),λb o e n hb hx=>?_,I1.base.free,λb o e hx=>?_,I1.base.Gr,I1.base.G2,I1.base.Ge⟩,⟨_,Wv,λi y F l t P=>?_⟩,λy c e=>?_,I1.free,I1.Dy,λp L=>?_,λb ob e=>?_,by simpa using I.len⟩
 .obtain⟨sl,l⟩:=I1.base.slot b o e n hb hx;exact⟨sl,(f.2 b (a b o e)).trans l⟩
 .obtain⟨o',l⟩:=I1.base.there b o e hx;exact⟨o',(f.2 b (a b o e)).trans l⟩
 .have x:i≠j:=by
   rintro rfl;rw[CH hjσ]at t;cases t
  rw[C4 (B0 x)]at t;obtain⟨w,G,q⟩:=C i y F l (by rw[C4 (B0 x)];exact t) P;refine⟨w,G,?_⟩;rcases q with⟨k,e⟩|⟨k,c,e,z⟩
  .refine .inl ⟨k,?_⟩;have:y≠n:=λe=>x (UJ D l (e▸g));simp[this,e]
  .exact .inr ⟨k,c,e,z.sameBut f (FT y c e)⟩
 .obtain⟨B,z⟩:=I1.cell y c e;exact⟨B,z.sameBut f (FT y c e)⟩
 .obtain⟨e,n,ne,J,d⟩:=I1.pin p L;exact⟨(f.2 p.1 ne).trans e,n,ne,J,d⟩
 .refine(I1.AI b ob e).HK (λc B r q=>(f.2 c ?_).trans q) (λ_ q=>q) λ_ _ q=>q;rintro rfl;have fr:=I1.free;rcases r with rfl|r
  .rw[fr]at e;cases e
  .rw[fr]at r;cases r
theorem Inv.nh(I:Inv X Zi Z H s)(x:HL s.heap ea (.ref C) dx tb)(i:H ea=none)(h:X.s₀.heap.get? ea=none)(l:∀p∈X.pn++Zi,p.1≠ea):Inv X Zi Z (upd H ea (Fz.HX ea C dx)) s:=by
 obtain⟨oe,vs,e,d,hd,Es,_⟩:=x.obj;have f:X.env.locals≠ea:=λz=>by
  obtain⟨m,⟨o,es,ep,ho,a,_⟩,_⟩:=I.loc;rw[z,e]at ho;cases ho;rw[Es]at a;cases a
 have FT:∀y c,X.env.cells.lookup y=some c->c≠ea:=λy c q z=>by
  obtain⟨v,o,ho,a⟩:=I.cell y c q;rw[z,e]at ho;cases ho;rw[Es]at a;cases a
 have tr:∀b o,H b=some o->upd H ea (Fz.HX ea C dx) b=some o:=λb o q=>by
  rw[Ab (by rintro rfl;rw[i]at q;cases q)];exact q
 refine⟨I.ok,I.os,I.bare,⟨I.base.keep,I.base.slot,λb o q n hx=>?_,I.base.there,λb xs q=>tr b _ (I.base.Gr b xs q),λb o u q=>tr b _ (I.base.G2 b o u q),λb ps q=>?_⟩,I.loc,I.cell,?_,λy c q=>?_,λp HW=>?_,λb o q=>?_,I.len⟩
 .rw[Ab (by rintro rfl;rw[h]at q;cases q)];exact I.base.free b o q n hx
 .obtain⟨m,z⟩:=I.base.Ge b ps q;exact⟨m,tr b _ z⟩
 .rw[Ab f];exact I.free
 .rw[Ab (FT y c q)];exact I.Dy y c q
 .obtain⟨h1,h2,t⟩:=I.pin p HW;exact⟨h1,by rw[Ab (l p HW)];exact h2,t⟩
 .by_cases z:b=ea
  .subst z;rw[AO]at q;cases q;exact⟨⟨oe,vs,e,d,hd,Es⟩,⟨_,e⟩,λ_ _⟨o',g,w,r⟩k=>⟨o',g,k _ w,r⟩⟩
  .rw[Ab z]at q;exact(I.AI b o q).HK (λc u _ j=>j) (λc d=>tr c _ d) λc xs d=>tr c _ d
noncomputable abbrev Cx.Dq(X:Cx)(pn:ZEX)(xe:Value->Shared->Prop):Cx:={ X with pn:=pn,xe:=xe }
noncomputable abbrev Cx.C8(X:Cx)(e:Value):Cx:={ X with A:=X.A.mark (some e),calm:=false,xe:=λ_ _=>False }
section
variable{YH:ZEX}{e:Value}
theorem Cx.Ok.Dq(ok:X.Ok):(X.Dq pn xe).Ok:=⟨ok.mod,ok.kind,ok.glob,ok.blt,ok.above,ok.inj,ok.has,ok.Jq,ok.hd,ok.frames,ok.Hf,ok.LC,ok.bs,ok.G0,ok.K3,ok.K8,ok.ER,ok.HI⟩
theorem Cx.Ok.Fm(ok:(X.Dq pn xe).Ok):X.Ok:=⟨ok.mod,ok.kind,ok.glob,ok.blt,ok.above,ok.inj,ok.has,ok.Jq,ok.hd,ok.frames,ok.Hf,ok.LC,ok.bs,ok.G0,ok.K3,ok.K8,ok.ER,ok.HI⟩
theorem Cx.Ok.C8(ok:X.Ok):(X.C8 e).Ok:=⟨ok.mod,ok.kind,ok.glob,ok.blt,ok.above,ok.inj,ok.has,ok.Jq,λz=>(by cases z),ok.frames,ok.Hf,ok.LC,ok.bs,ok.G0,ok.K3,ok.K8,ok.ER,ok.HI⟩
theorem Inv.Dq(I:Inv X Zi Z H s):Inv (X.Dq (X.pn++Zi) xe) [] Z H s:=⟨I.ok.Dq,I.os,I.bare,I.base,I.loc,I.cell,I.free,I.Dy,λp a=>I.pin p (by simpa using a),I.AI,I.len⟩
theorem Inv.Fm(I:Inv (X.Dq (X.pn++Zi) xe) YH Z H s):Inv X Zi Z H s:=⟨I.ok.Fm,I.os,I.bare,I.base,I.loc,I.cell,I.free,I.Dy,λp a=>I.pin p (Gz _ a),I.AI,I.len⟩
theorem Inv.C8(I:Inv X Zi Z H s):Inv (X.C8 e) Zi Z H s:=⟨I.ok.C8,I.os,I.bare,I.base,I.loc,I.cell,I.free,I.Dy,I.pin,I.AI,I.len⟩
theorem Inv.JY(ok:X.Ok)(I:Inv (X.C8 e) Zi Z H s):Inv X Zi Z H s:=⟨ok,I.os,I.bare,I.base,I.loc,I.cell,I.free,I.Dy,I.pin,I.AI,I.len⟩
end
def Ends.drop(D:Ends)(j:Nat):Ends:=⟨λZ H=>D.nx (Z.set j none) H,D.rt,λZ H=>D.bk (Z.set j none) H,λZ H=>D.ct (Z.set j none) H⟩
def Vr(K:ZEW)(S:Addr)(j:Nat)(tb:(St->XK)->TS)(th:TS):TS:=λD Z H=>∃E1:St->XK,tb E1 D Z H/\
 ∀ σ1 C dx ea H1,E1 σ1 (.ref C) dx H1->H1 ea=none->PySem.W.exmOne K (.ref C) (.ref S)=some true/\th (D.drop j) (σ1.set j (some (.ref ea))) (upd H1 ea (Fz.HX ea C dx))
section
variable{i k:Nat}{E:St->XK}{body C8:List Stmt}{fld:Str}
theorem tq(BA:X.stack=X.env::X.outer)(U:X.ex=[])(t:X.N.Nodup)(m:X.N[j]?=some n)(hk:X.env.scope.names.lookup n=some .local)(R:Gl X x)(Q:X.mg x=some (.ref S))
  (hb:∀(pn:ZEX)(xe:Value->Shared->Prop)(E1:St->XK),Goes (X.Dq pn xe) E1->FU (X.Dq pn xe) body (Hm E1))
  (hh:∀e,FU (X.C8 e) (b0::C8) th) (Bs:(x == ("__debug__":Str))=false:=by decide) :
  QS X (.Try body [.ExceptHandler (some (.Name x np)) (some n) (b0::C8) GQ] [] [] pos) (Vr X.K S j Hm th):=⟨by
 have hb:=λpn xe E1 g=>(hb pn xe E1 g).h;have hh:=λe=>(hh e).h;intro Zi s Z H D I h;obtain⟨E1,h1,h2⟩:=h;have G:X.env.frame=some X.env.locals:=by
  rcases I.ok.Hf with e|⟨_,G⟩
  .rw[e]at BA;exact absurd (oW List.length BA) (by simp)
  .exact G
 refine wpAny_Try_except ?_;refine ni (hb (X.pn++Zi) _ E1 ?_ [] s Z H D I.Dq h1) (λf s1 q=>?_) (λe s1 q=>q)
 .intro YH σ1 H1 s1 ea C dx tb I1 J ⟨B,k⟩ A c σ;have i:Inv X Zi σ1 H1 s1:=I1.Fm;have k:X.s₀.heap.get? ea=none:=k;have A:∀T,tb=some T->H1 T=none/\X.s₀.heap.get? T=none:=A;have c:∀p∈X.pn++Zi,p.1≠ea/\tb≠some p.1:=λp q=>c p (Gz _ q);refine dZ (outer:=X.outer) (L:=X.env.locals) (by rw[<- BA];exact i.ok.frames) (Zl:=X.base) (by rw[<- BA];exact i.stack) G J λh' T kp a F=>?_;have E:=i.Qw BA J B k A c kp;obtain⟨XW,XZ⟩:=h2 σ1 C dx ea H1 σ B;refine wpAny_handleBy_cons ?_ (λz=>by cases z);refine codeAny_handlers_test ?_;refine Nv (X:=X.C8 (.ref ea)) E.C8 R Q ?_ Bs;obtain⟨oe,vs,V,Y,hd,Es,hz,h3⟩:=F.obj;have LT:PySem.W.Looks (model X.prog X.w) h' (typeOf (.ref ea)) (.ref C):=by
   rw[<- Y];exact(ZDc V).andThen .now
  refine(PySem.W.exm_one (K:=X.K) E.EI LT XW).here ?_;refine codeAny_handlers_suite_as ?_;have fl:∀b∈Ci (X.env::X.outer),∃o,h'.get? b=some o/\∀vs,o.data≠.fields vs:=λb hb=>by
   have st:=E.stack;rw[BA]at st;obtain⟨_,o,ho,hn⟩:=st.mem hb;exact⟨o,ho,hn⟩
  refine Vo (s:={ s1 with heap:=h' }) (l:=X.env::X.outer) F fl λh4 TM O=>?_
  have UU:∀T',some T=some T'->H1 T'=none/\X.s₀.heap.get? T'=none:=λT' eT=>by
   cases eT;exact a.elim (λa=>⟨i.AI.fresh a,jT (CK i.sz a)⟩) (A T)
  have WA:∀p∈X.pn++Zi,p.1≠ea/\some T≠some p.1:=λp q=>⟨(c p q).1,λz=>a.elim (λa=>by
   have M:=Az (i.pin p q).1;rw[<- BE z]at M;exact absurd M (Nat.not_lt.mpr a)) λy=>(c p q).2 (y.trans z)⟩
  have I4:=E.Qw BA F B k UU WA TM;have I5:=I4.nh O B k λp q=>(c p q).1;refine Xa (X:=X.C8 (.ref ea)) (v:=.ref ea) I5.C8 t m (.inl hk) rfl (λP I6=>?_) (.inr hk);refine ni (hh (.ref ea) Zi P _ _ (D.drop j) I6 XZ) (λf s7 q=>?_) (λ_ _ z=>z.elim);cases f with
  |next=>
   obtain⟨σ7,H7,I7,d⟩:=q;exact(I7.JY I.ok).unbind t m hk λs' I9=>⟨_,_,I9,d⟩
  |brk=>
   obtain⟨σ7,H7,I7,d⟩:=q;exact(I7.JY I.ok).unbind t m hk λs' I9=>⟨_,_,I9,d⟩
  |cont=>
   obtain⟨σ7,H7,I7,d⟩:=q;exact(I7.JY I.ok).unbind t m hk λs' I9=>⟨_,_,I9,d⟩
  |ret u=>
   obtain⟨v,σ7,H7,I7,r,d⟩:=q;exact(I7.JY I.ok).unbind t m hk λs' I9=>⟨v,_,_,I9,r,d⟩
 .cases f with
  |next=>
   obtain⟨σ7,H7,I7,d⟩:=q;exact wO ⟨_,_,I7.Fm,d⟩
  |brk=>
   obtain⟨σ7,H7,I7,d⟩:=q;exact⟨_,_,I7.Fm,d⟩
  |cont=>
   obtain⟨σ7,H7,I7,d⟩:=q;exact⟨_,_,I7.Fm,d⟩
  |ret u=>
   obtain⟨v,σ7,H7,I7,r,d⟩:=q;exact⟨v,_,_,I7.Fm,r,d⟩⟩
end
section
variable{K:ZEW}{x:Addr}{od:Option Obj}{fill expr:Bool}{tk:Tok}
structure W2 (K:ZEW) (C:Addr):Prop where
 ga:PySem.W.findIn K (.ref C) "__getattribute__"=some (some (.builtin "BaseException.__getattribute__"))
 gt:PySem.W.findIn K (.ref C) "__getattr__"=some none
 mb:PySem.W.mroIn K C (.type "BaseException")=some true
theorem xQ(o:Value):bindSpecial (.builtin "BaseException.__getattribute__") o=pure (.builtin "BaseException.__getattribute__", [o]):=by
 first|rfl|kernel_rfl
theorem nc(X:K.In s.heap)(I:PySem.W.InstAt s.heap x ox C od)(g:W2 K C)
  (h:wpAny (model prog w) A.in1 (Builtin.«object.__getattribute__» ⟨[.ref x,.str name tk],[]⟩) (λa s'=>match a with | .done (.ret v)=>wpAny (model prog w) A (handedOut v) Q E s'|_=>False) (λ_ _=>False) s) :
  wpAny (model prog w) A (getAttrBy (.ref x) (.str name tk) fill expr) Q E s:=by
 obtain⟨hh,k,d,t,os⟩:=s;have b:=I.type (M:=model prog w);have j:=k7 (M:=model prog w) X g.ga;have i:=k7 (M:=model prog w) X g.gt;have f:=PySem.W.looks_mroIn (M:=model prog w) X g.mb;unfold getAttrBy;refine oR (kU (b.at (kU (j.at ?_))));have e:(Value.builtin "BaseException.__getattribute__" == Value.builtin "object.__getattribute__")=false:=by decide +kernel
 dsimp only;rw[km (by rw[e,SK];decide)];unfold getAttrByItsOwn hookBefore;rw[kz (show onTheHeap (Value.ref C)=true from rfl)];refine kU (i.at (kU (yX (oR ?_))));unfold callGetattribute;rw[km (show ¬ (expr && onTheHeap (Value.builtin "BaseException.__getattribute__"))=true by cases expr <;> decide)]
 unfold boundAndCalled;rw[xQ];refine kU (kX ?_);show wpAny _ _ (call (.builtin "BaseException.__getattribute__") [.ref x,.str name tk]) _ _ _;refine wpAny_call (codeAny_call_builtin PySem.F.excAttr_ValueError.ga.plain PySem.F.entry_bexc_ga ?_);have hk:builtinKind "BaseException.__getattribute__"=some .slot:=by decide +kernel
 have c:splitId "BaseException.__getattribute__"=some ("BaseException","__getattribute__"):=by decide +kernel
 have ha:=PySem.F.args_bexc_ga (.ref x) (.str name tk);simp only[checkBuiltinCall,hk,c];unfold isInstance;refine kU (kU (b.at (f.at ?_)));rw[km (by decide)];refine uq ha ?_;refine ni h (λa s' z=>?_) λ_ _ z=>z.elim;rcases a with(_|_|_|_)|_ <;> first|exact z|exact z.elim
theorem pL(X:K.In s.heap)(I:PySem.W.InstAt s.heap x ox C od)(g:W2 K C)(a:PySem.W.findObj K C od name=some (.value v))(hh:PySem.W.handedIn v=true)(h:Q v { s with toks:=s.toks+1 }):
  wpAny (model prog w) A (getAttr (.ref x) name expr) Q E s:=by
 unfold getAttr;refine kU (wpAny_mkText (nc (s:={ s with toks:=s.toks+1 }) X I g ?_))
 obtain⟨e,f,d,t,os⟩:=s;have c:=I.type (M:=model prog w);have b:=PySem.W.looks_find (M:=model prog w) X I a;refine kU (kX (kU (kX (kU (c.at (kU (b.at ?_)))))));refine kX ?_;show wpAny _ _ (handedOut v) _ _ _;rw[PySem.W.handedOut_of hh];exact kX h
end
def Xe(K:ZEW)(ta:TE)(f:Str):TE:=λZ H Q=>ta Z H λx H1=>∃a C dx fs v,x=.ref a/\H1 a=some (Fz.HX a C (some dx))/\H1 dx=some (.xd fs)/\W2 K C/\PySem.W.hasDictIn K C=true/\BI K C f/\fs.lookup f=some v/\Q v H1
section
variable{ta:TE}{f:Str}
theorem ZAG(b:QE X e ta)(hb:attributeBase e f X.env (eval e X.env)=eval e X.env:=by rfl):QE X (.Attribute e f pos) (Xe X.K ta f):=⟨by
 have b:=b.h;intro Zi s Z H Q I h;refine di hb (AN (b Zi s Z H _ I h) λu s1⟨x,H1,I1,i,a,C,dx,fs,v,ex,ea,t,g,hd,n,l,q⟩=>?_);subst ex;obtain rfl:u=Value.ref a:=i;obtain⟨ob,vs,h1,h2,p,m⟩:=(I1.AI a _ ea).1;obtain⟨mA,ns,r⟩:=I1.AI dx _ t;obtain⟨od,d,j⟩:=j9 ns;obtain⟨u,k,c⟩:=Dd.some_of (v:=v) (o:=mA f) (by rw[<- l];exact r f);have J:PySem.W.InstAt s1.heap a ob C (some od):=⟨h1,h2,by unfold PySem.W.notCls;rw[m],by rw[p];exact d⟩;exact pL I1.EI J g (ZDe hd n rfl (by rw[j f,k])) (gk c) ⟨v,H1,I1.tok _,c,q⟩⟩
end
end L2
namespace Fz
open L2 Lw
variable{xs:List PV}{E:Ent0}{ss:List Slot}{Z:L2.St}{F F' F1 H H':Hp}{ta tb tc te ti:TE}{neg tp:Bool}{nx:List Slot->Prop}{R:Ai}
theorem ZS(x:Int):∀ns:List Int,Di (.int x) (ns.map V.int)=decide (x∈ns)
 | []=>by simp[Di]
 |n::r=>by
  have a:=ZS x r;unfold Di at a ⊢;rw[Bh,LO,a]
  by_cases h:n=x
  .subst h;simp[DF]
  .have h':¬ x=n:=λe=>h e.symm;simp[DF,h,h']
theorem qw(ns:List Int):(ns.map V.int).all Dz=true:=by
 rw[Fi];intro x hx;obtain⟨y,_,rfl⟩:=List.mem_map.mp hx;rfl
structure MM (K:ZEW) (a:Addr) (xs:List PV):Prop where
 OQ:xs.all flat=true
 sq:∀H,AD K H a (xs.map Fz.enc)
 ob:∃o:Obj,K.lookup a=some o/\o.cls=.type "tuple"
theorem MM.of{K:ZEW}{a:Addr}{vs:List V}(h:∀H,AD K H a vs)(e:xs.map Fz.enc=vs)(f:xs.all flat=true):MM K a xs:=by
 subst e;refine⟨f,h,?_⟩;rcases h (λ_=>none)with h|⟨o,A3,n,h1,h2,_⟩
 .rcases h with h|⟨_,h⟩
  .cases h
  .cases h
 .exact⟨o,h1,h2⟩
section
variable[Xw]
variable{K:ZEW}{k:PV->Prop}{v:V}
theorem RP(h:Wp ss ta λp=>∃x,p=.int x/\Wq ss tb λ_ ys=>∃ns:List Int,ys=ns.map PV.int/\k (.bl (if neg then !decide (x∈ns)else decide (x∈ns)))):Wp ss (Bn (I0 K neg) ta tb) k:=⟨λE Z F H Q S q=>
 h.go E Z F H _ S λv p F1 H1 b f AJ=>by
  obtain⟨x,e,h2⟩:=AJ;subst e;cases f.inv;exact h2.go E Z F1 H1 _ b.st λi tp ys F2 H2 a d D0=>by
   obtain⟨ns,g,kk⟩:=D0;subst g;obtain⟨l,vs,rfl,c,r⟩:=d.seq a.st;rw[r.ints]at c;refine⟨l,_,rfl,(BF.sq (K:=K) c).or,rfl,qw ns,?_⟩;rw[ZS];exact q _ _ F2 H2 (b.trans a) (.bl _) kk⟩
end
theorem mU{α:Type}(b:List α)(x:α)(j:Nat):(b.take j++x::b.drop j).Perm (x::b):=by
 have h:=List.perm_middle (a:=x) (l₁:=b.take j) (l₂:=b.drop j)
 rwa [LQ]at h
theorem Us{a:List Str}{x:Str}(j:Nat)(h:a.Nodup)(hx:x∉a):(a.take j++x::a.drop j).Nodup:=(mU a x j).nodup_iff.mpr (List.nodup_cons.mpr ⟨hx,h⟩)
section
variable[Xw]
variable{K:ZEW}{k:PV->Prop}{v:V}
variable{js:List Nat}
theorem X6{i:Nat}(hi:ss[i]?=some .AF)(h:Wq ss ta λtp xs=>tp=false/\∃ns:List Str,xs=ns.map PV.str/\(∀x∈ns,Nm x)/\ns.length<=1000/\∀x:Str,Nm x->x∉ns->k (.str x)):
  Wp ss (D3 (NI K) [] E0 (Al (BP i) (Al ta BO))) k:=⟨λE Z F H Q S q=>by
 obtain⟨p,e,_⟩:=S.ok i _ hi;refine⟨_,e,h.go E Z F H _ S λv tp xs F1 H1 a c⟨j,ns,ex,f,d,kk⟩=>?_⟩;subst j;subst ex;obtain⟨l,vs,g,hn,b,r⟩:=c;subst g;rw[r.strs]at b;exact⟨p,l,ns,rfl,a.st.EF hi e,b,λz=>hn i hi (z▸e),f,d,λx H3 hx LG s=>q _ _ F1 H3 (a.trans (a.st.Q2 hi e s)) (.str x) (kk x hx LG)⟩⟩
end
end Fz
namespace Fz
open L2 Lw
variable{E:Ent0}{AG ss:List Slot}{Z σ':L2.St}{F F' H H':Hp}{te:TE}{v:V}{nx:List Slot->Prop}{R:Ai}{pre:Qy}
@[reducible] def ZEG (X:XK) (D:Ex->Prop):Xw:=⟨λ_=>X,λ_=>True,D⟩
@[reducible] def G1 (E:Ent0) (J:List Slot->Prop) (D:Ex->Prop):Xw:=⟨λZ C dx H=>∃ss F x,J ss/\Sg E ss Z F H/\D x/\x.at F C dx,J,D⟩
noncomputable abbrev Ent0.at(E:Ent0)(F:Hp):Ent0:=⟨E.A,F,E.H0,E.B⟩
theorem Fin.un(S:Fin E F H)(f:Fin (E.at F) F' H'):Fin E F' H':=⟨f.fh,S.f0.trans f.f0,f.keep,λa o e=>(f.fresh a o e).elim (λe=>S.fresh a o e) .inr,f.DV,f.Ja,f.a0,f.bF,f.bH,f.b0⟩
theorem Ok.un{G:Hp}{s:Slot}{o:Option (Option V)}:Ok (E.at G) F H s o↔Ok E F H s o:=by
 cases s with
 |sq tp xs=>cases tp <;> exact KC
 |_=>exact KC
theorem Sg.un(S:Sg E ss Z F H)(S':Sg (E.at F) AG σ' F' H'):Sg E AG σ' F' H':=⟨S.toFin.un S'.toFin,S'.len,λi s hi=>Ok.un.mp (S'.ok i s hi),S'.Bb⟩
theorem Sg.gF(S:Sg E ss Z F H):Sg (E.at F) ss Z F H:=⟨⟨S.fh,A8.refl _,S.keep,λ_ _ e=>.inl e,S.DV,S.Ja,S.a0,S.bF,S.bH,S.b0⟩,S.len,λi s hi=>Ok.un.mpr (S.ok i s hi),S.Bb⟩
theorem Ai.un{G:Hp}(h:R.ok (E.at G) F H v):R.ok E F H v:=by
 cases R <;> exact h
theorem Sg.nG(S:Sg E ss Z F H)(j:Nat):Sg E (ss.set j .any) (Z.set j none) F H:=by
 have at_:∀(i:Nat)(s:Slot),(ss.set j .any)[i]?=some s->s=.any∨(i≠j/\ss[i]?=some s):=λi s hi=>by
  by_cases q:i=j
  .subst q
   by_cases c:i<ss.length
   .rw[CH c]at hi;cases hi;exact .inl rfl
   .rw[JB (by rw[Hw];omega)]at hi;cases hi
  .rw[C4 (B0 q)]at hi;exact .inr ⟨q,hi⟩
 refine⟨S.toFin,by rw[Hw,Hw];exact S.len,λi s hi=>?_,λi k u w l MR hi hk b a=>?_⟩
 .rcases at_ i s hi with rfl|⟨q,hi⟩
  .trivial
  .rw[C4 (B0 q)];exact S.ok i s hi
 .rcases at_ i u hi with rfl|⟨q,hi⟩
  .exact b
  .rcases at_ k w hk with rfl|⟨q2,hk⟩
   .exact a
   .rw[C4 (B0 q)]at b;rw[C4 (B0 q2)]at a;exact S.Bb i k u w l MR hi hk b a
section
variable[Xw]
variable{K:ZEW}{S:Addr}{j:Nat}{tb:(L2.St->XK)->TS}{th:TS}
theorem sT(J:List Slot->Prop)(Dx:Ex->Prop)(hb:∀E:Ent0,@Ws (G1 E J Dx) ss (tb (G1 E J Dx).e) nx R)
  (hh:∀GJ x,J GJ->Dx x->PySem.W.exmOne K (.ref x.C) (.ref S)=some true/\Ws (GJ.set j (.is (.exc x.C x.ns x.xs))) th (λDD=>nx (DD.set j .any)) R):Ws ss (Vr K S j tb th) nx R:=⟨λE D Z F H S0 hn i=>by
 refine⟨(G1 (E.toEnt0.at F) J Dx).e,@Ws.go (G1 (E.toEnt0.at F) J Dx) _ _ _ _ (hb (E.toEnt0.at F)) (@Ent.mk (G1 (E.toEnt0.at F) J Dx) (E.toEnt0.at F) λss Z F H x C dx b S d B3=>⟨ss,F,x,b,S,d,B3⟩) D Z F H S0.gF (λAG σ' F' H' n S' ff=>hn AG σ' F' H' n (S0.un S') ff) (λv F' H' f ok=>i v F' H' (S0.toFin.un f) (Ai.un ok)),λσ1 C dx ea H1 k RG=>?_⟩;obtain⟨GJ,F1,x,b,S1,l,o,B3⟩:=k;obtain⟨Oc,hw⟩:=hh GJ x b l;cases o;have q:=S0.un S1;have m:=q.alloc RG (HX ea x.C dx);have r:Rep (upd F1 ea (HX ea x.C dx)) (.ref ea) (.exc x.C x.ns x.xs):=by
  rcases B3 with⟨h,g,c⟩|⟨a,vs,h,g,c,p⟩
  .subst c;rw[h,g];exact .Oq AO
  .subst h;exact .exc AO (m.ff _ _ g) c (p.mono m.ff)
 exact⟨Oc,hw.go E (D.drop j) _ _ _ (m.st.Jb r) (λDD σ2 F3 H3 n2 S2 ff=>hn _ _ F3 H3 n2 (S2.nG j) (S1.f0.trans (m.ff.trans ff))) λv F' H' f ok=>i v F' H' f ok⟩⟩
variable{k:PV->Prop}{fld:Str}
end
end Fz
namespace Fz
open L2 Lw
variable{c g m:Nat}{ss:List Slot}{ta tb tc te:TE}{cs ns:List Str}{r x:Str}{F:Hp}{d:AY}
theorem ZBh{b c n:Int}(hb:1<=b)(a:b<=c)(hn:0<=n):∃m:Nat,(if(if c<n then c else n) > b then(if c<n then c else n)else b)=(m:Int)/\(m:Int)<=c:=by
 have h:∀z:Int,1<=z->z<=c->∃m:Nat,z=(m:Int)/\(m:Int)<=c:=λz d h1=>⟨z.toNat,by omega,by omega⟩;apply h
 .split
  .omega
  .omega
 .split
  .split <;> omega
  .omega
section
variable[Xw]
variable{K:ZEW}{k:PV->Prop}{a:Addr}
theorem y8{neg:Bool}(c:MM K a (ns.map .str))(h:Wp ss ta λp=>∃x,p=.str x/\k (.bl (if neg then !decide (x∈ns)else decide (x∈ns)))):Wp ss (Bn (I0 K neg) ta (tC (.ref a))) k:=⟨λE Z F H Q S q=>
 h.go E Z F H _ S λv p F1 H1 d b AJ=>by
  obtain⟨x,e,kk⟩:=AJ;subst e;cases b.inv;have sq:=c.sq H1;rw[Ss]at sq;refine⟨a,ns.map V.str,rfl,.inr sq,rfl,EJ ns,?_⟩;rw[IB];exact q _ _ F1 H1 d (.bl _) kk⟩
end
noncomputable def Xn(r:Str):Bool:=decide (r∈([("none":Str), "ahead","all"]))
theorem fU(h:x.length<=100)(hx:∀c∈x.cps.toList,c<16 ^ 8):(reprText x).length<=100000:=by
 have:=PySem.StrLaws.reprText_len x hx;omega
theorem xO(h:Nm x):(reprText x).length<=100000:=fU (CK h.2.1 (by decide)) λc a=>LS (h.2.2 c a).2 (by decide)
def MG:PV->Bool
 | .A7=>true
 |_=>false
theorem Rep.MG{v:V}{p:PV}(r:Rep F v p):decide (v=.A7)=MG p:=by
 cases r <;> rfl
section
variable[Xw]
variable{k:PV->Prop}
theorem jI(h:Wp ss ta λp=>Wp ss tb λq=>q=.A7/\k (.bl (MG p))):Wp ss (Bn (λx y H Q=>y=.A7/\Q (.bl (decide (x=.A7))) H) ta tb) k:=⟨λE Z F H Q S q=>
 h.go E Z F H _ S λv p F1 H1 a c h2=>h2.go E Z F1 H1 _ a.st λf p2 F2 H2 d b AJ=>by
  obtain⟨e,kk⟩:=AJ;subst e;cases b.inv;refine⟨rfl,?_⟩;rw[c.MG];exact q _ _ F2 H2 (a.trans d) (.bl _) kk⟩
theorem gr(h:Wp ss ta λp=>Wp ss tb λq=>q=.A7/\k (.bl (!MG p))):Wp ss (Bn (λx y H Q=>y=.A7/\Q (.bl (!decide (x=.A7))) H) ta tb) k:=⟨λE Z F H Q S q=>
 h.go E Z F H _ S λv p F1 H1 a c h2=>h2.go E Z F1 H1 _ a.st λf p2 F2 H2 d b AJ=>by
  obtain⟨e,kk⟩:=AJ;subst e;cases b.inv;refine⟨rfl,?_⟩;rw[c.MG];exact q _ _ F2 H2 (a.trans d) (.bl _) kk⟩
variable{K:ZEW}{t u:TE}{pre:Qy}{tA:TA}
theorem xb(h:Wp ss te λp=>∃x,p=.str x/\x.length<=1000/\k (.bl (isNm x))):Wp ss (D3 PZ [] E0 (Al te BO)) k:=⟨λE Z F H Q S q=>
 h.go E Z F H _ S λv p F1 H1 a r AJ=>by
  obtain⟨x,e,hx,kk⟩:=AJ;subst e;cases r.inv;exact⟨x,rfl,hx,λH3 s=>q _ _ F1 H3 (a.trans (a.st.grow s)) (.bl _) kk⟩⟩
end
inductive FK where
 |put (x:Str) (i:Int)|take (x:Str)|move (x:Str) (i:Int)|turn (lo hi:Int)
def aP:FK->PV
 | .put x i=>.tup [.str "put",.str x,.int i]
 | .take x=>.tup [.str "take",.str x]
 | .move x i=>.tup [.str "move",.str x,.int i]
 | .turn lo hi=>.tup [.str "turn",.int lo,.int hi]
def EK(x:Str):Prop:=(reprText x).length<=100000/\x.length<=1000
def Ku(i:Int):Prop:=i.natAbs.log2<1920
def FK.say:FK->Prop
 | .put x i=>EK x/\Ku i
 | .take x=>EK x
 | .move x i=>EK x/\Ku i
 | .turn lo hi=>Ku lo/\Ku hi
def FK.Is(d:FK)(ns:List Str)(d':AY):Prop:=aP d=dP d'/\d'.Ok 40 ns
theorem mh(h:MC c=true):97<=c/\c<=122:=by
 refine SM λhn=>?_;have e:∀i,i<26->Hl.cps.extract i (i+1)=#[97+i]:=by decide +kernel
 have no:∀i,i+(Str.length ⟨#[c]⟩)<=Hl.length->Builtin.Str.subAt Hl ⟨#[c]⟩ i=false:=λi hi=>by
  have b:i+1<=26:=hi;show(Hl.cps.extract i (i+1) == #[c])=false;rw[e i (by omega)];cases a:(#[97+i] == #[c])with
  |false=>rfl
  |true=>
   have q:=eq_of_beq a;simp at q;exact absurd ⟨by omega,by omega⟩ hn
 unfold MC at h;rw[PySem.W.occ_nil_of_no _ _ 1 no]at h;exact absurd h (by decide)
theorem rO(h:isNm x=true):Nm x:=by
 unfold isNm at h;simp only[Ek,ZAC,Fi]at h;obtain⟨h1,h2,b⟩:=h;exact⟨by omega,by omega,λc a=>mh (b c a)⟩
noncomputable def Hq:AY->FK
 | .put x i=>.put x i
 | .take x=>.take x
 | .move x i=>.move x i
 | .turn lo hi=>.turn lo hi
theorem UM(d:AY):aP (Hq d)=dP d:=by cases d <;> rfl
theorem ZAb(h:d.Ok 40 ns):(Hq d).Is ns d:=⟨UM d,h⟩
theorem Pt:¬ Str.ofString "put"=Str.ofString "move" := by decide +kernel
theorem ZAD{e:AY}(h:dP d=dP e):d=e:=by
 cases d <;> cases e <;> simp[dP]at h <;> first|(exact absurd h.1 Pt)|(exact absurd h.1.symm Pt)|(obtain⟨a,b⟩:=h;subst a;congr;omega)|(obtain⟨a,b⟩:=h;congr <;> omega)|(subst h;rfl)
theorem xa{i:Int}(h:i.natAbs<2 ^ 1000):Ku i:=by
 unfold Ku
 by_cases z:i.natAbs=0
 .rw[z];decide
 .have:=(Nat.log2_lt z).mpr h;omega
theorem Pu{i:Nat}(h:i<=1000000):Ku i:=xa (by
 have:(1000000:Nat)<2 ^ 1000:=by decide +kernel
 show Int.natAbs (i:Int)<_;rw[Int.natAbs_natCast];omega)
theorem JL(h:Nm x):EK x:=⟨xO h,by have:=h.2.1;omega⟩
theorem mn(h:d.Ok 40 ns)(a:∀x∈ns,Nm x)(b:ns.length<=40):(Hq d).say:=by
 cases d with
 |put x i=>exact⟨JL h.1,Pu (by have:=h.2.2.1;omega)⟩
 |take x=>exact JL (a x h)
 |move x i=>exact⟨JL (a x h.1),Pu (by have:=h.2;omega)⟩
 |turn lo hi=>exact⟨Pu (by have:=h.1;have:=h.2;omega),Pu (by have:=h.2;omega)⟩
theorem YM(h:x.length<=100)(hx:∀c∈x.cps.toList,c<16 ^ 8):EK x:=⟨fU h hx,by omega⟩
theorem ml(K:ZEW){d:Nat}(r:Str)(g:Nat)(cs:List Str):dat K (d+2) (Cc r g cs):=λx hx=>by
 simp only[Cp,Au,yD]at hx;rcases hx with rfl|rfl|rfl
 .trivial
 .trivial
 .intro y a;obtain⟨z,_,rfl⟩:=List.mem_map.mp a;cases d <;> trivial
theorem DG.step(h:DG ns r g cs):DG ns r (bK ns g cs:Nat) (il ns g cs):=by
 unfold bK il;cases e:Ow ns g cs with
 |none=>exact h
 |some x=>
  have c:x∈Ey ns g cs:=by
   unfold Ow at e;exact List.mem_of_mem_head? (by rw[e];rfl)
  obtain⟨a,d⟩:=Pe.mp c;have:=List.idxOf_lt_length_iff.mpr a;exact⟨h.rule,by show(0:Int)<=((ns.idxOf x+1:Nat):Int);omega,by show((ns.idxOf x+1:Nat):Int)<=_;omega,Sl x h.up,λy b=>h.sub y (FF.mp b).1⟩
section
variable[Xw]
theorem ZBu{t:TT}{k k':Bool->Prop}(h:Wt ss t k')(hk:∀b,k' b->k b):Wt ss t k:=⟨λE Z F H Q S q=>h.go E Z F H Q S λb F' H' m a=>q b F' H' m (hk b a)⟩
end
structure G7 (m:Nat) (ns:List Str):Prop where
 len:ns.length<=m
 nm:∀x∈ns,Nm x
 nd:ns.Nodup
theorem G7.done(h:G7 m ns)(ok:d.Ok m ns):G7 m (d.done ns):=by
 obtain⟨a,b,c⟩:=AY.step ok h.nd h.nm h.len;exact⟨c,b,a⟩
structure Lp where
 r:Str
 g:Nat
 cs:List Str
def Lp.P(l:Lp):PV:=Cc l.r l.g l.cs
def Eh(ns:List Str):List Str:=ns.foldr (λx r=>EV r x) []
theorem Nw{x:Str}:∀{ns:List Str},x∈Eh ns↔x∈ns
 | []=>KC
 |y::r=>by
  show x∈EV (Eh r) y↔_;rw[LJ,Nw (ns:=r),Cp]
theorem X2:∀{ns:List Str},ns.Nodup->Up (Eh ns)
 | [],_=>List.Pairwise.nil
 |y::r,h=>by
  obtain⟨h1,h2⟩:=List.nodup_cons.mp h;exact Rf (X2 h2) λz=>h1 (Nw.mp z)
theorem iO{ts:List Str}(nd:ns.Nodup)(a:ts.Perm ns)(st:sortedS ts=true):ts=Eh ns:=
 Pn (Tf st (a.nodup_iff.mpr nd)) (X2 nd) λk=>by rw[a.mem_iff,Nw]
def Lp.led(ns:List Str)(d:AY)(l:Lp):Lp:=⟨l.r,d.gap ns l.g,d.Fp l.r l.g l.cs⟩
def Lp.Good(ns:List Str)(l:Lp):Prop:=DG ns l.r l.g l.cs
end Fz
namespace L2
variable{kvs:List (List Key×V)}{o:Option V}{u:Value}{v y:V}{w:World}{H H':Hp}{xs:List (List Key×Addr×Value)}{a b:Addr}{X:Cx}{Zi:ZEX}{Z:St}{s:Shared}{A:Around}{E Q:Value->Shared->Prop}{h':Heap}{e value:Expr}{pos:Pos}{td tv ty:TE}
section
variable{κ:Type}[DecidableEq κ]
noncomputable def DC(kvs:List (κ×V))(k:κ):Option V:=(kvs.find? λa=>decide (a.1=k)).map (·.2)
def putK(kvs:List (κ×V))(k:κ)(v:V):List (κ×V):=
 if(kvs.any λa=>decide (a.1=k))=true then kvs.map (λa=>if a.1=k then(a.1,v)else a)else kvs++[(k,v)]
noncomputable def Jh(kvs:List (κ×V))(k:κ):List (κ×V):=kvs.filter λa=>decide (a.1≠k)
theorem Ob{p:κ×V}{r:List (κ×V)}{k:κ}(e:p.1=k):DC (p::r) k=some p.2:=by simp[DC,Oh,e]
theorem Nf{p:κ×V}{r:List (κ×V)}{k:κ}(e:¬ p.1=k):DC (p::r) k=DC r k:=by simp[DC,Oh,e]
theorem Ra(k:κ):∀kvs:List (κ×V),(kvs.any λa=>decide (a.1=k))=(DC kvs k).isSome
 | []=>rfl
 |p::r=>by
  rw[LO]
  by_cases e:p.1=k
  .simp only[Ob e,kc e,Bool.true_or,ZDT]
  .rw[Nf e,lx e,Bool.false_or];exact Ra k r
theorem Ui(kvs:List (κ×V))(k:κ)(v:V):(putK kvs k v).length<=kvs.length+1:=by
 unfold putK;split
 .rw[AW];omega
 .rw[C0,Bw,SV];omega
theorem ML{kvs:List (κ×V)}{k:κ}(v:V)(h:DC kvs k=none):putK kvs k v=kvs++[(k,v)]:=by
 unfold putK;rw[Ra,h];exact km (by decide)
theorem Dd.ND{u:Option Value}(r:Dd o u):o.isSome=u.isSome:=by
 cases o with
 |none=>cases u with
  |none=>rfl
  |some _=>exact(show False from r).elim
 |some _=>cases u with
  |none=>exact(show False from r).elim
  |some _=>rfl
theorem KV.val{kvs:List (κ×V)}{vs:List (κ×Value)}(r:KV kvs vs)(k:κ):Dd (DC kvs k) (valueAt vs k):=by
 unfold KV at r
 induction r with
 |nil=>exact True.intro
 |@cons p q ps a h t d=>
  obtain⟨h1,h2⟩:=h
  by_cases e:p.1=k
  .have c:q.1=k:=h1.symm.trans e;have b:valueAt (q::a) k=some q.2:=by simp[valueAt,Oh,c]
   rw[Ob e,b];exact h2
  .have c:¬ q.1=k:=λz=>e (h1.trans z);have b:valueAt (q::a) k=valueAt a k:=by simp[valueAt,Oh,c]
   rw[Nf e,b];exact d
theorem KV.any{kvs:List (κ×V)}{vs:List (κ×Value)}(r:KV kvs vs)(k:κ):(kvs.any λa=>decide (a.1=k))=vs.any λa=>decide (a.1=k):=by
 unfold KV at r
 induction r with
 |nil=>rfl
 |cons h t b=>rw[LO,LO,b,h.1]
theorem KV.Tz{kvs:List (κ×V)}{vs:List (κ×Value)}(r:KV kvs vs)(k:κ)(b:RelV y u):
  KV (kvs.map λa=>if a.1=k then(a.1,y)else a) (vs.map λa=>if a.1=k then(a.1,u)else a):=by
 unfold KV at r ⊢
 induction r with
 |nil=>exact .nil
 |@cons p q ps d h t c=>
  rw[Bh,Bh];refine .cons ?_ c;obtain⟨h1,h2⟩:=h
  by_cases e:p.1=k
  .rw[kz e,kz (h1.symm.trans e)];exact⟨h1,b⟩
  .rw[km e,km (λz=>e (h1.trans z))];exact⟨h1,h2⟩
theorem KV.put{kvs:List (κ×V)}{vs:List (κ×Value)}(r:KV kvs vs)(k:κ)(a:RelV y u):KV (putK kvs k y) (stored vs k u):=by
 unfold putK stored;rw[r.any k]
 by_cases e:(vs.any λb=>decide (b.1=k))=true
 .rw[kz e,kz e];exact r.Tz k a
 .rw[km e,km e];exact Paired.snoc r ⟨rfl,a⟩
theorem KV.drop{kvs:List (κ×V)}{vs:List (κ×Value)}(r:KV kvs vs)(k:κ):KV (Jh kvs k) (without vs k):=by
 unfold KV at r ⊢;unfold Jh without
 induction r with
 |nil=>exact .nil
 |@cons p q ps f h t c=>
  obtain⟨h1,h2⟩:=h;rw[SR,SR]
  by_cases e:p.1=k
  .have a:¬ decide (p.1≠k)=true:=by simp[e]
   have b:¬ decide (q.1≠k)=true:=by simp[h1.symm.trans e]
   rw[km a,km b];exact c
  .have d:¬ q.1=k:=λz=>e (h1.trans z);have a:decide (p.1≠k)=true:=by simp[e]
   have b:decide (q.1≠k)=true:=by simp[d]
   rw[kz a,kz b];exact .cons ⟨h1,h2⟩ c
theorem KV.keys{kvs:List (κ×V)}{vs:List (κ×Value)}(r:KV kvs vs):kvs.map (·.1)=vs.map (·.1):=by
 unfold KV at r
 induction r with
 |nil=>rfl
 |cons h t a=>rw[Bh,Bh,a,h.1]
theorem KV.length{kvs:List (κ×V)}{vs:List (κ×Value)}(r:KV kvs vs):kvs.length=vs.length:=jt r
theorem uP(kvs:List (κ×V))(k:κ):(Jh kvs k).length<=kvs.length:=Oj _ _
end
theorem LI{P:Program}{k:Key}(r:RelV (kV k) u):(Bl P w).is k u=true:=by
 cases k with
 |inl i=>obtain⟨t,e⟩:=(show ∃t,u=Value.int i t from r);subst e;exact pY P w i t
 |inr x=>obtain⟨t,e⟩:=(show ∃t,u=Value.str x t from r);subst e;exact ZBp P w x t
theorem ZT{P:Program}{w:World}:∀{ks:List Key}{us:List Value},Vals (ks.map kV) us->ItemsAre (Bl P w) ks us
 | [],_,r=>by rw[SW]at r;cases r;exact .nil
 |k::ks,_,r=>by
  rw[Bh]at r;cases r with
  |cons h t=>exact .cons (LI h) (ZT t)
abbrev KT(H:Hp):List (List Key×V)->List (List Key×Addr×Value)->Prop:=Paired λp q=>p.1=q.1/\H q.2.1=some (.tup (p.1.map kV))/\RelV p.2 q.2.2
theorem KT.val(r:KT H kvs xs)(k:List Key):Dd (DC kvs k) ((atKey xs k).map (·.2)):=by
 induction r with
 |nil=>exact True.intro
 |@cons p q ps a h t d=>
  obtain⟨h1,_,h2⟩:=h
  by_cases e:p.1=k
  .have c:q.1=k:=h1.symm.trans e;have b:atKey (q::a) k=some q.2:=by simp[atKey,Oh,c]
   rw[Ob e,b];exact h2
  .have c:¬ q.1=k:=λz=>e (h1.trans z);have b:atKey (q::a) k=atKey a k:=by simp[atKey,Oh,c]
   rw[Nf e,b];exact d
theorem KT.Tz(r:KT H kvs xs)(k:List Key)(b:RelV y u):
  KT H (kvs.map λa=>if a.1=k then(a.1,y)else a) (xs.map (putAt k u)):=by
 induction r with
 |nil=>exact .nil
 |@cons p q ps f h t c=>
  rw[Bh,Bh];refine .cons ?_ c;obtain⟨h1,h2,d⟩:=h;unfold putAt
  by_cases e:p.1=k
  .rw[kz e,kz (h1.symm.trans e)];exact⟨h1,h2,b⟩
  .rw[km e,km (λz=>e (h1.trans z))];exact⟨h1,h2,d⟩
theorem KT.put(r:KT H kvs xs)(k:List Key)(hb:H b=some (.tup (k.map kV)))(a:RelV y u):
  KT H (putK kvs k y) (storedH xs k b u):=by
 have e:(kvs.any λc=>decide (c.1=k))=(atKey xs k).isSome:=by
  rw[Ra,(r.val k).ND,Z4]
 unfold putK storedH;rw[e]
 by_cases q:(atKey xs k).isSome=true
 .rw[kz q,kz q];exact r.Tz k a
 .rw[km q,km q];exact Paired.snoc r ⟨rfl,hb,a⟩
theorem KT.keeps(r:KT H kvs xs)(a:∀b ys,H b=some (.tup ys)->H' b=some (.tup ys)):KT H' kvs xs:=
 Paired.Vg r λ_ _ z=>⟨z.1,a _ _ z.2.1,z.2.2⟩
section
variable{P:Program}{h:Heap}
theorem aI{u:HO}(ok:Bk P w H h)(e:Rd H a u):CL P w H h a u:=e.ok ok
theorem Gb{kvs:List (Key×V)}(ok:Bk P w H h)(e:Rd H a (.dK kvs)):kvs.length<=sizeLine/\(a == sysModules)=false/\∃vs,KV kvs vs/\h.DictOf (Bl P w) a vs:=
 show CL P w H h a (.dK kvs)from aI ok e
theorem WJ{kvs:List (Key×V)}(ok:Bk P w H h)(e:H a=some (.dK kvs)):kvs.length<=sizeLine/\(a == sysModules)=false/\∃vs,KV kvs vs/\h.DictOf (Bl P w) a vs:=Gb ok (.inl e)
theorem ON{ks:List Key}(ok:Bk P w H h)(e:H a=some (.tup (ks.map kV))):(tupleKind (Bl P w)).is h ks a:=by
 obtain⟨_,A3,r,⟨o,h1,h2,n,b⟩,_⟩:=(show CL P w H h a (.tup (ks.map kV))from ok a _ e);exact⟨o,A3.toArray,n,h1,h2,b,by simpa using ZT r⟩
theorem MK(ok:Bk P w H h)(e:Rd H a (.dT kvs)):kvs.length<=sizeLine/\(a == sysModules)=false/\
  ∃xs,KT H kvs xs/\h.DictOfH (tupleKind (Bl P w)) a xs:=by
 obtain⟨z,y,xs,r,o,es,ep,h1,h2,g,f,d⟩:=(show CL P w H h a (.dT kvs)from aI ok e);refine⟨z,y,xs,r,o,es,ep,h1,h2,g,f,λx hx=>?_,d⟩;have all:∀{l:List (List Key×V)}{m:List (List Key×Addr×Value)},KT H l m->∀x∈m,(tupleKind (Bl P w)).is h x.1 x.2.1:=by
  intro l m q
  induction q with
  |nil=>intro x hx;exact nomatch hx
  |@cons p q ps i b t c=>
   intro x hx;rcases List.mem_cons.mp hx with e|hx
   .subst e;exact ON ok (by rw[<- b.1];exact b.2.1)
   .exact c x hx
 exact all r x hx
theorem ZAR(ok:Bk P w H h)(e:H a=some (.dT kvs)):kvs.length<=sizeLine/\(a == sysModules)=false/\
  ∃xs,KT H kvs xs/\h.DictOfH (tupleKind (Bl P w)) a xs:=MK ok (.inl e)
end
def FA(H:Hp)(a:Addr)(y:V)(r:Option V):Prop:=
 (∃kvs k,Rd H a (.dK kvs)/\y=kV k/\r=DC kvs k)∨∃kvs k b,Rd H a (.dT kvs)/\y=.ref b/\H b=some (.tup (k.map kV))/\r=DC kvs k
def MD(H:Hp)(a:Addr)(y v:V)(H':Hp):Prop:=
 (∃kvs k,H a=some (.dK kvs)/\y=kV k/\kvs.length<sizeLine/\H'=upd H a (.dK (putK kvs k v)))∨
 ∃kvs k b,H a=some (.dT kvs)/\y=.ref b/\H b=some (.tup (k.map kV))/\kvs.length<sizeLine/\H'=upd H a (.dT (putK kvs k v))
theorem FA.k{kvs:List (Key×V)}{k:Key}(e:H a=some (.dK kvs)):FA H a (kV k) (DC kvs k):=.inl ⟨kvs,k,.inl e,rfl,rfl⟩
theorem MD.k{kvs:List (Key×V)}{k:Key}(e:H a=some (.dK kvs))(b:kvs.length<sizeLine):MD H a (kV k) v (upd H a (.dK (putK kvs k v))):=.inl ⟨kvs,k,e,rfl,b,rfl⟩
section
variable{r:Value}
theorem Inv.big(I:Inv X Zi Z H s):sysModules<s.heap.objs.size:=by
 have h:mainGlobals<s.heap.objs.size:=(I.mod.glob.keeps I.bk).lt;exact Nat.lt_trans (by decide) h
theorem ZAI(i:A.units+1<cLine)(I:Inv X Zi Z H s)(g:FA H a y (some v))(f:RelV y u)(h:∀c s',Inv X Zi Z H s'->RelV v c->Q c s'):
  wpAny (model X.prog X.w) A (getItem (.ref a) u) Q E s:=by
 rcases g with⟨kvs,k,e,d,l⟩|⟨kvs,k,b,e,d,eb,l⟩
 .subst d;obtain⟨z,hd,vs,rel,dd⟩:=Gb I.AI e;obtain⟨c,hw,Fc⟩:=Dd.some_of (v:=v) (o:=valueAt vs k) (by rw[l];exact rel.val k);exact wpAny_getItem_of (LI f) dd.mapOf hw (h c _ (I.tok _) Fc)
 .subst d;cases(show u=Value.ref b from f);obtain⟨z,hd,xs,rel,dd⟩:=MK I.AI e;obtain⟨c,hw,Fc⟩:=Dd.some_of (v:=v) (o:=(atKey xs k).map (·.2)) (by rw[l];exact rel.val k)
  obtain⟨p,j,m⟩:=Option.map_eq_some_iff.mp hw;refine wpAny_getItem_heap (yn i) (ON I.AI eb) dd j ?_;rw[m];exact h c _ (I.tok _) Fc
theorem rE(f:A.units+1<cLine)(I:Inv X Zi Z H s)(g:FA H a y o)(d:RelV y u)(h:∀s',Inv X Zi Z H s'->Q (.bool o.isSome) s'):
  wpAny (model X.prog X.w) A (compareOp .In u (.ref a)) Q E s:=by
 rcases g with⟨kvs,k,e,c,l⟩|⟨kvs,k,b,e,c,eb,l⟩
 .subst c;obtain⟨z,hd,vs,rel,dd⟩:=Gb I.AI e;refine wpAny_in_of (LI d) hd dd.mapOf ?_;rw[<- (rel.val k).ND,<- l];exact h _ (I.tok _)
 .subst c;cases(show u=Value.ref b from d);obtain⟨z,hd,xs,rel,dd⟩:=MK I.AI e;refine wpAny_in_heap (yn f) (ON I.AI eb) hd dd ?_;have q:=(rel.val k).ND;rw[Z4]at q;rw[<- q,<- l];exact h _ (I.tok _)
theorem uE(f:A.units+1<cLine)(I:Inv X Zi Z H s)(g:FA H a y o)(d:RelV y u)(h:∀s',Inv X Zi Z H s'->Q (.bool (!o.isSome)) s'):
  wpAny (model X.prog X.w) A (compareOp .NotIn u (.ref a)) Q E s:=by
 rcases g with⟨kvs,k,e,c,l⟩|⟨kvs,k,b,e,c,eb,l⟩
 .subst c;obtain⟨z,hd,vs,rel,dd⟩:=Gb I.AI e;refine wpAny_notIn_of (LI d) hd dd.mapOf ?_;rw[<- (rel.val k).ND,<- l];exact h _ (I.tok _)
 .subst c;cases(show u=Value.ref b from d);obtain⟨z,hd,xs,rel,dd⟩:=MK I.AI e;refine wpAny_notIn_heap (yn f) (ON I.AI eb) hd dd ?_;have q:=(rel.val k).ND;rw[Z4]at q;rw[<- q,<- l];exact h _ (I.tok _)
theorem QN{t':Nat}{ob:HO}(I:Inv X Zi Z H s)(d:N7 (H a))(f:Heap.SameBut a s.heap h')(g:∃q,h'.get? a=some q)(c:CL X.prog X.w (upd H a ob) h' a ob):
  Inv X Zi Z (upd H a ob) { s with heap:=h',toks:=t' }:=
 I.write (x:=a) (e:=a) d (.inl rfl) (λb q hb z=>(f.2 b hb).trans z) g c
theorem Uk{P:Program}{kvs:List (Key×V)}{vs:List (Key×Value)}(z:kvs.length<=sizeLine)(hd:(a == sysModules)=false)(rel:KV kvs vs)(dd:h'.DictOf (Bl P w) a vs):
  CL P w H' h' a (.dK kvs):=⟨z,hd,vs,rel,dd⟩
theorem mW{Q:Unit->Shared->Prop}(x:A.units+1<cLine)(I:Inv X Zi Z H s)(g:MD H a y v H')(o:RelV y u)(p:RelV v r)(h:∀s',Inv X Zi Z H' s'->Q () s'):
  wpAny (model X.prog X.w) A (setItem (.ref a) u r) Q E s:=by
 rcases g with⟨kvs,k,e,m,l,n⟩|⟨kvs,k,b,e,m,eb,l,n⟩
 .subst m n;obtain⟨z,hd,vs,rel,dd⟩:=WJ I.AI e;have f:vs.length<=sizeLine:=by rw[<- rel.length];exact z
  have j:(putK kvs k v).length<=sizeLine:=by have:=Ui kvs k v;omega
  refine wpAny_setItem_pairs (hsz:=f) (LI o) dd λh' HV i=>h _ ?_;have B:∃q,h'.get? a=some q:=let ⟨q,_,_,d,_⟩:=HV;⟨q,d⟩;exact QN I (by rw[e];exact True.intro) i B (Uk j hd (rel.put k p) HV)
 .subst m n;cases(show u=Value.ref b from o);obtain⟨z,hd,xs,rel,dd⟩:=ZAR I.AI e;have f:xs.length<=sizeLine:=by rw[<- jt rel];exact z
  have j:(putK kvs k v).length<=sizeLine:=by have:=Ui kvs k v;omega
  refine wpAny_setItem_heap (hsz:=f) (yn x) (ON I.AI eb) dd λh' HV i=>h _ ?_;obtain⟨q,es,ep,d,h2,F,D,_,C⟩:=HV;refine QN I (by rw[e];exact True.intro) i ⟨q,d⟩ ⟨j,hd,_,(rel.put k eb p).keeps λc ys t=>?_,q,es,ep,d,h2,F,D,C⟩;rw[Ab (xy t e (λz=>nomatch z))];exact t
variable{kvs:List (Key×V)}{k:Key}
theorem lR{more:List Value}(I:Inv X Zi Z H s)(e:H a=some (.dK kvs))(c:RelV (kV k) u)(l:DC kvs k=some v)(d:more=[]∨∃x,more=[x])
  (h:∀b s',Inv X Zi Z (upd H a (.dK (Jh kvs k))) s'->RelV v b->Q b s'):wpAny (model X.prog X.w) A (call (.builtin "dict.pop") (.ref a::u::more)) Q E s:=by
 obtain⟨z,hd,vs,rel,dd⟩:=WJ I.AI e;obtain⟨b,hw,Fc⟩:=Dd.some_of (v:=v) (o:=valueAt vs k) (by rw[<- l];exact rel.val k);have g:(keyPart u).isSome=true:=by
  cases k with
  |inl i=>obtain⟨t,q⟩:=(show ∃t,u=Value.int i t from c);subst q;rfl
  |inr x=>obtain⟨t,q⟩:=(show ∃t,u=Value.str x t from c);subst q;rfl
 have ha:argsOk "dict.pop" ⟨.ref a::u::more,[]⟩:=by
  rcases d with q|⟨x,q⟩
  .subst q;exact PySem.F.args_dict_pop_2 _ _
  .subst q;exact PySem.F.args_dict_pop_3 _ _ _
 refine call_meetsIn ZDX dd.typeIs PySem.F.entry_dict_pop ha (meets_dict_pop_there (Bl X.prog X.w) a (LI c) more d g)
  ⟨vs,b,dd,by rw[<- rel.length];exact z,hw,λh' HV f=>h b _ ?_ Fc⟩
 have j:∃q,h'.get? a=some q:=let ⟨q,_,_,hq,_⟩:=HV;⟨q,hq⟩;exact QN I (by rw[e];exact True.intro) f j (Uk (CK (uP kvs k) z) hd (rel.drop k) HV)
end
def Sq(i:Expr):Prop:=∀a b,subscripted i false a b=operate [a,b] (getItem a b)
theorem mG{prog:Program}{env:Env}{a:Expr}{T id:String}
  (m:typeLookup (.type T) "__getitem__"=pure (some (.builtin id))) (l:Sq a)
  (h:wpAny (model prog w) A (eval value env) (λo f=>wpAny (model prog w) A (eval a env) (λi c=>c.TypeIs o T/\wpAny (model prog w) A (getItem o i) Q E c) E f) E s) :
  wpAny (model prog w) A (eval (.Subscript value a pos) env) Q E s:=by
 refine Subscript_ (ni h (λo f k=>ni k (λi c d=>?_) λ_ _ x=>x) λ_ _ x=>x);obtain⟨g,d⟩:=d;unfold subscriptTail;refine kU ?_;rw[getitemInPython_of_ne g.not_modules];refine kU (vG g m ?_);have b:wpAny (model prog w) A (subscripted a false o i) (λr e=>wpAny (model prog w) A (letTemporaryGo value o r >>= λ_=>pure r) Q E e) E c:=by
  rw[l o i];exact wpAny_operating (ni d (λr e j=>kU (wpAny_letTemporaryGo (kX j))) λ_ _ x=>x)
 first
  |exact kX (kU b)
  |exact kU (kX (kU b))
  |exact kU b
theorem vn(I:Inv X Zi Z H s)(g:FA H a y o):s.TypeIs (.ref a) "dict" := by
 rcases g with⟨kvs,k,e,_,_⟩|⟨kvs,k,b,e,_,_,_⟩
 .obtain⟨_,_,vs,_,dd⟩:=Gb I.AI e;exact dd.typeIs
 .obtain⟨_,_,xs,_,dd⟩:=MK I.AI e;exact dd.typeIs
def Iy(td ty:TE):TE:=λZ H Q=>td Z H λx H1=>ty Z H1 λy H2=>∃a v,x=.ref a/\FA H2 a y (some v)/\Q v H2
def Vz(ty td:TE):TE:=λZ H Q=>ty Z H λy H1=>td Z H1 λx H2=>∃a o,x=.ref a/\FA H2 a y o/\Q (.bl o.isSome) H2
def P2(ty td:TE):TE:=λZ H Q=>ty Z H λy H1=>td Z H1 λx H2=>∃a o,x=.ref a/\FA H2 a y o/\Q (.bl (!o.isSome)) H2
def Ri(td ty tv:TE):TS:=λD Z H=>tv Z H λv H1=>td Z H1 λx H2=>ty Z H2 λy H3=>∃a H4,x=.ref a/\MD H3 a y v H4/\D.nx Z H4
section
variable{o i:Expr}{pos' OA:Pos}
theorem ZCD(e:X.A.units+1<cLine)(hi:PE X i ty)(ho:PE X o td):PC X .In i o (Vz ty td):=by
 intro Zi s Z H Q I h;refine AN (hi Zi s Z H _ I h) λj s1⟨y,H1,I1,b,q1⟩=>AN (ho Zi s1 Z H1 _ I1 q1) λu s2⟨x,H2,I2,c,a,d,ex,g,q2⟩=>?_;subst ex;obtain rfl:u=Value.ref a:=c;exact rE e I2 g b λf I3=>⟨.bl d.isSome,H2,I3,rfl,q2⟩
theorem oP(e:X.A.units+1<cLine)(hi:PE X i ty)(ho:PE X o td):PC X .NotIn i o (P2 ty td):=by
 intro Zi s Z H Q I h;refine AN (hi Zi s Z H _ I h) λj s1⟨y,H1,I1,b,q1⟩=>AN (ho Zi s1 Z H1 _ I1 q1) λu s2⟨x,H2,I2,c,a,d,ex,g,q2⟩=>?_;subst ex;obtain rfl:u=Value.ref a:=c;exact uE e I2 g b λf I3=>⟨.bl (!d.isSome),H2,I3,rfl,q2⟩
end
theorem Zb{P:Program}(h:Heap)(hb:sysModules<h.objs.size):CL P w H (h.push { cls:=.type "dict", data:=.dict #[] }) h.objs.size (.dK []):=
 ⟨C1 _,beq_eq_false_iff_ne.mpr (B0 (BL hb)),[],.nil,Heap.DictOf.new h⟩
def Vb:TE:=λ_ H Q=>∀p,H p=none->Q (.ref p) (upd H p (.dK []))
def UB:List (TE×TE)->St->Hp->(List (V×V)->Hp->Prop)->Prop
 | [],_,H,Q=>Q [] H
 | (tk,tv)::r,Z,H,Q=>tk Z H λx H1=>tv Z H1 λy H2=>UB r Z H2 λps H3=>Q ((x,y)::ps) H3
abbrev VV:List (V×V)->List (Value×Value)->Prop:=Paired λp q=>RelV p.1 q.1/\RelV p.2 q.2
def JK(X:Cx)(pos:Pos)(keys:List (Option Expr))(values:List Expr)(ET:List (TE×TE)):Prop:=
 ∀(Zi:ZEX)(s:Shared)(Z:St)(H:Hp)(Q:List (V×V)->Hp->Prop),Inv X Zi Z H s->UB ET Z H Q->
  wpAny (model X.prog X.w) X.A (evalPairs (pairTrees keys values X.env pos)) (λvs s'=>∃ps H',Inv X Zi Z H' s'/\VV ps vs/\Q ps H') X.xe s
theorem u7:JK X pos [] [] []:=λZi s Z H Q I h=>pairTrees_nil_walk ⟨[],H,I,.nil,h⟩
theorem yu{k v:Expr}{ks:List (Option Expr)}{vs:List Expr}{tk:TE}{ET:List (TE×TE)}(hk:PE X k tk)(hv:PE X v tv)(c:JK X pos ks vs ET):
  JK X pos (some k::ks) (v::vs) ((tk,tv)::ET):=λZi s Z H Q I h=>
 pairTrees_cons_walk (AN (hk Zi s Z H _ I h) λu s1⟨x,H1,I1,b,q1⟩=>AN (hv Zi s1 Z H1 _ I1 q1) λd s2⟨y,H2,I2,a,q2⟩=>
  AN (c Zi s2 Z H2 _ I2 q2) λws e⟨ps,H3,I3,rel,q3⟩=>⟨(x,y)::ps,H3,I3,.cons ⟨b,a⟩ rel,q3⟩)
def JP(kvs more:List (Key×V)):List (Key×V):=more.foldl (λacc a=>putK acc a.1 a.2) kvs
theorem KV.merge:∀{more:List (Key×V)}{rs:List (Key×Value)}{kvs:List (Key×V)}{vs:List (Key×Value)},KV more rs->KV kvs vs->KV (JP kvs more) (merged vs rs):=by
 intro more rs kvs vs r;unfold KV at r
 induction r generalizing kvs vs with
 |nil=>intro q;exact q
 |@cons p q ps c h t b=>
  intro a;have e:KV (putK kvs p.1 p.2) (stored vs q.1 q.2):=by
   have:=a.put p.1 h.2;rw[<- h.1];exact this
  exact b e
theorem fw:∀(more kvs:List (Key×V)),(JP kvs more).length<=kvs.length+more.length
 | [],kvs=>by show kvs.length<=kvs.length+0;omega
 |p::r,kvs=>by
  have h1:=fw r (putK kvs p.1 p.2);have h2:=Ui kvs p.1 p.2;show(JP (putK kvs p.1 p.2) r).length<=_;rw[Bw];omega
theorem jL{P:Program}{w:World}:∀{kvs:List (Key×V)}{ws:List (Value×Value)},VV (kvs.map λd=>(kV d.1,d.2)) ws->∃rs,Carries (Bl P w) ws rs/\KV kvs rs
 | [],_,r=>by rw[SW]at r;cases r;exact⟨[],True.intro,.nil⟩
 |p::kvs,_,r=>by
  rw[Bh]at r;cases r with
  |@cons a b as bs h t=>
   obtain⟨rs,c,q⟩:=jL (P:=P) (w:=w) t;obtain⟨f,e⟩:=b;exact⟨(p.1,e)::rs,⟨LI h.1,rfl,c⟩,.cons ⟨rfl,h.2⟩ q⟩
def Uz(ET:List (TE×TE)):TE:=λZ H Q=>∀p,H p=none->UB ET Z (upd H p (.dK [])) λps H2=>H2 p=some (.dK [])/\∃kvs:List (Key×V),ps=kvs.map (λa=>(kV a.1,a.2))/\kvs.length<=15/\Q (.ref p) (upd H2 p (.dK (JP [] kvs)))
structure M1 (X:Cx) (o:Expr) (m:Str) (apos:Pos) (e:Expr) (BW:Pos):Prop where
 base:attributeBase o m X.env (eval o X.env)=eval o X.env
 tO:((backTo BW (starEach [e] X.env)).all (λx=>!x.1) && (backToKw BW (keywordEach [] X.env)).all (λx=>x.1.isSome)
  && decide (([e]:List Expr).length+([]:List Keyword).length+(if([]:List Keyword).isEmpty then 0 else 1)<30))=true
 line:(apos.endLine == BW.line)=true
 trees:backTo BW (starEach [e] X.env)=[(false,eval e X.env)]
def ZP(H:Hp)(a:Addr):Prop:=(∃kvs,Rd H a (.dK kvs))∨∃kvs,Rd H a (.dT kvs)
theorem gc(I:Inv X Zi Z H s)(d:ZP H a):
  s.TypeIs (.ref a) "dict" /\ (∀b,Value.ref a=.ref b->∃ob,s.heap.get? b=some ob/\ob.dict=none)/\(a == sysModules)=false:=by
 rcases d with⟨kvs,e⟩|⟨kvs,e⟩
 .obtain⟨_,hd,vs,_,dd⟩:=Gb I.AI e;refine⟨dd.typeIs,λb q=>?_,hd⟩;cases q;obtain⟨ob,_,_,h1,h2,_⟩:=dd;exact⟨ob,h1,h2.2.1⟩
 .obtain⟨_,hd,xs,_,dd⟩:=MK I.AI e;refine⟨dd.typeIs,λb q=>?_,hd⟩;cases q;obtain⟨ob,_,_,h1,h2,_⟩:=dd;exact⟨ob,h1,h2.2.1⟩
def QP(td ty:TE):TE:=λZ H Q=>td Z H λx H1=>∃a,x=.ref a/\ZP H1 a/\ty Z H1 λy H2=>∃kvs k v,H2 a=some (.dK kvs)/\y=kV k/\DC kvs k=some v/\Q v (upd H2 a (.dK (Jh kvs k)))
section
variable{o f:Expr}{apos BW:Pos}{tx:TE}
variable{kvs:List (Key×V)}
noncomputable def lN(y:Int):Value->Bool
 | .int a _=>a == y
 |_=>false
theorem idx_int{y:Int}:∀{ns:List Int},y∈ns->∃h:ns.idxOf y<ns.length,ns[ns.idxOf y]=y/\∀m(b:m<ns.length),m<ns.idxOf y->ns[m]≠y:=λ{ns}h=>by
 have a:ns.idxOf y<ns.length:=List.idxOf_lt_length_iff.mpr h;refine⟨a,SU a,λm b AM e=>?_⟩;have:=List.not_of_lt_findIdx (p:=(· == y)) (xs:=ns) (i:=m) AM
 simp[e]at this
theorem lz{ns:List Int}{A3:List Value}(r:Vals (ns.map V.int) A3){m:Nat}(h:A3[m]?=some u):∃(c:m<ns.length)(t:Tok),u=.int ns[m] t:=by
 have b:=r.length;rw[AW]at b;have hi:m<A3.length:=(List.getElem?_eq_some_iff.mp h).1;have a:m<ns.length:=by omega
 obtain⟨w,h1,h2⟩:=r.get (i:=m) (x:=.int ns[m]) (by rw[B1,Am a];rfl);rw[h1]at h;cases h;obtain⟨t,rfl⟩:=h2;exact⟨a,t,rfl⟩
theorem aR:∀(ns:List Int)(j:Nat),(ns.map V.int).eraseIdx j=(ns.eraseIdx j).map V.int
 | [],_=>rfl
 |_::_,0=>rfl
 |x::t,j+1=>by rw[Bh,Hv,aR t j];rfl
def fH:V->List V->Hp->VK->Prop:=λx vs H Q=>∃(l:Addr)(ns:List Int)(y:Int),x=.ref l/\vs=[.int y]/\H l=some (.lst (ns.map V.int))/\y∈ns/\Q .A7 (upd H l (.lst ((ns.eraseIdx (ns.idxOf y)).map V.int)))
theorem ZAi:MN X "list.remove" fH:=by
 intro Zi s Z H x vs v us Q I g i h;obtain⟨l,ns,y,rfl,rfl,d,k,q⟩:=h;cases g;obtain⟨u,rfl,j⟩:=i.one;obtain⟨t,rfl⟩:=j;obtain⟨z,A3,n,r,p,e⟩:=I.Rw d;obtain⟨B,O2,Ij⟩:=idx_int k;have o:ns.length=A3.length:=by rw[<- p,AW]
 have at':∀(m:Nat)(a:m<A3.toArray.size),∃(Qt:m<ns.length)(t:Tok),A3.toArray[m]=.int ns[m] t:=λm a=>by
  have A:m<A3.length:=by simpa using a
  obtain⟨h2,t,e⟩:=lz r (Am A);exact⟨h2,t,by simpa using e⟩
 have f:ns.idxOf y<A3.toArray.size:=by simp;omega
 refine call_meets ZDa ⟨_,e,rfl⟩ PySem.F.entry_list_remove (PySem.F.args_list_remove_2 _ _) (MeetsSeq.list_remove l A3.toArray n (.int y t) (lN y) (λw hw=>?_) (ns.idxOf y) f ?_ (λm a AM=>?_) (by rw[Bm];omega)) ⟨e,?_⟩
 .obtain⟨m,a,rfl⟩:=Array.mem_iff_getElem.mp hw;obtain⟨h2,c,b⟩:=at' m a;rw[b];exact MeetsSeq.EqGives.int _ _ _ _
 .obtain⟨h2,c,b⟩:=at' _ f;rw[b];show(_ == _)=true;rw[O2];simp
 .obtain⟨h2,c,b⟩:=at' m a;rw[b];show(_ == _)=false
  simpa using Ij m h2 AM
 .refine⟨.A7,_,I.ba (its':=A3.eraseIdx (ns.idxOf y)) d e ?_ ?_ ?_,rfl,q⟩
  .show A3.toArray.eraseIdxIfInBounds _=_;rw[List.eraseIdxIfInBounds_toArray]
  .rw[<- aR];exact r.eraseIdx _
  .have:=eO ns (ns.idxOf y);rw[AW]at z ⊢;omega
end
end L2
namespace Fz
open L2 Lw
variable{l ss:List Slot}{F F' H H':Hp}{Z:L2.St}{i j n:Nat}{t t' u:OV}{E:Ent0}{vs:List V}{nk:NK}{a0:Addr}{us:List OV}{te:TE}{pre:Pre}{c:TT}{Q:VK}{X:XK}
def Bj(pre:Pre):Sp:=λvs H Q _=>∃(ss:List Slot)(R:Ai)(F:Hp)(A B:List Addr),pre ss R/\Sg ⟨A,F,H,B⟩ ss (vs.map some) F H/\∀v F' H',Fin ⟨A,F,H,B⟩ F' H'->R.ok ⟨A,F,H,B⟩ F' H' v->Q v H'
inductive IH (F:Hp):List V->List Slot->Prop where
 |nil:IH F [] []
 |cons {v:V}{p:PV}{vs:List V}{l:List Slot}:Rep F v p->IH F vs l->IH F (v::vs) (.is p::l)
inductive HQ (Z:L2.St) (F:Hp) (i:Nat) (t:OV):List V->List Slot->Prop where
 |here {v:V}{vs:List V}{l:List Slot}:Z[i]?=some (some v)->IH F vs l->HQ Z F i t (v::vs) (.ow true t::l)
 |there {v:V}{p:PV}{vs:List V}{l:List Slot}:Rep F v p->HQ Z F i t vs l->HQ Z F i t (v::vs) (.is p::l)
theorem IH.len:∀{vs:List V}{l:List Slot},IH F vs l->l.length=vs.length:=by
 intro vs l h
 induction h with
 |nil=>rfl
 |cons _ _ a=>rw[Bw,Bw,a]
theorem HQ.len:∀{vs:List V}{l:List Slot},HQ Z F i t vs l->l.length=vs.length:=by
 intro vs l h
 induction h with
 |here _ r=>rw[Bw,Bw,r.len]
 |there _ _ a=>rw[Bw,Bw,a]
theorem IH.at:∀{vs:List V}{l:List Slot},IH F vs l->∀{n:Nat}{s:Slot},l[n]?=some s->∃v p,vs[n]?=some v/\s=.is p/\Rep F v p:=by
 intro vs l h
 induction h with
 |nil=>intro n s e;rw[List.getElem?_nil]at e;cases e
 |cons r _ a=>
  intro n s e;cases n with
  |zero=>cases(show some _=some s from e);exact⟨_,_,rfl,rfl,r⟩
  |succ n=>exact a (n:=n) e
theorem HQ.at:∀{vs:List V}{l:List Slot},HQ Z F i t vs l->∃m:Nat,∀{n:Nat}{s:Slot},l[n]?=some s->(n=m/\s=.ow true t/\∃v,vs[n]?=some v/\Z[i]?=some (some v))∨∃v p,vs[n]?=some v/\s=.is p/\Rep F v p:=by
 intro vs l h
 induction h with
 |here e r=>
  refine⟨0,λ{n s}h=>?_⟩;cases n with
  |zero=>cases(show some _=some s from h);exact .inl ⟨rfl,rfl,_,rfl,e⟩
  |succ n=>exact .inr (r.at (n:=n) h)
 |there r _ a=>
  obtain⟨m,b⟩:=a;refine⟨m+1,λ{n s}q=>?_⟩;cases n with
  |zero=>cases(show some _=some s from q);exact .inr ⟨_,_,rfl,rfl,r⟩
  |succ n=>
   rcases b (n:=n) (s:=s) q with⟨e,es,hv⟩|hv
   .exact .inl ⟨oW Nat.succ e,es,hv⟩
   .exact .inr hv
structure Nn (E:Ent0) (ss:List Slot) (Z:L2.St) (i:Nat) (lt:Bool) (t t':OV) (F H F' H':Hp):Prop where
 st:Sg E (ss.set i (.ow lt t')) Z F' H'
 ff:A8 F F'
 hh:∀a o,D1 ss Z a->a∉t.addrs->H a=some o->H' a=some o
 nn:∀a o,F' a=some o->F a=some o∨H a=none
structure M7 [Xw] (ss:List Slot) (ta:TA) (k:List Slot->Prop):Prop where
 go:∀(E:Ent)(Z:L2.St)(F H:Hp)(Q:List V->Hp->Prop),Sg E ss Z F H->(∀vs l F' H',Mv E ss Z F H F' H'->IH F' vs l->k l->Q vs H')->ta Z H Q
structure Vs [Xw] (ss:List Slot) (i:Nat) (t:OV) (ta:TA) (k:List Slot->Prop):Prop where
 go:∀(E:Ent)(Z:L2.St)(F H:Hp)(Q:List V->Hp->Prop),Sg E ss Z F H->(∀vs l F' H',Mv E ss Z F H F' H'->HQ Z F' i t vs l->k l->Q vs H')->ta Z H Q
structure Wm [Xw] (ss:List Slot) (i:Nat) (lt:Bool) (t:OV) (te:TE) (k:PV->OV->Prop):Prop where
 go:∀(E:Ent)(Z:L2.St)(F H:Hp)(Q:VK),Sg E ss Z F H->(∀v p t' F' H',Nn E ss Z i lt t t' F H F' H'->Rep F' v p->k p t'->Q v H')->te Z H Q
structure RE [Xw] (ss:List Slot) (i:Nat) (lt:Bool) (t:OV) (c:TT) (k:Bool->OV->Prop):Prop where
 go:∀(E:Ent)(Z:L2.St)(F H:Hp)(Q:Bool->Hp->Prop),Sg E ss Z F H->(∀b t' F' H',Nn E ss Z i lt t t' F H F' H'->k b t'->Q b H')->c Z H Q
theorem Sg.Uw{lt:Bool}(S:Sg E ss Z F H)(hi:ss[i]?=some (.ow lt t))(a:HQ Z F i t vs l):Sg ⟨[],F,H,t.addrs⟩ l (vs.map some) F H:=by
 obtain⟨k,e0,c,Bq,f⟩:=S.ok i _ hi;have nn:∀{p:Prop}(a:Addr),a∈([]:List Addr)->p:=λa h=>absurd h Au;obtain⟨m,d⟩:=a.at;refine⟨⟨S.fh,A8.refl _,λ_ _ _ e=>e,λ_ _ e=>.inl e,λa h=>nn a h,λa h=>nn a h,λa h=>nn a h,λa h=>(f a h).1,λa h=>c.there a h,λa h=>⟨c.there a h,Au⟩⟩,by rw[AW];exact a.len,λn s hn=>?_,λn j s u b QU hn w q o=>?_⟩
 .rcases d hn with⟨_,rfl,v,hv,g⟩|⟨v,p,hv,rfl,r⟩
  .rw[B1,hv];rw[e0]at g;cases g;exact⟨k,rfl,c,Bq,λa ha=>⟨(f a ha).1,.inr ⟨rfl,ha⟩⟩⟩
  .rw[B1,hv];exact⟨v,rfl,r⟩
 .rcases d hn with⟨y,rfl,_⟩|⟨_,_,_,rfl,_⟩
  .rcases d w with⟨x,rfl,_⟩|⟨_,_,_,rfl,_⟩
   .exact QU (y.trans x.symm)
   .cases o
  .cases q
theorem Sg.YT{lt:Bool}{D4:NK}{us':List OV}(S:Sg E ss Z F H)(hi:ss[i]?=some (.ow lt (.nd nk a0 us)))(f:Fin ⟨[],F,H,(OV.nd nk a0 us).addrs⟩ F' H')(r:B4 F' H' (.ref a0) (.nd D4 a0 us'))(nd:(OV.nd D4 a0 us').addrs.Nodup)(q:∀a∈(OV.nd D4 a0 us').addrs,F' a=none/\(H a=none∨a∈(OV.nd nk a0 us).addrs)):
  Nn E ss Z i lt (.nd nk a0 us) (.nd D4 a0 us') F H F' H':=by
 obtain⟨G,e0,I,Bq,w⟩:=S.ok i _ hi;have L:G=.ref a0:=by cases I;rfl
 subst L;have D:i<ss.length:=(List.getElem?_eq_some_iff.mp hi).1;have kp:∀a o,a∉(OV.nd nk a0 us).addrs->H a=some o->H' a=some o:=λa o n e=>f.keep a o ⟨Au,n⟩ e;have Bd:∀a,H a≠none->F a=none->F' a=none:=λa h1 h2=>by
  cases e:F' a with
  |none=>rfl
  |some o=>
   rcases f.fresh a o e with z|z
   .rw[show F a=some o from z]at h2;cases h2
   .exact absurd z h1
 have M:∀a,a∈E.A->a∉(OV.nd nk a0 us).addrs:=λa h m=>by
  rcases(w a m).2 with z|⟨_,z⟩
  .exact S.a0 a h z
  .exact(S.b0 a z).2 h
 have d:∀(j:Nat)s,j≠i->ss[j]?=some s->∀a,BK s Z[j]? a->a∉(OV.nd nk a0 us).addrs:=λj s g t a ho m=>S.Bb j i s _ a g t hi ho m;refine⟨⟨⟨f.fh,S.f0.trans f.f0,λa o h e=>?_,λa o e=>?_,λa h=>?_,λa h=>?_,S.a0,λa v=>?_,λa v=>?_,S.b0⟩,by rw[Hw];exact S.len,λj s g=>?_,λj k s u b Qs g hk y x=>?_⟩,f.f0,λa o _ n e=>kp a o n e,λa o e=>f.fresh a o e⟩
 .refine kp a o (λm=>?_) (S.keep a o h e);rcases(w a m).2 with z|⟨_,z⟩
  .rw[e]at z;cases z
  .exact h.2 z
 .rcases f.fresh a o e with z|z
  .exact S.fresh a o z
  .exact .inr (S.ES z)
 .exact BU.keep (S.DV a h) λo e=>kp a o (M a h) e
 .obtain⟨_,_,p,_⟩:=S.DV a h;exact Bd a (by rw[p];simp) (S.Ja a h)
 .exact Bd a (S.bH a v) (S.bF a v)
 .by_cases m:a∈(OV.nd nk a0 us).addrs
  .exact f.bH a m
  .intro z;cases e:H a with
   |none=>exact S.bH a v e
   |some o=>rw[kp a o m e]at z;cases z
 .by_cases c:j=i
  .subst c;rw[CH D]at g;cases g;refine⟨.ref a0,e0,r,nd,λa ha=>⟨(q a ha).1,?_⟩⟩;rcases(q a ha).2 with z|z
   .exact .inl (S.ES z)
   .exact(w a z).2
  .rw[C4 (B0 c)]at g
   by_cases np:s=.AF
   .subst np;obtain⟨l,e,K,J,pt⟩:=S.ok j _ g;obtain⟨_,_,p,_⟩:=id pt;exact⟨l,e,Bd l (by rw[p];simp) K,J,BU.keep pt λo z=>kp l o (d j _ c g l e) z⟩
   .exact Ok.go S g f.f0 (λa o ho e=>kp a o (d j s c g a ho) e) Bd np
 .have at_:∀(n:Nat)s,(ss.set i (.ow lt (.nd D4 a0 us')))[n]?=some s->(n=i/\s=.ow lt (.nd D4 a0 us'))∨(n≠i/\ss[n]?=some s):=λn s hn=>by
   by_cases c:n=i
   .subst c;rw[CH D]at hn;exact .inl ⟨rfl,(BE hn).symm⟩
   .rw[C4 (B0 c)]at hn;exact .inr ⟨c,hn⟩
  have C:∀(n:Nat)s,n≠i->ss[n]?=some s->BK s Z[n]? b->b∉(OV.nd D4 a0 us').addrs:=λn s hn t ho m=>by
   rcases(q b m).2 with z|z
   .exact S.DR t ho z
   .exact d n s hn t b ho z
  rcases at_ j s g with⟨p,rfl⟩|⟨n1,h1⟩
  .rcases at_ k u hk with⟨B,rfl⟩|⟨n2,h2⟩
   .exact Qs (p.trans B.symm)
   .exact C k u n2 h2 x y
  .rcases at_ k u hk with⟨B,rfl⟩|⟨n2,h2⟩
   .exact C j s n1 h1 y x
   .exact S.Bb j k s u b Qs h1 h2 y x
section
variable[Xw]
variable{ta:TA}{lt:Bool}{nx:List Slot->Prop}{R:Ai}
theorem Ft{k:List Slot->Prop}(h:k []):M7 ss BO k:=⟨λE Z F H Q S q=>q [] [] F H (Mv.refl S) .nil h⟩
theorem Ee{k:List Slot->Prop}(h:Wp ss te λp=>M7 ss ta λl=>k (.is p::l)):M7 ss (Al te ta) k:=⟨λE Z F H Q S q=>
 h.go E Z F H _ S λv p F1 H1 c r h2=>h2.go E Z F1 H1 _ c.st λvs l F2 H2 b a kk=>q _ _ F2 H2 (c.trans b) (.cons (r.mono b.ff) a) kk⟩
theorem QD{k:List Slot->Prop}(hi:ss[i]?=some (.ow lt t))(h:M7 ss ta λl=>k (.ow true t::l)):Vs ss i t (Al (BP i) ta) k:=⟨λE Z F H Q S q=>by
 obtain⟨c,e0,_⟩:=S.ok i _ hi;exact⟨_,e0,h.go E Z F H _ S λvs l F2 H2 b a kk=>q _ _ F2 H2 b (.here e0 a) kk⟩⟩
theorem Mv.bc{F1 H1 F2 H2:Hp}(hi:ss[i]?=some (.ow lt t))(a:Mv E ss Z F H F1 H1)(b:Nn E ss Z i lt t t' F1 H1 F2 H2):Nn E ss Z i lt t t' F H F2 H2:=
 ⟨b.st,a.ff.trans b.ff,λc o n z e=>b.hh c o n z (a.hh c o n e),λc o e=>(b.nn c o e).elim (λe=>a.nn c o e) λe=>.inr (a.none e)⟩
theorem eQ{k:PV->OV->Prop}(hi:ss[i]?=some (.ow lt (.nd nk a0 us)))(h:Vs ss i (.nd nk a0 us) ta λl=>∃k',pre l (.mt k')/\∀p t',k' p t'->∃D4 us',t'=.nd D4 a0 us'/\k p t'):Wm ss i lt (.nd nk a0 us) (D3 (Bj pre) [] E0 ta) k:=⟨λE Z F H Q S q=>
 h.go E Z F H _ S λvs l F1 H1 b a⟨k',g,kk⟩=>by
  rw[FC];refine⟨l,.mt k',F1,[],(OV.nd nk a0 us).addrs,g,b.st.Uw hi a,λv F' H' f⟨p,t',r,c,nd,d,kp⟩=>?_⟩;obtain⟨D4,us',rfl,e⟩:=kk p t' kp;exact q v p _ F' H' (b.bc hi (b.st.YT hi f c nd d)) r e⟩
theorem pV{k:Bool->OV->Prop}(h:Wm ss i lt t te λp t'=>∃c,p=.bl c/\k c t'):RE ss i lt t (tB te) k:=⟨λE Z F H Q S q=>
 h.go E Z F H _ S λv p t' F1 H1 a r AJ=>by
  obtain⟨c,e,kk⟩:=AJ;subst e;cases r.inv;exact⟨c,rfl,q c t' F1 H1 a kk⟩⟩
theorem pC{k:Bool->OV->Prop}(h:RE ss i lt t c λb t'=>k (!b) t'):RE ss i lt t (Rn c) k:=⟨λE Z F H Q S q=>
 h.go E Z F H _ S λb t' F1 H1 a kk=>q (!b) t' F1 H1 a kk⟩
theorem vz{u v:TS}(h:RE ss i lt t c λb t'=>if b=true then Ws (ss.set i (.ow lt t')) u nx R else Ws (ss.set i (.ow lt t')) v nx R):Ws ss (P7 c u v) nx R:=⟨λE D Z F H S hn d=>
 h.go E Z F H _ S λb t' F1 H1 a kk=>by
  cases b with
  |true=>rw[kz rfl]at kk;exact kk.go E D Z F1 H1 a.st (λAG σ' F' H' n S' s=>hn AG σ' F' H' n S' (a.ff.trans s)) d
  |false=>rw[km (by decide)]at kk;exact kk.go E D Z F1 H1 a.st (λAG σ' F' H' n S' s=>hn AG σ' F' H' n S' (a.ff.trans s)) d⟩
theorem Xq(h:Wm ss i lt t te λ_ t'=>nx (ss.set i (.ow lt t'))):Ws ss (HG te) nx R:=⟨λE D Z F H S hn b=>
 h.go E Z F H _ S λv p t' F1 H1 a r kk=>hn _ Z F1 H1 kk a.st a.ff⟩
theorem Jd{k:PV->OV->Prop}(hi:ss[i]?=some (.ow lt (.nd nk a0 us)))(h:Wp ss te λp=>k p (.nd nk a0 us)):Ws ss (Jm te) nx (.mt k):=⟨λE D Z F H S hn f=>
 h.go E Z F H _ S λv p F1 H1 d r kk=>by
  obtain⟨e,e0,b,Bq,c⟩:=d.st.ok i _ hi;have g:e=.ref a0:=by cases b;rfl
  subst g;exact f v F1 H1 d.st.toFin ⟨p,.nd nk a0 us,r,b,Bq,λa ha=>⟨(c a ha).1,(c a ha).2.imp id λz=>z.2⟩,kk⟩⟩
end
theorem Oa{N:List Str}{t:TS}(h:Bj pre vs H Q X)(b:∀ss R,pre ss R->ss.length=n)
  (hw:∀ss R,pre ss R->Ws (ss++List.replicate (N.length - n) .any) t (λ_=>False) R):t { nx:=λ_ H'=>Q .A7 H',rt:=Q } (L2.start N vs) H:=by
 obtain⟨ss,R,F,A,B,a,S,q⟩:=h;have e:vs.length=n:=by have:=S.len;rw[AW]at this;rw[<- this];exact b ss R a
 unfold L2.start;rw[e];exact(hw ss R a).go (NT ⟨A,F,H,B⟩) _ _ F H (S.grown _) (λAG σ' F' H' z S' _=>z.elim) λv F' H' f ok=>q v F' H' f ok
theorem Gs(b:∀ss R,pre ss R->ss.length=n)(h:Bj pre vs H Q X):vs.length=n:=by
 obtain⟨ss,R,F,A,B,a,S,q⟩:=h;have:=S.len;rw[AW]at this;rw[<- this];exact b ss R a
end Fz
namespace L2
section
variable{X:Cx}{o i value:Expr}{td ty tv:TE}{pos pos':Pos}
theorem By(d:X.A.units+1<cLine)(ho:QE X o td)(hi:QE X i ty)(e:Sq i):QE X (.Subscript o i pos) (Iy td ty):=⟨by
 have ho:=ho.h;have hi:=hi.h;intro Zi s Z H Q I h;refine mG PySem.F.slot_dict_getitem.lookup e (AN (ho Zi s Z H _ I h) λu s1⟨x,H1,I1,c,q1⟩=>AN (hi Zi s1 Z H1 _ I1 q1) λk s2⟨y,H2,I2,b,a,v,ex,g,q2⟩=>?_);subst ex;obtain rfl:u=Value.ref a:=c;exact⟨vn I2 g,ZAI d I2 g b λf j I3 Fc=>⟨v,H2,I3,Fc,q2⟩⟩⟩
theorem HU(e:X.A.units+1<cLine)(ho:QE X o td)(hi:QE X i ty)(hv:QE X value tv)(f:swapsWith value (some (.Subscript o i pos')) pos.line X.env=pure false:=by rfl):
  QS X (.Assign [.Subscript o i pos'] value pos) (Ri td ty tv):=⟨by
 have ho:=ho.h;have hi:=hi.h;have hv:=hv.h;intro Zi s Z H D I h;refine wpAny_Assign_Subscript (AN (hv Zi s Z H _ I h) λr s1⟨v,H1,I1,d,q1⟩=>AN (ho Zi s1 Z H1 _ I1 q1) λu s2⟨x,H2,I2,c,q2⟩=>AN (hi Zi s2 Z H2 _ I2 q2) λk j⟨y,H3,I3,b,a,H4,ex,g,q3⟩=>?_) f;subst ex;obtain rfl:u=Value.ref a:=c;exact mW e I3 g b d λs4 I4=>⟨Z,H4,I4,q3⟩⟩
theorem RS:QE X (.Dict [] [] pos) Vb:=⟨λZi s Z H Q I h=>
 wpAny_Dict_empty ⟨.ref s.heap.objs.size,_,I.laid (a:=s.heap.objs.size) (o:=.dK []) (t':=s.toks) (λ_ _ q=>B7 _ q) (Ad _) (Zb s.heap I.big),rfl,h _ (I.AI.fresh (Ad _))⟩⟩
end
end L2
namespace Fz
open L2 Lw
variable{F F0 H H0:Hp}{v:V}{ss:List Slot}{ta td tv ty:TE}{nx:List Slot->Prop}{R:Ai}{i:Nat}{key:Key}{m p:List Nat}{ks:List Key}{C a dx:Addr}{Bf vs:List V}{t u w:OV}{us us':List OV}{E:Ent0}{Z:L2.St}{f:Str}{ns:List Str}{pre:Pre}
noncomputable def FZ:Key->PV
 | .inl i=>.int i
 | .inr x=>.str x
noncomputable def KH:List Key->List PV->Key->Option PV
 |k'::ks,x::xs,k=>if k'=k then some x else KH ks xs k
 |_,_,_=>none
def Em(ks:List Key)(k:Key):Bool:=ks.any λk'=>decide (k'=k)
def DZ(ks:List Key)(k:Key):List Key:=if Em ks k=true then ks else ks++[k]
noncomputable def Pp:List Key->List PV->Key->PV->List PV
 |k'::ks,x::xs,k,p=>(if k'=k then p else x)::Pp ks xs k p
 |_,xs,_,_=>xs
def MB(ks:List Key)(xs:List PV)(k:Key)(p:PV):List PV:=if Em ks k=true then Pp ks xs k p else xs++[p]
theorem IA{k:Key}(r:Rep F v (FZ k)):v=kV k:=by
 cases k with
 |inl i=>cases r.inv;rfl
 |inr x=>cases r.inv;rfl
theorem v8{k:Key}{y:PV}:∀{ks:List Key}{vs:List V}{xs:List PV},AS F vs xs->ks.length=vs.length->KH ks xs k=some y->∃v,DC (ks.zip vs) k=some v/\Rep F v y:=by
 intro ks
 induction ks with
 |nil=>intro vs xs _ _ h;cases h
 |cons k' ks d=>
  intro vs xs r e h;cases xs with
  |nil=>cases h
  |cons x xs=>
   obtain⟨v,ws,rfl,a,b⟩:=r.inv;have h:(if k'=k then some x else KH ks xs k)=some y:=h
   rw[JC]
   by_cases c:k'=k
   .rw[kz c]at h;cases h;exact⟨v,Ob c,a⟩
   .rw[km c]at h;obtain⟨w,h1,h2⟩:=d b (Om e) h;exact⟨w,by rw[Nf c];exact h1,h2⟩
section
variable[Xw]
variable{k:PV->Prop}{lt:Bool}
theorem Ll(h:Wp ss td λp=>∃ks xs,p=.AL ks xs/\Wp ss ty λq=>∃key y,q=FZ key/\KH ks xs key=some y/\k y):Wp ss (Iy td ty) k:=⟨λE Z F H Q S q=>
 h.go E Z F H _ S λv p F1 H1 c g⟨ks,xs,e,h2⟩=>h2.go E Z F1 H1 _ c.st λo p2 F2 H2 b f⟨key,y,m,i,kk⟩=>by
  subst e;subst m;have n:=g.mono b.ff;cases n with
  |AL l j d=>
   obtain⟨w,hw,a⟩:=v8 d j i;refine⟨_,w,rfl,?_,q w y F2 H2 (c.trans b) a kk⟩;rw[<- hw,IA f];exact FA.k (b.st.fh _ _ l)⟩
theorem RV{k:List Nat->OV->Prop}(h:∀a,k [] (.nd (.AL []) a (([]:List PV).map .fz))):Wx ss Vb k:=⟨λE Z F H Q S q p b=>by
 have m:=S.make b (.dK []);refine q _ [] (.nd (.AL []) p (([]:List PV).map .fz)) F _ m (.nd (k:=.AL []) (vs:=[]) AO trivial rfl .nil) (by rw[OV.Cm];simp[NK.more,OV.HM]) (λa ha=>?_) (h p);rw[OV.Cm]at ha;have e:a=p:=by simpa[NK.more,OV.HM]using ha
 subst e;exact⟨S.Bd b,S.ES b,.inr b⟩⟩
theorem ZL(ks:List Key)(a:Addr)(xs:List PV):(OV.nd (.AL ks) a (xs.map .fz)).addrs=[a]:=by rw[OV.Cm,aG];rfl
theorem RW:∀{ks:List Key}{vs:List V}{key:Key},ks.length=vs.length->(ks.zip vs).any (λa=>decide (a.1=key))=Em ks key
 | [],vs,key,h=>rfl
 |k'::ks,w::vs,key,h=>by
  rw[JC,LO,RW (by simpa using h)]
  rfl
 |_::_,[],_,h=>by simp at h
noncomputable def Dn:List Key->List V->Key->V->List V
 |k'::ks,x::xs,k,p=>(if k'=k then p else x)::Dn ks xs k p
 |_,xs,_,_=>xs
theorem U0:∀{ks:List Key}{vs:List V}{key:Key}{v:V},(ks.zip vs).map (λa=>if a.1=key then(a.1,v)else a)=ks.zip (Dn ks vs key v)
 | [],vs,key,v=>by simp
 |k'::ks,w::vs,key,v=>by
  rw[JC,Bh,U0,Dn,JC]
  by_cases c:k'=key
  .rw[kz c,kz c]
  .rw[km c,km c]
 |_::_,[],_,_=>by simp[Dn]
theorem jB:∀(ks:List Key)(vs:List V)(key:Key)(v:V),(Dn ks vs key v).length=vs.length
 | [],vs,key,v=>by rw[Dn];simp
 |k'::ks,w::vs,key,v=>by rw[Dn,Bw,jB,Bw]
 |_::_,[],_,_=>by rw[Dn];simp
theorem ZCx{p:PV}(r:Rep F v p):∀{ks:List Key}{vs:List V}{xs:List PV},AS F vs xs->AS F (Dn ks vs key v) (Pp ks xs key p):=by
 intro ks
 induction ks with
 |nil=>intro vs xs h;exact h
 |cons k' ks d=>
  intro vs xs h;cases xs with
  |nil=>cases h.Cy;exact .nil
  |cons x xs=>
   obtain⟨w,ws,rfl,a,b⟩:=h.inv;show AS F ((if k'=key then v else w)::Dn ks ws key v) ((if k'=key then p else x)::Pp ks xs key p)
   by_cases c:k'=key
   .rw[kz c,kz c];exact .cons r (d b)
   .rw[km c,km c];exact .cons a (d b)
theorem bq{xs:List PV}(hi:ss[i]?=some (.ow lt (.nd (.AL ks) a (xs.map .fz))))(h:Wp ss tv λp=>Wp ss ty λq=>∃key,q=FZ key/\ks.length<=99999/\nx (ss.set i (.ow lt (.nd (.AL (DZ ks key)) a ((MB ks xs key p).map .fz))))):Ws ss (Ri (BP i) ty tv) nx R:=⟨λE D Z F H S hn I=>
 h.go E Z F H _ S λv p F1 H1 f m h2=>by
  obtain⟨l,e0,t,_,_⟩:=f.st.ok i _ hi;have x:l=.ref a:=by cases t;rfl
  subst x;refine⟨_,e0,h2.go E Z F1 H1 _ f.st λB q F2 H2 d s⟨key,y,G,kk⟩=>?_⟩;subst y;have j:=m.mono d.ff;obtain⟨A,J,r,u,q3⟩:=d.st.ok i _ hi;cases r with
  |@nd _ _ vs _ ha C w o=>
   have g:=o.PF;have e:ks.length=vs.length:=w;have z:(ks.zip vs).length<=99999:=by rw[Mo];omega
   refine⟨a,_,rfl,by rw[IA s];exact MD.k ha (NA z),?_⟩;obtain⟨Bf,KY,HB,ep⟩:∃Bf:List V,(DZ ks key).length=Bf.length/\AS F2 Bf (MB ks xs key p)/\putK (ks.zip vs) key v=(DZ ks key).zip Bf:=by
    unfold putK DZ MB;rw[RW e]
    by_cases c:Em ks key=true
    .rw[kz c,kz c,kz c];exact⟨Dn ks vs key v,by rw[jB];exact e,ZCx j g,U0⟩
    .rw[km c,km c,km c];exact⟨vs++[v],by rw[C0,C0,e];rfl,g.append (.one j),by rw[List.zip_append e];rfl⟩
   rw[ep];have M:=d.st.QC (p:=[]) (n:=.nd (.AL (DZ ks key)) a ((MB ks xs key p).map .fz)) (ho:=.dK ((DZ ks key).zip Bf)) hi OV.Hs (.nd (k:=.AL (DZ ks key)) AO trivial KY (zh HB)) (by rw[ZL];simp) λb hb=>.inl (by rw[ZL]at hb ⊢;exact hb);rw[OV.DN]at M;exact hn _ Z F2 _ kk M (f.ff.trans d.ff)⟩
end
noncomputable def C7:List Key->Key->Option Nat
 | [],_=>none
 |k'::ks,k=>if k'=k then some 0 else(C7 ks k).map (· + 1)
theorem PR:∀{ks:List Key}{key:Key}{n:Nat},C7 ks key=some n->ks[n]?=some key
 | [],_,_,h=>by cases h
 |k'::ks,key,n,h=>by
  rw[C7]at h
  by_cases c:k'=key
  .rw[kz c]at h;cases h;subst c;rfl
  .rw[km c]at h;cases e:C7 ks key with
   |none=>rw[e]at h;cases h
   |some m=>rw[e]at h;cases h;exact PR (ks:=ks) e
theorem W3:∀{ks:List Key}{key:Key},(C7 ks key).isSome=Em ks key
 | [],_=>rfl
 |k'::ks,key=>by
  rw[C7];unfold Em;rw[LO]
  by_cases c:k'=key
  .rw[kz c,kc c];rfl
  .rw[km c,lx c,Bool.false_or,Z4,W3];rfl
theorem Rr:∀{ks:List Key}{vs:List V}{key:Key}{n:Nat}{v:V},C7 ks key=some n->vs[n]?=some v->DC (ks.zip vs) key=some v
 | [],_,_,_,_,h,_=>by cases h
 |k'::ks,[],key,n,v,h,hv=>by simp at hv
 |k'::ks,w::vs,key,n,v,h,hv=>by
  rw[C7]at h;rw[JC]
  by_cases c:k'=key
  .rw[kz c]at h;cases h;simp at hv;rw[Ob c,hv]
  .rw[km c]at h;cases e:C7 ks key with
   |none=>rw[e]at h;cases h
   |some m=>
    rw[e]at h;cases h;rw[Nf c];exact Rr e (by simpa using hv)
theorem U8(a:ks.length=vs.length):(DC (ks.zip vs) key).isSome=Em ks key:=by
 rw[<- Ra,RW a]
theorem jG:∀{ks:List Key}{vs:List V}{key:Key}{n:Nat}{v:V},ks.Nodup->C7 ks key=some n->Dn ks vs key v=vs.set n v
 | [],_,_,_,_,_,h=>by cases h
 |k'::ks,[],key,n,v,_,h=>by rw[Dn];simp;simp
 |k'::ks,w::vs,key,n,v,nd,h=>by
  rw[C7]at h;obtain⟨n1,n2⟩:=List.nodup_cons.mp nd;rw[Dn]
  by_cases c:k'=key
  .rw[kz c]at h;cases h;rw[kz c,Yy]
   congr 1
   subst c;have a:∀{ks:List Key}{vs:List V},k'∉ks->Dn ks vs k' v=vs:=by
    intro ks
    induction ks with
    |nil=>intro vs _;rw[Dn];simp
    |cons d ks b=>
     intro vs hn;cases vs with
     |nil=>rw[Dn];simp
     |cons u vs=>
      rw[Dn,km (λz=>hn (by rw[z];simp)),b (λz=>hn (by simp[z]))]
   exact a n1
  .rw[km c]at h;cases e:C7 ks key with
   |none=>rw[e]at h;cases h
   |some m=>
    rw[e]at h;cases h;rw[km c,SY,jG n2 e]
section
variable[Xw]
variable{k:PV->Prop}
theorem Ga{k:List Nat->OV->Prop}(h:Wl ss i t td λp u=>∃ks a us,u=.nd (.AL ks) a us/\Wp ss ty λq=>∃key n w,q=FZ key/\C7 ks key=some n/\us[n]?=some w/\k (p++[n]) w):Wl ss i t (Iy td ty) k:=⟨h.hi,λE Z F H Q S q=>
 h.go E Z F H _ S λv p u F1 H1 b l h1⟨ks,a,us,m,h2⟩=>h2.go E Z F1 H1 _ b.st λo p2 F2 H2 c j⟨key,n,w,e,hn,hw,kk⟩=>by
  subst e;have g:=l.mv b.st h.hi h1 c;subst m;obtain⟨vs,rfl,ha,r,s,f⟩:=g.inv;obtain⟨x,hx,d⟩:=f.get hw;refine⟨a,x,rfl,?_,q x (p++[n]) w F2 H2 (b.trans c) d (OV.LZ h1 (by rw[OV.Kh,hw];exact OV.Hs)) kk⟩;rw[<- Rr hn hx,IA j];exact FA.k ha⟩
theorem sZ(h:Wp ss ty λq=>Wl ss i t td λ_ u=>∃ks a us key,u=.nd (.AL ks) a us/\q=FZ key/\k (.bl (Em ks key))):Wp ss (Vz ty td) k:=⟨λE Z F H Q S q=>
 h.go E Z F H _ S λv p F1 H1 b d h2=>h2.go E Z F1 H1 _ b.st λl p2 u F2 H2 e c B3 AJ=>by
  obtain⟨ks,a,us,key,g,j,kk⟩:=AJ;subst g;subst j;obtain⟨vs,rfl,ha,m,f,n⟩:=c.inv;refine⟨a,DC (ks.zip vs) key,rfl,by rw[IA d];exact FA.k ha,?_⟩;rw[U8 f];exact q _ _ F2 H2 (b.trans e) (.bl _) kk⟩
theorem Vw(h:Wp ss ty λq=>Wl ss i t td λ_ u=>∃ks a us key,u=.nd (.AL ks) a us/\q=FZ key/\k (.bl (!Em ks key))):Wp ss (P2 ty td) k:=⟨λE Z F H Q S q=>
 h.go E Z F H _ S λv p F1 H1 b d h2=>h2.go E Z F1 H1 _ b.st λl p2 u F2 H2 e c B3 AJ=>by
  obtain⟨ks,a,us,key,g,j,kk⟩:=AJ;subst g;subst j;obtain⟨vs,rfl,ha,m,f,n⟩:=c.inv;refine⟨a,DC (ks.zip vs) key,rfl,by rw[IA d];exact FA.k ha,?_⟩;rw[U8 f];exact q _ _ F2 H2 (b.trans e) (.bl _) kk⟩
theorem nQ(h:Wp ss ty λq=>Wp ss td λu=>∃ks xs key,u=.AL ks xs/\q=FZ key/\k (.bl (!Em ks key))):Wp ss (P2 ty td) k:=⟨λE Z F H Q S q=>
 h.go E Z F H _ S λv p F1 H1 c e h2=>h2.go E Z F1 H1 _ c.st λl u F2 H2 b d AJ=>by
  obtain⟨ks,xs,key,g,i,kk⟩:=AJ;subst g;subst i;cases d with
  |@AL a _ vs _ j f m=>
   refine⟨a,DC (ks.zip vs) key,rfl,by rw[IA e];exact FA.k (b.st.fh _ _ j),?_⟩;rw[U8 f];exact q _ _ F2 H2 (c.trans b) (.bl _) kk⟩
theorem JN:(OV.nd (.AL ks) a us).addrs=a::OV.Ag us:=by rw[OV.Cm];rfl
theorem jK{lt:Bool}:∀(m:List Nat)(ss:List Slot),ss[i]?=some (.ow lt t)->i∉m->(Fz.DE m ss)[i]?=some (.ow lt t):=by
 intro m
 induction m with
 |nil=>intro ss h _;exact h
 |cons j m b=>
  intro ss h a;refine b _ ?_ λz=>a (by simp[z]);rw[C4 (by rintro rfl;exact a (by simp))];exact h
theorem Sg.WH{lt:Bool}{ks':List Key}(S0:Sg E ss Z F0 H0)(S:Sg E ss Z F H)(hi:ss[i]?=some (.ow lt t))(B3:t.at p=some (.nd (.AL ks) a us))
  (c:∀a∈u.addrs,F a=none/\E.H0 a=none/\((∃i∈m,∃s,s≠Slot.AF/\ss[i]?=some s/\BK s Z[i]? a)∨H0 a=none)) (EA:i∉m)
  (x:BG F H Bf us') (A:ks'.length=Bf.length) (OT:(OV.Ag us').Nodup) (Gi:∀b∈OV.Ag us',b∈OV.Ag us∨b∈u.addrs):Sg E ((Fz.DE m ss).set i (.ow lt (t.put p (.nd (.AL ks') a us')))) Z F (upd H a (.dK (ks'.zip Bf))):=by
 have G:=jK m ss hi EA;obtain⟨v,e,r,nd,q⟩:=S.ok i _ hi;have g:∀b,b∈a::OV.Ag us->b∈t.addrs:=λb hb=>OV.IS B3 b (by rw[JN];exact hb);have D:∀b∈u.addrs,b∉t.addrs:=λb hb z=>by
  rcases(c b hb).2.2 with⟨j,B,s,_,d,o⟩|w
  .exact S.Bb j i s _ b (by rintro rfl;exact EA B) d hi o z
  .exact S0.DR hi z w
 have f:(OV.nd (.AL ks) a us).addrs.Nodup:=by
  obtain⟨l,I,C,_⟩:=OV.split B3;rw[C,Bx,Bx]at nd;exact nd.1.2.1
 rw[JN]at f;have na:∀b∈OV.Ag us',b≠a:=λb hb z=>by
  subst z;rcases Gi b hb with w|w
  .exact(List.nodup_cons.mp f).1 w
  .exact D b w (g b (by simp))
 refine(S.DE m).QC G B3 (.nd (k:=.AL ks') AO trivial A (x.mono (A8.refl _) λb hb o ho=>by rw[Ab (na b hb)];exact ho)) (by rw[JN];exact List.nodup_cons.mpr ⟨λz=>na a z rfl,OT⟩) λb hb=>?_;rw[JN]at hb ⊢;rcases List.mem_cons.mp hb with w|w
 .exact .inl (by simp[w])
 .rcases Gi b w with z|z
  .exact .inl (by simp[z])
  .refine .inr ⟨(c b z).1,(c b z).2.1,λj s d o=>?_⟩;rcases N3 d with y|⟨Gk,hm⟩
   .subst y;cases o
   .rcases(c b z).2.2 with⟨n,EE,s2,_,CB,h⟩|y
    .exact S.Bb j n s s2 b (by rintro rfl;exact hm EE) Gk CB o h
    .exact S0.DR Gk o y
def FR(ks:List Key)(us:List OV)(key:Key)(w:OV):List OV:=match C7 ks key with
 |some n=>us.set n w
 |none=>us++[w]
theorem JS(h:Wx ss tv λm w=>Wl ss i t td λp u=>∃lt a ks us,ss[i]?=some (.ow lt t)/\u=.nd (.AL ks) a us/\us.length<=99999/\ks.Nodup/\i∉m/\Wp ss ty λq=>∃key,q=FZ key/\nx ((Fz.DE m ss).set i (.ow lt (t.put p (.nd (.AL (DZ ks key)) a (FR ks us key w)))))):Ws ss (Ri td ty tv) nx R:=⟨λE D Z F H S hn hr=>
 h.go E Z F H _ S λv m w F1 H1 O N GY C h2=>h2.go E Z F1 H1 _ O.st λX p u F2 H2 J M B3⟨lt,a,ks,us,hi,eu,hz,hk,EA,h3⟩=>h3.go E Z F2 H2 _ J.st λv3 q F3 H3 B σ⟨key,eq,kk⟩=>by
  subst eu;subst eq;have ev:X=.ref a:=by cases M;rfl
  subst ev;have G:=J.trans B;have np:∀b∈w.addrs,D1 ss Z b:=λb hb k hk Q=>by
   rcases(C b hb).2.2 with⟨j,P,s,K,ID,o⟩|z
   .exact S.Bb j k s _ b (λe=>by subst e;rw[ID]at hk;exact K (BE hk)) ID hk o Q
   .exact S.DR hk Q z
  have W:B4 F3 H3 v w:=N.mono G.ff λb hb o e=>G.hh b o (np b hb) e;have UL:∀b∈w.addrs,F3 b=none/\E.H0 b=none/\((∃i∈m,∃s,s≠Slot.AF/\ss[i]?=some s/\BK s Z[i]? b)∨H b=none):=λb hb=>by
   refine⟨?_,(C b hb).2⟩;cases e:F3 b with
   |none=>rfl
   |some o=>
    rcases G.nn b o e with z|z
    .rw[(C b hb).1]at z;cases z
    .exact absurd z (N.there b hb)
  have Y:=M.mv J.st ⟨lt,hi⟩ B3 B;cases Y with
  |@nd _ _ vs _ ha sd ft A=>
   have I:ks.length=vs.length:=ft;have vl:=A.length;have WL:(ks.zip vs).length<=99999:=by rw[Mo];omega
   refine⟨a,_,rfl,by rw[IA σ];exact MD.k ha (NA WL),?_⟩;obtain⟨v0,e0,r0,Bq,q0⟩:=B.st.ok i _ hi;have L:(OV.nd (.AL ks) a us).addrs.Nodup:=by
    obtain⟨l,A,f,_⟩:=OV.split B3;rw[f,Bx,Bx]at Bq;exact Bq.1.2.1
   rw[JN]at L;have d:∀b∈w.addrs,b∉OV.Ag us:=λb hb z=>by
    have U:b∈t.addrs:=OV.IS B3 b (by rw[JN];simp[z]);rcases(C b hb).2.2 with⟨j,P,s,_,K,o⟩|y
    .exact S.Bb j i s _ b (by rintro rfl;exact EA P) K hi o U
    .exact S.DR hi U y
   obtain⟨Bf,ep,KY,HB,IM,sb⟩:∃Bf:List V,putK (ks.zip vs) key v=(DZ ks key).zip Bf/\(DZ ks key).length=Bf.length/\BG F3 H3 Bf (FR ks us key w)/\(OV.Ag (FR ks us key w)).Nodup/\∀b∈OV.Ag (FR ks us key w),b∈OV.Ag us∨b∈w.addrs:=by
    unfold putK DZ FR;rw[RW I];cases e:C7 ks key with
    |some n=>
     have c:Em ks key=true:=by rw[<- W3,e];rfl
     have J2:n<us.length:=by
      have:=(List.getElem?_eq_some_iff.mp (PR e)).1;omega
     obtain⟨l,r,f,T⟩:=Iz (Am J2);rw[kz c,kz c,U0,jG hk e];refine⟨vs.set n v,rfl,by rw[Hw];exact I,A.set n W,?_,λb hb=>?_⟩
     .show(OV.Ag (us.set n w)).Nodup;rw[T];have n1:=(List.nodup_cons.mp L).2;rw[f]at n1;exact R1 n1 GY λb hb=>.inr (by rw[<- f];exact d b hb)
     .have g:b∈OV.Ag (us.set n w):=hb;rw[T]at g;rcases List.mem_append.mp g with z|z
      .rcases List.mem_append.mp z with z|z
       .exact .inl (by rw[f];simp[z])
       .exact .inr z
      .exact .inl (by rw[f];simp[z])
    |none=>
     have c:¬ Em ks key=true:=by rw[<- W3,e];decide
     rw[km c,km c];refine⟨vs++[v],by rw[List.zip_append I];rfl,by rw[C0,C0,I];rfl,A.append (.one W),?_,λb hb=>?_⟩
     .show(OV.Ag (us++[w])).Nodup;rw[L5,Ln,Bx];exact⟨(List.nodup_cons.mp L).2,GY,λx hx y hy e=>d y hy (e▸hx)⟩
     .have g:b∈OV.Ag (us++[w]):=hb;rw[L5,Ln]at g;exact List.mem_append.mp g
   rw[ep];exact hn _ Z F3 _ kk (Sg.WH (u:=w) S B.st hi B3 UL EA HB KY IM sb) (O.ff.trans G.ff)⟩
end
noncomputable def Cj:List Str->Str->Option Nat
 | [],_=>none
 |g::ns,f=>if g=f then some 0 else(Cj ns f).map (· + 1)
def Kr(ns:List Str)(f:Str):List Str:=match Cj ns f with
 |some _=>ns
 |none=>ns++[f]
def OR(ns:List Str)(us:List OV)(f:Str)(w:OV):List OV:=match Cj ns f with
 |some n=>us.set n w
 |none=>us++[w]
def JJ(ns:List Str)(vs:List V)(f:Str)(w:V):List V:=match Cj ns f with
 |some n=>vs.set n w
 |none=>vs++[w]
theorem XU:∀{ns:List Str}{f:Str}{n:Nat},Cj ns f=some n->n<ns.length
 | [],_,_,h=>by cases h
 |g::ns,f,n,h=>by
  rw[Cj]at h
  by_cases c:g=f
  .rw[kz c]at h;cases h;exact Nat.succ_pos _
  .rw[km c]at h;cases e:Cj ns f with
   |none=>rw[e]at h;cases h
   |some m=>rw[e]at h;cases h;exact Nat.succ_lt_succ (XU e)
theorem RC:∀{ns:List Str}{vs:List V}{f:Str}{n:Nat}{v:V},Cj ns f=some n->vs[n]?=some v->(ns.zip vs).lookup f=some v
 | [],_,_,_,_,h,_=>by cases h
 |g::ns,[],f,n,v,h,hv=>by simp at hv
 |g::ns,w::vs,f,n,v,h,hv=>by
  rw[Cj]at h;rw[JC]
  by_cases c:g=f
  .rw[kz c]at h;cases h;simp at hv;subst c;rw[List.lookup_cons_self,hv]
  .rw[km c]at h;cases e:Cj ns f with
   |none=>rw[e]at h;cases h
   |some m=>
    rw[e]at h;cases h;rw[Gy];have:(f == g)=false:=by simpa using λz=>c z.symm
    rw[this];exact RC e (by simpa using hv)
theorem Uj:∀{ns:List Str}{vs:List V}{f:Str}{v:V},ns.length=vs.length->Ct f v (ns.zip vs)=(Kr ns f).zip (JJ ns vs f v)/\(Kr ns f).length=(JJ ns vs f v).length
 | [],[],f,v,_=>by simp[Ct,Kr,JJ,Cj]
 | [],_::_,_,_,h=>by simp at h
 |_::_,[],_,_,h=>by simp at h
 |g::ns,w::vs,f,v,h=>by
  obtain⟨b,a⟩:=Uj (ns:=ns) (vs:=vs) (f:=f) (v:=v) (by simpa using h)
  rw[JC];rw[show Ct f v ((g,w)::ns.zip vs)=(if g=f then(g,v)::ns.zip vs else(g,w)::Ct f v (ns.zip vs))from rfl]
  unfold Kr JJ at b a ⊢;rw[Cj]
  by_cases c:g=f
  .rw[kz c,kz c];exact⟨by simp,by simpa using h⟩
  .rw[km c,km c,b];cases e:Cj ns f with
   |none=>rw[e]at a;exact⟨by simp,by simpa using a⟩
   |some m=>rw[e]at a;exact⟨by simp,by simpa using a⟩
section
variable[Xw]
variable{k:PV->Prop}{K:ZEW}
theorem W7{k:List Nat->OV->Prop}(h:Wl ss i t ta λp u=>∃C dx ns a us n w,u=.nd (.obj C dx ns) a us/\Be K C/\BI K C f/\Cj ns f=some n/\us[n]?=some w/\k (p++[n]) w):Wl ss i t (Jx K ta f) k:=⟨h.hi,λE Z F H Q S q=>
 h.go E Z F H _ S λv p u F1 H1 g e h1 AJ=>by
  obtain⟨C,dx,ns,a,us,n,w,l,j,hn,hx,hw,kk⟩:=AJ;subst l;obtain⟨vs,rfl,ha,m,o,d⟩:=e.inv;obtain⟨x,b,c⟩:=d.get hw;exact⟨a,C,dx,ns.zip vs,x,rfl,ha,j,hn,RC hx b,q x (p++[n]) w F1 H1 g c (OV.LZ h1 (by rw[OV.Kh,hw];exact OV.Hs)) kk⟩⟩
theorem JO:(OV.nd (.obj C dx ns) a us).addrs=a::dx::OV.Ag us:=by rw[OV.Cm];rfl
theorem Sg.dA{lt:Bool}{CN:List Str}(S0:Sg E ss Z F0 H0)(S:Sg E ss Z F H)(hi:ss[i]?=some (.ow lt t))(B3:t.at p=some (.nd (.obj C dx ns) a us))(Ka:H dx=some (.own a))
  (c:∀a∈u.addrs,F a=none/\E.H0 a=none/\((∃i∈m,∃s,s≠Slot.AF/\ss[i]?=some s/\BK s Z[i]? a)∨H0 a=none)) (EA:i∉m)
  (D:BG F H Bf us') (G:CN.length=Bf.length) (OT:(OV.Ag us').Nodup) (Gi:∀b∈OV.Ag us',b∈OV.Ag us∨b∈u.addrs):Sg E ((Fz.DE m ss).set i (.ow lt (t.put p (.nd (.obj C dx CN) a us')))) Z F (upd H a (.ins C dx (CN.zip Bf))):=by
 have K:=jK m ss hi EA;obtain⟨v,e,r,nd,q⟩:=S.ok i _ hi;have f:∀b,b∈a::dx::OV.Ag us->b∈t.addrs:=λb hb=>OV.IS B3 b (by rw[JO];exact hb);have h:∀b∈u.addrs,b∉t.addrs:=λb hb z=>by
  rcases(c b hb).2.2 with⟨j,I,s,_,d,o⟩|w
  .exact S.Bb j i s _ b (by rintro rfl;exact EA I) d hi o z
  .exact S0.DR hi z w
 have n:(OV.nd (.obj C dx ns) a us).addrs.Nodup:=by
  obtain⟨l,L,J,_⟩:=OV.split B3;rw[J,Bx,Bx]at nd;exact nd.1.2.1
 rw[JO]at n;obtain⟨n1,n2⟩:=List.nodup_cons.mp n;obtain⟨A,M⟩:=List.nodup_cons.mp n2;have na:∀b∈OV.Ag us',b≠a:=λb hb z=>by
  subst z;rcases Gi b hb with w|w
  .exact n1 (by simp[w])
  .exact h b w (f b (by simp))
 have RB:∀b∈OV.Ag us',b≠dx:=λb hb z=>by
  subst z;rcases Gi b hb with w|w
  .exact A w
  .exact h b w (f b (by simp))
 have g:dx≠a:=λz=>n1 (by simp[z]);refine(S.DE m).QC K B3 (.nd (k:=.obj C dx CN) AO (show upd H a _ dx=some (.own a) by rw[Ab g];exact Ka) G (D.mono (A8.refl _) λb hb o ho=>by rw[Ab (na b hb)];exact ho)) (by
  rw[JO];exact List.nodup_cons.mpr ⟨λz=>by
   rcases List.mem_cons.mp z with z|z
   .exact g z.symm
   .exact na a z rfl,List.nodup_cons.mpr ⟨λz=>RB dx z rfl,OT⟩⟩) λb hb=>?_
 rw[JO]at hb ⊢;rcases List.mem_cons.mp hb with w|w
 .exact .inl (by simp[w])
 .rcases List.mem_cons.mp w with w|w
  .exact .inl (by simp[w])
  .rcases Gi b w with z|z
   .exact .inl (by simp[z])
   .refine .inr ⟨(c b z).1,(c b z).2.1,λj s d o=>?_⟩;rcases N3 d with y|⟨Gk,hm⟩
    .subst y;cases o
    .rcases(c b z).2.2 with⟨B,EE,s2,_,CB,x⟩|y
     .exact S.Bb j B s s2 b (by rintro rfl;exact hm EE) Gk CB o x
     .exact S0.DR Gk o y
theorem zB{F1 H1 F3 H3:Hp}(S:Sg E ss Z F H)(Jn:Mv E ss Z F1 H1 F3 H3)(d:B4 F1 H1 v w)(c:∀a∈w.addrs,F1 a=none/\E.H0 a=none/\((∃i∈m,∃s,s≠Slot.AF/\ss[i]?=some s/\BK s Z[i]? a)∨H a=none)):
  B4 F3 H3 v w/\∀b∈w.addrs,F3 b=none/\E.H0 b=none/\((∃i∈m,∃s,s≠Slot.AF/\ss[i]?=some s/\BK s Z[i]? b)∨H b=none):=by
 have np:∀b∈w.addrs,D1 ss Z b:=λb hb k hk f=>by
  rcases(c b hb).2.2 with⟨j,h,s,g,ID,o⟩|z
  .exact S.Bb j k s _ b (λe=>by subst e;rw[ID]at hk;exact g (BE hk)) ID hk o f
  .exact S.DR hk f z
 refine⟨d.mono Jn.ff λb hb o e=>Jn.hh b o (np b hb) e,λb hb=>⟨?_,(c b hb).2⟩⟩;cases e:F3 b with
 |none=>rfl
 |some o=>
  rcases Jn.nn b o e with z|z
  .rw[(c b hb).1]at z;cases z
  .exact absurd z (d.there b hb)
theorem Ih(h:Wx ss tv λm w=>Wl ss i t ta λp u=>∃lt C dx ns a us,ss[i]?=some (.ow lt t)/\u=.nd (.obj C dx ns) a us/\Be K C/\BI K C f/\ns.length<1000/\i∉m/\nx ((Fz.DE m ss).set i (.ow lt (t.put p (.nd (.obj C dx (Kr ns f)) a (OR ns us f w)))))):Ws ss (Uq K ta tv f) nx R:=⟨λE D Z F H S hn hr=>
 h.go E Z F H _ S λv m w F1 H1 G P GY L h2=>h2.go E Z F1 H1 _ G.st λN p u F2 H2 q B B3 AJ=>by
  obtain⟨lt,C,dx,ns,a,us,hi,Y,V,YC,hz,EA,kk⟩:=AJ;subst Y;have X:N=.ref a:=by cases B;rfl
  subst X;obtain⟨Fd,UL⟩:=zB S q P L;cases B with
  |@nd _ _ vs _ ha O W k=>
   have E2:ns.length=vs.length:=W;have vl:=k.length;obtain⟨ep,KY⟩:=Uj (f:=f) (v:=v) E2;refine⟨a,C,dx,ns.zip vs,rfl,ha,V,YC,by rw[Mo];omega,?_⟩;obtain⟨v0,e0,r0,Bq,q0⟩:=q.st.ok i _ hi;have M:(OV.nd (.obj C dx ns) a us).addrs.Nodup:=by
    obtain⟨l,k,d,_⟩:=OV.split B3;rw[d,Bx,Bx]at Bq;exact Bq.1.2.1
   rw[JO]at M;have A:=(List.nodup_cons.mp (List.nodup_cons.mp M).2).2;have c:∀b∈w.addrs,b∉OV.Ag us:=λb hb z=>by
    have J:b∈t.addrs:=OV.IS B3 b (by rw[JO];simp[z]);rcases(L b hb).2.2 with⟨j,U,s,_,T,o⟩|y
    .exact S.Bb j i s _ b (by rintro rfl;exact EA U) T hi o J
    .exact S.DR hi J y
   obtain⟨HB,IM,sb⟩:BG F2 H2 (JJ ns vs f v) (OR ns us f w)/\(OV.Ag (OR ns us f w)).Nodup/\∀b∈OV.Ag (OR ns us f w),b∈OV.Ag us∨b∈w.addrs:=by
    unfold JJ OR;cases e:Cj ns f with
    |some n=>
     have σ:n<us.length:=by have:=XU e;omega
     obtain⟨l,r,d,I⟩:=Iz (Am σ);refine⟨k.set n Fd,?_,λb hb=>?_⟩
     .show(OV.Ag (us.set n w)).Nodup;rw[I];rw[d]at A;exact R1 A GY λb hb=>.inr (by rw[<- d];exact c b hb)
     .have g:b∈OV.Ag (us.set n w):=hb;rw[I]at g;rcases List.mem_append.mp g with z|z
      .rcases List.mem_append.mp z with z|z
       .exact .inl (by rw[d];simp[z])
       .exact .inr z
      .exact .inl (by rw[d];simp[z])
    |none=>
     refine⟨k.append (.one Fd),?_,λb hb=>?_⟩
     .show(OV.Ag (us++[w])).Nodup;rw[L5,Ln,Bx];exact⟨A,GY,λx hx y Q e=>c y Q (e▸hx)⟩
     .have g:b∈OV.Ag (us++[w]):=hb;rw[L5,Ln]at g;exact List.mem_append.mp g
   rw[ep];exact hn _ Z F2 _ kk (Sg.dA (u:=w) S q.st hi B3 O UL EA HB KY IM sb) (G.ff.trans q.ff)⟩
end
theorem R3:∀{ns:List Str}{vs:List V}{f:Str},Cj ns f=none->(ns.zip vs).lookup f=none
 | [],_,_,_=>by simp
 |g::ns,[],f,h=>by simp
 |g::ns,w::vs,f,h=>by
  rw[Cj]at h
  by_cases c:g=f
  .rw[kz c]at h;cases h
  .rw[km c]at h;rw[JC,Gy];have:(f == g)=false:=by simpa using λz=>c z.symm
   rw[this];refine R3 ?_;cases e:Cj ns f with
   |none=>rfl
   |some m=>rw[e]at h;cases h
section
variable[Xw]
variable{te:TE}{ta:TA}{lt:Bool}{K:ZEW}
theorem LY{a0:Addr}{m:Str}{k:PV->OV->Prop}(hi:ss[i]?=some (.ow lt (.nd (.obj C dx ns) a0 us)))(o:Cj ns m=none)(h:M7 ss ta λl=>∃k',pre (.ow true (.nd (.obj C dx ns) a0 us)::l) (.mt k')/\∀p t',k' p t'->∃D4 us',t'=.nd D4 a0 us'/\k p t'):
  Wm ss i lt (.nd (.obj C dx ns) a0 us) (KR C m (Bj pre) [] E0 (BP i) ta) k:=⟨λE Z F H Q S q=>by
 obtain⟨d,e0,c,_,_⟩:=S.ok i _ hi;have s:d=.ref a0:=by cases c;rfl
 subst s;cases c with
 |@nd _ _ DP _ ha t w u=>
  refine⟨_,e0,a0,dx,ns.zip DP,rfl,ha,R3 o,h.go E Z F H _ S λvs l F1 H1 b a⟨k',n,kk⟩=>?_⟩;rw[FC];refine⟨.ow true (.nd (.obj C dx ns) a0 us)::l,.mt k',F1,[],(OV.nd (.obj C dx ns) a0 us).addrs,n,b.st.Uw hi (.here e0 a),λv F' H' f⟨p,t',r,e,nd,g,kp⟩=>?_⟩;obtain⟨D4,us',rfl,j⟩:=kk p t' kp;exact q v p _ F' H' (b.bc hi (b.st.YT hi f e nd g)) r j⟩
theorem xq{m:Str}{k:PV->Prop}(h:Wp ss te λo=>∃ns xs,o=.obj C ns xs/\Cj ns m=none/\Wa ss ta λl=>∃k',pre (.is o::l) (.is k')/\∀p,k' p->k p):Wp ss (KR C m (CG pre) [] E0 te ta) k:=⟨λE Z F H Q S q=>
 h.go E Z F H _ S λv o F1 H1 c g⟨ns,xs,t,j,h2⟩=>by
  subst t;cases g with
  |@obj a _ dx _ DP _ d u n e=>
   refine⟨a,dx,ns.zip DP,rfl,c.st.fh _ _ d,R3 j,h2.go E Z F1 H1 _ c.st λvs l F2 H2 b w⟨k',i,kk⟩=>?_⟩;rw[FC];refine⟨.is (.obj C ns xs)::l,.is k',F2,[],i,b.st.UY (.cons (s:=.is _) (Rep.obj (b.ff _ _ d) (b.ff _ _ u) n (e.mono b.ff)) w),λv F' H' f⟨p,r,kp⟩=>?_⟩;exact q v p F' H' (c.trans (b.trans (b.st.back (λ_ h=>absurd h Au) f))) r (kk p kp)⟩
theorem IT{k:PV->Prop}(h:Wp ss te λo=>∃C ns xs n y,o=.obj C ns xs/\Be K C/\BI K C f/\Cj ns f=some n/\xs[n]?=some y/\k y):Wp ss (Jx K te f) k:=⟨λE Z F H Q S q=>
 h.go E Z F H _ S λv o F1 H1 b e AJ=>by
  obtain⟨C,ns,xs,n,y,l,j,hn,hx,g,kk⟩:=AJ;subst l;cases e with
  |@obj a _ dx _ DP _ m r p d=>
   obtain⟨u,i,c⟩:=d.get g;exact⟨a,C,dx,ns.zip DP,u,rfl,b.st.fh _ _ m,j,hn,RC hx i,q u y F1 H1 b c kk⟩⟩
theorem gO{k:List Nat->OV->Prop}(h:M7 ss ta λl=>∀x dx:Addr,∃k',pre (.ow true (.nd (.obj C dx []) x [])::l) (.mt k')/\∀p t',k' p t'->p=.A7/\∃CN us',t'=.nd (.obj C dx CN) x us'/\k [] t'):Wx ss (W6 C (Bj pre) [] E0 ta) k:=⟨λE Z F H Q S q=>
 h.go E Z F H _ S λvs l F1 H1 b J Jt x dx hx Ka Ak=>by
  rw[FC];have M1:=b.st.make Ka (.own x);have M:upd H1 dx (.own x) x=none:=by rw[Ab (B0 Ak)];exact hx
  have L:=M1.st.make M (.ins C dx []);have y:=M1.trans L;have up:∀a o,H1 a=some o->upd (upd H1 dx (.own x)) x (.ins C dx []) a=some o:=λa o e=>by
   rw[Ab (Eb e hx),Ab (Eb e Ka)];exact e
  have dn:∀a,upd (upd H1 dx (.own x)) x (.ins C dx []) a=none->H1 a=none:=λa e=>by
   cases z:H1 a with
   |none=>rfl
   |some o=>rw[up a o z]at e;cases e
  have a0:(OV.nd (.obj C dx []) x []).addrs=[x,dx]:=by rw[JO,OV.HM]
  have w:B4 F1 (upd (upd H1 dx (.own x)) x (.ins C dx [])) (.ref x) (.nd (.obj C dx []) x []):=.nd (k:=.obj C dx []) (vs:=[]) AO (show upd _ x _ dx=some (.own x) by rw[Ab Ak];exact AO) rfl .nil;have f0:∀a∈(OV.nd (.obj C dx []) x []).addrs,H1 a=none:=λa ha=>by
   rw[a0]at ha;simp only[Cp,Au,yD]at ha;rcases ha with rfl|rfl
   .exact hx
   .exact Ka
  have N:(OV.nd (.obj C dx []) x []).addrs.Nodup:=by
   rw[a0];simp[B0 Ak]
  have s:=Sg.d8 (j:=ss.length) (m:=[]) (v:=.ref x) (u:=.nd (.obj C dx []) x []) (b.st.grown 1) (y.st.grown 1) w N λa ha=>⟨b.st.Bd (f0 a ha),b.st.ES (f0 a ha),.inr (f0 a ha)⟩;have P:=b.st.len;have hi:((ss++List.replicate 1 Slot.any).set ss.length (.ow false (.nd (.obj C dx []) x [])))[ss.length]?=some (.ow false (.nd (.obj C dx []) x [])):=CH (by simp);have e0:((Z++List.replicate 1 none).set ss.length (some (V.ref x)))[ss.length]?=some (some (.ref x)):=CH (by simp;omega);obtain⟨k',D,kk⟩:=Jt x dx;refine⟨.ow true (.nd (.obj C dx []) x [])::l,.mt k',F1,[],(OV.nd (.obj C dx []) x []).addrs,D,s.Uw hi (.here e0 J),λv F' H' f⟨p,t',r,g,nd,d,kp⟩=>?_⟩;obtain⟨rfl,CN,us',rfl,A⟩:=kk p t' kp;have B:=s.YT hi f g nd d;have at':∀n,n<ss.length->((ss++List.replicate 1 Slot.any).set ss.length (.ow false (.nd (.obj C dx []) x [])))[n]?=ss[n]?:=λn hn=>by rw[C4 (by omega),EN hn]
  have t:∀n,n<ss.length->((Z++List.replicate 1 none).set ss.length (some (V.ref x)))[n]?=Z[n]?:=λn hn=>by rw[C4 (by omega),EN (by omega)]
  have np:∀a,H1 a≠none->D1 ss Z a->D1 ((ss++List.replicate 1 Slot.any).set ss.length (.ow false (.nd (.obj C dx []) x []))) ((Z++List.replicate 1 none).set ss.length (some (V.ref x))) a:=λa _ hn n hk=>by
   by_cases c:n<ss.length
   .rw[at' n c]at hk;rw[t n c];exact hn n hk
   .by_cases I:n=ss.length
    .subst I;rw[hi]at hk;cases hk
    .rw[JB (by simp;omega)]at hk;cases hk
  have K:Mv E ss Z F1 H1 F' H':=b.st.step B.ff B.st.fh (λa o hn e=>B.hh a o (np a (by rw[e];simp) hn) (λz=>by rw[f0 a z]at e;cases e) (up a o e)) (λa o e=>(B.nn a o e).imp id (dn a)) λn O hn G=>by
   have c:n<ss.length:=(List.getElem?_eq_some_iff.mp hn).1;refine B.st.EF (i:=n) ?_ (by rw[t n c];exact G);rw[C4 (by omega)];exact(at' n c).trans hn
  cases r.inv;refine⟨rfl,q (.ref x) [] _ F' H' (b.trans K) g nd (λa ha=>?_) A⟩;have h1:H1 a=none:=(d a ha).2.elim (dn a) (f0 a);exact⟨(d a ha).1,b.st.ES h1,.inr (b.none h1)⟩⟩
end
end Fz
namespace L2
section
variable{X:Cx}{o e value:Expr}{f:Str}{pos pos' OA:Pos}{ta tv:TE}
theorem C9(b:QE X e ta)(hb:attributeBase e f X.env (eval e X.env)=eval e X.env:=by rfl):QE X (.Attribute e f pos) (Jx X.K ta f):=⟨by
 have b:=b.h;intro Zi s Z H Q I h;refine di hb (AN (b Zi s Z H _ I h) λu s1 EZ=>?_);obtain⟨x,H1,I1,d,a,C,dx,fs,v,ex,ea,c,n,l,q⟩:=EZ;subst ex;obtain rfl:u=Value.ref a:=d;exact c7 I1 ea c n l λi s2 I2 g=>⟨v,H1,I2,g,q⟩⟩
theorem JH(ha:QE X o ta)(hv:QE X value tv)(g:swapsWith value (some (.Attribute o f pos')) pos.line X.env=pure false:=by rfl):QS X (.Assign [.Attribute o f pos'] value pos) (Uq X.K ta tv f):=⟨by
 have ha:=ha.h;have hv:=hv.h;intro Zi s Z H D I h;refine plainObj_wpAny_Assign_Attribute (AN (hv Zi s Z H _ I h) λu s1⟨y,H1,I1,b,q⟩=>AN (ha Zi s1 Z H1 _ I1 q) λe s2⟨x,H2,I2,d,a,C,dx,fs,ex,ea,c,n,l,q2⟩=>?_) g;subst ex;obtain rfl:e=Value.ref a:=d;exact fW I2 ea c n l b λi I3=>⟨Z,_,I3,q2⟩⟩
theorem UX{op:Operator}{b:V->V->Hp->VK->Prop}(ha:QE X o ta)(hv:QE X value tv)(So:ib X op b):QS X (.AugAssign (.Attribute o f OA) op value pos) (Um X.K ta tv b f):=⟨by
 have ha:=ha.h;have hv:=hv.h;intro Zi s Z H D I h;refine wpAny_AugAssign_AttributeAny (AN (ha Zi s Z H _ I h) λr s1 EZ=>?_);obtain⟨x,H1,I1,k,a,C,dx,fs,v,ex,ea,c,n,l,q⟩:=EZ;subst ex;obtain rfl:r=Value.ref a:=k;refine c7 I1 ea c n l λu s2 I2 m=>AN (hv Zi s2 Z H1 _ I2 q) λe g⟨y,H2,I3,j,q3⟩=>AN (So Zi g Z H2 v y u e _ I3 m j q3) λw s4 Vy=>?_;obtain⟨z,H3,I4,i,J1,Lm,d,t,p⟩:=Vy;exact fW I4 d c n t i λA I5=>⟨Z,_,I5,p⟩⟩
end
end L2
namespace Fz
open L2 Lw
section
variable[Xw]
variable{ss:List Slot}{ta tv:TE}{nx:List Slot->Prop}{R:Ai}{i:Nat}{t:OV}{K:ZEW}{f:Str}
theorem Tg{g:Int->Int->Int}(h:Wl ss i t ta λp u=>∃lt C dx ns a us n x,ss[i]?=some (.ow lt t)/\u=.nd (.obj C dx ns) a us/\Be K C/\BI K C f/\ns.length<1000/\Cj ns f=some n/\us[n]?=some (.fz (.int x))/\Wp ss tv λq=>∃y,q=.int y/\nx (ss.set i (.ow lt (t.put p (.nd (.obj C dx ns) a (us.set n (.fz (.int (g x y))))))))):Ws ss (Um K ta tv (dy g) f) nx R:=⟨λE D Z F H S hn hr=>
 h.go E Z F H _ S λv p u F1 H1 e o B3 z=>by
  obtain⟨lt,C,dx,ns,a,us,n,x,hi,Y,U,YC,hz,hx,T,h2⟩:=z;subst Y;have X:v=.ref a:=o.inv.elim λ_ h=>h.1;subst X;have Fd:=o;obtain⟨vs,_,ha,sd,ft,s⟩:=o.inv;obtain⟨w,hw,k⟩:=s.get T;have W:w=.int x:=(k.inv:Rep _ _ _).inv;subst W;refine⟨a,C,dx,ns.zip vs,.int x,rfl,ha,U,YC,RC hx hw,h2.go E Z F1 H1 _ e.st λv2 q F2 H2 d Q O=>?_⟩;obtain⟨y,V,kk⟩:=O;subst V;cases Q.inv;refine⟨x,y,rfl,rfl,?_⟩;have P:=Fd.mv e.st ⟨lt,hi⟩ B3 d;obtain⟨Nz,_,N,j,KY,HB⟩:=P.inv;have E2:ns.length=Nz.length:=KY;have vl:=HB.length;obtain⟨ep,A⟩:=Uj (f:=f) (v:=.int (g x y)) E2;refine⟨dx,ns.zip Nz,N,by rw[Mo];omega,?_⟩;have σ:n<us.length:=by have:=XU hx;omega
  obtain⟨v0,e0,r0,Bq,q0⟩:=d.st.ok i _ hi;have L:(OV.nd (.obj C dx ns) a us).addrs.Nodup:=by
   obtain⟨l,s,c,_⟩:=OV.split B3;rw[c,Bx,Bx]at Bq;exact Bq.1.2.1
  rw[JO]at L;have J:=(List.nodup_cons.mp (List.nodup_cons.mp L).2).2;have G:Kr ns f=ns:=by unfold Kr;rw[hx]
  have B:JJ ns Nz f (.int (g x y))=Nz.set n (.int (g x y)):=by unfold JJ;rw[hx]
  rw[ep,G,B];rw[G,B]at A;obtain⟨l,r,c,I⟩:=Iz (Am σ);have M:=Sg.dA (m:=[]) (u:=.fz (.int (g x y))) (us':=us.set n (.fz (.int (g x y)))) e.st d.st hi B3 j (λb hb=>by rw[OV.GZ]at hb;cases hb) (by simp) (HB.set n (.fz (.int _))) A (by
   rw[I];rw[c]at J;exact R1 J (by rw[OV.GZ];exact LP) λb hb=>by rw[OV.GZ]at hb;cases hb) λb hb=>by
    rw[I,OV.GZ]at hb;rcases List.mem_append.mp hb with z|z
    .rcases List.mem_append.mp z with z|z
     .exact .inl (by rw[c];simp[z])
     .cases z
    .exact .inl (by rw[c];simp[z])
  exact hn _ Z F2 _ kk M (e.ff.trans d.ff)⟩
end
end Fz
namespace L2
section
variable{X:Cx}{o e:Expr}{td ty:TE}{apos BW:Pos}
theorem VG(ho:QE X o td)(b:QE X e ty)(m:M1 X o "pop" apos e BW):QE X (.Call (.Attribute o "pop" apos) [e] [] BW) (QP td ty):=⟨by
 have ho:=ho.h;have b:=b.h;intro Zi s Z H Q I h;refine wpAny_Call_method m.base m.tO m.line ZDV ZDX PySem.F.type_dict_pop (AN (ho Zi s Z H _ I h) λu s1⟨x,H1,I1,i,a,ex,d,q1⟩=>?_);subst ex;obtain rfl:u=Value.ref a:=i;obtain⟨f,c,_⟩:=gc I1 d;refine⟨f,c,?_⟩;rw[m.trees];refine jS rfl (Calls.evalArgs_plain (Yi (AN (b Zi s1 Z H1 _ I1 q1) λq s2⟨y,H2,I2,g,kvs,k,v,ea,j,l,q2⟩=>Yj ?_)));subst j;exact lR I2 ea g l (.inl rfl) λn p I3 Fc=>⟨v,_,I3,Fc,q2⟩⟩
end
end L2
namespace Fz
open L2 Lw
theorem UI:∀{ks:List Key}{vs:List V}{key:Key}{n:Nat},ks.Nodup->C7 ks key=some n->ks.length=vs.length->Jh (ks.zip vs) key=(ks.eraseIdx n).zip (vs.eraseIdx n)
 | [],_,_,_,_,h,_=>by cases h
 |_::_,[],_,_,_,_,hl=>by simp at hl
 |k'::ks,w::vs,key,n,nd,h,hl=>by
  obtain⟨n1,n2⟩:=List.nodup_cons.mp nd;rw[C7]at h;unfold Jh;rw[JC,SR]
  by_cases c:k'=key
  .rw[kz c]at h;cases h;rw[km (by simp[c])];show List.filter _ _=ks.zip vs;refine List.filter_eq_self.mpr λd g=>?_;have:d.1∈ks:=(Yx (a:=d.1) (b:=d.2) g).1;exact kc λz=>n1 (by rw[c,<- z];exact this)
  .rw[km c]at h;cases e:C7 ks key with
   |none=>rw[e]at h;cases h
   |some m=>
    rw[e]at h;cases h;rw[kz (kc c)];have f:=UI (vs:=vs) n2 e (by simpa using hl)
    unfold Jh at f;rw[f];rfl
theorem NN{α:Type}:∀(l:List α)(n:Nat),n<l.length->(l.eraseIdx n).length=l.length - 1
 | [],_,h=>by simp at h
 |_::_,0,_=>rfl
 |x::t,n+1,h=>by
  have h':n<t.length:=by simpa using h
  rw[Hv,Bw,NN t n h',Bw];omega
theorem BG.aK{F H:Hp}:∀{vs:List V}{us:List OV}(n:Nat),BG F H vs us->BG F H (vs.eraseIdx n) (us.eraseIdx n):=by
 intro vs us n r
 induction us generalizing vs n with
 |nil=>cases r.Cy;exact .nil
 |cons p ps c=>
  obtain⟨v,ws,rfl,a,b⟩:=r.inv;cases n with
  |zero=>exact b
  |succ n=>exact .cons a (c n b)
theorem NW:∀(us:List OV)(n:Nat),(OV.Ag (us.eraseIdx n)).Sublist (OV.Ag us)
 | [],_=>ZD6 _
 |u::us,0=>by rw[Yq,OV.CQ];exact List.sublist_append_right _ _
 |u::us,n+1=>by rw[Hv,OV.CQ,OV.CQ];exact List.Sublist.append (ZD6 _) (NW us n)
section
variable[Xw]
variable{ss:List Slot}{td ty:TE}{nx:List Slot->Prop}{R:Ai}{i:Nat}{t:OV}
theorem bM(h:Wl ss i t td λp u=>∃lt a ks us,ss[i]?=some (.ow lt t)/\u=.nd (.AL ks) a us/\ks.Nodup/\Wp ss ty λq=>∃key n,q=FZ key/\C7 ks key=some n/\nx (ss.set i (.ow lt (t.put p (.nd (.AL (ks.eraseIdx n)) a (us.eraseIdx n)))))):Ws ss (HG (QP td ty)) nx R:=⟨λE D Z F H S hn O=>
 h.go E Z F H _ S λv p u F1 H1 d f B3⟨lt,a,ks,us,hi,y,hk,h2⟩=>by
  subst y;have x:v=.ref a:=by cases f;rfl
  subst x;have C:=f;cases f with
  |@nd _ _ DP _ UZ j s k=>
   refine⟨a,rfl,.inl ⟨_,.inl UZ⟩,h2.go E Z F1 H1 _ d.st λI q F2 H2 c r⟨key,n,z,hx,kk⟩=>?_⟩;subst z;have o:=C.mv d.st ⟨lt,hi⟩ B3 c;cases o with
   |@nd _ _ vs _ ha K w e=>
    have G:ks.length=vs.length:=w;have vl:=e.length;have B:n<ks.length:=(List.getElem?_eq_some_iff.mp (PR hx)).1;have hv:=Am (show n<vs.length by omega);refine⟨_,key,_,ha,IA r,Rr hx hv,?_⟩;obtain⟨J,e0,L,Bq,N⟩:=c.st.ok i _ hi;have g:(OV.nd (.AL ks) a us).addrs.Nodup:=by
     obtain⟨l,e,A,_⟩:=OV.split B3;rw[A,Bx,Bx]at Bq;exact Bq.1.2.1
    rw[JN]at g;rw[UI hk hx G];have M:=Sg.WH (m:=[]) (u:=.fz .A7) (ks':=ks.eraseIdx n) (us':=us.eraseIdx n) d.st c.st hi B3 (λb hb=>by rw[OV.GZ]at hb;cases hb) (by simp) (e.aK n) (by rw[NN _ _ B,NN _ _ (by omega)];omega) ((List.nodup_cons.mp g).2.sublist (NW us n)) λb hb=>.inl ((NW us n).subset hb);exact hn _ Z F2 _ kk M (d.ff.trans c.ff)⟩
end
end Fz
namespace L2
def D8(P:Program)(w:World)(K:ZEW)(mg:ZEY)(Zl:Heap)(C:Addr)(m:Str)(k:Nat)(ps:List Str)(sp:Sp):Prop:=
 ∃f fd,DK P w K mg Zl FO k f fd ps sp/\Binds K fd ps []/\Meth K C m f/\Be K C
def Ni(P:Program)(w:World)(K:ZEW)(mg:ZEY)(Zl:Heap)(C:Addr)(k:Nat)(ps:List Str)(sp:Sp):Prop:=
 ∃f fd,DK P w K mg Zl FO k f fd ps sp/\Binds K fd ps []/\Mk K C f
section
variable{X:Cx}{o e:Expr}{es:List Expr}{m x:Str}{C:Addr}{k j:Nat}{ps:List Str}{sp:Sp}{ta:TE}{t:TA}{apos pos p:Pos}
theorem FL{pl:Sem Bool}(h:D8 X.prog X.w X.K X.mg X.base C m k ps sp)(a:Bp j X.A)(hk:k<=j)(g:QE X o ta)(ha:QA X (e::es) t)
  (BA:starEach (e::es) X.env=(false,eval e X.env)::starEach es X.env:=by rfl) (Bo:(backTo pos (starEach es X.env)).any (·.1)=false:=by rfl)
  (ht:eval (.Call (.Attribute o m apos) (e::es) [] pos) X.env=(do
   let ov <- eval o X.env
   standAt apos.atName
   let (f,first) <- holding [ov] (getMethod ov m pl)
   callWith pos f first (backTo pos (starEach (e::es) X.env)) (backToKw pos (keywordEach [] X.env))):=by rfl) :
  QE X (.Call (.Attribute o m apos) (e::es) [] pos) (KR C m sp [] E0 ta t):=by
 obtain⟨f,fd,F,b,d,c⟩:=h;exact⟨vg g.h c d (F.mono hk) a b .nil To ha.h BA Bo ht⟩
theorem aH(h:Ni X.prog X.w X.K X.mg X.base C k ps sp)(a:Bp (j+1) X.A)(hk:k<=j)(c:X.mg x=some (.ref C))(ha:QA X (e::es) t)(d:Gl X x:=by rfl)(Bs:(x == ("__debug__":Str))=false:=by decide)
  (he:starEach (e::es) X.env=(false,eval e X.env)::starEach es X.env:=by rfl) (Bo:(backTo pos (starEach es X.env)).any (·.1)=false:=by rfl):QE X (.Call (.Name x p) (e::es) [] pos) (W6 C sp [] E0 t):=by
 obtain⟨f,fd,F,b,M⟩:=h;exact⟨pS M (F.mono hk) a d c b .nil To ha.h Bs he Bo⟩
variable{prog:Program}{w:World}{A:Around}{E:Value->Shared->Prop}{s:Shared}
end
end L2
set_option maxHeartbeats 200000
set_option maxHeartbeats 4000000
namespace L2
def Sr(K:ZEW)(S:Addr)(tb:(St->XK)->TS)(th:TS):TS:=λD Z H=>∃E1:St->XK,tb E1 D Z H/\
 ∀ σ1 C dx ea H1,E1 σ1 (.ref C) dx H1->H1 ea=none->PySem.W.exmOne K (.ref C) (.ref S)=some true/\th D σ1 H1
section
variable{X:Cx}{x:Str}{S:Addr}{body C8:List Stmt}{b0:Stmt}{np GQ pos:Pos}{Hm:(St->XK)->TS}{th:TS}
theorem ZAQ(BA:X.stack=X.env::X.outer)(J:X.ex=[])(G:Gl X x)(F:X.mg x=some (.ref S))
  (hb:∀(pn:ZEX)(xe:Value->Shared->Prop)(E1:St->XK),Goes (X.Dq pn xe) E1->FU (X.Dq pn xe) body (Hm E1))
  (hh:∀e,FU (X.C8 e) (b0::C8) th) (Bs:(x == ("__debug__":Str))=false:=by decide) :
  QS X (.Try body [.ExceptHandler (some (.Name x np)) none (b0::C8) GQ] [] [] pos) (Sr X.K S Hm th):=⟨by
 have hb:=λpn xe E1 g=>(hb pn xe E1 g).h;have hh:=λe=>(hh e).h;intro Zi s Z H D I h;obtain⟨E1,h1,h2⟩:=h;have A:X.env.frame=some X.env.locals:=by
  rcases I.ok.Hf with e|⟨_,A⟩
  .rw[e]at BA;exact absurd (oW List.length BA) (by simp)
  .exact A
 refine wpAny_Try_except ?_;refine ni (hb (X.pn++Zi) _ E1 ?_ [] s Z H D I.Dq h1) (λf s1 q=>?_) (λe s1 q=>q)
 .intro YH σ1 H1 s1 ea C dx tb I1 B ⟨t,k⟩ j i O;have c:Inv X Zi σ1 H1 s1:=I1.Fm;have k:X.s₀.heap.get? ea=none:=k;have j:∀T,tb=some T->H1 T=none/\X.s₀.heap.get? T=none:=j;have i:∀p∈X.pn++Zi,p.1≠ea/\tb≠some p.1:=λp q=>i p (Gz _ q);refine dZ (outer:=X.outer) (L:=X.env.locals) (by rw[<- BA];exact c.ok.frames) (Zl:=X.base) (by rw[<- BA];exact c.stack) A B λh' T kp a n=>?_;have m:=c.Qw BA B t k j i kp;obtain⟨XW,XZ⟩:=h2 σ1 C dx ea H1 O t;refine wpAny_handleBy_cons ?_ (λz=>by cases z);refine codeAny_handlers_test ?_;refine Nv (X:=X.C8 (.ref ea)) m.C8 G F ?_ Bs;obtain⟨oe,vs,M,N,hd,Es,hz,h3⟩:=n.obj;have V:PySem.W.Looks (model X.prog X.w) h' (typeOf (.ref ea)) (.ref C):=by
   rw[<- N];exact(ZDc M).andThen .now
  refine(PySem.W.exm_one (K:=X.K) m.EI V XW).here ?_;refine codeAny_handlers_suite ?_;have P:∀b∈Ci (X.env::X.outer),∃o,h'.get? b=some o/\∀vs,o.data≠.fields vs:=λb hb=>by
   have st:=m.stack;rw[BA]at st;obtain⟨_,o,ho,hn⟩:=st.mem hb;exact⟨o,ho,hn⟩
  refine Vo (s:={ s1 with heap:=h' }) (l:=X.env::X.outer) n P λh4 TM σ=>?_
  have U:∀T',some T=some T'->H1 T'=none/\X.s₀.heap.get? T'=none:=λT' Q=>by
   cases Q;exact a.elim (λa=>⟨c.AI.fresh a,jT (CK c.sz a)⟩) (j T)
  have R:∀p∈X.pn++Zi,p.1≠ea/\some T≠some p.1:=λp q=>⟨(i p q).1,λz=>a.elim (λa=>by
   have E:=Az (c.pin p q).1;rw[<- BE z]at E;exact absurd E (Nat.not_lt.mpr a)) λy=>(i p q).2 (y.trans z)⟩
  have Y:=m.Qw BA n t k U R TM;refine ni (hh (.ref ea) Zi _ _ _ D Y.C8 XZ) (λf s7 q=>?_) (λ_ _ z=>z.elim);cases f with
  |next=>
   obtain⟨σ7,H7,I7,d⟩:=q;exact⟨_,_,I7.JY I.ok,d⟩
  |brk=>
   obtain⟨σ7,H7,I7,d⟩:=q;exact⟨_,_,I7.JY I.ok,d⟩
  |cont=>
   obtain⟨σ7,H7,I7,d⟩:=q;exact⟨_,_,I7.JY I.ok,d⟩
  |ret u=>
   obtain⟨v,σ7,H7,I7,r,d⟩:=q;exact⟨v,_,_,I7.JY I.ok,r,d⟩
 .cases f with
  |next=>
   obtain⟨σ7,H7,I7,d⟩:=q;exact wO ⟨_,_,I7.Fm,d⟩
  |brk=>
   obtain⟨σ7,H7,I7,d⟩:=q;exact⟨_,_,I7.Fm,d⟩
  |cont=>
   obtain⟨σ7,H7,I7,d⟩:=q;exact⟨_,_,I7.Fm,d⟩
  |ret u=>
   obtain⟨v,σ7,H7,I7,r,d⟩:=q;exact⟨v,_,_,I7.Fm,r,d⟩⟩
end
end L2
namespace Fz
open L2 Lw
section
variable[Xw]
variable{ss:List Slot}{nx:List Slot->Prop}{R:Ai}{K:ZEW}{S:Addr}{tb:(L2.St->XK)->TS}{th:TS}{ta te ti:TE}{xs:List PV}{F:Hp}
theorem vc(J:List Slot->Prop)(Dx:Ex->Prop)(hb:∀E:Ent0,@Ws (G1 E J Dx) ss (tb (G1 E J Dx).e) nx R)
  (hh:∀GJ x,J GJ->Dx x->PySem.W.exmOne K (.ref x.C) (.ref S)=some true/\Ws GJ th nx R):Ws ss (Sr K S tb th) nx R:=⟨λE D Z F H S0 hn b=>by
 refine⟨(G1 (E.toEnt0.at F) J Dx).e,@Ws.go (G1 (E.toEnt0.at F) J Dx) _ _ _ _ (hb (E.toEnt0.at F)) (@Ent.mk (G1 (E.toEnt0.at F) J Dx) (E.toEnt0.at F) λss Z F H x C dx a S d B3=>⟨ss,F,x,a,S,d,B3⟩) D Z F H S0.gF (λAG σ' F' H' n S' ff=>hn AG σ' F' H' n (S0.un S') ff) (λv F' H' f ok=>b v F' H' (S0.toFin.un f) (Ai.un ok)),λσ1 C dx ea H1 c RG=>?_⟩;obtain⟨GJ,F1,x,a,S1,g,h,B3⟩:=c;obtain⟨Oc,hw⟩:=hh GJ x a g;cases h;have i:=S0.un S1;exact⟨Oc,hw.go E D _ _ _ i (λDD σ2 F3 H3 n2 S2 ff=>hn _ _ F3 H3 n2 S2 (S1.f0.trans ff)) λv F' H' f ok=>b v F' H' f ok⟩⟩
end
end Fz
namespace L2
noncomputable def Hc(s:Stmt)(n:Nat):Stmt:=match s with
 | .ClassDef _ _ _ b ..=>b.getD n (.Pass ⟨0,0,0,0⟩)
 |s=>s
end L2
namespace Fz
open L2 Lw
@[reducible] def xwM (X:XK) (t:OV) (D:Ex->Prop):Xw:=⟨λ_=>X,λss=>ss[0]?=some (.ow true t),D⟩
variable{R:Ai}{AG ss:List Slot}
section
variable{pre:Qy}{H:Hp}
def Oz(R:Ai)(AG:List Slot):Prop:=∃(k:PV->OV->Prop)(nk:NK)(a:Addr)(us:List OV),R=.mt k/\AG[0]?=some (.ow true (.nd nk a us))/\k .A7 (.nd nk a us)
theorem Oz.ok{E:Ent0}{Z:L2.St}{F:Hp}(h:Oz R AG)(S:Sg E AG Z F H):R.ok E F H .A7:=by
 obtain⟨k,nk,a,us,rfl,f,hk⟩:=h;obtain⟨e,e0,c,Bq,d⟩:=S.ok 0 _ f;have g:e=.ref a:=by cases c;rfl
 subst g;exact⟨.A7,.nd nk a us,.A7,c,Bq,λb hb=>⟨(d b hb).1,(d b hb).2.imp id λz=>z.2⟩,hk⟩
end
end Fz
namespace L2
section
variable{prog:Program}{w:World}{A:Around}{E:Value->Shared->Prop}{s:Shared}
theorem dD:typeLookup (.type "dict") "__len__"=pure (some (.builtin "dict.__len__")):=by rw[wg,qk];kernel_rfl
theorem ZCN{S:Addr}{kvs:List (Key×Value)}{n:Nat}{Q:List Value->Shared->Prop}(hh:A.handled=none)(G8:(S == sysModules)=false)(c:s.heap.DictOf (Bl prog w) S kvs)(m:kvs.length=n)(hn:n<=sizeLine)
  (h:∀(s':Shared)(vs:List Value),(∀b o,s.heap.get? b=some o->s'.heap.get? b=some o)->s.heap.objs.size<=s'.heap.objs.size->s'.gens=s.gens->s'.os=s.os->vs.length=n->(∀(i:Nat)v,vs[i]?=some v->∃k x,kvs[i]?=some (k,x)/\(Bl prog w).is k v=true)->Q vs s') :
  wpAny (model prog w) A (collect (.ref S)) Q E s:=by
 obtain⟨ep,c⟩:=c.dictAt;have C:S<s.heap.objs.size:=c.lt_size;have q:s.heap.objs.size≠S:=JD C;unfold collect;refine kU (ZA1 (qG F.entry_proto_collect ?_));rw[Mg F.plain_proto_collect _];show wpAny _ A.in1 (newList [] >>= λl=>again (.builtin "list.__iadd__" ⟨[l,.ref S],[]⟩)) _ _ s;refine kU (nZ ?_);refine kX ⟨tX Yk _,qG F.entry_list_iadd ?_⟩;rw[Mg Yk _];generalize p:({ cls:=.type "list", data:=.seq ([]:List Value).toArray }:Obj)=so;have f:(s.heap.push so).DictAt (Bl prog w) S kvs ep:=c.push _;have J:(s.heap.push so).get? s.heap.objs.size=some so:=BM _ (by rw[<- p];rfl);have sz:(s.heap.push so).objs.size=s.heap.objs.size+1:=D5 ..;have B:Shared.TypeIs { s with heap:=s.heap.push so } (.ref S) "dict" := f.dictOf.typeIs
 have h1:Builtin.List.listSameRef (.ref s.heap.objs.size) (.ref S)=false:=by simp[Builtin.List.listSameRef,q]
 show wpAny _ A.in1 (Builtin.List.listExtendWith (.ref s.heap.objs.size) (.ref S) (.ref s.heap.objs.size)) _ _ { s with heap:=s.heap.push so }
 unfold Builtin.List.listExtendWith;refine kU (rY B ?_);rw[km (by rw[h1];decide)];refine kU (wpAny_pyIter_dict (s:={ s with heap:=s.heap.push so }) G8 f ?_)
 dsimp only;generalize d:({ cls:=.type "dict_keyiterator", data:=.fields #[.ref S,.int 0 0,.int kvs.length 0,.int ep 0] }:Obj)=io;have kp:∀b o,(s.heap.push so).get? b=some o->((s.heap.push so).push io).get? b=some o:=λb o e=>B7 _ e;have K:S≠(s.heap.push so).objs.size:=by rw[sz];exact BL (Hx C)
 have W:∀A2:Around,A2.handled=none->Walks prog w A2 (s.heap.push so).objs.size [(s.heap.push so).objs.size,S] [(s.heap.push so).objs.size] kvs.length _ _:=λA2 h2=>Walks.dictKeys (knd:=Bl prog w) h2 (s.heap.push so).objs.size S K kvs ep;have BS:((s.heap.push so).push io).IsKeyIter (s.heap.push so).objs.size S 0 kvs.length ep/\((s.heap.push so).push io).DictAt (Bl prog w) S kvs ep:=⟨⟨io,BM _ (by rw[<- d];rfl),by rw[<- d],by rw[<- d];rfl⟩,f.push _⟩;have y:s.heap.objs.size∉[(s.heap.push so).objs.size,S]:=λa=>by
  simp only[Cp,Au,yD]at a;rcases a with z|z
  .rw[sz]at z;omega
  .exact q z
 generalize L:(s.heap.push so).push io=h2 at kp BS ⊢;have g:Shared.TypeIs { s with heap:=h2 } (.ref S) "dict" := by obtain⟨o,ho,I⟩:=B;exact⟨o,kp _ _ ho,I⟩
 refine kU (oR ?_);unfold Builtin.List.listLengthHint;refine kU (vG g dD ?_);generalize t:("dict.__len__":String)=Kk
 wp_delta
 rw[show splitId Kk=some ("dict","__len__")from by subst t;decide +kernel];subst t;refine kU (rL (b:=true) g (by rw[qK];kernel_rfl) ?_);rw[km (by decide)];refine vT (λ_=>?_) (λCM=>absurd (by decide +kernel) CM);refine kU (rY g ?_);refine kX ?_;refine vT (λ_=>?_) (λCM=>absurd (by decide +kernel) CM);refine kU (zU ?_);refine kU ?_;show wpAny _ _ (updateSeq s.heap.objs.size (·.push .none) >>= λ_=>updateSeq s.heap.objs.size (·.pop)) _ _ _
 have H:(#[]:Array Value).size<=sizeLine:=C1 _;have j:((#[]:Array Value).push Value.none).size<=sizeLine:=by show 1<=sizeLine;decide
 have G:((#[]:Array Value).push Value.none).size<=sizeLine+1:=Z0 j;have D:(((#[]:Array Value).push Value.none).pop).size<=sizeLine+1:=C1 _;have r:=kp _ _ J;subst p;refine kU (rf (s:={ s with heap:=h2 }) r rfl ?_ H G)
 have q2:=EM (Obj.mapSeq (·.push Value.none)) r rfl
 refine rf q2 rfl ?_ j D;have q3:=EM (Obj.mapSeq (·.pop)) q2 rfl
 have u:∀b o,b≠s.heap.objs.size->h2.get? b=some o->((h2.update s.heap.objs.size (Obj.mapSeq (·.push Value.none))).update s.heap.objs.size (Obj.mapSeq (·.pop))).get? b=some o:=
  λb o hb e=>(EB _ _ (B0 hb)).trans ((EB _ _ (B0 hb)).trans e)
 refine kX ⟨tX jy _,yW (W A.in1 hh).toS (m▸hn) _ y _ kvs.length 0 _ #[] _ rfl (C1 _) ?_ q3 (Yn _) λs' Cd M a CU BB=>?_⟩
 .exact(W A.in1 hh).frame 0 h2 _ BS λb hb o e=>u b o (λz=>y (z▸hb)) e
 .show wpAny _ A (load s.heap.objs.size >>= _) _ _ s';refine kU (zc CU ?_);refine kX ?_;refine h s' Cd.toList (λb o e=>?_) (Mq (Az CU)) a.gens a.os (by rw[Fh,BB.1];exact m) λi v hv=>BB.2 i v (by rw[<- Og];exact hv);have hb:b<s.heap.objs.size:=Az e;refine a.heap b o ?_ (u b o (BL hb) (kp b o (B7 _ e)));simp only[Cp,Au,yD,not_or];refine⟨BL hb,?_⟩;rw[sz];exact BL (Hx hb)
end
theorem bO{prog:Program}{w:World}:∀{ns:List Str}{kvs:List (Key×Value)}{vs:List Value},kvs.map (·.1)=ns.map Sum.inr->vs.length=kvs.length->(∀(i:Nat)v,vs[i]?=some v->∃k x,kvs[i]?=some (k,x)/\(Bl prog w).is k v=true)->StrsAre vs ns
 | [],[],[],_,_,_=>.nil
 | [],[],_::_,_,h,_=>by simp at h
 | [],_::_,_,h,_,_=>by simp at h
 |_::_,[],_,h,_,_=>by simp at h
 |_::_,_::_,[],_,h,_=>by simp at h
 |n::ns,kv::kvs,v::vs,e,hl,h=>by
  rw[Bh,Bh]at e;injection e with e1 e2
  obtain⟨k,x,a,hk⟩:=h 0 v rfl;have b:kv=(k,x):=by simpa using a
  subst b;have c:k=Sum.inr n:=e1;subst c;rcases Fu (show Ip (Sum.inr n) v=true from hk)with⟨i,t,z,_⟩|⟨y,t,z,rfl⟩
  .cases z
  .cases z;exact .cons n t (bO e2 (by simpa using hl) λi v hv=>h (i+1) v hv)
theorem StrsAre.zq{vs:List Value}{ns:List Str}(h:StrsAre vs ns):vs.length=ns.length:=by induction h with|nil=>rfl|cons y t h a=>simp[a]
section
variable{X:Cx}
def Zq:List V->Hp->VK->Prop:=λxs H Q=>∃(p:Addr)(kvs:List (Key×V))(ns:List Str),xs=[.ref p]/\Rd H p (.dK kvs)/\kvs.map (·.1)=ns.map Sum.inr/\ns.length<64/\∀(l:Addr)(AG:List Str),H l=none->AG.Perm ns->sortedS AG=true->Q (.ref l) (upd H l (.lst (AG.map V.str)))
theorem uB(w:X.calm=true):DI X (.builtin "sorted") Zq:=by
 intro Zi s Z H xs us Q I r h;obtain⟨p,kvs,ns,rfl,y,hk,C3,q⟩:=h;obtain⟨u,rfl,j⟩:=vals1 r;cases j;obtain⟨m,G8,DP,rel,x⟩:=Gb I.AI y;have hh:X.A.handled=none:=I.ok.hd w;have B:DP.map (·.1)=ns.map Sum.inr:=rel.keys.symm.trans hk
 refine Sk (Pc:=λvs s1=>(∀b o,s.heap.get? b=some o->s1.heap.get? b=some o)/\s.heap.objs.size<=s1.heap.objs.size/\s1.gens=s.gens/\s1.os=s.os/\StrsAre vs ns) (λA1 E1 Q1 z k=>?_) ?_
 .exact ZCN (z.trans hh) G8 x rfl (by rw[<- rel.length];exact m) λs' vs g f d c a C=>k vs s' ⟨g,f,d,c,bO B a C⟩
 .rintro vs s1⟨g,f,d,c,a⟩;refine⟨by rw[StrsAre.zq a];exact C3,ns,a,λout AG e h' kp v CU i n=>?_⟩;exact WR I d c g f kp v CU (by rw[i.length_eq];exact C3) λl t=>q l AG t i n
end
end L2
namespace Fz
open L2 Lw
theorem XB:∀{ks:List Key}{vs:List V},ks.length=vs.length->(ks.zip vs).map (·.1)=ks
 | [],[],_=>rfl
 | [],_::_,h=>by simp at h
 |_::_,[],h=>by simp at h
 |k::ks,v::vs,h=>by
  rw[JC,Bh,XB (by simpa using h)]
end Fz
namespace L2
section
variable{prog:Program}{w:World}{A:Around}{s:Shared}{R:Result->Shared->Prop}
theorem ZCF{L S:Addr}{H:Nat}{res:Value}{kvs:List (Key×Value)}{n:Nat}(hh:A.handled=none)(G8:(S == sysModules)=false)(j:s.heap.get? L=some { cls:=.type "list", data:=.seq #[] H })(hS0:s.heap.DictOf (Bl prog w) S kvs)(en:kvs.length=n)(hn:n<=sizeLine)
  (h:∀(s':Shared)(vs:List Value)(c:Nat),(∀b o,b≠L->s.heap.get? b=some o->s'.heap.get? b=some o)->L<s'.heap.objs.size->s'.gens=s.gens->s'.os=s.os->s'.heap.get? L=some { cls:=.type "list", data:=.seq vs.toArray c }->vs.length=n->(∀(i:Nat)v,vs[i]?=some v->∃k x,kvs[i]?=some (k,x)/\(Bl prog w).is k v=true)->R (.ok (.ret res)) s') :
  wpAny (model prog w) A.in1 (Builtin.List.listExtendWith (.ref L) (.ref S) res)
   (λl s'=>match l with | .done f=>R (.ok f) s' | .again c=>c.quiet=true/\codeAny (model prog w) A c R s') (λe s'=>R (.error e) s') s:=by
 obtain⟨ep,d⟩:=hS0.dictAt;have K:S<s.heap.objs.size:=d.lt_size;have t:L≠S:=λz=>by
  subst z;obtain⟨o,ho,g⟩:=d.dictOf.typeIs;rw[j]at ho;cases ho;exact absurd g (by show ¬ Value.type "list"=Value.type "dict"; decide)
 have D:Shared.TypeIs s (.ref S) "dict" := d.dictOf.typeIs;have h1:Builtin.List.listSameRef (.ref L) (.ref S)=false:=by simp[Builtin.List.listSameRef,t]
 unfold Builtin.List.listExtendWith;refine kU (rY D ?_);rw[km (by rw[h1];decide)];refine kU (wpAny_pyIter_dict (s:=s) G8 d ?_);dsimp only;generalize m:({ cls:=.type "dict_keyiterator", data:=.fields #[.ref S,.int 0 0,.int kvs.length 0,.int ep 0] }:Obj)=io;have kp:∀b o,s.heap.get? b=some o->(s.heap.push io).get? b=some o:=λb o e=>B7 _ e;have J:S≠s.heap.objs.size:=BL K;have W:∀A2:Around,A2.handled=none->Walks prog w A2 s.heap.objs.size [s.heap.objs.size,S] [s.heap.objs.size] kvs.length _ _:=λA2 h2=>Walks.dictKeys (knd:=Bl prog w) h2 s.heap.objs.size S J kvs ep;have BS:(s.heap.push io).IsKeyIter s.heap.objs.size S 0 kvs.length ep/\(s.heap.push io).DictAt (Bl prog w) S kvs ep:=⟨⟨io,BM _ (by rw[<- m];rfl),by rw[<- m],by rw[<- m];rfl⟩,d.push _⟩;have C:L∉[s.heap.objs.size,S]:=λa=>by
  simp only[Cp,Au,yD]at a;rcases a with z|z
  .have q:L<s.heap.objs.size:=Az j;rw[z]at q;exact LR _ q
  .exact t z
 generalize M:s.heap.push io=h2 at kp BS ⊢;have p:Shared.TypeIs { s with heap:=h2 } (.ref S) "dict" := by obtain⟨o,ho,g⟩:=D;exact⟨o,kp _ _ ho,g⟩
 refine kU (oR ?_);unfold Builtin.List.listLengthHint;refine kU (vG p dD ?_);generalize y:("dict.__len__":String)=Kk
 wp_delta
 rw[show splitId Kk=some ("dict","__len__")from by subst y;decide +kernel];subst y;refine kU (rL (b:=true) p (by rw[qK];kernel_rfl) ?_);rw[km (by decide)];refine vT (λ_=>?_) (λCM=>absurd (by decide +kernel) CM);refine kU (rY p ?_);refine kX ?_;refine vT (λ_=>?_) (λCM=>absurd (by decide +kernel) CM);refine kU (zU ?_);refine kU ?_;show wpAny _ _ (updateSeq L (·.push .none) >>= λ_=>updateSeq L (·.pop)) _ _ _
 have G:(#[]:Array Value).size<=sizeLine:=C1 _;have r:((#[]:Array Value).push Value.none).size<=sizeLine:=by show 1<=sizeLine;decide
 have F:((#[]:Array Value).push Value.none).size<=sizeLine+1:=Z0 r;have E:(((#[]:Array Value).push Value.none).pop).size<=sizeLine+1:=C1 _;have u:=kp _ _ j;refine kU (rf (s:={ s with heap:=h2 }) u rfl ?_ G F)
 have q2:=EM (Obj.mapSeq (·.push Value.none)) u rfl
 refine rf q2 rfl ?_ r E;have q3:=EM (Obj.mapSeq (·.pop)) q2 rfl
 have B:∀b o,b≠L->h2.get? b=some o->((h2.update L (Obj.mapSeq (·.push Value.none))).update L (Obj.mapSeq (·.pop))).get? b=some o:=
  λb o hb e=>(EB _ _ (B0 hb)).trans ((EB _ _ (B0 hb)).trans e)
 refine kX ⟨tX jy _,yW (W A.in1 hh).toS (en▸hn) _ C _ kvs.length 0 _ #[] _ rfl (C1 _) ?_ q3 (Yn _) λs' Cd c a CU BB=>?_⟩
 .exact(W A.in1 hh).frame 0 h2 _ BS λb hb o e=>B b o (λz=>C (z▸hb)) e
 .have hsz:L<s'.heap.objs.size:=Az CU;refine h s' Cd.toList c (λb o hb e=>?_) hsz a.gens a.os CU (by rw[Fh,BB.1];exact en) λi v hv=>BB.2 i v (by rw[<- Og];exact hv);have I:b<s.heap.objs.size:=Az e;refine a.heap b o ?_ (B b o hb (kp b o e));simp only[Cp,Au,yD,not_or];exact⟨hb,BL I⟩
end
theorem aU{prog:Program}{w:World}:∀{ks:List Key}{kvs:List (Key×Value)}{vs:List Value},kvs.map (·.1)=ks->vs.length=kvs.length->(∀(i:Nat)v,vs[i]?=some v->∃k x,kvs[i]?=some (k,x)/\(Bl prog w).is k v=true)->Vals (ks.map kV) vs
 | [],[],[],_,_,_=>.nil
 | [],[],_::_,_,h,_=>by simp at h
 | [],_::_,_,h,_,_=>by simp at h
 |_::_,[],_,h,_,_=>by simp at h
 |_::_,_::_,[],_,h,_=>by simp at h
 |n::ns,kv::kvs,v::vs,e,hl,h=>by
  rw[Bh]at e;injection e with e1 e2
  obtain⟨k,x,a,hk⟩:=h 0 v rfl;have b:kv=(k,x):=by simpa using a
  subst b;have c:k=n:=e1;subst c;refine .cons ?_ (aU e2 (by simpa using hl) λi v hv=>h (i+1) v hv)
  rcases Fu (show Ip k v=true from hk)with⟨i,t,rfl,rfl⟩|⟨y,t,rfl,rfl⟩
  .exact⟨t,rfl⟩
  .exact⟨t,rfl⟩
section
variable{X:Cx}
def fQ:List V->Hp->VK->Prop:=λxs H Q=>∃(p:Addr)(kvs:List (Key×V)),xs=[.ref p]/\Rd H p (.dK kvs)/\kvs.length<=1000/\∀l:Addr,H l=none->Q (.ref l) (upd H l (.lst ((kvs.map (·.1)).map kV)))
theorem fO(y:X.calm=true):DI X (.type "list") fQ:=by
 intro Zi s Z H xs us Q I r h;obtain⟨p,kvs,rfl,z,WD,q⟩:=h;obtain⟨u,rfl,t⟩:=vals1 r;cases t;obtain⟨f,G8,DP,rel,g⟩:=Gb I.AI z;have hh:X.A.handled=none:=I.ok.hd y;have K:p<s.heap.objs.size:=by obtain⟨ep,h2⟩:=g.dictAt;exact h2.lt_size
 have M:p≠s.heap.objs.size:=BL K;refine callType_codes (Q₁:=λobj d=>obj=.ref s.heap.objs.size/\d={ s with heap:=s.heap.push { cls:=.type "list", data:=.seq #[] } }) F.called_list (F.typeCall_list_1 _) F.entry_list_init
  (code_list_new _ ⟨rfl,rfl⟩) λobj d x=>?_
 obtain⟨rfl,rfl⟩:=x;have c:(s.heap.push { cls:=.type "list", data:=.seq #[] }).get? s.heap.objs.size=some { cls:=.type "list", data:=.seq #[] }:=BM _ rfl;refine⟨⟨_,c,rfl⟩,F.args_list_init_2 _ _,?_⟩;show wpAny _ X.A.in1.in1 (do let old <- Builtin.List.listItems (.ref s.heap.objs.size);Builtin.List.listUpdate (.ref s.heap.objs.size) (λ_=>#[]);letGo old.toList.reverse;Builtin.List.listExtendWith (.ref s.heap.objs.size) (.ref p) .none) _ _ _
 refine kU ?_;unfold Builtin.List.listItems;refine kU (zd c rfl (kX ?_));show wpAny _ X.A.in1.in1 (updateSeq s.heap.objs.size (λ_=>#[]) >>= λ_=>letGo (#[]:Array Value).toList.reverse >>= λ_=>Builtin.List.listExtendWith (.ref s.heap.objs.size) (.ref p) .none) _ _ _;refine kU (rf c rfl ?_);have J:=EM (Obj.mapSeq (λ_=>(#[]:Array Value))) c rfl;have old:∀b o,s.heap.get? b=some o->((s.heap.push { cls:=.type "list", data:=.seq #[] }).update s.heap.objs.size (Obj.mapSeq (λ_=>(#[]:Array Value)))).get? b=some o:=λb o e=>
  (EB _ _ (JD (Az e))).trans (B7 _ e)
 have v:((s.heap.push { cls:=.type "list", data:=.seq #[] }).update s.heap.objs.size (Obj.mapSeq (λ_=>(#[]:Array Value)))).DictOf (Bl X.prog X.w) p DP:=by
  obtain⟨o,es,ep,ho,rest⟩:=g;exact⟨o,es,ep,old _ _ ho,rest⟩
 refine kU (wpAny_letGo ?_);refine ZCF (A:=X.A.in1) hh G8 J v rfl (by rw[<- rel.length];exact f) λs' vs C l G k j i E D=>?_;have m:Vals ((kvs.map (·.1)).map kV) vs:=by
  rw[rel.keys];exact aU rfl E D
 refine⟨rfl,?_⟩;obtain⟨h1,g1,B,n,L⟩:=s';simp only at l G k j i;subst k;subst j;refine⟨.ref _,_,(I.drew B).laid (a:=s.heap.objs.size) (h':=h1) (t':=n) (o:=.lst ((kvs.map (·.1)).map kV)) (λb o e=>l b o (BL (Az e)) (old b o e)) (Ad _) ?_,rfl,q _ (I.AI.fresh (Ad _))⟩
 exact⟨by rw[AW,AW];exact f,vs,C,m,i⟩
variable{i o:Expr}{ty td:TE}{pos:Pos}
theorem yj(a:X.A.units+1<cLine)(hi:QE X i ty)(ho:QE X o td)(b:behindInMarks .In o=false:=by with_unfolding_all rfl):QT X (.Compare i [.In] [o] pos) (tB (Vz ty td)):=⟨gX (ZCD a hi.h ho.h) b⟩
theorem Qj(a:X.A.units+1<cLine)(hi:QE X i ty)(ho:QE X o td)(b:behindInMarks .NotIn o=false:=by with_unfolding_all rfl):QT X (.Compare i [.NotIn] [o] pos) (tB (P2 ty td)):=⟨gX (oP a hi.h ho.h) b⟩
end
end L2
namespace Fz
open L2 Lw
theorem Vx{F:Hp}:∀ks:List Key,AS F (ks.map kV) (ks.map FZ)
 | []=>.nil
 | .inl i::ks=>.cons (.int i) (Vx ks)
 | .inr x::ks=>.cons (.str x) (Vx ks)
theorem gh{F:Hp}:∀ns:List Int,AS F (ns.map V.int) (ns.map PV.int)
 | []=>.nil
 |i::ns=>.cons (.int i) (gh ns)
section
variable[Xw]
variable{E:Ent0}{ss:List Slot}{Z:L2.St}{F H F' H':Hp}{K:ZEW}{i:Nat}{t:OV}{ta tb tc te:TE}{nx:List Slot->Prop}{R:Ai}
theorem gK{k:List PV->Prop}(h:Wl ss i t te λ_ u=>∃(ks:List Key)(a:Addr)(us:List OV),u=.nd (.AL ks) a us/\ks.length<=1000/\k (ks.map FZ)):Wn ss (Ea fQ (Al te BO)) k:=⟨λE Z F H Q S q=>
 h.go E Z F H _ S λv p u F1 H1 b r B3 AJ=>by
  obtain⟨ks,a,us,e,j,kk⟩:=AJ;subst e;obtain⟨vs,rfl,ha,f,d,g⟩:=r.inv;refine⟨a,_,rfl,.inl ha,by rw[Mo];omega,λl Dj=>?_⟩;rw[XB d];have c:=b.st.make Dj (.lst (ks.map kV));exact q l _ _ F1 _ (b.trans c) (b.st.Bd Dj) (b.none Dj) AO (Vx ks) kk⟩
theorem kP{k:List PV->Prop}(h:Wl ss i t te λ_ u=>∃(ns:List Str)(a:Addr)(us:List OV),u=.nd (.AL (ns.map Sum.inr)) a us/\ns.length<64/\∀CN:List Str,CN.Perm ns->sortedS CN=true->k (CN.map PV.str)):Wn ss (Ea Zq (Al te BO)) k:=⟨λE Z F H Q S q=>
 h.go E Z F H _ S λv p u F1 H1 b r B3 AJ=>by
  obtain⟨ns,a,us,j,d,kk⟩:=AJ;subst j;obtain⟨vs,rfl,ha,m,g,n⟩:=r.inv;refine⟨a,_,ns,rfl,.inl ha,XB g,d,λl CN Dj f e=>?_⟩;have c:=b.st.make Dj (.lst (CN.map V.str));exact q l _ _ F1 _ (b.trans c) (b.st.Bd Dj) (b.none Dj) AO (R4 CN) (kk CN f e)⟩
end
end Fz
namespace L2
variable{values vs:List Expr}{ET:List (TE×TE)}
section
variable{X:Cx}{pos:Pos}
theorem xJ:JK X pos [] [] []:=u7
theorem P6{k v:Expr}{ks:List (Option Expr)}{tk tv:TE}(hk:QE X k tk)(hv:QE X v tv)(a:JK X pos ks vs ET):JK X pos (some k::ks) (v::vs) ((tk,tv)::ET):=yu hk.h hv.h a
theorem ZCZ{keys:List (Option Expr)}(h:JK X pos keys values ET)(KA:keys.all (·.isSome)=true)(i:keys.length=values.length)(k:keys≠[])(SG:keys.length<=15):QE X (.Dict keys values pos) (Uz ET):=⟨by
 intro Zi s Z H Q I q;have hn:=I.AI.fresh (Ad s.heap.objs.size);have l:=I.laid (a:=s.heap.objs.size) (o:=.dK []) (h':=s.heap.push { cls:=.type "dict", data:=.dict #[] }) (t':=s.toks) (λ_ _ q=>B7 _ q) (Ad _) (Zb s.heap I.big);refine wpAny_Dict_walk (knd:=Bl X.prog X.w) KA i k SG (AN (h Zi _ Z _ _ l (q _ hn)) λws s2⟨ps,H2,I2,rel,e,kvs,ep,m,q2⟩=>?_);subst ep;obtain⟨rs,c,b⟩:=jL (P:=X.prog) (w:=X.w) rel;obtain⟨z,hd,DP,d,dd⟩:=WJ I2.AI e;cases d;refine⟨rs,c,dd,λh' HV g=>⟨.ref s.heap.objs.size,_,?_,rfl,q2⟩⟩;have f:(JP [] kvs).length<=sizeLine:=by
  have h1:=fw kvs [];rw[SV]at h1;rw[sizeLine_eq];omega
 have j:∃q,h'.get? s.heap.objs.size=some q:=let ⟨q,_,_,hq,_⟩:=HV;⟨q,hq⟩;exact QN I2 (by rw[e];exact True.intro) g j (Uk f hd (b.merge .nil) HV)⟩
end
theorem ir:∀(more acc:List (Key×V)),((acc++more).map (·.1)).Nodup->JP acc more=acc++more
 | [],acc,_=>by rw[FC];rfl
 |p::r,acc,h=>by
  show JP (putK acc p.1 p.2) r=_;have c:acc.any (λa=>decide (a.1=p.1))=false:=by
   rw[ZD7];intro q b e;have d:=lg e;rw[Dp,Bh,Bx]at h;exact h.2.2 q.1 (List.mem_map.mpr ⟨q,b,rfl⟩) p.1 CJ d
  have e:putK acc p.1 p.2=acc++[p]:=by
   unfold putK;rw[c];rfl
  rw[e,ir r (acc++[p]) (by rw[BV];exact h),BV];rfl
end L2
namespace Fz
open L2 Lw
variable{ss:List Slot}{Z:L2.St}{F H:Hp}{C a aL aS b dx p:Addr}{ta:TA}{Q:VK}{te:TE}{i j n:Nat}{t u w y z:OV}{pre:Pre}{ls m:List Lp}{nx:List Slot->Prop}{x:Str}{us:List OV}{N ns:List Str}{d d':AY}{l:Lp}{α:Type}
section
variable[Xw]
theorem rP{E:Ent0}{F1 H1:Hp}{o:HO}(S:Sg E ss Z F H)(m:Mv E ss Z F H F1 H1)(b:H p=none)(d:F1 p=none):Mv E ss Z F H F1 (upd H1 p o):=
 S.step m.ff (λa u e=>by rw[Ab (by rintro rfl;rw[d]at e;cases e)];exact m.st.fh a u e)
  (λa u n e=>by rw[Ab (by rintro rfl;rw[b]at e;cases e)];exact m.hh a u n e) m.nn
  λi l hi e=>BU.keep (m.st.EF hi e) λu f=>by
   rw[Ab (by
    rintro rfl;obtain⟨_,_,c,_⟩:=S.EF hi e;rw[b]at c;cases c)]
   exact f
theorem vw{k:List Nat->OV->Prop}{E:Ent}(ks:List Str)(hk:ks.Nodup)(SG:ks.length<=15)(S:Sg E ss Z F H)(d:H p=none)
  (h:Lb ss ta λm us=>us.length=ks.length/\∀l,k m (.nd (.AL (ks.map Sum.inr)) l us))
  (q:∀v m u F' H',Mv E ss Z F H F' H'->B4 F' H' v u->u.addrs.Nodup->(∀a∈u.addrs,F' a=none/\E.H0 a=none/\((∃i∈m,∃s,s≠Slot.AF/\ss[i]?=some s/\BK s Z[i]? a)∨H a=none))->k m u->Q v H') :
  ta Z (upd H p (.dK [])) λvs H2=>H2 p=some (.dK [])/\∃kvs:List (Key×V),List.zipWith (λs v=>(V.str s,v)) ks vs=kvs.map (λg=>(kV g.1,g.2))/\kvs.length<=15/\Q (.ref p) (upd H2 p (.dK (JP [] kvs))):=by
 have r:=S.make d (.dK []);have A:F p=none:=S.Bd d;refine h.go E Z F _ _ r.st λvs m us F1 H1 j n GY x⟨D,kk⟩=>?_;have J:H1 p=some (.dK []):=j.hh p _ (S.NQ d) AO;have t:F1 p=none:=by
  cases e:F1 p with
  |none=>rfl
  |some o=>
   rcases j.nn p o e with z|z
   .rw[A]at z;cases z
   .rw[AO]at z;cases z
 have B:vs.length=ks.length:=by rw[n.length,D]
 have I:List.zipWith (λs v=>(V.str s,v)) ks vs=((ks.map Sum.inr).zip vs:List (Key×V)).map (λg=>(kV g.1,g.2)):=by
  rw[List.zip_eq_zipWith,List.zipWith_map_left,List.map_zipWith];rfl
 refine⟨J,(ks.map Sum.inr).zip vs,I,by rw[Mo,AW];omega,?_⟩;have nk:((ks.map Sum.inr:List Key)).Nodup:=ZD5 _ (λa b(h:a≠b)=>λz=>h (by injection z)) hk;rw[ir _ [] (by rw[SX,ZDI (by rw[AW];omega)];exact nk),SX];have mv:=rP (o:=.dK ((ks.map Sum.inr).zip vs)) S (r.trans j) d t;have y:p∉OV.Ag us:=λha=>by
  rcases(x p ha).2.2 with⟨i,_,s,_,C,ow⟩|z
  .exact S.DR C ow d
  .rw[AO]at z;cases z
 refine q _ m (.nd (.AL (ks.map Sum.inr)) p us) F1 _ mv (.nd (k:=.AL (ks.map Sum.inr)) (vs:=vs) AO trivial (show(List.map Sum.inr ks:List Key).length=vs.length by rw[AW];exact B.symm) (n.mono (A8.refl _) λa ha o e=>by rw[Ab (by rintro rfl;exact y ha)];exact e)) ?_ (λa ha=>?_) (kk p)
 .rw[OV.Cm];exact List.nodup_cons.mpr ⟨y,GY⟩
 .rw[OV.Cm]at ha;rcases List.mem_cons.mp ha with e|ha
  .subst e;exact⟨t,S.ES d,.inr d⟩
  .obtain⟨f,G,w⟩:=x a ha;exact⟨f,G,w.imp id λz=>by
    by_cases c:a=p
    .subst c;exact d
    .rw[Ab c]at z;exact z⟩
theorem ZAz{k:List Nat->OV->Prop}{k1 b a k4:Str}{f e d c:TE}(hk:[k1,b,a,k4].Nodup)(h:Lb ss (Al f (Al e (Al d (Al c BO)))) λm us=>us.length=4/\∀l,k m (.nd (.AL [.inr k1,.inr b,.inr a,.inr k4]) l us)):Wx ss (Uz [(tC (.str k1),f),(tC (.str b),e),(tC (.str a),d),(tC (.str k4),c)]) k:=⟨λE Z F H Q S q p g=>
 vw (ta:=Al f (Al e (Al d (Al c BO)))) [k1,b,a,k4] hk (by show(_:Nat)+1<=15;simp) S g h q⟩
theorem ZG{m:Str}{k:PV->Prop}(h:Wl ss i t te λ_ u=>∃dx ns a us,u=.nd (.obj C dx ns) a us/\Cj ns m=none/\Wb ss ta λps=>∃k',pre ((u.pv::ps).map .is) (.is k')/\∀p,k' p->Fl p=true/\k p):Wp ss (KR C m (CG pre) [] E0 te ta) k:=⟨λE Z F H Q S q=>
 h.go E Z F H _ S λv p u F1 H1 c d B3⟨dx,ns,a,us,n,l,h2⟩=>by
  subst n;have w:=d;cases w with
  |@nd _ _ vs _ ha x z y=>
   refine⟨a,dx,ns.zip vs,rfl,ha,R3 l,h2.go E Z F1 H1 _ c.st λvs ps F2 H2 b g⟨k',j,kk⟩=>?_⟩;rw[FC];have e:=d.mv c.st h.hi B3 b;have s:AS (CO F2 H2 (Cz ss Z)) (V.ref a::vs) (_::ps):=.cons (e.rep b.st.Q3.1 λa ha o ho=>by
    unfold CO;obtain⟨lt,hi⟩:=h.hi;rw[kz (fu b.st.len hi (by simp) (OV.IS B3 a ha))];exact ho) g
   refine⟨_,.is k',_,[],j,b.st.lend s,λv F' H' f⟨p,r,kp⟩=>?_⟩;obtain⟨mv,nt⟩:=b.st.pK f;exact q v p _ H' (c.trans (b.trans mv)) (r.sub nt (kk p kp).1) (kk p kp).2⟩
theorem gZ{R:Ai}(h:Wl ss i t te λ_ u=>∃nk a us,u=.nd nk a us/\nx (ss.set j (.raw (ptr a)))):Ws ss (G9 te (Dr j)) nx R:=⟨λE D Z F H S hn d=>
 h.go E Z F H _ S λv p u F1 H1 b r B3 AJ=>by
  obtain⟨nk,a,us,c,kk⟩:=AJ;subst c;cases r;exact hn _ _ F1 H1 kk (b.st.setG ⟨_,rfl,rfl,λ_ _ _ h=>h⟩ λ_ z=>by cases z) b.ff⟩
end
theorem PJ{k:NK}{x:OV}:(OV.nd k a [x,y,z]).put [1] w=.nd k a [x,w,z]:=by rw[OV.GU (x:=y) rfl,OV.DN];rfl
theorem put2{k:NK}{x:OV}:(OV.nd k a [x,y,z]).put [2] w=.nd k a [x,y,w]:=by rw[OV.GU (x:=z) rfl,OV.DN];rfl
theorem Xi{k k':NK}{x:OV}(h:us[n]?=some u):(OV.nd k a [x,y,.nd k' b us]).put [2,n] w=.nd k a [x,y,.nd k' b (us.set n w)]:=by rw[OV.GU (x:=.nd k' b us) rfl,OV.GU h,OV.DN];rfl
theorem W0{k k':NK}{x:OV}(h:us[n]?=some u):(OV.nd k a [x,y,.nd k' b us]).at [2,n]=some u:=by
 rw[OV.at];show OV.at (.nd k' b us) [n]=some u;rw[OV.at,h];exact OV.Hs
theorem Qc{vs:List V}{X:XK}{t:TS}(h:Bj pre vs H Q X)(b:∀ss R,pre ss R->ss.length=n)
  (hw:∀ss R,pre ss R->Ws (ss++List.replicate (N.length - n) .any) t (Oz R) R):t { nx:=λ_ H'=>Q .A7 H',rt:=Q } (L2.start N vs) H:=by
 obtain⟨ss,R,F,A,B,a,S,q⟩:=h;have e:vs.length=n:=by have:=S.len;rw[AW]at this;rw[<- this];exact b ss R a
 unfold L2.start;rw[e];exact(hw ss R a).go (NT ⟨A,F,H,B⟩) _ _ F H (S.grown _) (λAG σ' F' H' z S' _=>q .A7 F' H' S'.toFin (z.ok S')) λv F' H' f ok=>q v F' H' f ok
structure Sm where
 stood:Nat
 joined:Nat
 told:Nat
 taken:Nat
structure Ls where
 row:List Str
 ln:List Str
 ll:List Lp
 sn:List Str
 sq:List Sm
variable{s s':Ls}
inductive LE where
 |EW (x r:Str)|tell (x y:Str)|over (x:Str)|DX (d:FK)
variable{e:LE}{es:List LE}
def LE.P:LE->PV
 | .EW x r=>.tup [.str "begin",.str x,.str r]
 | .tell x y=>.tup [.str "tell",.str x,.str y]
 | .over x=>.tup [.str "over",.str x]
 | .DX d=>aP d
def LE.say:LE->Prop
 | .EW x r=>EK x/\EK r
 | .tell x y=>EK x/\EK y
 | .over x=>EK x
 | .DX d=>d.say
noncomputable def OW(ns:List Str)(d:FK):Option AY:=open Classical in if h:∃d',d.Is ns d' then some h.choose else none
theorem j8{d:FK}(h:d.Is ns d'):OW ns d=some d':=by
 have e:∃d',d.Is ns d':=⟨d',h⟩;unfold OW;rw[dif_pos e];exact oW some (ZAD (e.choose_spec.1.symm.trans h.1))
theorem VI{d:FK}(h:OW ns d=some d'):d.Is ns d':=by
 unfold OW at h;split at h
 .next e=>cases h;exact e.choose_spec
 .cases h
theorem fb{d e:FK}(h:aP d=aP e):d=e:=by
 cases d <;> cases e <;> simp[aP]at h <;> first|(exact absurd h.1 Pt)|(exact absurd h.1.symm Pt)|(obtain⟨a,b⟩:=h;subst a;subst b;rfl)|(subst h;rfl)
noncomputable def Sm.join(q:Sm):Sm:=⟨q.stood,q.joined+1,q.told,q.taken⟩
noncomputable def Sm.tell(q:Sm):Sm:=⟨q.stood,q.joined,q.told+1,q.taken⟩
noncomputable def Sm.take(q:Sm):Sm:=⟨q.stood,q.joined,q.told,q.taken+1⟩
def Sm.by(n m:Nat):Sm->Sm:=if n<m then Sm.join else if m<n then Sm.take else id
def Cf(s:Ls)(d:AY):Nat->List Sm
 | 0=>s.sq
 |i+1=>match s.ln[i]?,s.ll[i]? with
  |some x,some l=>(Cf s d i).modify (s.sn.idxOf x) (Sm.by l.cs.length (l.led s.row d).cs.length)
  |_,_=>Cf s d i
noncomputable def Bz(s:Ls)(d:AY)(i:Nat):List Lp:=(s.ll.take i).map (Lp.led s.row d)++s.ll.drop i
def E5(s:Ls)(x r:Str):Option Ls:=if isNm x=true/\x∉s.sn/\Xn r=true then some ⟨s.row,s.ln++[x],s.ll++[⟨r,0,Eh s.row⟩],s.sn++[x],s.sq++[⟨s.row.length,0,0,0⟩]⟩else none
def Dm(s:Ls)(x y:Str):Option Ls:=match s.ll[s.ln.idxOf x]? with
 |some l=>if y∈l.cs then some ⟨s.row,s.ln,s.ll.set (s.ln.idxOf x) ⟨l.r,s.row.idxOf y+1,wo l.cs y⟩,s.sn,s.sq.modify (s.sn.idxOf x) Sm.tell⟩else none
 |none=>none
noncomputable def Du(s:Ls)(x:Str):Option Ls:=match s.ll[s.ln.idxOf x]? with
 |some l=>if l.cs=[]then some ⟨s.row,s.ln.eraseIdx (s.ln.idxOf x),s.ll.eraseIdx (s.ln.idxOf x),s.sn,s.sq⟩else none
 |none=>none
noncomputable def En(s:Ls)(d:FK):Option Ls:=match OW s.row d with
 |some d'=>some ⟨d'.done s.row,s.ln,s.ll.map (Lp.led s.row d'),s.sn,Cf s d' s.ln.length⟩
 |none=>none
noncomputable def Ed(s:Ls):LE->Option Ls
 | .EW x r=>E5 s x r
 | .tell x y=>Dm s x y
 | .over x=>Du s x
 | .DX d=>En s d
structure Ls.Ok (s:Ls):Prop where
 row:G7 40 s.row
 l1:s.ln.length=s.ll.length
 l2:s.sn.length=s.sq.length
 n1:s.ln.Nodup
 n2:s.sn.Nodup
 sub:∀x∈s.ln,x∈s.sn
 good:∀l∈s.ll,l.Good s.row
 nm:∀x∈s.sn,Nm x
theorem S6(s:Ls)(d:AY):∀i,(Cf s d i).length=s.sq.length
 | 0=>rfl
 |i+1=>by
  unfold Cf;split
  .rw[List.length_modify,S6]
  .exact S6 s d i
theorem fK(s:Ls)(d:AY):Bz s d s.ll.length=s.ll.map (Lp.led s.row d):=by
 unfold Bz;rw[KG,List.drop_length,FC]
theorem Ig(s:Ls)(d:AY)(i:Nat):(Bz s d i).length=s.ll.length:=by
 unfold Bz;rw[C0,AW,CI,GG];omega
theorem XF(h:s.ll[i]?=some l):(Bz s d i)[i]?=some l:=by
 have hi:=(List.getElem?_eq_some_iff.mp h).1;unfold Bz;rw[Fj (by rw[AW,CI];omega),AW,CI,List.getElem?_drop];rw[show i+(i - min i s.ll.length)=i by omega];exact h
theorem VE(h:s.ll[i]?=some l):(Bz s d i).set i (l.led s.row d)=Bz s d (i+1):=by
 obtain⟨hi,e⟩:=List.getElem?_eq_some_iff.mp h;unfold Bz;rw[List.set_append_right _ _ (by rw[AW,CI];omega),AW,CI,show i - min i s.ll.length=0 by omega,jW hi,Yy,Mp hi,Dp,BV,e];rfl
theorem E9{l:List Str}(h:x∈l):l[l.idxOf x]?=some x:=by
 rw[Am (List.idxOf_lt_length_iff.mpr h),SU]
theorem UW{l:List Str}{a:Lp}(b:l.length=m.length)(h:m[l.idxOf x]?=some a):x∈l:=by
 have:=(List.getElem?_eq_some_iff.mp h).1;exact List.idxOf_lt_length_iff.mp (by omega)
theorem Ls.Ok.step(h:s.Ok)(g:Ed s e=some s'):s'.Ok:=by
 cases e with
 |EW x r=>
  have g:E5 s x r=some s':=g;unfold E5 at g;split at g
  .next c=>
   cases g;obtain⟨o,j,n⟩:=c;refine⟨h.row,by simp[h.l1],by simp[h.l2],?_,?_,?_,?_,?_⟩
   .exact M5 h.n1 λz=>j (h.sub x z)
   .exact M5 h.n2 j
   .intro y a;rcases List.mem_append.mp a with z|z
    .exact List.mem_append.mpr (.inl (h.sub y z))
    .exact List.mem_append.mpr (.inr z)
   .intro l f;rcases List.mem_append.mp f with z|z
    .exact h.good l z
    .rw[List.mem_singleton.mp z];exact⟨lg n,Int.le_refl _,ZD4 _,X2 h.row.nd,λy a=>Nw.mp a⟩
   .intro y a;rcases List.mem_append.mp a with z|z
    .exact h.nm y z
    .rw[List.mem_singleton.mp z];exact rO o
  .cases g
 |tell x y=>
  have g:Dm s x y=some s':=g;unfold Dm at g;split at g
  .next l e=>
   split at g
   .next c=>
    cases g;have i:=h.good l (Cq e);refine⟨h.row,by simp[h.l1],by simp[h.l2],h.n1,h.n2,h.sub,?_,h.nm⟩;intro b Dj;rcases List.mem_or_eq_of_mem_set Dj with z|z
    .exact h.good b z
    .rw[z];exact Lw.DG.step i (i.sub y c)
   .cases g
  .cases g
 |over x=>
  have g:Du s x=some s':=g;unfold Du at g;split at g
  .next l e=>
   split at g
   .next c=>
    cases g;have hi:=(List.getElem?_eq_some_iff.mp e).1;refine⟨h.row,?_,h.l2,List.Nodup.sublist (KD _ _) h.n1,h.n2,λy a=>h.sub y ((KD _ _).subset a),λb Dj=>h.good b ((KD _ _).subset Dj),h.nm⟩;have h1:=h.l1;show(s.ln.eraseIdx _).length=(s.ll.eraseIdx _).length;rw[Oi (by omega),Oi hi,h1]
   .cases g
  .cases g
 |DX d=>
  have g:En s d=some s':=g;unfold En at g;split at g
  .next d' e=>
   cases g;have ok:=(VI e).2;refine⟨h.row.done ok,by simp[h.l1],by rw[S6];exact h.l2,h.n1,h.n2,h.sub,?_,h.nm⟩;intro l f;obtain⟨k,m,rfl⟩:=List.mem_map.mp f;exact Lw.DG.led (h.good k m) ok h.row.nd
  .cases g
def R2(P:OV->Sm->Prop)(us:List OV)(a:List Sm):Prop:=us.length=a.length/\∀(n:Nat)u q,us[n]?=some u->a[n]?=some q->P u q
theorem R2.nil{P:OV->Sm->Prop}:R2 P [] []:=⟨rfl,λn u q h=>by cases h⟩
theorem R2.snoc{P:OV->Sm->Prop}{b:List Sm}{q:Sm}(h:R2 P us b)(d:P u q):R2 P (us++[u]) (b++[q]):=by
 refine⟨by simp[h.1],λn v p hv a=>?_⟩;have e:=h.1
 by_cases c:n<us.length
 .rw[EN c]at hv;rw[EN (by omega)]at a;exact h.2 n v p hv a
 .have h1:=(List.getElem?_eq_some_iff.mp hv).1;simp at h1;have:n=us.length:=by omega
  subst this;rw[Fj (Ad _),Sa]at hv;rw[Fj (by omega),show us.length - b.length=0 by omega]at a;cases hv;cases a;exact d
theorem R2.set{P:OV->Sm->Prop}{b:List Sm}{f:Sm->Sm}(h:R2 P us b)(d:∀q,b[n]?=some q->P u (f q)):R2 P (us.set n u) (b.modify n f):=by
 refine⟨by simp[h.1],λm v p hv a=>?_⟩
 by_cases c:n=m
 .subst c;have h1:=(List.getElem?_eq_some_iff.mp hv).1;rw[Hw]at h1;rw[CH h1]at hv;rw[jb]at a;cases e:b[n]? with
  |none=>rw[e]at a;cases a
  |some q=>rw[e]at a;cases a;cases hv;exact d q e
 .rw[C4 c]at hv;rw[jc _ _ c]at a;exact h.2 m v p hv a
theorem R2.get{P:OV->Sm->Prop}{us:List OV}{a:List Sm}{n:Nat}{q:Sm}(h:R2 P us a)(b:a[n]?=some q):∃u,us[n]?=some u/\P u q:=by
 have h1:=(List.getElem?_eq_some_iff.mp b).1;have c:=h.1;exact⟨us[n],Am (by omega),h.2 n _ q (Am (by omega)) b⟩
noncomputable def JI(q:Sm):List PV:=[.int q.stood,.int q.joined,.int q.told,.int q.taken]
noncomputable def AR(ns:List Str):List Key:=ns.map Sum.inr
def BY(ll:List Lp):List OV:=ll.map λl=>.fz l.P
def Ng(T:Addr)(u:OV)(q:Sm):Prop:=∃e b,u=.nd (.obj T e ["stood","joined","told","taken"]) b ((JI q).map .fz)
noncomputable def GD:List Str:=["standing","running","tallies"]
def BR(s:Ls)(C a dx aL aS:Addr)(us:List OV):OV:=.nd (.obj C dx GD) a [.fz (.lst (s.row.map .str)),.nd (.AL (AR s.ln)) aL (BY s.ll),.nd (.AL (AR s.sn)) aS us]
def CY(s:Ls)(C T a:Addr)(t:OV):Prop:=∃dx aL aS us,R2 (Ng T) us s.sq/\t=BR s C a dx aL aS us
theorem JZ(ns:List Str)(x:Str):Em (AR ns) (.inr x)=decide (x∈ns):=by
 unfold Em AR;rw[List.any_map]
 by_cases h:x∈ns
 .rw[kc h];exact List.any_eq_true.mpr ⟨x,h,kc rfl⟩
 .rw[lx h];rw[Bool.eq_false_iff];intro z;obtain⟨y,b,e⟩:=List.any_eq_true.mp z;have a:(Sum.inr y:Key)=Sum.inr x:=lg e;injection a with a
  exact h (a▸b)
theorem Fy:∀{ns:List Str}{x:Str},x∈ns->C7 (AR ns) (.inr x)=some (ns.idxOf x)
 | [],_,h=>absurd h Au
 |y::ns,x,h=>by
  unfold AR;rw[Bh,C7,Yv]
  by_cases c:y=x
  .subst c;rw[kz rfl,show(y == y)=true from pI y];rfl
  .rw[km (λe=>c (by injection e)),show(y == x)=false from beq_eq_false_iff_ne.mpr c];have h1:C7 (ns.map λn:Str=>(Sum.inr n:Key)) (.inr x)=some (ns.idxOf x):=Fy ((List.mem_cons.mp h).resolve_left λz=>c z.symm);have a:C7 (ns.map (Sum.inr:Str->Key)) (.inr x)=some (ns.idxOf x):=h1;rw[a];rfl
theorem bA:∀{ns:List Str}{x:Str},x∉ns->C7 (AR ns) (.inr x)=none
 | [],_,_=>rfl
 |y::ns,x,h=>by
  unfold AR;rw[Bh,C7,km (λe=>h (by injection e with e;subst e;exact CJ))]
  have h1:C7 (ns.map (Sum.inr:Str->Key)) (.inr x)=none:=bA (ns:=ns) λz=>h (Ca _ z);rw[h1];rfl
theorem HF(h:ns.Nodup):(AR ns).Nodup:=ZD5 _ (λa b(h:a≠b)=>λz=>h (by injection z)) h
theorem cK(h:x∉ns):DZ (AR ns) (.inr x)=AR (ns++[x])/\FR (AR ns) us (.inr x) u=us++[u]:=by
 unfold FR DZ;rw[bA h,JZ,lx h];exact⟨by unfold AR;rw[Dp];rfl,rfl⟩
theorem bw(h:x∈ns):DZ (AR ns) (.inr x)=AR ns/\FR (AR ns) us (.inr x) u=us.set (ns.idxOf x) u:=by
 unfold FR DZ;rw[Fy h,JZ,kc h];exact⟨rfl,rfl⟩
theorem Pj(h:x∈ns):DZ (AR ns) (.inr x)=AR ns:=(bw (us:=[]) (u:=.fz .A7) h).1
theorem Qz(h:x∈ns):FR (AR ns) us (.inr x) u=us.set (ns.idxOf x) u:=(bw h).2
theorem ML(h:x∉ns):DZ (AR ns) (.inr x)=AR (ns++[x]):=(cK (us:=[]) (u:=.fz .A7) h).1
theorem Uy(h:x∉ns):FR (AR ns) us (.inr x) u=us++[u]:=(cK h).2
theorem W4(ns:List Str)(i:Nat):(AR ns).eraseIdx i=AR (ns.eraseIdx i):=by
 unfold AR
 induction ns generalizing i with
 |nil=>rfl
 |cons x ns a=>cases i with
  |zero=>rfl
  |succ i=>rw[Bh,Hv,Hv,Bh,a]
theorem Zc(ls:List Lp)(i:Nat):(BY ls).eraseIdx i=BY (ls.eraseIdx i):=by
 unfold BY
 induction ls generalizing i with
 |nil=>rfl
 |cons x ns a=>cases i with
  |zero=>rfl
  |succ i=>rw[Bh,Hv,Hv,Bh,a]
theorem Q9(ls:List Lp)(i:Nat)(l:Lp):(BY ls).set i (.fz l.P)=BY (ls.set i l):=by unfold BY;rw[List.map_set]
theorem QQ(h:ls[i]?=some l):(BY ls)[i]?=some (.fz l.P):=by unfold BY;rw[B1,h];rfl
theorem Sj{y:PV}:∀{ns:List Str}{xs:List PV}{x:Str},x∈ns->xs[ns.idxOf x]?=some y->KH (AR ns) xs (.inr x)=some y
 | [],_,_,h,_=>absurd h Au
 |z::ns,xs,x,h,e=>by
  rw[Yv]at e;unfold AR
  by_cases c:z=x
  .subst c;rw[show(z == z)=true from pI z]at e;cases xs with
   |nil=>cases e
   |cons w ws=>rw[Bh,KH,kz rfl];exact e
  .rw[show(z == x)=false from beq_eq_false_iff_ne.mpr c]at e;cases xs with
   |nil=>cases e
   |cons w ws=>
    rw[Bh,KH,km (λq=>c (by injection q))];exact Sj ((List.mem_cons.mp h).resolve_left λq=>c q.symm) e
theorem Qv:∀us:List OV,OV.CT us=us.map OV.pv
 | []=>by rw[OV.CT];rfl
 |u::us=>by rw[OV.CT,Qv us];rfl
theorem aQ(ll:List Lp):OV.CT (BY ll)=ll.map Lp.P:=by
 have:=Vu (ll.map Lp.P);rw[FD]at this;exact this
theorem j5(hx:s.ln[i]?=some x)(a:s.ll[i]?=some l):Cf s d (i+1)=(Cf s d i).modify (s.sn.idxOf x) (Sm.by l.cs.length (l.led s.row d).cs.length):=by
 rw[Cf,hx,a]
theorem ZCV(ok:s.Ok)(hx:x∈s.sn):∃q,(Cf s d i)[s.sn.idxOf x]?=some q:=by
 have h1:=List.idxOf_lt_length_iff.mpr hx;have h2:=ok.l2;exact⟨_,Am (by rw[S6];omega)⟩
theorem ZAw(l:List α)(n:Nat):l.modify n id=l:=by
 apply Yr;intro k;rw[List.getElem?_modify];cases l[k]? with
 |none=>rfl
 |some x=>by_cases c:n=k <;> simp[c]
theorem ux(ns:List Str):Fl (.tup (ns.map .str))=true:=by
 rw[Fl]
 induction ns with
 |nil=>rfl
 |cons x ns a=>rw[Bh,Nx,a];rfl
noncomputable def NO(tp:Bool)(xs:List PV):PV:=if tp=true then .tup xs else .lst xs
def N5(T:Ls->OV->Prop)(s:Ls)(o:Option Ls)(p:PV)(t':OV):Prop:=(∃s',o=some s'/\p=.bl true/\T s' t')∨(o=none/\p=.bl false/\T s t')
noncomputable def An(s:Ls)(x:Str):List Str:=match s.ll[s.ln.idxOf x]? with
 |some l=>l.cs
 |none=>[]
def O4(C:Addr)(s:Ls)(xs:List PV):PV:=.obj C GD [.lst (s.row.map .str),.AL (AR s.ln) (s.ll.map Lp.P),.AL (AR s.sn) xs]
theorem U3:(BR s C a dx aL aS us).pv=O4 C s (us.map OV.pv):=by
 unfold BR O4;rw[OV.pv,OV.CT,OV.CT,OV.CT,OV.CT,OV.pv,OV.pv,OV.pv,aQ,Qv]
theorem Fx(nd:s.ln.Nodup)(hx:s.ln[i]?=some x)(a:s.ll[i]?=some l):An s x=l.cs:=by
 unfold An;rw[IZ nd hx,a]
def YL(T:Addr):Pre:=λl R=>∃(a dx:Addr)(n:Nat),l=[.ow true (.nd (.obj T dx []) a []),.is (.int n)]/\R=.mt λp t'=>p=.A7/\t'=.nd (.obj T dx ["stood","joined","told","taken"]) a ((JI ⟨n,0,0,0⟩).map .fz)
def Xb(C T:Addr):Pre:=λl R=>∃(a dx:Addr)(tp:Bool)(ns:List Str),l=[.ow true (.nd (.obj C dx []) a []),.is (NO tp (ns.map .str))]/\R=.mt λp t'=>p=.A7/\∃aL aS,t'=BR ⟨ns,[],[],[],[]⟩ C a dx aL aS []
def Kb(C:Addr):Pre:=λl R=>∃(s:Ls)(xs:List PV)(x:Str),l=[.is (O4 C s xs),.is (.str x)]/\s.ln.length=s.ll.length/\R=.is λp=>p=.tup ((An s x).map .str)
def V6(C T:Addr):Pre:=λl R=>∃(s:Ls)(a:Addr)(t:OV)(x r:Str),l=[.ow true t,.is (.str x),.is (.str r)]/\CY s C T a t/\s.Ok/\EK x/\EK r/\s.sn.length<=1000/\R=.mt (N5 (λs t=>CY s C T a t) s (E5 s x r))
def Ye(C T:Addr):Pre:=λl R=>∃(s:Ls)(a:Addr)(t:OV)(x y:Str),l=[.ow true t,.is (.str x),.is (.str y)]/\CY s C T a t/\s.Ok/\s.sn.length<=1000/\R=.mt (N5 (λs t=>CY s C T a t) s (Dm s x y))
def Xl(C T:Addr):Pre:=λl R=>∃(s:Ls)(a:Addr)(t:OV)(x:Str),l=[.ow true t,.is (.str x)]/\CY s C T a t/\s.Ok/\R=.mt (N5 (λs t=>CY s C T a t) s (Du s x))
def EH(s:Ls)(d:AY)(i:Nat):Ls:=⟨s.row,s.ln,Bz s d i,s.sn,Cf s d i⟩
def Y2(C T:Addr):Pre:=λl R=>∃(s:Ls)(a:Addr)(t:OV)(d:AY)(i:Nat)(x:Str),l=[.ow true t,.is (.str x),.is (dP d)]/\CY (EH s d i) C T a t/\s.Ok/\s.ln[i]?=some x/\d.Ok 40 s.row/\(∀x,d=.take x∨(∃i,d=.move x i)->EK x)/\s.sn.length<=1000/\R=.mt λp t'=>p=.A7/\CY (EH s d (i+1)) C T a t'
def TF(C T:Addr):Pre:=λl R=>∃(s:Ls)(xs:List PV)(x:Str)(q:Sm),l=[.is (O4 C s xs),.is (.str x)]/\s.ln.length=s.ll.length/\x∈s.sn/\xs[s.sn.idxOf x]?=some (.obj T ["stood","joined","told","taken"] (JI q))/\R=.is λp=>p=.tup (JI q++[.int (An s x).length])
noncomputable def runs(s:Ls):List LE->Option Ls
 | []=>some s
 |e::r=>match Ed s e with
  |some s'=>runs s' r
  |none=>none
def BS(ns:List Str):Ls:=⟨ns,[],[],[],[]⟩
def ke(ns:List Str)(es:List LE)(i:Nat):Prop:=∃s e,runs (BS ns) (es.take i)=some s/\es[i]?=some e/\Ed s e=none
theorem MX(h:G7 40 ns):(BS ns).Ok:=⟨h,rfl,rfl,LP,LP,λx hx=>absurd hx Au,λx hx=>absurd hx Au,λx hx=>absurd hx Au⟩
theorem N8:∀{s s':Ls},s.Ok->runs s es=some s'->s'.Ok:=by
 induction es with
 |nil=>intro s s' h e;rw[runs]at e;cases e;exact h
 |cons x es a=>
  intro s s' h e;rw[runs]at e;split at e
  .next s1 e1=>exact a (h.step e1) e
  .cases e
theorem du{fs:List LE}:∀{s:Ls},runs s (es++fs)=(runs s es).bind λs'=>runs s' fs:=by
 induction es with
 |nil=>intro s;rfl
 |cons x es a=>
  intro s;rw[Yo,runs,runs];split
  .exact a
  .rfl
theorem P5(h:runs s es=some s'):runs s (es++[e])=Ed s' e:=by
 rw[du,h];show runs s' [e]=_;rw[runs];cases Ed s' e <;> rfl
theorem ko(h:ke ns es i):runs (BS ns) es≠some s:=λz=>by
 obtain⟨s1,e,h1,h2,a⟩:=h;obtain⟨hi,b⟩:=List.getElem?_eq_some_iff.mp h2;have c:es=es.take i++[e]++es.drop (i+1):=by
  rw[BV]
  conv=>lhs;rw[<- LQ i es,jW hi,b]
  rfl
 rw[c,du,P5 h1,a]at z;cases z
theorem sS(h:Ed s e=some s'):s'.sn.length<=s.sn.length+1:=by
 cases e with
 |EW x r=>
  have h:E5 s x r=some s':=h;unfold E5 at h;split at h
  .cases h;show(s.sn++[x]).length<=_;rw[C0];exact Ad _
  .cases h
 |tell x y=>
  have h:Dm s x y=some s':=h;unfold Dm at h;split at h
  .split at h
   .cases h;exact D6 _
   .cases h
  .cases h
 |over x=>
  have h:Du s x=some s':=h;unfold Du at h;split at h
  .split at h
   .cases h;exact D6 _
   .cases h
  .cases h
 |DX d=>
  have h:En s d=some s':=h;unfold En at h;split at h
  .cases h;exact D6 _
  .cases h
theorem Vh:∀{s s':Ls},runs s es=some s'->s'.sn.length<=s.sn.length+es.length:=by
 induction es with
 |nil=>intro s s' e;rw[runs]at e;cases e;exact Ad _
 |cons x es a=>
  intro s s' e;rw[runs]at e;split at e
  .next s1 e1=>have:=a e;have:=sS e1;rw[Bw];omega
  .cases e
def R7:Pre:=λl R=>∃(tp:Bool)(ns:List Str)(es:List LE)(s:Ls)(x:Str)(q:Sm),l=[.is (NO tp (ns.map .str)),.is (.lst (es.map LE.P)),.is (.str x)]/\G7 40 ns/\(∀e∈es,e.say)/\es.length<=200/\runs (BS ns) es=some s/\x∈s.sn/\s.sq[s.sn.idxOf x]?=some q/\R=.is λp=>p=.tup (JI q++[.int (An s x).length])
theorem CY.nd{s:Ls}{C T a:Addr}{t:OV}(h:CY s C T a t):∃nk us,t=.nd nk a us:=by
 obtain⟨dx,aL,aS,us,_,rfl⟩:=h;exact⟨_,_,rfl⟩
theorem jA(ns:List Str):(AR ns).map FZ=ns.map PV.str:=by
 unfold AR;rw[FD];rfl
section
variable[Xw]
theorem Ot{lt:Bool}{k:PV->OV->Prop}(hi:ss[i]?=some (.ow lt t))(h:Wm ss i lt t te λp t'=>(∃nk a us,t'=.nd nk a us)/\k p t'):Ws ss (Jm te) nx (.mt k):=⟨λE D Z F H S hn g=>
 h.go E Z F H _ S λv p t' F1 H1 d r AJ=>by
  obtain⟨⟨nk,a0,us,e⟩,kk⟩:=AJ;subst e;have j:i<ss.length:=(List.getElem?_eq_some_iff.mp hi).1;obtain⟨f,e0,b,Bq,c⟩:=d.st.ok i (.ow lt (.nd nk a0 us)) (by rw[CH j]);have l:f=.ref a0:=by cases b;rfl
  subst l;exact g v F1 H1 d.st.toFin ⟨p,.nd nk a0 us,r,b,Bq,λa ha=>⟨(c a ha).1,(c a ha).2.imp id λz=>z.2⟩,kk⟩⟩
theorem OG{lt:Bool}{K:ZEW}{k:List Nat->OV->Prop}(hi:ss[i]?=some (.ow lt (BR s C a dx aL aS us)))(b:Be K C)(na:BI K C "standing")(h:k ([]++[0]) (.fz (.lst (s.row.map .str)))):Wl ss i (BR s C a dx aL aS us) (Jx K (BP i) "standing") k:=W7 (Bv hi ⟨C,dx,GD,a,_,0,_,rfl,b,na,by decide +kernel,rfl,h⟩)
theorem JF{lt:Bool}{K:ZEW}{k:List Nat->OV->Prop}(hi:ss[i]?=some (.ow lt (BR s C a dx aL aS us)))(b:Be K C)(na:BI K C "running")(h:k ([]++[1]) (.nd (.AL (AR s.ln)) aL (BY s.ll))):Wl ss i (BR s C a dx aL aS us) (Jx K (BP i) "running") k:=W7 (Bv hi ⟨C,dx,GD,a,_,1,_,rfl,b,na,by decide +kernel,rfl,h⟩)
theorem NU{lt:Bool}{K:ZEW}{k:List Nat->OV->Prop}(hi:ss[i]?=some (.ow lt (BR s C a dx aL aS us)))(b:Be K C)(na:BI K C "tallies")(h:k ([]++[2]) (.nd (.AL (AR s.sn)) aS us)):Wl ss i (BR s C a dx aL aS us) (Jx K (BP i) "tallies") k:=W7 (Bv hi ⟨C,dx,GD,a,_,2,_,rfl,b,na,by decide +kernel,rfl,h⟩)
theorem Hz{lt:Bool}{k:Bool->List PV->Prop}(d:ss[0]?=some (.ow lt (BR s C a dx aL aS us)))(h1:ss[1]?=some (.is (.str x)))(c:s.ln.length=s.ll.length)(hk:k true ((An s x).map .str)):Wq ss (KR C "coming" (CG (Kb C)) [] E0 (BP 0) (Al (BP 1) BO)) k:=
 Cb (ZG (i:=0) (Bv d ⟨dx,GD,a,_,rfl,by decide +kernel,ZM (AK h1 (iz ⟨_,⟨s,_,x,oW (λp=>[Slot.is p,.is (.str x)]) U3,c,rfl⟩,λ_ b=>b▸⟨ux _,_,.inr ⟨rfl,hk⟩⟩⟩))⟩))
end
theorem xx{xs:List α}{lo hi:Option Int}{x:α}(h:x∈Qr xs lo hi):x∈xs:=ZDK (jl h)
theorem Ic(a:s.ln.length=s.ll.length)(h:x∉s.ln):An s x=[]:=by
 unfold An;rw[je h,a,JB (Ad _)]
theorem Nt(ok:s.Ok)(h:x∈s.ln):∃(i:Nat)(l:Lp),s.ln[i]?=some x/\s.ll[i]?=some l/\An s x=l.cs:=by
 have hi:=List.idxOf_lt_length_iff.mpr h;have l1:=ok.l1;refine⟨s.ln.idxOf x,s.ll[s.ln.idxOf x],E9 h,Am (by omega),?_⟩;exact Fx ok.n1 (E9 h) (Am (by omega))
theorem WX{s:Ls}{d:AY}(ok:s.Ok){j:Nat}{z:Str}(b:s.sn[j]?=some z):∀(n:Nat)(q:Sm),n<=s.ln.length->(Cf s d n)[j]?=some q->
  (∃i l a,i<n/\s.ln[i]?=some z/\s.ll[i]?=some l/\s.sq[j]?=some a/\q=Sm.by l.cs.length (l.led s.row d).cs.length a)∨((∀i,i<n->s.ln[i]?≠some z)/\s.sq[j]?=some q)
 | 0,q,_,h=>.inr ⟨λi hi=>by omega,h⟩
 |n+1,q,hn,h=>by
  have l1:=ok.l1;have ex:=Am (l:=s.ln) (i:=n) (by omega);have f:=Am (l:=s.ll) (i:=n) (by omega);generalize s.ln[n]=x at ex;generalize s.ll[n]=l at f;rw[j5 ex f]at h
  by_cases c:s.sn.idxOf x=j
  .have k:x=z:=by
    have:=E9 (ok.sub x (Cq ex));rw[c,b]at this;exact(BE this).symm
   subst k;rw[c,jb]at h;obtain⟨g,h',t⟩:=Option.map_eq_some_iff.mp h;rcases WX ok b n g (by omega) h' with⟨i,_,_,hi,hx,_⟩|⟨_,h2⟩
   .obtain⟨w,p⟩:=List.getElem?_eq_some_iff.mp hx;obtain⟨v,o⟩:=List.getElem?_eq_some_iff.mp ex;have:=(Mm ok.n1).mp (p.trans o.symm);omega
   .exact .inl ⟨n,l,g,by omega,ex,f,h2,t.symm⟩
  .rw[jc _ _ c]at h;rcases WX ok b n q (by omega) h with⟨i,m,a,hi,r⟩|⟨h1,h2⟩
   .exact .inl ⟨i,m,a,by omega,r⟩
   .refine .inr ⟨λi hi e=>?_,h2⟩
    by_cases u:i=n
    .subst u;rw[ex]at e;cases e;exact c (IZ ok.n2 b)
    .exact h1 i (by omega) e
theorem tH:∀x y:Int,PV.int x=PV.int y->x=y:=λ_ _ e=>by injection e
end Fz
namespace L2
section
variable{X:Cx}
def Zk(K:ZEW)(t:TA):TE:=λZ H Q=>t Z H λvs H1=>∃a tp ys,vs=[.ref a]/\CS K tp H1 a ys/\tp=false/\∀l,H1 l=none->Q (.ref l) (upd H1 l (.lst ys.reverse))
theorem sF{y p2 Na IU:Pos}{e:Expr}{t:TA}(C:X.calm=true)(Sz:Gl X "list")(JU:X.mg "list"=none)(VZ:Gl X "reversed")(Qt:X.mg "reversed"=none)(ha:QA X [e] t)
  (B:starEach [e] X.env=[(false,eval e X.env)]:=by rfl) (JR:starEach [.Call (.Name "reversed" p2) [e] [] IU] X.env=[(false,eval (.Call (.Name "reversed" p2) [e] [] IU) X.env)]:=by rfl) :
  QE X (.Call (.Name "list" y) [.Call (.Name "reversed" p2) [e] [] IU] [] Na) (Zk X.K t):=⟨by
 have ha:=ha.h;intro Zi s Z H Q I h;refine pO (J6 I Sz JU (show bootBuiltins "list"=some (.type "list") by decide +kernel) ?_ (by decide) (by decide));refine LV ?_ JR rfl;rw[JR];show wpAny _ _ (spliced ((false,eval (.Call (.Name "reversed" p2) [e] [] IU) X.env)::[])) _ _ s;refine Yi ?_;refine pO (J6 I VZ Qt (show bootBuiltins "reversed"=some (.type "reversed") by decide +kernel) ?_ (by decide) (by decide));refine LV (AN (ha IU Zi s Z H _ I h) λus s1⟨vs,H1,I1,x,q1⟩=>?_) B rfl;obtain⟨a,tp,ys,rfl,z,rfl,q⟩:=q1;obtain⟨u,rfl,m⟩:=vals1 x;cases m;have j:∀(A3:List Value)(D:Addr)(s2 s':Shared)(acc:Array Value)(c:Nat)(tk:Nat)(ob:Obj),Vals ys A3->ys.length<=sizeLine->D=s1.heap.objs.size->s2={ s1 with heap:=s1.heap.push ob,toks:=tk }->
   Moved [s2.heap.objs.size,D] (λa b=>b=a) { s2 with heap:=s2.heap.push { cls:=.type "list", data:=.seq #[] } } s'->s'.heap.get? s2.heap.objs.size=some { cls:=.type "list", dict:=none,data:=.seq acc c,slots:=#[] }->
   ItemsOf (λi v=>A3.toArray[A3.toArray.size - 1 - i]?=some v) acc A3.toArray.size->EP X Zi Z Q (.ref s2.heap.objs.size) s':=by
  intro A3 D s2 s' acc c tk ob r f J L d g BB;subst J;subst L;obtain⟨us,p,rfl⟩:=ZCJ r BB;obtain⟨h',g',d',V4,NL⟩:=s';have F:g'=s1.gens:=d.gens;have G:d'=s1.drawn:=d.drawn;have E:NL=s1.os:=d.os;subst F;subst G;subst E;have hsz:(s1.heap.push ob).objs.size=s1.heap.objs.size+1:=D5 ..;have kp:∀b o,s1.heap.get? b=some o->h'.get? b=some o:=λb o e=>by
   have hb:=Az e;refine d.heap b o ?_ (B7 _ (B7 _ e));show b∉[(s1.heap.push ob).objs.size,s1.heap.objs.size];rw[hsz];simp only[Cp,Au,yD,not_or];exact⟨BL (Hx hb),BL hb⟩
  refine⟨.ref _,_,I1.laid (a:=(s1.heap.push ob).objs.size) (t':=V4) kp (by rw[hsz];exact D6 _) (show CL X.prog X.w _ h' _ (.lst ys.reverse)from⟨by rw[Yw];exact f,us,c,p,g⟩),rfl,q _ (I1.AI.fresh (by show _<=_;rw[hsz];exact D6 _))⟩
 have hh:X.A.handled=none:=I1.ok.hd C;obtain⟨A3,r,pl,f⟩:=I1.list z;have k:=r.length;refine call_reversed_list pl.isList ?_;refine Yj ?_;obtain⟨o,n,ho,_⟩:=id pl;have l:=Az ho;have N:a≠s1.heap.objs.size:=BL l;have M:0<=A3.toArray.size/\Heap.IsRevIter (s1.heap.push (revObj a ((A3.toArray.size:Int) - 1))) s1.heap.objs.size a ((A3.toArray.size:Int) - 1 - ((0:Nat):Int))/\Heap.IsList (s1.heap.push (revObj a ((A3.toArray.size:Int) - 1))) a A3.toArray:=
  ⟨C1 _,⟨_,BM _ rfl,rfl,by simp[revObj]⟩,pl.isList.push _⟩
 refine ZCw (I:=s1.heap.objs.size) (s:={ s1 with heap:=s1.heap.push (revObj a ((A3.toArray.size:Int) - 1)) }) (Walks.listRev (prog:=X.prog) (w:=X.w) (A:=X.A.in1.in1) hh s1.heap.objs.size a N A3.toArray).toS (λi s st=>st.2.1.typeIs) M ?_ (by simp) ?_ (by simp;omega)
 .intro b hb;show b<(s1.heap.push _).objs.size;rw[D5];rcases List.mem_cons.mp hb with h|h
  .rw[h];exact LU _
  .have:b=a:=by simpa using h
   rw[this];exact Hx l
 .intro s' acc c d g BB;exact j A3 s1.heap.objs.size { s1 with heap:=s1.heap.push (revObj a ((A3.toArray.size:Int) - 1)) } s' acc c s1.toks (revObj a ((A3.toArray.size:Int) - 1)) r f rfl rfl d g BB⟩
variable{Zi:ZEX}{Z:St}{H:Hp}{s:Shared}
end
end L2
namespace Fz
open L2 Lw
def dm:Sp:=λvs H Q _=>∃(a:Addr)(tp:Bool)(ns:List Str)(lo hi:Nat),vs=[.ref a,.int lo,.int hi]/\H a=some (BF tp (ns.map V.str))/\tp=false/\ns.length<=1000/\lo<=hi/\hi<=ns.length/\LD H Q (GA ns lo hi)
def Qk:Sp:=λvs H Q _=>∃(a t:Addr)(tp:Bool)(ns:List Str)(d:AY),vs=[.ref a,.ref t]/\H a=some (BF tp (ns.map V.str))/\H t=some (.tup d.vals)/\tp=false/\d.Ok 40 ns/\ns.length<=40/\LD H Q (d.done ns)
section
variable[Xw]
variable{ss:List Slot}{te:TE}{K:ZEW}{ta tb tc:TE}{k:PV->Prop}
theorem zN{k:List PV->Prop}(h:Wz ss te λtp xs=>tp=false/\k (IY xs)):Wi ss (TB K (Al te BO)) k:=⟨λE Z F H R S q=>
 h.go E Z F H _ S λv tp xs F1 H1 b f AJ=>by
  obtain⟨o,kk⟩:=AJ;subst o;obtain⟨l,vs,n,a,r⟩:∃l vs,v=.ref l/\(∀(ss:List Slot)(Z:L2.St)(F H:Hp),A8 F1 F->Sg E ss Z F H->H l=some (.lst vs))/\AS F1 vs xs:=by
   obtain⟨l,vs,e,h1,r⟩:=f;refine⟨l,vs,e,λss Z F H s S=>?_,r⟩;rcases h1 with h1|⟨hA,h1⟩
   .exact S.fh _ _ (s _ _ h1)
   .exact S.keep _ _ hA h1
  subst n;refine⟨l,vs,rfl,AQ.of (a ss Z F1 H1 (A8.refl _) b.st),q _ (IY xs) F1 H1 b ⟨λss Z F H i s S hi=>?_,λss Z F H s S=>?_,λss Z F H i x H' s S hi y=>?_⟩ kk⟩
  .rw[Ke]at hi;exact⟨AQ.of (a ss Z F H s S),by rw[r.length];exact hi⟩
  .refine⟨AQ.of (a ss Z F H s S),?_⟩;rw[Ke,r.length];exact Ad _
  .obtain⟨p,y,g,ex,j,t⟩:=y;subst ex;subst t;obtain⟨z,d,c⟩:=r.get' g;have m:=S.alloc j (.tup [.int i,y]);exact⟨_,_,VS d,m,.tup AO (.cons (.int _) (.one (c.mono (s.trans m.ff))))⟩⟩
theorem aj{k:List PV->Prop}(h:Wq ss ta λtp xs=>tp=false/\∃ns:List Str,xs=ns.map PV.str/\Wp ss tb λp=>∃d:AY,p=dP d/\d.Ok 40 ns/\ns.length<=40/\k ((d.done ns).map PV.str)):
  Wn ss (D3 Qk [] E0 (Al ta (Al tb BO))) k:=⟨λE Z F H Q S q=>
 h.go E Z F H _ S λv tp xs F1 H1 c f⟨Kl,ns,ex,h2⟩=>h2.go E Z F1 H1 _ c.st λx p2 F2 H2 b g⟨d,u,hd,j,kk⟩=>by
  subst ex;subst u;obtain⟨l,vs,n,e,r⟩:=(f.mv b).seq b.st;subst n;rw[r.strs]at e;obtain⟨t,o,m⟩:=dv g;subst o;refine⟨l,t,tp,ns,d,rfl,e,b.st.fh _ _ m,Kl,hd,j,λa H3 ha s w=>?_⟩;have i:=b.st.grow s;exact q a _ _ F2 H3 (c.trans (b.trans i)) (b.st.Bd ha) ((c.trans b).none ha) w (R4 _) kk⟩
theorem wR(h:Wq ss ta λtp xs=>∃ns:List Str,xs=ns.map PV.str/\Wp ss tb λp=>∃(r:Str)(g:Nat)(cs:List Str),p=Cc r g cs/\Wp ss tc λp2=>∃x:Str,p2=.str x/\cs.length<64/\x∈ns/\k (Cc r (ns.idxOf x+1) (wo cs x))):
  Wp ss (D3 (QV K) [] E0 (Al ta (Al tb (Al tc BO)))) k:=⟨λE Z F H Q S q=>
 h.go E Z F H _ S λv tp xs F1 H1 c f⟨ns,ex,h2⟩=>h2.go E Z F1 H1 _ c.st λB p2 F2 H2 b n⟨r,g,cs,ep,t⟩=>t.go E Z F2 H2 _ b.st λA C F3 H3 a m⟨x,u,s,hx,kk⟩=>by
  subst ex;subst ep;subst u;cases m.inv;obtain⟨l,vs,rfl,e,i⟩:=(f.mv (b.trans a)).seq a.st;rw[i.strs]at e;obtain⟨tl,y,rfl,d⟩:=Xc (n.mono a.ff);have z:=d.same a.st.fh;refine⟨l,tp,ns,tl,r,g,cs,x,rfl,e,⟨y,z⟩,s,hx,λt' D H4 Hh GL s4 w=>?_⟩;obtain⟨F4,o,_,j⟩:=(a.st.grow s4).XA a.st Hh (.inl GL) d.2 w;exact q _ _ F4 H4 (c.trans (b.trans (a.trans o))) j kk⟩
end
def PU(C T:Addr):Pre:=λl R=>∃(s s':Ls)(a:Addr)(t:OV)(d:FK),l=[.ow true t,.is (aP d)]/\CY s C T a t/\s.Ok/\s.sn.length<=1000/\En s d=some s'/\R=.mt λp t'=>p=.bl true/\CY s' C T a t'
def WS(C T:Addr):Pre:=λl R=>∃(s s':Ls)(a:Addr)(t:OV)(e:LE),l=[.ow true t,.is e.P]/\CY s C T a t/\s.Ok/\e.say/\s.sn.length<=1000/\Ed s e=some s'/\R=.mt λp t'=>p=.bl true/\CY s' C T a t'
def OD(C T:Addr):Pre:=λl R=>∃(tp:Bool)(ns:List Str)(es:List LE)(s:Ls),l=[.is (NO tp (ns.map .str)),.is (.lst (es.map LE.P))]/\G7 40 ns/\(∀e∈es,e.say)/\es.length<=200/\runs (BS ns) es=some s/\R=.ow λu=>∃a,CY s C T a u
theorem Zt{ns:List Str}{es:List LE}{s:Ls}(h:runs (BS ns) es=some s){i:Nat}{e:LE}(a:es[i]?=some e){s1:Ls}(h1:runs (BS ns) (es.take i)=some s1):∃s2,Ed s1 e=some s2:=by
 cases g:Ed s1 e with
 |some s2=>exact⟨s2,rfl⟩
 |none=>exact absurd h (ko ⟨s1,e,h1,a,g⟩)
end Fz
namespace L2
section
variable{X:Cx}{o:Expr}{td:TE}
def ZU(td:TE):TE:=λZ H Q=>td Z H λv H1=>∃(p:Addr)(kvs:List (Key×V)),v=.ref p/\Rd H1 p (.dK kvs)/\kvs.length<=1000/\∀l:Addr,H1 l=none->Q (.ref l) (upd H1 l (.lst (kvs.map (·.2))))
theorem d5{DP:List (Key×Value)}{vs:List Value}:∀{kvs:List (Key×V)},KV kvs DP->vs=DP.map (·.2)->Vals (kvs.map (·.2)) vs:=by
 intro kvs h e;subst e
 induction h with
 |nil=>exact .nil
 |cons a _ b=>exact .cons a.2 b
theorem wF{m apos BW Na:Pos}(u:X.calm=true)(t:Gl X "list")(n:X.mg "list"=none)(ho:QE X o td)
  (N0:attributeBase o "values" X.env (eval o X.env)=eval o X.env:=by rfl) (Mt:(apos.endLine == BW.line)=true:=by rfl)
  (he:starEach [.Call (.Attribute o "values" apos) [] [] BW] X.env=[(false,eval (.Call (.Attribute o "values" apos) [] [] BW) X.env)]:=by rfl) :
  QE X (.Call (.Name "list" m) [.Call (.Attribute o "values" apos) [] [] BW] [] Na) (ZU td):=⟨by
 intro Zi s Z H Q I h;refine pO (J6 I t n (show bootBuiltins "list"=some (.type "list") by decide +kernel) ?_ (by decide) (by decide));refine LV ?_ he rfl;rw[he];show wpAny _ _ (spliced ((false,eval (.Call (.Attribute o "values" apos) [] [] BW) X.env)::[])) _ _ s;refine Yi ?_;refine wpAny_Call_method0_late N0 Mt (AN (ho.h Zi s Z H _ I h) λv s1 z=>?_);obtain⟨x,H1,I1,l,p,kvs,ex,d,WD,q⟩:=z;subst ex;obtain rfl:v=Value.ref p:=l;obtain⟨f,k,G8⟩:=gc I1 (.inl ⟨kvs,d⟩);obtain⟨g,_,DP,rel,i⟩:=Gb I1.AI d;refine⟨"dict","dict.values", ZDV,ZDY,PySem.F.type_dict_values,f,k,jS rfl (PySem.evalArgs_none ?_)⟩;refine call_meetsIn ZDY f PySem.F.entry_dict_values (PySem.F.args_dict_values_1 _) (meets_dict_values (Bl X.prog X.w) p G8) ⟨⟨DP,i⟩,?_⟩;refine Yj ?_;obtain⟨ep,A⟩:=i.dictAt;refine PySem.W.kdl_call (PySem.W.kdl_values (knd:=Bl X.prog X.w) (r:=s1.heap.objs.size) (d:=p) (kvs:=DP) (ep:=ep)) (I1.ok.hd u) ⟨⟨_,BM _ rfl,rfl,rfl⟩,A.push _⟩ (by rw[<- rel.length];exact g) λh' tk acc c hk y BB=>?_;have sz:(s1.heap.push { cls:=.type "dict_values", data:=.fields #[.ref p] }).objs.size=s1.heap.objs.size+1:=D5 ..;have B:acc.toList=DP.map (·.2):=PySem.W.kdl_vals_eq acc.toList (by rw[Fh];exact BB.1) λj v e=>BB.2 j v (by rw[<- Og];exact e)
 refine⟨.ref _,_,I1.laid (a:=(s1.heap.push { cls:=.type "dict_values", data:=.fields #[.ref p] }).objs.size) (h':=h') (t':=tk) (o:=.lst (kvs.map (·.2))) (λb o e=>hk b o (B7 _ e)) (by rw[sz];exact D6 _) ?_,rfl,q _ (I1.AI.fresh (by rw[sz];exact D6 _))⟩
 exact⟨by rw[AW];exact g,acc.toList,c,d5 rel B,by simpa using y⟩⟩
end
end L2
namespace Fz
open L2 Lw
variable{ss:List Slot}{t:OV}{td ty:TE}{nx:List Slot->Prop}{R:Ai}
section
variable[Xw]
variable{i:Nat}
theorem yo{ks:List Key}{vs:List V}(h:ks.length=vs.length):(ks.zip vs).map (·.2)=vs:=by
 rw[ZDJ];omega
theorem uw{k:List PV->Prop}(h:Wl ss i t td λ_ u=>∃(ks:List Key)(a:Addr)(xs:List PV),u=.nd (.AL ks) a (xs.map .fz)/\ks.length<=1000/\k xs):Wn ss (ZU td) k:=⟨λE Z F H Q S q=>
 h.go E Z F H _ S λv p u F1 H1 b r B3 AJ=>by
  obtain⟨ks,a,xs,f,j,kk⟩:=AJ;subst f;obtain⟨vs,rfl,ha,g,e,c⟩:=r.inv;refine⟨a,_,rfl,.inl ha,by rw[Mo];omega,λl Dj=>?_⟩;rw[yo e];have d:=b.st.make Dj (.lst vs);exact q l _ _ F1 _ (b.trans d) (b.st.Bd Dj) (b.none Dj) AO c.PF kk⟩
end
theorem YY{α β:Type}(f:α->β):∀(a:List α)(j:Nat),(a.map f).eraseIdx j=(a.eraseIdx j).map f
 | [],_=>rfl
 |_::_,0=>rfl
 |x::t,j+1=>by rw[Bh,Hv,YY f t j];rfl
section
variable[Xw]
variable{i j:Nat}
theorem tY(h:Wl ss i t td λp u=>∃(lt:Bool)(a:Addr)(ks:List Key)(xs:List PV),ss[i]?=some (.ow lt t)/\u=.nd (.AL ks) a (xs.map .fz)/\ks.Nodup/\Wp ss ty λq=>∃key n y,q=FZ key/\C7 ks key=some n/\xs[n]?=some y/\nx ((ss.set i (.ow lt (t.put p (.nd (.AL (ks.eraseIdx n)) a ((xs.eraseIdx n).map .fz))))).set j (.is y))):Ws ss (G9 (QP td ty) (Dr j)) nx R:=⟨λE D Z F H S hn P=>
 h.go E Z F H _ S λv p u F1 H1 e g B3⟨lt,a,ks,xs,hi,A,hk,h2⟩=>by
  subst A;obtain⟨DP,k,UZ,_,_,_⟩:=g.inv;subst k;refine⟨a,rfl,.inl ⟨_,.inl UZ⟩,h2.go E Z F1 H1 _ e.st λJ q F2 H2 d s⟨key,n,y,B,hx,z,kk⟩=>?_⟩;subst B;have r:=g.mv e.st ⟨lt,hi⟩ B3 d;obtain⟨vs,k,ha,L,x,c⟩:=r.inv;have I:ks.length=vs.length:=x;have vl:=c.length;have G:n<ks.length:=(List.getElem?_eq_some_iff.mp (PR hx)).1;obtain⟨w,hw,f⟩:=c.PF.get z;refine⟨_,key,w,ha,IA s,Rr hx hw,?_⟩;obtain⟨K,e0,N,Bq,O⟩:=d.st.ok i _ hi;have o:(OV.nd (.AL ks) a (xs.map .fz)).addrs.Nodup:=by
   obtain⟨l,c,C,_⟩:=OV.split B3;rw[C,Bx,Bx]at Bq;exact Bq.1.2.1
  rw[JN]at o;rw[UI hk hx I];have M:=Sg.WH (m:=[]) (u:=.fz .A7) (ks':=ks.eraseIdx n) (us':=(xs.map .fz).eraseIdx n) e.st d.st hi B3 (λb hb=>by rw[OV.GZ]at hb;cases hb) (by simp) (c.aK n) (by rw[NN _ _ G,NN _ _ (by omega)];omega) ((List.nodup_cons.mp o).2.sublist (NW _ n)) λb hb=>.inl ((NW _ n).subset hb);rw[YY]at M;exact hn _ _ F2 _ kk (M.Jb f) (e.ff.trans d.ff)⟩
variable{K:ZEW}{xs:List PV}
theorem vC{ns:List Int}(hi:ss[i]?=some (.own (ns.map PV.int)))(h:Wp ss ty λq=>∃y,q=.int y/\y∈ns/\nx (ss.set i (.own ((ns.eraseIdx (ns.idxOf y)).map PV.int)))):Ws ss (HG (Np K "list" fH (BP i) (Al ty BO))) nx R:=⟨λE D Z F H S hn m=>by
 obtain⟨l,vs,e,o,n,j,r⟩:=S.ok i _ hi;refine⟨_,e,.inl ⟨rfl,_,AQ.of j⟩,h.go E Z F H _ S λv q F1 H1 a c⟨y,g,f,kk⟩=>?_⟩;subst g;cases c.inv;obtain⟨k,Bf,b,De,C5,Lu,d⟩:=a.st.ok i _ hi;rw[e]at b;cases b;rw[d.ints]at Lu;refine⟨l,ns,y,rfl,rfl,Lu,f,?_⟩;exact hn _ Z F1 _ kk (a.st.put hi e De C5 (gh _)) a.ff⟩
theorem o4{k:PV->Prop}(hi:ss[i]?=some (.own xs))(h:k (.bl true)):Wp ss (Bn (λx y H Q=>y=.A7/\Q (.bl (!decide (x=.A7))) H) (BP i) (tC .A7)) k:=⟨λE Z F H Q S q=>by
 obtain⟨l,vs,e,_⟩:=S.ok i _ hi;refine⟨_,e,rfl,?_⟩;rw[lx (by intro z;cases z)];exact q _ _ F H (Mv.refl S) (.bl _) h⟩
end
end Fz
namespace L2
section
variable{X:Cx}
variable{Zi:ZEX}{elt iter:Expr}{ifs es:List Expr}{zs:List Str}{tp pos:Pos}{tk:Nat}{scope:Scope}{Ao:List Str}{js:List Nat}{tt:TT}{te:TE}
variable{Z:St}{H2:Hp}{s2:Shared}{x:Str}{px:Pos}{J:It}{fp:List Addr}{it:Addr}
 {tn:Nat->Heap->Prop}
end
end L2
namespace Fz
open L2 Lw
variable{AG ss:List Slot}{ta tb tc te ti:TE}{nx:List Slot->Prop}{R:Ai}{i j n:Nat}
section
variable{lt:Bool}
def PY(i:Nat)(R:Ai)(AG:List Slot):Prop:=∃(k:PV->OV->Prop)(nk:NK)(a:Addr)(us:List OV),R=.mt k/\AG[i]?=some (.ow true (.nd nk a us))/\k .A7 (.nd nk a us)
theorem PY.ok{E:Ent0}{Z:L2.St}{F H:Hp}(h:PY i R AG)(S:Sg E AG Z F H):R.ok E F H .A7:=by
 obtain⟨k,nk,a,us,rfl,f,hk⟩:=h;obtain⟨e,e0,c,Bq,d⟩:=S.ok i _ f;have g:e=.ref a:=by cases c;rfl
 subst g;exact⟨.A7,.nd nk a us,.A7,c,Bq,λb hb=>⟨(d b hb).1,(d b hb).2.imp id λz=>z.2⟩,hk⟩
theorem cM(i:Nat){pre:Pre}{H:Hp}{N:List Str}{vs:List V}{Q:VK}{X:XK}{t:TS}(h:Bj pre vs H Q X)(b:∀ss R,pre ss R->ss.length=n)
  (hw:∀ss R,pre ss R->Ws (ss++List.replicate (N.length - n) .any) t (PY i R) R):t { nx:=λ_ H'=>Q .A7 H',rt:=Q } (L2.start N vs) H:=by
 obtain⟨ss,R,F,A,B,a,S,q⟩:=h;have e:vs.length=n:=by have:=S.len;rw[AW]at this;rw[<- this];exact b ss R a
 unfold L2.start;rw[e];exact(hw ss R a).go (NT ⟨A,F,H,B⟩) _ _ F H (S.grown _) (λAG σ' F' H' z S' _=>q .A7 F' H' S'.toFin (z.ok S')) λv F' H' f ok=>q v F' H' f ok
variable[Xw]
end
end Fz
namespace Fz
open L2 Lw
variable{l ss:List Slot}{i p:Nat}{a0 lp:Addr}
section
variable{E:Ent0}{Z:L2.St}{F H F' H':Hp}
theorem Sg.oh{q:Nat}{lt:Bool}{t:OV}(S:Sg E ss Z F H)(w:ss[q]?=some .AF)(D:Z[q]?=some (some (.ref lp)))(hi:ss[i]?=some (.ow lt t)){vs:List V}(a:HQ Z F i t vs l):Sg ⟨[lp],F,H,t.addrs⟩ (.AF::l) ((V.ref lp::vs).map some) F H:=by
 obtain⟨I,e0,g,Bq,A⟩:=S.ok i _ hi;obtain⟨L,G,B,_,pt⟩:=S.ok q _ w;rw[D]at G;cases G;have d:∀a:Addr,a∈[lp]->a=lp:=λa h=>List.mem_singleton.mp h;have J:q≠i:=λh=>by subst h;rw[w]at hi;cases hi
 have np:∀x∈t.addrs,x∉[lp]:=λx hx f=>by
  rw[d x f]at hx;exact S.Bb q i _ _ lp J w hi D hx
 obtain⟨m,f⟩:=a.at;refine⟨⟨S.fh,A8.refl _,λ_ _ _ e=>e,λ_ _ e=>.inl e,λa h=>d a h▸pt,λa h=>d a h▸B,λa h=>?_,λa h=>(A a h).1,λa h=>g.there a h,λa h=>⟨g.there a h,np a h⟩⟩,?_,λn s hn=>?_,λn j s u b QU hn y o k=>?_⟩
 .obtain⟨_,_,e,_⟩:=id pt;rw[d a h];show H lp≠none;rw[e];simp
 .rw[AW,Bw,Bw,a.len]
 .cases n with
  |zero=>
   cases(show some Slot.AF=some s from hn);exact⟨lp,rfl,B,.inr (by simp),pt⟩
  |succ n=>
   show Ok _ _ _ s ((vs.map some)[n]?);rcases f (n:=n) (s:=s) hn with⟨_,rfl,v,hv,C⟩|⟨v,p,hv,rfl,r⟩
   .rw[B1,hv];rw[e0]at C;cases C;exact⟨I,rfl,g,Bq,λa ha=>⟨(A a ha).1,.inr ⟨rfl,ha⟩⟩⟩
   .rw[B1,hv];exact⟨v,rfl,r⟩
 .have c:∀{n s},l[n]?=some s->BK s ((vs.map some)[n]?) b->b∈t.addrs/\n=m:=λ{n s}hn ho=>by
   rcases f hn with⟨K,rfl,_⟩|⟨_,_,_,rfl,_⟩
   .exact⟨ho,K⟩
   .cases ho
  have AF:BK .AF (some (some (V.ref lp))) b->b∈[lp]:=λho=>by
   have z:some (some (V.ref lp))=some (some (V.ref b)):=ho;injection z with z;injection z with z;injection z with z
   rw[z];simp
  cases n with
  |zero=>
   cases(show some Slot.AF=some s from hn);cases j with
   |zero=>exact QU rfl
   |succ j=>exact np b (c (n:=j) (s:=u) y k).1 (AF o)
  |succ n=>
   cases j with
   |zero=>
    cases(show some Slot.AF=some u from y);exact np b (c (n:=n) (s:=s) hn o).1 (AF k)
   |succ j=>exact QU (oW Nat.succ ((c (n:=n) (s:=s) hn o).2.trans (c (n:=j) (s:=u) y k).2.symm))
theorem Sg.z8{lt:Bool}{t u:OV}{v:V}(S:Sg E ss Z F H)(r:ss[p]?=some .AF)(ep:Z[p]?=some (some (.ref lp)))(hi:ss[i]?=some (.ow lt t))(k:Z[i]?=some (some v))(f:Fin ⟨[lp],F,H,t.addrs⟩ F' H')(L:B4 F' H' v u)(nd:u.addrs.Nodup)
  (q:∀a∈u.addrs,F' a=none/\(H a=none∨a∈t.addrs)):Sg E (ss.set i (.ow lt u)) Z F' H':=by
 obtain⟨W,U,_,_,q1⟩:=S.ok i _ hi;have T:i<ss.length:=(List.getElem?_eq_some_iff.mp hi).1;have kp:∀a o,a∉[lp]->a∉t.addrs->H a=some o->H' a=some o:=λa o n1 n2 e=>f.keep a o ⟨n1,n2⟩ e;have Bd:∀a,H a≠none->F a=none->F' a=none:=λa h1 h2=>by
  cases e:F' a with
  |none=>rfl
  |some o=>
   rcases f.fresh a o e with z|z
   .rw[show F a=some o from z]at h2;cases h2
   .exact absurd z h1
 have M:∀a∈[lp],E.H0 a=none∨a∈E.A:=λa ha=>by
  obtain⟨l,e,_,D,_⟩:=S.ok p _ r;rw[ep]at e;cases e;rw[List.mem_singleton.mp ha];exact D
 have Q:∀a,a∈E.A->a∉t.addrs:=λa d g=>by
  rcases(q1 a g).2 with z|z
  .exact S.a0 a d z
  .exact(S.b0 a z.2).2 d
 have b:∀(n:Nat)s,n≠i->ss[n]?=some s->∀a,BK s Z[n]? a->a∉t.addrs:=λn s h1 j a ho g=>S.Bb n i s _ a h1 j hi ho g;have R:∀(n:Nat)s,s≠.AF->ss[n]?=some s->∀a,BK s Z[n]? a->a∉[lp]:=λn s np j a ho g=>by
  by_cases c:n=p
  .subst c;rw[j]at r;exact np (BE r)
  .exact S.Bb n p s _ a c j r ho (by rw[List.mem_singleton.mp g];exact ep)
 have DV:∀a,BU H a->a∉t.addrs->BU H' a:=λa pt n=>by
  by_cases c:a∈[lp]
  .exact f.DV a c
  .exact BU.keep pt λo e=>kp a o c n e
 have at_:∀(n:Nat)s,(ss.set i (.ow lt u))[n]?=some s->(n=i/\s=.ow lt u)∨(n≠i/\ss[n]?=some s):=λn s hn=>by
  by_cases c:n=i
  .subst c;rw[CH T]at hn;exact .inl ⟨rfl,(BE hn).symm⟩
  .rw[C4 (B0 c)]at hn;exact .inr ⟨c,hn⟩
 refine⟨⟨f.fh,S.f0.trans f.f0,λa o d e=>?_,λa o e=>?_,λa d=>?_,λa d=>?_,S.a0,λa w=>?_,λa w=>?_,S.b0⟩,by rw[Hw];exact S.len,λn s hn=>?_,λn m s y x I hn g C B=>?_⟩
 .refine kp a o (λz=>?_) (λz=>?_) (S.keep a o d e)
  .rcases M a z with y|y
   .rw[e]at y;cases y
   .exact d.1 y
  .rcases(q1 a z).2 with y|y
   .rw[e]at y;cases y
   .exact d.2 y.2
 .rcases f.fresh a o e with z|z
  .exact S.fresh a o z
  .exact .inr (S.ES z)
 .exact DV a (S.DV a d) (Q a d)
 .obtain⟨_,_,k,_⟩:=S.DV a d;exact Bd a (by rw[k];simp) (S.Ja a d)
 .exact Bd a (S.bH a w) (S.bF a w)
 .by_cases g:a∈t.addrs
  .exact f.bH a g
  .by_cases d:a∈[lp]
   .obtain⟨_,_,k,_⟩:=f.DV a d;rw[k];simp
   .intro z;cases e:H a with
    |none=>exact S.bH a w e
    |some o=>rw[kp a o d g e]at z;cases z
 .rcases at_ n s hn with⟨rfl,rfl⟩|⟨n1,h⟩
  .refine⟨v,k,L,nd,λa ha=>⟨(q a ha).1,?_⟩⟩;rcases(q a ha).2 with z|z
   .exact .inl (S.ES z)
   .exact(q1 a z).2
  .by_cases np:s=.AF
   .subst np;obtain⟨l,e,N,D,pt⟩:=S.ok n _ h;obtain⟨_,_,O,_⟩:=id pt;exact⟨l,e,Bd l (by rw[O];simp) N,D,DV l pt (b n _ n1 h l e)⟩
   .exact Ok.go S h f.f0 (λa o ho e=>kp a o (R n s np h a ho) (b n s n1 h a ho) e) Bd np
 .have K:∀(n:Nat)s,n≠i->ss[n]?=some s->BK s Z[n]? x->x∉u.addrs:=λn s h1 j ho g=>by
   rcases(q x g).2 with z|z
   .exact S.DR j ho z
   .exact b n s h1 j x ho z
  rcases at_ n s hn with⟨P,rfl⟩|⟨n1,h⟩
  .rcases at_ m y g with⟨J,rfl⟩|⟨G,h'⟩
   .exact I (P.trans J.symm)
   .exact K m y G h' B C
  .rcases at_ m y g with⟨J,rfl⟩|⟨G,h'⟩
   .exact K n s n1 h C B
   .exact S.Bb n m s y x I h h' C B
end
section
variable[Xw]
variable{ta:TA}{lt:Bool}{nx:List Slot->Prop}{R:Ai}
theorem dk{pre:Pre}{nk:NK}{us:List OV}(c:ss[p]?=some .AF)(hi:ss[i]?=some (.ow lt (.nd nk a0 us)))(h:Vs ss i (.nd nk a0 us) ta λl=>∃k',pre (.AF::l) (.mt k')/\∀r t',k' r t'->∃D4 us',t'=.nd D4 a0 us'/\nx (ss.set i (.ow lt t'))):Ws ss (HG (D3 (Bj pre) [] E0 (Al (BP p) ta))) nx R:=⟨λE D Z F H S hn q=>by
 obtain⟨lp,ep,_⟩:=S.ok p _ c;refine⟨_,ep,h.go E Z F H _ S λvs l F1 H1 b a⟨k',Jt,kk⟩=>?_⟩;obtain⟨e,e0,g,_⟩:=b.st.ok i _ hi;have m:e=.ref a0:=by cases g;rfl
 subst m;rw[FC];refine⟨.AF::l,.mt k',F1,[lp],(OV.nd nk a0 us).addrs,Jt,b.st.oh c ep hi a,λv F' H' f⟨r,t',o,d,nd,j,kp⟩=>?_⟩;obtain⟨D4,us',rfl,k⟩:=kk r t' kp;have n:B4 F' H' (.ref a0) (.nd D4 a0 us'):=by
  have:=d.inv;exact d
 exact hn _ Z F' H' k (b.st.z8 c ep hi e0 f n nd j) (b.ff.trans f.f0)⟩
end
end Fz
namespace L2
variable{vs:List (Key×Value)}
structure cO (A:Around) (s:Shared) (a b:Addr) (oa ob:Obj) (ea eb:Array DictEntry) (na nb:Nat):Prop where
 ha:s.heap.get? a=some oa
 ca:oa.cls=.type "dict"
 da:oa.data=.dict ea na
 sa:(a == sysModules)=false
 hb:s.heap.get? b=some ob
 cb:ob.cls=.type "dict"
 db:ob.data=.dict eb nb
 sb:(b == sysModules)=false
 len:ea.size=eb.size
 all:(eb.all λe=>isExactStrKey e.key)=true
 it:∀i(h:i<ea.size),∃(x:Str)(t:Tok)(j:Nat)(hj:j<eb.size),ea[i].key=.str x t/\(eb.findIdx? λe=>e.key.isStr x)=some j/\SeqAt.EqAt A s ea[i].val eb[j].val true
theorem ZBg(a b:Addr):Meets (Builtin.«dict.__eq__» ⟨[.ref a,.ref b],[]⟩)
  (λA R s=>(∃oa ob ea eb na nb,cO A.in1 s a b oa ob ea eb na nb)/\R (.ok (.ret (.bool true))) s):=by
 intro prog w A R s h;obtain⟨⟨oa,ob,ea,eb,na,nb,D⟩,h⟩:=h;have k:s.TypeIs (.ref a) "dict" := ⟨oa,D.ha,D.ca⟩;have d:s.TypeIs (.ref b) "dict" := ⟨ob,D.hb,D.cb⟩;unfold Builtin.«dict.__eq__»
 wp_delta
 refine kU ?_;unfold Builtin.Dict.dictSlotArgs;refine kU (wpAny_notOrdered_dict k ?_);show wpAny _ _ (pure (Value.ref a,Value.ref b)) _ _ s;refine kX ?_;refine kU (rL (b:=true) d (by rw[qK];kernel_rfl) ?_);rw[km (by decide)];refine kU (kX ?_);refine kU (kX ?_);refine kU ?_;unfold Builtin.Dict.samePairs Builtin.Dict.showsAll;rw[km (by rw[D.sa];exact CZ),km (by rw[D.sb];exact CZ)];refine kU (kX ?_);refine kU (kX ?_);refine kU (zR D.ha D.da ?_);refine kU (zR D.hb D.db ?_);dsimp only;rw[km (by rw[D.len];simp)];refine kU (wpAny_dictEpoch D.ha D.da ?_);refine kU ?_;rw[ZDg];simp only[Std.Legacy.Range.size,Z3,Nat.add_sub_cancel,Nat.div_one];refine wpAny_forIn_list _ (λXM r s'=>∃i,XM=List.range' i (ea.size - i)/\i<=ea.size/\r=(none,())/\s'=s) _ ?_ ?_ _ _ ⟨0,by simp,C1 _,rfl,rfl⟩
 .rintro x XM _ s'⟨i,c,hi,rfl,rfl⟩;have f:i<ea.size:=by
   rcases Nat.lt_or_ge i ea.size with h|h
   .exact h
   .rw[Nat.sub_eq_zero_of_le h]at c;simp at c
  obtain⟨rfl,g⟩:x=i/\XM=List.range' (i+1) (ea.size - (i+1)):=by
   have e:ea.size - i=(ea.size - (i+1))+1:=by omega
   rw[e,ZDL]at c;injection c with h1 h2
   exact⟨h1,h2⟩
  obtain⟨y,t,j,l,n,o,m⟩:=D.it x f;refine kU (zR D.ha D.da ?_);rw[LL f];dsimp only;refine kU (oR (kU ?_));rw[n];refine PyProof.Rows.KTD.kt_dictFind_strs D.hb D.db D.all ?_;rw[o];refine kU (zR D.hb D.db ?_);rw[LL l];refine oR (m prog w _ _ ?_);rw[km (by decide)];refine kU (wpAny_dictEpoch D.ha D.da ?_);rw[km (by simp)];exact kX ⟨x+1,g,f,rfl,rfl⟩
 .rintro _ s'⟨i,c,hi,rfl,rfl⟩;exact kX (kX h)
theorem q8{A:Around}{s:Shared}{a b:Addr}{oa ob:Obj}{ea eb:Array DictEntry}{na nb:Nat}(D:cO A.in1 s a b oa ob ea eb na nb)(c:A.units<cLine):SeqAt.RcAt A s (.ref a) (.ref b) true:=λprog w E Q h=>
 richCompare_meets_room (op:=.Eq) ⟨oa,D.ha,D.ca⟩ ⟨ob,D.hb,D.cb⟩ PySem.F.slot_dict_eq PySem.F.entry_dict_eq (PySem.F.args_dict_eq_2 _ _) (ZBg a b) ⟨⟨oa,ob,ea,eb,na,nb,D⟩,show Value.bool true≠Value.notImplemented/\Q (.bool true) s from⟨(λx=>nomatch x),h⟩⟩ c
section
variable{P:Program}{w:World}
theorem pairs_at{es:List DictEntry}(h:Pairs (Bl P w) es vs):∀(i:Nat)(e:DictEntry),es[i]?=some e->∃k,vs[i]?=some (k,e.val)/\(Bl P w).is k e.key=true:=by
 induction h with
 |nil=>intro i e a;simp at a
 |@cons e0 b _ _ hk hv _ c=>
  intro i e a;cases i with
  |zero=>simp at a;subst a;exact⟨b.1,by rw[hv];rfl,hk⟩
  |succ i=>exact c i e (by simpa using a)
theorem Zd{h:Heap}{a:Addr}{ns:List Str}(hd:h.DictOf (Bl P w) a vs)(hk:vs.map (·.1)=ns.map Sum.inr):
  ∃o es ep,h.get? a=some o/\o.cls=.type "dict" /\ o.data=.dict es ep/\es.size=ns.length/\∀i(hi:i<es.size),∃x t,ns[i]?=some x/\es[i].key=.str x t/\(vs.map (·.2))[i]?=some es[i].val:=by
 obtain⟨o,es,ep,ho,hx,Es,_,b,_⟩:=hd;have g:es.size=vs.length:=by rw[<- b.length];simp
 have l:vs.length=ns.length:=by have:=oW List.length hk;simpa using this
 refine⟨o,es,ep,ho,hx.1,Es,by omega,λi hi=>?_⟩;obtain⟨k,d,f⟩:=pairs_at b i es[i] (by simp[hi]);have c:(vs.map (·.1))[i]?=some k:=by rw[B1,d];rfl
 rw[hk,B1]at c;obtain⟨x,ex,rfl⟩:=Option.map_eq_some_iff.mp c;rcases Fu (show Ip (.inr x) es[i].key=true from f)with⟨j,t,z,_⟩|⟨y,t,z,e⟩
 .cases z
 .cases z;exact⟨x,t,ex,e,by rw[B1,d];rfl⟩
end
end L2
namespace Fz
open L2 Lw
variable{s s':Ls}{es:List LE}{hk l ns:List Str}{i:Nat}{r x y z:Str}{xs:List PV}{ss:List Slot}{d:AY}{hv ts:List Int}{c n:Int}{BN:Option (List Int)}{α β:Type}{e:LE}{a aE aL aN:Addr}{v w:OV}
section
variable{X:Cx}{Zi:ZEX}{Z:L2.St}{H:Hp}{s:Shared}
theorem va{es:Array DictEntry}(nd:ns.Nodup)(f:es.size=ns.length)(h:∀i(hi:i<es.size),∃x t,ns[i]?=some x/\es[i].key=.str x t)(hx:ns[i]?=some x):(es.findIdx? λe=>e.key.isStr x)=some i:=by
 have hi:=(List.getElem?_eq_some_iff.mp hx).1;refine Array.findIdx?_eq_some_iff_getElem.mpr ⟨by omega,?_,λj g=>?_⟩
 .obtain⟨y,t,a,b⟩:=h i (by omega);rw[hx]at a;cases a;rw[b];simp[Value.isStr]
 .obtain⟨y,t,a,b⟩:=h j (by omega);rw[b];intro z;have e:y=x:=by simpa[Value.isStr]using z
  subst e;obtain⟨l,d⟩:=List.getElem?_eq_some_iff.mp hx;obtain⟨k,c⟩:=List.getElem?_eq_some_iff.mp a;have:=(Mm nd).mp (d.trans c.symm);omega
theorem yd(I:Inv X Zi Z H s){x y:V}(nd:ns.Nodup)(O:Rep H x (.AL (ns.map Sum.inr) xs))(N:Rep H y (.AL (ns.map Sum.inr) xs))(hd:∀p∈xs,dat X.K 30 p)(A:Around)(u v:Value)(M:RelV x u)(L:RelV y v)(hu:A.units+32<cLine):SeqAt.EqAt A s u v true:=by
 obtain⟨a,vs,rfl,ea,Y,n⟩:=O.inv;obtain⟨b,ws,rfl,eb,W,P⟩:=N.inv;cases(show u=Value.ref a from M);cases(show v=Value.ref b from L)
 by_cases w:a=b
 .subst w;exact .same _
 refine SeqAt.EqAt.of_refs w ?_;obtain⟨_,sa,E,k1,d1⟩:=Gb I.AI (.inl ea);obtain⟨_,sb,RY,σ,d2⟩:=Gb I.AI (.inl eb);have key:∀{ws:List V}{us:List (Key×Value)},(ns.map Sum.inr).length=ws.length->KV ((ns.map Sum.inr).zip ws) us->us.map (·.1)=ns.map Sum.inr/\Vals ws (us.map (·.2)):=λ{ws us}hl k=>by
  refine⟨?_,?_⟩
  .rw[<- k.keys,ZDI (by omega)]
  .have:=d5 k rfl;rw[ZDJ (by omega)]at this;exact this
 obtain⟨U,l⟩:=key Y k1;obtain⟨T,D⟩:=key W σ;obtain⟨S,CF,Q,g1,c1,J,z1,i1⟩:=Zd d1 U;obtain⟨R,Km,p2,g2,c2,G,z,o⟩:=Zd d2 T;have m:∀i(hi:i<Km.size),∃x t,ns[i]?=some x/\Km[i].key=.str x t:=λi hi=>by
  obtain⟨x,t,j,h,_⟩:=o i hi;exact⟨x,t,j,h⟩
 refine q8 (oa:=S) (ob:=R) (ea:=CF) (eb:=Km) (na:=Q) (nb:=p2) ⟨g1,c1,J,sa,g2,c2,G,sb,by omega,?_,λi hi=>?_⟩ (by omega)
 .refine Array.all_eq_true.mpr λi hi=>?_;obtain⟨x,t,_,e⟩:=m i hi;rw[e];rfl
 .obtain⟨x,t,j,h,q⟩:=i1 i hi;refine⟨x,t,i,by omega,h,va nd z m j,?_⟩;obtain⟨_,_,_,_,e4⟩:=o i (by omega);have l1:=l.length;have l2:=n.length;have c:i<xs.length:=by
   have:=(List.getElem?_eq_some_iff.mp q).1;omega
  obtain⟨C,Oc,f⟩:=n.get (i:=i) (p:=xs[i]) (Am c);obtain⟨B,LG,d⟩:=P.get (i:=i) (p:=xs[i]) (Am c);obtain⟨u1,ZK,F⟩:=l.get Oc;obtain⟨u2,r,g⟩:=D.get LG;rw[q]at ZK;cases ZK;rw[e4]at r;cases r;have:=Zo I 30 C B _ _ f d (hd _ (Gx c)) (hd _ (Gx c)) A.in1 _ _ F g (by show A.units+1+30<cLine;omega);rw[ik 30 (hd _ (Gx c))]at this;exact this
def cQ(K:ZEW):L2.R2:=λx y H Q=>∃(rs ns:List Str)(xs:List PV),ns.Nodup/\(∀p∈xs,dat K 30 p)/\Rep H x (.tup [.lst (rs.map .str),.AL (ns.map Sum.inr) xs])/\Rep H y (.tup [.lst (rs.map .str),.AL (ns.map Sum.inr) xs])/\Q (.bl false) H
theorem tV(L:X.A.units+64<cLine):BH X (compareOp .NotEq) (cQ X.K):=by
 intro Zi s Z H x y v u Q I q o h;obtain⟨rs,ns,xs,nd,hd,t,r,D⟩:=h;obtain⟨a,vs,rfl,ea,d⟩:=t.inv;obtain⟨b,ws,rfl,eb,c⟩:=r.inv;cases q;cases o;obtain⟨ZDw,_,g,B,_⟩:=(Ez.tup (K:=X.K) (AD.of ea) d).He I;obtain⟨Ba,_,f,w,_⟩:=(Ez.tup (K:=X.K) (AD.of eb) c).He I;obtain⟨l1,_,rfl,k,d⟩:=d.inv;obtain⟨N,_,rfl,m,d⟩:=d.inv;cases d.Cy;obtain⟨l2,_,rfl,i,c⟩:=c.inv;obtain⟨M,_,rfl,n,c⟩:=c.inv;cases c.Cy;cases g with
 |cons J g=>
  cases g with
  |cons F g=>
   cases g;cases f with
   |cons G f=>
    cases f with
    |cons E f=>
     cases f;have l:dat X.K 30 (.lst (rs.map .str)):=λp C=>by
      obtain⟨z,_,rfl⟩:=List.mem_map.mp C;trivial
     refine k9 (A:=X.A) (e:=λ_=>true) B w (by omega) (λj h1 h2=>?_) _ _ _ _ ⟨.bl false,H,I,rfl,D⟩
     match j,h1,h2 with
     | 0,_,_=>
      have:=Zo I 30 l1 l2 _ _ k i l l X.A.in1 _ _ J G (by show X.A.units+1+30<cLine;omega);rw[ik 30 l]at this;exact this
     | 1,_,_=>exact yd I nd m n hd X.A.in1 _ _ F E (by show X.A.units+1+32<cLine;omega)
end
section
variable[Xw]
variable{K:ZEW}{ta tb:TE}{k:PV->Prop}
theorem zM(h:Wp ss ta λp=>Wp ss tb λq=>q=p/\∃(rs ns:List Str)(xs:List PV),p=.tup [.lst (rs.map .str),.AL (ns.map Sum.inr) xs]/\ns.Nodup/\(∀p∈xs,dat K 30 p)/\k (.bl false)):Wp ss (Bn (cQ K) ta tb) k:=⟨λE Z F H Q S q=>
 h.go E Z F H _ S λv p F1 H1 b d h2=>h2.go E Z F1 H1 _ b.st λf p2 F2 H2 a c AJ=>by
  obtain⟨e,rs,ns,xs,ep,nd,hd,kk⟩:=AJ;subst e;subst ep;exact⟨rs,ns,xs,nd,hd,(d.mono a.ff).mono a.st.fh,c.mono a.st.fh,q _ _ F2 H2 (b.trans a) (.bl _) kk⟩⟩
end
theorem jM(ok:s.Ok)(g:E5 s z r=some s'):z∉s.sn/\s'.row=s.row/\s'.sn=s.sn++[z]/\s'.ln=s.ln++[z]/\An s' z=Eh s.row/\∀x,x≠z->An s' x=An s x:=by
 have b:=ok.step (e:=.EW z r) g;have l1:=ok.l1;unfold E5 at g;split at g
 .next c=>
  cases g;have f:z∉s.ln:=λh=>c.2.1 (ok.sub z h);refine⟨c.2.1,rfl,rfl,rfl,?_,λx hx=>?_⟩
  .exact Fx (i:=s.ln.length) (l:=⟨r,0,Eh s.row⟩) b.n1 (by show(s.ln++[z])[s.ln.length]?=_;rw[Fj (Ad _),Sa];rfl) (by show(s.ll++[_])[s.ln.length]?=_;rw[Fj (by omega),show s.ln.length - s.ll.length=0 by omega];rfl)
  .by_cases a:x∈s.ln
   .obtain⟨i,l,h1,h2,d⟩:=Nt ok a;have hi:=(List.getElem?_eq_some_iff.mp h1).1;rw[d];exact Fx b.n1 (by show(s.ln++[z])[i]?=_;rw[EN hi];exact h1) (by show(s.ll++[_])[i]?=_;rw[EN (by omega)];exact h2)
   .rw[Ic l1 a];exact Ic b.l1 λh=>(List.mem_append.mp h).elim a λh=>hx (List.mem_singleton.mp h)
 .cases g
theorem XX(ok:s.Ok)(g:Dm s z y=some s'):s'.row=s.row/\s'.sn=s.sn/\s'.ln=s.ln/\z∈s.ln/\y∈An s z/\y∈s.row/\An s' z=wo (An s z) y/\∀x,x≠z->An s' x=An s x:=by
 have j:=ok.step (e:=.tell z y) g;have l1:=ok.l1;unfold Dm at g;split at g
 .next l el=>
  split at g
  .next c=>
   cases g;have a:z∈s.ln:=UW l1 el;have d:An s z=l.cs:=Fx ok.n1 (E9 a) el;refine⟨rfl,rfl,rfl,a,by rw[d];exact c,(ok.good l (Cq el)).sub y c,?_,λx hx=>?_⟩
   .rw[d];exact Fx (i:=s.ln.idxOf z) (l:=⟨l.r,s.row.idxOf y+1,wo l.cs y⟩) ok.n1 (E9 a) (by show(s.ll.set _ _)[_]?=_;rw[CH (List.getElem?_eq_some_iff.mp el).1])
   .by_cases b:x∈s.ln
    .obtain⟨i,k,h1,h2,f⟩:=Nt ok b;rw[f];refine Fx ok.n1 h1 ?_;show(s.ll.set _ _)[i]?=_;rw[C4 (λh=>by
      have:=E9 a;rw[h,h1]at this;exact hx (BE this))]
     exact h2
    .rw[Ic l1 b];exact Ic j.l1 b
  .cases g
 .cases g
theorem ZE(ok:s.Ok)(g:Du s z=some s'):s'.row=s.row/\s'.sn=s.sn/\z∈s.ln/\An s z=[]/\∀x,x≠z->An s' x=An s x/\(x∈s.ln->x∈s'.ln):=by
 have f:=ok.step (e:=.over z) g;have l1:=ok.l1;unfold Du at g;split at g
 .next l el=>
  split at g
  .next c=>
   cases g;have d:z∈s.ln:=UW l1 el;have k:An s z=l.cs:=Fx ok.n1 (E9 d) el;refine⟨rfl,rfl,d,k.trans c,λx hx=>?_⟩
   by_cases b:x∈s.ln
   .obtain⟨i,m,h1,h2,j⟩:=Nt ok b;have ne:i≠s.ln.idxOf z:=λh=>by
     have:=E9 d;rw[<- h,h1]at this;exact hx (BE this)
    by_cases lt:i<s.ln.idxOf z
    .have a:(s.ln.eraseIdx (s.ln.idxOf z))[i]?=some x:=by rw[ZDB lt];exact h1
     refine⟨?_,λ_=>Cq a⟩;rw[j];exact Fx (i:=i) f.n1 a (by show(s.ll.eraseIdx _)[i]?=_;rw[ZDB lt];exact h2)
    .have a:(s.ln.eraseIdx (s.ln.idxOf z))[i - 1]?=some x:=by rw[ZDA (by omega),show i - 1+1=i by omega];exact h1
     refine⟨?_,λ_=>Cq a⟩;rw[j];exact Fx (i:=i - 1) f.n1 a (by show(s.ll.eraseIdx _)[i - 1]?=_;rw[ZDA (by omega),show i - 1+1=i by omega];exact h2)
   .refine⟨?_,λh=>absurd h b⟩;rw[Ic l1 b];exact Ic f.l1 λh=>b ((KD _ _).subset h)
  .cases g
 .cases g
def EL(s:Ls)(d:AY):Ls:=⟨d.done s.row,s.ln,s.ll.map (Lp.led s.row d),s.sn,Cf s d s.ln.length⟩
theorem c6(h:d.Ok 40 s.row):Ed s (.DX (Hq d))=some (EL s d):=by
 show En s (Hq d)=_;unfold En;rw[j8 (ZAb h)];rfl
theorem PQ(ok:s.Ok)(x:Str):(∃r g,An (EL s d) x=d.Fp r g (An s x))∨(An (EL s d) x=[]/\An s x=[]):=by
 by_cases a:x∈s.ln
 .obtain⟨i,l,h1,h2,b⟩:=Nt ok a;refine .inl ⟨l.r,l.g,?_⟩;rw[b];exact Fx (l:=l.led s.row d) ok.n1 h1 (by show(s.ll.map _)[i]?=_;rw[B1,h2];rfl)
 .refine .inr ⟨?_,Ic ok.l1 a⟩;exact Ic (by show s.ln.length=(s.ll.map _).length;rw[AW];exact ok.l1) a
theorem PK(ok:s.Ok)(h:y∈An s x):y∈s.row:=by
 by_cases a:x∈s.ln
 .obtain⟨i,l,h1,h2,b⟩:=Nt ok a;rw[b]at h;exact(ok.good l (Cq h2)).sub y h
 .rw[Ic ok.l1 a]at h;cases h
structure One (x:Str) (s:Ls) (hk:List Str) (hv:List Int) (c:Int) (BN:Option (List Int)) (ts:List Int):Prop where
 len:hk.length=hv.length
 nk:hk.Nodup
 nv:hv.Nodup
 lt:∀v∈hv,v<c
 row:∀y,y∈hk↔y∈s.row
 tl:∀v∈ts,v<c
 no:x∉s.sn->BN=none/\ts=[]
 live:x∈s.sn->x∈s.ln/\∃D,BN=some D
 dn:∀D,BN=some D->D.Nodup/\∀n∈D,n∈ts∨∃y∈An s x,hv[hk.idxOf y]?=some n
 nt:∀y∈An s x,∀n,hv[hk.idxOf y]?=some n->n∉ts
theorem One.same(h:One x s hk hv c BN ts)(d:∀y,y∈s'.row↔y∈s.row)(a:x∈s'.sn↔x∈s.sn)(e:x∈s.ln->x∈s'.ln)(b:An s' x=An s x):One x s' hk hv c BN ts:=
 ⟨h.len,h.nk,h.nv,h.lt,λy=>(h.row y).trans (d y).symm,h.tl,λz=>h.no λq=>z (a.mpr q),λz=>⟨e (h.live (a.mp z)).1,(h.live (a.mp z)).2⟩,by rw[b];exact h.dn,by rw[b];exact h.nt⟩
theorem m6(h:y∈l):(l++[x]).idxOf y=l.idxOf y:=by rw[ZDE,kz h]
theorem One.put(ok:s.Ok)(h:One x s hk hv c BN ts)(od:(AY.put y i).Ok 40 s.row):One x (EL s (.put y i)) (hk++[y]) (hv++[c]) (c+1) BN ts:=by
 have l:y∉hk:=λz=>od.2.1 ((h.row y).mp z);have m:=h.len;have old:∀z∈An s x,(hv++[c])[(hk++[y]).idxOf z]?=hv[hk.idxOf z]?:=λz f=>by
  have k:=(h.row z).mpr (PK ok f);have:=List.idxOf_lt_length_iff.mpr k;rw[m6 k,EN (by omega)]
 have o:∀z∈An (EL s (.put y i)) x,z∈An s x∨z=y:=λz f=>by
  rcases PQ (d:=.put y i) ok x with⟨r,g,e⟩|⟨e,_⟩
  .rw[e]at f;have f:z∈if Ep r g i=true then EV (An s x) y else An s x:=f
   split at f
   .exact(LJ.mp f).elim .inr .inl
   .exact .inl f
  .rw[e]at f;cases f
 have j:∀z∈An s x,z∈An (EL s (.put y i)) x:=λz f=>by
  rcases PQ (d:=.put y i) ok x with⟨r,g,e⟩|⟨_,e⟩
  .rw[e];show z∈if Ep r g i=true then EV (An s x) y else An s x
   split
   .exact LJ.mpr (.inr f)
   .exact f
  .rw[e]at f;cases f
 refine⟨by simp[m],M5 h.nk l,?_,λv EC=>?_,λz=>?_,λv EC=>by have:=h.tl v EC;omega,h.no,h.live,λD e=>⟨(h.dn D e).1,λn hn=>?_⟩,λz f n hn=>?_⟩
 .rw[Bx];exact⟨h.nv,by simp,λa ha b hb=>by rw[List.mem_singleton.mp hb];have:=h.lt a ha;omega⟩
 .rcases List.mem_append.mp EC with q|q
  .have:=h.lt v q;omega
  .rw[List.mem_singleton.mp q];omega
 .rw[GH,jm,h.row z];show _↔z∈ins s.row y i;rw[Me];exact⟨λq=>q.elim .inr .inl,λq=>q.elim .inr .inl⟩
 .rcases(h.dn D e).2 n hn with q|⟨z,f,e2⟩
  .exact .inl q
  .exact .inr ⟨z,j z f,by rw[old z f];exact e2⟩
 .rcases o z f with q|q
  .rw[old z q]at hn;exact h.nt z q n hn
  .subst q;rw[ZDE,km l,show[z].idxOf z=0 by simp,Nat.zero_add,m,Fj (Ad _),Sa]at hn;cases hn;intro q;have:=h.tl _ q;omega
theorem Ms[BEq α][LawfulBEq α]{a x:α}{r:List α}(h:a≠x):(a::r).idxOf x=r.idxOf x+1:=by
 rw[Yv,beq_false_of_ne h];rfl
theorem qR[BEq α][LawfulBEq α]{l:List α}{x y:α}(nd:l.Nodup)(hx:x∈l)(g:y∈l)(ne:y≠x){m:List β}(e:l.length=m.length):(m.eraseIdx (l.idxOf x))[(l.eraseIdx (l.idxOf x)).idxOf y]?=m[l.idxOf y]?:=by
 induction l generalizing m with
 |nil=>cases hx
 |cons a r f=>
  cases m with
  |nil=>cases e
  |cons b m=>
   obtain⟨n1,n2⟩:=List.nodup_cons.mp nd
   by_cases d:a=x
   .subst d;rw[show(a::r).idxOf a=0 by simp,Yq,Yq,Ms (B0 ne)];rfl
   .rw[Ms d,Hv,Hv]
    by_cases c:a=y
    .subst c;rw[show(a::r.eraseIdx (r.idxOf x)).idxOf a=0 by simp,show(a::r).idxOf a=0 by simp];rfl
    .rw[Ms c,Ms c];exact f n2 ((List.mem_cons.mp hx).resolve_left (B0 d)) ((List.mem_cons.mp g).resolve_left (B0 c)) (by simpa using e)
theorem pW(nd:l.Nodup)(hx:x∈l):y∈l.eraseIdx (l.idxOf x)↔y∈l/\y≠x:=by
 induction l with
 |nil=>cases hx
 |cons a r c=>
  obtain⟨n1,n2⟩:=List.nodup_cons.mp nd
  by_cases b:a=x
  .subst b;rw[show(a::r).idxOf a=0 by simp,Yq,Cp];exact⟨λh=>⟨.inr h,λe=>n1 (e▸h)⟩,λh=>h.1.resolve_left h.2⟩
  .rw[Ms b,Hv,Cp,c n2 ((List.mem_cons.mp hx).resolve_left (B0 b)),Cp];constructor
   .rintro(h|h)
    .exact⟨.inl h,λe=>b (h.symm.trans e)⟩
    .exact⟨.inr h.1,h.2⟩
   .rintro⟨h|h,h2⟩
    .exact .inl h
    .exact .inr ⟨h,h2⟩
theorem One.take{FP:Option (List Int)}(ok:s.Ok)(h:One x s hk hv c BN ts)(od:(AY.take y).Ok 40 s.row)(hn:hv[hk.idxOf y]?=some n)
  (hd:(FP=BN/\∀D,BN=some D->n∈D->n∈ts)∨∃D,BN=some D/\FP=some (D.eraseIdx (D.idxOf n))/\n∈D):One x (EL s (.take y)) (hk.eraseIdx (hk.idxOf y)) (hv.eraseIdx (hk.idxOf y)) c FP ts:=by
 have l:=h.len;have j:y∈hk:=(h.row y).mpr od;have hi:=List.idxOf_lt_length_iff.mpr j;have o:∀z,z∈An (EL s (.take y)) x↔z∈An s x/\z≠y:=λz=>by
  rcases PQ (d:=.take y) ok x with⟨r,g,e⟩|⟨e,a⟩
  .rw[e];exact FF
  .rw[e,a];exact⟨λq=>(by cases q),λq=>(by cases q.1)⟩
 have old:∀z∈An s x,z≠y->(hv.eraseIdx (hk.idxOf y))[(hk.eraseIdx (hk.idxOf y)).idxOf z]?=hv[hk.idxOf z]?:=λz f ne=>qR h.nk j ((h.row z).mpr (PK ok f)) ne l;have inj:∀z∈An s x,hv[hk.idxOf z]?=some n->z=y:=λz f e=>by
  have p:=(h.row z).mpr (PK ok f);obtain⟨B,w⟩:=List.getElem?_eq_some_iff.mp e;obtain⟨A,u⟩:=List.getElem?_eq_some_iff.mp hn;have:=(Mm h.nv).mp (w.trans u.symm);have b:=E9 p;rw[this,E9 j]at b;exact(BE b).symm
 have dn:∀D,BN=some D->∀m∈D,m≠n->m∈ts∨∃z∈An (EL s (.take y)) x,(hv.eraseIdx (hk.idxOf y))[(hk.eraseIdx (hk.idxOf y)).idxOf z]?=some m:=λD e m i ne=>by
  rcases(h.dn D e).2 m i with q|⟨z,f,a⟩
  .exact .inl q
  .have k:z≠y:=λq=>by rw[q,hn]at a;exact ne (BE a).symm
   exact .inr ⟨z,(o z).mpr ⟨f,k⟩,by rw[old z f k];exact a⟩
 refine⟨by rw[Oi hi,Oi (by omega),l],h.nk.sublist (KD _ _),h.nv.sublist (KD _ _),λv EC=>h.lt v ((KD _ _).subset EC),λz=>?_,h.tl,λz=>?_,λz=>⟨(h.live z).1,?_⟩,λD e=>?_,λz f m i=>?_⟩
 .rw[pW h.nk j,h.row z];exact FF.symm
 .obtain⟨b,a⟩:=h.no z;rcases hd with⟨e,_⟩|⟨D,e,_⟩
  .exact⟨e.trans b,a⟩
  .rw[b]at e;cases e
 .rcases hd with⟨e,_⟩|⟨D,_,e,_⟩
  .rw[e];exact(h.live z).2
  .exact⟨_,e⟩
 .rcases hd with⟨b,a⟩|⟨D',b,a,i⟩
  .rw[b]at e;refine⟨(h.dn D e).1,λm i=>?_⟩
   by_cases c:m=n
   .subst c;exact .inl (a D e i)
   .exact dn D e m i c
  .rw[a]at e;cases e;have nd:=(h.dn D' b).1;refine⟨nd.sublist (KD _ _),λm EY=>dn D' b m ((KD _ _).subset EY) λq=>?_⟩;subst q;have t:D'.eraseIdx (D'.idxOf m)=D'.erase m:=(List.erase_eq_eraseIdx_of_idxOf rfl).symm;rw[t]at EY;exact(nd.mem_erase_iff.mp EY).1 rfl
 .obtain⟨h1,h2⟩:=(o z).mp f;rw[old z h1 h2]at i;exact h.nt z h1 m i
theorem One.EW(ok:s.Ok)(h:One x s hk hv c BN ts)(g:E5 s x r=some s'):One x s' hk hv c (some hv) ts:=by
 obtain⟨l,k,j,f,d,_⟩:=jM ok g;obtain⟨o,b⟩:=h.no l;subst b;refine⟨h.len,h.nk,h.nv,h.lt,by rw[k];exact h.row,h.tl,λz=>absurd (by rw[j];simp) z,λ_=>⟨by rw[f];simp,_,rfl⟩,λD e=>?_,λy m n hn=>Au⟩;cases e;refine⟨h.nv,λn hn=>.inr ?_⟩;obtain⟨i,hi,e⟩:=List.mem_iff_getElem.mp hn;have a:i<hk.length:=by rw[h.len];exact hi
 refine⟨hk[i],?_,?_⟩
 .rw[d];exact Nw.mpr ((h.row _).mp (Gx a))
 .rw[IZ h.nk (Am a),Am hi,e]
theorem One.tell(ok:s.Ok)(h:One x s hk hv c BN ts)(g:Dm s x y=some s'):y∈hk/\∃n,hv[hk.idxOf y]?=some n/\n∉ts/\One x s' hk hv c BN (ts++[n]):=by
 obtain⟨A,w,u,k,t,r,j,_⟩:=XX ok g;have d:=(h.row y).mpr r;have hi:=List.idxOf_lt_length_iff.mpr d;have B:=h.len;obtain⟨n,hn⟩:∃n,hv[hk.idxOf y]?=some n:=⟨_,Am (by omega)⟩;have xs:x∈s.sn:=ok.sub x k;refine⟨d,n,hn,h.nt y t n hn,h.len,h.nk,h.nv,h.lt,by rw[A];exact h.row,λv EC=>?_,λz=>absurd (by rw[w];exact xs) z,λ_=>⟨by rw[u];exact k,(h.live xs).2⟩,λD e=>⟨(h.dn D e).1,λm a=>?_⟩,λz b m a=>?_⟩
 .rcases List.mem_append.mp EC with q|q
  .exact h.tl v q
  .rw[List.mem_singleton.mp q];exact h.lt n (Cq hn)
 .rcases(h.dn D e).2 m a with q|⟨z,b,e2⟩
  .exact .inl (List.mem_append.mpr (.inl q))
  .by_cases f:z=y
   .rw[f,hn]at e2;cases e2;exact .inl (by simp)
   .exact .inr ⟨z,by rw[j];exact FF.mpr ⟨b,f⟩,e2⟩
 .rw[j]at b;obtain⟨h1,h2⟩:=FF.mp b;intro q;rcases List.mem_append.mp q with q|q
  .exact h.nt z h1 m a q
  .rw[List.mem_singleton.mp q]at a;obtain⟨E,p⟩:=List.getElem?_eq_some_iff.mp a;obtain⟨C,o⟩:=List.getElem?_eq_some_iff.mp hn;have:=(Mm h.nv).mp (p.trans o.symm);have l:=(h.row z).mpr (PK ok h1);have i:=E9 l;rw[this,E9 d]at i;exact h2 (BE i).symm
theorem One.over(ok:s.Ok)(h:One x s hk hv c BN ts)(g:Du s x=some s'):∃D,BN=some D/\∀n∈D,n∈ts:=by
 obtain⟨f,d,b,a,_⟩:=ZE ok g;obtain⟨_,D,e⟩:=h.live (ok.sub x b);refine⟨D,e,λn hn=>?_⟩;rcases(h.dn D e).2 n hn with q|⟨z,hz,_⟩
 .exact q
 .rw[a]at hz;cases hz
theorem rK(nd:ns.Nodup):One x (BS ns) ns ((List.range ns.length).map Int.ofNat) ns.length none []:=by
 refine⟨by simp,nd,?_,λv hv=>?_,λy=>KC,λv hv=>absurd hv Au,λ_=>⟨rfl,rfl⟩,λh=>absurd h Au,λD e=>(by cases e),λy a=>absurd a Au⟩
 .rw[List.nodup_iff_pairwise_ne,List.pairwise_map];exact(List.nodup_iff_pairwise_ne.mp List.nodup_range).imp λh e=>h (by injection e)
 .obtain⟨n,hn,rfl⟩:=List.mem_map.mp hv;have:=List.mem_range.mp hn;show(n:Int)<_;omega
noncomputable def K4(x:Str):LE->Bool
 | .tell z _=>decide (z=x)
 |_=>false
def M6(s:Ls)(es:List LE):Prop:=∀x,(x∉s.sn->(es.filter (K4 x)).length=0)/\∀(j:Nat)q,s.sn[j]?=some x->s.sq[j]?=some q->q.told=(es.filter (K4 x)).length
theorem Qx:((es++[e]).filter (K4 x)).length=(es.filter (K4 x)).length+if K4 x e=true then 1 else 0:=by
 rw[Yt,C0,SR];split <;> rfl
theorem M6.step(ok:s.Ok)(T:M6 s es)(g:Ed s e=some s'):M6 s' (es++[e]):=by
 have l1:=ok.l1;have l2:=ok.l2;cases e with
 |EW z r=>
  have g:E5 s z r=some s':=g;unfold E5 at g;split at g
  .next c=>
   cases g;intro x;rw[Qx];obtain⟨h1,h2⟩:=T x;refine⟨λh=>h1 λq=>h (List.mem_append.mpr (.inl q)),λj q a b=>?_⟩;have a:(s.sn++[z])[j]?=some x:=a;have b:(s.sq++[⟨s.row.length,0,0,0⟩])[j]?=some q:=b
   by_cases p:j<s.sn.length
   .rw[EN p]at a;rw[EN (by omega)]at b;exact h2 j q a b
   .have t:=(List.getElem?_eq_some_iff.mp a).1;rw[C0,Mn]at t;have:j=s.sn.length:=by omega
    subst this;rw[Fj (Ad _),Sa]at a;rw[Fj (by omega),show s.sn.length - s.sq.length=0 by omega]at b;cases a;cases b;exact(h1 c.2.1).symm
  .cases g
 |tell z y=>
  obtain⟨_,_,_,n,_⟩:=XX ok (show Dm s z y=some s' from g);have g:Dm s z y=some s':=g;unfold Dm at g;split at g
  .next l el=>
   split at g
   .next c=>
    cases g;have zs:=ok.sub z n;intro x;rw[Qx];obtain⟨h1,h2⟩:=T x
    by_cases k:z=x
    .subst k;rw[kz (show K4 z (.tell z y)=true from kc rfl)];refine⟨λh=>absurd zs h,λj q a b=>?_⟩;have b:(s.sq.modify (s.sn.idxOf z) Sm.tell)[j]?=some q:=b;rw[IZ ok.n2 a,jb]at b;obtain⟨f,o,rfl⟩:=Option.map_eq_some_iff.mp b;show f.told+1=_;rw[h2 j f a o]
    .rw[km (show ¬ K4 x (.tell z y)=true from λh=>k (lg h))];refine⟨h1,λj q a b=>?_⟩;have a:s.sn[j]?=some x:=a;have b:(s.sq.modify (s.sn.idxOf z) Sm.tell)[j]?=some q:=b;rw[jc _ _ (λh=>by
      have:=E9 zs;rw[h,a]at this;exact k (BE this).symm)]at b
     exact h2 j q a b
   .cases g
  .cases g
 |over z=>
  have g:Du s z=some s':=g;unfold Du at g;split at g
  .next l el=>
   split at g
   .next c=>
    cases g;intro x;rw[Qx];exact T x
   .cases g
  .cases g
 |DX d=>
  have g:En s d=some s':=g;unfold En at g;split at g
  .next d' ed=>
   cases g;intro x;rw[Qx];obtain⟨h1,h2⟩:=T x;refine⟨h1,λj q a b=>?_⟩;show q.told=_+0;rcases WX ok a s.ln.length q (Ad _) b with⟨i,l,f,_,_,_,m,rfl⟩|⟨_,m⟩
   .rw[<- h2 j f a m];unfold Sm.by
    split
    .rfl
    .split <;> rfl
   .exact h2 j q a m
  .cases g
theorem um:∀{s s':Ls}{fs:List LE},s.Ok->M6 s fs->runs s es=some s'->M6 s' (fs++es):=by
 induction es with
 |nil=>intro s s' fs ok T e;rw[runs]at e;cases e;rw[FC];exact T
 |cons x es a=>
  intro s s' fs ok T e;rw[runs]at e;split at e
  .next s1 e1=>
   have:=a (ok.step e1) (T.step ok e1) e;rw[BV]at this;exact this
  .cases e
theorem wU(ns:List Str):M6 (BS ns) []:=λx=>⟨λ_=>rfl,λj q h=>by cases h⟩
noncomputable def k4:List Key:=[.inr "row",.inr "live",.inr "names",.inr "log"]
def BZ(s:Ls)(es:List LE)(a aL aN aE:Addr):OV:=.nd (.AL k4) a [.fz (.lst (s.row.map .str)),.nd (.AL (AR s.ln)) aL (BY s.ll),.nd .lst aN ((s.sn.map PV.str).map .fz),.nd .lst aE ((es.map LE.P).map .fz)]
def Hi(s:Ls)(es:List LE)(a:Addr)(t:OV):Prop:=∃aL aN aE,t=BZ s es a aL aN aE
theorem q1{k:NK}{x y z:OV}:(OV.nd k a [x,y,z,v]).put [1] w=.nd k a [x,w,z,v]:=by rw[OV.GU (x:=y) rfl,OV.DN];rfl
theorem q2{k:NK}{x y z:OV}:(OV.nd k a [x,y,z,v]).put [2] w=.nd k a [x,y,w,v]:=by rw[OV.GU (x:=z) rfl,OV.DN];rfl
theorem q3{k:NK}{x y z:OV}:(OV.nd k a [x,y,z,v]).put [3] w=.nd k a [x,y,z,w]:=by rw[OV.GU (x:=v) rfl,OV.DN];rfl
theorem vM:DZ k4 (.inr "row")=k4:=by decide +kernel
theorem tM{x y z:OV}:FR k4 [x,y,z,v] (.inr "row") w=[w,y,z,v]:=by
 unfold FR;rw[show C7 k4 (.inr "row")=some 0 by decide +kernel];rfl
section
variable[Xw]
variable{lt:Bool}{k:List Nat->OV->Prop}
theorem NJ(hi:ss[i]?=some (.ow lt (BZ s es a aL aN aE)))(h:k [0] (.fz (.lst (s.row.map .str)))):Wl ss i (BZ s es a aL aN aE) (Iy (BP i) (tC (V.str "row"))) k:=Ga (Bv hi ⟨k4,a,_,rfl,FQ ⟨.inr "row", 0,_,rfl,by decide +kernel,rfl,h⟩⟩)
theorem JG(hi:ss[i]?=some (.ow lt (BZ s es a aL aN aE)))(h:k [1] (.nd (.AL (AR s.ln)) aL (BY s.ll))):Wl ss i (BZ s es a aL aN aE) (Iy (BP i) (tC (V.str "live"))) k:=Ga (Bv hi ⟨k4,a,_,rfl,FQ ⟨.inr "live", 1,_,rfl,by decide +kernel,rfl,h⟩⟩)
theorem dR(hi:ss[i]?=some (.ow lt (BZ s es a aL aN aE)))(h:k [2] (.nd .lst aN ((s.sn.map PV.str).map .fz))):Wl ss i (BZ s es a aL aN aE) (Iy (BP i) (tC (V.str "names"))) k:=Ga (Bv hi ⟨k4,a,_,rfl,FQ ⟨.inr "names", 2,_,rfl,by decide +kernel,rfl,h⟩⟩)
theorem ZCb(hi:ss[i]?=some (.ow lt (BZ s es a aL aN aE)))(h:k [3] (.nd .lst aE ((es.map LE.P).map .fz))):Wl ss i (BZ s es a aL aN aE) (Iy (BP i) (tC (V.str "log"))) k:=Ga (Bv hi ⟨k4,a,_,rfl,FQ ⟨.inr "log", 3,_,rfl,by decide +kernel,rfl,h⟩⟩)
end
theorem yK:(BZ s es a aL aN aE).pv=.AL k4 [.lst (s.row.map .str),.AL (AR s.ln) (s.ll.map Lp.P),.lst (s.sn.map .str),.lst (es.map LE.P)]:=by
 unfold BZ;rw[OV.pv,OV.CT,OV.CT,OV.CT,OV.CT,OV.CT,OV.pv,OV.pv,OV.pv,OV.pv,aQ,Qv,Qv,FD,FD,FD,FD]
 congr 4
theorem n9:∀x y:LE,x.P=y.P->x=y:=by
 have no:∀{a b:Str}{xs ys:List PV},(a == b)=false->PV.tup (.str a::xs)=.tup (.str b::ys)->False:=λh e=>by
  injection e with e
  injection e with e _
  injection e with e
  rw[e]at h;simp at h
 intro x y h;cases x with
 |DX d=>
  cases y with
  |DX d'=>rw[fb h]
  |_=>cases d <;> exact(no (by decide +kernel) h).elim
 |EW a b=>
  cases y with
  |EW c d=>simp[LE.P]at h;rw[h.1,h.2]
  |DX d=>cases d <;> exact(no (by decide +kernel) h).elim
  |_=>exact(no (by decide +kernel) h).elim
 |tell a b=>
  cases y with
  |tell c d=>simp[LE.P]at h;rw[h.1,h.2]
  |DX d=>cases d <;> exact(no (by decide +kernel) h).elim
  |_=>exact(no (by decide +kernel) h).elim
 |over a=>
  cases y with
  |over c=>simp[LE.P]at h;rw[h]
  |DX d=>cases d <;> exact(no (by decide +kernel) h).elim
  |_=>exact(no (by decide +kernel) h).elim
theorem ZZ{p:PV}(h:x∉ns):MB (AR ns) xs (.inr x) p=xs++[p]:=by
 unfold MB;rw[JZ,lx h];rfl
def Rt(BN:Option (List Int))(a:Slot):Prop:=(BN=none/\a=.is .A7)∨∃D,BN=some D/\a=.own (D.map PV.int)/\D.length<=40
def O0:Pre:=λl R=>∃(s:Ls)(es:List LE)(a:Addr)(t:OV)(e:LE),l=[.ow true t,.is e.P]/\Hi s es a t/\es.length<=1000/\R=.mt λp t'=>p=.A7/\Hi s (es++[e]) a t'
def Xr:Pre:=λl R=>∃(s:Ls)(es:List LE)(a:Addr)(t:OV)(m:Nat),l=[.AF,.ow true t,.is (.int m)]/\Hi s es a t/\s.Ok/\s.row.length<=m/\1<=m/\m<=40/\es.length<=1000/\s.sn.length<=1000/\R=.mt λp t'=>p=.A7/\∃d:AY,d.Ok 40 s.row/\(Hq d).say/\(EL s d).row.length<=m/\Hi (EL s d) (es++[.DX (Hq d)]) a t'
def Xf:Pre:=λl R=>∃(s:Ls)(es:List LE)(a:Addr)(t:OV)(m:Nat),l=[.AF,.ow true t,.is (.int m)]/\Hi s es a t/\s.Ok/\s.row.length<=m/\1<=m/\m<=40/\es.length<=1000/\s.sn.length<=1000/\s.ln.length<=5/\R=.mt λp t'=>p=.A7/\∃e s',Ed s e=some s'/\e.say/\s'.ln.length<=5/\s'.row.length<=m/\Hi s' (es++[e]) a t'
def UR:Pre:=λl R=>∃(ns:List Str)(es:List LE)(s:Ls)(x:Str),l=[.is (.lst (ns.map .str)),.is (.lst (es.map LE.P)),.is (.str x)]/\G7 40 ns/\runs (BS ns) es=some s/\es.length<=200/\R=.is λp=>p=.bl true
def U2:Pre:=λl R=>∃(ns:List Str)(es:List LE)(s:Ls),l=[.is (.lst (ns.map .str)),.is (.lst (es.map LE.P))]/\G7 40 ns/\(∀e∈es,e.say)/\es.length<=200/\runs (BS ns) es=some s/\R=.is λp=>p=.tup [.lst (s.row.map .str),.AL (AR s.ln) (s.ll.map Lp.P)]
def XC:Pre:=λl R=>∃(ns:List Str)(es:List LE)(s:Ls),l=[.is (.lst (ns.map .str)),.is (.lst (es.map LE.P))]/\G7 40 ns/\(∀e∈es,e.say)/\es.length<=200/\runs (BS ns) es=some s/\R=.is λp=>p=.A7
end Fz
set_option maxHeartbeats 8000000
namespace Pf
open L2 Lw
variable{w:World}{mg:ZEY}{A4 AA Dg O9 OP f:Addr}{α:Type}{Sf VB Yc:Tok}{l:PySem.W.OpenLaw}
abbrev St:=L2.St
noncomputable def top(i:Nat):Stmt:=PySem.Challenge.pw_stirround_k30_whole_loops_make_right_log.main.body.getD i (.Pass ⟨0,0,0,0⟩)
abbrev TH:Stmt:=top 53
abbrev Wu:Stmt:=top 54
abbrev Yg:Stmt:=top 55
abbrev VF:Stmt:=top 56
abbrev Tx:Stmt:=top 57
abbrev Vq:Stmt:=top 58
abbrev UT:Stmt:=top 38
abbrev XR:Stmt:=top 32
abbrev Uc:Stmt:=top 60
abbrev T5:Stmt:=top 19
abbrev Q4:Stmt:=top 40
abbrev Xs:Stmt:=top 31
abbrev Yf:Stmt:=top 39
abbrev Qo:Stmt:=top 41
abbrev Su:Stmt:=top 35
abbrev RN:Stmt:=top 43
abbrev YX:Stmt:=top 16
abbrev Uo:Stmt:=top 37
abbrev XQ:Stmt:=top 34
abbrev T8:Stmt:=top 59
abbrev SI:Stmt:=top 14
abbrev Vi:Stmt:=top 21
abbrev Xt:Stmt:=top 22
abbrev XY:Stmt:=top 23
abbrev Ue:Stmt:=top 20
abbrev T7:Stmt:=top 26
abbrev Ve:Stmt:=top 24
abbrev Rq:Stmt:=top 25
abbrev Ut:Stmt:=top 17
abbrev Si:Stmt:=top 27
abbrev W8:Stmt:=top 28
abbrev Sn:Stmt:=top 18
abbrev WV:Stmt:=top 44
abbrev TK:Stmt:=top 42
abbrev TX:Stmt:=top 36
abbrev UC:Stmt:=top 33
abbrev WK:Stmt:=top 61
abbrev XG:Stmt:=top 62
abbrev UK:Stmt:=Hc (top 50) 0
abbrev U7:Stmt:=Hc (top 51) 0
abbrev Wc:Stmt:=Hc (top 50) 2
abbrev Ul:Stmt:=Hc (top 50) 7
abbrev Wj:Stmt:=Hc (top 50) 3
abbrev X5:Stmt:=Hc (top 50) 4
abbrev Xu:Stmt:=Hc (top 50) 6
abbrev XJ:Stmt:=Hc (top 50) 5
abbrev Vf:Stmt:=Hc (top 50) 1
abbrev VH:Stmt:=top 49
abbrev Vc:Stmt:=top 46
abbrev Ya:Stmt:=top 47
abbrev Qu:Stmt:=top 63
abbrev Wd:Stmt:=Hc (top 50) 8
abbrev WM:Stmt:=top 48
abbrev Kf:Stmt:=top 64
variable{P:Program}{K:ZEW}{Zl:Heap}{fd:FuncData}
def bG{us:List α}(h:us.length=1):∃a,us=[a]:=by
 rcases us with _|⟨a,_|⟨b,us⟩⟩
 .cases h
 .exact⟨a,rfl⟩
 .cases h
def ln2{us:List α}(h:us.length=2):∃a b,us=[a,b]:=by
 rcases us with _|⟨a,us⟩
 .cases h
 .obtain⟨b,rfl⟩:=bG (Om h);exact⟨a,b,rfl⟩
def iL{us:List α}(h:us.length=3):∃a b c,us=[a,b,c]:=by
 rcases us with _|⟨a,us⟩
 .cases h
 .obtain⟨b,c,rfl⟩:=ln2 (Om h);exact⟨a,b,c,rfl⟩
def cR{us:List α}(h:us.length=4):∃a b c d,us=[a,b,c,d]:=by
 rcases us with _|⟨a,us⟩
 .cases h
 .obtain⟨b,c,d,rfl⟩:=iL (Om h);exact⟨a,b,c,d,rfl⟩
def bN{us:List α}(h:us.length=5):∃a b c d e,us=[a,b,c,d,e]:=by
 rcases us with _|⟨a,us⟩
 .cases h
 .obtain⟨b,c,d,e,rfl⟩:=cR (Om h);exact⟨a,b,c,d,e,rfl⟩
def kO{us:List α}(h:us.length=6):∃a b c d e f,us=[a,b,c,d,e,f]:=by
 rcases us with _|⟨a,us⟩
 .cases h
 .obtain⟨b,c,d,e,f,rfl⟩:=bN (Om h);exact⟨a,b,c,d,e,f,rfl⟩
local macro_rules | `(tactic| walk_at "bD1")=>`(tactic| (intro _ _ _ _ _ _ us hl;obtain⟨_,e⟩:=bG hl;subst e;rfl))
local macro_rules | `(tactic| walk_at "bD2")=>`(tactic| (intro _ _ _ _ _ _ us hl;obtain⟨_,_,e⟩:=ln2 hl;subst e;rfl))
local macro_rules | `(tactic| walk_at "bD3")=>`(tactic| (intro _ _ _ _ _ _ us hl;obtain⟨_,_,_,e⟩:=iL hl;subst e;rfl))
local macro_rules | `(tactic| walk_at "bD4")=>`(tactic| (intro _ _ _ _ _ _ us hl;obtain⟨_,_,_,_,e⟩:=cR hl;subst e;rfl))
local macro_rules | `(tactic| walk_at "bD5")=>`(tactic| (intro _ _ _ _ _ _ us hl;obtain⟨_,_,_,_,_,e⟩:=bN hl;subst e;rfl))
local macro_rules | `(tactic| walk_at "bD6")=>`(tactic| (intro _ _ _ _ _ _ us hl;obtain⟨_,_,_,_,_,_,e⟩:=kO hl;subst e;rfl))
abbrev nS(K:ZEW)(x:Str)(v:Value):Prop:=PySem.W.nsIn K mainGlobals x=some (some v)
abbrev nN(K:ZEW)(x:Str):Prop:=PySem.W.nsIn K mainGlobals x=some none
open Fz
def ZWM(t:String):Lean.MacroM (Lean.TSyntax `tactic):=do
 let g:Lean.TSyntax `tactic←`(tactic| fail)
 let k←`(tactic| case wk=>rfl)
 let n (s:String):=`(tactic| walk_at $(Lean.quote s):str)
 (t.splitOn " ").foldrM (λs r=>do
  let l:=((s.drop 1).toString.splitOn "/").map λx=>Lean.mkIdent (`Fz++x.toName)
  let h:Lean.Ident:=l.getLast!
  let c:=s.front
  let w:=(h.getId.getString!.toLower.replace "o" "e").replace "i" "e"
  let z←if c=='j' then `($h ?wj ?wk ?_)else if c=='k'||c=='K' then `($h ?wk ?_)else `($h ?_)
  let z←l.dropLast.foldrM (λ(f:Lean.Ident)(z:Lean.Term)=>`($f ($z))) z
  let p←if c=='e' then `(tactic| show ∃_,_=$h _/\_)else if c=='s' then `(tactic| show $h _ _ _)else `(tactic| refine' $z)
  let p←if c=='K'||c=='R'||c=='j' then pure p else `(tactic| with_reducible $p:tactic)
  let q←if c=='e' then `(tactic| refine⟨_,rfl,?_⟩)else if c=='s' then n w else if c=='n' then n "wn" else if c=='p' then n "wp" else if c=='k'||c=='K' then pure k else if c=='j' then `(tactic| ((case wj=>rfl);$k:tactic))else `(tactic| skip)
  `(tactic| first|($p:tactic;$q:tactic) | $r:tactic)) g
local macro_rules | `(tactic| walk_at "wp")=>ZWM "kX6 kDL/Nu/Bv kDL/OJ/Bv kDL/Nu/Nu/Bv kDL/OJ/OJ/Bv kDL/OJ/Nu/Bv kX6 kAK rEr rFQ rGV rKU rZI rJr rwY rdU kZCR rFg ruz rLx rdg rJi rnC kwD Kvk Ko6 kfA KwK KcY"
local macro_rules | `(tactic| walk_at "wn")=>ZWM "rjC rZA KPM jpR"
local macro_rules | `(tactic| walk_at "wq")=>do
 let z←ZWM "kRv/Bv kRv/Nu/Bv kRv/OJ/Bv kP0 kPL kRZ"
 `(tactic| first | $z:tactic|(refine Cb (G6 ?_);walk_at "wn")|(refine Cb ?_;walk_at "wp"))
local macro_rules | `(tactic| walk_at "wz")=>`(tactic| first
 | (refine Jf (G6 ?_);walk_at "wn")
 | (refine Jf ?_;walk_at "wp"))
local macro_rules | `(tactic| walk_at "wt")=>ZWM "rDB rJQ riG rVj rR0 rKc"
local macro_rules | `(tactic| walk_at "we")=>ZWM "rDl rIV rZC4 rnW rvV ryl rtR rLk"
local macro_rules | `(tactic| walk_at "w")=>do
 let z←ZWM "rAq rGn rDH rAr kbP kyN nNZ pHr pHE"
 let z1←ZWM "eOV.tp eOV.fz"
 let z2←ZWM "sWn sWq sWz sWt sWe sWo sWi"
 let z3←ZWM "ePV.int ePV.str ePV.bl"
 `(tactic| first | $z1:tactic|((with_reducible show ∃_ _,_=OV.nd NK.lst _ _/\_);refine⟨_,_,rfl,?_⟩)|((with_reducible show ∃_ _ _,_=PV.int _/\_/\_/\_);refine⟨_,_,_,rfl,rfl,rfl,?_⟩)|((with_reducible show Wp _ _ _);first|walk_at "wp" | (refine G6 ?_;walk_at "wn")) | $z2:tactic|((with_reducible show Ws _ _ _ _);$z:tactic) | $z3:tactic|((with_reducible show(_:Bool)=_/\_);refine⟨rfl,?_⟩)|((with_reducible show ∃_ _,_=PV.int _/\L2.C2 _ _=some _/\_);refine⟨_,_,rfl,rfl,?_⟩)|((with_reducible show ∃_,(_=PV.lst _/\_)∨(_=PV.tup _/\_));first|refine⟨_,.inl ⟨rfl,?_⟩⟩|refine⟨_,.inr ⟨rfl,?_⟩⟩)|((with_reducible show ∃_,_=List.map _ _/\_);first|refine⟨_,rfl,?_⟩|refine⟨[],rfl,?_⟩))
local macro_rules | `(tactic| walk_at "ww")=>`(tactic| repeat walk_at "w")
local macro_rules | `(tactic| walk_at "z1")=>`(tactic| exact⟨rfl,rfl,rfl,by decide +kernel,rfl,by decide +kernel,by decide +kernel⟩)
local macro_rules | `(tactic| walk_at "z2")=>`(tactic| exact⟨rfl,by decide +kernel,by decide +kernel,rfl,rfl,by decide +kernel,by decide +kernel,by decide +kernel,by decide +kernel⟩)
def NP:Ax ["script","k","cell","rest_here"] ["script","k"] (Ae TH):=by walk_at "z1"
variable(As:mg "len"=none)(Oe:A9 P w K mg Zl "_law_letters" 1 ["number"] (br))(Bu:A9 P w K mg Zl "_law_take" 1 ["pot","many"] (Kz))(IK:A9 P w K mg Zl "_law_name" 2 ["pot","names"] (NI K))(LA:mg "range"=none)(Sy:A9 P w K mg Zl "_law_names" 3 ["pot","many"] (j6))(Im:mg "RULES"=some (.ref Dg))(IW:∀H,AD K H Dg [.str "none",.str "ahead",.str "all"])(Y8:A9 P w K mg Zl "check_rule" 1 ["rule"] (d4))(Fn:mg "sorted"=none)(Ir:mg "tuple"=none)(IF:mg "all"=none)(CD:mg "list"=none)(TY:mg "set"=none)(XE:A9 P w K mg Zl "is_coming" 1 ["row","coming"] (aX K))(TC:A9 P w K mg Zl "is_gap" 1 ["row","gap"] (bS K))(YB:A9 P w K mg Zl "is_loop" 2 ["row","thing"] (ai K))(Md:A9 P w K mg Zl "check_loop" 3 ["row","loop"] (V5 K))(Ro:A9 P w K mg Zl "things_to_come" 1 ["things","loop"] (fV K))(Lh:A9 P w K mg Zl "coming_without" 1 ["coming","gone"] (Tu K))(FE:A9 P w K mg Zl "place_of" 1 ["row","name"] (My))(Ld:A9 P w K mg Zl "loop_telling" 2 ["row","loop","name"] (QV K))(UG:A9 P w K mg Zl "rest" 4 ["row","loop"] (gL K))(T2:mg "LETTERS"=some (.str "abcdefghijklmnopqrstuvwxyz" VB))(Va:mg "MOST_LETTERS"=some (.int 8 Yc))(MY:A9 P w K mg Zl "is_name" 1 ["text"] (PZ))(WZ:mg "MOST_THINGS"=some (.int 40 Sf))(Wf:A9 P w K mg Zl "check_move" 2 ["row","name","at"] (gB))(W5:A9 P w K mg Zl "check_put" 2 ["row","name","at"] (iK))(V0:A9 P w K mg Zl "check_turn" 1 ["row","low","high"] (iP))(Xo:mg "reversed"=none)(MP:A9 P w K mg Zl "check_deed" 3 ["row","deed"] (XD))(T6:A9 P w K mg Zl "row_turned" 1 ["row","low","high"] (dm))(SD:A9 P w K mg Zl "row_with" 1 ["row","name","at"] (eX))(Qg:A9 P w K mg Zl "row_without" 1 ["row","name"] (aq))(Q5:A9 P w K mg Zl "gap_behind_put" 1 ["gap","at"] (cD))(QY:A9 P w K mg Zl "gap_behind_take" 1 ["gap","place"] (aT))(T4:A9 P w K mg Zl "joins" 1 ["loop","at"] (cH))(X3:A9 P w K mg Zl "coming_behind" 2 ["loop","deed"] (aA))(Y4:A9 P w K mg Zl "gap_led" 3 ["row","gap","deed"] (dW))(MQ:A9 P w K mg Zl "loop_led" 4 ["row","loop","deed"] (M4))(Xx:A9 P w K mg Zl "_law_deed" 3 ["pot","row","most"] (V9))(K2:A9 P w K mg Zl "_law_write" 1 ["state","entry"] (Bj O0))(Lq:A9 P w K mg Zl "done" 4 ["row","deed"] (Qk))(Ti:A9 P w K mg Zl "led" 5 ["row","loop","deed"] (M4))(YN:A9 P w K mg Zl "_law_stir" 8 ["pot","state","most"] (Bj Xr))(MO:A9 P w K mg Zl "begun" 2 ["row","rule"] (RF K))(Wr:A9 P w K mg Zl "step" 5 ["row","loop"] (UN K))(Ay:Be K A4)(C6:BI K A4 "running")(Cs:BI K A4 "standing")(DQ:BI K A4 "tallies")(DW:Be K AA)(Il:BI K AA "joined")(Li:BI K AA "stood")(Iv:BI K AA "taken")(IL:BI K AA "told")(Vd:Ni P w K mg Zl AA 1 ["self","stood"] (Bj (YL AA)))(TV:mg "Tally"=some (.ref AA))(Eu:D8 P w K mg Zl A4 "coming" 2 ["self","loop"] (CG (Kb A4)))(Yd:D8 P w K mg Zl A4 "lead" 8 ["self","loop","deed"] (Bj (Y2 A4 AA)))(WT:mg "StirError"=some (.ref OP))(Vn:D8 P w K mg Zl A4 "follows_begin" 6 ["self","loop","rule"] (Bj (V6 A4 AA)))(X8:D8 P w K mg Zl A4 "follows_deed" 9 ["self","deed"] (Bj (PU A4 AA)))(WE:D8 P w K mg Zl A4 "follows_over" 6 ["self","loop"] (Bj (Xl A4 AA)))(Vt:D8 P w K mg Zl A4 "follows_tell" 6 ["self","loop","name"] (Bj (Ye A4 AA)))(VA:Ni P w K mg Zl A4 2 ["self","row"] (Bj (Xb A4 AA)))(Y3:D8 P w K mg Zl A4 "follows" 10 ["self","entry"] (Bj (WS A4 AA)))(Ma:mg "enumerate"=none)(Ug:mg "Course"=some (.ref A4))(Ik:A9 P w K mg Zl "course_of" 11 ["row","log"] (CG (OD A4 AA)))(Y0:mg "NoLog"=some (.ref O9))(Tn:D8 P w K mg Zl A4 "tally_of" 3 ["self","loop"] (CG (TF A4 AA)))(Ou:A9 P w K mg Zl "_law_pot" 1 ["script","k"] (US K))(Y6:A9 P w K mg Zl "_law_row" 4 ["pot","most"] (VQ))(Y1:A9 P w K mg Zl "_law_told_once" 1 ["first","log","name"] (CG UR))(V7:A9 P w K mg Zl "_law_turn" 9 ["pot","state","most"] (Bj Xf))(XT:A9 P w K mg Zl "first_wrong" 12 ["row","log"] (CG XC))(Td:A9 P w K mg Zl "state_behind" 12 ["row","log"] (CG U2))(Tr:A9 P w K mg Zl "tallied" 12 ["row","log","loop"] (CG R7))(RQ:mg "int"=none)(YZ:mg "max"=none)(VY:mg "min"=none)
def y4(F:AH K "_law_pot" "_law_pot" TH f fd)(m:mg "_law_pot"=some (.ref f)):
  A9 P w K mg Zl "_law_pot" 1 ["script","k"] (US K):=by
 refine A9.mk F (F.binds (by walk_at "bD2")) m (F.B5 (k:=0) NP (λvs H Q E h=>?_) (λAX A outer s H vs Q E t h=>?_))
 .obtain⟨a,ns,k,rfl,b,e,k1,q⟩:=h;rfl
 obtain⟨a,ns,k,rfl,b,e,k1,q⟩:=h;refine⟨_,(AE rfl (B2 2 NP.nd A6)
   (AE rfl (D2 (Aw (Ah HY (qv 1) (BQ E4 As (A0 (qv 0) A5))) (AB rfl (B2 2 NP.nd (BD K0 (AU FY (qv 0) (qv 1)) (BD Kd (BD Kd (BD Kd (BD MH A6 A6) (BD MH A6 A6)) (BD MH A6 A6)) (BD MH A6 A6))))) B6))
   (AE rfl (B2 3 NP.nd A6)
   (AE rfl (D2 (Aw (Ah RJ (qv 2) (BD MH A6 A6)) (AB rfl (B2 3 NP.nd (qv 2))) B6))
   (AB rfl (Af (Gw (A0 (qv 3) (A0 (BD K0 (BD Kd (BD Ew (BD Ew (BD K0 (qv 2) A6) (BD Kd A6 (qv 1))) A6) A6) A6) A5))))))))),?_⟩
 have i:(ns.map V.int).length=ns.length:=AW _;refine⟨λσ' H'=>∃c:Int,σ'=[some (.ref a),some (.int k),some (.int c),none]/\H=H'/\0<=c/\c<10 ^ 256,?_,?_⟩
 .refine⟨_,rfl,_,rfl,a,_,rfl,.inl b,_,_,rfl,rfl,_,rfl,?_⟩;refine B9 (λc=>?_) (λc=>?_)
  .have r:k<(((ns.map V.int).length:Nat):Int):=lg c;rw[i]at r;have hk:k.toNat<ns.length:=by omega
   have hv:C2 (ns.map V.int) k=some (.int ns[k.toNat]):=O1 e (by rw[B1,Am hk] <;> rfl)
   refine⟨_,rfl,_,rfl,a,_,_,_,rfl,rfl,b,hv,_,_,rfl,rfl,⟨by decide,by decide,by decide +kernel⟩,_,_,rfl,rfl,⟨by decide,by decide,by decide +kernel⟩,_,_,rfl,rfl,⟨by decide +kernel,by decide +kernel⟩,_,_,rfl,rfl,⟨by decide,by decide,by decide +kernel⟩,_,_,rfl,rfl,⟨by decide +kernel,by decide +kernel⟩,
    _,_,rfl,rfl,⟨by decide,by decide,by decide +kernel⟩,_,_,rfl,rfl,⟨by decide +kernel,by decide +kernel⟩,_,_,rfl,rfl,(by show(0:Int)<_;decide +kernel),?_⟩
   exact⟨_,rfl,rfl,LN _ (by decide +kernel),LM _ (by decide +kernel)⟩
  .exact⟨0,rfl,rfl,by decide,by decide +kernel⟩
 rintro σ' H'⟨c,rfl,rfl,o,n⟩;refine⟨λσ' H'=>∃d:Int,σ'=[some (.ref a),some (.int k),some (.int c),some (.int d)]/\H=H'/\0<=d/\d<10 ^ 256,?_,?_⟩
 .refine⟨_,rfl,_,_,rfl,rfl,⟨by decide,by decide,by decide +kernel⟩,_,_,rfl,rfl,_,rfl,?_⟩;refine B9 (λ_=>?_) (λ_=>?_)
  .exact⟨_,rfl,c,rfl,rfl,o,n⟩
  .exact⟨0,rfl,rfl,by decide,by decide +kernel⟩
 rintro σ' H'⟨d,rfl,rfl,l,j⟩;have e0:0<=c % 2147483629:=LN _ (by decide);have u:c % 2147483629<2147483629:=LM _ (by decide);refine⟨_,rfl,_,rfl,_,_,rfl,rfl,(by show(0:Int)<2147483629;decide),_,rfl,_,_,rfl,rfl,⟨by decide +kernel,Lj (by omega) (by omega)⟩,_,_,rfl,rfl,_,_,rfl,rfl,_,_,rfl,rfl,⟨Lj (by omega) (by omega),by decide +kernel⟩,_,_,rfl,rfl,(by show(0:Int)<2147483647;decide),?_⟩;refine⟨(by show 2<=sizeLine;decide),λp g=>?_⟩;exact q p _ g (Ap g _) ⟨d,_,AO,l,j,LN _ (by decide),LM _ (by decide)⟩
def j7:Ax ["pot","many","found"] ["pot","many"] (Ae Wu):=by walk_at "z1"
def ZCi(F:AH K "_law_take" "_law_take" Wu f fd)(m:mg "_law_take"=some (.ref f)):
  A9 P w K mg Zl "_law_take" 1 ["pot","many"] (Kz):=by
 refine A9.mk F (F.binds (by walk_at "bD2")) m (F.B5 (k:=0) j7 (λvs H Q E h=>?_) (λAX A outer s H vs Q E r h=>?_))
 .obtain⟨p,m,rfl,⟨a,b,d,a0,g,b0,l⟩,e,o,q⟩:=h;rfl
 obtain⟨p,m,rfl,⟨a,b,d,a0,g,b0,l⟩,e,o,q⟩:=h;refine⟨_,(AE rfl (Aw (Ah OY (AU FY (qv 0) A6) A6) (AE rfl (B2 2 j7.nd (BD K0 (AU FY (qv 0) A6) (qv 1)))
   (AE rfl (Xk (BD U1 (AU FY (qv 0) A6) (qv 1)) (fY (qv 0) A6 set_list))
   (AB rfl (Af (qv 2))))) B6)
   (AE rfl (Xk (BD K0 (BD Ew (BD Kd (AU FY (qv 0) A6) A6) A6) A6) (fY (qv 0) A6 set_list))
   (AB rfl (Af (BD K0 (BD U1 (BD K0 (BD Kd (AU FY (qv 0) A6) (AU FY (qv 0) A6)) A6) A6) (qv 1)))))),?_⟩
 refine⟨_,rfl,p,_,_,_,rfl,rfl,AQ.of d,rfl,_,_,rfl,rfl,_,rfl,?_⟩;refine B9 (λc=>?_) (λc=>?_)
 .have t:0<a:=lg c;refine⟨_,rfl,p,_,_,_,rfl,rfl,AQ.of d,rfl,_,rfl,_,_,rfl,rfl,e,?_⟩;refine⟨_,rfl,p,_,_,_,rfl,rfl,AQ.of d,rfl,_,rfl,_,_,rfl,rfl,⟨e,Lj (by omega) (by omega)⟩,?_⟩;refine⟨_,rfl,p,_,_,_,rfl,rfl,d,rfl,?_⟩;refine⟨_,rfl,?_⟩;refine q _ _ (LN _ (by omega)) (LM _ e) ⟨⟨a / m,b,AO,Int.ediv_nonneg a0 (by omega),ZD3 (Int.ediv_le_self _ a0) g,b0,l⟩,Fo.upd⟩
 .refine⟨_,rfl,p,_,_,_,rfl,rfl,AQ.of d,rfl,_,_,rfl,rfl,⟨Lj (by omega) (by omega),by decide +kernel⟩,_,_,rfl,rfl,_,_,rfl,rfl,(by show(0:Int)<2147483647;decide),?_⟩;refine⟨_,rfl,p,_,_,_,rfl,rfl,d,rfl,?_⟩;have j:0<=(b * 69621+12345) % 2147483647:=LN _ (by decide);have n:(b * 69621+12345) % 2147483647<2147483647:=LM _ (by decide);generalize hb:(b * 69621+12345) % 2147483647=b' at j n;have i:(upd H p (.lst [.int a,.int ((b * 69621+12345) % 2147483647)])) p=some (.lst [.int a,.int b']):=by rw[AO,hb]
  refine⟨_,rfl,p,_,_,_,rfl,rfl,AQ.of i,rfl,_,rfl,p,_,_,_,rfl,rfl,AQ.of i,rfl,_,_,rfl,rfl,⟨Lj (by omega) (by omega),Lj (by omega) (by omega)⟩,_,_,rfl,rfl,(by show(0:Int)<2147483629;decide),?_⟩;refine⟨_,_,rfl,rfl,⟨(by show(0:Int)<64;decide),by decide +kernel⟩,_,rfl,_,_,rfl,rfl,e,?_⟩;exact q _ _ (LN _ (by omega)) (LM _ e) ⟨⟨a,b',i,a0,g,j,n⟩,Fo.upd⟩
def RI:Ax ["number","word"] ["number"] (Ae Yg):=by walk_at "z1"
def xN(F:AH K "_law_letters" "_law_letters" Yg f fd)(m:mg "_law_letters"=some (.ref f)):
  A9 P w K mg Zl "_law_letters" 1 ["number"] (br):=by
 refine A9.mk F (F.binds (by walk_at "bD1")) m (F.B5 (k:=0) RI (λvs H Q E h=>?_) (λAX A outer s H vs Q E u h=>?_))
 .obtain⟨r,rfl,j,o,q⟩:=h;rfl
 obtain⟨r,rfl,j,o,q⟩:=h;refine⟨_,(AE rfl (B2 1 RI.nd Ac)
   (AE rfl (D2 (ah Hy (Iq (Ah BX (qv 1) Ac) (JM (Ah OY (qv 0) A6))).pt (AE rfl (B2 1 RI.nd (BD cq (qv 1) (AU wZ Ac (BD K0 (qv 0) A6))))
   (AB rfl (B2 0 RI.nd (BD U1 (qv 0) A6))))))
   (AB rfl (Af (qv 1))))),?_⟩
 obtain⟨n,rfl⟩:=Hu j;have hn:n<26 ^ 8:=by omega
 rw[SN]at q;refine⟨λσ' H'=>∃v,σ'=[some v,some (.str (Co (MA.lets n)))]/\H=H',?_,?_⟩
 .refine⟨λm σ' H'=>∃(k:Nat)(pre:List Nat),σ'=[some (.int k),some (.str (Co pre))]/\H=H'/\((pre=[]/\k=n/\m=n+2)∨(pre≠[]/\m=k+1/\(0<k->pre++MA.lets k=MA.lets n)/\(k=0->pre=MA.lets n))),⟨n+2,n,[],rfl,rfl,.inl ⟨rfl,rfl,rfl⟩⟩,?_⟩;rintro m σ' H'⟨k,pre,rfl,rfl,l⟩;refine⟨_,rfl,rfl,_,rfl,?_⟩;refine B9 (λc=>Vv ?_) (λc=>⟨_,rfl,_,_,rfl,rfl,_,rfl,?_⟩)
  .have d:pre=[]:=ij.mp (lg c);obtain⟨_,hk,p⟩|⟨h,_⟩:=l
   .have b:pre++MA.lets k=MA.lets n:=by rw[d,hk];rfl
    have a:pre.length+1<=8:=by
     have h1:=oW List.length b;rw[C0]at h1;have h2:=MA.RL 7 n hn;have t:=MA.WQ k;omega
    refine⟨λσ' H'=>σ'=[some (.int ((k:Int) / 26)),some (.str (Co pre++⟨#[97+((k:Int) % 26).toNat]⟩))]/\H=H',?_,?_⟩
    .rintro σ' H'⟨rfl,rfl⟩;have nx:=ZD b;have g:((k:Int) % 26).toNat=k % 26:=by omega
     have e:(k:Int) / 26=((k / 26:Nat):Int):=by omega
     exact⟨k / 26+1,by omega,k / 26,pre++[97+k % 26],by rw[g,e,iT],rfl,.inr ⟨by simp,rfl,nx.1,nx.2⟩⟩
    .refine⟨_,rfl,_,rfl,_,_,rfl,rfl,(by show(0:Int)<26;decide),_,_,_,rfl,rfl,(by decide +kernel),fE (LN _ (by decide)) (LM _ (by decide)),_,_,rfl,rfl,?_,?_⟩
     .rw[Py];exact small (show pre.length+1<=_ by omega)
     .exact⟨_,rfl,_,_,rfl,rfl,⟨(by show(0:Int)<26;decide),by decide +kernel⟩,rfl,rfl⟩
   .exact absurd d h
  .have d:pre≠[]:=λh=>c (kc (ij.mpr h));obtain⟨h,_⟩|⟨_,p,h1,h2⟩:=l
   .exact absurd h d
   refine B9 (λi=>?_) (λi=>?_)
   .have hk:0<k:=by have:(0:Int)<k:=lg i;omega
    have b:=h1 hk;have a:pre.length+1<=8:=by
     have h1:=oW List.length b;rw[C0]at h1;have h2:=MA.RL 7 n hn;have t:=MA.WQ k;omega
    refine⟨λσ' H'=>σ'=[some (.int ((k:Int) / 26)),some (.str (Co pre++⟨#[97+((k:Int) % 26).toNat]⟩))]/\H=H',?_,?_⟩
    .rintro σ' H'⟨rfl,rfl⟩;have nx:=ZD b;have g:((k:Int) % 26).toNat=k % 26:=by omega
     have e:(k:Int) / 26=((k / 26:Nat):Int):=by omega
     exact⟨k / 26+1,by omega,k / 26,pre++[97+k % 26],by rw[g,e,iT],rfl,.inr ⟨by simp,rfl,nx.1,nx.2⟩⟩
    .refine⟨_,rfl,_,rfl,_,_,rfl,rfl,(by show(0:Int)<26;decide),_,_,_,rfl,rfl,(by decide +kernel),fE (LN _ (by decide)) (LM _ (by decide)),_,_,rfl,rfl,?_,?_⟩
     .rw[Py];exact small (show pre.length+1<=_ by omega)
     .exact⟨_,rfl,_,_,rfl,rfl,⟨(by show(0:Int)<26;decide),by decide +kernel⟩,rfl,rfl⟩
   .have hk:k=0:=by
     have:¬ (0:Int)<k:=λz=>i (kc z);omega
    exact⟨_,by rw[h2 hk],rfl⟩
 .rintro σ' H'⟨v,rfl,rfl⟩;exact⟨_,rfl,q _ (A8.refl _)⟩
def Fs:Ax ["pot","names","some","way","name","number"] ["pot","names"] (Ae VF):=by walk_at "z1"
def tL(F:AH K "_law_name" "_law_name" VF f fd)(m:mg "_law_name"=some (.ref f)):
  A9 P w K mg Zl "_law_name" 2 ["pot","names"] (NI K):=by
 refine A9.mk F (F.binds (by walk_at "bD2")) m (F.B5 (k:=1) Fs (λvs H Q E h=>?_) (λAX A outer s H vs Q E g h=>?_))
 .obtain⟨p,q,ns,rfl,Y,B,Ak,hN,hL,K1⟩:=h;rfl
 obtain⟨p,q,ns,rfl,Y,B,Ak,hN,hL,K1⟩:=h;refine⟨_,(AE rfl (B2 2 Fs.nd (Ce (A0 Ac (A0 Ac (A0 Ac (A0 Ac (A0 Ac (A0 Ac (A0 Ac (A0 Ac (A0 Ac (A0 Ac (A0 Ac (A0 Ac (A0 Ac A5)))))))))))))))
   (AE rfl (B2 3 Fs.nd (AV Bu g (A0 (qv 0) (A0 A6 A5))))
   (AE rfl (B2 4 Fs.nd (AU Aa (qv 2) (AV Bu g (A0 (qv 0) (A0 A6 A5)))))
   (AE rfl (D2 (Aw (Ah BX (qv 3) A6) (AB rfl (B2 4 Fs.nd (AV Oe g (A0 (AV Bu g (A0 (qv 0) (A0 (BD Xy (BD MH A6 A6) A6) A5))) A5)))) B6))
   (AE rfl (D2 (Aw (Fw (Ah BX (qv 3) A6) (Gg (Ah (bC g.Lc) (qv 1) (Gw A5)))).pt (AE rfl (B2 4 Fs.nd (AU FY (qv 1) (AV Bu g (A0 (qv 0) (A0 (BQ E4 As (A0 (qv 1) A5)) A5)))))
   (AB rfl (B2 4 Fs.nd (HH bz (BD cq (qv 4) (AV Oe g (A0 (AV Bu g (A0 (qv 0) (A0 A6 A5))) A5))) IJ (GW A6))))) B6))
   (AE rfl (D2 (Aw (Fw (Ah BX (qv 3) A6) (Gg (Ah (bC g.Lc) (qv 1) (Gw A5)))).pt (AE rfl (B2 4 Fs.nd (AU FY (qv 1) (AV Bu g (A0 (qv 0) (A0 (BQ E4 As (A0 (qv 1) A5)) A5)))))
   (AB rfl (B2 4 Fs.nd (HH bz (qv 4) IJ (GW (BD Ew A6 (AV Bu g (A0 (qv 0) (A0 (BQ fD As (A0 (qv 4) A5)) A5))))))))) B6))
   (AE rfl (B2 5 Fs.nd A6)
   (AE rfl (D2 (ah Hy (Ah K5 (qv 4) (qv 1)) (AE rfl (B2 4 Fs.nd (AV Oe g (A0 (qv 5) A5)))
   (AB rfl (B2 5 Fs.nd (BD Ew (qv 5) A6))))))
   (AB rfl (Af (qv 4))))))))))),?_⟩
 have J:(ns.map V.str).length=ns.length:=AW _;have B:AQ K H q (ns.map V.str):=AQ.of B;refine⟨(by show 13<=sizeLine;decide +kernel),λo G8=>?_⟩;have FI:o≠p:=by
  obtain⟨_,_,e,_⟩:=Y;exact(Eb e G8).symm
 have g0:BC p H (upd H o (.tup Rp)):=BC.of Y (Ap G8 _);refine⟨_,rfl,p,4,rfl,g0.AF,by decide,by decide,λd H1 w0 w1 s1=>?_⟩;refine⟨_,rfl,_,rfl,p,13,rfl,s1.AF,by decide,by decide,λi H2 I u s2=>?_⟩;have h2:H2 o=some (.tup Rp):=s2.at' (s1.at' AO FI) FI;obtain⟨x,hx,nx⟩:=ZB8 I u;refine⟨o,_,_,_,rfl,rfl,AD.of h2,hx,?_⟩;have T:=g0.trans (s1.trans s2);refine⟨λσ' H'=>∃x,σ'=[some (.ref p),some (.ref q),some (.ref o),some (.int d),some (.str x),none]/\Nm x/\BC p H H',?_,?_⟩
 .refine⟨_,rfl,rfl,_,rfl,?_⟩;refine B9 (λc=>?_) (λc=>?_)
  .refine⟨_,rfl,_,_,rfl,rfl,⟨by decide,by decide,by decide +kernel⟩,_,_,rfl,rfl,p,_,rfl,T.AF,ZAZ,ZCu,λr H3 G R s3=>?_⟩;have M:r<26 ^ 8:=Int.lt_trans R kd;exact⟨r,rfl,G,M,λH4 s4=>⟨_,rfl,Ud (ZN G M),(T.trans s3).trans (BC.of s3.AF s4)⟩⟩
  .exact⟨x,rfl,nx,T⟩
 clear h2 hx nx s2 T I u;rintro σ' H3⟨y,rfl,t,l⟩;refine⟨λσ' H'=>∃x,σ'=[some (.ref p),some (.ref q),some (.ref o),some (.int d),some (.str x),none]/\Nm x/\BC p H H',?_,?_⟩
 .refine⟨_,rfl,rfl,_,rfl,?_⟩;refine B9 (λc=>?_) (λc=>Br ⟨y,rfl,t,l⟩);refine⟨_,rfl,(by show 0<=sizeLine;decide),λe σ=>?_⟩;have b:=l.trans (BC.of l.AF (Ap σ (.lst [])));have O:=b.Nh B Ak;refine⟨q,e,_,[],rfl,rfl,.inl ⟨O,AQ.of AO⟩,EJ ns,rfl,_,rfl,?_⟩;rw[OH];refine B9 (λN=>?_) (λN=>⟨y,rfl,t,b⟩);have GQ:0<ns.length:=by
   cases ns with
   |nil=>simp at N
   |cons a r=>simp
  refine⟨_,rfl,_,rfl,_,rfl,q,_,rfl,.inl O,p,_,rfl,b.AF,(by rw[J];omega),(by rw[J];omega),λi H5 I u W=>?_⟩;rw[J]at u;have D:=b.trans W;obtain⟨z,X,YO,_⟩:=R8 I u;have C:=hN z YO;refine⟨q,_,_,_,rfl,rfl,D.Nh B Ak,X,?_⟩;refine⟨_,rfl,_,rfl,p,26,rfl,D.AF,by decide,by decide,λr H6 G R U=>?_⟩;have S:=D.trans U;have M:r<26 ^ 8:=Int.lt_trans R w8;refine⟨r,rfl,G,M,λH7 s7=>?_⟩;have S:=S.trans (BC.of S.AF s7);have nl:=Ud (n:=r.toNat) (ZN G M);have hlen:z.length+(Co (MA.lets r.toNat)).length<=16:=by have:=C.2.1;have:=nl.2.1;omega
  refine⟨_,_,rfl,rfl,small (by omega),?_⟩;refine⟨_,rfl,_,rfl,small (by rw[eB];omega),?_⟩;refine⟨_,rfl,fm (by decide) (by decide) (by rw[eB];have:=C.1;omega) (λc L=>?_),S⟩;rw[fg]at L;rcases List.mem_append.mp L with L|L
  .exact C.2.2 c L
  .exact nl.2.2 c L
 clear t l;rintro σ' H3⟨y,rfl,t,l⟩;refine⟨λσ' H'=>∃x,σ'=[some (.ref p),some (.ref q),some (.ref o),some (.int d),some (.str x),none]/\Nm x/\BC p H H',?_,?_⟩
 .refine⟨_,rfl,rfl,_,rfl,?_⟩;refine B9 (λc=>?_) (λc=>Br ⟨y,rfl,t,l⟩);refine⟨_,rfl,(by show 0<=sizeLine;decide),λe σ=>?_⟩;have b:=l.trans (BC.of l.AF (Ap σ (.lst [])));have O:=b.Nh B Ak;refine⟨q,e,_,[],rfl,rfl,.inl ⟨O,AQ.of AO⟩,EJ ns,rfl,_,rfl,?_⟩;rw[OH];refine B9 (λN=>?_) (λN=>⟨y,rfl,t,b⟩);have GQ:0<ns.length:=by
   cases ns with
   |nil=>simp at N
   |cons a r=>simp
  refine⟨_,rfl,_,rfl,_,rfl,q,_,rfl,.inl O,p,_,rfl,b.AF,(by rw[J];omega),(by rw[J];omega),λi H5 I u W=>?_⟩;rw[J]at u;have D:=b.trans W;obtain⟨z,X,YO,_⟩:=R8 I u;have C:=hN z YO;refine⟨q,_,_,_,rfl,rfl,D.Nh B Ak,X,?_⟩;have xl:=C.1;have nz2:=C.2.1;refine⟨_,rfl,_,rfl,_,rfl,_,rfl,small (by omega),p,_,rfl,D.AF,(by omega),(by omega),λr H6 G R U=>?_⟩;refine⟨_,_,rfl,rfl,_,rfl,_,rfl,small (by omega),?_⟩;exact⟨_,rfl,fm (by omega) (by omega) xl C.2.2,D.trans U⟩
 clear t l;rintro σ' H3⟨y,rfl,t,l⟩;refine⟨λσ' H'=>∃x v,σ'=[some (.ref p),some (.ref q),some (.ref o),some (.int d),some (.str x),some v]/\Nm x/\x∉ns/\BC p H H',?_,?_⟩
 .refine⟨λm σ' H'=>∃(k:Nat)(x:Str),σ'=[some (.ref p),some (.ref q),some (.ref o),some (.int d),some (.str x),some (.int k)]/\BC p H H'/\Nm x/\m=ns.length+1 - k/\k<=ns.length+1/\(0<k->x=Co (MA.lets (k - 1)))/\(∀j,j+1<k->Co (MA.lets j)∈ns),
   ⟨ns.length+1,0,y,rfl,l,t,rfl,C1 _,λh=>absurd h (by decide),λj h=>absurd h (by omega)⟩,?_⟩
  rintro m σ' H'⟨k,x,rfl,b,nx,rfl,hk,hx,hj⟩;refine⟨_,rfl,_,rfl,q,_,rfl,.inl (b.Nh B Ak),rfl,EJ ns,_,rfl,?_⟩;rw[km (by decide),IB];refine B9 (λc=>?_) (λc=>⟨x,_,rfl,nx,λz=>c (kc z),b⟩);have WY:x∈ns:=lg c;have KA:∀j,j<k->Co (MA.lets j)∈ns:=λj Tt=>by
   by_cases e:j+1<k
   .exact hj j e
   .have e2:j=k - 1:=by omega
    rw[e2,<- hx (by omega)];exact WY
  have kY:=pB KA;refine⟨λσ' H'=>σ'=[some (.ref p),some (.ref q),some (.ref o),some (.int d),some (.str (Co (MA.lets k))),some (.int ((k:Int)+1))]/\BC p H H',?_,?_⟩
  .rintro σ' H'⟨rfl,b⟩;exact⟨ns.length+1 - (k+1),by omega,k+1,Co (MA.lets k),rfl,b,Ud (LS (CK kY hL) sG),rfl,by omega,λ_=>rfl,λj Tt=>KA j (by omega)⟩
  .refine⟨_,rfl,k,rfl,by omega,?_,λH4 s4=>?_⟩
   .have:(k:Int)<=1000:=by omega
    exact ZD3 this qm
   .rw[SN];exact⟨_,rfl,_,_,rfl,rfl,rfl,b.trans (BC.of b.AF s4)⟩
 rintro σ' H'⟨x,v,rfl,nx,hx,b⟩;exact⟨_,rfl,K1 x H' nx hx b⟩
def Tc:Ax ["pot","many","names","k"] ["pot","many"] (Ae Tx):=by walk_at "z1"
def mR(F:AH K "_law_names" "_law_names" Tx f fd)(m:mg "_law_names"=some (.ref f)):
  A9 P w K mg Zl "_law_names" 3 ["pot","many"] (j6):=by
 refine A9.mk F (F.binds (by walk_at "bD2")) m (F.B5 (k:=2) Tc (λvs H Q E h=>?_) (λAX A outer s H vs Q E u h=>?_))
 .obtain⟨p,m,rfl,j,r,o,q⟩:=h;rfl
 obtain⟨p,m,rfl,j,r,o,q⟩:=h;refine⟨_,(AE rfl (B2 2 Tc.nd (Gw A5))
   (AE rfl (D2 (IC Hy rfl (cg rfl LA (A0 (qv 1) A5)) (Ff 3 Tc.nd) (AB rfl (CP (Ks Oo Z6 Z7 QX (qv 2) (A0 (AV IK u (A0 (qv 0) (A0 (qv 2) A5))) A5))))))
   (AB rfl (Af (qv 2))))),?_⟩
 refine⟨(by show 0<=sizeLine;decide),λl c=>?_⟩;have d:=j.ne c;refine⟨λσ' H'=>∃(ns:List Str)(v:Option V),σ'=[some (.ref p),some (.int m),some (.ref l),v]/\BC p H H'/\H' l=some (.lst (ns.map V.str))/\(ns.length:Int)=m/\(∀x∈ns,Nm x)/\ns.Nodup,?_,?_⟩
 .refine⟨_,rfl,m,rfl,by omega,by omega,uG (n:=m.toNat) (λi σ' H'=>∃(ns:List Str)(v:Option V),σ'=[some (.ref p),some (.int m),some (.ref l),v]/\BC p H H'/\H' l=some (.lst (ns.map V.str))/\ns.length=i/\(∀x∈ns,Nm x)/\ns.Nodup) ?_ ?_ ?_⟩
  .exact⟨[],none,rfl,(BC.of j (A8.refl H)).upd c d,AO,rfl,λx hx=>absurd hx (by simp),by simp⟩
  .rintro i σ' H' hi⟨ns,v,rfl,g,e,a,b,nd⟩;refine⟨_,rfl,.inl ⟨rfl,_,AQ.of e⟩,_,rfl,_,rfl,p,l,ns,rfl,g.AF,e,d,b,by omega,λx H2 nx hx s2=>?_⟩;refine⟨l,_,_,rfl,rfl,s2.at' e d,LS (m:=100) (by rw[AW];omega) (by decide +kernel),?_⟩;refine⟨ns++[x],_,rfl,(g.trans s2).upd c d,by rw[AO,Dp];rfl,by rw[C0];simp[a],λy t=>?_,M5 nd hx⟩;rcases List.mem_append.mp t with h|h
   .exact b y h
   .have:y=x:=by simpa using h
    rw[this];exact nx
  .rintro σ' H'⟨ns,v,rfl,g,e,a,b,nd⟩;exact⟨ns,v,rfl,g,e,by omega,b,nd⟩
 rintro σ' H'⟨ns,v,rfl,g,e,a,b,nd⟩;exact⟨_,rfl,q l H' ns c g e a b nd⟩
def Uu:Ax ["pot","most","many"] ["pot","most"] (Ae Vq):=by walk_at "z1"
def xF(F:AH K "_law_row" "_law_row" Vq f fd)(m:mg "_law_row"=some (.ref f)):
  A9 P w K mg Zl "_law_row" 4 ["pot","most"] (VQ):=by
 refine A9.mk F (F.binds (by walk_at "bD2")) m (F.B5 (k:=3) Uu (λvs H Q E h=>?_) (λAX A outer s H vs Q E b h=>?_))
 .obtain⟨p,m,rfl,o,i,x,q⟩:=h;rfl
 obtain⟨p,m,rfl,o,i,x,q⟩:=h;refine⟨_,(AE rfl (B2 2 Uu.nd (AV Bu b (A0 (qv 0) (A0 (BD Ew (qv 1) A6) A5))))
   (AE rfl (D2 (Aw (Ah BX (AV Bu b (A0 (qv 0) (A0 A6 A5))) A6) (AB rfl (B2 2 Uu.nd (AU Aa (Ce (A0 A6 (A0 A6 (A0 (qv 1) A5)))) (AV Bu b (A0 (qv 0) (A0 A6 A5)))))) B6))
   (AB rfl (Af (AV Sy b (A0 (qv 0) (A0 (qv 2) A5))))))),?_⟩
 refine⟨_,rfl,_,rfl,_,_,rfl,rfl,p,_,rfl,o,by omega,by omega,λa H1 n0 n1 s1=>?_⟩;refine⟨λσ' H'=>∃k:Int,σ'=[some (.ref p),some (.int m),some (.int k)]/\0<=k/\k<=m/\BC p H H',?_,?_⟩
 .refine⟨_,rfl,p,8,rfl,s1.AF,by decide,by decide,λr H2 I G s2=>?_⟩;have c:=s1.trans s2;refine⟨rfl,_,rfl,?_⟩;refine B9 (λ_=>?_) (λ_=>⟨a,rfl,n0,by omega,c⟩);refine⟨_,rfl,(by show 3<=sizeLine;decide +kernel),λt n=>?_⟩;have D:=c.AF.ne n;have v:=c.trans (BC.of c.AF (Ap n (.tup [.int 0,.int 1,.int m])));refine⟨_,rfl,p,3,rfl,v.AF,by decide,by decide,λj H4 z y s4=>?_⟩;obtain⟨k,hk,d,k1⟩:=qz z y i;exact⟨t,_,_,_,rfl,rfl,AD.of (s4.at' AO D),hk,k,rfl,d,k1,v.trans s4⟩
 rintro σ' H'⟨k,rfl,d,k1,g⟩;refine⟨_,rfl,_,rfl,p,k,rfl,g.AF,d,by omega,λl H' ns B s e u C nd=>?_⟩;exact q l H' ns (g.none B) (g.trans s) e (by omega) C nd
def p8:Ax ["rule"] ["rule"] (Ae UT):=by walk_at "z1"
def yz(F:AH K "check_rule" "check_rule" UT f fd)(m:mg "check_rule"=some (.ref f)):
  A9 P w K mg Zl "check_rule" 1 ["rule"] (d4):=by
 refine A9.mk F (F.binds (by walk_at "bD1")) m (F.B5 (k:=0) p8 (λvs H Q E h=>?_) (λAX A outer s H vs Q E b h=>?_))
 .obtain⟨r,rfl,Od,q⟩:=h;rfl
 obtain⟨r,rfl,Od,q⟩:=h;refine⟨_,(AB rfl (Aw (Ah O7 (qv 0) (Mf (v:=.ref Dg) (by rfl) Im rfl)) (AB rfl GF) B6)),?_⟩;refine⟨_,rfl,Dg,_,rfl,.inr (IW H),rfl,rfl,_,rfl,?_⟩;have a:Di (.str r) (Dk.map V.str)=decide (r∈Dk):=IB r Dk;show if(!Di (.str r) (Dk.map V.str))=true then _ else _
 rw[a,kc Od];exact Br q
def xB:Ax ["row","rule"] ["row","rule"] (Ae XR):=by walk_at "z1"
def uN(F:AH K "begun" "begun" XR f fd)(m:mg "begun"=some (.ref f)):
  A9 P w K mg Zl "begun" 2 ["row","rule"] (RF K):=by
 refine A9.mk F (F.binds (by walk_at "bD2")) m (F.B5 (k:=1) xB (λvs H Q E h=>?_) (λAX A outer s H vs Q E n h=>?_))
 .obtain⟨a,tp,ns,r,rfl,i,Od,d,q⟩:=h;rfl
 obtain⟨a,tp,ns,r,rfl,i,Od,d,q⟩:=h;refine⟨_,(AE rfl (CP (AV Y8 n (A0 (qv 1) A5)))
   (AB rfl (Af (Ce (A0 (qv 1) (A0 A6 (A0 (EO Sw Ir (A0 (BQ gS Fn (A0 (qv 0) A5)) A5)) A5))))))),?_⟩
 refine⟨_,rfl,r,rfl,Od,?_⟩;refine⟨_,rfl,_,rfl,a,tp,ns,rfl,i,d,λl ts p o j=>?_⟩;have n1:=Ap p (.lst (ts.map V.str));refine⟨l,_,rfl,.inl ⟨AQ.of AO,λc g=>?_⟩⟩;have n2:=Ap g (.tup (ts.map V.str));refine⟨(by show 3<=sizeLine;decide),λt e=>?_⟩;have b:=Ap e (.tup [.str r,.int 0,.ref c]);exact q t c _ ts (A8.none (n1.trans n2) e) (A8.none n1 g) (n1.trans (n2.trans b)) o j ⟨AO,b _ _ AO⟩
def nM:Ax ["state","entry"] ["state","entry"] (Ae Uc):=by walk_at "z1"
def ZQ : ∀ss R,O0 ss R->ss.length=2:=by rintro _ _⟨s,es,a,t,e,rfl,_,_,rfl⟩;rfl
def sk(F:AH K "_law_write" "_law_write" Uc f fd)(m:mg "_law_write"=some (.ref f)):
  A9 P w K mg Zl "_law_write" 1 ["state","entry"] (Bj O0):=by
 refine A9.mk F (F.binds (by walk_at "bD2")) m (F.B5 (k:=0) nM (λvs H Q E h=>Fz.Gs ZQ h) (λAX A outer s H vs Q E b h=>?_))
 refine⟨_,(AB rfl (CP (Ks Oo Z6 Z7 QX (By (BJ b) (qv 0) Ac (λ_ _=>rfl)) (A0 (qv 1) A5)))),?_⟩;refine Fz.Qc h ZQ ?_;rintro _ _⟨s,es,a,t,e,rfl,⟨aL,aN,aE,rfl⟩,c,rfl⟩;show Ws [_,_] _ _ _;refine i5 (i:=0) (ZCb rfl ⟨true,aE,_,rfl,rfl,by rw[AW,AW];omega,E6 (AK rfl ⟨Au,?_⟩)⟩);unfold BZ;rw[q3];refine⟨_,_,_,_,rfl,rfl,rfl,aL,aN,aE,?_⟩;unfold BZ;rw[Dp,Dp];rfl
def oJ:Ax ["row","gap"] ["row","gap"] (Ae T5):=by walk_at "z1"
def mX(F:AH K "is_gap" "is_gap" T5 f fd)(m:mg "is_gap"=some (.ref f)):
  A9 P w K mg Zl "is_gap" 1 ["row","gap"] (bS K):=by
 refine A9.mk F (F.binds (by walk_at "bD2")) m (F.B5 (k:=0) oJ (λvs H Q E h=>?_) (λAX A outer s H vs Q E i h=>?_))
 .obtain⟨a,tp,ns,g,rfl,b,q⟩:=h;rfl
 obtain⟨a,tp,ns,g,rfl,b,q⟩:=h;refine⟨_,(AB rfl (Af (cv Gp Gp A6 (qv 1) (BQ E4 As (A0 (qv 0) A5))))),?_⟩;have d:=Fe ns;refine⟨_,rfl,_,_,rfl,rfl,_,rfl,?_⟩;refine B9 (λc=>?_) (λc=>?_)
 .refine⟨_,rfl,a,_,rfl,b.or,_,_,rfl,rfl,?_⟩;rw[d];have e:KO ns.length g=decide (g<=(ns.length:Int)):=by unfold KO;rw[c];rfl
  show Q (.bl (decide (g<=(ns.length:Int)))) H;rw[<- e];exact q
 .have e:KO ns.length g=false:=by unfold KO;rw[Bool.eq_false_iff.mpr c];rfl
  show Q (.bl false) H;rw[<- e];exact q
def x5:Ax ["row","coming"] ["row","coming"] (Ae Q4):=by walk_at "z1"
noncomputable abbrev Sc(l):=Scope.mk .function l false false []
def zD:=Sc [(".0",.local),("name",.local),("row",.free)]
def kK:Gd ["row","coming"] (Ae Q4) zD "name" ["row"] [0]:=by walk_at "z2"
def mJ(F:AH K "is_coming" "is_coming" Q4 f fd)(m:mg "is_coming"=some (.ref f)):
  A9 P w K mg Zl "is_coming" 1 ["row","coming"] (aX K):=by
 refine A9.mk F (F.binds (by walk_at "bD2")) m (F.B5 (k:=0) x5 (λvs H Q E h=>?_) (λAX A outer s H vs Q E t h=>?_))
 .obtain⟨a,tp,ns,c,ss,rfl,l,d,C3,q⟩:=h;rfl
 obtain⟨a,tp,ns,c,ss,rfl,l,d,C3,q⟩:=h;refine⟨_,(AB rfl (Af (OX (Hk (Rc t.Lc) (EO KS CD (A0 (qv 1) A5)) (BQ (ZCm rfl) Fn (A0 (EO (xk rfl) TY (A0 (qv 1) A5)) A5))) (N6 (BQ (UQ rfl) IF (A0 (Ky rfl kK (Hd (qv 1)) (λ_ _ _ _=>by exact Uh) (λ_ _ _ _=>by exact(Hk (show BH _ (compareOp .In) (I0 K false)from K5) (qv 1) (qv 0)))) A5)))))),?_⟩;have u:=Fe ss;refine⟨_,rfl,c,_,rfl,.inr d,λl1 IQ=>?_⟩;have n1:=Ap IQ (.lst (ss.map V.str));refine⟨_,rfl,c,true,ss,rfl,n1.Jl d,by omega,λl2 EG=>?_⟩;have n2:=Ap EG (PX P w l2 (λk'=>(dd ss).any (· == k')) (dd ss).length)
 refine⟨l2,_,_,rfl,AO,by have:=dM ss;omega,λp ts Q0 B z y=>?_⟩;have j:=Ap Q0 (.lst (ts.map V.str));have b:=n1.trans (n2.trans j);refine⟨l1,p,_,_,rfl,rfl,.inl ⟨AQ.of (j _ _ (n2 _ _ AO)),AQ.of AO⟩,EJ ss,EJ ts,_,rfl,?_⟩;have r:Dv (ss.map V.str) (ts.map V.str)=Jz ss:=by rw[ZBP];unfold Jz;rw[decide_eq_decide];exact si B z y
 show if Dv (ss.map V.str) (ts.map V.str)=true then _ else _
 rw[r];refine B9 (λg=>?_) (λg=>?_)
 .have o:=b.Jl d;refine⟨_,rfl,true,c,_,rfl,o,λacc BB=>Pz (tp:=true) (λ_=>true) (λv=>.bl (Di v (ns.map V.str))) o BB (by rw[u];exact small (by omega)) (λi v H' Q' _ _ h=>h H' (A8.refl _)) (λi v H' Q' hv _ s4 h=>?_) (λH' s4 n=>?_)⟩
  .obtain⟨x,rfl,C⟩:=Q8 hv;exact⟨_,rfl,_,rfl,a,_,rfl,((b.trans s4).sq l).or,rfl,EJ ns,h _ (A8.refl _)⟩
  .rw[wH]at n;refine⟨acc,_,rfl,AQ.of n,?_⟩;rw[all_map];have e:(Jz ss && Jv ns ss)=Jv ns ss:=by rw[g];rfl
   show Q (.bl (Jv ns ss)) H';rw[<- e];exact q _ (b.trans s4)
 .have e:(Jz ss && Jv ns ss)=false:=by rw[Bool.eq_false_iff.mpr g];rfl
  rw[<- e];exact q _ b
def u3:Ax ["row","thing"] ["row","thing"] (Ae Xs):=by walk_at "z1"
def kD(F:AH K "is_loop" "is_loop" Xs f fd)(m:mg "is_loop"=some (.ref f)):
  A9 P w K mg Zl "is_loop" 2 ["row","thing"] (ai K):=by
 refine A9.mk F (F.binds (by walk_at "bD2")) m (F.B5 (k:=1) u3 (λvs H Q E h=>?_) (λAX A outer s H vs Q E l h=>?_))
 .obtain⟨a,tp,ns,t,r,g,ss,rfl,i,⟨c,b,n⟩,C3,q⟩:=h;rfl
 obtain⟨a,tp,ns,t,r,g,ss,rfl,i,⟨c,b,n⟩,C3,q⟩:=h;refine⟨_,(AB rfl (Af (OX (Hk K5 (AU Aa (qv 1) A6) (Mf (v:=.ref Dg) (by rfl) Im rfl)) (OX (AV TC l (A0 (qv 0) (A0 (AU Aa (qv 1) A6) A5))) (N6 (AV XE l (A0 (qv 0) (A0 (AU Aa (qv 1) A6) A5)))))))),?_⟩;refine⟨_,rfl,t,_,_,_,rfl,rfl,b,rfl,Dg,_,rfl,.inr (IW H),rfl,rfl,_,rfl,?_⟩;have o:Di (.str r) (Dk.map V.str)=decide (r∈Dk):=IB r Dk;show if Di (.str r) (Dk.map V.str)=true then _ else _
 rw[o];refine B9 (λd=>?_) (λd=>?_)
 .refine⟨_,rfl,_,rfl,t,_,_,_,rfl,rfl,b,rfl,a,tp,ns,g,rfl,i,_,rfl,?_⟩;refine B9 (λj=>?_) (λj=>?_)
  .refine⟨_,rfl,_,rfl,t,_,_,_,rfl,rfl,b,rfl,a,tp,ns,c,ss,rfl,i,n,C3,λH' s'=>?_⟩;have e:Eg ns r g ss=(Jz ss && Jv ns ss):=by unfold Eg;rw[d,j];rfl
   rw[<- e];exact q _ s'
  .have e:Eg ns r g ss=false:=by unfold Eg;rw[d,Bool.eq_false_iff.mpr j];rfl
   rw[<- e];exact q _ (A8.refl _)
 .have e:Eg ns r g ss=false:=by unfold Eg;rw[Bool.eq_false_iff.mpr d];rfl
  rw[<- e];exact q _ (A8.refl _)
def ZBe:Ax ["row","loop"] ["row","loop"] (Ae Yf):=by walk_at "z1"
def me(F:AH K "check_loop" "check_loop" Yf f fd)(m:mg "check_loop"=some (.ref f)):
  A9 P w K mg Zl "check_loop" 3 ["row","loop"] (V5 K):=by
 refine A9.mk F (F.binds (by walk_at "bD2")) m (F.B5 (k:=2) ZBe (λvs H Q E h=>?_) (λAX A outer s H vs Q E d h=>?_))
 .obtain⟨a,tp,ns,t,r,g,ss,rfl,b,c,C3,ok,q⟩:=h;rfl
 obtain⟨a,tp,ns,t,r,g,ss,rfl,b,c,C3,ok,q⟩:=h;refine⟨_,(AB rfl (Aw (J9 (MT (AV YB d (A0 (qv 0) (A0 (qv 1) A5))))) (AB rfl GF) B6)),?_⟩;refine⟨_,rfl,_,rfl,a,tp,ns,t,r,g,ss,rfl,b,c,C3,λH' s1=>⟨_,rfl,?_⟩⟩;refine AZ (by rw[ok];decide) ?_;exact q _ s1
def ZAO:Ax ["things","loop"] ["things","loop"] (Ae Qo):=by walk_at "z1"
def qo:=Sc [(".0",.local),("name",.local),("loop",.free)]
def kS:Gd ["things","loop"] (Ae Qo) qo "name" ["loop"] [1]:=by walk_at "z2"
def lL(F:AH K "things_to_come" "things_to_come" Qo f fd)(m:mg "things_to_come"=some (.ref f)):
  A9 P w K mg Zl "things_to_come" 1 ["things","loop"] (fV K):=by
 refine A9.mk F (F.binds (by walk_at "bD2")) m (F.B5 (k:=0) ZAO (λvs H Q E h=>?_) (λAX A outer s H vs Q E o h=>?_))
 .obtain⟨a,tp,ns,t,r,g,ss,rfl,b,⟨c,d,e⟩,l,q⟩:=h;rfl
 obtain⟨a,tp,ns,t,r,g,ss,rfl,b,⟨c,d,e⟩,l,q⟩:=h;refine⟨_,(AB rfl (Af (Ky rfl kS (Hd (qv 0)) (λ_ _ _ _=>by exact(RH (Ah (show BH _ (compareOp .In) (I0 K false)from K5) (qv 1) (AU (show J3 _ (J7 K)from Aa) (qv 0) A6)))) (λ_ _ _ _=>by exact(qv 1))))),?_⟩;have n:=Fe ns;refine⟨_,rfl,tp,a,_,rfl,b,λacc BB=>Pz (λv=>Di v (ss.map V.str)) (λv=>v) b BB (by rw[n];exact small (by omega)) (λi v H' Q' hv s1 h=>?_) (λi v H' Q' hv _ s1 h=>?_) (λH' s1 j=>?_)⟩
 .obtain⟨x,rfl,_⟩:=Q8 hv;exact⟨_,rfl,_,rfl,t,_,_,_,rfl,rfl,s1.Jl d,rfl,c,_,rfl,.inr (s1.Jl e),rfl,EJ ss,_,rfl,h _ (A8.refl _)⟩
 .exact⟨_,rfl,h _ (A8.refl _)⟩
 .rw[rU]at j;exact q acc H' BB s1 j
def fv:Ax ["row","loop","gap"] ["row","loop"] (Ae Su):=by walk_at "z1"
def kA(F:AH K "rest" "rest" Su f fd)(m:mg "rest"=some (.ref f)):
  A9 P w K mg Zl "rest" 4 ["row","loop"] (gL K):=by
 refine A9.mk F (F.binds (by walk_at "bD2")) m (F.B5 (k:=3) fv (λvs H Q E h=>?_) (λAX A outer s H vs Q E e h=>?_))
 .obtain⟨a,tp,ns,t,r,g,ss,rfl,d,b,C3,ok,G,q⟩:=h;rfl
 obtain⟨a,tp,ns,t,r,g,ss,rfl,d,b,C3,ok,G,q⟩:=h;refine⟨_,(AE rfl (CP (AV Md e (A0 (qv 0) (A0 (qv 1) A5))))
   (AE rfl (B2 2 fv.nd (AU Aa (qv 1) A6))
   (AB rfl (Af (BD NR (AV Ro e (A0 (HH Kw (qv 0) (GW (qv 2)) IJ) (A0 (qv 1) A5))) (AV Ro e (A0 (HH Kw (qv 0) IJ (GW (qv 2))) (A0 (qv 1) A5)))))))),?_⟩
 have R:=Fe ns;refine⟨_,rfl,_,rfl,a,tp,ns,t,r,g,ss,rfl,BF.sq d,b,C3,ok,λH1 s1=>?_⟩;obtain⟨c,J,S⟩:=id b;have O:=s1.Jl J;refine⟨_,rfl,t,_,_,_,rfl,rfl,O,rfl,?_⟩;have N:=s1 _ _ d;refine⟨_,rfl,_,rfl,_,rfl,a,tp,_,rfl,BF.sq N,λp2 H2 s2 u=>?_⟩;rw[Xz,<- jh]at u;have n:=s1.trans s2;refine⟨_,rfl,p2,tp,ns.drop g,t,r,g,ss,rfl,u,b.same n,by rw[GG];omega,λD H3 Q0 y M=>?_⟩;have l:=n.trans y;refine⟨_,rfl,_,rfl,_,rfl,a,tp,_,rfl,BF.sq (l _ _ d),λz H4 s4 p=>?_⟩;rw[XO,<- ji]at p;have k4:=l.trans s4;refine⟨_,rfl,z,tp,ns.take g,t,r,g,ss,rfl,p,b.same k4,by rw[CI];omega,λC H5 I i L=>?_⟩;have j:=k4.trans i;have x:=Oj (Jj ss) (ns.drop g);have v:=Oj (Jj ss) (ns.take g);rw[GG]at x;rw[CI]at v;refine⟨D,C,_,_,rfl,rfl,i _ _ (s4 _ _ M),L,small (by rw[AW,AW];omega),λB o=>?_⟩;refine q B _ (A8.none j o) (j.trans (Ap o _)) ?_;rw[AO,<- Dp];rfl
def yP:Ax ["coming","gone"] ["coming","gone"] (Ae RN):=by walk_at "z1"
def ZBt:=Sc [(".0",.local),("name",.local),("gone",.free)]
def wt:Gd ["coming","gone"] (Ae RN) ZBt "name" ["gone"] [1]:=by walk_at "z2"
def ZCS(F:AH K "coming_without" "coming_without" RN f fd)(m:mg "coming_without"=some (.ref f)):
  A9 P w K mg Zl "coming_without" 1 ["coming","gone"] (Tu K):=by
 refine A9.mk F (F.binds (by walk_at "bD2")) m (F.B5 (k:=0) yP (λvs H Q E h=>?_) (λAX A outer s H vs Q E l h=>?_))
 .obtain⟨c,ss,x,rfl,b,g,q⟩:=h;rfl
 obtain⟨c,ss,x,rfl,b,g,q⟩:=h;refine⟨_,(AB rfl (Af (EO Sw Ir (A0 (Ky rfl wt (Hd (qv 0)) (λ_ _ _ _=>by exact(RH (Ah Y9 (qv 1) (qv 0)))) (λ_ _ _ _=>by exact(qv 1))) A5)))),?_⟩;have j:=Fe ss;have e:CS K true H c (ss.map V.str):=b;refine⟨_,rfl,true,c,_,rfl,e,λacc BB=>Pz (Rh (.str x)) (λv=>v) e BB (by rw[j];exact small (by omega)) (λi v H' Q' hv s1 h=>?_) (λi v H' Q' hv _ s1 h=>?_) (λH' s1 d=>?_)⟩
 .obtain⟨y,rfl,_⟩:=Q8 hv;exact⟨_,rfl,_,rfl,rfl,_,rfl,h _ (A8.refl _)⟩
 .exact⟨_,rfl,h _ (A8.refl _)⟩
 .rw[eI]at d;refine⟨acc,_,rfl,.inl ⟨AQ.of d,λt a=>?_⟩⟩;exact q t _ (A8.none s1 a) (s1.trans (Ap a _)) AO
def vA:Ax ["row","name"] ["row","name"] (Ae YX):=by walk_at "z1"
def wq(F:AH K "place_of" "place_of" YX f fd)(m:mg "place_of"=some (.ref f)):
  A9 P w K mg Zl "place_of" 1 ["row","name"] (My):=by
 refine A9.mk F (F.binds (by walk_at "bD2")) m (F.B5 (k:=0) vA (λvs H Q E h=>?_) (λAX A outer s H vs Q E c h=>?_))
 .obtain⟨a,tp,ns,x,rfl,b,hx,q⟩:=h;rfl
 obtain⟨a,tp,ns,x,rfl,b,hx,q⟩:=h;refine⟨_,(AE rfl (Aw (Ah O7 (qv 1) (qv 0)) (AB rfl GF) B6)
   (AB rfl (Af (qS (Ks Oo ZDZ PySem.F.type_list_index mT (qv 0) (A0 (qv 1) A5)) (Ks PySem.F.plainAttrs_tuple ZDb PySem.F.type_tuple_index ZBi (qv 0) (A0 (qv 1) A5)))))),?_⟩
 refine⟨_,rfl,_,rfl,a,_,rfl,(BF.sq (K:=K) b).or,rfl,EJ ns,_,rfl,?_⟩;refine AZ (by show ¬ (!Di (V.str x) (ns.map V.str))=true;rw[IB,kc hx];decide) ?_;cases tp with
 |false=>exact .inl ⟨_,rfl,.inl ⟨rfl,_,AQ.of b⟩,_,rfl,a,ns,x,rfl,rfl,AQ.of b,hx,q⟩
 |true=>exact .inr ⟨_,rfl,.inr (.inr (.inr (.inr ⟨rfl,_,b⟩))),_,rfl,a,ns,x,rfl,rfl,AD.of b,hx,q⟩
def qT:Ax ["row","loop","name"] ["row","loop","name"] (Ae Uo):=by walk_at "z1"
def ZCf(F:AH K "loop_telling" "loop_telling" Uo f fd)(m:mg "loop_telling"=some (.ref f)):
  A9 P w K mg Zl "loop_telling" 2 ["row","loop","name"] (QV K):=by
 refine A9.mk F (F.binds (by walk_at "bD3")) m (F.B5 (k:=1) qT (λvs H Q E h=>?_) (λAX A outer s H vs Q E e h=>?_))
 .obtain⟨a,tp,ns,t,r,g,ss,x,rfl,j,l,C3,hx,q⟩:=h;rfl
 obtain⟨a,tp,ns,t,r,g,ss,x,rfl,j,l,C3,hx,q⟩:=h;refine⟨_,(AB rfl (Af (Ce (A0 (AU Aa (qv 1) A6) (A0 (BD Ew (AV FE e (A0 (qv 0) (A0 (qv 2) A5))) A6) (A0 (AV Lh e (A0 (AU Aa (qv 1) A6) (A0 (qv 2) A5))) A5)))))),?_⟩;obtain⟨c,J0,Lg⟩:=id l;have i:AD K H t _:=AD.of J0;have u:AD K H c _:=AD.of Lg;refine⟨_,rfl,t,_,_,_,rfl,rfl,i,rfl,_,rfl,_,rfl,a,tp,ns,x,rfl,j,hx,_,_,rfl,rfl,?_⟩;refine⟨_,rfl,t,_,_,_,rfl,rfl,i,rfl,_,rfl,c,ss,x,rfl,u,by omega,λn H3 p b v=>?_⟩;refine⟨(by show 3<=sizeLine;decide),λo IG=>?_⟩;have d:=Ap IG (.tup [.str r,.int ((ns.idxOf x:Nat)+1),.ref n]);exact q o n _ (A8.none b IG) p (b.trans d) ⟨AO,d _ _ v⟩
def dO:Ax ["row","loop","order"] ["row","loop"] (Ae XQ):=by walk_at "z1"
def rR(F:AH K "step" "step" XQ f fd)(m:mg "step"=some (.ref f)):
  A9 P w K mg Zl "step" 5 ["row","loop"] (UN K):=by
 refine A9.mk F (F.binds (by walk_at "bD2")) m (F.B5 (k:=4) dO (λvs H Q E h=>?_) (λAX A outer s H vs Q E l h=>?_))
 .obtain⟨a,tp,ns,t,r,g,ss,rfl,n,e,C3,ok,u,q⟩:=h;rfl
 obtain⟨a,tp,ns,t,r,g,ss,rfl,n,e,C3,ok,u,q⟩:=h;refine⟨_,(AE rfl (B2 2 dO.nd (AV UG l (A0 (qv 0) (A0 (qv 1) A5))))
   (AE rfl (Aw (Ah (Rc l.Lc) (qv 2) (Gw A5)) (AB rfl (Af (Ce (A0 Lr (A0 (qv 1) A5))))) B6)
   (AB rfl (Af (Ce (A0 (AU FY (qv 2) A6) (A0 (AV Ld l (A0 (qv 0) (A0 (qv 1) (A0 (AU FY (qv 2) A6) A5)))) A5))))))),?_⟩
 refine⟨_,rfl,_,rfl,a,tp,ns,t,r,g,ss,rfl,n,e.at,C3,ok,u,λl1 H1 IQ s1 v=>?_⟩;obtain⟨c,J0,Lg⟩:=id e;have I:AD K H t _:=AD.of J0;have J:AD K H c _:=AD.of Lg;refine⟨_,rfl,(by show 0<=sizeLine;decide),λl2 EG=>?_⟩;have n2:=Ap EG (.lst []);have b:=s1.trans n2;refine⟨l1,l2,_,[],rfl,rfl,.inl ⟨AQ.of (n2 _ _ v),AQ.of AO⟩,EJ _,rfl,_,rfl,?_⟩;show if Dv ((Ey ns g ss).map V.str) []=true then _ else _
 rw[OH];refine B9 (λj=>?_) (λj=>?_)
 .have d:Ey ns g ss=[]:=by simpa using j
  refine⟨_,rfl,(by show 2<=sizeLine;decide),λt' Hh=>?_⟩;exact q t' _ (A8.none b Hh) (b.trans (Ap Hh _)) (.inl ⟨d,AO⟩)
 .obtain⟨x,GK,d⟩:∃x GK,Ey ns g ss=x::GK:=by
   cases h:Ey ns g ss with
   |nil=>rw[h]at j;simp at j
   |cons x GK=>exact⟨x,GK,rfl⟩
  have hx:x∈ns/\x∈ss:=Pe.mp (by rw[d];exact CJ);have i:=n2 _ _ v;rw[d]at i;generalize C:upd H1 l2 (.lst [])=H2 at n2 b i;refine⟨_,rfl,l1,_,_,_,rfl,rfl,AQ.of i,gy,?_⟩;refine⟨_,rfl,_,rfl,_,rfl,l1,_,_,_,rfl,rfl,AQ.of i,gy,a,tp,ns,t,r,g,ss,x,rfl,b _ _ n,e.same b,C3,hx.1,λo G H4 IG Qa s4 D=>?_⟩;refine⟨(by show 2<=sizeLine;decide),λz y=>?_⟩;have p:=Ap y (.tup [.str x,.ref o]);have B:=b.trans (s4.trans p);exact q z _ (A8.none (b.trans s4) y) B (.inr ⟨x,GK,o,G,d,A8.none b IG,A8.none b Qa,AO,D.same p⟩)
def RA:Ax ["pot","row","most","way","low","name"] ["pot","row","most"] (Ae T8):=by walk_at "z1"
def yh(F:AH K "_law_deed" "_law_deed" T8 f fd)(m:mg "_law_deed"=some (.ref f)):
  A9 P w K mg Zl "_law_deed" 3 ["pot","row","most"] (V9):=by
 refine A9.mk F (F.binds (by walk_at "bD3")) m (F.B5 (k:=2) RA (λvs H Q E h=>?_) (λAX A outer s H vs Q E C h=>?_))
 .obtain⟨p,a,m,ns,rfl,U,W,Ak,O,hz,m1,m2,q⟩:=h;rfl
 obtain⟨p,a,m,ns,rfl,U,W,Ak,O,hz,m1,m2,q⟩:=h;refine⟨_,(AE rfl (B2 3 RA.nd (AV Bu C (A0 (qv 0) (A0 A6 A5))))
   (AE rfl (Aw (Iq (Fw (Ah HY (qv 3) A6) (Gg (Ah HY (BQ E4 As (A0 (qv 1) A5)) (qv 2)))).pt (JM (Ah (Rc C.Lc) (qv 1) (Gw A5)))).pt (AE rfl (Aw (Ah RJ (BQ E4 As (A0 (qv 1) A5)) (qv 2)) (AB rfl (Af (Ce (A0 Ac (A0 A6 (A0 A6 A5)))))) B6)
   (AB rfl (Af (Ce (A0 Ac (A0 (AV IK C (A0 (qv 0) (A0 (qv 1) A5))) (A0 (AV Bu C (A0 (qv 0) (A0 (BD Ew (BQ E4 As (A0 (qv 1) A5)) A6) A5))) A5))))))) B6)
   (AE rfl (Aw (Ah BX (qv 3) A6) (AE rfl (B2 4 RA.nd (AV Bu C (A0 (qv 0) (A0 (BD Ew (BQ E4 As (A0 (qv 1) A5)) A6) A5))))
   (AB rfl (Af (Ce (A0 Ac (A0 (qv 4) (A0 (BD Ew (qv 4) (AV Bu C (A0 (qv 0) (A0 (BD Ew (BD Xy (BQ E4 As (A0 (qv 1) A5)) (qv 4)) A6) A5)))) A5))))))) B6)
   (AE rfl (B2 5 RA.nd (AU FY (qv 1) (AV Bu C (A0 (qv 0) (A0 (BQ E4 As (A0 (qv 1) A5)) A5)))))
   (AE rfl (Aw (Ah BX (qv 3) A6) (AB rfl (Af (Ce (A0 Ac (A0 (qv 5) (A0 (AV Bu C (A0 (qv 0) (A0 (BQ E4 As (A0 (qv 1) A5)) A5))) A5)))))) B6)
   (AB rfl (Af (Ce (A0 Ac (A0 (qv 5) A5)))))))))),?_⟩
 have b:=Fe ns;have B:∀n:Nat,n<=3->n<=sizeLine:=λn h=>CK h (by decide +kernel);refine⟨_,rfl,p,5,rfl,U,by decide,by decide,λσ H1 w0 w1 s1=>?_⟩;have J:=s1.at' W Ak;have X:decide (ns.map V.str=[])=true->ns=[]:=λh=>List.map_eq_nil_iff.mp (lg h);have Y:¬ decide (ns.map V.str=[])=true->0<ns.length:=λh=>by
  cases ns with
  |nil=>exact absurd (kc rfl) h
  |cons y r=>simp
 refine⟨_,rfl,_,_,rfl,rfl,_,rfl,?_⟩;refine B9 (λcA=>?_) (λcA=>Br ?_)
 .refine⟨_,rfl,a,_,rfl,.inl (AQ.of J),_,rfl,_,_,rfl,rfl,_,rfl,?_⟩;refine B9 (λR=>Vv ?_) (λR=>?_)
  .have AM:ns.length<m:=by have:=lg R;rw[b]at this;omega
   have l:=s1;have j:=J;refine⟨_,rfl,a,_,rfl,.inl (AQ.of j),_,rfl,_,_,rfl,rfl,_,rfl,AZ (by rw[b,lx (by omega)];decide) ?_⟩;refine⟨_,rfl,_,rfl,p,a,ns,rfl,l.AF,j,Ak,O,by omega,λx H3 nx hx c=>?_⟩;have o:=c.at' j Ak;refine⟨_,rfl,_,rfl,a,_,rfl,.inl (AQ.of o),_,_,rfl,rfl,p,_,rfl,c.AF,by omega,by rw[b];omega,λi H4 G u s4=>?_⟩;rw[b]at u;obtain⟨i,rfl⟩:=Hu G;refine⟨B _ (by simp),λt d=>?_⟩;have g:=l.trans (c.trans s4);exact q (.put x i) t _ (g.none d) (g.trans (BC.of g.AF (Ap d _))) AO ⟨nx,hx,by omega,by omega⟩
  .have M:¬ ns.length<m:=λz=>R (kc (by rw[b];omega));refine⟨_,rfl,(by show 0<=sizeLine;decide),λe N=>?_⟩;have s2:=BC.of s1.AF (Ap N (.lst []));have l:=s1.trans s2;have j:=s2.at' J Ak;refine⟨a,e,_,[],rfl,rfl,.inl ⟨AQ.of j,AQ.of AO⟩,EJ ns,rfl,_,rfl,?_⟩;show if Dv (ns.map V.str) []=true then _ else _
   rw[OH];refine B9 (λI=>?_) (λI=>?_)
   .exact absurd (by rw[X I];show 0<m;omega) M
   .have GQ:=Y I;refine⟨_,rfl,rfl,_,rfl,?_⟩;refine B9 (λS=>?_) (λS=>?_)
    .refine⟨_,rfl,_,rfl,a,_,rfl,.inl (AQ.of j),_,_,rfl,rfl,p,_,rfl,l.AF,by omega,by rw[b];omega,λlo H3 L l1 c=>?_⟩;rw[b]at l1;obtain⟨lo,rfl⟩:=Hu L;have o:=c.at' j Ak;refine⟨_,rfl,_,rfl,_,rfl,_,rfl,a,_,rfl,.inl (AQ.of o),_,rfl,_,_,rfl,rfl,_,_,rfl,rfl,p,_,rfl,c.AF,by rw[b];omega,by rw[b];omega,λk H4 D k1 s4=>?_⟩;rw[b]at k1;obtain⟨k,rfl⟩:=Hu D;refine⟨_,_,rfl,rfl,B _ (by simp),λt d=>?_⟩;have g:=l.trans (c.trans s4);exact q (.turn lo (lo+k)) t _ (g.none d) (g.trans (BC.of g.AF (Ap d _))) (by rw[AO];rfl) ⟨by omega,by omega⟩
    .refine⟨_,rfl,_,rfl,_,rfl,a,_,rfl,.inl (AQ.of j),p,_,rfl,l.AF,by rw[b];omega,by rw[b];omega,λi H3 G u c=>?_⟩;rw[b]at u;have o:=c.at' j Ak;obtain⟨x,hx,O8,_⟩:=R8 G u;refine⟨a,_,_,_,rfl,rfl,AQ.of o,hx,?_⟩;have v:=l.trans c;refine⟨_,rfl,rfl,_,rfl,?_⟩;refine B9 (λT=>?_) (λT=>?_)
     .refine⟨_,rfl,_,rfl,_,rfl,a,_,rfl,.inl (AQ.of o),p,_,rfl,c.AF,by rw[b];omega,by rw[b];omega,λk H4 D k1 s4=>?_⟩;rw[b]at k1;obtain⟨k,rfl⟩:=Hu D;have g:=v.trans s4;refine⟨B _ (by simp),λt d=>?_⟩;exact q (.move x k) t _ (g.none d) (g.trans (BC.of g.AF (Ap d _))) AO ⟨O8,by omega⟩
     .refine⟨_,rfl,B _ (by simp),λt d=>?_⟩;exact q (.take x) t _ (v.none d) (v.trans (BC.of v.AF (Ap d _))) AO O8
 .skip
  refine⟨_,rfl,(by show 0<=sizeLine;decide),λe N=>?_⟩;have s2:=BC.of s1.AF (Ap N (.lst []));have l:=s1.trans s2;have j:=s2.at' J Ak;refine⟨a,e,_,[],rfl,rfl,.inl ⟨AQ.of j,AQ.of AO⟩,EJ ns,rfl,_,rfl,?_⟩;show if Dv (ns.map V.str) []=true then _ else _
  rw[OH];refine B9 (λI=>?_) (λI=>?_)
  .have AM:ns.length<m:=by rw[X I];show 0<m;omega
   refine⟨_,rfl,a,_,rfl,.inl (AQ.of j),_,rfl,_,_,rfl,rfl,_,rfl,AZ (by rw[b,lx (by omega)];decide) ?_⟩;refine⟨_,rfl,_,rfl,p,a,ns,rfl,l.AF,j,Ak,O,by omega,λx H3 nx hx c=>?_⟩;have o:=c.at' j Ak;refine⟨_,rfl,_,rfl,a,_,rfl,.inl (AQ.of o),_,_,rfl,rfl,p,_,rfl,c.AF,by omega,by rw[b];omega,λi H4 G u s4=>?_⟩;rw[b]at u;obtain⟨i,rfl⟩:=Hu G;refine⟨B _ (by simp),λt d=>?_⟩;have g:=l.trans (c.trans s4);exact q (.put x i) t _ (g.none d) (g.trans (BC.of g.AF (Ap d _))) AO ⟨nx,hx,by omega,by omega⟩
  .have GQ:=Y I;refine⟨_,rfl,rfl,_,rfl,?_⟩;refine B9 (λS=>?_) (λS=>?_)
   .refine⟨_,rfl,_,rfl,a,_,rfl,.inl (AQ.of j),_,_,rfl,rfl,p,_,rfl,l.AF,by omega,by rw[b];omega,λlo H3 L l1 c=>?_⟩;rw[b]at l1;obtain⟨lo,rfl⟩:=Hu L;have o:=c.at' j Ak;refine⟨_,rfl,_,rfl,_,rfl,_,rfl,a,_,rfl,.inl (AQ.of o),_,rfl,_,_,rfl,rfl,_,_,rfl,rfl,p,_,rfl,c.AF,by rw[b];omega,by rw[b];omega,λk H4 D k1 s4=>?_⟩;rw[b]at k1;obtain⟨k,rfl⟩:=Hu D;refine⟨_,_,rfl,rfl,B _ (by simp),λt d=>?_⟩;have g:=l.trans (c.trans s4);exact q (.turn lo (lo+k)) t _ (g.none d) (g.trans (BC.of g.AF (Ap d _))) (by rw[AO];rfl) ⟨by omega,by omega⟩
   .refine⟨_,rfl,_,rfl,_,rfl,a,_,rfl,.inl (AQ.of j),p,_,rfl,l.AF,by rw[b];omega,by rw[b];omega,λi H3 G u c=>?_⟩;rw[b]at u;have o:=c.at' j Ak;obtain⟨x,hx,O8,_⟩:=R8 G u;refine⟨a,_,_,_,rfl,rfl,AQ.of o,hx,?_⟩;have v:=l.trans c;refine⟨_,rfl,rfl,_,rfl,?_⟩;refine B9 (λT=>?_) (λT=>?_)
    .refine⟨_,rfl,_,rfl,_,rfl,a,_,rfl,.inl (AQ.of o),p,_,rfl,c.AF,by rw[b];omega,by rw[b];omega,λk H4 D k1 s4=>?_⟩;rw[b]at k1;obtain⟨k,rfl⟩:=Hu D;have g:=v.trans s4;refine⟨B _ (by simp),λt d=>?_⟩;exact q (.move x k) t _ (g.none d) (g.trans (BC.of g.AF (Ap d _))) AO ⟨O8,by omega⟩
    .refine⟨_,rfl,B _ (by simp),λt d=>?_⟩;exact q (.take x) t _ (v.none d) (v.trans (BC.of v.AF (Ap d _))) AO O8
def mH:Ax ["text"] ["text"] (Ae SI):=by walk_at "z1"
def ZC2:=Sc [(".0",.local),("sign",.local),("LETTERS",.globalImplicit)]
def sU:Gd ["text"] (Ae SI) ZC2 "sign" [] []:=by walk_at "z2"
def oZ(F:AH K "is_name" "is_name" SI f fd)(m:mg "is_name"=some (.ref f)):
  A9 P w K mg Zl "is_name" 1 ["text"] (PZ):=by
 refine A9.mk F (F.binds (by walk_at "bD1")) m (F.B5 (k:=0) mH (λvs H Q E h=>?_) (λAX A outer s H vs Q E d h=>?_))
 .obtain⟨x,rfl,hx,q⟩:=h;rfl
 obtain⟨x,rfl,hx,q⟩:=h;refine⟨_,(AB rfl (Af (OX (cv Gp Gp A6 (BQ fD As (A0 (qv 0) A5)) (Mf (v:=.int 8) (by rfl) Va ⟨_,rfl⟩)) (N6 (BQ (UQ rfl) IF (A0 (Ky rfl sU (ZAP (qv 0)) (λ_ _ _ _=>by exact Uh) (λ_ _ _ _=>by exact(Hk kl (qv 0) (Mf (v:=.str "abcdefghijklmnopqrstuvwxyz") (by rfl) T2 ⟨_,rfl⟩)))) A5)))))),?_⟩;refine⟨_,rfl,_,rfl,small (by omega),_,_,rfl,rfl,_,rfl,?_⟩;refine B9 (λc=>?_) (λc=>⟨_,rfl,Br ?_⟩)
 .refine⟨_,_,rfl,rfl,_,rfl,?_⟩;refine B9 (λa=>?_) (λa=>?_)
  .refine⟨_,rfl,x,rfl,λacc BB=>rH (λ_=>true) cy BB (by rw[<- Fh,<- Hg];exact small (by omega)) (λi v H' Q' _ _ h=>h H' (A8.refl _)) (λi v H' Q' hv _ _ h=>?_) (λH' s1 b=>?_)⟩
   .obtain⟨g,rfl⟩:=signs_get hv;exact⟨_,rfl,_,_,rfl,rfl,h H' (A8.refl _)⟩
   .rw[rB]at b;refine⟨acc,_,rfl,AQ.of b,?_⟩;rw[all_map];have e:isNm x=x.cps.toList.all MC:=by unfold isNm;rw[c,a];rfl
    rw[<- e];exact q H' s1
  .have e:isNm x=false:=by unfold isNm;rw[Bool.eq_false_iff.mpr a];simp
   rw[<- e];exact q H (A8.refl _)
 .have e:isNm x=false:=by unfold isNm;rw[Bool.eq_false_iff.mpr c];simp
  rw[<- e];exact q H (A8.refl _)
def qc:Ax ["row","name","at"] ["row","name","at"] (Ae Vi):=by walk_at "z1"
def ZBU(F:AH K "check_put" "check_put" Vi f fd)(m:mg "check_put"=some (.ref f)):
  A9 P w K mg Zl "check_put" 2 ["row","name","at"] (iK):=by
 refine A9.mk F (F.binds (by walk_at "bD3")) m (F.B5 (k:=1) qc (λvs H Q E h=>?_) (λAX A outer s H vs Q E e h=>?_))
 .obtain⟨a,tp,ns,x,i,rfl,d,⟨h1,h2,j,g⟩,q⟩:=h;rfl
 obtain⟨a,tp,ns,x,i,rfl,d,⟨h1,h2,j,g⟩,q⟩:=h;refine⟨_,(AE rfl (Aw (J9 (MT (AV MY e (A0 (qv 1) A5)))) (AB rfl GF) B6)
   (AE rfl (Aw (Ah K5 (qv 1) (qv 0)) (AB rfl GF) B6)
   (AE rfl (Aw (J9 (Oy Gp Gp A6 (qv 2) (BQ E4 As (A0 (qv 0) A5)))) (AB rfl GF) B6)
   (AB rfl (Aw (Ah RJ (BQ E4 As (A0 (qv 0) A5)) (Mf (v:=.int 40) (by rfl) WZ ⟨_,rfl⟩)) (AB rfl GF) B6))))),?_⟩
 have c:=Fe ns;refine⟨_,rfl,x,rfl,by have:=h1.2.1;omega,λH1 s1=>⟨_,rfl,?_⟩⟩;refine AZ (by rw[gY h1];decide) ?_;have b:=s1 _ _ d;refine⟨_,rfl,_,rfl,a,_,rfl,(BF.sq (K:=K) b).or,rfl,EJ ns,_,rfl,?_⟩;refine AZ (by show ¬ (Di (V.str x) (ns.map V.str))=true;rw[IB,lx h2];decide) ?_;refine⟨_,rfl,_,_,rfl,rfl,_,rfl,Ht (kc (by omega)) ?_⟩;refine⟨_,rfl,a,_,rfl,(BF.sq (K:=K) b).or,_,_,rfl,rfl,_,rfl,Ry (by rw[c];omega) ?_⟩;refine⟨_,rfl,a,_,rfl,(BF.sq (K:=K) b).or,_,_,rfl,rfl,_,rfl,AZ (by rw[c,lx (by omega)];decide) ?_⟩;exact q _ s1
def kQ:Ax ["row","name","at"] ["row","name","at"] (Ae Xt):=by walk_at "z1"
def za(F:AH K "check_move" "check_move" Xt f fd)(m:mg "check_move"=some (.ref f)):
  A9 P w K mg Zl "check_move" 2 ["row","name","at"] (gB):=by
 refine A9.mk F (F.binds (by walk_at "bD3")) m (F.B5 (k:=1) kQ (λvs H Q E h=>?_) (λAX A outer s H vs Q E c h=>?_))
 .obtain⟨a,tp,ns,x,i,rfl,b,⟨h1,h2⟩,q⟩:=h;rfl
 obtain⟨a,tp,ns,x,i,rfl,b,⟨h1,h2⟩,q⟩:=h;refine⟨_,(AE rfl (CP (AV FE c (A0 (qv 0) (A0 (qv 1) A5))))
   (AB rfl (Aw (J9 (Oy Gp HY A6 (qv 2) (BQ E4 As (A0 (qv 0) A5)))) (AB rfl GF) B6))),?_⟩
 have d:=Fe ns;refine⟨_,rfl,_,rfl,a,tp,ns,x,rfl,b,h1,?_⟩;refine⟨_,rfl,_,_,rfl,rfl,_,rfl,Ht (kc (by omega)) ?_⟩;refine⟨_,rfl,a,_,rfl,(BF.sq (K:=K) b).or,_,_,rfl,rfl,_,rfl,Ry (by rw[d];omega) ?_⟩;exact q
def ZCU:Ax ["row","low","high"] ["row","low","high"] (Ae XY):=by walk_at "z1"
def wc(F:AH K "check_turn" "check_turn" XY f fd)(m:mg "check_turn"=some (.ref f)):
  A9 P w K mg Zl "check_turn" 1 ["row","low","high"] (iP):=by
 refine A9.mk F (F.binds (by walk_at "bD3")) m (F.B5 (k:=0) ZCU (λvs H Q E h=>?_) (λAX A outer s H vs Q E d h=>?_))
 .obtain⟨a,tp,ns,lo,hi,rfl,b,⟨h1,h2⟩,q⟩:=h;rfl
 obtain⟨a,tp,ns,lo,hi,rfl,b,⟨h1,h2⟩,q⟩:=h;refine⟨_,(AE rfl (Aw (J9 (Oy Gp Gp A6 (qv 1) (BQ E4 As (A0 (qv 0) A5)))) (AB rfl GF) B6)
   (AB rfl (Aw (J9 (Oy Gp Gp (qv 1) (qv 2) (BQ E4 As (A0 (qv 0) A5)))) (AB rfl GF) B6))),?_⟩
 have c:=Fe ns;refine⟨_,rfl,_,_,rfl,rfl,_,rfl,Ht (kc (by omega)) ?_⟩;refine⟨_,rfl,a,_,rfl,(BF.sq (K:=K) b).or,_,_,rfl,rfl,_,rfl,Ry (by rw[c];omega) ?_⟩;refine⟨_,rfl,_,rfl,_,_,rfl,rfl,_,rfl,Ht (kc (by omega)) ?_⟩;refine⟨_,rfl,a,_,rfl,(BF.sq (K:=K) b).or,_,_,rfl,rfl,_,rfl,Ry (by rw[c];omega) ?_⟩;exact q
def kT:Ax ["row","deed"] ["row","deed"] (Ae Ue):=by walk_at "z1"
def qg(F:AH K "check_deed" "check_deed" Ue f fd)(m:mg "check_deed"=some (.ref f)):
  A9 P w K mg Zl "check_deed" 3 ["row","deed"] (XD):=by
 refine A9.mk F (F.binds (by walk_at "bD2")) m (F.B5 (k:=2) kT (λvs H Q E h=>?_) (λAX A outer s H vs Q E e h=>?_))
 .obtain⟨a,t,tp,ns,d,rfl,c,b,hd,q⟩:=h;rfl
 obtain⟨a,t,tp,ns,d,rfl,c,b,hd,q⟩:=h;refine⟨_,(AB rfl (Aw (Ah BX (AU Aa (qv 1) A6) Ac) (AB rfl (CP (AV W5 e (A0 (qv 0) (A0 (AU Aa (qv 1) A6) (A0 (AU Aa (qv 1) A6) A5)))))) (AB rfl (Aw (Ah BX (AU Aa (qv 1) A6) Ac) (AB rfl (CP (AV FE e (A0 (qv 0) (A0 (AU Aa (qv 1) A6) A5))))) (AB rfl (Aw (Ah BX (AU Aa (qv 1) A6) Ac) (AB rfl (CP (AV Wf e (A0 (qv 0) (A0 (AU Aa (qv 1) A6) (A0 (AU Aa (qv 1) A6) A5)))))) (AB rfl (CP (AV V0 e (A0 (qv 0) (A0 (AU Aa (qv 1) A6) (A0 (AU Aa (qv 1) A6) A5)))))))))))),?_⟩;cases d with
 |put x i=>
  refine⟨_,rfl,t,_,_,_,rfl,rfl,AD.of b,rfl,rfl,_,rfl,Ht (by decide +kernel) ?_⟩;exact⟨_,rfl,_,rfl,t,_,_,_,rfl,rfl,AD.of b,rfl,_,rfl,t,_,_,_,rfl,rfl,AD.of b,rfl,a,tp,ns,x,i,rfl,c,hd,q⟩
 |take x=>
  refine⟨_,rfl,t,_,_,_,rfl,rfl,AD.of b,rfl,rfl,_,rfl,AZ (by decide +kernel) ?_⟩;refine⟨_,rfl,t,_,_,_,rfl,rfl,AD.of b,rfl,rfl,_,rfl,Ht (by decide +kernel) ?_⟩;exact⟨_,rfl,_,rfl,t,_,_,_,rfl,rfl,AD.of b,rfl,a,tp,ns,x,rfl,c,hd,q _ (A8.refl _)⟩
 |move x i=>
  refine⟨_,rfl,t,_,_,_,rfl,rfl,AD.of b,rfl,rfl,_,rfl,AZ (by decide +kernel) ?_⟩;refine⟨_,rfl,t,_,_,_,rfl,rfl,AD.of b,rfl,rfl,_,rfl,AZ (by decide +kernel) ?_⟩;refine⟨_,rfl,t,_,_,_,rfl,rfl,AD.of b,rfl,rfl,_,rfl,Ht (by decide +kernel) ?_⟩;exact⟨_,rfl,_,rfl,t,_,_,_,rfl,rfl,AD.of b,rfl,_,rfl,t,_,_,_,rfl,rfl,AD.of b,rfl,a,tp,ns,x,i,rfl,c,hd,q _ (A8.refl _)⟩
 |turn lo hi=>
  refine⟨_,rfl,t,_,_,_,rfl,rfl,AD.of b,rfl,rfl,_,rfl,AZ (by decide +kernel) ?_⟩;refine⟨_,rfl,t,_,_,_,rfl,rfl,AD.of b,rfl,rfl,_,rfl,AZ (by decide +kernel) ?_⟩;refine⟨_,rfl,t,_,_,_,rfl,rfl,AD.of b,rfl,rfl,_,rfl,AZ (by decide +kernel) ?_⟩;exact⟨_,rfl,_,rfl,t,_,_,_,rfl,rfl,AD.of b,rfl,_,rfl,t,_,_,_,rfl,rfl,AD.of b,rfl,a,tp,ns,lo,hi,rfl,c,hd,q _ (A8.refl _)⟩
def ZBa:Ax ["row","low","high"] ["row","low","high"] (Ae T7):=by walk_at "z1"
def rW(F:AH K "row_turned" "row_turned" T7 f fd)(m:mg "row_turned"=some (.ref f)):
  A9 P w K mg Zl "row_turned" 1 ["row","low","high"] (dm):=by
 refine A9.mk F (F.binds (by walk_at "bD3")) m (F.B5 (k:=0) ZBa (λvs H Q E h=>?_) (λAX A outer s H vs Q E O h=>?_))
 .obtain⟨a,tp,ns,lo,hi,rfl,b,Kl,M,h1,h2,q⟩:=h;rfl
 obtain⟨a,tp,ns,lo,hi,rfl,b,Kl,M,h1,h2,q⟩:=h;refine⟨_,(AB rfl (Af (BD NR (BD NR (EO KS CD (A0 (HH Kw (qv 0) IJ (GW (qv 1))) A5)) (sF rfl rfl CD rfl Xo (A0 (HH Kw (qv 0) (GW (qv 1)) (GW (qv 2))) A5))) (EO KS CD (A0 (HH Kw (qv 0) (GW (qv 2)) IJ) A5))))),?_⟩;have N:=Fe ns;have c:∀n:Nat,n<=2001->n<=sizeLine:=λn h=>CK h (by decide +kernel);refine⟨_,rfl,_,rfl,_,rfl,a,tp,_,rfl,BF.sq b,λz H1 s1 t=>?_⟩;rw[XO]at t;refine⟨z,_,rfl,t.or,λl1 n1=>?_⟩;have v:=Ap n1 (.lst ((ns.map V.str).take lo));have s2:=s1.trans v;refine⟨_,rfl,_,rfl,_,rfl,_,rfl,_,rfl,a,tp,_,rfl,BF.sq (s2 _ _ b),λy H3 l r=>?_⟩;rw[nX _ h1 (by rw[N];exact h2)]at r;refine⟨y,tp,_,rfl,r,Kl,λL D=>?_⟩;have e:=Ap D (.lst (((ns.map V.str).drop lo).take (hi - lo)).reverse);refine⟨l1,L,_,_,rfl,rfl,e _ _ (l _ _ AO),AO,c _ (by simp only[CI,Yw,GG];omega),λJ C=>?_⟩;have u:=Ap C (.lst ((ns.map V.str).take lo++(((ns.map V.str).drop lo).take (hi - lo)).reverse));have j:=s2.trans (l.trans (e.trans u));refine⟨_,rfl,_,rfl,_,rfl,a,tp,_,rfl,BF.sq (j _ _ b),λx H6 i p=>?_⟩;rw[Xz]at p;refine⟨x,_,rfl,p.or,λI B=>?_⟩;have d:=Ap B (.lst ((ns.map V.str).drop hi));refine⟨J,I,_,_,rfl,rfl,d _ _ (i _ _ AO),AO,c _ (by simp only[C0,CI,GG,Yw];omega),λG o=>?_⟩;have g:=j.trans (i.trans d);refine q G _ (A8.none g o) (g.trans (Ap o _)) ?_;rw[AO];unfold GA;simp only[Dp,ji,jh,List.map_reverse,BV]
def vB:Ax ["row","name","at"] ["row","name","at"] (Ae Ve):=by walk_at "z1"
def yG(F:AH K "row_with" "row_with" Ve f fd)(m:mg "row_with"=some (.ref f)):
  A9 P w K mg Zl "row_with" 1 ["row","name","at"] (eX):=by
 refine A9.mk F (F.binds (by walk_at "bD3")) m (F.B5 (k:=0) vB (λvs H Q E h=>?_) (λAX A outer s H vs Q E I h=>?_))
 .obtain⟨a,tp,ns,x,i,rfl,c,G,q⟩:=h;rfl
 obtain⟨a,tp,ns,x,i,rfl,c,G,q⟩:=h;refine⟨_,(AB rfl (Af (BD NR (BD NR (EO KS CD (A0 (HH Kw (qv 0) IJ (GW (qv 2))) A5)) (Gw (A0 (qv 1) A5))) (EO KS CD (A0 (HH Kw (qv 0) (GW (qv 2)) IJ) A5))))),?_⟩;have J:=Fe ns;have b:∀n:Nat,n<=2001->n<=sizeLine:=λn h=>CK h (by decide +kernel);refine⟨_,rfl,_,rfl,_,rfl,a,tp,_,rfl,BF.sq c,λv H1 s1 p=>?_⟩;rw[XO]at p;refine⟨v,_,rfl,p.or,λl1 n1=>?_⟩;have t:=Ap n1 (.lst ((ns.map V.str).take i));refine⟨_,rfl,b _ (by show 1<=2001;decide),λl2 n2=>?_⟩;have e:=Ap n2 (.lst [.str x]);refine⟨l1,l2,_,_,rfl,rfl,e _ _ AO,AO,b _ (by simp only[CI,Mn];omega),λD z=>?_⟩;have r:=Ap z (.lst ((ns.map V.str).take i++[.str x]));have j:=s1.trans (t.trans (e.trans r));refine⟨_,rfl,_,rfl,_,rfl,a,tp,_,rfl,BF.sq (j _ _ c),λu H4 s4 o=>?_⟩;rw[Xz]at o;refine⟨u,_,rfl,o.or,λC y=>?_⟩;have d:=Ap y (.lst ((ns.map V.str).drop i));refine⟨D,C,_,_,rfl,rfl,d _ _ (s4 _ _ AO),AO,b _ (by simp only[C0,CI,GG,Mn];omega),λB l=>?_⟩;have g:=j.trans (s4.trans d);refine q B _ (A8.none g l) (g.trans (Ap l _)) ?_;rw[AO];unfold ins;simp only[Dp,ji,Bh,jh,BV,List.singleton_append]
def yQ:Ax ["row","name"] ["row","name"] (Ae Rq):=by walk_at "z1"
def ZC7:=Sc [(".0",.local),("thing",.local),("name",.free)]
def yp:Gd ["row","name"] (Ae Rq) ZC7 "thing" ["name"] [1]:=by walk_at "z2"
def xu(F:AH K "row_without" "row_without" Rq f fd)(m:mg "row_without"=some (.ref f)):
  A9 P w K mg Zl "row_without" 1 ["row","name"] (aq):=by
 refine A9.mk F (F.binds (by walk_at "bD2")) m (F.B5 (k:=0) yQ (λvs H Q E h=>?_) (λAX A outer s H vs Q E g h=>?_))
 .obtain⟨a,tp,ns,x,rfl,b,d,q⟩:=h;rfl
 obtain⟨a,tp,ns,x,rfl,b,d,q⟩:=h;refine⟨_,(AB rfl (Af (Ky rfl yp (Hd (qv 0)) (λ_ _ _ _=>by exact(RH (Ah Y9 (qv 1) (qv 0)))) (λ_ _ _ _=>by exact(qv 1))))),?_⟩;have e:=Fe ns;refine⟨_,rfl,tp,a,_,rfl,BF.sq b,λacc BB=>Pz (Rh (.str x)) (λv=>v) (BF.sq b) BB (by rw[e];exact small (by omega)) (λi v H' Q' hv s1 h=>?_) (λi v H' Q' hv _ s1 h=>?_) (λH' s1 c=>?_)⟩
 .obtain⟨y,rfl,j⟩:=Q8 hv;exact⟨_,rfl,_,rfl,rfl,_,rfl,h H' (A8.refl _)⟩
 .exact⟨_,rfl,h H' (A8.refl _)⟩
 .rw[eI]at c;exact q acc H' BB s1 c
def ki:Ax ["row","deed"] ["row","deed"] (Ae Ut):=by walk_at "z1"
def mS(F:AH K "done" "done" Ut f fd)(m:mg "done"=some (.ref f)):
  A9 P w K mg Zl "done" 4 ["row","deed"] (Qk):=by
 refine A9.mk F (F.binds (by walk_at "bD2")) m (F.B5 (k:=3) ki (λvs H Q E h=>?_) (λAX A outer s H vs Q E g h=>?_))
 .obtain⟨a,t,tp,ns,d,rfl,p,o,Kl,hd,u,q⟩:=h;rfl
 obtain⟨a,t,tp,ns,d,rfl,p,o,Kl,hd,u,q⟩:=h;refine⟨_,(AE rfl (CP (AV MP g (A0 (qv 0) (A0 (qv 1) A5))))
   (AE rfl (Aw (Ah BX (AU Aa (qv 1) A6) Ac) (AB rfl (Af (AV SD g (A0 (qv 0) (A0 (AU Aa (qv 1) A6) (A0 (AU Aa (qv 1) A6) A5)))))) B6)
   (AE rfl (Aw (Ah BX (AU Aa (qv 1) A6) Ac) (AB rfl (Af (AV Qg g (A0 (qv 0) (A0 (AU Aa (qv 1) A6) A5))))) B6)
   (AE rfl (Aw (Ah BX (AU Aa (qv 1) A6) Ac) (AB rfl (Af (AV SD g (A0 (AV Qg g (A0 (qv 0) (A0 (AU Aa (qv 1) A6) A5))) (A0 (AU Aa (qv 1) A6) (A0 (AU Aa (qv 1) A6) A5)))))) B6)
   (AB rfl (Af (AV T6 g (A0 (qv 0) (A0 (AU Aa (qv 1) A6) (A0 (AU Aa (qv 1) A6) A5)))))))))),?_⟩
 refine⟨_,rfl,_,rfl,a,t,tp,ns,d,rfl,p,o,hd,λH1 s1=>?_⟩;have b:=s1 _ _ o;have j:=s1 _ _ p;have c:LD H1 Q (d.done ns):=λl H' n s e=>q l H' (A8.none s1 n) (s1.trans s) e;cases d with
 |put x i=>
  refine⟨_,rfl,t,_,_,_,rfl,rfl,AD.of b,rfl,rfl,_,rfl,Ht (by decide +kernel) ?_⟩;exact⟨_,rfl,_,rfl,t,_,_,_,rfl,rfl,AD.of b,rfl,_,rfl,t,_,_,_,rfl,rfl,AD.of b,rfl,a,tp,ns,x,i,rfl,j,by omega,c⟩
 |take x=>
  refine⟨_,rfl,t,_,_,_,rfl,rfl,AD.of b,rfl,rfl,_,rfl,AZ (by decide +kernel) ?_⟩;refine⟨_,rfl,t,_,_,_,rfl,rfl,AD.of b,rfl,rfl,_,rfl,Ht (by decide +kernel) ?_⟩;exact⟨_,rfl,_,rfl,t,_,_,_,rfl,rfl,AD.of b,rfl,a,tp,ns,x,rfl,j,by omega,c⟩
 |move x i=>
  refine⟨_,rfl,t,_,_,_,rfl,rfl,AD.of b,rfl,rfl,_,rfl,AZ (by decide +kernel) ?_⟩;refine⟨_,rfl,t,_,_,_,rfl,rfl,AD.of b,rfl,rfl,_,rfl,AZ (by decide +kernel) ?_⟩;refine⟨_,rfl,t,_,_,_,rfl,rfl,AD.of b,rfl,rfl,_,rfl,Ht (by decide +kernel) ?_⟩;refine⟨_,rfl,_,rfl,t,_,_,_,rfl,rfl,AD.of b,rfl,a,tp,ns,x,rfl,j,by omega,λl2 H2 n2 s2 v=>?_⟩;have r:=s2 _ _ b;have hw:(wo ns x).length<=ns.length:=Oj _ _;exact⟨_,rfl,t,_,_,_,rfl,rfl,AD.of r,rfl,_,rfl,t,_,_,_,rfl,rfl,AD.of r,rfl,l2,false,wo ns x,x,i,rfl,v,by omega,λl H' n s e=>c l H' (A8.none s2 n) (s2.trans s) e⟩
 |turn lo hi=>
  refine⟨_,rfl,t,_,_,_,rfl,rfl,AD.of b,rfl,rfl,_,rfl,AZ (by decide +kernel) ?_⟩;refine⟨_,rfl,t,_,_,_,rfl,rfl,AD.of b,rfl,rfl,_,rfl,AZ (by decide +kernel) ?_⟩;refine⟨_,rfl,t,_,_,_,rfl,rfl,AD.of b,rfl,rfl,_,rfl,AZ (by decide +kernel) ?_⟩;exact⟨_,rfl,_,rfl,t,_,_,_,rfl,rfl,AD.of b,rfl,_,rfl,t,_,_,_,rfl,rfl,AD.of b,rfl,a,tp,ns,lo,hi,rfl,j,Kl,by omega,hd.1,hd.2,c⟩
def uv:Ax ["gap","at"] ["gap","at"] (Ae Si):=by walk_at "z1"
def xp(F:AH K "gap_behind_put" "gap_behind_put" Si f fd)(m:mg "gap_behind_put"=some (.ref f)):
  A9 P w K mg Zl "gap_behind_put" 1 ["gap","at"] (cD):=by
 refine A9.mk F (F.binds (by walk_at "bD2")) m (F.B5 (k:=0) uv (λvs H Q E h=>?_) (λAX A outer s H vs Q E b h=>?_))
 .obtain⟨g,i,rfl,q⟩:=h;rfl
 obtain⟨g,i,rfl,q⟩:=h;refine⟨_,(AE rfl (Aw (Ah HY (qv 1) (qv 0)) (AB rfl (Af (BD Ew (qv 0) A6))) B6)
   (AB rfl (Af (qv 0)))),?_⟩
 refine⟨_,rfl,_,rfl,_,_,rfl,rfl,_,rfl,?_⟩;refine B9 (λc=>?_) (λc=>?_)
 .have a:(i:Int)<(g:Int):=lg c;have e:((GR i g:Nat):Int)=(g:Int)+1:=by unfold GR;rw[kz (by omega)];omega
  rw[e]at q;exact⟨_,rfl,_,_,rfl,rfl,q⟩
 .have a:¬ (i:Int)<(g:Int):=λz=>c (kc z);have e:GR i g=g:=by unfold GR;rw[km (by omega)]
  rw[e]at q;exact⟨_,rfl,q⟩
def nB:Ax ["gap","place"] ["gap","place"] (Ae W8):=by walk_at "z1"
def pq(F:AH K "gap_behind_take" "gap_behind_take" W8 f fd)(m:mg "gap_behind_take"=some (.ref f)):
  A9 P w K mg Zl "gap_behind_take" 1 ["gap","place"] (aT):=by
 refine A9.mk F (F.binds (by walk_at "bD2")) m (F.B5 (k:=0) nB (λvs H Q E h=>?_) (λAX A outer s H vs Q E b h=>?_))
 .obtain⟨g,p,rfl,q⟩:=h;rfl
 obtain⟨g,p,rfl,q⟩:=h;refine⟨_,(AE rfl (Aw (Ah HY (qv 1) (qv 0)) (AB rfl (Af (BD Xy (qv 0) A6))) B6)
   (AB rfl (Af (qv 0)))),?_⟩
 refine⟨_,rfl,_,rfl,_,_,rfl,rfl,_,rfl,?_⟩;refine B9 (λc=>?_) (λc=>?_)
 .have a:(p:Int)<(g:Int):=lg c;have e:((Gq p g:Nat):Int)=(g:Int) - 1:=by unfold Gq;rw[kz (by omega)];omega
  rw[e]at q;exact⟨_,rfl,_,_,rfl,rfl,q⟩
 .have a:¬ (p:Int)<(g:Int):=λz=>c (kc z);have e:Gq p g=g:=by unfold Gq;rw[km (by omega)]
  rw[e]at q;exact⟨_,rfl,q⟩
def vU:Ax ["row","gap","deed"] ["row","gap","deed"] (Ae Sn):=by walk_at "z1"
def p7(F:AH K "gap_led" "gap_led" Sn f fd)(m:mg "gap_led"=some (.ref f)):
  A9 P w K mg Zl "gap_led" 3 ["row","gap","deed"] (dW):=by
 refine A9.mk F (F.binds (by walk_at "bD3")) m (F.B5 (k:=2) vU (λvs H Q E h=>?_) (λAX A outer s H vs Q E c h=>?_))
 .obtain⟨a,t,tp,ns,g,d,rfl,o,n,ok,q⟩:=h;rfl
 obtain⟨a,t,tp,ns,g,d,rfl,o,n,ok,q⟩:=h;refine⟨_,(AE rfl (Aw (Ah BX (AU Aa (qv 2) A6) Ac) (AB rfl (Af (AV Q5 c (A0 (qv 1) (A0 (AU Aa (qv 2) A6) A5))))) B6)
   (AE rfl (Aw (Ah BX (AU Aa (qv 2) A6) Ac) (AB rfl (Af (AV QY c (A0 (qv 1) (A0 (AV FE c (A0 (qv 0) (A0 (AU Aa (qv 2) A6) A5))) A5))))) B6)
   (AE rfl (Aw (Ah BX (AU Aa (qv 2) A6) Ac) (AB rfl (Af (AV Q5 c (A0 (AV QY c (A0 (qv 1) (A0 (AV FE c (A0 (qv 0) (A0 (AU Aa (qv 2) A6) A5))) A5))) (A0 (AU Aa (qv 2) A6) A5))))) B6)
   (AB rfl (Af (qv 1)))))),?_⟩
 have b:=n;have p:=o;refine⟨_,rfl,t,_,_,_,rfl,rfl,AD.of b,Nq d,rfl,_,rfl,B9 (λl=>?_) (λl=>?_)⟩
 .obtain⟨x,i,rfl⟩:=Zu l;exact⟨_,rfl,_,rfl,t,_,_,_,rfl,rfl,AD.of b,rfl,g,i,rfl,q⟩
 refine⟨_,rfl,t,_,_,_,rfl,rfl,AD.of b,Nq d,rfl,_,rfl,B9 (λj=>?_) (λj=>?_)⟩
 .obtain⟨x,rfl⟩:=Zn j;exact⟨_,rfl,_,rfl,_,rfl,t,_,_,_,rfl,rfl,AD.of b,rfl,a,tp,ns,x,rfl,p,ok,g,_,rfl,q⟩
 refine⟨_,rfl,t,_,_,_,rfl,rfl,AD.of b,Nq d,rfl,_,rfl,B9 (λe=>?_) (λe=>?_)⟩
 .obtain⟨x,i,rfl⟩:=zw e;exact⟨_,rfl,_,rfl,_,rfl,t,_,_,_,rfl,rfl,AD.of b,rfl,a,tp,ns,x,rfl,p,ok.1,g,_,rfl,_,rfl,t,_,_,_,rfl,rfl,AD.of b,rfl,_,i,rfl,q⟩
 obtain⟨lo,hi,rfl⟩:=oX l j e;exact⟨_,rfl,q⟩
def nY:Ax ["loop","at"] ["loop","at"] (Ae WV):=by walk_at "z1"
def mC(F:AH K "joins" "joins" WV f fd)(m:mg "joins"=some (.ref f)):
  A9 P w K mg Zl "joins" 1 ["loop","at"] (cH):=by
 refine A9.mk F (F.binds (by walk_at "bD2")) m (F.B5 (k:=0) nY (λvs H Q E h=>?_) (λAX A outer s H vs Q E j h=>?_))
 .obtain⟨t,r,g,i,c,rfl,a,q⟩:=h;rfl
 obtain⟨t,r,g,i,c,rfl,a,q⟩:=h;refine⟨_,(AB rfl (Af (xh (Hk BX (AU Aa (qv 0) A6) Ac) (N6 (OX (Hk BX (AU Aa (qv 0) A6) Ac) (N6 (Hk RJ (qv 1) (AU Aa (qv 0) A6)))))))),?_⟩;refine⟨_,rfl,t,_,_,_,rfl,rfl,AD.of a,rfl,rfl,_,rfl,?_⟩;refine B9 (λb=>?_) (λb=>?_)
 .have e:Ep r g i=true:=by unfold Ep;rw[kz b]
  rw[e]at q;exact q
 .refine⟨_,rfl,t,_,_,_,rfl,rfl,AD.of a,rfl,rfl,_,rfl,?_⟩;refine B9 (λd=>?_) (λd=>?_)
  .have e:Ep r g i=decide ((g:Int)<=(i:Int)):=by unfold Ep;rw[km b,kz d]
   rw[e]at q;exact⟨_,rfl,_,rfl,t,_,_,_,rfl,rfl,AD.of a,rfl,_,_,rfl,rfl,q⟩
  .have e:Ep r g i=false:=by unfold Ep;rw[km b,km d]
   rw[e]at q;exact q
def qe:Ax ["loop","deed"] ["loop","deed"] (Ae TK):=by walk_at "z1"
def ZAa(F:AH K "coming_behind" "coming_behind" TK f fd)(m:mg "coming_behind"=some (.ref f)):
  A9 P w K mg Zl "coming_behind" 2 ["loop","deed"] (aA):=by
 refine A9.mk F (F.binds (by walk_at "bD2")) m (F.B5 (k:=1) qe (λvs H Q E h=>?_) (λAX A outer s H vs Q E v h=>?_))
 .obtain⟨tl,t,c,r,g,ss,d,rfl,⟨b,j⟩,a,B,up,hx,q⟩:=h;rfl
 obtain⟨tl,t,c,r,g,ss,d,rfl,⟨b,j⟩,a,B,up,hx,q⟩:=h;refine⟨_,(AE rfl (Aw (Ah BX (AU Aa (qv 1) A6) Ac) (AB rfl (Af (AV Lh v (A0 (AU Aa (qv 0) A6) (A0 (AU Aa (qv 1) A6) A5))))) B6)
   (AE rfl (Aw (Fw (Ah BX (AU Aa (qv 1) A6) Ac) (Gg (MT (AV T4 v (A0 (qv 0) (A0 (AU Aa (qv 1) A6) A5)))))).pt (AB rfl (Af (EO Sw Ir (A0 (BQ gS Fn (A0 (BD xA (AU Aa (qv 0) A6) (Ce (A0 (AU Aa (qv 1) A6) A5))) A5)) A5)))) B6)
   (AB rfl (Af (AU Aa (qv 0) A6))))),?_⟩
 refine⟨_,rfl,t,_,_,_,rfl,rfl,AD.of a,Nq d,rfl,_,rfl,B9 (λo=>?_) (λo=>?_)⟩
 .obtain⟨x,rfl⟩:=Zn o;exact⟨_,rfl,tl,_,_,_,rfl,rfl,AD.of b,rfl,_,rfl,t,_,_,_,rfl,rfl,AD.of a,rfl,c,ss,x,rfl,AD.of j,by omega,λl H' G s e=>q l H' (.inl G) s e⟩
 refine⟨_,rfl,t,_,_,_,rfl,rfl,AD.of a,Nq d,rfl,_,rfl,B9 (λp=>?_) (λp=>Br ⟨_,rfl,tl,_,_,_,rfl,rfl,AD.of b,rfl,q c _ (.inr rfl) (A8.refl _) (by rw[zX p o];exact j)⟩)⟩;obtain⟨x,i,rfl⟩:=Zu p;refine⟨_,rfl,_,rfl,t,_,_,_,rfl,rfl,AD.of a,rfl,tl,r,g,i,c,rfl,b,_,rfl,?_⟩;refine B9 (λn=>?_) (λn=>⟨_,rfl,tl,_,_,_,rfl,rfl,AD.of b,rfl,q c _ (.inr rfl) (A8.refl _) (by rw[ZA2 (Bool.eq_false_iff.mpr n)];exact j)⟩);refine⟨_,rfl,tl,_,_,_,rfl,rfl,AD.of b,rfl,_,rfl,t,_,_,_,rfl,rfl,AD.of a,rfl,(by show 1<=sizeLine;decide),λy OM=>?_⟩;have n1:=Ap OM (.tup [.str x]);refine⟨c,y,_,_,rfl,rfl,AD.of (n1 _ _ j),AD.of AO,by simp,small (by rw[Fe];simp;omega),λp2 H2 s2 I=>?_⟩;have L:AD K H2 p2 ((ss++[x]).map V.str):=by rw[Dp];exact I
 refine⟨p2,true,ss++[x],rfl,L,by rw[C0];simp;omega,λz ts Q0 D C=>?_⟩;have u:=Ap Q0 (.lst (ts.map V.str));refine⟨z,_,rfl,.inl ⟨AQ.of AO,λJ Qa=>?_⟩⟩;exact q J _ (.inl (A8.none (n1.trans (s2.trans u)) Qa)) (n1.trans (s2.trans (u.trans (Ap Qa _)))) (by rw[AO,zI D C up (hx x i rfl),vR n])
def ZBr:Ax ["row","loop","deed"] ["row","loop","deed"] (Ae TX):=by walk_at "z1"
def oU(F:AH K "loop_led" "loop_led" TX f fd)(m:mg "loop_led"=some (.ref f)):
  A9 P w K mg Zl "loop_led" 4 ["row","loop","deed"] (M4):=by
 refine A9.mk F (F.binds (by walk_at "bD3")) m (F.B5 (k:=3) ZBr (λvs H Q E h=>?_) (λAX A outer s H vs Q E l h=>?_))
 .obtain⟨a,tl,t,c,tp,ns,r,g,ss,d,rfl,o,⟨Jw,p⟩,e,ok,b,x,q⟩:=h;rfl
 obtain⟨a,tl,t,c,tp,ns,r,g,ss,d,rfl,o,⟨Jw,p⟩,e,ok,b,x,q⟩:=h;refine⟨_,(AB rfl (Af (Ce (A0 (AU Aa (qv 1) A6) (A0 (AV Y4 l (A0 (qv 0) (A0 (AU Aa (qv 1) A6) (A0 (qv 2) A5)))) (A0 (AV X3 l (A0 (qv 1) (A0 (qv 2) A5))) A5)))))),?_⟩;have n:=b.len;have g1:=b.g1;refine⟨_,rfl,tl,_,_,_,rfl,rfl,AD.of Jw,rfl,_,rfl,_,rfl,tl,_,_,_,rfl,rfl,AD.of Jw,rfl,_,rfl,a,t,tp,ns,g,d,rfl,o,e,ok,?_⟩;refine⟨_,rfl,_,rfl,tl,t,c,r,g,ss,d,rfl,⟨Jw,p⟩,e,by omega,b.up,uH b ok,λu H3 y i z=>?_⟩;refine⟨(by show 3<=sizeLine;decide),λv IG=>?_⟩;have j:=Ap IG (.tup [.str r,.int (d.gap ns g:Nat),.ref u]);exact q v u _ (A8.none i IG) y (i.trans j) ⟨AO,j _ _ z⟩
def zV:Ax ["row","loop","deed"] ["row","loop","deed"] (Ae UC):=by walk_at "z1"
def wJ(F:AH K "led" "led" UC f fd)(m:mg "led"=some (.ref f)):
  A9 P w K mg Zl "led" 5 ["row","loop","deed"] (M4):=by
 refine A9.mk F (F.binds (by walk_at "bD3")) m (F.B5 (k:=4) zV (λvs H Q E h=>?_) (λAX A outer s H vs Q E i h=>?_))
 .obtain⟨a,tl,t,p,tp,ns,r,g,ss,d,rfl,c,l,j,ok,e,n,q⟩:=h;rfl
 obtain⟨a,tl,t,p,tp,ns,r,g,ss,d,rfl,c,l,j,ok,e,n,q⟩:=h;refine⟨_,(AE rfl (CP (AV Md i (A0 (qv 0) (A0 (qv 1) A5))))
   (AE rfl (CP (AV MP i (A0 (qv 0) (A0 (qv 2) A5))))
   (AB rfl (Af (AV MQ i (A0 (qv 0) (A0 (qv 1) (A0 (qv 2) A5)))))))),?_⟩
 have o:=e.len;refine⟨_,rfl,_,rfl,a,tp,ns,tl,r,g,ss,rfl,BF.sq c,l.h.at,by omega,e.Eg,λH1 s1=>?_⟩;refine⟨_,rfl,_,rfl,a,t,tp,ns,d,rfl,s1 _ _ c,s1 _ _ j,ok,λH2 s2=>?_⟩;have b:=s1.trans s2;exact⟨_,rfl,_,rfl,_,rfl,a,tl,t,p,tp,ns,r,g,ss,d,rfl,b _ _ c,l.same b,b _ _ j,ok,e,n,λu y H4 IG v s4 x=>q u y H4 (A8.none b IG) (v.imp (A8.none b) id) (b.trans s4) x⟩
def Ta:Ax ["pot","state","most","deed","name"] ["pot","state","most"] (Ae WK):=by walk_at "z1"
def Zs : ∀ss R,Xr ss R->ss.length=3:=by rintro _ _⟨s,es,a,t,m,rfl,_⟩;rfl
def lQ(F:AH K "_law_stir" "_law_stir" WK f fd)(m:mg "_law_stir"=some (.ref f)):
  A9 P w K mg Zl "_law_stir" 8 ["pot","state","most"] (Bj Xr):=by
 refine A9.mk F (F.binds (by walk_at "bD3")) m (F.B5 (k:=7) Ta (λvs H Q E h=>Fz.Gs Zs h) (λAX A outer s H vs Q E b h=>?_))
 refine⟨_,(AE rfl (B2 3 Ta.nd (AV Xx b (A0 (qv 0) (A0 (By (BJ b) (qv 1) Ac (λ_ _=>rfl)) (A0 (qv 2) A5)))))
   (AE rfl (D2 (IC Hy rfl (Hd (EO (fO rfl) CD (A0 (By (BJ b) (qv 1) Ac (λ_ _=>rfl)) A5))) (Ff 4 Ta.nd) (AB rfl (HU (BJ b) (By (BJ b) (qv 1) Ac (λ_ _=>rfl)) (qv 4) (AV Ti b (A0 (By (BJ b) (qv 1) Ac (λ_ _=>rfl)) (A0 (By (BJ b) (By (BJ b) (qv 1) Ac (λ_ _=>rfl)) (qv 4) (λ_ _=>rfl)) (A0 (qv 3) A5))))))))
   (AE rfl (HU (BJ b) (qv 1) Ac (AV Lq b (A0 (By (BJ b) (qv 1) Ac (λ_ _=>rfl)) (A0 (qv 3) A5))))
   (AB rfl (CP (AV K2 b (A0 (qv 1) (A0 (qv 3) A5)))))))),?_⟩
 refine Fz.cM 1 h Zs ?_;rintro _ _⟨s,es,a,t,m,rfl,⟨aL,aN,aE,rfl⟩,ok,u,JU,U9,v,V2,rfl⟩;show Ws [_,_,_,.any,.any] _ _ _;have l1:=ok.l1;have G:=IP ok.n1 ok.sub;have n:=ok.row.len;refine Aq (Hr (fA rfl (Cb (DL (NJ rfl ⟨_,rfl,_,.inl ⟨rfl,rfl,s.row,rfl,AK rfl ⟨m,rfl,ok.row.nm,u,by omega,by omega,λd od=>?_⟩⟩⟩)))));have c:d.Ok 40 s.row:=by
  cases d with
  |put x i=>exact⟨od.1,od.2.1,od.2.2.1,by have:=od.2.2.2;omega⟩
  |_=>exact od
 refine Aq (Gn (Jk (λ_ i AG=>∃(s4:Slot),AG=[.AF,.ow true (BZ (EH s d i) es a aL aN aE),.is (.int m),.is (dP d),s4]) (Lk (Jf (G6 (gK (JG rfl ⟨AR s.ln,aL,_,rfl,by unfold AR;rw[AW];omega,_,.inl ⟨rfl,?_⟩⟩)))))));rw[jA];refine⟨⟨_,rfl⟩,?_,?_⟩
 .rintro i p AG q⟨s4,rfl⟩;rw[B1]at q;obtain⟨x,hx,rfl⟩:=Option.map_eq_some_iff.mp q;refine Mc ?_;have hi:i<s.ln.length:=(List.getElem?_eq_some_iff.mp hx).1;obtain⟨l,j⟩:∃l,s.ll[i]?=some l:=⟨_,Am (by omega)⟩;have e:x∈s.ln:=Cq hx;have o:s.ln.idxOf x=i:=IZ ok.n1 hx;have y:=ok.good l (Cq j);have ll:=Ig s d i;show Ws [.AF,.ow true (BZ (EH s d i) es a aL aN aE),.is (.int m),.is (dP d),.is (.str x)] _ _ _;refine JS (i:=1) (t:=BZ (EH s d i) es a aL aN aE) (E6 (iZ (Cb (DL (NJ rfl ⟨_,rfl,_,.inl ⟨rfl,s.row,rfl,?_⟩⟩)))));refine DL (Ga (JG rfl ⟨AR s.ln,aL,_,rfl,AK rfl ⟨.inr x,i,.fz l.P,rfl,by rw[Fy e,o],QQ (XF j),_,rfl,l.r,l.g,l.cs,rfl,AK rfl ⟨d,rfl,c,y,n,?_⟩⟩⟩));refine JG rfl ⟨true,aL,AR s.ln,_,rfl,rfl,by unfold BY;rw[AW];show(Bz s d i).length<=99999;omega,HF ok.n1,Au,AK rfl ⟨.inr x,rfl,?_⟩⟩;rw[Pj e,Qz e,o];have C:(BY (EH s d i).ll).set i (.fz (l.led s.row d).P)=BY (Bz s d (i+1)):=by
   rw[show(EH s d i).ll=Bz s d i from rfl,Q9,VE j]
  refine⟨.is (.str x),?_⟩;unfold BZ;rw[q1];exact oW (λz=>[Slot.AF,.ow true (.nd (.AL k4) a [.fz (.lst (s.row.map .str)),.nd (.AL (AR s.ln)) aL z,.nd .lst aN ((s.sn.map PV.str).map .fz),.nd .lst aE ((es.map LE.P).map .fz)]),.is (.int m),.is (dP d),.is (.str x)]) C
 .rintro AG⟨s4,rfl⟩;rw[AW];refine Aq (JS (i:=1) (t:=BZ (EH s d s.ln.length) es a aL aN aE) (E6 (G6 (aj (Cb (DL (NJ rfl ⟨_,rfl,_,.inl ⟨rfl,rfl,s.row,rfl,AK rfl ⟨d,rfl,c,n,?_⟩⟩⟩)))))));refine Bv rfl ⟨true,a,k4,_,rfl,rfl,by show 4<=99999;decide,by decide +kernel,Au,FQ ⟨.inr "row", rfl,?_⟩⟩;rw[OV.DN,vM,tM];have B:(OV.nd (.AL k4) a [.fz (.lst ((d.done s.row).map .str)),.nd (.AL (AR s.ln)) aL (BY (Bz s d s.ln.length)),.nd .lst aN ((s.sn.map PV.str).map .fz),.nd .lst aE ((es.map LE.P).map .fz)])=BZ (EL s d) es a aL aN aE:=by
   rw[l1,fK];rfl
  show Ws [.AF,.ow true (.nd (.AL k4) a [.fz (.lst ((d.done s.row).map .str)),.nd (.AL (AR s.ln)) aL (BY (Bz s d s.ln.length)),.nd .lst aN ((s.sn.map PV.str).map .fz),.nd .lst aE ((es.map LE.P).map .fz)]),.is (.int m),.is (dP d),s4] _ _ _;rw[B];refine Xq (i:=1) (eQ rfl (QD rfl (Ee (AK rfl (Ft ⟨_,⟨EL s d,es,a,_,.DX (Hq d),by rw[show(LE.DX (Hq d)).P=dP d from UM d];rfl,⟨aL,aN,aE,rfl⟩,v,rfl⟩,?_⟩)))));rintro _ D⟨rfl,Bg⟩;obtain⟨WU,UP,Wy,rfl⟩:=id Bg;refine⟨_,_,rfl,?_⟩;exact⟨_,_,_,_,rfl,rfl,rfl,d,c,mn c ok.row.nm n,(G7.done ⟨u,ok.row.nm,ok.row.nd⟩ od).len,Bg⟩
def JW:Ax ["pot","state","most","way","names","name","rule","thing","later"] ["pot","state","most"] (Ae XG):=by walk_at "z1"
def aF : ∀ss R,Xf ss R->ss.length=3:=by rintro _ _⟨s,es,a,t,m,rfl,_⟩;rfl
def ZAu(F:AH K "_law_turn" "_law_turn" XG f fd)(m:mg "_law_turn"=some (.ref f)):
  A9 P w K mg Zl "_law_turn" 9 ["pot","state","most"] (Bj Xf):=by
 refine A9.mk F (F.binds (by walk_at "bD3")) m (F.B5 (k:=8) JW (λvs H Q E h=>Fz.Gs aF h) (λAX A outer s H vs Q E j h=>?_))
 refine⟨_,(AE rfl (B2 3 JW.nd (AV Bu j (A0 (qv 0) (A0 A6 A5))))
   (AE rfl (B2 4 JW.nd (BQ (uB rfl) Fn (A0 (By (BJ j) (qv 1) Ac (λ_ _=>rfl)) A5)))
   (AB rfl (Aw (Iq (Fw (Ah BX (qv 3) A6) (Gg (Ah HY (BQ Gh As (A0 (qv 4) A5)) A6))).pt (JM (Fw (Ah HY (qv 3) A6) (Gg (Ah (Rc j.Lc) (qv 4) (Gw A5)))).pt)).pt (AE rfl (B2 5 JW.nd (AV IK j (A0 (qv 0) (A0 (By (BJ j) (qv 1) Ac (λ_ _=>rfl)) A5))))
   (AE rfl (B2 6 JW.nd (AU Aa (Ce (A0 Ac (A0 Ac (A0 Ac A5)))) (AV Bu j (A0 (qv 0) (A0 A6 A5)))))
   (AE rfl (HU (BJ j) (By (BJ j) (qv 1) Ac (λ_ _=>rfl)) (qv 5) (AV MO j (A0 (By (BJ j) (qv 1) Ac (λ_ _=>rfl)) (A0 (qv 6) A5))))
   (AE rfl (CP (Ks Oo Z6 Z7 QX (By (BJ j) (qv 1) Ac (λ_ _=>rfl)) (A0 (qv 5) A5)))
   (AB rfl (CP (AV K2 j (A0 (qv 1) (A0 (Ce (A0 Ac (A0 (qv 5) (A0 (qv 6) A5)))) A5))))))))) (AB rfl (Aw (Ah HY (qv 3) A6) (AE rfl (B2 5 JW.nd (AU FY (qv 4) (AV Bu j (A0 (qv 0) (A0 (BQ Gh As (A0 (qv 4) A5)) A5)))))
   (AE rfl (Xk (AV Wr j (A0 (By (BJ j) (qv 1) Ac (λ_ _=>rfl)) (A0 (By (BJ j) (By (BJ j) (qv 1) Ac (λ_ _=>rfl)) (qv 5) (λ_ _=>rfl)) A5))) (XN rfl (MJ (Ff 7 JW.nd) (MJ (Ff 8 JW.nd) VX))))
   (AB rfl (Aw (Ah ZB5 (qv 7) Lr) (AE rfl (CP (VG (By (BJ j) (qv 1) Ac (λ_ _=>rfl)) (qv 5) ⟨rfl,rfl,rfl,rfl⟩))
   (AB rfl (CP (AV K2 j (A0 (qv 1) (A0 (Ce (A0 Ac (A0 (qv 5) A5))) A5)))))) (AE rfl (HU (BJ j) (By (BJ j) (qv 1) Ac (λ_ _=>rfl)) (qv 5) (qv 8))
   (AB rfl (CP (AV K2 j (A0 (qv 1) (A0 (Ce (A0 Ac (A0 (qv 5) (A0 (qv 7) A5)))) A5)))))))))) (AB rfl (CP (AV YN j (A0 (qv 0) (A0 (qv 1) (A0 (qv 2) A5)))))))))))),?_⟩
 refine Fz.cM 1 h aF ?_;rintro _ _⟨s,es,a,t,m,rfl,⟨aL,aN,aE,rfl⟩,ok,D,JU,U9,W,V2,S,rfl⟩;show Ws [_,_,_,.any,.any,.any,.any,.any,.any] _ _ _;have l1:=ok.l1;have K9:=ok.row.len;have wr:∀{s':Ls}{e:LE}{O s4 N M L J:Slot}{ty:TE},Ed s e=some s'->e.say->s'.ln.length<=5->s'.row.length<=m->Wp [.AF,.ow true (BZ s' es a aL aN aE),.is (.int m),O,s4,N,M,L,J] ty (λp=>p=e.P)->Ws [.AF,.ow true (BZ s' es a aL aN aE),.is (.int m),O,s4,N,M,L,J] (HG (D3 (Bj O0) [] E0 (Al (BP 1) (Al ty BO)))) (PY 1 (.mt λp t'=>p=.A7/\∃e s',Ed s e=some s'/\e.say/\s'.ln.length<=5/\s'.row.length<=m/\Hi s' (es++[e]) a t')) (.mt λp t'=>p=.A7/\∃e s',Ed s e=some s'/\e.say/\s'.ln.length<=5/\s'.row.length<=m/\Hi s' (es++[e]) a t'):=λ{s' e O s4 N M L J ty}g se Ux EY hw=>by
  refine Xq (i:=1) (eQ rfl (QD rfl (Ee (hw.mono λp hp=>?_))));subst hp;refine Ft ⟨_,⟨s',es,a,_,e,rfl,⟨aL,aN,aE,rfl⟩,W,rfl⟩,?_⟩;rintro _ t2⟨rfl,Bg⟩;obtain⟨WU,UP,Wy,rfl⟩:=id Bg;exact⟨_,_,rfl,_,_,_,_,rfl,rfl,rfl,e,s',g,se,Ux,EY,Bg⟩
 walk_at "ww"
 refine⟨by decide,by decide,λn w0 w1=>?_⟩;refine Aq (NZ (kP (JG rfl ⟨s.ln,aL,_,rfl,by omega,λCN V st=>?_⟩)));refine Mu 4 rfl ?_;show Ws [.AF,.ow true (BZ s es a aL aN aE),.is (.int m),.is (.int n),.is (.lst (CN.map .str)),.any,.any,.any,.any] _ _ _;have C:=V.length_eq;refine DH (ZBu (k':=λb=>(b=true->s.ln.length<5)/\(b=false->n<4->CN≠[])) ?_ ?_)
 .walk_at "ww"
  refine B9 (λc=>?_) (λc=>?_)
  .walk_at "ww"
   rw[AW,C];refine B9 (λY=>⟨λ_=>by have:=lg Y;omega,λz=>by cases z⟩) (λY=>?_)
   walk_at "ww"
   refine B9 (λB=>?_) (λB=>⟨λz=>(by cases z),λ_ z=>absurd (kc z) B⟩)
   walk_at "ww"
   refine⟨by decide,_,.inl ⟨rfl,rfl,[],rfl,_,rfl,λz=>?_,λz _ q=>?_⟩⟩
   .have:=lg z;rw[this]at C;have:s.ln.length=0:=C.symm;omega
   .rw[kc q]at z;cases z
  .refine Br ?_
   walk_at "ww"
   refine B9 (λB=>?_) (λB=>⟨λz=>(by cases z),λ_ z=>absurd (kc z) B⟩)
   walk_at "ww"
   refine⟨by decide,_,.inl ⟨rfl,rfl,[],rfl,_,rfl,λz=>?_,λz _ q=>?_⟩⟩
   .have:=lg z;rw[this]at C;have:s.ln.length=0:=C.symm;omega
   .rw[kc q]at z;cases z
 rintro b⟨Rj,La⟩;cases b with
 |true=>
  refine ED rfl ?_;refine Aq (Hr (X6 rfl (Rv (dR rfl ⟨aN,_,rfl,rfl,s.sn,rfl,ok.nm,V2,λx hx nx=>?_⟩))))
  walk_at "ww"
  refine⟨by decide,_,.inr ⟨rfl,rfl,?_⟩⟩
  walk_at "ww"
  refine⟨by decide,by decide,λq T σ=>?_⟩;obtain⟨r,u,j⟩:∃r:Str,C2 [PV.str "none",.str "ahead",.str "all"] q=some (.str r)/\r∈Dk:=by
   have:q=0∨q=1∨q=2:=by omega
   rcases this with rfl|rfl|rfl
   .exact⟨"none", rfl,by simp[Dk]⟩
   .exact⟨"ahead", rfl,by simp[Dk]⟩
   .exact⟨"all", rfl,by simp[Dk]⟩
  refine⟨_,_,rfl,u,?_⟩;have sr:EK r:=by
   unfold Dk at j;rcases List.mem_cons.mp j with rfl|j
   .exact YM (by decide) (by decide +kernel)
   .rcases List.mem_cons.mp j with rfl|j
    .exact YM (by decide) (by decide +kernel)
    .rw[List.mem_singleton.mp j];exact YM (by decide) (by decide +kernel)
  have X:x∉s.ln:=λz=>nx (ok.sub x z);show Ws [.AF,.ow true (BZ s es a aL aN aE),.is (.int m),.is (.int n),.is (.lst (CN.map .str)),.is (.str x),.is (.str r),.any,.any] _ _ _;refine Aq (JS (i:=1) (t:=BZ s es a aL aN aE) (E6 (bY (Cb (DL (NJ rfl ⟨_,rfl,_,.inl ⟨rfl,s.row,rfl,AK rfl ⟨r,rfl,j,by omega,λts R K7=>?_⟩⟩⟩))))));rw[iO ok.row.nd R K7];refine JG rfl ⟨true,aL,AR s.ln,_,rfl,rfl,by unfold BY;rw[AW];omega,HF ok.n1,Au,AK rfl ⟨.inr x,rfl,?_⟩⟩;rw[ML X,Uy X,show BY s.ll++[.fz (Cc r 0 (Eh s.row))]=BY (s.ll++[⟨r,0,Eh s.row⟩]) by unfold BY;rw[Dp];rfl];unfold BZ;rw[q1];show Ws [.AF,.ow true (BZ ⟨s.row,s.ln++[x],s.ll++[⟨r,0,Eh s.row⟩],s.sn,s.sq⟩ es a aL aN aE),.is (.int m),.is (.int n),.is (.lst (CN.map .str)),.is (.str x),.is (.str r),.any,.any] _ _ _;refine Aq (i5 (i:=1) (dR rfl ⟨true,aN,_,rfl,rfl,by rw[AW,AW];show s.sn.length<=99999;omega,E6 (AK rfl ⟨Au,?_⟩)⟩));unfold BZ;rw[q2,show(s.sn.map PV.str).map OV.fz++[.fz (.str x)]=((s.sn++[x]).map PV.str).map OV.fz by rw[Dp,Dp];rfl];refine wr (s':=⟨s.row,s.ln++[x],s.ll++[⟨r,0,Eh s.row⟩],s.sn++[x],s.sq++[⟨s.row.length,0,0,0⟩]⟩) (e:=.EW x r) (by show E5 s x r=_;unfold E5;rw[kz ⟨gY hx,nx,kc j⟩]) ⟨JL hx,sr⟩ ?_ D ?_
  .show(s.ln++[x]).length<=5;have:=Rj rfl;rw[C0,Mn];omega
  .exact Ji (Dl (FQ (Dl (AK rfl (Dl (AK rfl (IV ⟨by show 3<=100000;decide,rfl⟩)))))))
 |false=>
  refine AZ (by decide) ?_;have hb:=La rfl
  walk_at "ww"
  refine B9 (λc=>?_) (λc=>?_)
  .have Ak:=hb (lg c);have GQ:0<CN.length:=List.length_pos_iff.mpr Ak
   walk_at "ww"
   rw[AW];refine⟨by omega,by omega,λq T σ=>?_⟩;obtain⟨q,rfl⟩:=Hu T;obtain⟨x,hx⟩:∃x,CN[q]?=some x:=⟨_,Am (by omega)⟩;refine⟨_,.str x,rfl,?_,?_⟩
   .exact dX (by rw[B1,hx];rfl)
   have o:x∈s.ln:=V.mem_iff.mp (Cq hx);have hi:=List.idxOf_lt_length_iff.mpr o;obtain⟨l,I⟩:∃l,s.ll[s.ln.idxOf x]?=some l:=⟨_,Am (by omega)⟩;have G:=ok.good l (Cq I);have d6:=G.len;have U:EK x:=JL (ok.nm x (ok.sub x o));show Ws [.AF,.ow true (BZ s es a aL aN aE),.is (.int m),.is (.int n),.is (.lst (CN.map .str)),.is (.str x),.any,.any,.any] _ _ _;refine Aq (yY (oH (Cb (DL (NJ rfl ⟨_,rfl,_,.inl ⟨rfl,s.row,rfl,DL (Ga (JG rfl ⟨AR s.ln,aL,_,rfl,AK rfl ⟨.inr x,s.ln.idxOf x,.fz l.P,rfl,Fy o,QQ I,_,rfl,l.r,l.g,l.cs,rfl,G,by omega,?_⟩⟩))⟩⟩)))));cases u:Ey s.row l.g l.cs with
   |nil=>
    have h0:l.cs=[]:=by
     cases ec:l.cs with
     |nil=>rfl
     |cons y r=>
      have v:y∈l.cs:=by rw[ec];exact CJ
      have:y∈Ey s.row l.g l.cs:=Pe.mpr ⟨G.sub y v,v⟩;rw[u]at this;cases this
    rw[show JV s.row l.r l.g l.cs=.tup [.A7,Cc l.r l.g l.cs] by unfold JV;rw[u]];refine R9 ⟨_,_,rfl,?_⟩;show Ws [.AF,.ow true (BZ s es a aL aN aE),.is (.int m),.is (.int n),.is (.lst (CN.map .str)),.is (.str x),.any,.is .A7,.is (Cc l.r l.g l.cs)] _ _ _;refine DH (DB (jI (AK rfl (KU ⟨rfl,_,rfl,ED rfl ?_⟩))));refine Aq (bM (i:=1) (t:=BZ s es a aL aN aE) (JG rfl ⟨true,aL,AR s.ln,_,rfl,rfl,HF ok.n1,AK rfl ⟨.inr x,s.ln.idxOf x,rfl,Fy o,?_⟩⟩));unfold BZ;rw[q1,W4,Zc];refine wr (s':=⟨s.row,s.ln.eraseIdx (s.ln.idxOf x),s.ll.eraseIdx (s.ln.idxOf x),s.sn,s.sq⟩) (e:=.over x) ?_ U (CK (ZDF _ _) S) D (Ji (Dl (FQ (Dl (AK rfl (IV ⟨by show 2<=100000;decide,rfl⟩))))));show Du s x=_;unfold Du;rw[I];show(if l.cs=[]then _ else none)=_
    rw[kz h0]
   |cons y GK=>
    have v:y∈l.cs:=(Pe.mp (by rw[u];exact CJ)).2;rw[show JV s.row l.r l.g l.cs=.tup [.str y,Cc l.r (s.row.idxOf y+1) (wo l.cs y)] by unfold JV;rw[u]];refine R9 ⟨_,_,rfl,?_⟩;show Ws [.AF,.ow true (BZ s es a aL aN aE),.is (.int m),.is (.int n),.is (.lst (CN.map .str)),.is (.str x),.any,.is (.str y),.is (Cc l.r (s.row.idxOf y+1) (wo l.cs y))] _ _ _;refine DH (DB (jI (AK rfl (KU ⟨rfl,_,rfl,AZ (λz=>by cases z) ?_⟩))));refine Aq (JS (i:=1) (t:=BZ s es a aL aN aE) (E6 (AK rfl (JG rfl ⟨true,aL,AR s.ln,_,rfl,rfl,by unfold BY;rw[AW];omega,HF ok.n1,Au,AK rfl ⟨.inr x,rfl,?_⟩⟩))));rw[Pj o,Qz o];unfold BZ;rw[q1,show(BY s.ll).set (s.ln.idxOf x) (.fz (Cc l.r (s.row.idxOf y+1) (wo l.cs y)))=BY (s.ll.set (s.ln.idxOf x) ⟨l.r,s.row.idxOf y+1,wo l.cs y⟩)from Q9 _ _ ⟨l.r,s.row.idxOf y+1,wo l.cs y⟩];refine wr (s':=⟨s.row,s.ln,s.ll.set (s.ln.idxOf x) ⟨l.r,s.row.idxOf y+1,wo l.cs y⟩,s.sn,s.sq.modify (s.sn.idxOf x) Sm.tell⟩) (e:=.tell x y) ?_ ⟨U,JL (ok.row.nm y (G.sub y v))⟩ S D (Ji (Dl (FQ (Dl (AK rfl (Dl (AK rfl (IV ⟨by show 3<=100000;decide,rfl⟩))))))));show Dm s x y=_;unfold Dm;rw[I];show(if y∈l.cs then _ else none)=_
    rw[kz v]
  .refine dk (p:=0) (i:=1) rfl rfl (QD rfl (Ee (AK rfl (Ft ⟨_,⟨s,es,a,_,m,rfl,⟨aL,aN,aE,rfl⟩,ok,D,JU,U9,W,V2,rfl⟩,?_⟩))));rintro _ t2⟨rfl,d,od,sd,EY,Bg⟩;obtain⟨WU,UP,Wy,rfl⟩:=id Bg;exact⟨_,_,rfl,_,_,_,_,rfl,rfl,rfl,_,_,c6 od,sd,S,EY,Bg⟩
def wL:Ax ["self","row"] ["self","row"] (Ae UK):=by walk_at "z1"
def i3:∀ss R,(Xb A4 AA) ss R->ss.length=2:=by rintro _ _⟨a,dx,tp,ns,rfl,rfl⟩;rfl
def mK(F:AH K "__init__" "Course.__init__" UK f fd)(c:Mk K A4 f):
  Ni P w K mg Zl A4 2 ["self","row"] (Bj (Xb A4 AA)):=by
 refine⟨f,fd,F.B5 (k:=1) wL (λvs H Q E h=>Fz.Gs i3 h) (λAX A outer s H vs Q E e h=>?_),(F.binds (by walk_at "bD2")),c⟩
 refine⟨_,(AE rfl (JH (qv 0) (EO KS CD (A0 (qv 1) A5)))
   (AE rfl (JH (qv 0) RS)
   (AB rfl (JH (qv 0) RS)))),?_⟩
 refine Fz.Qc h i3 ?_;rintro _ _⟨a,dx,tp,ns,rfl,rfl⟩;show Ws [_,_] _ _ _;cases tp
 case' false=>refine Aq (Ih (i:=0) (E6 (G6 (PM rfl (Cb (AK rfl ⟨_,.inl ⟨rfl,Bv rfl ⟨true,A4,dx,_,a,_,rfl,rfl,Ay,Cs,by decide,Au,?_⟩⟩⟩))))))
 case' true=>refine Aq (Ih (i:=0) (E6 (G6 (PM rfl (Cb (AK rfl ⟨_,.inr ⟨rfl,Bv rfl ⟨true,A4,dx,_,a,_,rfl,rfl,Ay,Cs,by decide,Au,?_⟩⟩⟩))))))
 all_goals
  rw[OV.DN];show Ws [.ow true (.nd (.obj A4 dx ["standing"]) a [.fz (.lst (ns.map .str))]),_] _ _ _;refine Aq (Ih (i:=0) (RV λb=>Bv rfl ⟨true,A4,dx,_,a,_,rfl,rfl,Ay,C6,by decide,Au,?_⟩));rw[OV.DN];show Ws [.ow true (.nd (.obj A4 dx ["standing","running"]) a [.fz (.lst (ns.map .str)),.nd (.AL []) b []]),_] _ _ _;refine Ih (i:=0) (RV λd=>Bv rfl ⟨true,A4,dx,_,a,_,rfl,rfl,Ay,DQ,by decide,Au,?_⟩);rw[OV.DN];exact⟨_,_,_,_,rfl,rfl,rfl,b,d,rfl⟩
def ZAh:Ax ["self","stood"] ["self","stood"] (Ae U7):=by walk_at "z1"
def bj:∀ss R,(YL AA) ss R->ss.length=2:=by rintro _ _⟨a,dx,n,rfl,rfl⟩;rfl
def uM(F:AH K "__init__" "Tally.__init__" U7 f fd)(b:Mk K AA f):
  Ni P w K mg Zl AA 1 ["self","stood"] (Bj (YL AA)):=by
 refine⟨f,fd,F.B5 (k:=0) ZAh (λvs H Q E h=>Fz.Gs bj h) (λAX A outer s H vs Q E c h=>?_),(F.binds (by walk_at "bD2")),b⟩
 refine⟨_,(AE rfl (JH (qv 0) (qv 1))
   (AE rfl (JH (qv 0) A6)
   (AE rfl (JH (qv 0) A6)
   (AB rfl (JH (qv 0) A6))))),?_⟩
 refine Fz.Qc h bj ?_;rintro _ _⟨a,dx,n,rfl,rfl⟩;show Ws [_,_] _ _ _;refine Aq (Ih (i:=0) (E6 (AK rfl (Bv rfl ⟨true,AA,dx,_,a,_,rfl,rfl,DW,Li,by decide,Au,?_⟩))));rw[OV.DN];show Ws [.ow true (.nd (.obj AA dx ["stood"]) a [.fz (.int n)]),.is (.int n)] _ _ _;refine Aq (Ih (i:=0) (E6 (Er (Bv rfl ⟨true,AA,dx,_,a,_,rfl,rfl,DW,Il,by decide,Au,?_⟩))));rw[OV.DN];show Ws [.ow true (.nd (.obj AA dx ["stood","joined"]) a [.fz (.int n),.fz (.int 0)]),.is (.int n)] _ _ _;refine Aq (Ih (i:=0) (E6 (Er (Bv rfl ⟨true,AA,dx,_,a,_,rfl,rfl,DW,IL,by decide,Au,?_⟩))));rw[OV.DN];show Ws [.ow true (.nd (.obj AA dx ["stood","joined","told"]) a [.fz (.int n),.fz (.int 0),.fz (.int 0)]),.is (.int n)] _ _ _;refine Ih (i:=0) (E6 (Er (Bv rfl ⟨true,AA,dx,_,a,_,rfl,rfl,DW,Iv,by decide,Au,?_⟩)));rw[OV.DN];exact⟨_,_,_,_,rfl,rfl,rfl,rfl⟩
def xK:Ax ["self","loop","rule"] ["self","loop","rule"] (Ae Wc):=by walk_at "z1"
def fB:∀ss R,(V6 A4 AA) ss R->ss.length=3:=by rintro _ _⟨s,a,t,x,r,rfl,_,_,_,_,_,rfl⟩;rfl
def mm(F:AH K "follows_begin" "Course.follows_begin" Wc f fd)(o:Meth K A4 "follows_begin" f):
  D8 P w K mg Zl A4 "follows_begin" 6 ["self","loop","rule"] (Bj (V6 A4 AA)):=by
 refine⟨f,fd,F.B5 (k:=5) xK (λvs H Q E h=>Fz.Gs fB h) (λAX A outer s H vs Q E d h=>?_),(F.binds (by walk_at "bD3")),o,Ay⟩
 refine⟨_,(AE rfl (Aw (Iq (J9 (MT (AV MY d (A0 (qv 1) A5)))) (Iq (yj (BJ d) (qv 1) (C9 (qv 0))) (JM (Ah O7 (qv 2) (Mf (v:=.ref Dg) (by rfl) Im rfl))))).pt (AB rfl (Af FN)) B6)
   (AE rfl (HU (BJ d) (C9 (qv 0)) (qv 1) (AV MO d (A0 (C9 (qv 0)) (A0 (qv 2) A5))))
   (AE rfl (HU (BJ d) (C9 (qv 0)) (qv 1) (aH Vd d (by decide) TV (A0 (BQ Gh As (A0 (C9 (qv 0)) A5)) A5)))
   (AB rfl (Af FN))))),?_⟩
 refine Fz.Oa h fB ?_;rintro _ _⟨s,a,t,x,r,rfl,p,ok,hx,d,hn,rfl⟩;obtain⟨dx,aL,aS,us,Cn,rfl⟩:=p;have C:MM K Dg ([("none":Str), "ahead","all"].map .str):=MM.of IW rfl rfl;show Ws [_,_,_] _ _ _;have no:∀nx:List Slot->Prop,¬ (isNm x=true/\x∉s.sn/\Xn r=true)->Ws [.ow true (BR s A4 a dx aL aS us),.is (.str x),.is (.str r)] (Jm (tC (V.bl false))) nx (.mt (N5 (λs t=>CY s A4 AA a t) s (E5 s x r))):=λnx h=>Jd (i:=0) rfl (GV (.inr ⟨by unfold E5;rw[km h],rfl,dx,aL,aS,us,Cn,rfl⟩));refine Aq (DH (Kc (Vj (JQ (xb (AK rfl ⟨x,rfl,hx.2,_,rfl,?_⟩))))));refine B9 (λc=>no _ λz=>by rw[z.1]at c;cases c) (λc=>?_);refine Kc (JQ (sZ (AK rfl (NU rfl Ay DQ ⟨AR s.sn,aS,us,.inr x,rfl,rfl,_,rfl,?_⟩))));rw[JZ];refine B9 (λl=>no _ λz=>z.2.1 (lg l)) (λl=>?_);refine DB (y8 (neg:=true) C (AK rfl ⟨r,rfl,_,rfl,?_⟩));refine B9 (λj=>no _ λz=>?_) (λj=>Ar ?_)
 .have g:decide (r∈([("none":Str), "ahead","all"]))=true:=z.2.2;rw[g]at j;cases j
 have h1:isNm x=true:=by cases e:isNm x with
  |true=>rfl
  |false=>exact absurd (by rw[e];rfl) c
 have h2:x∉s.sn:=λz=>l (kc z);have g:Xn r=true:=by
  show decide (r∈([("none":Str), "ahead","all"]))=true;cases e:decide (r∈([("none":Str), "ahead","all"]))with
  |true=>rfl
  |false=>exact absurd (by rw[e];rfl) j
 have m:x∉s.ln:=λz=>h2 (ok.sub x z);refine Aq (JS (i:=0) (t:=BR s A4 a dx aL aS us) (E6 (bY (Cb (DL (OG rfl Ay Cs ⟨_,rfl,_,.inl ⟨rfl,s.row,rfl,AK rfl ⟨r,rfl,lg g,by have:=ok.row.len;omega,λts n st=>?_⟩⟩⟩))))));rw[iO ok.row.nd n st];have l1:=ok.l1;have l2:=ok.l2;have u:=IP ok.n1 ok.sub;refine(JF rfl Ay C6 ⟨true,aL,AR s.ln,_,rfl,rfl,by unfold BY;rw[AW];omega,HF ok.n1,Au,AK rfl ⟨.inr x,rfl,?_⟩⟩);rw[ML m,Uy m];unfold BR;rw[show([]++[1]:List Nat)=[1]from rfl,PJ];have q:BY s.ll++[.fz (Cc r 0 (Eh s.row))]=BY (s.ll++[⟨r,0,Eh s.row⟩]):=by unfold BY;rw[Dp];rfl
 rw[q];show Ws [.ow true (BR ⟨s.row,s.ln++[x],s.ll++[⟨r,0,Eh s.row⟩],s.sn,s.sq⟩ A4 a dx aL aS us),.is (.str x),.is (.str r)] _ _ _;refine Aq (JS (i:=0) (t:=BR ⟨s.row,s.ln++[x],s.ll++[⟨r,0,Eh s.row⟩],s.sn,s.sq⟩ A4 a dx aL aS us) (gO (Ee (Fg (Cb (DL (OG rfl Ay Cs ⟨_,rfl,_,.inl ⟨rfl,Ft λb e=>⟨_,⟨b,e,s.row.length,by rw[AW],rfl⟩,?_⟩⟩⟩)))))));rintro _ _⟨rfl,rfl⟩;refine⟨rfl,_,_,rfl,?_⟩;refine(NU rfl Ay DQ ⟨true,aS,AR s.sn,us,rfl,rfl,by rw[Cn.1];omega,HF ok.n2,Au,AK rfl ⟨.inr x,rfl,?_⟩⟩);rw[ML h2,Uy h2];unfold BR;rw[show([]++[2]:List Nat)=[2]from rfl,put2];exact Jd (i:=0) rfl (GV (.inl ⟨_,by unfold E5;rw[kz ⟨h1,h2,g⟩],rfl,dx,aL,aS,_,Cn.snoc ⟨e,b,rfl⟩,rfl⟩))
def zP:Ax ["self","loop"] ["self","loop"] (Ae Ul):=by walk_at "z1"
def ar:∀ss R,(Kb A4) ss R->ss.length=2:=by rintro _ _⟨s,xs,x,rfl,_,rfl⟩;rfl
def we(F:AH K "coming" "Course.coming" Ul f fd)(d:Meth K A4 "coming" f):
  D8 P w K mg Zl A4 "coming" 2 ["self","loop"] (CG (Kb A4)):=by
 refine⟨f,fd,F.B5 (k:=1) zP (λvs H Q E h=>Fz.Kx ar h) (λAX A outer s H vs Q E a h=>?_),(F.binds (by walk_at "bD2")),d,Ay⟩
 refine⟨_,(AE rfl (Aw (Qj (BJ a) (qv 1) (C9 (qv 0))) (AB rfl (Af (Ce A5))) B6)
   (AB rfl (Af (AU Aa (By (BJ a) (C9 (qv 0)) (qv 1) (λ_ _=>rfl)) A6)))),?_⟩
 refine Fz.Kj h ar ?_;rintro _ _⟨s,xs,x,rfl,e,rfl⟩;show Ws [_,_] _ _ _;refine Aq (DH (JQ (nQ (AK rfl (IT (AK rfl ⟨A4,GD,_,1,_,rfl,Ay,C6,by decide +kernel,rfl,AR s.ln,_,.inr x,rfl,rfl,_,rfl,?_⟩))))));rw[JZ];refine B9 (λc=>?_) (λc=>Ar ?_)
 .refine HE (Ji (IV ⟨by simp,?_⟩));have nx:x∉s.ln:=λz=>by rw[kc z]at c;cases c
  unfold An;rw[je nx,e,JB (Ad _)];rfl
 .have hx:x∈s.ln:=SM λz=>c (by rw[lx z];rfl);have hi:=List.idxOf_lt_length_iff.mpr hx;obtain⟨l,b⟩:∃l,s.ll[s.ln.idxOf x]?=some l:=⟨_,Am (by omega)⟩;refine HE (Lx (Cb (Ll (IT (AK rfl ⟨A4,GD,_,1,_,rfl,Ay,C6,by decide +kernel,rfl,AR s.ln,_,rfl,AK rfl ⟨.inr x,l.P,rfl,Sj hx (by rw[B1,b];rfl),_,.inr ⟨rfl,rfl,Er ⟨_,_,rfl,rfl,?_⟩⟩⟩⟩)))));unfold An;rw[b]
def c8:Ax ["self","loop","name","tally"] ["self","loop","name"] (Ae Wj):=by walk_at "z1"
def jH:∀ss R,(Ye A4 AA) ss R->ss.length=3:=by rintro _ _⟨s,a,t,x,y,rfl,_,_,_,rfl⟩;rfl
def r6(F:AH K "follows_tell" "Course.follows_tell" Wj f fd)(G:Meth K A4 "follows_tell" f):
  D8 P w K mg Zl A4 "follows_tell" 6 ["self","loop","name"] (Bj (Ye A4 AA)):=by
 refine⟨f,fd,F.B5 (k:=5) c8 (λvs H Q E h=>Fz.Gs jH h) (λAX A outer s H vs Q E m h=>?_),(F.binds (by walk_at "bD3")),G,Ay⟩
 refine⟨_,(AE rfl (Aw (Ah O7 (qv 2) (FL Eu m (by decide) (qv 0) (A0 (qv 1) A5))) (AB rfl (Af FN)) B6)
   (AE rfl (HU (BJ m) (C9 (qv 0)) (qv 1) (AV Ld m (A0 (C9 (qv 0)) (A0 (By (BJ m) (C9 (qv 0)) (qv 1) (λ_ _=>rfl)) (A0 (qv 2) A5)))))
   (AE rfl (B2 3 c8.nd (By (BJ m) (C9 (qv 0)) (qv 1) (λ_ _=>rfl)))
   (AE rfl (UX (qv 3) A6 V3)
   (AB rfl (Af FN)))))),?_⟩
 refine Fz.Oa h jH ?_;rintro _ _⟨s,a,t,x,y,rfl,I,ok,hn,rfl⟩;obtain⟨dx,aL,aS,us,Cn,rfl⟩:=I;show Ws [_,_,_,.any] _ _ _;have l1:=ok.l1;have l2:=ok.l2;have N:=IP ok.n1 ok.sub;have R:(An s x).length<=1000:=by
  unfold An;split
  .next l e=>have:=(ok.good l (Cq e)).len;have:=ok.row.len;omega
  .exact C1 _
 refine Aq (DH (DB (dg (AK rfl ⟨y,rfl,(Hz rfl rfl l1 ⟨_,rfl,?_⟩)⟩))));refine⟨_,rfl,?_⟩;have no:y∉An s x->Dm s x y=none:=λh=>by
  unfold Dm;unfold An at h;split
  .next l e=>rw[e]at h;rw[km h]
  .rfl
 refine B9 (λc=>?_) (λc=>Ar ?_)
 .refine Jd (i:=0) rfl (GV (.inr ⟨no (λz=>(by rw[kc z]at c;cases c)),rfl,dx,aL,aS,us,Cn,rfl⟩))
 .have d:y∈An s x:=SM λz=>c (by rw[lx z];rfl);obtain⟨l,n⟩:∃l,s.ll[s.ln.idxOf x]?=some l:=by
   unfold An at d;split at d
   .next l e=>exact⟨l,e⟩
   .cases d
  have L:An s x=l.cs:=by unfold An;rw[n]
  rw[L]at d;have o:x∈s.ln:=UW l1 n;have xs:x∈s.sn:=ok.sub x o;have B:=ok.good l (Cq n);have D:y∈s.row:=B.sub y d;have S:=ok.row.len;have O:=B.len;refine Aq (JS (i:=0) (t:=BR s A4 a dx aL aS us) (E6 (wR (Cb (DL (OG rfl Ay Cs ⟨_,rfl,_,.inl ⟨rfl,s.row,rfl,?_⟩⟩))))));refine DL (Ga (JF rfl Ay C6 ⟨AR s.ln,aL,_,rfl,AK rfl ⟨.inr x,s.ln.idxOf x,.fz l.P,rfl,Fy o,QQ n,_,rfl,l.r,l.g,l.cs,rfl,AK rfl ⟨y,rfl,by omega,D,?_⟩⟩⟩));refine(JF rfl Ay C6 ⟨true,aL,AR s.ln,_,rfl,rfl,by unfold BY;rw[AW];omega,HF ok.n1,Au,AK rfl ⟨.inr x,rfl,?_⟩⟩);rw[Pj o,Qz o];unfold BR;rw[show([]++[1]:List Nat)=[1]from rfl,PJ];have J:(BY s.ll).set (s.ln.idxOf x) (.fz (Cc l.r (s.row.idxOf y+1) (wo l.cs y)))=BY (s.ll.set (s.ln.idxOf x) ⟨l.r,s.row.idxOf y+1,wo l.cs y⟩):=Q9 _ _ ⟨l.r,s.row.idxOf y+1,wo l.cs y⟩;rw[J];obtain⟨q,C⟩:∃q,s.sq[s.sn.idxOf x]?=some q:=⟨_,Am (by have:=List.idxOf_lt_length_iff.mpr xs;omega)⟩;obtain⟨u,v,e,b,rfl⟩:=Cn.get C;show Ws [.ow true (BR ⟨s.row,s.ln,s.ll.set (s.ln.idxOf x) ⟨l.r,s.row.idxOf y+1,wo l.cs y⟩,s.sn,s.sq⟩ A4 a dx aL aS us),.is (.str x),.is (.str y),.any] _ _ _;refine Aq (gZ (i:=0) (Ga (NU rfl Ay DQ ⟨AR s.sn,aS,us,rfl,AK rfl ⟨.inr x,s.sn.idxOf x,_,rfl,Fy xs,v,_,b,_,rfl,?_⟩⟩)));show Ws [.ow true (BR ⟨s.row,s.ln,s.ll.set (s.ln.idxOf x) ⟨l.r,s.row.idxOf y+1,wo l.cs y⟩,s.sn,s.sq⟩ A4 a dx aL aS us),.is (.str x),.is (.str y),.raw (ptr b)] _ _ _;refine Aq (Tg (WG (j:=3) (i:=0) (p:=[2,s.sn.idxOf x]) rfl rfl (W0 v) ⟨true,AA,e,_,b,_,2,_,rfl,rfl,DW,IL,by decide,by decide +kernel,rfl,Er ⟨_,rfl,?_⟩⟩));unfold BR;rw[Xi v];refine Jd (i:=0) rfl (GV (.inl ⟨⟨s.row,s.ln,s.ll.set (s.ln.idxOf x) ⟨l.r,s.row.idxOf y+1,wo l.cs y⟩,s.sn,s.sq.modify (s.sn.idxOf x) Sm.tell⟩,?_,rfl,dx,aL,aS,_,Cn.set λM h'=>by rw[C]at h';cases h';exact⟨e,b,rfl⟩,rfl⟩));unfold Dm;rw[n];show(if y∈l.cs then _ else none)=_
  rw[kz d]
def nr:Ax ["self","loop"] ["self","loop"] (Ae X5):=by walk_at "z1"
def gq:∀ss R,(Xl A4 AA) ss R->ss.length=2:=by rintro _ _⟨s,a,t,x,rfl,_,_,rfl⟩;rfl
def uZ(F:AH K "follows_over" "Course.follows_over" X5 f fd)(j:Meth K A4 "follows_over" f):
  D8 P w K mg Zl A4 "follows_over" 6 ["self","loop"] (Bj (Xl A4 AA)):=by
 refine⟨f,fd,F.B5 (k:=5) nr (λvs H Q E h=>Fz.Gs gq h) (λAX A outer s H vs Q E g h=>?_),(F.binds (by walk_at "bD2")),j,Ay⟩
 refine⟨_,(AE rfl (Aw (Iq (Qj (BJ g) (qv 1) (C9 (qv 0))) (JM (Ah OY (BQ Gh As (A0 (FL Eu g (by decide) (qv 0) (A0 (qv 1) A5)) A5)) A6))).pt (AB rfl (Af FN)) B6)
   (AE rfl (CP (VG (C9 (qv 0)) (qv 1) ⟨rfl,rfl,rfl,rfl⟩))
   (AB rfl (Af FN)))),?_⟩
 refine Fz.Oa h gq ?_;rintro _ _⟨s,a,t,x,rfl,m,ok,rfl⟩;obtain⟨dx,aL,aS,us,Cn,rfl⟩:=m;show Ws [_,_] _ _ _;have l1:=ok.l1;refine Aq (DH (Kc (JQ (Vw (AK rfl (JF rfl Ay C6 ⟨AR s.ln,aL,_,.inr x,rfl,rfl,_,rfl,?_⟩))))));rw[JZ];refine B9 (λc=>?_) (λc=>?_)
 .have nx:x∉s.ln:=λz=>by rw[kc z]at c;cases c
  refine Jd (i:=0) rfl (GV (.inr ⟨?_,rfl,dx,aL,aS,us,Cn,rfl⟩));unfold Du;rw[je nx,l1,JB (Ad _)]
 .have hx:x∈s.ln:=SM λz=>c (by rw[lx z];rfl);have hi:=List.idxOf_lt_length_iff.mpr hx;obtain⟨l,d⟩:∃l,s.ll[s.ln.idxOf x]?=some l:=⟨_,Am (by omega)⟩;have n:An s x=l.cs:=by unfold An;rw[d]
  refine DB (Jr (Fg (Hz rfl rfl l1 ?_)));rw[AW,n];refine⟨_,rfl,Er ⟨_,rfl,_,rfl,?_⟩⟩;refine B9 (λe=>?_) (λe=>Ar ?_)
  .have b:=lg e;refine Jd (i:=0) rfl (GV (.inr ⟨?_,rfl,dx,aL,aS,us,Cn,rfl⟩));unfold Du;rw[d];show(if l.cs=[]then _ else none)=none
   rw[km (λz=>by rw[z]at b;exact absurd b (by decide))]
  .have b:l.cs=[]:=List.length_eq_zero_iff.mp (by have:¬ (0:Int)<l.cs.length:=λz=>e (kc z);omega);refine Aq (bM (i:=0) (t:=BR s A4 a dx aL aS us) (JF rfl Ay C6 ⟨true,aL,AR s.ln,_,rfl,rfl,HF ok.n1,AK rfl ⟨.inr x,s.ln.idxOf x,rfl,Fy hx,?_⟩⟩));unfold BR;rw[show([]++[1]:List Nat)=[1]from rfl,PJ,W4,Zc];refine Jd (i:=0) rfl (GV (.inl ⟨⟨s.row,s.ln.eraseIdx (s.ln.idxOf x),s.ll.eraseIdx (s.ln.idxOf x),s.sn,s.sq⟩,?_,rfl,dx,aL,aS,us,Cn,rfl⟩));unfold Du;rw[d];show(if l.cs=[]then _ else none)=_
   rw[kz b]
def Ub:Ax ["self","loop","deed","many","tally"] ["self","loop","deed"] (Ae Xu):=by walk_at "z1"
def gz:∀ss R,(Y2 A4 AA) ss R->ss.length=3:=by rintro _ _⟨s,a,t,d,i,x,rfl,_,_,_,_,_,_,rfl⟩;rfl
def ZBc(F:AH K "lead" "Course.lead" Xu f fd)(I:Meth K A4 "lead" f):
  D8 P w K mg Zl A4 "lead" 8 ["self","loop","deed"] (Bj (Y2 A4 AA)):=by
 refine⟨f,fd,F.B5 (k:=7) Ub (λvs H Q E h=>Fz.Gs gz h) (λAX A outer s H vs Q E m h=>?_),(F.binds (by walk_at "bD3")),I,Ay⟩
 refine⟨_,(AE rfl (B2 3 Ub.nd (BQ Gh As (A0 (FL Eu m (by decide) (qv 0) (A0 (qv 1) A5)) A5)))
   (AE rfl (HU (BJ m) (C9 (qv 0)) (qv 1) (AV MQ m (A0 (C9 (qv 0)) (A0 (By (BJ m) (C9 (qv 0)) (qv 1) (λ_ _=>rfl)) (A0 (qv 2) A5)))))
   (AE rfl (B2 4 Ub.nd (By (BJ m) (C9 (qv 0)) (qv 1) (λ_ _=>rfl)))
   (AE rfl (D2 (Aw (Ah OY (BQ Gh As (A0 (FL Eu m (by decide) (qv 0) (A0 (qv 1) A5)) A5)) (qv 3)) (AB rfl (UX (qv 4) A6 V3)) B6))
   (AB rfl (Aw (Ah HY (BQ Gh As (A0 (FL Eu m (by decide) (qv 0) (A0 (qv 1) A5)) A5)) (qv 3)) (AB rfl (UX (qv 4) A6 V3)) B6)))))),?_⟩
 refine Fz.Qc h gz ?_;rintro _ _⟨s,a,t,d,i,x,rfl,J,ok,hx,hd,R,hn,rfl⟩;obtain⟨dx,aL,aS,us,Cn,rfl⟩:=J;show Ws [_,_,_,.any,.any] _ _ _;have l1:=ok.l1;have hi:i<s.ln.length:=(List.getElem?_eq_some_iff.mp hx).1;obtain⟨l,n⟩:∃l,s.ll[i]?=some l:=⟨_,Am (by omega)⟩;have B:x∈s.ln:=Cq hx;have xs:x∈s.sn:=ok.sub x B;have G:s.ln.idxOf x=i:=IZ ok.n1 hx;have L:=ok.good l (Cq n);have ll:(Bz s d i).length=s.ll.length:=Ig s d i;have N:An (EH s d i) x=l.cs:=Fx (s:=EH s d i) ok.n1 hx (XF n);refine Aq (Hr (Fg (Hz rfl rfl (by rw[show(EH s d i).ll.length=s.ll.length from ll];exact l1) ?_)));rw[AW,N];refine Aq (JS (i:=0) (t:=BR (EH s d i) A4 a dx aL aS us) (E6 (iZ (Cb (DL (OG rfl Ay Cs ⟨_,rfl,_,.inl ⟨rfl,s.row,rfl,?_⟩⟩))))));refine DL (Ga (JF rfl Ay C6 ⟨AR s.ln,aL,_,rfl,AK rfl ⟨.inr x,i,.fz l.P,rfl,by rw[Fy B,G],QQ (XF n),_,rfl,l.r,l.g,l.cs,rfl,AK rfl ⟨d,rfl,hd,L,ok.row.len,?_⟩⟩⟩));refine(JF rfl Ay C6 ⟨true,aL,AR s.ln,_,rfl,rfl,by unfold BY;rw[AW];show(Bz s d i).length<=99999;have:=IP ok.n1 ok.sub;omega,HF ok.n1,Au,AK rfl ⟨.inr x,rfl,?_⟩⟩);rw[Pj B,Qz B];unfold BR;rw[show([]++[1]:List Nat)=[1]from rfl,PJ,G];have M:(BY (EH s d i).ll).set i (.fz (Cc l.r (d.gap s.row l.g) (d.Fp l.r l.g l.cs)))=BY (Bz s d (i+1)):=by
  rw[<- VE n];exact Q9 _ _ (l.led s.row d)
 rw[M];obtain⟨q,D⟩:=ZCV (d:=d) (i:=i) ok xs;obtain⟨u,v,e,b,rfl⟩:=Cn.get D;have O:=List.idxOf_lt_length_iff.mpr xs;have o:∀Q,An ⟨s.row,s.ln,Bz s d (i+1),s.sn,Q⟩ x=(l.led s.row d).cs:=λQ=>Fx (s:=⟨s.row,s.ln,Bz s d (i+1),s.sn,Q⟩) ok.n1 hx (by rw[<- VE n,CH (by rw[Ig];omega)]);show Ws [.ow true (BR ⟨s.row,s.ln,Bz s d (i+1),s.sn,Cf s d i⟩ A4 a dx aL aS us),.is (.str x),.is (dP d),.is (.int l.cs.length),.any] _ _ _;refine Aq (gZ (i:=0) (Ga (NU rfl Ay DQ ⟨AR s.sn,aS,us,rfl,AK rfl ⟨.inr x,s.sn.idxOf x,_,rfl,Fy xs,v,_,b,_,rfl,?_⟩⟩)));have c:∀us',R2 (Ng AA) us' (Cf s d (i+1))->Oz (.mt λp t'=>p=.A7/\CY (EH s d (i+1)) A4 AA a t') [.ow true (BR ⟨s.row,s.ln,Bz s d (i+1),s.sn,Cf s d (i+1)⟩ A4 a dx aL aS us'),.is (.str x),.is (dP d),.is (.int l.cs.length),.raw (ptr b)]:=λus' h=>⟨_,_,_,_,rfl,rfl,rfl,dx,aL,aS,us',h,rfl⟩;rw[j5 hx n]at c;show Ws [.ow true (BR ⟨s.row,s.ln,Bz s d (i+1),s.sn,Cf s d i⟩ A4 a dx aL aS us),.is (.str x),.is (dP d),.is (.int l.cs.length),.raw (ptr b)] _ _ _;rcases jq l.cs.length (l.led s.row d).cs.length with h|h|h
 .refine Aq (Gn (DH (DB (Jr (Fg (Hz rfl rfl (by rw[show(Bz s d (i+1)).length=s.ll.length from Ig s d (i+1)];exact l1) ?_))))));rw[AW,o];refine⟨_,rfl,AK rfl ⟨_,rfl,_,rfl,ED (kc (by omega)) ?_⟩⟩;refine Tg (WG (j:=4) (i:=0) (p:=[2,s.sn.idxOf x]) rfl rfl (W0 v) ⟨true,AA,e,_,b,_,1,_,rfl,rfl,DW,Il,by decide,by decide +kernel,rfl,Er ⟨_,rfl,?_⟩⟩);unfold BR;rw[Xi v];have y:R2 (Ng AA) (us.set (s.sn.idxOf x) (.nd (.obj AA e ["stood","joined","told","taken"]) b ((JI q.join).map .fz))) ((Cf s d i).modify (s.sn.idxOf x) (Sm.by l.cs.length (l.led s.row d).cs.length)):=Cn.set λC h'=>by
   have h':(Cf s d i)[s.sn.idxOf x]?=some C:=h';rw[D]at h';cases h';unfold Sm.by
   rw[kz h];exact⟨e,b,rfl⟩
  show Ws [.ow true (BR ⟨s.row,s.ln,Bz s d (i+1),s.sn,(Cf s d i).modify (s.sn.idxOf x) (Sm.by l.cs.length (l.led s.row d).cs.length)⟩ A4 a dx aL aS (us.set (s.sn.idxOf x) (.nd (.obj AA e ["stood","joined","told","taken"]) b ((JI q.join).map .fz)))),.is (.str x),.is (dP d),.is (.int l.cs.length),.raw (ptr b)] _ _ _;refine DH (DB (Jr (Fg (Hz rfl rfl (by rw[show(Bz s d (i+1)).length=s.ll.length from Ig s d (i+1)];exact l1) ?_))));rw[AW,o];exact⟨_,rfl,AK rfl ⟨_,rfl,_,rfl,AZ (λz=>by have:=lg z;omega) (Ar (c _ y))⟩⟩
 .have y:R2 (Ng AA) us ((Cf s d i).modify (s.sn.idxOf x) (Sm.by l.cs.length (l.led s.row d).cs.length)):=by
   unfold Sm.by
   rw[km (by omega),km (by omega),ZAw];exact Cn
  refine Aq (Gn (DH (DB (Jr (Fg (Hz rfl rfl (by rw[show(Bz s d (i+1)).length=s.ll.length from Ig s d (i+1)];exact l1) ?_))))));rw[AW,o];refine⟨_,rfl,AK rfl ⟨_,rfl,_,rfl,AZ (λz=>by have:=lg z;omega) (Ar ?_)⟩⟩;refine DH (DB (Jr (Fg (Hz rfl rfl (by rw[show(Bz s d (i+1)).length=s.ll.length from Ig s d (i+1)];exact l1) ?_))));rw[AW,o];exact⟨_,rfl,AK rfl ⟨_,rfl,_,rfl,AZ (λz=>by have:=lg z;omega) (Ar (c _ y))⟩⟩
 .refine Aq (Gn (DH (DB (Jr (Fg (Hz rfl rfl (by rw[show(Bz s d (i+1)).length=s.ll.length from Ig s d (i+1)];exact l1) ?_))))));rw[AW,o];refine⟨_,rfl,AK rfl ⟨_,rfl,_,rfl,AZ (λz=>by have:=lg z;omega) (Ar ?_)⟩⟩;refine DH (DB (Jr (Fg (Hz rfl rfl (by rw[show(Bz s d (i+1)).length=s.ll.length from Ig s d (i+1)];exact l1) ?_))));rw[AW,o];refine⟨_,rfl,AK rfl ⟨_,rfl,_,rfl,ED (kc (by omega)) ?_⟩⟩;refine Tg (WG (j:=4) (i:=0) (p:=[2,s.sn.idxOf x]) rfl rfl (W0 v) ⟨true,AA,e,_,b,_,3,_,rfl,rfl,DW,Iv,by decide,by decide +kernel,rfl,Er ⟨_,rfl,?_⟩⟩);unfold BR;rw[Xi v];have y:R2 (Ng AA) (us.set (s.sn.idxOf x) (.nd (.obj AA e ["stood","joined","told","taken"]) b ((JI q.take).map .fz))) ((Cf s d i).modify (s.sn.idxOf x) (Sm.by l.cs.length (l.led s.row d).cs.length)):=Cn.set λC h'=>by
   have h':(Cf s d i)[s.sn.idxOf x]?=some C:=h';rw[D]at h';cases h';unfold Sm.by
   rw[km (by omega),kz h];exact⟨e,b,rfl⟩
  exact c _ y
def VD:Ax ["self","deed","behind","loop"] ["self","deed"] (Ae XJ):=by walk_at "z1"
def Z8:∀ss R,(PU A4 AA) ss R->ss.length=2:=by rintro _ _⟨s,s1,a,t,d,rfl,_,_,_,_,rfl⟩;rfl
def qh(F:AH K "follows_deed" "Course.follows_deed" XJ f fd)(n:Meth K A4 "follows_deed" f):
  D8 P w K mg Zl A4 "follows_deed" 9 ["self","deed"] (Bj (PU A4 AA)):=by
 refine⟨f,fd,F.B5 (k:=8) VD (λvs H Q E h=>Fz.Gs Z8 h) (λAX A outer s H vs Q E j h=>?_),(F.binds (by walk_at "bD2")),n,Ay⟩
 refine⟨_,(AE rfl (ZAQ rfl rfl (by rfl) WT (λ_ _ _ g1=>by exact(AB rfl (B2 2 VD.nd (AV Lq j (A0 (show QE _ _ (Jx K _ _)from C9 (qv 0)) (A0 (qv 1) A5)))))) (λ_=>by exact(AB rfl (Af FN))))
   (AE rfl (D2 (IC Hy rfl (Hd (EO (fO rfl) CD (A0 (C9 (qv 0)) A5))) (Ff 3 VD.nd) (AB rfl (CP (FL Yd j (by decide) (qv 0) (A0 (qv 3) (A0 (qv 1) A5)))))))
   (AE rfl (JH (qv 0) (qv 2))
   (AB rfl (Af FN))))),?_⟩
 refine Fz.Oa h Z8 ?_;rintro _ _⟨s,s1,a,t,d,rfl,o,ok,hn,b,rfl⟩;obtain⟨dx,aL,aS,us,Cn,rfl⟩:=o;show Ws [_,_,.any,.any] _ _ _;have l1:=ok.l1;have v:=IP ok.n1 ok.sub;have r:=ok.row.len;obtain⟨d',HR⟩:∃d',d.Is s.row d':=by
  unfold En at b;split at b
  .next d' e=>exact⟨d',VI e⟩
  .cases b
 rw[HR.1];refine Aq (vc (λ_=>True) (λ_=>False) (λE=>?_) (λGJ x y q=>q.elim));letI:Xw:=G1 E (λ_=>True) (λ_=>False);refine NZ (aj (Cb (DL (OG rfl Ay Cs ⟨_,rfl,_,.inl ⟨rfl,rfl,s.row,rfl,AK rfl ⟨d',rfl,HR.2,r,?_⟩⟩⟩))));clear this;show Ws [.ow true (BR s A4 a dx aL aS us),.is (dP d'),.own ((d'.done s.row).map .str),.any] _ _ _;refine Mu 2 rfl ?_;have g:∀x,d'=.take x∨(∃i,d'=.move x i)->EK x:=by
  rintro x(rfl|⟨i,rfl⟩)
  .exact JL (ok.row.nm x HR.2)
  .exact JL (ok.row.nm x HR.2.1)
 refine Aq (Gn (Jk (λ_ i AG=>∃(c:Slot)(t':OV),AG=[.ow true t',.is (dP d'),.is (.lst ((d'.done s.row).map .str)),c]/\CY (EH s d' i) A4 AA a t') (Lk (Jf (G6 (gK (JF rfl Ay C6 ⟨AR s.ln,aL,_,rfl,by unfold AR;rw[AW];omega,_,.inl ⟨rfl,?_⟩⟩)))))));rw[jA];refine⟨⟨_,_,rfl,dx,aL,aS,us,Cn,rfl⟩,?_,?_⟩
 .rintro i p AG l⟨c,t',rfl,J0⟩;rw[B1]at l;obtain⟨x,hx,rfl⟩:=Option.map_eq_some_iff.mp l;refine Mc ?_;obtain⟨J1,Pr,Pq,us',Iw,rfl⟩:=id J0;refine Xq (i:=0) (LY rfl (by decide +kernel) (Ee (AK rfl (Ee (AK rfl (Ft ⟨_,⟨s,a,_,d',i,x,rfl,J0,ok,hx,HR.2,g,hn,rfl⟩,?_⟩))))));rintro _ u⟨rfl,Bg⟩;obtain⟨nk,RY,rfl⟩:=Bg.nd;exact⟨nk,RY,rfl,_,_,rfl,Bg⟩
 .rintro AG⟨c,t',rfl,J0⟩;rw[AW]at J0;obtain⟨J1,Pr,Pq,us',Iw,rfl⟩:=J0;refine Aq (Ih (i:=0) (t:=BR (EH s d' s.ln.length) A4 a J1 Pr Pq us') (E6 (AK rfl (Bv rfl ⟨true,A4,J1,GD,a,_,rfl,rfl,Ay,Cs,by decide,Au,?_⟩))));rw[OV.DN];have m:s1=⟨d'.done s.row,s.ln,s.ll.map (Lp.led s.row d'),s.sn,Cf s d' s.ln.length⟩:=by
   unfold En at b;rw[j8 HR]at b;exact(BE b).symm
  refine Jd (i:=0) rfl (GV ⟨rfl,J1,Pr,Pq,us',?_,?_⟩)
  .rw[m];exact Iw
  .rw[m,<- fK,<- l1];rfl
def yx:Ax ["self","entry"] ["self","entry"] (Ae Vf):=by walk_at "z1"
def ee:∀ss R,(WS A4 AA) ss R->ss.length=2:=by rintro _ _⟨s,s1,a,t,e,rfl,_,_,_,_,_,rfl⟩;rfl
def sM(F:AH K "follows" "Course.follows" Vf f fd)(n:Meth K A4 "follows" f):
  D8 P w K mg Zl A4 "follows" 10 ["self","entry"] (Bj (WS A4 AA)):=by
 refine⟨f,fd,F.B5 (k:=9) yx (λvs H Q E h=>Fz.Gs ee h) (λAX A outer s H vs Q E j h=>?_),(F.binds (by walk_at "bD2")),n,Ay⟩
 refine⟨_,(AE rfl (Aw (Ah BX (AU Aa (qv 1) A6) Ac) (AB rfl (Af (FL Vn j (by decide) (qv 0) (A0 (AU Aa (qv 1) A6) (A0 (AU Aa (qv 1) A6) A5))))) B6)
   (AE rfl (Aw (Ah BX (AU Aa (qv 1) A6) Ac) (AB rfl (Af (FL Vt j (by decide) (qv 0) (A0 (AU Aa (qv 1) A6) (A0 (AU Aa (qv 1) A6) A5))))) B6)
   (AE rfl (Aw (Ah BX (AU Aa (qv 1) A6) Ac) (AB rfl (Af (FL WE j (by decide) (qv 0) (A0 (AU Aa (qv 1) A6) A5)))) B6)
   (AB rfl (Af (FL X8 j (by decide) (qv 0) (A0 (qv 1) A5))))))),?_⟩
 refine Fz.Oa h ee ?_;rintro _ _⟨s,s1,a,t,e,rfl,c,ok,m,hn,l,rfl⟩;obtain⟨dx,aL,aS,us,Cn,rfl⟩:=id c;show Ws [_,_] _ _ _;have nd:∀{o:Option Ls}{p:PV}{t':OV},o=some s1->N5 (λs t=>CY s A4 AA a t) s o p t'->∃D4 us',t'=.nd D4 a us'/\(∃nk a us,t'=.nd nk a us)/\p=.bl true/\CY s1 A4 AA a t':=λho h=>by
  rcases h with⟨s2,g,rfl,h⟩|⟨g,_⟩
  .rw[ho]at g;cases g;obtain⟨nk,us,e⟩:=h.nd;exact⟨nk,us,e,⟨nk,a,us,e⟩,rfl,h⟩
  .rw[ho]at g;cases g
 cases e with
 |EW x r=>
  show Ws [_,.is (.tup [.str "begin",.str x,.str r])] _ _ _
  walk_at "ww"
  refine ED (by decide +kernel) ?_;refine Ot (i:=0) rfl (LY rfl (by decide +kernel) (Ee ?_))
  walk_at "ww"
  refine Ee ?_
  walk_at "ww"
  exact Ft ⟨_,⟨s,a,_,x,r,rfl,c,ok,m.1,m.2,hn,rfl⟩,λp t' h=>nd l h⟩
 |tell x y=>
  show Ws [_,.is (.tup [.str "tell",.str x,.str y])] _ _ _
  walk_at "ww"
  refine AZ (by decide +kernel) (Ar ?_)
  walk_at "ww"
  refine ED (by decide +kernel) ?_;refine Ot (i:=0) rfl (LY rfl (by decide +kernel) (Ee ?_))
  walk_at "ww"
  refine Ee ?_
  walk_at "ww"
  exact Ft ⟨_,⟨s,a,_,x,y,rfl,c,ok,hn,rfl⟩,λp t' h=>nd l h⟩
 |over x=>
  show Ws [_,.is (.tup [.str "over",.str x])] _ _ _
  walk_at "ww"
  refine AZ (by decide +kernel) (Ar ?_)
  walk_at "ww"
  refine AZ (by decide +kernel) (Ar ?_)
  walk_at "ww"
  refine ED (by decide +kernel) ?_;refine Ot (i:=0) rfl (LY rfl (by decide +kernel) (Ee ?_))
  walk_at "ww"
  exact Ft ⟨_,⟨s,a,_,x,rfl,c,ok,rfl⟩,λp t' h=>nd l h⟩
 |DX d=>
  have q:∀(p:PV)(t':OV),p=.bl true/\CY s1 A4 AA a t'->∃D4 us',t'=.nd D4 a us'/\(∃nk a us,t'=.nd nk a us)/\p=.bl true/\CY s1 A4 AA a t':=λp t' h=>by
   obtain⟨nk,us,e⟩:=h.2.nd;exact⟨nk,us,e,⟨nk,a,us,e⟩,h⟩
  have b:∀nx,Ws [.ow true (BR s A4 a dx aL aS us),.is (aP d)] (Jm (KR A4 "follows_deed" (Bj (PU A4 AA)) [] E0 (BP 0) (Al (BP 1) BO))) nx (.mt λp t'=>p=.bl true/\CY s1 A4 AA a t'):=λnx=>Ot (i:=0) rfl (LY rfl (by decide +kernel) (Ee (AK rfl (Ft ⟨_,⟨s,s1,a,_,d,rfl,c,ok,hn,l,rfl⟩,q⟩))));show Ws [_,.is (aP d)] _ _ _;cases d with
  |_=>
   unfold aP at b ⊢;dsimp only at b ⊢
   walk_at "ww"
   refine AZ (by decide +kernel) (Ar ?_)
   walk_at "ww"
   refine AZ (by decide +kernel) (Ar ?_)
   walk_at "ww"
   refine AZ (by decide +kernel) (Ar ?_);exact b _
def SJ:Ax ["row","log","course","number","entry"] ["row","log"] (Ae VH):=by walk_at "z1"
def iW:∀ss R,(OD A4 AA) ss R->ss.length=2:=by rintro _ _⟨tp,ns,es,s,rfl,_,_,_,_,rfl⟩;rfl
def ky(F:AH K "course_of" "course_of" VH f fd)(m:mg "course_of"=some (.ref f)):
  A9 P w K mg Zl "course_of" 11 ["row","log"] (CG (OD A4 AA)):=by
 refine A9.mk F (F.binds (by walk_at "bD2")) m (F.B5 (k:=10) SJ (λvs H Q E h=>Fz.Kx iW h) (λAX A outer s H vs Q E c h=>?_))
 refine⟨_,(AE rfl (B2 2 SJ.nd (aH VA c (by decide) Ug (A0 (qv 0) A5)))
   (AE rfl (D2 (IC Hy rfl (ZB3 rfl Ma (A0 (qv 1) A5)) (XN rfl (MJ (Ff 3 SJ.nd) (MJ (Ff 4 SJ.nd) VX))) (AB rfl (Aw (J9 (MT (FL Y3 c (by decide) (qv 2) (A0 (qv 4) A5)))) (AB rfl GF) B6))))
   (AB rfl (Af (qv 2))))),?_⟩
 refine Fz.Kj h iW ?_;rintro _ _⟨tp,ns,es,y,rfl,c,q,B,n,rfl⟩;show Ws [_,_,.any,.any,.any] _ _ _;refine Aq (Mx (gO (Ee (AK rfl (Ft λb e=>⟨_,⟨b,e,tp,ns,rfl,rfl⟩,?_⟩)))));rintro _ _⟨rfl,aL,aS,rfl⟩;refine⟨rfl,_,_,rfl,?_⟩;show Ws [.is (NO tp (ns.map .str)),.is (.lst (es.map LE.P)),.ow false (BR (BS ns) A4 b e aL aS []),.any,.any] _ _ _;refine Aq (Gn (Jk (λ_ i AG=>∃(l s4:Slot)(t':OV)(s:Ls),AG=[.is (NO tp (ns.map .str)),.is (.lst (es.map LE.P)),.ow false t',l,s4]/\runs (BS ns) (es.take i)=some s/\CY s A4 AA b t') (zN (Jf (AK rfl ⟨_,.inl ⟨rfl,rfl,?_⟩⟩)))));refine⟨⟨_,_,_,BS ns,rfl,rfl,e,aL,aS,[],R2.nil,rfl⟩,?_,?_⟩
 .rintro i p AG r⟨l,s4,t',s,rfl,a,j⟩;obtain⟨v,hx,rfl⟩:=hZ r;rw[B1]at hx;obtain⟨o,d,rfl⟩:=Option.map_eq_some_iff.mp hx;have ok:=N8 (MX c) a;have t:=Vh a;have hi:=(List.getElem?_eq_some_iff.mp d).1;rw[CI]at t;have z:(BS ns).sn.length=0:=rfl;obtain⟨s',g⟩:=Zt n d a;refine R9 ⟨_,_,rfl,?_⟩;obtain⟨J1,Pr,Pq,us',Iw,rfl⟩:=id j;refine vz (i:=2) (pC (pV (LY rfl (by decide +kernel) (Ee (AK rfl (Ft ⟨_,⟨s,s',b,_,o,rfl,j,ok,q o (Cq d),by omega,g,rfl⟩,?_⟩))))));rintro _ x⟨rfl,Bg⟩;obtain⟨nk,RY,rfl⟩:=Bg.nd;refine⟨nk,RY,rfl,true,rfl,Br (Ar ⟨_,_,_,s',rfl,?_,Bg⟩)⟩;obtain⟨EE,u⟩:=List.getElem?_eq_some_iff.mp d;rw[Mp EE,u,P5 a,g]
 .rintro AG⟨l,s4,t',s,rfl,a,j⟩;rw[Ke,AW,KG,n]at a;cases a;exact qI (ZCQ rfl ⟨b,j⟩)
def iy:Ax ["row","log","refusal"] ["row","log"] (Ae Vc):=by walk_at "z1"
def ZH : ∀ss R,XC ss R->ss.length=2:=by rintro _ _⟨ns,es,s,rfl,_,_,_,_,rfl⟩;rfl
def nO(F:AH K "first_wrong" "first_wrong" Vc f fd)(m:mg "first_wrong"=some (.ref f)):
  A9 P w K mg Zl "first_wrong" 12 ["row","log"] (CG XC):=by
 refine A9.mk F (F.binds (by walk_at "bD2")) m (F.B5 (k:=11) iy (λvs H Q E h=>Fz.Kx ZH h) (λAX A outer s H vs Q E a h=>?_))
 refine⟨_,(AE rfl (tq (j:=2) rfl rfl iy.nd rfl rfl (by rfl) Y0 (λ_ _ _ g1=>by exact(AB rfl (CP (AV Ik a (A0 (qv 0) (A0 (qv 1) A5)))))) (λ_=>by exact(AB rfl (Af (show QE _ _ (Xe K _ _)from ZAG (qv 2))))))
   (AB rfl (Af Lr))),?_⟩
 refine Fz.Kj h ZH ?_;rintro _ _⟨ns,es,s,rfl,a,c,b,d,rfl⟩;show Ws [_,_,.any] _ _ _;refine Aq (sT (λ_=>True) (λ_=>False) (λE=>?_) (λGJ x i e=>e.elim));letI:Xw:=G1 E (λ_=>True) (λ_=>False);refine vQ (oz (V8 (E8 (AK rfl (E8 (AK rfl (Je ⟨_,⟨false,ns,es,s,rfl,a,c,b,d,rfl⟩,λu g=>?_⟩)))))));refine⟨rfl,?_⟩;clear this;show Ws _ _ _ _;exact HE (KU rfl)
def bh:Ax ["row","log","course"] ["row","log"] (Ae Ya):=by walk_at "z1"
def bo : ∀ss R,U2 ss R->ss.length=2:=by rintro _ _⟨ns,es,s,rfl,_,_,_,_,rfl⟩;rfl
def pG(F:AH K "state_behind" "state_behind" Ya f fd)(m:mg "state_behind"=some (.ref f)):
  A9 P w K mg Zl "state_behind" 12 ["row","log"] (CG U2):=by
 refine A9.mk F (F.binds (by walk_at "bD2")) m (F.B5 (k:=11) bh (λvs H Q E h=>Fz.Kx bo h) (λAX A outer s H vs Q E b h=>?_))
 refine⟨_,(AE rfl (B2 2 bh.nd (AV Ik b (A0 (qv 0) (A0 (qv 1) A5))))
   (AB rfl (Af (Ce (A0 (C9 (qv 2)) (A0 (C9 (qv 2)) A5)))))),?_⟩
 refine Fz.Kj h bo ?_;rintro _ _⟨ns,es,s,rfl,b,d,c,e,rfl⟩;show Ws [_,_,.any] _ _ _;refine Aq (Mx (V8 (E8 (AK rfl (E8 (AK rfl (Je ⟨_,⟨false,ns,es,s,rfl,b,d,c,e,rfl⟩,?_⟩)))))));rintro _⟨a,dx,aL,aS,us,Cn,rfl⟩;show Ws [.is (.lst (ns.map .str)),.is (.lst (es.map LE.P)),.ow false (BR s A4 a dx aL aS us)] _ _ _;refine iI 2 rfl ?_;rw[U3];show Ws [.is (.lst (ns.map .str)),.is (.lst (es.map LE.P)),.is (O4 A4 s (us.map OV.pv))] _ _ _;refine HE (Ji (Dl (IT (AK rfl ⟨_,_,_,0,_,rfl,Ay,Cs,by decide +kernel,rfl,Dl (IT (AK rfl ⟨_,_,_,1,_,rfl,Ay,C6,by decide +kernel,rfl,IV ⟨by show 2<=100000;decide,rfl⟩⟩))⟩))))
def GN:Ax ["first","log","name","here","number","thing","count","due","tells","entry","gone"] ["first","log","name"] (Ae Qu):=by walk_at "z1"
def lB:=Sc [(".0",.local),("one",.local),("tells",.free)]
def tW:Gd ["first","log","name","here","number","thing","count","due","tells","entry","gone"] (Ae Qu) lB "one" ["tells"] [8]:=by walk_at "z2"
def ie : ∀ss R,UR ss R->ss.length=3:=by rintro _ _⟨ns,es,s,x,rfl,_,_,_,rfl⟩;rfl
def mF(F:AH K "_law_told_once" "_law_told_once" Qu f fd)(m:mg "_law_told_once"=some (.ref f)):
  A9 P w K mg Zl "_law_told_once" 1 ["first","log","name"] (CG UR):=by
 refine A9.mk F (F.binds (by walk_at "bD3")) m (F.B5 (k:=0) GN (λvs H Q E h=>Fz.Kx ie h) (λAX A outer s H vs Q E u h=>?_))
 refine⟨_,(AE rfl (B2 3 GN.nd RS)
   (AE rfl (D2 (IC Hy rfl (zS rfl Ma (A0 (qv 0) A5)) (XN rfl (MJ (Ff 4 GN.nd) (MJ (Ff 5 GN.nd) VX))) (AB rfl (HU (BJ u) (qv 3) (qv 5) (qv 4)))))
   (AE rfl (B2 6 GN.nd (BQ Gh As (A0 (qv 0) A5)))
   (AE rfl (B2 7 GN.nd Lr)
   (AE rfl (B2 8 GN.nd (Gw A5))
   (AE rfl (D2 (IC Hy rfl (Hd (qv 1)) (Ff 9 GN.nd) (AE rfl (D2 (Aw (Ah BX (AU Aa (qv 9) A6) Ac) (AE rfl (HU (BJ u) (qv 3) (AU Aa (qv 9) A6) (qv 6))
   (AB rfl (B2 6 GN.nd (BD Ew (qv 6) A6)))) B6))
   (AE rfl (D2 (Aw (Ah BX (AU Aa (qv 9) A6) Ac) (AE rfl (B2 10 GN.nd (VG (qv 3) (AU Aa (qv 9) A6) ⟨rfl,rfl,rfl,rfl⟩))
   (AB rfl (Aw (Fw (Ah i4 (qv 7) Lr) (Fw (Ah K5 (qv 10) (qv 7)) (Gg (Ah O7 (qv 10) (qv 8))))).pt (AB rfl (CP (Ks Oo ZDa PySem.F.type_list_remove ZAi (qv 7) (A0 (qv 10) A5)))) B6))) B6))
   (AE rfl (D2 (Aw (Fw (Ah BX (AU Aa (qv 9) A6) Ac) (Gg (Ah BX (AU Aa (qv 9) A6) (qv 2)))).pt (AB rfl (B2 7 GN.nd (wF rfl rfl CD (qv 3)))) B6))
   (AE rfl (D2 (Aw (Fw (Ah BX (AU Aa (qv 9) A6) Ac) (Gg (Ah BX (AU Aa (qv 9) A6) (qv 2)))).pt (AE rfl (Aw (Iq (Qj (BJ u) (AU Aa (qv 9) A6) (qv 3)) (JM (Ah K5 (By (BJ u) (qv 3) (AU Aa (qv 9) A6) (λ_ _=>rfl)) (qv 8)))).pt (AB rfl (Af FN)) B6)
   (AB rfl (CP (Ks Oo Z6 Z7 QX (qv 8) (A0 (By (BJ u) (qv 3) (AU Aa (qv 9) A6) (λ_ _=>rfl)) A5))))) B6))
   (AB rfl (Aw (Fw (Ah BX (AU Aa (qv 9) A6) Ac) (Gg (Ah BX (AU Aa (qv 9) A6) (qv 2)))).pt (AB rfl (Af (BQ (UQ rfl) IF (A0 (Ky rfl tW (Hd (qv 7)) (λ_ _ _ _=>by exact Uh) (λ_ _ _ _=>by exact(Hk (show BH _ (compareOp .In) (I0 K false)from K5) (qv 1) (qv 0)))) A5)))) B6))))))))
   (AB rfl (Af FN)))))))),?_⟩
 refine Fz.Kj h ie ?_;rintro _ _⟨ns,es,sE,x,rfl,u,hR,hz,rfl⟩;show Ws [_,_,_,.any,.any,.any,.any,.any,.any,.any,.any] _ _ _;have K9:=u.len;refine Aq (Mx (RV λa=>?_));refine Aq (Gn (Jk (λ_ i AG=>∃s4 b:Slot,AG=[.is (.lst (ns.map .str)),.is (.lst (es.map LE.P)),.is (.str x),.ow false (.nd (.AL (AR (ns.take i))) a ((((List.range i).map Int.ofNat).map PV.int).map .fz)),s4,b,.any,.any,.any,.any,.any]) ?_))
 walk_at "ww"
 refine⟨⟨_,_,rfl⟩,?_,?_⟩
 .rintro i p AG L⟨s4,b,rfl⟩;obtain⟨x0,hx,rfl⟩:=hZ L;rw[B1]at hx;obtain⟨y,hy,rfl⟩:=Option.map_eq_some_iff.mp hx;obtain⟨hi,N⟩:=List.getElem?_eq_some_iff.mp hy;refine R9 ⟨_,_,rfl,?_⟩;have C:y∉ns.take i:=λh=>by
   obtain⟨j,hj,e⟩:=List.mem_iff_getElem.mp h;rw[CI]at hj;rw[ZDD]at e;have:=(Mm u.nd).mp (e.trans N.symm);omega
  refine bq rfl (AK rfl (AK rfl ⟨.inr y,rfl,by unfold AR;rw[AW,CI];omega,?_⟩));rw[ML C,ZZ C,<- N,<- Mp hi];refine⟨.is (.int i),.is (.str y),?_⟩;subst N;rw[List.range_succ];simp only[Dp];rfl
 rintro AG⟨s4,b,rfl⟩;rw[Ke,AW,KG];refine Aq (Hr (Fg (PL rfl ?_)));refine Aq (Hr (KU ?_));refine Aq (NZ (jC (IV ⟨by decide,?_⟩)));have tj:=rK (x:=x) u.nd;rw[AW];refine Aq (Gn (Jk (λ_ i AG=>∃(s:Ls)(hk:List Str)(hv:List Int)(c:Int)(BN:Option (List Int))(ts:List Int)(s4 b l v D9:Slot),AG=[.is (.lst (ns.map .str)),.is (.lst (es.map LE.P)),.is (.str x),.ow false (.nd (.AL (AR hk)) a ((hv.map PV.int).map .fz)),s4,b,.is (.int c),l,.own (ts.map PV.int),v,D9]/\runs (BS ns) (es.take i)=some s/\One x s hk hv c BN ts/\Rt BN l/\ts.length<=i) ?_))
 walk_at "ww"
 refine⟨⟨BS ns,ns,_,_,none,[],_,_,_,_,_,rfl,rfl,tj,.inl ⟨rfl,rfl⟩,C1 _⟩,?_,?_⟩
 .rintro i p AG L⟨s,hk,hv,c,BN,ts,s4,b,l,v,D9,rfl,TZ,one,hd,ht⟩;rw[B1]at L;obtain⟨e,U,rfl⟩:=Option.map_eq_some_iff.mp L;obtain⟨hi,ei⟩:=List.getElem?_eq_some_iff.mp U;refine Mc ?_;have ok:=N8 (MX u) TZ;obtain⟨s',g⟩:=Zt hR U TZ;have J:runs (BS ns) (es.take (i+1))=some s':=by rw[Mp hi,ei,P5 TZ,g]
  have d6:hk.length<=40:=CK (IP one.nk λy h=>(one.row y).mp h) ok.row.len;have same:∀v D9:Slot,One x s' hk hv c BN ts->∃(s:Ls)(G3:List Str)(EC:List Int)(Y:Int)(BN:Option (List Int))(YR:List Int)(m7 pP HZ rb ZBV:Slot),[Slot.is (.lst (ns.map .str)),.is (.lst (es.map LE.P)),.is (.str x),.ow false (.nd (.AL (AR hk)) a ((hv.map PV.int).map .fz)),s4,b,.is (.int c),l,.own (ts.map PV.int),v,D9]=[.is (.lst (ns.map .str)),.is (.lst (es.map LE.P)),.is (.str x),.ow false (.nd (.AL (AR G3)) a ((EC.map PV.int).map .fz)),m7,pP,.is (.int Y),HZ,.own (YR.map PV.int),rb,ZBV]/\runs (BS ns) (es.take (i+1))=some s/\One x s G3 EC Y BN YR/\Rt BN HZ/\YR.length<=i+1:=λv D9 o=>⟨s',hk,hv,c,BN,ts,s4,b,l,v,D9,rfl,J,o,hd,by omega⟩;show Ws [.is (.lst (ns.map .str)),.is (.lst (es.map LE.P)),.is (.str x),.ow false (.nd (.AL (AR hk)) a ((hv.map PV.int).map .fz)),s4,b,.is (.int c),l,.own (ts.map PV.int),.is e.P,D9] _ _ _;cases e with
  |DX W=>
   obtain⟨d,rfl,od⟩:∃d:AY,W=Hq d/\d.Ok 40 s.row:=by
    have g:En s W=some s':=g;unfold En at g;split at g
    .next d e=>
     have:=VI e;exact⟨d,fb (this.1.trans (UM d).symm),this.2⟩
    .cases g
   rw[c6 od]at g;cases g;have Zh:(∀r g,d.Fp r g (An s x)=An s x)->An (EL s d) x=An s x:=λh=>by
    rcases PQ (d:=d) ok x with⟨r,g,e⟩|⟨e,e2⟩
    .rw[e,h]
    .rw[e,e2]
   cases d with
   |turn lo hi=>
    show Ws [.is (.lst (ns.map .str)),.is (.lst (es.map LE.P)),.is (.str x),.ow false (.nd (.AL (AR hk)) a ((hv.map PV.int).map .fz)),s4,b,.is (.int c),l,.own (ts.map PV.int),.is (.tup [.str "turn",.int lo,.int hi]),D9] _ _ _
    walk_at "ww"
    refine AZ (by decide +kernel) (Ar ?_)
    walk_at "ww"
    refine AZ (by decide +kernel) (Ar ?_)
    walk_at "ww"
    refine AZ (by decide +kernel) (Br (Ar ?_))
    walk_at "ww"
    refine AZ (by decide +kernel) (Br (Ar ?_))
    walk_at "ww"
    exact AZ (by decide +kernel) (Br (Ar (same _ _ (one.same (λy=>Tj od.1) KC id (Zh λ_ _=>rfl)))))
   |move y n=>
    show Ws [.is (.lst (ns.map .str)),.is (.lst (es.map LE.P)),.is (.str x),.ow false (.nd (.AL (AR hk)) a ((hv.map PV.int).map .fz)),s4,b,.is (.int c),l,.own (ts.map PV.int),.is (.tup [.str "move",.str y,.int n]),D9] _ _ _
    walk_at "ww"
    refine AZ (by decide +kernel) (Ar ?_)
    walk_at "ww"
    refine AZ (by decide +kernel) (Ar ?_)
    walk_at "ww"
    refine AZ (by decide +kernel) (Br (Ar ?_))
    walk_at "ww"
    refine AZ (by decide +kernel) (Br (Ar ?_));have mv:∀z,z∈(AY.move y n).done s.row↔z∈s.row:=λz=>by
     show z∈ins (wo s.row y) y n↔_;rw[Me,FF];exact⟨λq=>q.elim (λq=>q▸od.1) λq=>q.1,λq=>(Decidable.em (z=y)).imp id λh=>⟨q,h⟩⟩
    walk_at "ww"
    exact AZ (by decide +kernel) (Br (Ar (same _ _ (one.same mv KC id (Zh λ_ _=>rfl)))))
   |put y n=>
    show Ws [.is (.lst (ns.map .str)),.is (.lst (es.map LE.P)),.is (.str x),.ow false (.nd (.AL (AR hk)) a ((hv.map PV.int).map .fz)),s4,b,.is (.int c),l,.own (ts.map PV.int),.is (.tup [.str "put",.str y,.int n]),D9] _ _ _;have C:y∉hk:=λz=>od.2.1 ((one.row y).mp z)
    walk_at "ww"
    refine ED (by decide +kernel) ?_;refine Aq (bq rfl (AK rfl (Lx (RZ rfl ⟨rfl,Er ⟨_,_,rfl,rfl,.inr y,rfl,by unfold AR;rw[AW];omega,?_⟩⟩))));rw[ML C,ZZ C,show hv.map PV.int++[.int c]=(hv++[c]).map PV.int by rw[Dp];rfl];refine Hr (ZI (AK rfl ⟨_,rfl,Er ⟨_,rfl,?_⟩⟩));show Ws [.is (.lst (ns.map .str)),.is (.lst (es.map LE.P)),.is (.str x),.ow false (.nd (.AL (AR (hk++[y]))) a (((hv++[c]).map PV.int).map .fz)),s4,b,.is (.int (c+1)),l,.own (ts.map PV.int),.is (.tup [.str "put",.str y,.int n]),D9] _ _ _
    walk_at "ww"
    refine AZ (by decide +kernel) (Ar ?_)
    walk_at "ww"
    refine AZ (by decide +kernel) (Br (Ar ?_))
    walk_at "ww"
    refine AZ (by decide +kernel) (Br (Ar ?_))
    walk_at "ww"
    exact AZ (by decide +kernel) (Br (Ar ⟨EL s (.put y n),hk++[y],hv++[c],c+1,BN,ts,s4,b,l,_,_,rfl,J,one.put ok od,hd,by omega⟩))
   |take y=>
    show Ws [.is (.lst (ns.map .str)),.is (.lst (es.map LE.P)),.is (.str x),.ow false (.nd (.AL (AR hk)) a ((hv.map PV.int).map .fz)),s4,b,.is (.int c),l,.own (ts.map PV.int),.is (.tup [.str "take",.str y]),D9] _ _ _;have B:y∈hk:=(one.row y).mpr od;have yi:=List.idxOf_lt_length_iff.mpr B;obtain⟨n,hn⟩:∃n,hv[hk.idxOf y]?=some n:=⟨_,Am (by have:=one.len;omega)⟩
    walk_at "ww"
    refine AZ (by decide +kernel) (Ar ?_);refine ZA9 (λAG=>∃(FP:Option (List Int))(HZ:Slot),AG=[.is (.lst (ns.map .str)),.is (.lst (es.map LE.P)),.is (.str x),.ow false (.nd (.AL (AR (hk.eraseIdx (hk.idxOf y)))) a (((hv.eraseIdx (hk.idxOf y)).map PV.int).map .fz)),s4,b,.is (.int c),HZ,.own (ts.map PV.int),.is (.tup [.str "take",.str y]),.is (.int n)]/\((FP=BN/\∀D,BN=some D->n∈D->n∈ts)∨∃D,BN=some D/\FP=some (D.eraseIdx (D.idxOf n))/\n∈D)/\Rt FP HZ) ?_ ?_
    .walk_at "ww"
     refine ED (by decide +kernel) ?_;refine Aq (tY (i:=3) (j:=10) (Bv rfl ⟨false,a,AR hk,hv.map PV.int,rfl,rfl,HF one.nk,Lx (RZ rfl ⟨rfl,Er ⟨_,_,rfl,rfl,.inr y,hk.idxOf y,.int n,rfl,Fy B,by rw[B1,hn];rfl,?_⟩⟩)⟩));rw[OV.DN,W4,YY];show Ws [.is (.lst (ns.map .str)),.is (.lst (es.map LE.P)),.is (.str x),.ow false (.nd (.AL (AR (hk.eraseIdx (hk.idxOf y)))) a (((hv.eraseIdx (hk.idxOf y)).map PV.int).map .fz)),s4,b,.is (.int c),l,.own (ts.map PV.int),.is (.tup [.str "take",.str y]),.is (.int n)] _ _ _;rcases hd with⟨rfl,rfl⟩|⟨D,rfl,rfl,M⟩
     .exact DH (R0 (DB (gr (AK rfl (KU ⟨rfl,_,rfl,AZ (by decide) (Br (Ar ⟨none,_,rfl,.inl ⟨rfl,λD e=>by cases e⟩,.inl ⟨rfl,rfl⟩⟩))⟩)))))
     .refine DH (R0 (DB (o4 rfl ⟨_,rfl,Vv ?_⟩)));refine R0 (DB (RP (neg:=false) (AK rfl ⟨n,rfl,P0 rfl ⟨D,rfl,_,rfl,?_⟩⟩)));have no:(n∈D->n∈ts)->∃(FP:Option (List Int))(HZ:Slot),[Slot.is (.lst (ns.map .str)),.is (.lst (es.map LE.P)),.is (.str x),.ow false (.nd (.AL (AR (hk.eraseIdx (hk.idxOf y)))) a (((hv.eraseIdx (hk.idxOf y)).map PV.int).map .fz)),s4,b,.is (.int c),.own (D.map PV.int),.own (ts.map PV.int),.is (.tup [.str "take",.str y]),.is (.int n)]=[.is (.lst (ns.map .str)),.is (.lst (es.map LE.P)),.is (.str x),.ow false (.nd (.AL (AR (hk.eraseIdx (hk.idxOf y)))) a (((hv.eraseIdx (hk.idxOf y)).map PV.int).map .fz)),s4,b,.is (.int c),HZ,.own (ts.map PV.int),.is (.tup [.str "take",.str y]),.is (.int n)]/\((FP=some D/\∀D',some D=some D'->n∈D'->n∈ts)∨∃D',some D=some D'/\FP=some (D'.eraseIdx (D'.idxOf n))/\n∈D')/\Rt FP HZ:=λh=>⟨some D,_,rfl,.inl ⟨rfl,λD' e=>by cases e;exact h⟩,.inr ⟨D,rfl,rfl,M⟩⟩;refine B9 (λO=>?_) (λO=>Br (Ar (no λh=>absurd (kc h) O)));refine DB (RP (neg:=true) (AK rfl ⟨n,rfl,P0 rfl ⟨ts,rfl,_,rfl,?_⟩⟩));refine B9 (λX=>?_) (λX=>Ar (no λ_=>SM λh=>X (by rw[kz rfl,lx h];rfl)));have T:n∈D:=lg O;exact vC rfl (AK rfl ⟨n,rfl,T,some (D.eraseIdx (D.idxOf n)),_,rfl,.inr ⟨D,rfl,rfl,T⟩,.inr ⟨_,rfl,rfl,CK (ZDF _ _) M⟩⟩)
    rintro _⟨FP,HZ,rfl,h1,h2⟩
    walk_at "ww"
    refine AZ (by decide +kernel) (Br (Ar ?_))
    walk_at "ww"
    refine AZ (by decide +kernel) (Br (Ar ?_))
    walk_at "ww"
    exact AZ (by decide +kernel) (Br (Ar ⟨EL s (.take y),_,_,c,FP,ts,s4,b,HZ,_,_,rfl,J,one.take ok od hn h1,h2,by omega⟩))
  |EW z r=>
   show Ws [.is (.lst (ns.map .str)),.is (.lst (es.map LE.P)),.is (.str x),.ow false (.nd (.AL (AR hk)) a ((hv.map PV.int).map .fz)),s4,b,.is (.int c),l,.own (ts.map PV.int),.is (.tup [.str "begin",.str z,.str r]),D9] _ _ _;have g:E5 s z r=some s':=g
   walk_at "ww"
   refine AZ (by decide +kernel) (Ar ?_)
   walk_at "ww"
   refine AZ (by decide +kernel) (Ar ?_)
   walk_at "ww"
   refine ED (by decide +kernel) ?_
   walk_at "ww"
   by_cases t:z=x
   .subst t;refine ED (kc rfl) ?_;refine NZ (uw (Bv rfl ⟨AR hk,a,hv.map PV.int,rfl,by unfold AR;rw[AW];omega,?_⟩));show Ws [.is (.lst (ns.map .str)),.is (.lst (es.map LE.P)),.is (.str z),.ow false (.nd (.AL (AR hk)) a ((hv.map PV.int).map .fz)),s4,b,.is (.int c),.own (hv.map PV.int),.own (ts.map PV.int),.is (.tup [.str "begin",.str z,.str r]),D9] _ _ _
    walk_at "ww"
    refine AZ (by decide +kernel) (Br (Ar ?_))
    walk_at "ww"
    exact AZ (by decide +kernel) (Br (Ar ⟨s',hk,hv,c,some hv,ts,s4,b,_,_,_,rfl,J,one.EW ok g,.inr ⟨hv,rfl,rfl,by have:=one.len;omega⟩,by omega⟩))
   .refine AZ (λq=>t (lg q)) (Ar ?_);obtain⟨_,I,R,b4,_,b6⟩:=jM ok g
    walk_at "ww"
    refine AZ (by decide +kernel) (Br (Ar ?_))
    walk_at "ww"
    exact AZ (by decide +kernel) (Br (Ar (same _ _ (one.same (by rw[I];exact λ_=>KC) (by rw[R,GH,jm];exact⟨λq=>q.elim id λe=>absurd e.symm t,.inl⟩) (λq=>by rw[b4];exact List.mem_append.mpr (.inl q)) (b6 x (B0 t))))))
  |tell z y=>
   show Ws [.is (.lst (ns.map .str)),.is (.lst (es.map LE.P)),.is (.str x),.ow false (.nd (.AL (AR hk)) a ((hv.map PV.int).map .fz)),s4,b,.is (.int c),l,.own (ts.map PV.int),.is (.tup [.str "tell",.str z,.str y]),D9] _ _ _;have g:Dm s z y=some s':=g
   walk_at "ww"
   refine AZ (by decide +kernel) (Ar ?_)
   walk_at "ww"
   refine AZ (by decide +kernel) (Ar ?_)
   walk_at "ww"
   refine AZ (by decide +kernel) (Br (Ar ?_))
   walk_at "ww"
   refine ED (by decide +kernel) ?_
   walk_at "ww"
   by_cases t:z=x
   .subst t;refine ED (kc rfl) ?_;obtain⟨B,n,hn,nt,xM⟩:=one.tell ok g;have ent:∀{ss:List Slot}{k:PV->Prop},ss[9]?=some (.is (.tup [.str "tell",.str z,.str y]))->k (.str y)->Wp ss (Bn (J7 K) (BP 9) (tC (V.int 2))) k:=λh hk=>Lx (RZ h ⟨rfl,Er ⟨_,_,rfl,rfl,hk⟩⟩);refine Aq (DH (Kc (JQ (Vw (i:=3) (ent rfl (Bv rfl ⟨AR hk,a,_,.inr y,rfl,rfl,_,rfl,?_⟩))))));rw[JZ,kc B];refine AZ (by decide) ?_;have G:∀{ss:List Slot}{k:PV->Prop},ss[9]?=some (.is (.tup [.str "tell",.str z,.str y]))->ss[3]?=some (.ow false (.nd (.AL (AR hk)) a ((hv.map PV.int).map .fz)))->k (.int n)->Wp ss (Iy (BP 3) (Bn (J7 K) (BP 9) (tC (V.int 2)))) k:=λh h3 G3=>DL (Ga (Bv h3 ⟨AR hk,a,_,rfl,ent h ⟨.inr y,hk.idxOf y,.fz (.int n),rfl,Fy B,by rw[B1,B1,hn];rfl,_,rfl,G3⟩⟩));refine DB (RP (neg:=false) (G rfl rfl ⟨n,rfl,P0 rfl ⟨ts,rfl,_,rfl,AZ (λq=>nt (lg q)) (Ar ?_)⟩⟩));refine bP rfl (G rfl rfl ⟨by rw[AW];omega,?_⟩);rw[show ts.map PV.int++[.int n]=(ts++[n]).map PV.int by rw[Dp];rfl];show Ws [.is (.lst (ns.map .str)),.is (.lst (es.map LE.P)),.is (.str z),.ow false (.nd (.AL (AR hk)) a ((hv.map PV.int).map .fz)),s4,b,.is (.int c),l,.own ((ts++[n]).map PV.int),.is (.tup [.str "tell",.str z,.str y]),D9] _ _ _
    walk_at "ww"
    exact AZ (by decide +kernel) (Br (Ar ⟨s',hk,hv,c,BN,ts++[n],s4,b,l,_,_,rfl,J,xM,hd,by rw[C0,Mn];omega⟩))
   .refine AZ (λq=>t (lg q)) (Ar ?_);obtain⟨S,I,R,_,_,_,_,b8⟩:=XX ok g
    walk_at "ww"
    exact AZ (by decide +kernel) (Br (Ar (same _ _ (one.same (by rw[S];exact λ_=>KC) (by rw[I]) (λq=>by rw[R];exact q) (b8 x (B0 t))))))
  |over z=>
   show Ws [.is (.lst (ns.map .str)),.is (.lst (es.map LE.P)),.is (.str x),.ow false (.nd (.AL (AR hk)) a ((hv.map PV.int).map .fz)),s4,b,.is (.int c),l,.own (ts.map PV.int),.is (.tup [.str "over",.str z]),D9] _ _ _;have g:Du s z=some s':=g
   walk_at "ww"
   refine AZ (by decide +kernel) (Ar ?_)
   walk_at "ww"
   refine AZ (by decide +kernel) (Ar ?_)
   walk_at "ww"
   refine AZ (by decide +kernel) (Br (Ar ?_))
   walk_at "ww"
   refine AZ (by decide +kernel) (Br (Ar ?_))
   walk_at "ww"
   refine ED (by decide +kernel) ?_
   walk_at "ww"
   by_cases t:z=x
   .subst t;refine ED (kc rfl) ?_;obtain⟨D,rfl,M⟩:=one.over ok g;rcases hd with⟨e,_⟩|⟨D',e,rfl,hl⟩
    .cases e
    cases e;refine Mu 7 rfl (Mu 8 rfl ?_);refine HE (cY rfl (Cb (G6 (eZ PV.int (λ_=>true) (λn=>.bl (decide (n∈ts))) (Lk (Jf (AK rfl ⟨_,.inl ⟨rfl,D,rfl,by omega,λn hn=>iG rfl,λn hn _=>?_,?_⟩⟩))) tH))))
    .show Wp [.is (.lst (ts.map .int)),.is (.int n)] _ _;exact RP (neg:=false) (AK rfl ⟨n,rfl,PL rfl ⟨ts,rfl,rfl⟩⟩)
    .refine⟨_,.inl ⟨rfl,rfl,D.map (λn=>decide (n∈ts)),by rw[List.filter_eq_self.mpr λ_ _=>rfl,FD];rfl,oW PV.bl ?_⟩⟩;rw[jV];exact List.all_eq_true.mpr λn hn=>kc (M n hn)
   .obtain⟨S,I,_,_,σ⟩:=ZE ok g;exact AZ (λq=>t (lg q)) (Ar (same _ _ (one.same (by rw[S];exact λ_=>KC) (by rw[I]) (σ x (B0 t)).2 (σ x (B0 t)).1)))
 .rintro AG⟨s,hk,hv,c,BN,ts,s4,b,l,v,D9,rfl,_⟩;exact HE (GV rfl)
def gm:Ax ["self","loop","tally"] ["self","loop"] (Ae Wd):=by walk_at "z1"
def jO:∀ss R,(TF A4 AA) ss R->ss.length=2:=by rintro _ _⟨s,xs,x,q,rfl,_,_,_,rfl⟩;rfl
def nI(F:AH K "tally_of" "Course.tally_of" Wd f fd)(b:Meth K A4 "tally_of" f):
  D8 P w K mg Zl A4 "tally_of" 3 ["self","loop"] (CG (TF A4 AA)):=by
 refine⟨f,fd,F.B5 (k:=2) gm (λvs H Q E h=>Fz.Kx jO h) (λAX A outer s H vs Q E a h=>?_),(F.binds (by walk_at "bD2")),b,Ay⟩
 refine⟨_,(AE rfl (B2 2 gm.nd (By (BJ a) (C9 (qv 0)) (qv 1) (λ_ _=>rfl)))
   (AB rfl (Af (Ce (A0 (C9 (qv 2)) (A0 (C9 (qv 2)) (A0 (C9 (qv 2)) (A0 (C9 (qv 2)) (A0 (BQ Gh As (A0 (FL Eu a (by decide) (qv 0) (A0 (qv 1) A5)) A5)) A5))))))))),?_⟩
 refine Fz.Kj h jO ?_;rintro _ _⟨s,xs,x,q,rfl,d,hx,c,rfl⟩;show Ws [_,_,.any] _ _ _;refine Aq (Hr (Ll (IT (AK rfl ⟨A4,GD,_,2,_,rfl,Ay,DQ,by decide +kernel,rfl,AR s.sn,_,rfl,AK rfl ⟨.inr x,_,rfl,Sj hx c,?_⟩⟩))));refine HE (Ji (Dl (IT (AK rfl ⟨AA,_,_,0,_,rfl,DW,Li,by decide +kernel,rfl,?_⟩))));refine Dl (IT (AK rfl ⟨AA,_,_,1,_,rfl,DW,Il,by decide +kernel,rfl,?_⟩));refine Dl (IT (AK rfl ⟨AA,_,_,2,_,rfl,DW,IL,by decide +kernel,rfl,?_⟩));refine Dl (IT (AK rfl ⟨AA,_,_,3,_,rfl,DW,Iv,by decide +kernel,rfl,?_⟩));refine Dl (Fg (Cb (xq (AK rfl ⟨GD,_,rfl,by decide +kernel,E8 (AK rfl (Je ⟨_,⟨s,xs,x,rfl,d,rfl⟩,?_⟩))⟩))));rintro _ rfl;refine⟨_,.inr ⟨rfl,IV ⟨by simp,?_⟩⟩⟩;rw[AW];rfl
def Zy:Ax ["row","log","loop","course"] ["row","log","loop"] (Ae WM):=by walk_at "z1"
def b9 : ∀ss R,R7 ss R->ss.length=3:=by rintro _ _⟨tp,ns,es,s,x,q,rfl,_,_,_,_,_,_,rfl⟩;rfl
def ZAV(F:AH K "tallied" "tallied" WM f fd)(m:mg "tallied"=some (.ref f)):
  A9 P w K mg Zl "tallied" 12 ["row","log","loop"] (CG R7):=by
 refine A9.mk F (F.binds (by walk_at "bD3")) m (F.B5 (k:=11) Zy (λvs H Q E h=>Fz.Kx b9 h) (λAX A outer s H vs Q E c h=>?_))
 refine⟨_,(AE rfl (B2 3 Zy.nd (AV Ik c (A0 (qv 0) (A0 (qv 1) A5))))
   (AE rfl (Aw (Qj (BJ c) (qv 2) (C9 (qv 3))) (AB rfl GF) B6)
   (AB rfl (Af (FL Tn c (by decide) (qv 3) (A0 (qv 2) A5)))))),?_⟩
 refine Fz.Kj h b9 ?_;rintro _ _⟨tp,ns,es,s,x,q,rfl,c,l,j,g,hx,n,rfl⟩;show Ws [_,_,_,.any] _ _ _;refine Aq (Mx (V8 (E8 (AK rfl (E8 (AK rfl (Je ⟨_,⟨tp,ns,es,s,rfl,c,l,j,g,rfl⟩,λu d=>?_⟩)))))));obtain⟨a,dx,aL,aS,us,Cn,rfl⟩:=d;show Ws [_,_,_,.ow false (BR s A4 a dx aL aS us)] _ _ _;have ok:=N8 (MX c) g;refine Aq (DH (JQ (Vw (i:=3) (AK rfl (NU rfl Ay DQ ⟨AR s.sn,aS,us,.inr x,rfl,rfl,_,rfl,?_⟩)))));rw[JZ,kc hx];refine AZ (by decide) (Ar ?_);obtain⟨u,d,e,b,rfl⟩:=Cn.get n;refine HE (ZG (i:=3) (Bv rfl ⟨dx,GD,a,_,rfl,by decide +kernel,ZM (AK rfl (iz ⟨_,⟨s,us.map OV.pv,x,q,oW (λp=>[Slot.is p,.is (.str x)]) U3,ok.l1,hx,?_,rfl⟩,?_⟩))⟩))
 .rw[B1,d];show some _=_;rw[OV.pv,Vu]
 .rintro _ rfl;exact⟨rfl,rfl⟩
def Gf:Ax ["script","pot","most","first","state","k","turn","log","name","many"] ["script"] (Ae Kf):=by walk_at "z1"
def mE:=Sc [(".0",.local),("entry",.local),("name",.free)]
def pX:Gd ["script","pot","most","first","state","k","turn","log","name","many"] (Ae Kf) mE "entry" ["name"] [8]:=by walk_at "z2"
def mz(F:AH K "law" "law" Kf f fd)(m:mg "law"=some (.ref f)):
  DK P w K mg Zl FO 14 f fd ["script"] (N4 K):=by
 refine(F.B5 (k:=13) Gf (λvs H Q E h=>by obtain⟨a,ns,rfl,_⟩:=h;rfl) (λAX A outer s H vs Q E o h=>?_));refine⟨_,(AE rfl (B2 1 Gf.nd (AV Ou o (A0 (qv 0) (A0 A6 A5))))
   (AE rfl (B2 2 Gf.nd (AU Aa (Ce (A0 A6 (A0 A6 A5))) (EO e7 RQ (A0 (Hk BX (AV Bu o (A0 (qv 1) (A0 A6 A5))) A6) A5))))
   (AE rfl (B2 3 Gf.nd (AV Y6 o (A0 (qv 1) (A0 (qv 2) A5))))
   (AE rfl (B2 4 Gf.nd (ZCZ (P6 Ac (EO KS CD (A0 (qv 3) A5)) (P6 Ac RS (P6 Ac (Gw A5) (P6 Ac (Gw A5) xJ)))) rfl rfl (by simp) (by decide)))
   (AE rfl (D2 (IC Hy rfl (zG rfl LA (A0 A6 (A0 (BQ (ZAd rfl) YZ (A0 A6 (A0 (BQ (qD rfl) VY (A0 (BQ Gh As (A0 (qv 0) A5)) (A0 A6 A5))) A5))) A5))) (Ff 5 Gf.nd) (AE rfl (B2 1 Gf.nd (AV Ou o (A0 (qv 0) (A0 (qv 5) A5))))
   (AB rfl (IC Hy rfl (cg rfl LA (A0 (BD Ew A6 (AV Bu o (A0 (qv 1) (A0 (AU Aa (Ce (A0 A6 (A0 A6 A5))) (EO e7 RQ (A0 (Hk OY (qv 2) A6) A5))) A5)))) A5)) (Ff 6 Gf.nd) (AB rfl (CP (AV V7 o (A0 (qv 1) (A0 (qv 4) (A0 (qv 2) A5)))))))))))
   (AE rfl (B2 7 Gf.nd (By (BJ o) (qv 4) Ac (λ_ _=>rfl)))
   (AE rfl (Aw (Iq (Ah i4 (AV XT o (A0 (qv 3) (A0 (qv 7) A5))) Lr) (JM (Ah (Fz.tV o.units) (AV Td o (A0 (qv 3) (A0 (qv 7) A5))) (Ce (A0 (By (BJ o) (qv 4) Ac (λ_ _=>rfl)) (A0 (By (BJ o) (qv 4) Ac (λ_ _=>rfl)) A5)))))).pt (AB rfl (Af FN)) B6)
   (AE rfl (D2 (IC Hy rfl (Hd (HH ak (By (BJ o) (qv 4) Ac (λ_ _=>rfl)) IJ (GW A6))) (Ff 8 Gf.nd) (AE rfl (B2 9 Gf.nd (BQ Gh As (A0 (Ky rfl pX (Hd (qv 7)) (λ_ _ _ _=>by exact(RH (Fw (Ah BX (AU (show J3 _ (J7 K)from Aa) (qv 1) A6) Ac) (Gg (Ah BX (AU (show J3 _ (J7 K)from Aa) (qv 1) A6) (qv 0)))).pt)) (λ_ _ _ _=>by exact(qv 1))) A5)))
   (AB rfl (Aw (Iq (Ah Y9 (AU Aa (AV Tr o (A0 (qv 3) (A0 (qv 7) (A0 (qv 8) A5)))) A6) (qv 9)) (JM (J9 (MT (AV Y1 o (A0 (qv 3) (A0 (qv 7) (A0 (qv 8) A5)))))))).pt (AB rfl (Af FN)) B6)))))
   (AB rfl (Af FN)))))))))),?_⟩
 refine Fz.kG h ?_;intro sc gC;show Ws [_,.any,.any,.any,.any,.any,.any,.any,.any,.any] _ _ _
 walk_at "ww"
 refine⟨by decide,by decide,?_⟩
 walk_at "ww"
 refine⟨by decide,_,.inr ⟨rfl,rfl,?_⟩⟩
 walk_at "ww"
 refine⟨by decide,by decide,λr r0 r1=>?_⟩
 walk_at "ww"
 obtain⟨m,em,hm⟩:∃m:Nat,L2.C2 [PV.int 9,.int 40] (if alike (PV.int r) (.int 0)=true then 1 else 0)=some (.int m)/\(m=9∨m=40):=by
  split
  .exact⟨40,rfl,.inr rfl⟩
  .exact⟨9,rfl,.inl rfl⟩
 refine⟨_,_,rfl,em,?_⟩
 walk_at "ww"
 refine⟨by omega,by omega,λns hn1 hN nd=>?_⟩;have o:G7 40 ns:=⟨by omega,hN,nd⟩;refine Mu 3 rfl ?_;show Ws [.raw (FV K sc),.AF,.is (.int m),.is (.lst (ns.map .str)),.any,.any,.any,.any,.any,.any] _ _ _;refine Aq (Mx (ZAz (by decide +kernel) (P1 (E6 (G6 (PM rfl (PL rfl ?_)))))));refine P1 (RV λaL=>P1 (bx (Se ⟨by simp,λaN=>P1 (bx (Se ⟨by simp,λaE=>Se ?_⟩))⟩)));refine⟨by simp,by simp,by simp,by simp,rfl,λa=>?_⟩;show Ws [.raw (FV K sc),.AF,.is (.int m),.is (.lst (ns.map .str)),.ow false (BZ (BS ns) [] a aL aN aE),.any,.any,.any,.any,.any] _ _ _;refine Aq (Gn (Jk (λ_ i AG=>∃(es:List LE)(s:Ls)(t:OV)(s1 D v:Slot),AG=[.raw (FV K sc),s1,.is (.int m),.is (.lst (ns.map .str)),.ow false t,D,v,.any,.any,.any]/\Hi s es a t/\runs (BS ns) es=some s/\(∀e∈es,e.say)/\s.ln.length<=5/\s.row.length<=m/\es.length<=3 * i) ?_))
 walk_at "ww"
 obtain⟨n,en,σ⟩:=ZBh (b:=7) (c:=36) (n:=sc.length) (by decide) (by decide) (by omega);rw[en];refine⟨by omega,⟨[],BS ns,_,_,_,_,rfl,⟨aL,aN,aE,rfl⟩,rfl,λe h=>absurd h Au,C1 _,by show ns.length<=m;omega,C1 _⟩,?_,?_⟩
 .rintro i p AG C⟨es,s,t,s1,D,v,rfl,I,u,B,J,MZ,G⟩;obtain⟨hi,rfl⟩:=uo C;refine Mc ?_;have ZDi:i<36:=by omega
  walk_at "ww"
  refine⟨by omega,by omega,?_⟩;refine Jk (λ_ j AG=>∃(es:List LE)(s:Ls)(t:OV)(v:Slot),AG=[.raw (FV K sc),.AF,.is (.int m),.is (.lst (ns.map .str)),.ow false t,.is (.int (1+(i:Int))),v,.any,.any,.any]/\Hi s es a t/\runs (BS ns) es=some s/\(∀e∈es,e.say)/\s.ln.length<=5/\s.row.length<=m/\es.length<=3 * i+j) ?_
  walk_at "ww"
  refine⟨by decide,_,.inr ⟨rfl,rfl,?_⟩⟩
  walk_at "ww"
  obtain⟨q,M,hq⟩:∃q:Nat,L2.C2 [PV.int 3,.int 1] (if decide ((9:Int)<m)=true then 1 else 0)=some (.int q)/\(q=3∨q=1):=by
   split
   .exact⟨1,rfl,.inr rfl⟩
   .exact⟨3,rfl,.inl rfl⟩
  refine⟨_,_,rfl,M,_,rfl,by omega,by omega,λw U w1=>?_⟩;obtain⟨w,rfl⟩:=Hu U;refine⟨_,rfl,_,rfl,by omega,by omega,⟨es,s,t,v,rfl,I,u,B,J,MZ,G⟩,?_,?_⟩
  .rintro j p AG C⟨es,s,t,v,rfl,I,u,B,J,MZ,G⟩;obtain⟨hj,rfl⟩:=vy C;refine Mc ?_;obtain⟨aL,aN,aE,rfl⟩:=id I;have ok:=N8 (MX o) u;have sl:=Vh u;have T:(BS ns).sn.length=0:=rfl;have hj3:j<3:=by omega
   refine dk (p:=1) (i:=4) rfl rfl (QD rfl (Ee (AK rfl (Ft ⟨_,⟨s,es,a,_,m,rfl,I,ok,MZ,by omega,by omega,by omega,by omega,J,rfl⟩,?_⟩))));rintro _ t2⟨rfl,e,s',g,X,Ux,EY,Bg⟩;obtain⟨WU,UP,Wy,rfl⟩:=id Bg;refine⟨_,_,rfl,es++[e],s',_,.is (.int j),rfl,Bg,by rw[P5 u,g],λe' W=>?_,Ux,EY,by rw[C0,Mn];omega⟩;rcases List.mem_append.mp W with z|z
   .exact B e' z
   .rw[List.mem_singleton.mp z];exact X
  .rintro AG⟨es,s,t,v,rfl,I,u,B,J,MZ,G⟩;rw[O5,show((1:Int)+(w:Nat)).toNat=1+w by omega]at G;exact⟨es,s,t,_,_,_,rfl,I,u,B,J,MZ,by omega⟩
 rintro AG⟨es,s,t,s1,D,v,rfl,⟨aL,aN,aE,rfl⟩,u,B,J,MZ,G⟩;rw[Nc]at G;have L:es.length<=200:=by omega
 have ok:=N8 (MX o) u;have sl:=Vh u;have T:(BS ns).sn.length=0:=rfl;refine iI 4 rfl ?_;rw[yK];refine Aq (Hr (Ll (AK rfl ⟨k4,_,rfl,FQ ⟨.inr "log", _,rfl,rfl,?_⟩⟩)));show Ws [.raw (FV K sc),s1,.is (.int m),.is (.lst (ns.map .str)),.is (.AL k4 [.lst (s.row.map .str),.AL (AR s.ln) (s.ll.map Lp.P),.lst (s.sn.map .str),.lst (es.map LE.P)]),D,v,.is (.lst (es.map LE.P)),.any,.any] _ _ _;refine Aq (DH (Kc (DB (gr (wp_call (E8 (AK rfl (E8 (AK rfl (Je ⟨_,⟨ns,es,s,rfl,o,B,L,u,rfl⟩,?_⟩))))))))));rintro _ rfl;refine KU ⟨rfl,_,rfl,AZ (by decide) ?_⟩;refine DB (zM (wp_call (E8 (AK rfl (E8 (AK rfl (Je ⟨_,⟨ns,es,s,rfl,o,B,L,u,rfl⟩,?_⟩)))))));rintro _ rfl;refine Ji (Dl (Ll (AK rfl ⟨k4,_,rfl,FQ ⟨.inr "row", _,rfl,rfl,Dl (Ll (AK rfl ⟨k4,_,rfl,FQ ⟨.inr "live", _,rfl,rfl,IV ⟨by show 2<=100000;decide,rfl,s.row,s.ln,_,rfl,ok.n1,λp C=>?_,_,rfl,AZ (by decide) (Ar ?_)⟩⟩⟩))⟩⟩)))
 .obtain⟨l,_,rfl⟩:=List.mem_map.mp C;exact ml K (d:=28) l.r l.g l.cs
 have S:=um (MX o) (wU ns) u;rw[SX]at S;refine Aq (Gn (Jk (λ_ i AG=>∃O N:Slot,AG=[.raw (FV K sc),s1,.is (.int m),.is (.lst (ns.map .str)),.is (.AL k4 [.lst (s.row.map .str),.AL (AR s.ln) (s.ll.map Lp.P),.lst (s.sn.map .str),.lst (es.map LE.P)]),D,v,.is (.lst (es.map LE.P)),O,N]) (Lk (Jf (G6 (ZA (Cb (Ll (AK rfl ⟨k4,_,rfl,FQ ⟨.inr "names", _,rfl,rfl,_,.inl ⟨rfl,rfl,?_⟩⟩⟩)))))))))
 walk_at "ww"
 refine⟨⟨_,_,rfl⟩,?_,?_⟩
 .rintro i p AG C⟨O,N,rfl⟩;obtain⟨x,hx,rfl⟩:∃x,x∈s.sn/\p=.str x:=by
   obtain⟨x,h2,R⟩:=List.mem_map.mp (xx (Cq C));exact⟨x,h2,R.symm⟩
  obtain⟨q,M⟩:∃q,s.sq[s.sn.idxOf x]?=some q:=⟨_,Am (by have:=List.idxOf_lt_length_iff.mpr hx;have:=ok.l2;omega)⟩;have told:=(S x).2 _ q (E9 hx) M;refine Mc ?_;refine Aq (Hr (Fg (Cb (G6 (eZ LE.P (K4 x) LE.P (Lk (Jf (AK rfl ⟨_,.inl ⟨rfl,es,rfl,by omega,λe he=>?_,λe he _=>AK rfl rfl,?_⟩⟩))) n9)))))
  .cases e with
   |tell z y=>
    show Wt [.is (.str x),.is (.tup [.str "tell",.str z,.str y])] _ _
    walk_at "ww"
    refine ED (by decide +kernel) ?_
    walk_at "ww"
    rfl
   |EW z r=>
    show Wt [.is (.str x),.is (.tup [.str "begin",.str z,.str r])] _ _
    walk_at "ww"
    exact AZ (by decide +kernel) rfl
   |over z=>
    show Wt [.is (.str x),.is (.tup [.str "over",.str z])] _ _
    walk_at "ww"
    exact AZ (by decide +kernel) rfl
   |DX d=>
    cases d with
    |put y n=>
     show Wt [.is (.str x),.is (.tup [.str "put",.str y,.int n])] _ _
     walk_at "ww"
     exact AZ (by decide +kernel) rfl
    |take y=>
     show Wt [.is (.str x),.is (.tup [.str "take",.str y])] _ _
     walk_at "ww"
     exact AZ (by decide +kernel) rfl
    |move y n=>
     show Wt [.is (.str x),.is (.tup [.str "move",.str y,.int n])] _ _
     walk_at "ww"
     exact AZ (by decide +kernel) rfl
    |turn lo hi=>
     show Wt [.is (.str x),.is (.tup [.str "turn",.int lo,.int hi])] _ _
     walk_at "ww"
     exact AZ (by decide +kernel) rfl
  .refine⟨_,.inl ⟨rfl,?_⟩⟩;rw[AW,<- told];show Ws [.raw (FV K sc),s1,.is (.int m),.is (.lst (ns.map .str)),.is (.AL k4 [.lst (s.row.map .str),.AL (AR s.ln) (s.ll.map Lp.P),.lst (s.sn.map .str),.lst (es.map LE.P)]),D,v,.is (.lst (es.map LE.P)),.is (.str x),.is (.int q.told)] _ _ _;have Y:∀{ss:List Slot}{k:PV->Prop},ss[3]?=some (.is (.lst (ns.map .str)))->ss[7]?=some (.is (.lst (es.map LE.P)))->ss[8]?=some (.is (.str x))->k (.int q.told)->Wp ss (Bn (J7 K) (D3 (CG R7) [] E0 (Al (BP 3) (Al (BP 7) (Al (BP 8) BO)))) (tC (V.int 2))) k:=λR h7 h8 hk=>Lx (Cb (wp_call (E8 (AK R (E8 (AK h7 (E8 (AK h8 (Je ⟨_,⟨false,ns,es,s,x,q,rfl,o,B,L,u,hx,M,rfl⟩,λp C=>by subst C;exact⟨_,.inr ⟨rfl,rfl,Er ⟨_,_,rfl,rfl,hk⟩⟩⟩⟩)))))))));refine DH (Kc (DB (dU (Y rfl rfl rfl (AK rfl ⟨rfl,_,rfl,AZ (by rw[show alike (.int (q.told:Int)) (.int (q.told:Int))=true from kc rfl];decide) ?_⟩)))));refine Vj (JQ (wp_call (E8 (AK rfl (E8 (AK rfl (E8 (AK rfl (Je ⟨_,⟨ns,es,s,x,rfl,o,u,L,rfl⟩,?_⟩)))))))));rintro _ rfl;exact⟨true,rfl,AZ (by decide) (Ar ⟨_,_,rfl⟩)⟩
 .rintro AG⟨O,N,rfl⟩;exact HE (GV rfl)
def all_mk{h:Heap}{fa f1 f2 f3 f4 f5 f6 f7 f8 f9 gA gI c9 j3 gE cT aV bJ ag gQ bU i8 eS b7 fX aJ dz aZ cu Zp i9 fN gf hU gG Zw iN aW Zr PN Rk Rx Pg Qm PD S9 R6 QF gM dC af cX Rg cw eU:Addr}{g1 g2 g3 g4 g5 g6 g7 g8 g9 wm tI g12 nq vS tF ph wW r8 vZ w6 g21 qY vd vD x8 g26 lE oq g29 g30 xC ou oQ g34 og vW vt xn rT oM mq g42 sg uL g45 ly z5 g48 kM p5 sN rX oS sy:FuncData}(X:K.In h)(G:h.Ns mainGlobals mg)(pJ:mg "law"=some (.ref fa))
  
  (yI:PySem.W.nsIn K mainGlobals "Course"=some (some (.ref A4)))
  (kr:PySem.W.plainGet K A4 Str.empty=true)
  (ZBz:PySem.W.hasDictIn K A4=true)
  (zY:PySem.W.plainOver K A4=true)
  (my:PySem.W.findIn K (.ref A4) "__setattr__"=some (some (.builtin "object.__setattr__")))
  (ZAJ:PySem.W.makesIn K A4=true)
  (xT:PySem.W.keepIn K (.ref A4)=true)
  (r9:PySem.W.nsIn K mainGlobals "Tally"=some (some (.ref AA)))
  (ZAc:PySem.W.plainGet K AA Str.empty=true)
  (tS:PySem.W.hasDictIn K AA=true)
  (ZBZ:PySem.W.plainOver K AA=true)
  (xY:PySem.W.findIn K (.ref AA) "__setattr__"=some (some (.builtin "object.__setattr__")))
  (rM:PySem.W.makesIn K AA=true)
  (o3:PySem.W.keepIn K (.ref AA)=true)
  (C6:PySem.W.findIn K (.ref A4) "running"=some none)
  (Cs:PySem.W.findIn K (.ref A4) "standing"=some none)
  (DQ:PySem.W.findIn K (.ref A4) "tallies"=some none)
  (Il:PySem.W.findIn K (.ref AA) "joined"=some none)
  (Li:PySem.W.findIn K (.ref AA) "stood"=some none)
  (Iv:PySem.W.findIn K (.ref AA) "taken"=some none)
  (IL:PySem.W.findIn K (.ref AA) "told"=some none)
  (a1:nS K "_law_pot" (.ref f1)) (F1:AH K "_law_pot" "_law_pot" TH f1 g1)
  (a2:nS K "_law_take" (.ref f2)) (F2:AH K "_law_take" "_law_take" Wu f2 g2)
  (a3:nS K "_law_letters" (.ref f3)) (F3:AH K "_law_letters" "_law_letters" Yg f3 g3)
  (a4:nS K "_law_name" (.ref f4)) (F4:AH K "_law_name" "_law_name" VF f4 g4)
  (a5:nS K "_law_names" (.ref f5)) (F5:AH K "_law_names" "_law_names" Tx f5 g5)
  (a6:nS K "_law_row" (.ref f6)) (F6:AH K "_law_row" "_law_row" Vq f6 g6)
  (a7:nS K "check_rule" (.ref f7)) (F7:AH K "check_rule" "check_rule" UT f7 g7)
  (a8:nS K "begun" (.ref f8)) (F8:AH K "begun" "begun" XR f8 g8)
  (a9:nS K "_law_write" (.ref f9)) (F9:AH K "_law_write" "_law_write" Uc f9 g9)
  (zr:nS K "is_gap" (.ref gA)) (mx:AH K "is_gap" "is_gap" T5 gA wm)
  (zA:nS K "is_coming" (.ref gI)) (rV:AH K "is_coming" "is_coming" Q4 gI tI)
  (qu:nS K "is_loop" (.ref c9)) (z4:AH K "is_loop" "is_loop" Xs c9 g12)
  (sY:nS K "check_loop" (.ref j3)) (F13:AH K "check_loop" "check_loop" Yf j3 nq)
  (pT:nS K "things_to_come" (.ref gE)) (oI:AH K "things_to_come" "things_to_come" Qo gE vS)
  (kZ:nS K "rest" (.ref cT)) (nH:AH K "rest" "rest" Su cT tF)
  (zC:nS K "coming_without" (.ref aV)) (kH:AH K "coming_without" "coming_without" RN aV ph)
  (yS:nS K "place_of" (.ref bJ)) (F17:AH K "place_of" "place_of" YX bJ wW)
  (a18:nS K "loop_telling" (.ref ag)) (xg:AH K "loop_telling" "loop_telling" Uo ag r8)
  (zQ:nS K "step" (.ref gQ)) (nR:AH K "step" "step" XQ gQ vZ)
  (ui:nS K "_law_deed" (.ref bU)) (F20:AH K "_law_deed" "_law_deed" T8 bU w6)
  (a21:nS K "is_name" (.ref i8)) (qB:AH K "is_name" "is_name" SI i8 g21)
  (xW:nS K "check_put" (.ref eS)) (xi:AH K "check_put" "check_put" Vi eS qY)
  (sC:nS K "check_move" (.ref b7)) (F23:AH K "check_move" "check_move" Xt b7 vd)
  (kq:nS K "check_turn" (.ref fX)) (vq:AH K "check_turn" "check_turn" XY fX vD)
  (sI:nS K "check_deed" (.ref aJ)) (x3:AH K "check_deed" "check_deed" Ue aJ x8)
  (mi:nS K "row_turned" (.ref dz)) (F26:AH K "row_turned" "row_turned" T7 dz g26)
  (a27:nS K "row_with" (.ref aZ)) (sR:AH K "row_with" "row_with" Ve aZ lE)
  (m8:nS K "row_without" (.ref cu)) (uR:AH K "row_without" "row_without" Rq cu oq)
  (xr:nS K "done" (.ref Zp)) (rg:AH K "done" "done" Ut Zp g29)
  (lh:nS K "gap_behind_put" (.ref i9)) (F30:AH K "gap_behind_put" "gap_behind_put" Si i9 g30)
  (vf:nS K "gap_behind_take" (.ref fN)) (F31:AH K "gap_behind_take" "gap_behind_take" W8 fN xC)
  (yB:nS K "gap_led" (.ref gf)) (vK:AH K "gap_led" "gap_led" Sn gf ou)
  (sQ:nS K "joins" (.ref hU)) (y2:AH K "joins" "joins" WV hU oQ)
  (kR:nS K "coming_behind" (.ref gG)) (v5:AH K "coming_behind" "coming_behind" TK gG g34)
  (a35:nS K "loop_led" (.ref Zw)) (mB:AH K "loop_led" "loop_led" TX Zw og)
  (pZ:nS K "led" (.ref iN)) (uO:AH K "led" "led" UC iN vW)
  (zv:nS K "_law_stir" (.ref aW)) (F37:AH K "_law_stir" "_law_stir" WK aW vt)
  (kL:nS K "_law_turn" (.ref Zr)) (qp:AH K "_law_turn" "_law_turn" XG Zr xn)
  (qq:PySem.W.findIn K (.ref A4) "__init__"=some (some (.ref PN))) (uI:AH K "__init__" "Course.__init__" UK PN rT)
  (xX:PySem.W.isFn K (.ref PN)=true)
  (uj:PySem.W.findIn K (.ref AA) "__init__"=some (some (.ref Rk))) (F40:AH K "__init__" "Tally.__init__" U7 Rk oM)
  (ZBK:PySem.W.isFn K (.ref Rk)=true)
  (a41:PySem.W.findIn K (.ref A4) "follows_begin"=some (some (.ref Rx))) (hX:AH K "follows_begin" "Course.follows_begin" Wc Rx mq)
  (ZCK:PySem.W.isFn K (.ref Rx)=true)
  (mL:PySem.W.findIn K (.ref A4) "coming"=some (some (.ref Pg))) (eh:AH K "coming" "Course.coming" Ul Pg g42)
  (ng:PySem.W.isFn K (.ref Pg)=true)
  (xR:PySem.W.findIn K (.ref A4) "follows_tell"=some (some (.ref Qm))) (fR:AH K "follows_tell" "Course.follows_tell" Wj Qm sg)
  (oC:PySem.W.isFn K (.ref Qm)=true)
  (a44:PySem.W.findIn K (.ref A4) "follows_over"=some (some (.ref PD))) (gW:AH K "follows_over" "Course.follows_over" X5 PD uL)
  (qf:PySem.W.isFn K (.ref PD)=true)
  (a45:PySem.W.findIn K (.ref A4) "lead"=some (some (.ref S9))) (iS:AH K "lead" "Course.lead" Xu S9 g45)
  (uD:PySem.W.isFn K (.ref S9)=true)
  (lV:PySem.W.findIn K (.ref A4) "follows_deed"=some (some (.ref R6))) (iJ:AH K "follows_deed" "Course.follows_deed" XJ R6 ly)
  (ZCW:PySem.W.isFn K (.ref R6)=true)
  (tT:PySem.W.findIn K (.ref A4) "follows"=some (some (.ref QF))) (fo:AH K "follows" "Course.follows" Vf QF z5)
  (tG:PySem.W.isFn K (.ref QF)=true)
  (sW:nS K "course_of" (.ref gM)) (wV:AH K "course_of" "course_of" VH gM g48)
  (xj:nS K "first_wrong" (.ref dC)) (rF:AH K "first_wrong" "first_wrong" Vc dC kM)
  (mV:nS K "state_behind" (.ref af)) (rl:AH K "state_behind" "state_behind" Ya af p5)
  (nK:nS K "_law_told_once" (.ref cX)) (ka:AH K "_law_told_once" "_law_told_once" Qu cX sN)
  (kC:PySem.W.findIn K (.ref A4) "tally_of"=some (some (.ref Rg))) (cS:AH K "tally_of" "Course.tally_of" Wd Rg rX)
  (pH:PySem.W.isFn K (.ref Rg)=true)
  (xG:nS K "tallied" (.ref cw)) (F53:AH K "tallied" "tallied" WM cw oS)
  (gR:nS K "law" (.ref eU)) (cI:AH K "law" "law" Kf eU sy)
  (kx:nN K "all")
  (qC:nN K "enumerate")
  (rC:nN K "int")
  (ZBO:nN K "len")
  (lD:nN K "list")
  (yt:nN K "max")
  (mO:nN K "min")
  (yq:nN K "range")
  (ZBX:nN K "reversed")
  (zg:nN K "set")
  (sD:nN K "sorted")
  (qJ:nN K "tuple")
  (wM:nS K "LETTERS" (.str "abcdefghijklmnopqrstuvwxyz" VB))
  (qO:nS K "MOST_LETTERS" (.int 8 Yc))
  (o5:nS K "MOST_THINGS" (.int 40 Sf))
  (vN:nS K "RULES" (.ref Dg))
  {ua:Option Addr}{ZC3:Array (Option Value)}{z7:Nat}{ZC8 ZBB wX:Tok}(xw:K.lookup Dg=some ⟨.type "tuple", ua,.seq #[.str "none" ZC8,.str "ahead" ZBB,.str "all" wX] z7,ZC3⟩)
  (pU:nS K "NoLog" (.ref O9))
  (ue:nS K "StirError" (.ref OP))
  : ∃fd:FuncData,(∀(s:Shared)(v:Value),BindsTo s fd ⟨[v],[]⟩ [("script", v)])/\∀Zl:Heap,K.In Zl->Zl.Ns mainGlobals mg->DK l.prog w K mg Zl FO 14 fa fd ["script"] (N4 K):=by
 have e:=pJ.symm.trans (B8 X G gR);cases e;have Ay:Be K A4:=⟨kr,ZBz,zY,my⟩;have DW:Be K AA:=⟨ZAc,tS,ZBZ,xY⟩;have ZBT:Mk K A4 PN:=⟨ZAJ,qq,xX,xT⟩;have m9:Mk K AA Rk:=⟨rM,uj,ZBK,o3⟩;have zj:Meth K A4 "follows_begin" Rx:=⟨a41,ZCK,hX.kp⟩;have lT:Meth K A4 "coming" Pg:=⟨mL,ng,eh.kp⟩;have ZCt:Meth K A4 "follows_tell" Qm:=⟨xR,oC,fR.kp⟩;have vx:Meth K A4 "follows_over" PD:=⟨a44,qf,gW.kp⟩;have qd:Meth K A4 "lead" S9:=⟨a45,uD,iS.kp⟩;have uS:Meth K A4 "follows_deed" R6:=⟨lV,ZCW,iJ.kp⟩;have ZAf:Meth K A4 "follows" QF:=⟨tT,tG,fo.kp⟩;have kg:Meth K A4 "tally_of" Rg:=⟨kC,pH,cS.kp⟩;have IF:=HA X G kx;have Ma:=HA X G qC;have RQ:=HA X G rC;have As:=HA X G ZBO;have CD:=HA X G lD;have YZ:=HA X G yt;have VY:=HA X G mO;have LA:=HA X G yq;have Xo:=HA X G ZBX;have TY:=HA X G zg;have Fn:=HA X G sD;have Ir:=HA X G qJ;have T2:=B8 X G wM;have Va:=B8 X G qO;have WZ:=B8 X G o5;have Im:=B8 X G vN;have IW:∀H,AD K H Dg [.str "none",.str "ahead",.str "all"]:=λH=>.inr ⟨_,_,_,xw,rfl,rfl,(by show 3<=sizeLine;decide +kernel),(.cons ⟨_,rfl⟩ (.cons ⟨_,rfl⟩ (.cons ⟨_,rfl⟩ .nil)))⟩;have Ug:=B8 X G yI;have Y0:=B8 X G pU;have WT:=B8 X G ue;have TV:=B8 X G r9;obtain⟨_,_,kV,dc,pm,an,cd,ct,_,rfl,_,_⟩:=id cI.ex;refine⟨PySem.W.fnOf "law" "law" (Nk Kf) (Kn Kf) (Ae Kf) .none kV dc pm an cd ct,λs v=>.of_eq rfl,λZl _ _=>?_⟩;have Ou:=y4 (P:=l.prog) (w:=w) (Zl:=Zl) As F1 (B8 X G a1);have Bu:=ZCi (P:=l.prog) (w:=w) (Zl:=Zl) F2 (B8 X G a2);have Oe:=xN (P:=l.prog) (w:=w) (Zl:=Zl) F3 (B8 X G a3);have IK:=tL As Oe Bu F4 (B8 X G a4);have Sy:=mR IK LA F5 (B8 X G a5);have Y6:=xF Bu Sy F6 (B8 X G a6);have Y8:=yz (P:=l.prog) (w:=w) (Zl:=Zl) Im IW F7 (B8 X G a7);have MO:=uN Y8 Fn Ir F8 (B8 X G a8);have K2:=sk (P:=l.prog) (w:=w) (Zl:=Zl) F9 (B8 X G a9);have TC:=mX (P:=l.prog) (w:=w) (Zl:=Zl) As mx (B8 X G zr);have XE:=mJ (P:=l.prog) (w:=w) (Zl:=Zl) Fn IF CD TY rV (B8 X G zA);have YB:=kD Im IW XE TC z4 (B8 X G qu);have Md:=me YB F13 (B8 X G sY);have Ro:=lL (P:=l.prog) (w:=w) (Zl:=Zl) oI (B8 X G pT);have UG:=kA Md Ro nH (B8 X G kZ);have Lh:=ZCS (P:=l.prog) (w:=w) (Zl:=Zl) Ir kH (B8 X G zC);have FE:=wq (P:=l.prog) (w:=w) (Zl:=Zl) F17 (B8 X G yS);have Ld:=ZCf Lh FE xg (B8 X G a18);have Wr:=rR Ld UG nR (B8 X G zQ);have Xx:=yh As Bu IK F20 (B8 X G ui);have MY:=oZ (P:=l.prog) (w:=w) (Zl:=Zl) As IF T2 Va qB (B8 X G a21);have W5:=ZBU As MY WZ xi (B8 X G xW);have Wf:=za As FE F23 (B8 X G sC);have V0:=wc (P:=l.prog) (w:=w) (Zl:=Zl) As vq (B8 X G kq);have MP:=qg FE Wf W5 V0 x3 (B8 X G sI);have T6:=rW (P:=l.prog) (w:=w) (Zl:=Zl) CD Xo F26 (B8 X G mi)
 have SD:=yG (P:=l.prog) (w:=w) (Zl:=Zl) CD sR (B8 X G a27);have Qg:=xu (P:=l.prog) (w:=w) (Zl:=Zl) uR (B8 X G m8);have Lq:=mS MP T6 SD Qg rg (B8 X G xr);have Q5:=xp (P:=l.prog) (w:=w) (Zl:=Zl) F30 (B8 X G lh);have QY:=pq (P:=l.prog) (w:=w) (Zl:=Zl) F31 (B8 X G vf);have Y4:=p7 FE Q5 QY vK (B8 X G yB);have T4:=mC (P:=l.prog) (w:=w) (Zl:=Zl) y2 (B8 X G sQ);have X3:=ZAa Fn Ir Lh T4 v5 (B8 X G kR);have MQ:=oU X3 Y4 mB (B8 X G a35);have Ti:=wJ Md MP MQ uO (B8 X G pZ);have YN:=lQ CD Xx K2 Lq Ti F37 (B8 X G zv);have V7:=ZAu As Bu IK Fn K2 YN MO Wr qp (B8 X G kL);have VA:=mK (P:=l.prog) (w:=w) (mg:=mg) (Zl:=Zl) (A4:=A4) (AA:=AA) CD Ay C6 Cs DQ uI ZBT;have Vd:=uM (P:=l.prog) (w:=w) (mg:=mg) (Zl:=Zl) (AA:=AA) DW Il Li Iv IL F40 m9;have Vn:=mm (P:=l.prog) (w:=w) (mg:=mg) (Zl:=Zl) (A4:=A4) (AA:=AA) As Im IW MY MO Ay C6 Cs DQ Vd TV hX zj;have Eu:=we (P:=l.prog) (w:=w) (mg:=mg) (Zl:=Zl) (A4:=A4) Ay C6 eh lT;have Vt:=r6 (P:=l.prog) (w:=w) (mg:=mg) (Zl:=Zl) (A4:=A4) (AA:=AA) Ld Ay C6 Cs DQ DW IL Eu fR ZCt;have WE:=uZ (P:=l.prog) (w:=w) (mg:=mg) (Zl:=Zl) (A4:=A4) (AA:=AA) As Ay C6 Eu gW vx;have Yd:=ZBc (P:=l.prog) (w:=w) (mg:=mg) (Zl:=Zl) (A4:=A4) (AA:=AA) As MQ Ay C6 Cs DQ DW Il Iv Eu iS qd;have X8:=qh (P:=l.prog) (w:=w) (mg:=mg) (Zl:=Zl) (A4:=A4) (OP:=OP) (AA:=AA) CD Lq Ay C6 Cs Yd WT iJ uS;have Y3:=sM (P:=l.prog) (w:=w) (mg:=mg) (Zl:=Zl) (A4:=A4) (AA:=AA) Ay Vn X8 WE Vt fo ZAf;have Ik:=ky (A4:=A4) (AA:=AA) VA Y3 Ma Ug wV (B8 X G sW);have XT:=nO (A4:=A4) (O9:=O9) (AA:=AA) Ik Y0 rF (B8 X G xj);have Td:=pG (A4:=A4) (AA:=AA) Ay C6 Cs Ik rl (B8 X G mV);have Y1:=mF (P:=l.prog) (w:=w) (Zl:=Zl) As IF CD Ma ka (B8 X G nK);have Tn:=nI (P:=l.prog) (w:=w) (mg:=mg) (Zl:=Zl) (A4:=A4) (AA:=AA) As Ay DQ DW Il Li Iv IL Eu cS kg;have Tr:=ZAV (A4:=A4) (AA:=AA) Ay DQ Ik Tn F53 (B8 X G xG);exact mz As Bu LA CD Ou Y6 Y1 V7 XT Td Tr RQ YZ VY cI (B8 X G gR)
def walk{q:Program}{loose:List Str}{XP:(ZEY)->Heap->Prop}{YP:World->Heap->Prop}{d:DefRec}{K:Params->ZEW}(hn:l.most=some 63)(OL:d.params.defaults=[])
  (hY:∀(w:World)(h:Heap),YP w h->(K w.params).In h)
  (F:∀(w:World)(mg:ZEY)(fa:Addr)(h:Heap),(K w.params).In h->h.Ns mainGlobals mg->mg d.name=some (.ref fa)->
   ∃fd:FuncData,(∀(s:Shared)(u:Value),BindsTo s fd ⟨[u],[]⟩ [("script", u)])/\∀Zl:Heap,(K w.params).In Zl->Zl.Ns mainGlobals mg->DK l.prog w (K w.params) mg Zl FO 14 fa fd ["script"] (N4 (K w.params))) :
  PySem.W.WalkO q loose XP YP l.row.toRowW d [] (λf vs=>PySem.call f vs):=
 L2.ZCX (n:=63) (k:=14) (x:="script") (CX:=λ_=>FO) (sp:=λw=>N4 (K w.params)) hn (by decide) OL ⟨rfl,by decide,by decide⟩ hY F (λ_ _ a ns hl _ hS=>⟨a,ns,rfl,hS,hl,λ_=>rfl⟩) λ_ _ _ _ _ z=>z
end Pf
open PySem.W
local macro_rules | `(tactic| walk_at "kF")=>`(tactic| (refine' L2.yC ?_ ?_ ?_;all_goals try k_is;all_goals k_is))
set_option maxRecDepth 100000 in
set_option maxHeartbeats 0 in
theorem PySem.Challenge.cw_stirround_k30_whole_loops_make_right_log_holds : PySem.Challenge.rw_stirround_k30_whole_loops_make_right_log.Holds := by
 w_on;o_law;k_head;(case hw=>w_witness2)
 k_fill
 refine Pf.walk (l:=PySem.Challenge.rw_stirround_k30_whole_loops_make_right_log) rfl rfl (λw h Y=>PySem.W.kIn_of Y) ?F
 case F=>
  intro w mg fa h KX G NY;refine' Pf.all_mk KX G NY ?_ ?_ ?_ ?_ ?_ ?_ ?_ ?_ ?_ ?_ ?_ ?_ ?_ ?_ ?_ ?_ ?_ ?_ ?_ ?_ ?_ ?_ ?_ ?_ ?_ ?_ ?_ ?_ ?_ ?_ ?_ ?_ ?_ ?_ ?_ ?_ ?_ ?_ ?_ ?_ ?_ ?_ ?_ ?_ ?_ ?_ ?_ ?_ ?_ ?_ ?_ ?_ ?_ ?_ ?_ ?_ ?_ ?_ ?_ ?_ ?_ ?_ ?_ ?_ ?_ ?_ ?_ ?_ ?_ ?_ ?_ ?_ ?_ ?_ ?_ ?_ ?_ ?_ ?_ ?_ ?_ ?_ ?_ ?_ ?_ ?_ ?_ ?_ ?_ ?_ ?_ ?_ ?_ ?_ ?_ ?_ ?_ ?_ ?_ ?_ ?_ ?_ ?_ ?_ ?_ ?_ ?_ ?_ ?_ ?_ ?_ ?_ ?_ ?_ ?_ ?_ ?_ ?_ ?_ ?_ ?_ ?_ ?_ ?_ ?_ ?_ ?_ ?_ ?_ ?_ ?_ ?_ ?_ ?_ ?_ ?_ ?_ ?_ ?_ ?_ ?_ ?_ ?_ ?_ ?_ ?_ ?_ ?_ ?_ ?_ ?_ ?_ ?_ ?_ ?_ ?_ ?_ ?_
  any_goals first|k_is|(show _=_;k_is)|kernel_rfl|walk_at "kF"
#print axioms PySem.Challenge.cw_stirround_k30_whole_loops_make_right_log_holds
