import PyProof.Rows.All
import Wide.All
import OpenK.AllK
import PySem.Challenge.RW_stirround_k52_whole_twins_or_parted
set_option genSizeOf false
set_option linter.all false
set_option compiler.extract_closed false
set_option bootstrap.genMatcherCode false
noncomputable section
def ko:=@PySem.wpAny_bind
def mD:=@PySem.wpAny_pure
def mG:=@decide_eq_true
def mL:=@if_neg
def mP:=@of_decide_eq_true
def o9:=@if_pos
def oE:=@decide_eq_true_eq
def p6:=@decide_eq_false
def qc:=@PySem.builtinLookup_eq_fast
def qg:=@PySem.wpAny_setState_of
def qm:=@PySem.wpAny_newObj_type
def rD:=@PySem.wpAny_mono
def sC:=@PySem.wpAny_call_entry
def sF:=@PySem.isSubtype_type
def sj:=@PySem.wpAny_of_eq
def tL:=@PySem.wpAny_holding
def tj:=@PySem.wpAny_callSpecial?_slot
def uV:=@PySem.typeLookup_type
def vF:=@congrArg
def vx:=@PySem.wpAny_setField
def wL:=@PySem.wpAny_askSetting
def xF:=@beq_self_eq_true
def xX:=@PySem.wpAny_truthy_bool
def xi:=@PySem.wpAny_isInstance
def yU:=@PySem.wpAny_field
def z5:=@PySem.wpAny_Call_Name_kw
def zF:=@decide_eq_true_iff
def ZA1:=@or_false
def ZA2:=@PySem.wpAny_storeSet_of
def ZA4:=@PySem.fits_of_scanBound
def ZA5:=@PySem.wpAny_specialOf
def ZA6:=@PySem.codeAny_builtin
def ZA8:=@PySem.wpAny_setEntries_of
def ZAA:=@PySem.wpAny_typeOf
def ZAD:=@PySem.wpAny_passesOwn
def ZAE:=@PySem.wpAny_attempt
def ZAF:=@PySem.wpAny_updateSeq
def ZAN:=@PySem.plainId_quiet
def ZAO:=@PySem.wpAny_setEpoch_of
def ZAP:=@PySem.wpAny_loadPart_at
def ZAR:=@PySem.wpAny_rule
def ZAS:=@PySem.codeAny_mono
def ZAT:=@PySem.wpAny_execs_nil
def ZAV:=@beq_iff_eq
def ZAW:=@PySem.wpAny_standAt
def ZAZ:=@PySem.signature?_of
def ZAa:=@PySem.codeAny_extend_loopS
def ZAd:=@PySem.codeAny_call_builtin
def ZAf:=@PySem.wpAny_ite_split
def ZAg:=@PySem.wpAny_call
def ZAh:=@PySem.wpAny_fieldsOf
def ZAj:=@PySem.entryFor_alias
def ZAm:=@if_true
def ZAo:=@PySem.wpAny_pyIter_slot
def ZAx:=@PySem.wpAny_pyIter_list
def ZB3:=@if_false
def ZBA:=@PySem.noFill_tuple_add
def ZBB:=@PySem.entryFor_of_tree
def ZBD:=@decide_eq_false_iff_not
def ZBI:=@PySem.wpAny_load
def ZBL:=@PySem.call_meets
def ZBO:=@PySem.codeAny_of_tree
def ZBP:=@PySem.wpAny_runValue
def ZBR:=@PySem.isSubtype_stop
def Ae:=@List.length_map
def Aq:=@PySem.W.mg_of
def B4:=@Nat.le_refl
def B9:=@PySem.Heap.lt_size
def BE:=@PySem.Heap.get?_push_of_some
def BP:=@Ne.symm
def BY:=@PySem.Heap.get?_push_size
def BZ:=@List.mem_cons_self
def Bb:=@List.not_mem_nil
def Be:=@Option.some.inj
def Bi:=@List.length_append
def Bn:=@Nat.ne_of_lt
def Bt:=@List.getElem?_map
def Bu:=@List.length_take
def Bv:=@List.size_toArray
def Bz:=@Nat.le_trans
def C3:=@List.append_assoc
def C4:=@List.getElem?_eq_getElem
def C5:=@List.mem_cons_of_mem
def CG:=@List.length_cons
def CK:=@Nat.zero_le
def CU:=@Bool.and_eq_true
def Cj:=@List.mem_cons
def D5:=@List.length_drop
def D6:=@List.map_append
def DC:=@Bool.false_ne_true
def DD:=@Nat.lt_of_lt_of_le
def DN:=@PySem.Heap.get?_update_other
def Dm:=@Array.length_toList
def E7:=@PySem.Heap.get?_update_self
def E8:=@PySem.Heap.size_push
def E9:=@Nat.le_succ
def ES:=@List.map_cons
def Eo:=@Bool.eq_iff_iff
def Ep:=@List.mem_append_right
def Er:=@List.nodup_append
def FR:=@Nat.lt_of_le_of_lt
def FT:=@PySem.Obj.data_mapFields
def Fo:=@List.all_eq_true
def Fp:=@List.getElem?_append_left
def Fq:=@List.getElem?_set_ne
def Fs:=@List.getElem?_set_self
def Ft:=@PySem.F.plainAttrs_list
def Fu:=@PySem.W.mg_none_of
def GX:=@List.length_filter_le
def GY:=@List.mem_append
def HE:=@PySem.Heap.SameBut.update
def HF:=@List.mem_append_left
def HG:=@PySem.W.kia_one
def Hr:=@List.append_nil
def Hs:=@List.lookup_cons
def Ht:=@Nat.min_eq_left
def Ij:=@List.Perm.refl
def Ik:=@List.getElem_mem
def Il:=@List.map_map
def Im:=@Nat.ne_of_gt
def Jf:=@Int.emod_lt_of_pos
def Jg:=@Int.emod_nonneg
def Jh:=@Int.eq_ofNat_of_zero_le
def Ji:=@List.getElem?_append_right
def Jj:=@List.map_nil
def Jk:=@List.take_length
def Jl:=@Nat.lt_succ_of_lt
def Jm:=@PySem.F.slot_list_append
def Jn:=@PySem.F.type_list_append
def L8:=@Array.getElem?_eq_getElem
def L9:=@Bool.and_false
def LA:=@List.map_take
def LB:=@List.mem_of_getElem?
def LC:=@List.nodup_nil
def LD:=@List.take_append_drop
def LF:=@PySem.Obj.isFreed_of_fields
def LG:=@PySem.mem_of_lookup
def Md:=@List.foldl_cons
def Me:=@List.length_erase_of_mem
def Mf:=@List.length_reverse
def Mg:=@List.map_drop
def Mh:=@List.take_of_length_le
def Mi:=@Nat.lt_irrefl
def Mj:=@PySem.PassesOwn.never
def Mk:=@PySem.Value.isStrOf_shape
def OX:=@Array.getElem?_toList
def OY:=@Bool.and_true
def OZ:=@PySem.Heap.get?_none_of_le
def Oa:=@List.drop_zero
def Ob:=@List.getD_eq_getElem?_getD
def Oc:=@Nat.le_of_lt
def Od:=@Nat.le_total
def Oe:=@Nat.lt_succ_self
def Of:=@Nat.min_eq_right
def Rx:=@PySem.Around.under_plainId
def Ry:=@PySem.Heap.SameBut.refl
def Rz:=@PySem.Heap.size_after_update
def S6:=@Int.toNat_natCast
def S7:=@List.all_cons
def S8:=@List.cons_append
def S9:=@List.filterMap_cons
def SA:=@List.getElem?_eq_none
def SD:=@List.length_nil
def SE:=@List.length_range
def SG:=@Nat.le_of_lt_succ
def SH:=@Nat.sub_zero
def SI:=@Nat.succ.inj
def SJ:=@PySem.Obj.cls_mapFields
def SK:=@Option.map_some
def Yk:=@Bool.false_and
def Yl:=@Bool.true_and
def Ym:=@PySem.Code.quiet_builtin
def Yn:=@List.cons_lt_cons_iff
def Yo:=@List.drop_eq_getElem_cons
def Yp:=@List.filter_append
def Yq:=@List.filter_cons
def Yr:=@List.getElem?_drop
def Ys:=@List.getElem_idxOf
def Yt:=@List.getLast?_eq_some_getLast
def Yu:=@List.getLast?_map
def Yv:=@List.idxOf_cons
def Yw:=@List.length_set
def Yx:=@List.mem_erase_of_ne
def Yy:=@List.mem_singleton
def Yz:=@List.nil_append
def Z0:=@List.reverse_cons
def Z1:=@List.set_cons_succ
def Z2:=@Nat.le_of_eq
def Z3:=@Nat.mod_lt
def Z4:=@Nat.succ_pos
def Z5:=@Prod.ext
def Z6:=@PyProof.Rows.callWith_type1
def Z7:=@PyProof.Rows.slot_tuple_getitem
def Z8:=@PySem.F.slot_list_index
def Z9:=@PySem.strKind_is
def jr:=@PySem.Around.in1_handled
def jt:=@Array.getD_eq_getD_getElem?
def ju:=@Array.getElem?_eq_none
def jv:=@PySem.Calls.callWith_builtin
def jw:=@PySem.Calls.evalArgs_plain
def jx:=@PySem.Calls.spliced_nil
def jy:=@Classical.byContradiction
def jz:=@PySem.F.plain_extend_loop
def k6:=@Int.toNat_of_nonneg
def k8:=@List.all_map
def k9:=@List.any_eq_true
def kA:=@List.drop_length
def kB:=@List.ext_getElem
def kC:=@List.ext_getElem?
def kD:=@List.filter_map
def kE:=@List.forIn_nil
def kF:=@List.getElem?_replicate
def kG:=@List.getElem?_take_of_lt
def kH:=@List.getElem_inj
def kI:=@List.length_pos_of_mem
def kJ:=@List.map_id'
def kK:=@List.mem_filter
def kL:=@List.mem_of_mem_take
def kM:=@List.of_mem_zip
def kN:=@List.pairwise_singleton
def kO:=@List.set_set
def kP:=@List.take_succ_eq_append_getElem
def kQ:=@Nat.le_succ_of_le
def kR:=@Nat.log2_lt
def kT:=@Nat.min_self
def kU:=@Nat.zero_add
def kW:=@PyProof.Rows.F.plain_set_update_loop
def kX:=@PySem.F.args_tuple_add_2
def kY:=@PySem.F.entry_tuple_add
def kZ:=@PySem.F.excBase_ValueError
def ka:=@PySem.F.slot_tuple_add
def kb:=@PySem.F.type_list_index
def kc:=@PySem.W.callWith_K
def ZEq:=@Array.eq_empty_of_size_eq_zero
def ZEr:=@Array.find?_toList
def ZEs:=@Array.toList_extract
def ZEt:=@Array.toList_push
def ZEu:=@Bool.false_eq_true
def ZEv:=@Bool.not_eq_true'
def ZEw:=@PySem.Calls.Name_function_global
def ZEx:=@Decidable.byContradiction
def ZEy:=@Int.lt_of_le_of_lt
def ZEz:=@List.contains_cons
def ZF0:=@List.dropLast_concat
def ZF1:=@List.drop_of_length_le
def ZF2:=@List.filterMap_map
def ZF3:=@List.filter_congr
def ZF4:=@List.filter_eq_self
def ZF5:=@List.getElem?_range
def ZF6:=@List.getElem?_reverse
def ZF7:=@List.getElem?_toArray
def ZF8:=@List.length_eraseIdx_of_lt
def ZF9:=@List.length_replicate
def ZFA:=@List.length_singleton
def ZFB:=@List.map_reverse
def ZFC:=@List.mem_of_mem_head?
def ZFD:=@List.nil_sublist
def ZFE:=@List.set_cons_zero
def ZFF:=@List.take_sublist
def ZFG:=@PySem.MeetsSeq2.wpAny_forIn_array
def ZFH:=@Nat.eq_zero_or_pos
def ZFI:=@Nat.le_of_not_lt
def ZFJ:=@Nat.lt_of_not_le
def ZFK:=@Nat.lt_trichotomy
def ZFL:=@Nat.min_le_right
def ZFM:=@Nat.not_lt_of_le
def ZFN:=@Nat.succ_le_succ
def ZFO:=@Option.bind_some
def ZFP:=@Option.getD_none
def ZFQ:=@Option.getD_some
def ZFR:=@PyProof.Rows.F.entry_set_update_loop
def ZFS:=@PySem.F.plain_set_new
def ZFT:=@PySem.F.slot_list_insert
def ZFU:=@PySem.F.slot_tuple_index
def ZFV:=@PySem.W.any_some
def ZFW:=@PySem.W.cellsFrom_some
def ZFX:=@PySem.W.kitx_dict
def ZFY:=@PySem.W.kitx_list
def ZFZ:=@PySem.W.kitx_tuple
def ZFa:=@PySem.W.looks_clsIn
def ZFb:=@PySem.SeqAt.eq_list_lengthsAt
open PySem PySem.Spec PyProof.Rows
abbrev ZGX:=PySem.W.Frag
abbrev ZGY:=(List (Addr×Obj))
abbrev ZGZ:=(Str->Option Value)
namespace PySem.W.Fast
def t:=Nat
def tw5718610714979137689:=t
def tw8420658323679500965:=t
def tw10638088474483860502:=t
def tw12279036985996876124:=t
def tw8902978038252256608:=t
def tw5833744149155163920:=t
def tw14850126189077542531:=t
def tw3151297933897970133:=t
def tw3587957306123346591:=t
def tw7880868352508032965:=t
def tw10466931513102066786:=t
def tw12540408100920115835:=t
def tw11001849753703644626:=t
def tw6314556633534163715:=t
def tw2788991690242124405:=t
def tw11768075291283479489:=t
def tw8746501063392279161:=t
def tw9557689982162301531:=t
def tw6922718883555437165:=t
def tw136851657470924338:=t
def tw8704015640967660449:=t
def tw17232764326430812491:=t
def tw9796679311013467374:=t
def tw4877306066450069782:=t
def tw1993651071772819528:=t
def tw9034901146973756373:=t
def tw7794726757260931485:=t
def tw9404111539638731094:=t
def tw4176094818165231725:=t
def tw4613005163973520252:=t
def tw17669558464963070642:=t
def tw4755383137150890579:=t
def tw18316117480096167064:=t
def tw17249106174060842402:=t
def tw1620927954808774061:=t
def tw3498066337829702258:=t
def tw7488440228570009926:=t
def tw10782487288920832455:=t
def tw13715188301646120528:=t
def tw18257431389262220942:=t
def tw13402311489059550679:=t
def tw3887338725197055667:=t
def tw1403954292563136758:=t
def tw7006739970408823136:=t
def tw12873082306963199789:=t
def tw15299449064437500988:=t
def tw9723575751925339660:=t
def tw13961494225403839121:=t
def tw16606688323530801562:=t
def tw13783074836347151559:=t
def tw1812545641604522811:=t
def tw5431583568852060182:=t
def tw5827433114946176616:=t
def tw1457307151947082403:=t
def tw17267748960656750133:=t
def tw16756450068240630157:=t
def tw10008552678040842613:=t
def tw6100808796648530396:=t
def tw1809875961090838851:=t
def tw14668922448256497476:=t
def tw18036511309150548264:=t
def tw7127670602076722619:=t
def tw9434448052685990738:=t
def tw17623747977544279171:=t
def tw2573459978436455716:=t
def tw2892580720853673556:=t
def tw2750030409309405823:=t
def tw15992517682340931780:=t
def tw3901231906131327462:=t
def tw3533411259744274759:=t
def tw5017119596826980667:=t
def tw16178906782990771237:=t
def tw5552215141408354504:=t
def tw10886207222814543775:=t
def tw9820275847786314439:=t
def tw5506264835952881981:=t
def tw1437513495879265936:=t
def tw17017474731579319813:=t
def tw10551708319562960038:=t
def tw9749631126040975713:=t
def tw2569846918540080265:=t
def tw559563715706839644:=t
def tw12602744665311430194:=t
def tw17705838238915854320:=t
def tw637559446845667162:=t
def tw17349380365623741972:=t
def tw2177051202474554127:=t
def tw2417933763474776880:=t
def tw3250180148267190236:=t
def tw14466492732285187782:=t
def tw17837466064759989863:=t
def tw12361330444510152181:=t
def tw14834899068757903515:=t
def tw10762273021392258362:=t
def tw6390012604070717241:=t
def tw8046709322165007935:=t
def tw4005315036153667865:=t
def tw18358836473772433124:=t
def tw5847426908427158255:=t
def tw10991819818594141258:=t
def tw2581684071811107864:=t
def tw5349451558827724447:=t
def tw17674034160964693012:=t
def tw13321025856335413231:=t
def tw11286167641854821222:=t
def tw11861102668865052286:=t
def tw12917293371773343420:=t
def tw601284298584751678:=t
def tw7047083303177296030:=t
def tw16176131994166899069:=t
def tw12273104423899537272:=t
def tw6626054347207844950:=t
def tw11240112273505228329:=t
def tw578829865323749472:=t
def tw4236303946593767728:=t
def tw16803546963721080164:=t
def tw18304130632534195761:=t
def tw13564921474814634962:=t
def tw94275046218815945:=t
def tw15869459435372211699:=t
def tw4794206113049234634:=t
def tw15996202559962037730:=t
def tw7050502728031872493:=t
def tw12581132008874165207:=t
def tw10740002502243883121:=t
def tw9775195854239802226:=t
def tw2695113540339103169:=t
def tw10155566177437594982:=t
def tw4975469608723996520:=t
def tw13650417867443248353:=t
def tw2338227752673880606:=t
def tw8576056853609242110:=t
def tw4196571045627019326:=t
def tw7360581000187605885:=t
def tw17104653808997473324:=t
def tw12766262992091283326:=t
def tw10066904640030752237:=t
def tw8568551869647879269:=t
def tw592975925395091446:=t
def tw8856121431476598665:=t
def tw11621151941777830712:=t
def tw15245438061031120695:=t
def tw17435233028705527093:=t
def tw8007270896851374357:=t
def tw13332105084598523634:=t
def tw881851513261112644:=t
def tw10815332510509118445:=t
def tw4803147260473432136:=t
def tw12465977250445134373:=t
def tw15947838718851163999:=t
def tw2130822810643110937:=t
end PySem.W.Fast
set_option Elab.async false
set_option maxRecDepth 100000
namespace L2
variable{ds us:List Value}{α κ:Type}{C a b dx it:Addr}{w:World}{Zf h':Heap}{c cd u:Value}{name qual x:Str}{e tg:Expr}{eW Ze:ZGY}{s s':Shared}{g':Array GenState}{i j k n t' tk:Nat}{d':Drawn}{ch fp:List Addr}{N ks ps:List Str}{M:Model}{A:Around}{E Q:Value->Shared->Prop}{ZFe pos:Pos}{es rest:List Expr}{f:Value->Value->Sem Value}{op:CmpOp}{mA mg:ZGZ}{kw:List (Str×Value)}{fd:FuncData}{outer:List Env}{sc scope:Scope}
abbrev Key:=Sum Int Str
noncomputable def jU:Key->Value->Bool
 | .inl k,v=>Value.isInt k v
 | .inr x,v=>Value.isStrOf x v
noncomputable def pE(w:World):Key->Int
 | .inl k=>hashInt k
 | .inr x=>hashStr w x
theorem IF:∀{k:Key}{v:Value},jU k v=true->(∃i t,k=Sum.inl i/\v=Value.int i t)∨(∃x t,k=Sum.inr x/\v=Value.str x t)
 | .inl i,v,h=>by
  obtain⟨t,e⟩:=Value.isInt_shape (k:=i) (v:=v) h;exact .inl ⟨i,t,rfl,e⟩
 | .inr x,v,h=>by
  obtain⟨t,e⟩:=Mk (x:=x) (v:=v) h;exact .inr ⟨x,t,rfl,e⟩
theorem ZCn(a b:Int):decide ((Sum.inl a:Key)=Sum.inl b)=(a == b):=by
 by_cases e:a=b
 .subst e;simp
 .have h:¬ (Sum.inl a:Key)=Sum.inl b:=λq=>e (Sum.inl.inj q);rw[p6 h];exact(beq_eq_false_iff_ne.mpr e).symm
theorem ZE9(a b:Str):decide ((Sum.inr a:Key)=Sum.inr b)=decide (a=b):=by
 by_cases e:a=b
 .subst e;simp
 .have h:¬ (Sum.inr a:Key)=Sum.inr b:=λq=>e (Sum.inr.inj q);rw[p6 h,p6 e]
theorem ZBg(a:Int)(b:Str):decide ((Sum.inl a:Key)=Sum.inr b)=false:=p6 (λq=>nomatch q)
theorem wR(a:Str)(b:Int):decide ((Sum.inr a:Key)=Sum.inl b)=false:=p6 (λq=>nomatch q)
def i7(prog:Program)(w:World):PySem.KeyKind prog w Key where
 is:=jU
 hash:=pE w
 inj:=λv a b g d=>by
  rcases IF g with⟨i,t,rfl,rfl⟩|⟨x,t,rfl,rfl⟩
  .rcases IF d with⟨j,u,rfl,e⟩|⟨y,u,rfl,e⟩
   .injection e with e1 _;rw[e1]
   .exact nomatch e
  .rcases IF d with⟨j,u,rfl,e⟩|⟨y,u,rfl,e⟩
   .exact nomatch e
   .injection e with e1 _;rw[e1]
 byValue:=λk v h=>by
  rcases IF h with⟨i,t,rfl,rfl⟩|⟨x,t,rfl,rfl⟩ <;> rfl
 pyHash:=λc h=>by
  rcases IF c with⟨i,t,rfl,rfl⟩|⟨x,t,rfl,rfl⟩
  .exact wpAny_pyHash_int h
  .exact wpAny_pyHash_str h
 eqBool:=λf c h=>by
  rcases IF f with⟨i,t,rfl,rfl⟩|⟨x,t,rfl,rfl⟩
  .rcases IF c with⟨j,u,rfl,rfl⟩|⟨y,u,rfl,rfl⟩
   .rw[ZCn]at h;exact wpAny_eqBool_int h
   .rw[ZBg]at h;exact SeqAt.EqAt.int_str i t y u _ _ _ _ h
  .rcases IF c with⟨j,u,rfl,rfl⟩|⟨y,u,rfl,rfl⟩
   .rw[wR]at h;exact SeqAt.EqAt.str_int x t j u _ _ _ _ h
   .rw[ZE9]at h;exact wpAny_eqBool_str h
 «strs»:=λk x t v h=>by
  rcases IF h with⟨i,u,rfl,e⟩|⟨y,u,rfl,e⟩
  .exact nomatch e
  .injection e with e1 _
   subst e1;cases v <;> rfl
inductive V where
 |AG|bl (b:Bool)|int (i:Int)|str (x:Str)|Gd (b:Array UInt8)|Ic (b:UInt64)|ref (a:Addr)|ty (n:String)
 deriving DecidableEq
variable{JB vs xs:List V}{v:V}
def RelV:V->Value->Prop
 | .AG,u=>u=Value.none
 | .bl b,u=>u=Value.bool b
 | .int i,u=>∃t,u=Value.int i t
 | .str x,u=>∃t,u=Value.str x t
 | .Gd b,u=>∃t,u=Value.bytes b t
 | .Ic b,u=>∃t,u=Value.float b t
 | .ref a,u=>u=Value.ref a
 | .ty n,u=>u=Value.type n
abbrev Vals:List V->List Value->Prop:=Paired RelV
theorem Vals.length(r:Vals xs us):xs.length=us.length:=Paired.length r
theorem Vals.get:∀{xs:List V}{us:List Value}{i:Nat}{x:V},Vals xs us->xs[i]?=some x->∃u,us[i]?=some u/\RelV x u
 |_,_,_,_,.nil,e=>by simp at e
 |_,_,0,_,.cons r _,e=>by simp at e;subst e;exact⟨_,rfl,r⟩
 |_,_,i+1,x,.cons _ t,e=>by
  obtain⟨u,h1,h2⟩:=Vals.get (i:=i) (x:=x) t (by simpa using e)
  exact⟨u,by simpa using h1,h2⟩
theorem Vals.set{x:V}{u:Value}(r:RelV x u):∀{xs:List V}{us:List Value}(i:Nat),Vals xs us->Vals (xs.set i x) (us.set i u)
 |_,_,_,.nil=>.nil
 |_,_,0,.cons _ t=>.cons r t
 |_,_,i+1,.cons q t=>.cons q (Vals.set r i t)
theorem Vals.append:∀{xs ys:List V}{us ws:List Value},Vals xs us->Vals ys ws->Vals (xs++ys) (us++ws)
 |_,_,_,_,.nil,s=>s
 |_,_,_,_,.cons r t,s=>.cons r (Vals.append t s)
theorem Vals.take:∀{xs:List V}{us:List Value}(n:Nat),Vals xs us->Vals (xs.take n) (us.take n)
 |_,_,0,_=>.nil
 |_,_,_+1,.nil=>.nil
 |_,_,n+1,.cons r t=>.cons r (Vals.take n t)
theorem Vals.drop:∀{xs:List V}{us:List Value}(n:Nat),Vals xs us->Vals (xs.drop n) (us.drop n)
 |_,_,0,r=>r
 |_,_,_+1,.nil=>.nil
 |_,_,n+1,.cons _ t=>Vals.drop n t
def Yd:Option V->Option Value->Prop
 |some v,some u=>RelV v u
 |none,none=>True
 |_,_=>False
def KV:List (κ×V)->List (κ×Value)->Prop:=Paired λ(p:κ×V)(q:κ×Value)=>p.1=q.1/\RelV p.2 q.2
noncomputable def kV:Key->V
 | .inl i=>.int i
 | .inr x=>.str x
inductive HO where
 /-- a list -/
 |lst (xs:List V)
 /-- a tuple (never changes) -/
 |tup (xs:List V)
 /-- a dict pj keys are ints and texts;one pj keys are tuples of ints and texts (Gk empty one is both) -/
 |dK (C9:List (Key×V))|dT (C9:List (List Key×V))
 /-- a set of ints: A5 members,A5 size -/
 |set (S:Int->Bool) (n:Nat)
 /-- an instance of Gk class at C,A5 dict at dx,A5 attributes -/
 |ins (C dx:Addr) (fs:List (Str×V))
 /-- Gk dict of Gk instance at x -/
 |own (x:Addr)
 /-- Gk dict of an exception -/
 |xd (fs:List (Str×V))
 /-- a bound method,f of x -/
 |met (f x:Addr)
 /-- a range object lo,lo+1,.. below hi -/
 |Rj (lo hi:Int)
 /-- a ZCw ZGH is known to Gk object (Gk bU;a dict while a loop walks it): read,never written while it is so -/
 |Ec (o:Obj) (u:HO)
 /-- a code ZFj table -/
 |JO (ps:Array Value)
 /-- any other ZCw,by nh is true of A5 one object (a def of ZFc own: r6 a S n:=HO.ext λh=>..) -/
 |ext (φ:Heap->Prop)
variable{o o':HO}
abbrev Hp:=Addr->Option HO
variable{H H':Hp}
noncomputable def upd(H:Hp)(a:Addr)(o:HO):Hp:=λb=>if b=a then some o else H b
theorem AU:upd H a o a=some o:=by unfold upd;rw[o9 rfl]
theorem Az(h:b≠a):upd H a o b=H b:=by unfold upd;rw[mL h]
theorem DU(h:H a=some o)(h':H b=none):a≠b:=by
 intro e;subst e;rw[h]at h';cases h'
section
variable(P:Program)(w:World)
def CO(H:Hp)(h:Heap)(a:Addr):HO->Prop
 | .lst xs=>xs.length<=sizeLine/\∃(A5:List Value)(n:Nat),Vals xs A5/\h.get? a=some { cls:=.type "list", data:=.seq A5.toArray n }
 | .tup xs=>xs.length<=sizeLine/\∃A5:List Value,Vals xs A5/\(IsTup h a A5.toArray/\∀ob,h.get? a=some ob->ob.dict=none)
 | .dK C9=>C9.length<=sizeLine/\(a == sysModules)=false/\∃vs,KV C9 vs/\h.DictOf (i7 P w) a vs
 | .dT C9=>C9.length<=sizeLine/\(a == sysModules)=false/\∃xs:List (List Key×Addr×Value),
   Paired (λ(p:List Key×V)(q:List Key×Addr×Value)=>p.1=q.1/\H q.2.1=some (.tup (p.1.map kV))/\RelV p.2 q.2.2) C9 xs/\
   ∃o es ep,h.get? a=some o/\o.ExactDict/\o.data=.dict es ep/\es.toList=xs.map (entryOfKey (tupleKind (i7 P w)))/\(xs.map (·.1)).Nodup
 | .set S n=>h.SetOf (intKind P w) a S n
 | .ins C dx fs=>H dx=some (.own a)/\fs.length<=1000/\dx≠a/\h.get? a=some (PySem.W.instObj C dx)/\
   ∃mA,h.Ns1 dx mA/\(∀f,Yd (fs.lookup f) (mA f))/\PySem.Within mA (fs.map (·.1))
 | .own _=>∃o,h.get? a=some o
 | .xd fs=>∃mA,h.Ns1 a mA/\∀f,Yd (fs.lookup f) (mA f)
 | .Rj lo hi=>∃t u v,h.get? a=some { cls:=.type "range", data:=.fields #[.int lo t,.int hi u,.int 1 v] }
 | .Ec o u=>h.get? a=some o/\CO H h a u
 | .JO ps=>h.get? a=some { cls:=.none,data:=.fields ps }
 | .met f x=>h.get? a=some (PySem.W.methodObj (.ref f) (.ref x))
 | .ext φ=>φ h/\(∃o,h.get? a=some o)/\∀h1 h2:Heap,φ h1->(∀o,h1.get? a=some o->h2.get? a=some o)->φ h2
def CD(H:Hp)(h:Heap):Prop:=∀a o,H a=some o->CO P w H h a o
end
section
variable{P:Program}{h:Heap}
theorem CO.lt(x:CO P w H h a o):a<h.objs.size:=by
 cases o with
 |lst xs=>obtain⟨_,_,_,_,e⟩:=x;exact B9 e
 |tup xs=>obtain⟨_,_,_,p⟩:=x;exact p.1.lt
 |dK C9=>obtain⟨_,_,_,_,o,_,_,e,_⟩:=x;exact B9 e
 |dT C9=>obtain⟨_,_,_,_,o,_,_,e,_⟩:=x;exact B9 e
 |set S n=>obtain⟨o,_,_,_,e,_⟩:=x;exact B9 e
 |ins C dx fs=>obtain⟨_,_,_,e,_⟩:=x;exact B9 e
 |own y=>obtain⟨_,e⟩:=x;exact B9 e
 |xd fs=>obtain⟨_,⟨_,_,_,e,_⟩,_⟩:=x;exact B9 e
 |Rj lo hi=>obtain⟨_,_,_,e⟩:=x;exact B9 e
 |Ec ob u=>obtain⟨e,_⟩:=x;exact B9 e
 |JO ps=>exact B9 (show h.get? a=some _ from x)
 |met f y=>exact B9 (show h.get? a=some _ from x)
 |ext φ=>obtain⟨_,⟨_,e⟩,_⟩:=x;exact B9 e
theorem Paired.bq{α β:Type}{F G:α->β->Prop}:∀{l₁:List α}{l₂:List β},Paired F l₁ l₂->(∀a b,F a b->G a b)->Paired G l₁ l₂
 |_,_,.nil,_=>.nil
 |_,_,.cons r t,f=>.cons (f _ _ r) (Paired.bq t f)
theorem CO.Jb(x:CO P w H h a o)(k:∀b u,(b=a∨H b=some (.own a))->h.get? b=some u->h'.get? b=some u)
  (ho:∀b,H b=some (.own a)->H' b=some (.own a)) (j:∀b xs,H b=some (.tup xs)->H' b=some (.tup xs)):CO P w H' h' a o:=by
 induction o with
 |lst xs=>obtain⟨z,A5,n,r,e⟩:=x;exact⟨z,A5,n,r,k _ _ (.inl rfl) e⟩
 |tup xs=>obtain⟨z,A5,r,⟨ob,e,c⟩,m⟩:=x;exact⟨z,A5,r,⟨ob,k _ _ (.inl rfl) e,c⟩,λRw g=>by rw[k _ _ (.inl rfl) e]at g;cases g;exact m _ e⟩
 |dK C9=>obtain⟨z,y,vs,r,ob,es,ep,e,c⟩:=x;exact⟨z,y,vs,r,ob,es,ep,k _ _ (.inl rfl) e,c⟩
 |dT C9=>
  obtain⟨z,y,xs,r,ob,es,ep,e,c⟩:=x;exact⟨z,y,xs,Paired.bq r λp q z=>⟨z.1,j _ _ z.2.1,z.2.2⟩,ob,es,ep,k _ _ (.inl rfl) e,c⟩
 |set S n=>obtain⟨ob,es,ep,t,e,c⟩:=x;exact⟨ob,es,ep,t,k _ _ (.inl rfl) e,c⟩
 |ins C dx fs=>
  obtain⟨d,z,ne,e,mA,⟨od,es,ep,l,c⟩,r⟩:=x;exact⟨ho _ d,z,ne,k _ _ (.inl rfl) e,mA,⟨od,es,ep,k _ _ (.inr d) l,c⟩,r⟩
 |own y=>obtain⟨ob,e⟩:=x;exact⟨ob,k _ _ (.inl rfl) e⟩
 |xd fs=>obtain⟨mA,⟨od,es,ep,e,c⟩,r⟩:=x;exact⟨mA,⟨od,es,ep,k _ _ (.inl rfl) e,c⟩,r⟩
 |Rj lo hi=>obtain⟨t,u,v,e⟩:=x;exact⟨t,u,v,k _ _ (.inl rfl) e⟩
 |Ec ob u i=>obtain⟨e,q⟩:=x;exact⟨k _ _ (.inl rfl) e,i q⟩
 |JO ps=>
  have e:h.get? a=some { cls:=.none,data:=.fields ps }:=x;show h'.get? a=some { cls:=.none,data:=.fields ps };exact k a _ (.inl rfl) e
 |met f y=>
  have e:h.get? a=some (PySem.W.methodObj (.ref f) (.ref y)):=x;show h'.get? a=some (PySem.W.methodObj (.ref f) (.ref y));exact k a _ (.inl rfl) e
 |ext φ=>obtain⟨p,⟨o,e⟩,st⟩:=x;exact⟨st _ _ p λo q=>k _ _ (.inl rfl) q,⟨o,k _ _ (.inl rfl) e⟩,st⟩
theorem CD.lt(x:CD P w H h)(e:H a=some o):a<h.objs.size:=(x a o e).lt
theorem CD.fresh(x:CD P w H h)(e:h.objs.size<=a):H a=none:=by
 cases q:H a with
 |none=>rfl
 |some u=>exact absurd (DD (x.lt q) e) (Mi _)
theorem CD.kept(x:CD P w H h)(k:∀b u,h.get? b=some u->h'.get? b=some u):CD P w H h':=λa o e=>
 (x a o e).Jb (λb u _ q=>k b u q) (λ_ q=>q) λ_ _ q=>q
theorem CD.laid(x:CD P w H h)(k:∀b u,h.get? b=some u->h'.get? b=some u)(g:h.objs.size<=a)(d:CO P w (upd H a o) h' a o):CD P w (upd H a o) h':=λb u e=>by
 have hn:=x.fresh g
 by_cases f:b=a
 .subst f;rw[AU]at e;cases e;exact d
 .rw[Az f]at e;exact(x b u e).Jb (λc v _ q=>k c v q) (λc q=>by rw[Az (DU q hn)];exact q) λc xs q=>by rw[Az (DU q hn)];exact q
end
def Rd(H:Hp)(a:Addr)(u:HO):Prop:=H a=some u∨∃o,H a=some (.Ec o u)
theorem Rd.ok{P:Program}{h:Heap}{u:HO}(r:Rd H a u)(x:CD P w H h):CO P w H h a u:=by
 rcases r with r|⟨o,r⟩
 .exact x a u r
 .obtain⟨_,q⟩:=x a _ r;exact q
def Nu:Option HO->Prop
 |some (.lst _)=>True
 |some (.dK _)=>True
 |some (.dT _)=>True
 |some (.set _ _)=>True
 |some (.ins _ _ _)=>True
 |some (.ext _)=>True
 |_=>False
section
variable{P:Program}{h:Heap}{x e:Addr}
theorem CD.write(ok:CD P w H h)(a:Nu (H x))(l:e=x∨H e=some (.own x))(k:∀b u,b≠e->h.get? b=some u->h'.get? b=some u)(Lo:∃u,h'.get? e=some u)
  (i:CO P w (upd H x o') h' x o'):CD P w (upd H x o') h':=λb u q=>by
 have m:∀c y,H c=some (.own y)->c≠x:=λc y r z=>by subst z;rw[r]at a;exact a
 have n:∀c xs,H c=some (.tup xs)->c≠x:=λc xs r z=>by subst z;rw[r]at a;exact a
 by_cases f:b=x
 .subst f;rw[AU]at q;cases q;exact i
 .rw[Az f]at q
  by_cases g:b=e
  .have j:H b=some (.own x):=by
    rcases l with z|z
    .exact absurd (g.trans z) f
    .rw[g];exact z
   rw[q]at j;cases j;obtain⟨v,o⟩:=Lo;exact⟨v,by rw[g];exact o⟩
  .refine(ok b u q).Jb (λc v d r=>k c v ?_ r) (λc r=>by rw[Az (m c b r)];exact r) λc xs r=>by rw[Az (n c xs r)];exact r
   rcases d with rfl|d
   .exact g
   .rintro rfl;rcases l with z|z
    .exact m c b d z
    .rw[d]at z;cases z;exact f rfl
end
structure Un (fs ex:List Addr) (H H':Hp) (h h':Heap):Prop where
 keep:∀b o,h.get? b=some o->H b=none->b∉fs->b∉ex->h'.get? b=some o
 slot:∀b o,h.get? b=some o->H b=none->b∈fs->b∉ex->∃sl,h'.get? b=some { o with slots:=sl }
 free:∀b o,h.get? b=some o->H b=none->b∉ex->H' b=none
 there:∀b o,h.get? b=some o->b∉ex->∃o',h'.get? b=some o'
 Gy:∀b xs,H b=some (.tup xs)->H' b=some (.tup xs)
 GB:∀b o u,H b=some (.Ec o u)->H' b=some (.Ec o u)
 Gn:∀b ps,H b=some (.JO ps)->∃more,H' b=some (.JO (ps++more))
section
variable{fs sL ex ex':List Addr}{H1 H2:Hp}{h h1 h2:Heap}{x e:Addr}
theorem Un.any(u:Un fs ex H H1 h h1){ob:Obj}(q:h.get? b=some ob)(n:H b=none)(hx:b∉ex):∃sl,h1.get? b=some { ob with slots:=sl }:=by
 by_cases a:b∈fs
 .exact u.slot b ob q n a hx
 .exact⟨ob.slots,u.keep b ob q n a hx⟩
theorem Un.kept(k:∀b u,h.get? b=some u->h'.get? b=some u):Un fs ex H H h h':=
 ⟨λb ob q _ _ _=>k b ob q,λb ob q _ _ _=>⟨ob.slots,k b ob q⟩,λ_ _ _ n _=>n,λb ob q _=>⟨ob,k b ob q⟩,λ_ _ q=>q,λ_ _ _ q=>q,λ_ ps q=>⟨#[],by rw[q];simp⟩⟩
theorem Un.refl:Un fs ex H H h h:=Un.kept λ_ _ q=>q
theorem Un.laid(k:∀b u,h.get? b=some u->h'.get? b=some u)(c:h.objs.size<=a)(hn:H a=none):Un fs ex H (upd H a o) h h' where
 keep:=λb u q _ _ _=>k b u q
 slot:=λb u q _ _ _=>⟨u.slots,k b u q⟩
 free:=λb u q n _=>by rw[Az (Bn (DD (B9 q) c))];exact n
 there:=λb u q _=>⟨u,k b u q⟩
 Gy:=λb xs q=>by rw[Az (DU q hn)];exact q
 GB:=λb u xs q=>by rw[Az (DU q hn)];exact q
 Gn:=λb ps q=>⟨#[],by rw[Az (DU q hn),q];simp⟩
theorem Un.write(a:Nu (H x))(g:e=x∨H e=some (.own x))(k:∀b u,b≠e->h.get? b=some u->h'.get? b=some u)(Lo:∃u,h'.get? e=some u):Un fs ex H (upd H x o) h h':=by
 have hx:∀b,H b=none->b≠x:=λb n z=>by subst z;rw[n]at a;exact a
 have d:∀b,H b=none->b≠e:=λb n z=>by
  subst z;rcases g with r|r
  .exact hx b n r
  .rw[n]at r;cases r
 have c:∀b u,H b=some u->¬ Nu (some u)->b≠x:=λb u q nm z=>by subst z;rw[q]at a;exact nm a
 refine⟨λb u q n _ _=>k b u (d b n) q,λb u q n _ _=>⟨u.slots,k b u (d b n) q⟩,λb u q n _=>by rw[Az (hx b n)];exact n,λb u q _=>?_,
  λb xs q=>by rw[Az (c b _ q λz=>z)];exact q,λb u xs q=>by rw[Az (c b _ q λz=>z)];exact q,λb ps q=>⟨#[],by rw[Az (c b _ q λz=>z),q];simp⟩⟩
 by_cases f:b=e
 .subst f;exact Lo
 .exact⟨u,k b u f q⟩
end
def Qn(h:Heap)(H:Hp):List Addr:=(List.range h.objs.size).filter λa=>(H a).isSome
def IB(h:Heap)(H:Hp):Heap:=PySem.W.hideAll h (Qn h H)
theorem qh(h:Heap)(H:Hp):(IB h H).objs.size=h.objs.size:=PySem.W.hideAll_size _ _
theorem ZCz{h:Heap}{o:Obj}(e:h.get? b=some o)(n:H b=none):(IB h H).get? b=some o:=
 PySem.W.hideAll_get _ e λa=>by
  have q:(H b).isSome=true:=(List.mem_filter.mp a).2;rw[n]at q;simp at q
theorem ZEj{h:Heap}{o:Obj}(e:(IB h H).get? b=some o):h.get? b=some o/\H b=none:=by
 have a:h.get? b=some o:=PySem.W.of_hideAll (Qn h H) e;refine⟨a,?_⟩;cases q:H b with
 |none=>rfl
 |some x=>
  have c:b∈Qn h H:=List.mem_filter.mpr ⟨List.mem_range.mpr (B9 a),by simp[q]⟩;have z:(IB h H).get? b=none:=PySem.W.hideAll_none (Qn h H) c;rw[z]at e;cases e
structure Mod (K:ZGX) (mg:ZGZ) (Zf:Heap):Prop where
 Gj:K.In Zf
 glob:Zf.Ns mainGlobals mg
 blt:∃mb,Zf.Ns builtinsNs mb/\∀x:Str,x ≠"__name__" -> mb x=bootBuiltins x
 nolimit:Zf.NoLimit
structure Cx where
 prog:Program
 w:World
 K:ZGX
 mg:ZGZ
 base:Heap
 A:Around
 N:List Str
 s₀:Shared
 H₀:Hp
 env:Env
 outer:List Env
 stack:List Env
 ex:List Addr
 fn:Str->Bool
 calm:Bool
 pn:ZGY
 xe:Value->Shared->Prop
variable{X:Cx}
def Bc(l:List Env):List Addr:=l.filterMap (·.frame)
abbrev Cx.fs(X:Cx):List Addr:=Bc X.outer
def Ov(sc:Scope)(x:Str):Prop:=sc.names.lookup x=some .local∨sc.names.lookup x=some .cell∨sc.names.lookup x=some .free
def Loc(sc:Scope)(x:Str):Prop:=sc.names.lookup x=some .local∨sc.names.lookup x=some .cell
def Look(env:Env)(h:Heap)(m:ZGZ)(x:Str)(u:Value):Prop:=
 (env.kindOf x=some .local/\m x=some u)∨((env.kindOf x=some .cell∨env.kindOf x=some .free)/\∃c,env.cells.lookup x=some c/\h.IsCell c (some u))
structure Cx.Ok (X:Cx):Prop where
 mod:Mod X.K X.mg X.base
 kind:X.env.scope.kind=.function
 glob:X.env.globals=mainGlobals
 blt:X.env.builtins=builtinsNs
 above:X.s₀.heap.objs.size<=X.env.locals
 inj:∀x y c,X.env.cells.lookup x=some c->X.env.cells.lookup y=some c->x=y
 has:∀x,(X.env.kindOf x=some .cell∨X.env.kindOf x=some .free)->∃c,X.env.cells.lookup x=some c
 JG:∀x c,X.fn x=true->X.env.cells.lookup x=some c->X.s₀.heap.objs.size<=c
 hd:X.calm=true->X.A.handled=none
 frames:X.A.frames=some X.stack
 Ig:X.stack=X.outer∨(X.stack=X.env::X.outer/\X.env.frame=some X.env.locals)
 KJ:∀b∈X.ex,b≠X.env.locals/\∀x c,X.env.cells.lookup x=some c->c≠b
 bs:∀b o,X.base.get? b=some o->X.s₀.heap.get? b=some o/\X.H₀ b=none
 GO:X.base.objs.size<=X.s₀.heap.objs.size
 JF:∀b o,X.base.get? b=some o->b∉X.ex
 JH:∀b∈X.ex,b∉X.fs
 EW:X.s₀.heap.FunFrames X.base X.outer
 Hq:∀b∈X.fs,X.H₀ b=none
structure Inv (X:Cx) (Ze:ZGY) (Z:List (Option V)) (H:Hp) (s:Shared):Prop where
 ok:X.Ok
 os:s.os=X.s₀.os
 bare:AllBare s.gens
 base:Un X.fs X.ex X.H₀ H X.s₀.heap s.heap
 loc:∃m,s.heap.Ns X.env.locals m/\∀(i:Nat)(x:Str)(v:V),X.N[i]?=some x->Z[i]?=some (some v)->Ov X.env.scope x->∃u,RelV v u/\Look X.env s.heap m x u
 cell:∀x c,X.env.cells.lookup x=some c->∃v,s.heap.IsCell c v
 free:H X.env.locals=none
 EL:∀x c,X.env.cells.lookup x=some c->H c=none
 pin:∀p∈X.pn++Ze,s.heap.get? p.1=some p.2/\H p.1=none/\p.1≠X.env.locals/\p.1∉X.fs/\∀v,p.2.data≠.cell v
 AW:CD X.prog X.w H s.heap
 len:Z.length=X.N.length
section
variable{Z:List (Option V)}
theorem Cx.Ok.o6(ok:X.Ok){o:Obj}(e:X.base.get? b=some o):b∉X.fs:=λa=>by
 have:=(ok.EW.mem a).1;rw[e]at this;cases this
theorem Inv.bs(I:Inv X Ze Z H s):∀b o,X.base.get? b=some o->s.heap.get? b=some o/\H b=none:=λb o e=>
 ⟨I.base.keep b o (I.ok.bs b o e).1 (I.ok.bs b o e).2 (I.ok.o6 e) (I.ok.JF b o e),I.base.free b o (I.ok.bs b o e).1 (I.ok.bs b o e).2 (I.ok.JF b o e)⟩
theorem Inv.bk(I:Inv X Ze Z H s):∀b o,X.base.get? b=some o->s.heap.get? b=some o:=λb o e=>(I.bs b o e).1
theorem Inv.mod(I:Inv X Ze Z H s):Mod X.K X.mg X.base:=I.ok.mod
theorem Inv.CH(I:Inv X Ze Z H s):X.K.In s.heap:=I.ok.mod.Gj.keeps I.bk
theorem Inv.lt(I:Inv X Ze Z H s):X.env.locals<s.heap.objs.size:=let ⟨_,hn,_⟩:=I.loc;hn.lt
theorem Inv.sz(I:Inv X Ze Z H s):X.s₀.heap.objs.size<=s.heap.objs.size:=Bz I.ok.above (Oc I.lt)
theorem Inv.pD(I:Inv X Ze Z H s)(h:s.heap.objs.size<=a):a∉X.fs:=λb=>by
 obtain⟨_,o,ho,_⟩:=I.ok.EW.mem b;exact absurd (DD (B9 ho) (Bz I.sz h)) (Mi _)
theorem Inv.Ko(I:Inv X Ze Z H s):∀x c,X.env.cells.lookup x=some c->c≠X.env.locals:=λx c e z=>by
 obtain⟨v,o,ho,hd⟩:=I.cell x c e;obtain⟨m,⟨o',es,ep,Cr,CT,_⟩,_⟩:=I.loc;rw[z,Cr]at ho;cases ho;rw[CT]at hd;cases hd
theorem Inv.EW(I:Inv X Ze Z H s):s.heap.FunFrames X.base X.outer:=by
 have all:∀(l:List Env),(∀b∈Bc l,b∈X.fs)->X.s₀.heap.FunFrames X.base l->s.heap.FunFrames X.base l:=by
  intro l
  induction l with
  |nil=>intro _ _;trivial
  |cons env r g=>
   intro f i;obtain⟨j,⟨L,o,a,hn,ho,hd⟩,h⟩:=i;have d:L∈X.fs:=f L (by unfold Bc;rw[S9,a];exact BZ);obtain⟨sl,e⟩:=I.base.slot L o ho (I.ok.Hq L d) d λz=>I.ok.JH L z d;exact⟨j,⟨L,_,a,hn,e,hd⟩,g (λb c=>f b (by unfold Bc;rw[S9,a];exact C5 _ c)) h⟩
 exact all X.outer (λ_ c=>c) I.ok.EW
theorem Inv.stack(I:Inv X Ze Z H s):s.heap.FunFrames X.base X.stack:=by
 rcases I.ok.Ig with e|⟨e,hf⟩
 .rw[e];exact I.EW
 .rw[e];obtain⟨m,hn,_⟩:=I.loc;refine .cons (by rw[I.ok.kind];decide) hf hn ?_ I.EW;exact OZ (Bz I.ok.GO I.ok.above)
theorem Inv.OO(I:Inv X Ze Z H s):∀b∈Bc X.stack,b∈X.env.locals::X.fs:=λb a=>by
 rcases I.ok.Ig with e|⟨e,hf⟩
 .rw[e]at a;exact C5 _ a
 .rw[e]at a;unfold Bc at a;rw[S9,hf]at a;exact a
theorem Inv.Q5(I:Inv X Ze Z H s):∀b∈Bc X.stack,H b=none:=λb a=>by
 rcases List.mem_cons.mp (I.OO b a)with e|a
 .rw[e];exact I.free
 .obtain⟨_,o,ho,_⟩:=I.ok.EW.mem a;exact I.base.free b o ho (I.ok.Hq b a) λz=>I.ok.JH b z a
theorem Inv.step(I:Inv X Ze Z H s)
  (HX:∀b∈ch,(b∈X.ex∨X.s₀.heap.objs.size<=b)/\b≠X.env.locals/\(∀x c,X.env.cells.lookup x=some c->c≠b)/\∀p∈X.pn++Ze,p.1≠b)
  (keep:∀b o,b≠X.env.locals->b∉X.fs->b∉ch->s.heap.get? b=some o->H b=none->h'.get? b=some o)
  (slot:∀b o,b≠X.env.locals->b∈X.fs->b∉ch->s.heap.get? b=some o->H b=none->∃sl,h'.get? b=some { o with slots:=sl }) (free:∀b o,b∉ch->s.heap.get? b=some o->H b=none->H' b=none)
  (there:∀b o,b∉ch->s.heap.get? b=some o->∃o',h'.get? b=some o')
  (Gy:∀b xs,H b=some (.tup xs)->H' b=some (.tup xs)) (GB:∀b o u,H b=some (.Ec o u)->H' b=some (.Ec o u)) (Gn:∀b ps,H b=some (.JO ps)->∃more,H' b=some (.JO (ps++more)))
  (ns:∀m,s.heap.Ns X.env.locals m->h'.Ns X.env.locals m) (AW:CD X.prog X.w H' h') (hg:AllBare g') :
  Inv X Ze Z H' { s with heap:=h',gens:=g',drawn:=d',toks:=t' }:=by
 have D:∀b o,X.s₀.heap.get? b=some o->b≠X.env.locals:=λb o e=>Bn (DD (B9 e) I.ok.above);have t:∀b o,X.s₀.heap.get? b=some o->b∉X.ex->b∉ch:=λb o e hx g=>by
  rcases(HX b g).1 with z|z
  .exact hx z
  .exact absurd (DD (B9 e) z) (Mi _)
 have a:∀x c,X.env.cells.lookup x=some c->∀v,s.heap.IsCell c v->h'.IsCell c v:=λx c e v AM=>by
  obtain⟨o,ho,hd⟩:=AM;have j:c∉ch:=λz=>(HX c z).2.2.1 x c e rfl
  by_cases C:c∈X.fs
  .obtain⟨sl,q⟩:=slot c o (I.Ko x c e) C j ho (I.EL x c e);exact⟨_,q,hd⟩
  .exact⟨o,keep c o (I.Ko x c e) C j ho (I.EL x c e),hd⟩
 refine⟨I.ok,I.os,hg,⟨λb o e n g hx=>?_,λb o e n g hx=>?_,λb o e n hx=>?_,λb o e hx=>?_,λb xs e=>Gy b xs (I.base.Gy b xs e),λb o xs e=>GB b o xs (I.base.GB b o xs e),λb ps e=>?_⟩,?_,λx c e=>?_,?_,λx c e=>?_,λp B=>?_,AW,I.len⟩
 .exact keep b o (D b o e) g (t b o e hx) (I.base.keep b o e n g hx) (I.base.free b o e n hx)
 .obtain⟨sl,f⟩:=I.base.slot b o e n g hx;obtain⟨y,h⟩:=slot b _ (D b o e) g (t b o e hx) f (I.base.free b o e n hx);exact⟨y,h⟩
 .obtain⟨o',f⟩:=I.base.there b o e hx;exact free b o' (t b o e hx) f (I.base.free b o e n hx)
 .obtain⟨o',f⟩:=I.base.there b o e hx;exact there b o' (t b o e hx) f
 .obtain⟨F,f⟩:=I.base.Gn b ps e;obtain⟨E,h⟩:=Gn b _ f;exact⟨F++E,by rw[h,Array.append_assoc]⟩
 .obtain⟨m,hn,G⟩:=I.loc;refine⟨m,ns m hn,λi x v f h J=>?_⟩;obtain⟨u,r,l⟩:=G i x v f h J;refine⟨u,r,?_⟩;rcases l with l|⟨k,c,e,z⟩
  .exact .inl l
  .exact .inr ⟨k,c,e,a x c e _ z⟩
 .obtain⟨v,z⟩:=I.cell x c e;exact⟨v,a x c e v z⟩
 .obtain⟨m,⟨o,_,_,ho,_⟩,_⟩:=I.loc;exact free _ o (λz=>(HX _ z).2.1 rfl) ho I.free
 .obtain⟨v,o,ho,hd⟩:=I.cell x c e;exact free c o (λz=>(HX c z).2.2.1 x c e rfl) ho (I.EL x c e)
 .obtain⟨e,n,ne,A,d⟩:=I.pin p B;have j:p.1∉ch:=λz=>(HX p.1 z).2.2.2 p B rfl;exact⟨keep p.1 p.2 ne A j e n,free p.1 p.2 j e n,ne,A,d⟩
theorem Inv.un(I:Inv X Ze Z H s)(u:Un X.fs [] H H' s.heap h')(AW:CD X.prog X.w H' h'):Inv X Ze Z H' { s with heap:=h',toks:=t' }:=by
 obtain⟨m,⟨o,es,ep,ho,r⟩,_⟩:=id I.loc;obtain⟨sl,f⟩:=u.any ho I.free (by simp);exact I.step (g':=s.gens) (d':=s.drawn) (ch:=[]) (λ_ z=>nomatch z) (λb o _ a _ e n=>u.keep b o e n a (by simp)) (λb o _ a _ e n=>u.slot b o e n a (by simp)) (λb o _ e n=>u.free b o e n (by simp)) (λb o _ e=>u.there b o e (by simp)) u.Gy u.GB u.Gn (λg d=>by
  obtain⟨o',Bs,Ip,Cr,c⟩:=d;rw[ho]at Cr;cases Cr;exact⟨_,Bs,Ip,f,c⟩) AW I.bare
theorem Inv.call(I:Inv X Ze Z H s)(u:Un (Bc X.stack) ch H H' s.heap h')(AW:CD X.prog X.w H' h')(h:AllBare g')
  (HX:∀b∈ch,(b∈X.ex∨X.s₀.heap.objs.size<=b)/\b≠X.env.locals/\(∀x c,X.env.cells.lookup x=some c->c≠b)/\∀p∈X.pn++Ze,p.1≠b) :
  Inv X Ze Z H' { s with heap:=h',gens:=g',drawn:=d',toks:=t' }:=by
 obtain⟨m,⟨o,es,ep,ho,r⟩,_⟩:=id I.loc;obtain⟨sl,d⟩:=u.any ho I.free λz=>(HX _ z).2.1 rfl;exact I.step (ch:=ch) HX (λb o d i a e n=>u.keep b o e n (λz=>(List.mem_cons.mp (I.OO b z)).elim d i) a) (λb o _ _ a e n=>u.any e n a) (λb o a e n=>u.free b o e n a) (λb o a e=>u.there b o e a) u.Gy u.GB u.Gn (λj g=>by
  obtain⟨o',Bs,Ip,Cr,f⟩:=g;rw[ho]at Cr;cases Cr;exact⟨_,Bs,Ip,d,f⟩) AW h
theorem Inv.turned(I:Inv X Ze Z H s)(k:∀b o,b≠it->s.heap.get? b=some o->h'.get? b=some o)(hn:H it=none)(d:it≠X.env.locals)
  (h1:it∈X.ex∨X.s₀.heap.objs.size<=it) (h2:∀x c,X.env.cells.lookup x=some c->c≠it) (i:∀p∈X.pn++Ze,p.1≠it):Inv X Ze Z H { s with heap:=h',toks:=t' }:=by
 have f:∀b u,H b=some u->b≠it:=λb u e z=>by rw[z,hn]at e;cases e
 refine I.step (g':=s.gens) (d':=s.drawn) (ch:=[it]) (λb h=>?_) (λb o _ _ a e _=>k b o (λz=>a (by simp[z])) e) (λb o _ _ a e _=>⟨o.slots,k b o (λz=>a (by simp[z])) e⟩) (λ_ _ _ _ n=>n)
  (λb o a e=>⟨o,k b o (λz=>a (by simp[z])) e⟩) (λ_ _ e=>e) (λ_ _ _ e=>e) (λb ps e=>⟨#[],by rw[e];simp⟩) (λm g=>?_) (λb u e=>?_) I.bare
 .have e:b=it:=by simpa using h
  subst e;exact⟨h1,d,h2,i⟩
 .obtain⟨o,es,ep,ho,r⟩:=g;exact⟨o,es,ep,k _ o (BP d) ho,r⟩
 .refine(I.AW b u e).Jb (λc v a q=>k c v ?_ q) (λ_ q=>q) λ_ _ q=>q;rcases a with z|z
  .rw[z];exact f b u e
  .exact f c _ z
theorem Inv.tok(I:Inv X Ze Z H s)(t:Nat):Inv X Ze Z H { s with toks:=t }:=I.un (h':=s.heap) (t':=t) Un.refl I.AW
theorem Inv.kept(I:Inv X Ze Z H s)(k:∀b u,s.heap.get? b=some u->h'.get? b=some u):Inv X Ze Z H { s with heap:=h',toks:=t' }:=I.un (Un.kept k) (I.AW.kept k)
theorem Inv.laid(I:Inv X Ze Z H s)(k:∀b u,s.heap.get? b=some u->h'.get? b=some u)(d:s.heap.objs.size<=a)(c:CO X.prog X.w (upd H a o) h' a o):
  Inv X Ze Z (upd H a o) { s with heap:=h',toks:=t' }:=I.un (Un.laid k d (I.AW.fresh d)) (I.AW.laid k d c)
theorem Inv.write{x e:Addr}(I:Inv X Ze Z H s)(c:Nu (H x))(d:e=x∨H e=some (.own x))(k:∀b u,b≠e->s.heap.get? b=some u->h'.get? b=some u)(Lo:∃u,h'.get? e=some u)
  (a:CO X.prog X.w (upd H x o) h' x o):Inv X Ze Z (upd H x o) { s with heap:=h',toks:=t' }:=I.un (Un.write c d k Lo) (I.AW.write c d k Lo a)
theorem Inv.b4(I:Inv X Ze Z H s)(h:∀p∈eW,s.heap.get? p.1=some p.2/\H p.1=none/\p.1≠X.env.locals/\p.1∉X.fs/\∀v,p.2.data≠.cell v):Inv X eW Z H s:=
 ⟨I.ok,I.os,I.bare,I.base,I.loc,I.cell,I.free,I.EL,λp a=>(List.mem_append.mp a).elim (λz=>I.pin p (HF _ z)) (h p),I.AW,I.len⟩
theorem eJ(c:N.Nodup)(a:N[i]?=some x)(b:N[j]?=some x):i=j:=by
 obtain⟨h1,e⟩:=List.getElem?_eq_some_iff.mp a;obtain⟨h2,d⟩:=List.getElem?_eq_some_iff.mp b;exact(kH c).mp (e.trans d.symm)
theorem gN{Q:Unit->Shared->Prop}(I:Inv X Ze Z H s)(σ:X.N.Nodup)(hi:X.N[i]?=some x)(hx:Loc X.env.scope x)(r:RelV v u)
  (h:∀s',Inv X Ze (Z.set i (some v)) H s'->(∃a,Heap.SameBut a s.heap s'.heap/\(a=X.env.locals∨X.env.cells.lookup x=some a))->Q () s') (hf:X.fn x=true∨X.env.scope.names.lookup x=some .local:=by first|exact .inl rfl|exact .inr rfl|assumption):wpAny M A (storeName X.env x u) Q E s:=by
 obtain⟨m,hn,Y⟩:=id I.loc;have T:(X.env.scope.kind == .class || (X.env.scope.kind == .module && X.env.locals != X.env.globals))=false:=by rw[I.ok.kind];rfl
 have hiσ:i<Z.length:=by rw[I.len];exact(List.getElem?_eq_some_iff.mp hi).1
 have Ko:=I.Ko;have g:∀{a:Addr}{h':Heap},(∃o,s.heap.get? a=some o/\H a=none)->Heap.SameBut a s.heap h'->CD X.prog X.w H h':=λ{a h'}ha f b ob e=>by
  obtain⟨_,_,W⟩:=ha;refine(I.AW b ob e).Jb (λc F t q=>(f.2 c ?_).trans q) (λ_ q=>q) λ_ _ q=>q;rintro rfl;rcases t with rfl|t
  .rw[W]at e;cases e
  .rw[W]at t;cases t
 rcases hx with hk|hk
 .refine wpAny_storeName_local hk hn (λh' R f=>?_) T;obtain⟨oL,_,_,O7,_⟩:=id hn;refine h _ ⟨I.ok,I.os,I.bare,⟨λb o e n D hx=>?_,λb o e n D hx=>?_,I.base.free,λb o e hx=>?_,I.base.Gy,I.base.GB,I.base.Gn⟩,⟨_,R,λj y J l B S=>?_⟩,λy c e=>?_,I.free,I.EL,λp P=>?_,g ⟨oL,O7,I.free⟩ f,by simpa using I.len⟩ ⟨_,f,.inl rfl⟩
  .exact(f.2 b (Bn (DD (B9 e) I.ok.above))).trans (I.base.keep b o e n D hx)
  .obtain⟨sl,l⟩:=I.base.slot b o e n D hx;exact⟨sl,(f.2 b (Bn (DD (B9 e) I.ok.above))).trans l⟩
  .obtain⟨o',l⟩:=I.base.there b o e hx;exact⟨o',(f.2 b (Bn (DD (B9 e) I.ok.above))).trans l⟩
  .by_cases C:j=i
   .subst C;rw[hi]at l;cases l;rw[Fs hiσ]at B;cases B;exact⟨u,r,.inl ⟨hk,by simp⟩⟩
   .rw[Fq (BP C)]at B;obtain⟨K,L,q⟩:=Y j y J l B S;refine⟨K,L,?_⟩;rcases q with⟨k,e⟩|⟨k,c,e,z⟩
    .refine .inl ⟨k,?_⟩;have:y≠x:=λe=>C (eJ σ l (e▸hi));simp[this,e]
    .exact .inr ⟨k,c,e,z.sameBut f (Ko y c e)⟩
  .obtain⟨F,z⟩:=I.cell y c e;exact⟨F,z.sameBut f (Ko y c e)⟩
  .obtain⟨e,n,ne,O,d⟩:=I.pin p P;exact⟨(f.2 p.1 ne).trans e,n,ne,O,d⟩
 .have U:X.fn x=true:=by
   rcases hf with z|z
   .exact z
   .rw[z]at hk;cases hk
  obtain⟨c,t⟩:=I.ok.has x (.inl hk);obtain⟨F,z⟩:=I.cell x c t;refine wpAny_storeName_cell I.ok.kind hk t z (λh' Jz f=>?_);obtain⟨V,PZ,vT⟩:=id z;refine h { s with heap:=h' } ⟨I.ok,I.os,I.bare,⟨λb o e n D hx=>?_,λb o e n D hx=>?_,I.base.free,λb o e hx=>?_,I.base.Gy,I.base.GB,I.base.Gn⟩,⟨m,hn.sameBut f (BP (Ko x c t)),λj y J l B S=>?_⟩,λy G e=>?_,I.free,I.EL,λp P=>?_,g ⟨V,PZ,I.EL x c t⟩ f,by simpa using I.len⟩ ⟨c,f,.inr t⟩
  .exact(f.2 b (Bn (DD (B9 e) (I.ok.JG x c U t)))).trans (I.base.keep b o e n D hx)
  .obtain⟨sl,l⟩:=I.base.slot b o e n D hx;exact⟨sl,(f.2 b (Bn (DD (B9 e) (I.ok.JG x c U t)))).trans l⟩
  .obtain⟨o',l⟩:=I.base.there b o e hx;exact⟨o',(f.2 b (Bn (DD (B9 e) (I.ok.JG x c U t)))).trans l⟩
  .by_cases C:j=i
   .subst C;rw[hi]at l;cases l;rw[Fs hiσ]at B;cases B;exact⟨u,r,.inr ⟨.inl hk,c,t,Jz⟩⟩
   .rw[Fq (BP C)]at B;obtain⟨K,L,q⟩:=Y j y J l B S;refine⟨K,L,?_⟩;rcases q with q|⟨k,G,e,z'⟩
    .exact .inl q
    .refine .inr ⟨k,G,e,z'.sameBut f ?_⟩;rintro rfl;exact C (eJ σ l (I.ok.inj _ _ _ e t▸hi))
  .by_cases Ox:G=c
   .subst Ox;exact⟨_,Jz⟩
   .obtain⟨w2,z2⟩:=I.cell y G e;exact⟨w2,z2.sameBut f Ox⟩
  .obtain⟨e,n,ne,O,d⟩:=I.pin p P;refine⟨(f.2 p.1 ?_).trans e,n,ne,O,d⟩;intro q;rw[q,PZ]at e;have q':V=p.2:=Be e;exact d F (by rw[<- q'];exact vT)
theorem gK{Q:Unit->Shared->Prop}(I:Inv X Ze Z H s)(b:X.N.Nodup)(hi:X.N[i]?=some x)(hx:Loc X.env.scope x)(r:RelV v u)
  (h:∀s',Inv X Ze (Z.set i (some v)) H s'->Q () s') (a:X.fn x=true∨X.env.scope.names.lookup x=some .local:=by first|exact .inl rfl|exact .inr rfl|assumption):wpAny M A (storeName X.env x u) Q E s:=
 gN I b hi hx r (λs' I' _=>h s' I') a
theorem Inv.ZB6(I:Inv X Ze Z H s)(ho:s'.os=s.os)(u:Un (Bc X.stack) ch H H' s.heap s'.heap)(AW:CD X.prog X.w H' s'.heap)(a:AllBare s'.gens)
  (HX:∀b∈ch,(b∈X.ex∨X.s₀.heap.objs.size<=b)/\b≠X.env.locals/\(∀x c,X.env.cells.lookup x=some c->c≠b)/\∀p∈X.pn++Ze,p.1≠b):Inv X Ze Z H' s':=by
 obtain⟨h',g',d',t',o'⟩:=s';have e:o'=s.os:=ho;subst e;exact I.call (g':=g') (t':=t') (d':=d') u AW a HX
end
abbrev XK:=Value->Option Addr->Hp->Prop
abbrev St:=List (Option V)
variable{Z:St}
abbrev VK:=V->Hp->Prop
abbrev TE:=St->Hp->VK->Prop
variable{ta tb tc te:TE}
abbrev TT:=St->Hp->(Bool->Hp->Prop)->Prop
abbrev TA:=St->Hp->(List V->Hp->Prop)->Prop
structure Ends where
 nx:St->Hp->Prop
 rt:VK
 bk:St->Hp->Prop:=λ_ _=>False
 ct:St->Hp->Prop:=λ_ _=>False
abbrev TS:=Ends->St->Hp->Prop
def EP(X:Cx)(Ze:ZGY)(Z:St)(Q:VK)(u:Value)(s':Shared):Prop:=∃v H',Inv X Ze Z H' s'/\RelV v u/\Q v H'
def TP(X:Cx)(Ze:ZGY)(Z:St)(Q:Bool->Hp->Prop)(b:Bool)(s':Shared):Prop:=∃H',Inv X Ze Z H' s'/\Q b H'
def AP(X:Cx)(Ze:ZGY)(Z:St)(Q:List V->Hp->Prop)(us:List Value)(s':Shared):Prop:=∃vs H',Inv X Ze Z H' s'/\Vals vs us/\Q vs H'
def SP(X:Cx)(Ze:ZGY)(D:Ends)(f:Flow)(s':Shared):Prop:=
 match f with
 | .next=>∃ σ' H',Inv X Ze σ' H' s'/\D.nx σ' H'
 | .brk=>∃ σ' H',Inv X Ze σ' H' s'/\D.bk σ' H'
 | .cont=>∃ σ' H',Inv X Ze σ' H' s'/\D.ct σ' H'
 | .ret u=>∃v σ' H',Inv X Ze σ' H' s'/\RelV v u/\D.rt v H'
def PE(X:Cx)(e:Expr)(t:TE):Prop:=
 ∀(Ze:ZGY)(s:Shared)(Z:St)(H:Hp)(Q:VK),Inv X Ze Z H s->t Z H Q->wpAny (model X.prog X.w) X.A (eval e X.env) (EP X Ze Z Q) X.xe s
def PT(X:Cx)(e:Expr)(t:TT):Prop:=
 ∀(Ze:ZGY)(s:Shared)(Z:St)(H:Hp)(Q:Bool->Hp->Prop),Inv X Ze Z H s->t Z H Q->wpAny (model X.prog X.w) X.A (isTrue e X.env (eval e X.env)) (TP X Ze Z Q) X.xe s
def PW(X:Cx)(e:Expr)(t:TT):Prop:=
 ∀(a:Sem Value)(Ze:ZGY)(s:Shared)(Z:St)(H:Hp)(Q:Bool->Hp->Prop),Inv X Ze Z H s->t Z H Q->wpAny (model X.prog X.w) X.A (isTrue e X.env a) (TP X Ze Z Q) X.xe s
theorem PW.pt{t:TT}(h:PW X e t):PT X e t:=h _
def PA(X:Cx)(es:List Expr)(t:TA):Prop:=
 ∀(pos:Pos)(Ze:ZGY)(s:Shared)(Z:St)(H:Hp)(Q:List V->Hp->Prop),Inv X Ze Z H s->t Z H Q->wpAny (model X.prog X.w) X.A (spliced (backTo pos (starEach es X.env))) (AP X Ze Z Q) X.xe s
def PS(X:Cx)(st:Stmt)(t:TS):Prop:=
 ∀(Ze:ZGY)(s:Shared)(Z:St)(H:Hp)(D:Ends),Inv X Ze Z H s->t D Z H->wpAny (model X.prog X.w) X.A (exec st X.env) (SP X Ze D) X.xe s
def DQ(X:Cx)(st:List Stmt)(t:TS):Prop:=
 ∀(Ze:ZGY)(s:Shared)(Z:St)(H:Hp)(D:Ends),Inv X Ze Z H s->t D Z H->wpAny (model X.prog X.w) X.A (execs st X.env) (SP X Ze D) X.xe s
theorem Aj{t:Sem α}{Q Q':α->Shared->Prop}(h:wpAny M A t Q E s)(b:∀a s,Q a s->Q' a s):wpAny M A t Q' E s:=rD h b λ_ _ x=>x
section
def Cp(i:Nat):TE:=λZ H Q=>∃v,Z[i]?=some (some v)/\Q v H
def tC(v:V):TE:=λ_ H Q=>Q v H
theorem cW(k:X.N[i]?=some x)(f:Ov X.env.scope x)(hd:(x == ("__debug__":Str))=false:=by decide)(EX:(x == ("__classdict__":Str))=false:=by decide):PE X (.Name x pos) (Cp i):=by
 intro Ze s Z H Q I h;obtain⟨v,e,h⟩:=h;obtain⟨m,hn,j⟩:=I.loc;obtain⟨u,r,l⟩:=j i x v k e f;have fin:EP X Ze Z Q u s:=⟨v,H,I,r,h⟩;rcases l with⟨a,g⟩|⟨a,c,d,b⟩
 .exact wpAny_Name (wpAny_loadName_local I.ok.kind a hn g fin) hd
 .rcases a with a|a
  .exact wpAny_Name (wpAny_loadName_cell I.ok.kind a d b fin) hd
  .exact wpAny_Name (wpAny_loadName_free I.ok.kind a d b fin EX) hd
def Gl(X:Cx)(x:Str):Prop:=X.env.kindOf x=some .globalImplicit
theorem K3(I:Inv X Ze Z H s)(b:Gl X x)(a:X.mg x=some u)(h:Q u s)
  (hd:(x == ("__debug__":Str))=false:=by decide):wpAny (model X.prog X.w) X.A (eval (.Name x pos) X.env) Q E s:=
 ZEw I.ok.kind b (Calls.loadGlobal_global (by rw[I.ok.glob];exact I.mod.glob.keeps I.bk) a h) hd
theorem Ln(I:Inv X Ze Z H s)(c:Gl X x)(b:X.mg x=none)(a:bootBuiltins x=some u)(h:Q u s)
  (hn:x ≠"__name__" := by decide) (hd:(x == ("__debug__":Str))=false:=by decide):wpAny (model X.prog X.w) X.A (eval (.Name x pos) X.env) Q E s:=by
 obtain⟨d,h1,h2⟩:=I.mod.blt;exact ZEw I.ok.kind c (Calls.loadGlobal_builtin (by rw[I.ok.glob];exact I.mod.glob.keeps I.bk) b (by rw[I.ok.blt];exact h1.keeps I.bk) ((h2 x hn).trans a) h) hd
theorem wy(c:Gl X x)(b:X.mg x=none)(a:bootBuiltins x=some u)(r:RelV v u)(hn:x ≠"__name__" := by decide)(hd:(x == ("__debug__":Str))=false:=by decide):PE X (.Name x pos) (tC v):=
 λ_ _ _ H _ I h=>Ln I c b a ⟨v,H,I,r,h⟩ hn hd
variable{a b:Expr}
def tB(t:TE):TT:=λZ H Q=>t Z H λx H1=>∃c,x=.bl c/\Q c H1
variable{tA IP:TT}
def Ya(t u:TT):TT:=λZ H Q=>t Z H λc H1=>if c=true then u Z H1 Q else Q false H1
def Sm(t u:TT):TT:=λZ H Q=>t Z H λc H1=>if c=true then Q true H1 else u Z H1 Q
def WR(t:TT):TT:=λZ H Q=>t Z H λc H1=>Q (!c) H1
def VS(ta tb:TE):TE:=λZ H Q=>ta Z H λx H1=>∃c,x=.bl c/\if c=true then tb Z H1 Q else Q (.bl false) H1
def WD(ta tb:TE):TE:=λZ H Q=>ta Z H λx H1=>∃c,x=.bl c/\if c=true then Q (.bl true) H1 else tb Z H1 Q
def X0(ta:TE):TE:=λZ H Q=>ta Z H λx H1=>∃c,x=.bl c/\Q (.bl (!c)) H1
end
def AO(K:ZGX)(H:Hp)(a:Addr)(xs:List V):Prop:=
 Rd H a (.lst xs)∨
  ∃(o:Obj)(A5:Array Value)(n:Nat),K.lookup a=some o/\o.cls=.type "list" /\ o.dict=none/\o.data=.seq A5 n/\A5.size<=sizeLine/\Vals xs A5.toList
def AN(K:ZGX)(H:Hp)(a:Addr)(xs:List V):Prop:=
 Rd H a (.tup xs)∨
  ∃(o:Obj)(A5:Array Value)(n:Nat),K.lookup a=some o/\o.cls=.type "tuple" /\ o.data=.seq A5 n/\A5.size<=sizeLine/\Vals xs A5.toList
noncomputable def oQ:Value->Option V
 | .none=>some .AG
 | .bool b=>some (.bl b)
 | .int i _=>some (.int i)
 | .str x _=>some (.str x)
 | .bytes b _=>some (.Gd b)
 | .float b _=>some (.Ic b)
 | .ref a=>some (.ref a)
 | .type n=>some (.ty n)
 |_=>none
theorem RelV.abs{x:V}(r:RelV x u):oQ u=some x:=by
 cases x with
 |AG=>cases r;rfl
 |bl _=>cases r;rfl
 |int _=>obtain⟨t,rfl⟩:=r;rfl
 |str _=>obtain⟨t,rfl⟩:=r;rfl
 |Gd _=>obtain⟨t,rfl⟩:=r;rfl
 |Ic _=>obtain⟨t,rfl⟩:=r;rfl
 |ref _=>cases r;rfl
 |ty _=>cases r;rfl
theorem RelV.inj{x y:V}{u:Value}(r:RelV x u)(q:RelV y u):x=y:=Be (r.abs.symm.trans q.abs)
theorem Vals.inj:∀{xs ys:List V}{us:List Value},Vals xs us->Vals ys us->xs=ys
 |_,_,_,.nil,.nil=>rfl
 |_,_,_,.cons r t,.cons r' t'=>by rw[r.inj r',Vals.inj t t']
section
variable{ys:List V}
theorem AO.of{K:ZGX}(h:H a=some (.lst xs)):AO K H a xs:=.inl (.inl h)
theorem AN.of{K:ZGX}(h:H a=some (.tup xs)):AN K H a xs:=.inl (.inl h)
theorem Inv.list(I:Inv X Ze Z H s)(h:AO X.K H a xs):∃A5:List Value,Vals xs A5/\PlainL s.heap a A5.toArray/\xs.length<=sizeLine:=by
 rcases h with h|⟨o,A5,n,hk,hc,hd,hs,hz,r⟩
 .obtain⟨z,A5,n,r,e⟩:=h.ok I.AW;exact⟨A5,r,⟨_,n,e,rfl,rfl,rfl⟩,z⟩
 .refine⟨A5.toList,r,⟨o,n,I.CH a o hk,hc,hd,by simpa using hs⟩,?_⟩
  have e:=r.length;simp only[Dm]at e;omega
theorem Inv.tuple(I:Inv X Ze Z H s)(h:AN X.K H a xs):∃A5:List Value,Vals xs A5/\IsTup s.heap a A5.toArray/\xs.length<=sizeLine:=by
 rcases h with h|⟨o,A5,n,hk,hc,hs,hz,r⟩
 .obtain⟨z,A5,r,p⟩:=h.ok I.AW;exact⟨A5,r,p.1,z⟩
 .refine⟨A5.toList,r,⟨o,I.CH a o hk,hc,n,by simpa using hs⟩,?_⟩
  have e:=r.length;simp only[Dm]at e;omega
theorem Inv.ao(I:Inv X Ze Z H s)(h:AO X.K H a xs)(h':AO X.K H a ys):xs=ys:=by
 obtain⟨A5,r,⟨o,n,e,_,_,d⟩,_⟩:=I.list h;obtain⟨its',c,⟨o',f,b,_,_,d'⟩,_⟩:=I.list h';rw[e]at b;cases b;rw[d]at d';injection d' with d1 _
 have:A5=its':=by simpa using vF Array.toList d1
 subst this;exact r.inj c
theorem Inv.Mo(I:Inv X Ze Z H s)(h:AN X.K H a xs)(h':AN X.K H a ys):xs=ys:=by
 obtain⟨A5,r,⟨o,e,_,n,d⟩,_⟩:=I.tuple h;obtain⟨its',c,⟨o',b,_,f,d'⟩,_⟩:=I.tuple h';rw[e]at b;cases b;rw[d]at d';injection d' with d1 _
 have:A5=its':=by simpa using vF Array.toList d1
 subst this;exact r.inj c
end
noncomputable abbrev Cx.Hh(X:Cx)(E:Value->Shared->Prop):Cx:={ X with xe:=E }
noncomputable abbrev Cx.N6(X:Cx):Cx:=X.Hh λ_ _=>False
theorem Cx.Ok.Hh(ok:X.Ok)(E:Value->Shared->Prop):(X.Hh E).Ok:=
 ⟨ok.mod,ok.kind,ok.glob,ok.blt,ok.above,ok.inj,ok.has,ok.JG,ok.hd,ok.frames,ok.Ig,ok.KJ,ok.bs,ok.GO,ok.JF,ok.JH,ok.EW,ok.Hq⟩
theorem Cx.Ok.J9(ok:(X.Hh E).Ok):X.Ok:=
 ⟨ok.mod,ok.kind,ok.glob,ok.blt,ok.above,ok.inj,ok.has,ok.JG,ok.hd,ok.frames,ok.Ig,ok.KJ,ok.bs,ok.GO,ok.JF,ok.JH,ok.EW,ok.Hq⟩
section
theorem Inv.Hh(I:Inv X Ze Z H s)(E:Value->Shared->Prop):Inv (X.Hh E) Ze Z H s:=⟨I.ok.Hh E,I.os,I.bare,I.base,I.loc,I.cell,I.free,I.EL,I.pin,I.AW,I.len⟩
theorem Inv.J9(I:Inv (X.Hh E) Ze Z H s):Inv X Ze Z H s:=⟨I.ok.J9,I.os,I.bare,I.base,I.loc,I.cell,I.free,I.EL,I.pin,I.AW,I.len⟩
theorem SP.J9{D:Ends}{f:Flow}(h:SP (X.Hh E) Ze D f s'):SP X Ze D f s':=by
 cases f with
 |next=>obtain⟨σ',H',I,q⟩:=h;exact⟨σ',H',I.J9,q⟩
 |brk=>obtain⟨σ',H',I,q⟩:=h;exact⟨σ',H',I.J9,q⟩
 |cont=>obtain⟨σ',H',I,q⟩:=h;exact⟨σ',H',I.J9,q⟩
 |ret u=>obtain⟨v,σ',H',I,r,q⟩:=h;exact⟨v,σ',H',I.J9,r,q⟩
theorem DQ.N6{st:List Stmt}{t:TS}(h:DQ X.N6 st t):DQ X st t:=λZe s Z H D I hw=>
 rD (h Ze s Z H D (I.Hh _) hw) (λ_ _ q=>q.J9) λ_ _ z=>False.elim z
variable{st:Stmt}{rest:List Stmt}{t u:TS}
def Pb:TS:=λD Z H=>D.nx Z H
def Km(t u:TS):TS:=λD Z H=>t { D with nx:=u D } Z H
theorem NJ:DQ X [] Pb:=λ_ _ Z H _ I h=>ZAT ⟨Z,H,I,h⟩
theorem Ih(h1:PS X st t)(h2:DQ X rest u):DQ X (st::rest) (Km t u):=by
 intro Ze s Z H D I h;refine wpAny_execs_cons (Aj (h1 Ze s Z H { D with nx:=u D } I h) λf s1 q=>?_)
 cases f with
 |next=>
  obtain⟨σ',H',I',q⟩:=q;exact h2 Ze s1 σ' H' D I' q
 |ret v=>exact q
 |brk=>exact q
 |cont=>exact q
theorem qu(h1:PS X st t):DQ X [st] t:=by
 intro Ze s Z H D I h;refine wpAny_execs_cons (Aj (h1 Ze s Z H D I h) λf s1 q=>?_);cases f with
 |next=>exact ZAT q
 |ret v=>exact q
 |brk=>exact q
 |cont=>exact q
theorem Inv.quiet(I:Inv X Ze Z H s):interactive X.env=false:=by simp[interactive,I.ok.kind]
def Kq(te:TE):TS:=λD Z H=>te Z H λ_ H1=>D.nx Z H1
theorem NY(c:PE X e te)(b:swapsWith e none pos.line X.env=pure false:=by rfl):PS X (.Expr e pos) (Kq te):=by
 intro Ze s Z H D I h;exact wpAny_Expr_any (Aj (c Ze s Z H _ I h) λv s1 AM=>by obtain⟨x,H1,I1,d,a⟩:=AM;exact⟨Z,H1,I1,a⟩) I.quiet b
def M7(te:TE):TS:=λD Z H=>te Z H D.rt
def Vo(c:TT)(t u:TS):TS:=λD Z H=>c Z H λb H1=>if b=true then t D Z H1 else u D Z H1
def d8:TS:=λ_ _ _=>False
end
abbrev TG:=V->St->Hp->(St->Hp->Prop)->Prop
abbrev Hd:=List V->St->Hp->(St->Hp->Prop)->Prop
def PG(X:Cx)(a:Expr)(t:TG):Prop:=
 ∀(Ze:ZGY)(s:Shared)(Z:St)(H:Hp)(v:V)(u:Value)(Q:St->Hp->Prop),Inv X Ze Z H s->RelV v u->t v Z H Q->
  wpAny (model X.prog X.w) X.A (assign a X.env u) (λ_ s'=>∃ σ' H',Inv X Ze σ' H' s'/\Q σ' H') X.xe s
def NQ(X:Cx)(ts:List Expr)(t:Hd):Prop:=
 ∀(Ze:ZGY)(s:Shared)(Z:St)(H:Hp)(vs:List V)(us:List Value)(Q:St->Hp->Prop),Inv X Ze Z H s->Vals vs us->t vs Z H Q->
  wpAny (model X.prog X.w) X.A (assignInOrder ((assignEach ts X.env).map (·.2)) us) (λ_ s'=>∃ σ' H',Inv X Ze σ' H' s'/\Q σ' H') X.xe s
abbrev P7:=V->V->V->Hp->(Hp->Prop)->Prop
def Vl(X:Cx)(t:P7):Prop:=
 ∀(Ze:ZGY)(s:Shared)(Z:St)(H:Hp)(o i v:V)(a b u:Value)(Q:Hp->Prop),Inv X Ze Z H s->RelV o a->RelV i b->RelV v u->t o i v H Q->
  wpAny (model X.prog X.w) X.A (setItem a b u) (λ_ s'=>∃H',Inv X Ze Z H' s'/\Q H') X.xe s
def Dj(i:Nat):TG:=λv Z H Q=>Q (Z.set i (some v)) H
theorem jT(b:X.N.Nodup)(hi:X.N[i]?=some x)(hx:Loc X.env.scope x)(a:X.fn x=true∨X.env.scope.names.lookup x=some .local:=by first|exact .inl rfl|exact .inr rfl|assumption):PG X (.Name x pos) (Dj i):=by
 intro Ze s Z H v u Q I r h;exact wpAny_assign_Name (gK I b hi hx r (λs' I'=>⟨_,H,I',h⟩) a)
def U1:Hd:=λvs Z H Q=>vs=[]/\Q Z H
def Qb(t:TG)(u:Hd):Hd:=λvs Z H Q=>∃v r,vs=v::r/\t v Z H λσ' H'=>u r σ' H' Q
def Sn(K:ZGX)(n:Nat)(t:Hd):TG:=λv Z H Q=>∃a xs,v=.ref a/\AN K H a xs/\xs.length=n/\t xs Z H Q
def ZT(to ti:TE)(t:P7):TG:=λv Z H Q=>to Z H λo H1=>ti Z H1 λi H2=>t o i v H2 λH3=>Q Z H3
def Fd(te:TE)(g:TG):TS:=λD Z H=>te Z H λx H1=>g x Z H1 D.nx
theorem va{g:TG}(f:PE X e te)(d:PG X tg g)(c:swapsWithSole [tg] e pos.line X.env=pure false:=by rfl)(hw:swappedStores [tg] e X.env=pure none:=by rfl)
  (h1:(assignEach [tg] X.env).map (·.2)=[assign tg X.env]:=by rfl):PS X (.Assign [tg] e pos) (Fd te g):=by
 intro Ze s Z H D I h;refine wpAny_Assign_stores (Aj (f Ze s Z H _ I h) λv s1⟨x,H1,I1,a,b⟩=>?_) c hw;rw[h1];exact Aj (d Ze s1 Z H1 x v _ I1 a b) λ_ s2 q=>q
def iK(c:TT)(tb:TS):TS:=λD Z H=>∃W:Nat->St->Hp->Prop,(∃m,W m Z H)/\∀m Z H,W m Z H->
 c Z H λb H1=>if b=true then ∃N:St->Hp->Prop,(∀ σ' H',N σ' H'->∃a,a < m/\W a σ' H')/\tb { D with nx:=N,ct:=N,bk:=D.nx } Z H1 else D.nx Z H1
structure It where
 go:Nat->Hp->Prop
 Fh:Nat->Hp->V->Hp->Prop
 stop:Nat->Hp->Prop
def FH(X:Cx)(Ze:ZGY)(H:Hp)(b:Addr):Prop:=
 H b=none/\b≠X.env.locals/\b∉X.fs/\(b∈X.ex∨X.s₀.heap.objs.size<=b)/\(∀x c,X.env.cells.lookup x=some c->c≠b)/\∀p∈X.pn++Ze,p.1≠b
theorem Inv.Qj(I:Inv X Ze Z H s)(a:s.heap.objs.size<=b)(hn:H' b=none):FH X Ze H' b:=by
 refine⟨hn,Im (DD I.lt a),I.pD a,.inr (Bz I.sz a),λx c e z=>?_,λp d z=>?_⟩
 .obtain⟨v,q⟩:=I.cell x c e;exact absurd (DD q.lt (by rw[z];exact a)) (Mi _)
 .exact absurd (DD (B9 (I.pin p d).1) (by rw[z];exact a)) (Mi _)
structure Turn (P:Program) (w:World) (K:ZGX) (tg:Expr) (J:It) (fp:List Addr) (it:Addr) (tn:Nat->Heap->Prop):Prop where
 mem:it∈fp
 obj:∀i h,tn i h->∀b∈fp,∃o,h.get? b=some o/\∀v,o.data≠.cell v
 keep:∀i h h',tn i h->(∀b∈fp,∀o,h.get? b=some o->h'.get? b=some o)->tn i h'
 item:∀(X:Cx),X.prog=P->X.w=w->X.K=K->X.calm=true->∀(i:Nat)(Ze:ZGY)(s:Shared)(Z:St)(H:Hp)(E:Value->Shared->Prop),Inv X Ze Z H s->(∀b∈fp,FH X Ze H b)->tn i s.heap->J.go i H->
  wpAny (model P w) X.A (pyNext (.ref it)) (λr s1=>∃u,r=some u/\
   wpAny (model P w) X.A (letOwnedTupleGo tg (.ref it) u) (λ_ s2=>∃x H',Inv X Ze Z H' s2/\RelV x u/\J.Fh i H x H'/\tn (i+1) s2.heap/\∀b∈fp,H' b=none) E s1) E s
 done:∀(X:Cx),X.prog=P->X.w=w->X.K=K->X.calm=true->∀(i:Nat)(Ze:ZGY)(s:Shared)(Z:St)(H:Hp)(E:Value->Shared->Prop),Inv X Ze Z H s->(∀b∈fp,FH X Ze H b)->tn i s.heap->J.stop i H->
  wpAny (model P w) X.A (pyNext (.ref it)) (λr s1=>r=none/\Inv X Ze Z H s1) E s
 self:∀(A:Around)(i:Nat)(s:Shared)(Q:Value->Shared->Prop)(E:Value->Shared->Prop),tn i s.heap->Q (.ref it) s->wpAny (model P w) A (pyIter (.ref it)) Q E s
abbrev TI:=St->Hp->(It->Hp->Prop)->Prop
def bz(X:Cx)(Ze:ZGY)(Z:St)(tg:Expr)(R:It->Hp->Prop)(Po:Value)(s2:Shared):Prop:=
 ∃(it:Addr)(fp:List Addr)(tn:Nat->Heap->Prop)(J:It)(H':Hp),Po=.ref it/\Inv X Ze Z H' s2/\Turn X.prog X.w X.K tg J fp it tn/\tn 0 s2.heap/\(∀b∈fp,FH X Ze H' b)/\R J H'
def PI(X:Cx)(tg iter:Expr)(wi:TI):Prop:=
 ∀(Ze:ZGY)(s:Shared)(Z:St)(H:Hp)(R:It->Hp->Prop),Inv X Ze Z H s->wi Z H R->
  wpAny (model X.prog X.w) X.A (eval iter X.env) (λv s1=>wpAny (model X.prog X.w) X.A (pyIter v) (bz X Ze Z tg R) X.xe s1) X.xe s
theorem P4{o:Obj}{n:String}{vs:Array Value}{Q:Unit->Shared->Prop}(ho:s.heap.get? it=some o)(b:o.cls=.type n)(hd:o.data=.fields vs)
  (hn:["enumerate","zip","dict_itemiterator","dict_reverseitemiterator","odict_iterator","itertools.zip_longest","itertools.pairwise"].contains n=false) (a:Q () s):wpAny M A (letOwnedTupleGo tg (.ref it) u) Q E s:=by
 unfold letOwnedTupleGo;cases tg <;> first
  |exact mD a
  | (cases u <;> first
    |exact mD a
    | (
      refine ko (ZBI ho ?_);rw[b,hd];show wpAny M A (if(["enumerate","zip","dict_itemiterator","dict_reverseitemiterator","odict_iterator","itertools.zip_longest","itertools.pairwise"].contains n && vs[0]? == some (rawInt _))=true then _ else _) Q E s
      rw[mL (by intro h;rw[hn,Yk]at h;cases h)];exact mD a))
def qX(K:ZGX)(a:Addr):It:=
 ⟨λi H=>∃xs x,AO K H a xs/\xs[i]?=some x,λi H x H'=>H'=H/\∀xs,AO K H a xs->xs[i]?=some x,λi H=>∃xs,AO K H a xs/\xs.length<=i⟩
def xp(K:ZGX)(a:Addr):It:=
 ⟨λi H=>∃xs x,AN K H a xs/\xs[i]?=some x,λi H x H'=>H'=H/\∀xs,AN K H a xs->xs[i]?=some x,λi H=>∃xs,AN K H a xs/\xs.length<=i⟩
def M5(lo:Int)(n:Nat):It:=⟨λi _=>i<n,λi H x H'=>H'=H/\x=.int (lo+i),λi _=>n<=i⟩
theorem Mr{P:Program}{K:ZGX}(a it:Addr):Turn P w K tg (qX K a) [it] it (λi h=>h.IsListIter it a i) where
 mem:=by simp
 obj:=λi h st b f=>by
  have e:b=it:=by simpa using f
  subst e;obtain⟨o,e,c,d⟩:=st;exact⟨o,e,λv z=>by rw[d]at z;cases z⟩
 keep:=λi h h' st k=>st.at λo e=>k it (by simp) o e
 item:=by
  intro X n hw q A i Ze s Z H E I j st m;subst n hw q;obtain⟨xs,x,g,hx⟩:=m;obtain⟨A5,l,p,D⟩:=I.list g;obtain⟨u,G,C⟩:=l.get hx;obtain⟨f0,f1,J,y,t,r⟩:=j it (by simp);refine wpAny_pyNext_list_item st p.isList (x:=u) (by simpa using G) λh' Dr B=>?_
  have M:Inv X Ze Z H { s with heap:=h' }:=I.turned (t':=s.toks) (λb o f e=>(B.2 b f).trans e) f0 f1 y t r
  obtain⟨o,e,c,d⟩:=id Dr;exact⟨u,rfl,P4 (s:={ s with heap:=h' }) e c d (by decide) ⟨x,H,M,C,⟨rfl,λys F=>by rw[I.ao F g];exact hx⟩,Dr,λb f=>(j b f).1⟩⟩
 done:=by
  intro X n hw q A i Ze s Z H E I j st m;subst n hw q;obtain⟨xs,g,hx⟩:=m;obtain⟨A5,l,p,D⟩:=I.list g;obtain⟨f0,f1,J,y,t,r⟩:=j it (by simp);have N:=l.length;exact wpAny_pyNext_list_end (I.ok.hd A) st p.isList (by simp;omega) λh' L=>⟨rfl,I.turned (t':=s.toks) (λb o f e=>L b o f e) f0 f1 y t r⟩
 self:=λ_ _ _ _ _ st h=>wpAny_pyIter_listiter st h
theorem O5{P:Program}{K:ZGX}(a it:Addr):Turn P w K tg (xp K a) [it] it (λi h=>h.IsTupleIter it a i) where
 mem:=by simp
 obj:=λi h st b f=>by
  have e:b=it:=by simpa using f
  subst e;obtain⟨o,e,c,d⟩:=st;exact⟨o,e,λv z=>by rw[d]at z;cases z⟩
 keep:=λi h h' st k=>st.at λo e=>k it (by simp) o e
 item:=by
  intro X n hw q A i Ze s Z H E I j st m;subst n hw q;obtain⟨xs,x,g,hx⟩:=m;obtain⟨A5,l,p,D⟩:=I.tuple g;obtain⟨u,G,C⟩:=l.get hx;obtain⟨f0,f1,J,y,t,r⟩:=j it (by simp);refine wpAny_pyNext_tuple_item st (show s.heap.IsTuple a A5.toArray from p) (x:=u) (by simpa using G) λh' Dr B=>?_
  have M:Inv X Ze Z H { s with heap:=h' }:=I.turned (t':=s.toks) (λb o f e=>(B.2 b f).trans e) f0 f1 y t r
  obtain⟨o,e,c,d⟩:=id Dr;exact⟨u,rfl,P4 (s:={ s with heap:=h' }) e c d (by decide) ⟨x,H,M,C,⟨rfl,λys F=>by rw[I.Mo F g];exact hx⟩,Dr,λb f=>(j b f).1⟩⟩
 done:=by
  intro X n hw q A i Ze s Z H E I j st m;subst n hw q;obtain⟨xs,g,hx⟩:=m;obtain⟨A5,l,p,D⟩:=I.tuple g;obtain⟨f0,f1,J,y,t,r⟩:=j it (by simp);have N:=l.length;exact wpAny_pyNext_tuple_end (I.ok.hd A) st (show s.heap.IsTuple a A5.toArray from p) (by simp;omega) λh' L=>⟨rfl,I.turned (t':=s.toks) (λb o f e=>L b o f e) f0 f1 y t r⟩
 self:=λ_ _ _ _ _ st h=>wpAny_pyIter_tupleiter st h
theorem ZCT{P:Program}{K:ZGX}(it:Addr)(lo:Int)(n:Nat):Turn P w K tg (M5 lo n) [it] it (λi h=>IsRangeIter h it (lo+(i:Nat) * 1) ((n:Int) - (i:Nat)) 1) where
 mem:=by simp
 obj:=λi h st b a=>by
  have e:b=it:=by simpa using a
  subst e;exact⟨_,st,λv z=>by
   have q:Data.fields _=Data.cell v:=z;cases q⟩
 keep:=λi h h' st k=>k it (by simp) _ st
 item:=by
  intro X g hw j f i Ze s Z H E I c st d;subst g hw j;obtain⟨f0,f1,u,p,m,l⟩:=c it (by simp);have W:=Walks.range (prog:=X.prog) (w:=X.w) (I.ok.hd f) it lo 1 n;refine W.item i s _ _ d st λv h' tk r Dr kk=>?_;obtain⟨t,rfl⟩:=r;have y:Inv X Ze Z H { s with heap:=h',toks:=tk }:=I.turned (λb o a e=>kk b o (by simpa using a) e) f0 f1 p m l
  refine⟨_,rfl,P4 (s:={ s with heap:=h',toks:=tk }) (n:="range_iterator") Dr rfl rfl (by decide) ⟨.int (lo+i),H,y,⟨t,?_⟩,⟨rfl,rfl⟩,Dr,λb a=>(c b a).1⟩⟩
  rw[Int.mul_one]
 done:=by
  intro X g hw j f i Ze s Z H E I c st d;subst g hw j;obtain⟨f0,f1,u,p,m,l⟩:=c it (by simp);exact wpAny_pyNext_range_end (I.ok.hd f) st (by have:n<=i:=d;omega) λh' x=>⟨rfl,I.turned (t':=s.toks) (λb o a e=>x b o a e) f0 f1 p m l⟩
 self:=λ_ _ _ _ _ st h=>wpAny_pyIter_rangeiter st h
theorem ZCY{R:It->Hp->Prop}{lo hi:Int}{t u v:Tok}(I:Inv X Ze Z H s)(h1:-(2 ^ 62)<=lo)(h2:lo<2 ^ 62)(f:-(2 ^ 62)<=hi)(d:hi<2 ^ 62)
  (q:R (M5 lo (hi - lo).toNat) H):wpAny (model X.prog X.w) X.A (pyIter (.ref s.heap.objs.size)) (bz X Ze Z tg R) E { s with heap:=s.heap.push { cls:=.type "range", data:=.fields #[.int lo t,.int hi u,.int 1 v] },toks:=tk }:=by
 refine wpAny_pyIter_range (IsRange.new ..) (small_one h1 h2 f d) ?_;have a:Inv X Ze Z H { s with heap:=s.heap.push { cls:=.type "range", data:=.fields #[.int lo t,.int hi u,.int 1 v] },toks:=tk }:=I.kept λb o e=>BE _ e
 refine⟨(s.heap.push { cls:=.type "range", data:=.fields #[.int lo t,.int hi u,.int 1 v] }).objs.size,[(s.heap.push { cls:=.type "range", data:=.fields #[.int lo t,.int hi u,.int 1 v] }).objs.size],_,_,H,rfl,
  a.kept (t':=tk) λb o e=>BE _ e,ZCT _ lo (hi - lo).toNat,?_,λb c=>?_,q⟩
 .have h:lo+((0:Nat):Int) * 1=lo:=by simp
  have g:(((hi - lo).toNat:Nat):Int) - ((0:Nat):Int)=Builtin.Range.rangeSize lo hi 1:=by rw[rangeSize_one];split <;> omega
  show IsRangeIter _ _ (lo+((0:Nat):Int) * 1) ((((hi - lo).toNat:Nat):Int) - ((0:Nat):Int)) 1;rw[h,g];exact BY _ rfl
 .have e:b=(s.heap.push { cls:=.type "range", data:=.fields #[.int lo t,.int hi u,.int 1 v] }).objs.size:=by simpa using c
  subst e;exact a.Qj (B4 _) (a.AW.fresh (B4 _))
def TZ(ta:TA):TI:=λZ H R=>ta Z H λvs H1=>∃j:Int,vs=[.int j]/\-(2 ^ 62)<=j/\j<2 ^ 62/\R (M5 0 j.toNat) H1
def Xf(wi:TI)(g:TG)(tb:TS):TS:=λD Z H=>wi Z H λJ H1=>∃W:Nat->Nat->St->Hp->Prop,(∃m,W 0 m Z H1)/\∀i m Z H,W i m Z H->
 (J.stop i H/\D.nx Z H)∨(J.go i H/\∃N:St->Hp->Prop,(∀ σ' H',N σ' H'->∃a,a < m/\W (i+1) a σ' H')/\∀x H',J.Fh i H x H'->g x Z H' λσ2 H2=>tb { D with nx:=N,ct:=N,bk:=D.nx } σ2 H2)
noncomputable def OB(fp:List Addr)(h:Heap):ZGY:=fp.filterMap λb=>(h.get? b).map λo=>(b,o)
theorem RC{h:Heap}{o:Obj}(a:b∈fp)(e:h.get? b=some o):(b,o)∈OB fp h:=List.mem_filterMap.mpr ⟨b,a,by rw[e];rfl⟩
theorem lT{h:Heap}{p:Addr×Obj}(a:p∈OB fp h):p.1∈fp/\h.get? p.1=some p.2:=by
 obtain⟨b,c,e⟩:=List.mem_filterMap.mp a;cases q:h.get? b with
 |none=>rw[q]at e;cases e
 |some o=>
  rw[q]at e;have d:(b,o)=p:=Be e;subst d;exact⟨c,q⟩
theorem Inv.pinned(I:Inv X Ze Z H s)(g:∀b∈fp,FH X Ze H b)(ho:∀b∈fp,∃o,s.heap.get? b=some o/\∀v,o.data≠.cell v):Inv X (Ze++OB fp s.heap) Z H s:=
 I.b4 λp f=>(List.mem_append.mp f).elim (λz=>I.pin p (Ep _ z)) λz=>by
  obtain⟨a,e⟩:=lT z;obtain⟨f0,f1,h,_⟩:=g p.1 a;obtain⟨o,c,d⟩:=ho p.1 a;rw[e]at c;cases c;exact⟨e,f0,f1,h,d⟩
theorem Inv.Nd{pl:ZGY}(I:Inv X (Ze++pl) Z H s):Inv X Ze Z H s:=I.b4 λp a=>I.pin p (Ep _ (HF _ a))
theorem pM{lo:Int}{g:TG}{tb:TS}{D:Ends}(Pv:Nat->St->Hp->Prop)(f:Pv 0 Z H)
  (d:∀i Z H,i<n->Pv i Z H->g (.int (lo+i)) Z H λσ2 H2=>tb { D with nx:=Pv (i+1),ct:=Pv (i+1),bk:=D.nx } σ2 H2) (hd:∀ Z H,Pv n Z H->D.nx Z H) :
  ∃W:Nat->Nat->St->Hp->Prop,(∃m,W 0 m Z H)/\∀i m Z H,W i m Z H->
   ((M5 lo n).stop i H/\D.nx Z H)∨((M5 lo n).go i H/\∃N:St->Hp->Prop,(∀ σ' H',N σ' H'->∃b,b < m/\W (i+1) b σ' H')/\∀x H',(M5 lo n).Fh i H x H'->g x Z H' λσ2 H2=>tb { D with nx:=N,ct:=N,bk:=D.nx } σ2 H2):=by
 refine⟨λi m Z H=>m=n - i/\i<=n/\Pv i Z H,⟨n,by simp,CK _,f⟩,?_⟩;rintro i m Z H⟨rfl,hi,p⟩
 by_cases a:i<n
 .refine .inr ⟨a,Pv (i+1),λσ' H' c=>⟨n - (i+1),by omega,rfl,a,c⟩,λx H' y=>?_⟩;obtain⟨e,y⟩:=y;subst e y;exact d i Z _ a p
 .have e:i=n:=by omega
  subst e;exact .inl ⟨B4 _,hd Z H p⟩
abbrev R2:=V->V->Hp->VK->Prop
def BD(X:Cx)(f:Value->Value->Sem Value)(r:R2):Prop:=
 ∀(Ze:ZGY)(s:Shared)(Z:St)(H:Hp)(x y:V)(v u:Value)(Q:VK),Inv X Ze Z H s->RelV x v->RelV y u->r x y H Q->
  wpAny (model X.prog X.w) X.A (f v u) (EP X Ze Z Q) X.xe s
def Oh(X:Cx)(f:Value->Sem Value)(r:V->Hp->VK->Prop):Prop:=
 ∀(Ze:ZGY)(s:Shared)(Z:St)(H:Hp)(x:V)(v:Value)(Q:VK),Inv X Ze Z H s->RelV x v->r x H Q->
  wpAny (model X.prog X.w) X.A (f v) (EP X Ze Z Q) X.xe s
def Cc(X:Cx)(f:Value)(r:List V->Hp->VK->Prop):Prop:=
 ∀(Ze:ZGY)(s:Shared)(Z:St)(H:Hp)(xs:List V)(us:List Value)(Q:VK),Inv X Ze Z H s->Vals xs us->r xs H Q->
  wpAny (model X.prog X.w) X.A (call f us) (EP X Ze Z Q) X.xe s
def Bk(r:R2)(ta tb:TE):TE:=λZ H Q=>ta Z H λx H1=>tb Z H1 λy H2=>r x y H2 Q
def VR(r:V->Hp->VK->Prop)(ta:TE):TE:=λZ H Q=>ta Z H λx H1=>r x H1 Q
def rI(C:Int->Int->Prop)(g:Int->Int->V):R2:=λx y H Q=>∃i j,x=.int i/\y=.int j/\C i j/\Q (g i j) H
def GP(g:Int->Int->V):R2:=λx y H Q=>∃i j,x=.int i/\y=.int j/\Q (g i j) H
def rU(g:Int->V):V->Hp->VK->Prop:=λx H Q=>∃i,x=.int i/\Q (g i) H
section
variable{a b c:Expr}
theorem Xy(m:PE X a ta)(l:PE X b tb){R:V->V->Hp->Prop}(I:Inv X Ze Z H s)
  (h:ta Z H λx H1=>tb Z H1 λy H2=>R x y H2)
  (k:∀v u s2 x y H2,Inv X Ze Z H2 s2->RelV x v->RelV y u->R x y H2->wpAny (model X.prog X.w) X.A (f v u) Q X.xe s2) :
  wpAny (model X.prog X.w) X.A (eval a X.env) (λv d=>wpAny (model X.prog X.w) X.A (eval b X.env) (λu c=>wpAny (model X.prog X.w) X.A (f v u) Q X.xe c) X.xe d) X.xe s:=by
 refine Aj (m Ze s Z H _ I h) λv s1 NI=>?_;obtain⟨x,H1,I1,g,j⟩:=NI;refine Aj (l Ze s1 Z H1 _ I1 j) λu s2 ZC2=>?_;obtain⟨y,H2,I2,e,i⟩:=ZC2;exact k v u s2 x y H2 I2 g e i
theorem QD{C:Int->Int->Prop}{g:Int->Int->Int}
  (rule:∀(i j:Int)(t u:Tok)(s:Shared)(Q:Value->Shared->Prop)(E:Value->Shared->Prop),C i j->Q (.int (g i j) s.toks) { s with toks:=s.toks+1 }->wpAny (model X.prog X.w) X.A (f (.int i t) (.int j u)) Q E s) :
  BD X f (rI C λi j=>.int (g i j)):=by
 intro Ze s Z H x y v u Q I b a h;obtain⟨i,j,rfl,rfl,c,q⟩:=h;obtain⟨t,rfl⟩:=b;obtain⟨t',rfl⟩:=a;exact rule i j t t' s _ _ c ⟨.int (g i j),H,I.tok _,⟨_,rfl⟩,q⟩
theorem ZY{g:Int->Int->Int}
  (rule:∀(i j:Int)(t u:Tok)(s:Shared)(Q:Value->Shared->Prop)(E:Value->Shared->Prop),Q (.int (g i j) s.toks) { s with toks:=s.toks+1 }->wpAny (model X.prog X.w) X.A (f (.int i t) (.int j u)) Q E s) :
  BD X f (GP λi j=>.int (g i j)):=by
 intro Ze s Z H x y v u Q I b a h;obtain⟨i,j,rfl,rfl,q⟩:=h;obtain⟨t,rfl⟩:=b;obtain⟨t',rfl⟩:=a;exact rule i j t t' s _ _ ⟨.int (g i j),H,I.tok _,⟨_,rfl⟩,q⟩
theorem R0{g:Int->Int->Bool}
  (rule:∀(i j:Int)(t u:Tok)(s:Shared)(Q:Value->Shared->Prop)(E:Value->Shared->Prop),Q (.bool (g i j)) s->wpAny (model X.prog X.w) X.A (f (.int i t) (.int j u)) Q E s) :
  BD X f (GP λi j=>.bl (g i j)):=by
 intro Ze s Z H x y v u Q I b a h;obtain⟨i,j,rfl,rfl,q⟩:=h;obtain⟨t,rfl⟩:=b;obtain⟨t',rfl⟩:=a;exact rule i j t t' s _ _ ⟨.bl (g i j),H,I,rfl,q⟩
def uE(i j:Int):Prop:=0<=j/\j<=1000000/\i.natAbs<2 ^ 64
theorem ET:BD X (binaryOp .Add) (GP λi j=>.int (i+j)):=ZY λ_ _ _ _ _ _ _ q=>add_int q
theorem Uq:BD X (binaryOp .Sub) (GP λi j=>.int (i - j)):=ZY λ_ _ _ _ _ _ _ q=>sub_int q
theorem JX:BD X (binaryOp .Mod) (rI (λ_ j=>0<j) λi j=>.int (i % j)):=QD λi j _ _ _ _ _ a q=>by
 have h1:(0:Int)<j:=a;exact mod_int' (by omega) (by rw[Int.fmod_eq_emod_of_nonneg i (by omega)];exact q)
theorem Lf:BD X (binaryOp .Pow) (rI uE λi j=>.int (i ^ j.toNat)):=QD λ_ _ _ _ _ _ _ a q=>pow_int_small a.1 a.2.1 a.2.2 q
theorem xC{f:Value->Sem Value}{g:Int->Int}
  (rule:∀(i:Int)(t:Tok)(s:Shared)(Q:Value->Shared->Prop)(E:Value->Shared->Prop),Q (.int (g i) s.toks) { s with toks:=s.toks+1 }->wpAny (model X.prog X.w) X.A (f (.int i t)) Q E s) :
  Oh X f (rU λi=>.int (g i)):=by
 intro Ze s Z H x v Q I a h;obtain⟨i,rfl,q⟩:=h;obtain⟨t,rfl⟩:=a;exact rule i t s _ _ ⟨.int (g i),H,I.tok _,⟨_,rfl⟩,q⟩
theorem JT:Oh X (unaryOp .USub) (rU λi=>.int (-i)):=xC λ_ _ _ _ _ q=>neg_int q
end
noncomputable def W9:V->V->Bool
 | .AG,.AG=>true | .AG,.int _=>true | .int _,.AG=>true | .AG,.bl _=>true | .bl _,.AG=>true | .AG,.str _=>true | .str _,.AG=>true
 | .int _,.int _=>true | .bl _,.bl _=>true | .str _,.str _=>true | .Gd _,.Gd _=>true
 | .int _,.str _=>true | .str _,.int _=>true | .bl _,.str _=>true | .str _,.bl _=>true
 |_,_=>false
def aa:R2:=λx y H Q=>W9 x y=true/\Q (.bl (decide (x=y))) H
def iC:R2:=λx y H Q=>W9 x y=true/\Q (.bl (!decide (x=y))) H
theorem ZO{i j:Int}:decide (V.int i=V.int j)=(i == j):=by
 rw[Eo];simp
theorem cV{i j:Bool}:decide (V.bl i=V.bl j)=(i == j):=by
 rw[Eo];simp
theorem dW{i j:Str}:decide (V.str i=V.str j)=(i == j):=by
 rw[Eo];simp
theorem eY{i j:Array UInt8}:decide (V.Gd i=V.Gd j)=(i.toList == j.toList):=by
 rw[Eo];cases i;cases j;simp
section
variable{a b c:Expr}
theorem By{Q:VK}{k a:Bool}(I:Inv X Ze Z H s)(q:Q (.bl k) H)(e:k=a):EP X Ze Z Q (.bool a) s:=by
 subst e;exact⟨.bl k,H,I,rfl,q⟩
theorem Bh:BD X (compareOp .Eq) aa:=by
 intro Ze s Z H x y v u Q I c a h;obtain⟨b,q⟩:=h;cases x with
 |AG=>
  cases c;cases y with
  |AG=>cases a;exact PySem.EqNone.eq_none_none (By I q (by simp))
  |bl j=>cases a;exact PySem.EqNone.eq_none_bool (By I q (by simp))
  |int j=>obtain⟨t',rfl⟩:=a;exact PySem.EqNone.eq_none_int (By I q (by simp))
  |str j=>obtain⟨t',rfl⟩:=a;exact PySem.EqNone.eq_none_str (By I q (by simp))
  |_=>exact absurd (show false=true from b) DC
 |bl i=>
  cases c;cases y with
  |AG=>cases a;exact PySem.EqNone.eq_bool_none (By I q (by simp))
  |bl j=>cases a;exact eq_bool (By I q cV)
  |str j=>obtain⟨t',rfl⟩:=a;exact PySem.EqMixed.eq_bool_str (By I q (by simp))
  |_=>exact absurd (show false=true from b) DC
 |int i=>
  obtain⟨t,rfl⟩:=c;cases y with
  |AG=>cases a;exact PySem.EqNone.eq_int_none (By I q (by simp))
  |int j=>obtain⟨t',rfl⟩:=a;exact eq_int (By I q ZO)
  |str j=>obtain⟨t',rfl⟩:=a;exact PySem.EqMixed.eq_int_str (By I q (by simp))
  |_=>exact absurd (show false=true from b) DC
 |str i=>
  obtain⟨t,rfl⟩:=c;cases y with
  |AG=>cases a;exact PySem.EqNone.eq_str_none (By I q (by simp))
  |bl j=>cases a;exact PySem.EqMixed.eq_str_bool (By I q (by simp))
  |int j=>obtain⟨t',rfl⟩:=a;exact PySem.EqMixed.eq_str_int (By I q (by simp))
  |str j=>obtain⟨t',rfl⟩:=a;exact eq_str (By I q dW)
  |_=>exact absurd (show false=true from b) DC
 |Gd i=>
  obtain⟨t,rfl⟩:=c;cases y with
  |Gd j=>obtain⟨t',rfl⟩:=a;exact PySem.W.eq_bytes (By I q eY)
  |_=>exact absurd (show false=true from b) DC
 |_=>cases y <;> exact absurd (show false=true from b) DC
theorem GG:BD X (compareOp .NotEq) iC:=by
 intro Ze s Z H x y v u Q I c a h;obtain⟨b,q⟩:=h;cases x with
 |AG=>
  cases c;cases y with
  |AG=>cases a;exact PySem.EqNone.ne_none_none (By I q (by simp))
  |bl j=>cases a;exact PySem.EqNone.ne_none_bool (By I q (by simp))
  |int j=>obtain⟨t',rfl⟩:=a;exact PySem.EqNone.ne_none_int (By I q (by simp))
  |str j=>obtain⟨t',rfl⟩:=a;exact PySem.EqNone.ne_none_str (By I q (by simp))
  |_=>exact absurd (show false=true from b) DC
 |bl i=>
  cases c;cases y with
  |AG=>cases a;exact PySem.EqNone.ne_bool_none (By I q (by simp))
  |bl j=>cases a;exact ne_bool (By I q (vF not cV))
  |str j=>obtain⟨t',rfl⟩:=a;exact PySem.EqMixed.ne_bool_str (By I q (by simp))
  |_=>exact absurd (show false=true from b) DC
 |int i=>
  obtain⟨t,rfl⟩:=c;cases y with
  |AG=>cases a;exact PySem.EqNone.ne_int_none (By I q (by simp))
  |int j=>obtain⟨t',rfl⟩:=a;exact ne_int (By I q (vF not ZO))
  |str j=>obtain⟨t',rfl⟩:=a;exact PySem.EqMixed.ne_int_str (By I q (by simp))
  |_=>exact absurd (show false=true from b) DC
 |str i=>
  obtain⟨t,rfl⟩:=c;cases y with
  |AG=>cases a;exact PySem.EqNone.ne_str_none (By I q (by simp))
  |bl j=>cases a;exact PySem.EqMixed.ne_str_bool (By I q (by simp))
  |int j=>obtain⟨t',rfl⟩:=a;exact PySem.EqMixed.ne_str_int (By I q (by simp))
  |str j=>obtain⟨t',rfl⟩:=a;exact ne_str (By I q (vF not dW))
  |_=>exact absurd (show false=true from b) DC
 |Gd i=>
  obtain⟨t,rfl⟩:=c;cases y with
  |Gd j=>obtain⟨t',rfl⟩:=a;exact PySem.W.ne_bytes (By I q (vF not eY))
  |_=>exact absurd (show false=true from b) DC
 |_=>cases y <;> exact absurd (show false=true from b) DC
theorem Hy:BD X (compareOp .Lt) (GP λi j=>.bl (decide (i<j))):=R0 λ_ _ _ _ _ _ _ q=>lt_int q
theorem Cm:BD X (compareOp .LtE) (GP λi j=>.bl (decide (i<=j))):=R0 λ_ _ _ _ _ _ _ q=>le_int q
theorem Og:BD X (compareOp .Gt) (GP λi j=>.bl (decide (j<i))):=R0 λ_ _ _ _ _ _ _ q=>gt_int q
theorem NX:BD X (compareOp .GtE) (GP λi j=>.bl (decide (j<=i))):=R0 λ_ _ _ _ _ _ _ q=>ge_int q
theorem d6:BD X (compareOp .In) (λx y H Q=>∃i j,x=.str i/\y=.str j/\Q (.bl (!(Builtin.Str.occurrences j i 0 j.length 1).isEmpty)) H):=by
 intro Ze s Z H x y v u Q I b a h;obtain⟨i,j,rfl,rfl,q⟩:=h;obtain⟨t,rfl⟩:=b;obtain⟨t',rfl⟩:=a;exact in_str (By I q rfl)
theorem Ss:BD X (compareOp .Is) (λx y H Q=>y=.AG/\Q (.bl (decide (x=.AG))) H):=by
 intro Ze s Z H x y v u Q I a b h;obtain⟨rfl,q⟩:=h;cases b;refine is_none_gen (By I q ?_);cases x <;> first
  | (cases a;rfl)
  | (obtain⟨t,rfl⟩:=a;rfl)
theorem zW:BD X (compareOp .IsNot) (λx y H Q=>y=.AG/\Q (.bl (!decide (x=.AG))) H):=by
 intro Ze s Z H x y v u Q I a b h;obtain⟨rfl,q⟩:=h;cases b;refine isnot_none_gen (By I q ?_);cases x <;> first
  | (cases a;rfl)
  | (obtain⟨t,rfl⟩:=a;rfl)
theorem fj(b:Expr)(h:op≠.In:=by decide)(h2:op≠.NotIn:=by decide):behindInMarks op b=false:=by
 have c:(op == CmpOp.In)=false:=by cases op <;> first|rfl|exact absurd rfl h
 have a:(op == CmpOp.NotIn)=false:=by cases op <;> first|rfl|exact absurd rfl h2
 cases b <;> simp[behindInMarks,c,a]
def MY(t:TE):TT:=λZ H Q=>t Z H λx H'=>∃k,x=.bl k/\Q k H'
theorem qQ{r:R2}(ho:BD X (compareOp op) r)(o:PE X a ta)(n:PE X b tb)(m:behindInMarks op b=false):PT X (.Compare a [op] [b] pos) (MY (Bk r ta tb)):=by
 intro Ze s Z H Q I h;refine wpAny_isTrue_Compare1 (Aj (o Ze s Z H _ I h) λv s1⟨x,H1,I1,g,l⟩=>Aj (n Ze s1 Z H1 _ I1 l) λu s2⟨y,H2,I2,f,j⟩=>
  Aj (ho Ze s2 Z H2 x y v u _ I2 g f j) λc p⟨z,H3,I3,d,k,e,i⟩=>?_) m
 subst e;cases d;exact xX ⟨H3,I3,i⟩
def Nc(r b:R2)(ta tb tc:TE):TE:=λZ H Q=>ta Z H λx H1=>tb Z H1 λy H2=>r x y H2 λz H3=>∃k,z=.bl k/\
 (if k=true then tc Z H3 λa H4=>b y a H4 Q else Q (.bl false) H3)
theorem HI:(sizeLine:Nat)<2 ^ 63:=by rw[sizeLine_eq];decide
theorem PX:BD X (binaryOp .Add) (λx y H Q=>∃i j,x=.str i/\y=.str j/\i.length+j.length<=sizeLine/\Q (.str (i++j)) H):=by
 intro Ze s Z H x y v u Q I b a h;obtain⟨i,j,rfl,rfl,c,q⟩:=h;obtain⟨t,rfl⟩:=b;obtain⟨t',rfl⟩:=a;exact add_str (λt' tk=>⟨.str (i++j),H,I.tok _,⟨_,rfl⟩,q⟩) c
theorem vals1{x:V}(r:Vals [x] us):∃u,us=[u]/\RelV x u:=by
 cases r with
 |cons b a=>cases a;exact⟨_,rfl,b⟩
theorem vals2{x y:V}(r:Vals [x,y] us):∃u a,us=[u,a]/\RelV x u/\RelV y a:=by
 cases r with
 |cons e d=>
  cases d with
  |cons c b=>cases b;exact⟨_,_,rfl,e,c⟩
theorem qf(b:X.calm=true):Cc X (.builtin "max") (λxs H Q=>∃i j,xs=[.int i,.int j]/\Q (.int (if j > i then j else i)) H):=by
 intro Ze s Z H xs us Q I r h;obtain⟨i,j,rfl,q⟩:=h;obtain⟨u,c,rfl,⟨t,rfl⟩,⟨t',rfl⟩⟩:=vals2 r;refine max_two_ints (I.ok.hd b) λh' tk k=>⟨_,H,I.kept k,?_,q⟩
 by_cases a:j > i
 .rw[o9 a,o9 a];exact⟨_,rfl⟩
 .rw[mL a,mL a];exact⟨_,rfl⟩
theorem eE(b:X.calm=true):Cc X (.builtin "min") (λxs H Q=>∃i j,xs=[.int i,.int j]/\Q (.int (if j<i then j else i)) H):=by
 intro Ze s Z H xs us Q I r h;obtain⟨i,j,rfl,q⟩:=h;obtain⟨u,c,rfl,⟨t,rfl⟩,⟨t',rfl⟩⟩:=vals2 r;refine min_two_ints (I.ok.hd b) λh' tk k=>⟨_,H,I.kept k,?_,q⟩
 by_cases a:j<i
 .rw[o9 a,o9 a];exact⟨_,rfl⟩
 .rw[mL a,mL a];exact⟨_,rfl⟩
theorem jQ:Cc X (.type "int") (λxs H Q=>(∃i,xs=[.int i]/\Q (.int i) H)∨∃k,xs=[.bl k]/\Q (.int (if k then 1 else 0)) H):=by
 intro Ze s Z H xs us Q I r h;rcases h with⟨i,rfl,q⟩|⟨k,rfl,q⟩
 .obtain⟨u,rfl,t,rfl⟩:=vals1 r;exact call_int_int ⟨.int i,H,I,⟨_,rfl⟩,q⟩
 .obtain⟨u,rfl,a⟩:=vals1 r;cases a;exact call_int_bool ⟨.int (if k then 1 else 0),H,I.tok _,⟨_,rfl⟩,q⟩
end
structure VI (h:Heap) (x dx C:Addr) (mA:ZGZ):Prop where
 obj:h.get? x=some (PySem.W.instObj C dx)
 ns:h.Ns1 dx mA
 ne:dx≠x
theorem pH{h:Heap}(n:h.Ns1 dx mA):∃od,h.get? dx=some od/\∀name,PySem.W.lookIn name od=some (mA name):=by
 obtain⟨o,es,ep,ho,hd,d,_,c⟩:=n;refine⟨o,ho,λname=>?_⟩;have e:=c name;unfold nsFind findBy at e;rw[<- ZEr]at e;unfold PySem.W.lookIn;rw[hd];dsimp only;split
 .rename_i y q;rw[q]at e;exact vF some e
 .rename_i q;rw[q]at e;have a:es.toList.any (·.refKey)=false:=by
   rw[List.any_eq_false];intro y b;obtain⟨z,t,Kv⟩:=d y (Array.mem_toList_iff.mp b);simp[DictEntry.refKey,Kv]
  have f:¬ es.toList.any (·.refKey)=true:=by rw[a];exact DC
  rw[mL f];exact vF some e
theorem VI.look{h:Heap}{x:Addr}(I:VI h x dx C mA):∃od,PySem.W.InstAt h x (PySem.W.instObj C dx) C (some od)/\∀name,PySem.W.lookIn name od=some (mA name):=
 let ⟨od,ho,hl⟩:=pH I.ns
 ⟨od,⟨I.obj,rfl,rfl,ho⟩,hl⟩
section
variable{prog:Program}{K:ZGX}{x f:Addr}{v:Value}
variable{P:Program}{h:Heap}{fs sL:List (Str×V)}
theorem ZCi(AW:CD P w H h)(e:H a=some (.ins C dx fs)):∃mA,VI h a dx C mA/\(∀f,Yd (fs.lookup f) (mA f))/\PySem.Within mA (fs.map (·.1))/\fs.length<=1000/\H dx=some (.own a):=by
 obtain⟨d,z,ne,ob,mA,n,r,q⟩:=(show CO P w H h a (.ins C dx fs)from AW a _ e);exact⟨mA,⟨ob,n,ne⟩,r,q,z,d⟩
end
structure Vp (K:ZGX) (C:Addr):Prop where
 pg:PySem.W.plainGet K C Str.empty=true
 hd:PySem.W.hasDictIn K C=true
 po:PySem.W.plainOver K C=true
 sa:PySem.W.findIn K (.ref C) "__setattr__"=some (some (.builtin "object.__setattr__"))
theorem Vp.get{K:ZGX}{C:Addr}(c:Vp K C)(f:Str):PySem.W.plainGet K C f=true:=c.pg
structure Co (K:ZGX) (C:Addr) (f:Str) (v:V) (u:Value):Prop where
 at_:PySem.W.findIn K (.ref C) f=some (some u)
 rel:RelV v u
 get:PySem.W.specialIn K u "__get__"=some none
 cp:PySem.W.copiedNames.contains f=false
section
variable{fs:List (Str×V)}{f:Str}
variable{o value:Expr}{pos' Y2:Pos}{tv:TE}
variable{b:Bool}
inductive EV (K:ZGX) (H:Hp):V->Value->Prop where
 |AG:EV K H .AG (.type "NoneType")
 |bl (x:Bool):EV K H (.bl x) (.type "bool")
 |int (i:Int):EV K H (.int i) (.type "int")
 |str (x:Str):EV K H (.str x) (.type "str")
 |Ic (x:UInt64):EV K H (.Ic x) (.type "float")
 |lst {a:Addr}{xs:List V}(e:H a=some (.lst xs)):EV K H (.ref a) (.type "list")
 |Ec {a:Addr}{o:Obj}{xs:List V}(e:H a=some (.Ec o (.lst xs))):EV K H (.ref a) (.type "list")
 |tup {a:Addr}{xs:List V}(e:H a=some (.tup xs)):EV K H (.ref a) (.type "tuple")
 |dK {a:Addr}{C9:List (Key×V)}(e:H a=some (.dK C9)):EV K H (.ref a) (.type "dict")
 |dT {a:Addr}{C9:List (List Key×V)}(e:H a=some (.dT C9)):EV K H (.ref a) (.type "dict")
 |ins {a C dx:Addr}{fs:List (Str×V)}(e:H a=some (.ins C dx fs)) (cl:Vp K C) (ha:PySem.W.findIn K (.ref C) "__class__"=some (some (.builtin "object.__class__")))
   (hn:PySem.W.specialIn K (.builtin "object.__class__") "__get__"=some (some (.builtin "getset_descriptor.__get__"))) (GR:PySem.W.takesIn K (.builtin "object.__class__")=some true)
   (hm:PySem.W.mroIn K C (.type "object")=some true):EV K H (.ref a) (.ref C)
theorem sx{x:V}{t:Value}(I:Inv X Ze Z H s)(d:RelV x u)(ty:EV X.K H x t)(e:PySem.W.kitOne X.K t c=some b)(h:∀tk,Q (.bool b) { s with toks:=tk }):
  wpAny (model X.prog X.w) A (call (.builtin "isinstance") [u,c]) Q E s:=by
 cases ty with
 |AG=>cases(show u=Value.none from d);exact HG PySem.W.kitx_none I.CH True.intro e (λz=>nomatch z) h
 |bl y=>cases(show u=Value.bool y from d);exact HG PySem.W.kitx_bool I.CH True.intro e (λz=>nomatch z) h
 |int i=>obtain⟨t,q⟩:=(show ∃t,u=Value.int i t from d);cases q;exact HG PySem.W.kitx_int I.CH True.intro e (λz=>nomatch z) h
 |str y=>obtain⟨t,q⟩:=(show ∃t,u=Value.str y t from d);cases q;exact HG PySem.W.kitx_str I.CH True.intro e (λz=>nomatch z) h
 |Ic y=>obtain⟨t,q⟩:=(show ∃t,u=Value.float y t from d);cases q;exact HG PySem.W.kitx_float I.CH True.intro e (λz=>nomatch z) h
 |@lst a xs ea=>
  cases(show u=Value.ref a from d);obtain⟨_,_,n,_,h1⟩:=(show CO X.prog X.w H s.heap a (.lst xs)from I.AW a _ ea);exact HG ZFY I.CH ⟨_,h1,rfl⟩ e (λz=>nomatch z) h
 |@Ec a ob xs ea=>
  cases(show u=Value.ref a from d);obtain⟨_,_,_,n,_,h1⟩:=(show CO X.prog X.w H s.heap a (.Ec ob (.lst xs))from I.AW a _ ea);exact HG ZFY I.CH ⟨_,h1,rfl⟩ e (λz=>nomatch z) h
 |@tup a xs ea=>
  cases(show u=Value.ref a from d);obtain⟨_,_,_,p⟩:=(show CO X.prog X.w H s.heap a (.tup xs)from I.AW a _ ea);obtain⟨o,h1,h2,_⟩:=p.1;exact HG ZFZ I.CH ⟨o,h1,h2⟩ e (λz=>nomatch z) h
 |@dK a C9 ea=>
  cases(show u=Value.ref a from d);obtain⟨_,_,vs,_,p⟩:=(show CO X.prog X.w H s.heap a (.dK C9)from I.AW a _ ea);obtain⟨o,es,ep,h1,h2,_⟩:=p;exact HG ZFX I.CH ⟨o,h1,h2.1⟩ e (λz=>nomatch z) h
 |@dT a C9 ea=>
  cases(show u=Value.ref a from d);obtain⟨_,_,xs,_,o,es,ep,h1,h2,_⟩:=(show CO X.prog X.w H s.heap a (.dT C9)from I.AW a _ ea);exact HG ZFX I.CH ⟨o,h1,h2.1⟩ e (λz=>nomatch z) h
 |@ins a C dx fs ea cl g hn GR f=>
  cases(show u=Value.ref a from d);obtain⟨mA,O,_⟩:=ZCi I.AW ea;obtain⟨od,J,_⟩:=O.look;exact HG (PySem.W.kitx_own (cl.get _) cl.hd g hn GR f) I.CH J e (λz=>nomatch z) h
end
structure C2 (k:Nat) (A:Around):Prop where
 hd:A.handled=none
 dp:A.depth+3 * k+5<recursionLimit
 un:A.units+16 * k+200<cLine
theorem C2.mono(r:C2 k A)(h:j<=k):C2 j A:=⟨r.hd,by have:=r.dp;omega,by have:=r.un;omega⟩
theorem C2.deeper(r:C2 (k+1) A)(env:Env):C2 k (A.deeper env):=
 ⟨r.hd,by have:=r.dp;show A.depth+1+3 * k+5<_;omega,by have:=r.un;show A.units+3+16 * k+200<_;omega⟩
theorem ZDw:(A.under (.builtin "type.__call__" ⟨.ref C::us,kw⟩)).depth=A.depth+1:=by
 first|rfl|simp[Around.under,Code.weight,Code.isCreation,Code.isGuard,Code.isCaller,Code.frames,Code.isFrame,guardIds]
theorem xv:(A.under (.builtin "type.__call__" ⟨.ref C::us,kw⟩)).units=A.units+1:=by
 first|rfl|simp[Around.under,Code.cUnits,Code.frames,Code.isFrame]
theorem C2.make(r:C2 (k+1) A)(C:Addr)(us:List Value)(kw:List (Str×Value)):C2 k (A.under (.builtin "type.__call__" ⟨.ref C::us,kw⟩)):=
 ⟨r.hd,by have:=r.dp;rw[ZDw];omega,by have:=r.un;rw[xv];omega⟩
theorem C2.depth(r:C2 k A):A.depth<recursionLimit:=by have:=r.dp;omega
theorem C2.units(r:C2 k A):A.units+64<cLine:=by have:=r.un;omega
theorem C2.HJ(r:C2 k A):A.units<cLine:=by have:=r.un;omega
def Bj:TA:=λ_ H Q=>Q [] H
def BC(ta:TE)(tr:TA):TA:=λZ H Q=>ta Z H λx H1=>tr Z H1 λxs H2=>Q (x::xs) H2
section
variable{t:TA}
theorem OR:PA X [] Bj:=λ_ _ _ _ H Q I h=>jx ⟨[],H,I,.nil,h⟩
theorem IW(i:PE X e te)(g:PA X es t)(f:starEach (e::es) X.env=(false,eval e X.env)::starEach es X.env:=by rfl):PA X (e::es) (BC te t):=by
 intro pos Ze s Z H Q I h;rw[f];show wpAny _ _ (spliced ((false,eval e X.env)::backTo pos (starEach es X.env))) _ _ s;refine Calls.spliced_cons (Aj (i Ze s Z H _ I h) λu s1 NI=>?_);obtain⟨x,H1,I1,b,d⟩:=NI;exact Aj (g pos Ze s1 Z H1 _ I1 d) λus s2 AM=>by obtain⟨xs,H2,I2,a,c⟩:=AM;exact⟨x::xs,H2,I2,.cons b a,c⟩
def Pt(t:TA):TE:=λZ H Q=>t Z H λxs H1=>xs.length<=sizeLine/\∀p,H1 p=none->Q (.ref p) (upd H1 p (.tup xs))
def YT(t:TA):TE:=λZ H Q=>t Z H λxs H1=>xs.length<=sizeLine/\∀p,H1 p=none->Q (.ref p) (upd H1 p (.lst xs))
theorem pG{x1}(h:PA X es t):PE X (.Tuple es x1 pos) (Pt t):=by
 intro Ze s Z H Q I c;refine wpAny_Tuple_spliced (Aj (h pos Ze s Z H _ I c) λus s1⟨xs,H1,I1,r,z,q⟩=>⟨by rw[<- r.length];exact z,?_⟩);have d:H1 s1.heap.objs.size=none:=I1.AW.fresh (B4 _);refine⟨.ref s1.heap.objs.size,upd H1 s1.heap.objs.size (.tup xs),I1.laid (t':=s1.toks) (λb u e=>BE _ e) (B4 _) ?_,rfl,q _ d⟩;exact⟨z,us,r,⟨_,BY _ rfl,rfl,_,rfl⟩,λRw a=>by rw[BY _ rfl]at a;cases a;rfl⟩
theorem v5(h:PA X es t):PE X (.List es pos) (YT t):=by
 intro Ze s Z H Q I a;refine wpAny_List_spliced (Aj (h pos Ze s Z H _ I a) λus s1⟨xs,H1,I1,r,z,q⟩=>⟨by rw[<- r.length];exact z,?_⟩);have c:H1 s1.heap.objs.size=none:=I1.AW.fresh (B4 _);refine⟨.ref s1.heap.objs.size,upd H1 s1.heap.objs.size (.lst xs),I1.laid (t':=s1.toks) (λb u e=>BE _ e) (B4 _) ?_,rfl,q _ c⟩;exact⟨z,us,0,r,BY _ rfl⟩
end
abbrev Sp:=List V->Hp->VK->XK->Prop
abbrev Fb:=List Env->Hp->Shared->XK->Value->Shared->Prop
variable{CX:Fb}
structure Kd (P:Program) (w:World) (K:ZGX) (mg:ZGZ) (Zf:Heap) (A:Around) (outer:List Env) (s:Shared) (H:Hp):Prop where
 frames:A.frames=some outer
 mod:Mod K mg Zf
 bs:∀b o,Zf.get? b=some o->s.heap.get? b=some o/\H b=none
 GO:Zf.objs.size<=s.heap.objs.size
 EW:s.heap.FunFrames Zf outer
 Hq:∀b∈Bc outer,H b=none
 AW:CD P w H s.heap
 bare:AllBare s.gens
def CE(outer:List Env)(P:Program)(w:World)(H:Hp)(s:Shared)(Q:VK)(u:Value)(s':Shared):Prop:=
 ∃v H',s'.os=s.os/\AllBare s'.gens/\Un (Bc outer) [] H H' s.heap s'.heap/\CD P w H' s'.heap/\RelV v u/\Q v H'
def CR(CX:Fb)(outer:List Env)(P:Program)(w:World)(H:Hp)(s:Shared)(Q:VK)(E:XK)(r:Result)(s':Shared):Prop:=
 match r with
 | .ok (.ret u)=>CE outer P w H s Q u s'
 | .ok _=>False
 | .error e=>CX outer H s E e s'
structure D7 (P:Program) (w:World) (K:ZGX) (mg:ZGZ) (Zf:Heap) (CX:Fb) (k:Nat) (f:Addr) (fd:FuncData) (ps:List Str) (sp:Sp):Prop where
 len:∀vs H Q E,sp vs H Q E->vs.length=ps.length
 run:∀(A:Around)(outer:List Env)(s:Shared)(H:Hp)(args:Args)(us:List Value)(vs:List V)(Q:VK)(E:XK),C2 k A->Kd P w K mg Zf A outer s H->BindsTo s fd args (ps.zip us)->Vals vs us->sp vs H Q E->
  codeAny (model P w) A (.call (.ref f) args) (CR CX outer P w H s Q E) s
theorem D7.mono{P:Program}{K:ZGX}{f:Addr}{sp:Sp}(F:D7 P w K mg Zf CX j f fd ps sp)(h:j<=k):
  D7 P w K mg Zf CX k f fd ps sp:=⟨F.len,λA outer s H args us vs Q E a=>F.run A outer s H args us vs Q E (a.mono h)⟩
theorem Kd.make{P:Program}{K:ZGX}(e:Kd P w K mg Zf A outer s H)(C:Addr)(us:List Value)(kw:List (Str×Value)):
  Kd P w K mg Zf (A.under (.builtin "type.__call__" ⟨.ref C::us,kw⟩)) outer s H:=⟨by first|exact e.frames|(simpa[Around.under,Code.envs,Code.isFrame,pushEnvs]using e.frames),e.mod,e.bs,e.GO,e.EW,e.Hq,e.AW,e.bare⟩
theorem Inv.Ye(I:Inv X Ze Z H s):Kd X.prog X.w X.K X.mg X.base X.A X.stack s H:=
 ⟨I.ok.frames,I.ok.mod,I.bs,Bz I.ok.GO I.sz,I.stack,I.Q5,I.AW,I.bare⟩
theorem Inv.after{Q:VK}(I:Inv X Ze Z H s)(h:CE X.stack X.prog X.w H s Q u s'):EP X Ze Z Q u s':=by
 obtain⟨v,H',os,bare,un,AW,r,q⟩:=h;obtain⟨hh,g,d,t,KN⟩:=s';obtain rfl:KN=s.os:=os;exact⟨v,H',I.call (h':=hh) (g':=g) (d':=d) (t':=t) (ch:=[]) un AW bare (λb z=>absurd z (by simp)),r,q⟩
def EK(sp:Sp)(JB:List V)(E:XK)(t:TA):TE:=λZ H Q=>t Z H λvs H1=>sp (vs++JB) H1 Q E
def Binds(K:ZGX)(fd:FuncData)(ps:List Str)(ds:List Value):Prop:=
 ∀(s:Shared)(us:List Value),K.In s.heap->(us++ds).length=ps.length->BindsTo s fd ⟨us,[]⟩ (ps.zip (us++ds))
theorem Binds.all{K:ZGX}(h:∀us:List Value,us.length=ps.length->bindArgs fd ⟨us,[]⟩=pure (ps.zip us)):Binds K fd ps []:=λs us _ a=>by
 rw[Hr]at a ⊢;exact .of_eq (h us a)
def Passes(CX:Fb)(X:Cx)(E:XK):Prop:=∀(Ze:ZGY)(Z:St)(H:Hp)(s:Shared)(e:Value)(s':Shared),Inv X Ze Z H s->CX X.stack H s E e s'->X.xe e s'
section
variable{f:Addr}{sp:Sp}{E:XK}{m:Str}{p apos:Pos}{o:Expr}{t:TA}
theorem tu{Q:VK}(F:D7 X.prog X.w X.K X.mg X.base CX k f fd ps sp)(c:C2 k X.A)(g:Binds X.K fd ps ds)(hd:Vals JB ds)(hx:Passes CX X E)
  (I:Inv X Ze Z H s) (r:Vals vs us) (h:sp (vs++JB) H Q E):wpAny (model X.prog X.w) X.A (call (.ref f) us) (EP X Ze Z Q) X.xe s:=by
 have b:Vals (vs++JB) (us++ds):=r.append hd;have d:(us++ds).length=ps.length:=by rw[<- b.length];exact F.len _ _ _ _ h
 refine ZAg (ZAS (F.run X.A X.stack s H ⟨us,[]⟩ (us++ds) (vs++JB) Q E c I.Ye (g s us I.CH d) b h) λr s' a=>?_);cases r with
 |error e=>exact hx Ze Z H s e s' I a
 |ok i=>
  cases i with
  |ret u=>exact I.after a
  |next=>exact False.elim a
  |brk=>exact False.elim a
  |cont=>exact False.elim a
theorem ZEY(F:D7 X.prog X.w X.K X.mg X.base CX k f fd ps sp)(a:C2 k X.A)(d:Gl X x)(b:X.mg x=some (.ref f))(c:PySem.W.keepIn X.K (.ref f)=true)(g:Binds X.K fd ps ds)(hd:Vals JB ds)(hx:Passes CX X E)
  (i:PA X (e::es) t) (BV:(x == ("__debug__":Str))=false:=by decide) (he:starEach (e::es) X.env=(false,eval e X.env)::starEach es X.env:=by rfl) (BF:(backTo pos (starEach es X.env)).any (·.1)=false:=by rfl) :
  PE X (.Call (.Name x p) (e::es) [] pos) (EK sp JB E t):=by
 intro Ze s Z H Q I h;refine z5 (K3 I d b ?_ BV);refine kc (h₀:=X.base) I.ok.mod.Gj c (Aj (i pos Ze s Z H _ I h) λus s1⟨vs,H1,I1,r,q⟩=>⟨I1.CH,?_⟩) he BF;exact tu F a g hd hx I1 r q
variable{kws:List Keyword}{tk:TA}{nm:Option Str}{g:List Value->List Value->List Value}{gV:List V->List V->List V}
end
structure Ay (N P:List Str) (sc:Scope):Prop where
 kind:sc.kind=.function
 co:sc.isCoroutine=false
 gen:sc.isGenerator=false
 nd:N.Nodup
 pre:N.take P.length=P
 par:∀x∈P,sc.names.lookup x=some .local∨sc.names.lookup x=some .cell
 ZD6:∀y∈sc.names,y.2≠.free
theorem bA{a:Str->Option NameKind}{x:Str}:∀{binds:List (Str×Value)}{m:ZGZ},(∀v,(x,v)∉binds)->bindL a binds m x=m x
 | [],_,_=>rfl
 | (n,v)::r,m,h=>by
  unfold bindL;rw[bA λw hw=>h w (C5 _ hw)];split
  .have:x≠n:=by rintro rfl;exact h v BZ
   simp[this]
  .rfl
theorem gB{a:Str->Option NameKind}{x:Str}:∀{binds:List (Str×Value)}{m:ZGZ},(∀v,(x,v)∉binds)->bindC a binds m x=m x
 | [],_,_=>rfl
 | (n,v)::r,m,h=>by
  unfold bindC;rw[gB λw hw=>h w (C5 _ hw)];split
  .rfl
  .have:x≠n:=by rintro rfl;exact h v BZ
   simp[this]
theorem fO{a:Str->Option NameKind}{x:Str}{v:Value}:∀{P:List Str}{vs:List Value}{i:Nat}{m:ZGZ},P.Nodup->P[i]?=some x->vs[i]?=some v->a x=some .local->
  bindL a (P.zip vs) m x=some v
 | [],_,_,_,_,h,_,_=>by simp at h
 |_::_,[],_,_,_,_,h,_=>by simp at h
 |p::P,w::vs,0,m,nd,h1,h2,hk=>by
  simp at h1 h2;subst h1;subst h2;show bindL a ((p,w)::P.zip vs) m p=_;unfold bindL;rw[bA λv b=>(List.nodup_cons.mp nd).1 (kM b).1,o9 hk];simp
 |p::P,w::vs,i+1,m,nd,h1,h2,hk=>by
  show bindL a ((p,w)::P.zip vs) m x=_;unfold bindL;exact fO (i:=i) (List.nodup_cons.mp nd).2 (by simpa using h1) (by simpa using h2) hk
theorem aL{a:Str->Option NameKind}{x:Str}{v:Value}:∀{P:List Str}{vs:List Value}{i:Nat}{m:ZGZ},P.Nodup->P[i]?=some x->vs[i]?=some v->a x≠some .local->
  bindC a (P.zip vs) m x=some v
 | [],_,_,_,_,h,_,_=>by simp at h
 |_::_,[],_,_,_,_,h,_=>by simp at h
 |p::P,w::vs,0,m,nd,h1,h2,hk=>by
  simp at h1 h2;subst h1;subst h2;show bindC a ((p,w)::P.zip vs) m p=_;unfold bindC;rw[gB λv b=>(List.nodup_cons.mp nd).1 (kM b).1,mL hk];simp
 |p::P,w::vs,i+1,m,nd,h1,h2,hk=>by
  show bindC a ((p,w)::P.zip vs) m x=_;unfold bindC;exact aL (i:=i) (List.nodup_cons.mp nd).2 (by simpa using h1) (by simpa using h2) hk
noncomputable def start(N:List Str)(vs:List V):St:=vs.map some++List.replicate (N.length - vs.length) none
noncomputable def Dz(CX:Fb)(P:Program)(w:World)(K:ZGX)(mg:ZGZ)(Zf:Heap)(N:List Str)(qual:Str)(scope:Scope)(f:Addr)(cd:Value)(A:Around)(outer:List Env)(s:Shared)(H:Hp)(E:XK):Cx where
 prog:=P
 w:=w
 K:=K
 mg:=mg
 base:=Zf
 A:=A.deeper (envOfC qual scope s.heap.objs.size f cd)
 N:=N
 s₀:=s
 H₀:=H
 env:=envOfC qual scope s.heap.objs.size f cd
 outer:=outer
 stack:=envOfC qual scope s.heap.objs.size f cd::outer
 ex:=[]
 calm:=true
 fn:=λ_=>true
 pn:=[]
 xe:=λe s'=>wpAny (model P w) (A.deeper (envOfC qual scope s.heap.objs.size f cd)) (leaving (envOfC qual scope s.heap.objs.size f cd) e) (λ_ Ku=>CX outer H s E e Ku) (λa Ku=>CX outer H s E a Ku) s'
theorem iq(h:sc.names.lookup x=some .cell):∃c,(cellsFrom n sc.names []).lookup x=some c:=by
 have q:=ZFW sc.names n [] (.inl h);exact Option.isSome_iff_exists.mp q
theorem tJ{P:Program}{K:ZGX}{f:Addr}{s1:Shared}{E:XK}
  (S:Ay N ps scope) (hd:A.handled=none) (e0:Kd P w K mg Zf A outer s H) (C:vs.length=ps.length) (r:Vals vs us)
  (x:InCallC s s.heap.objs.size (bindL (envOfC qual scope s.heap.objs.size f cd).kindOf (ps.zip us) λ_=>none) (cellsFrom (s.heap.objs.size+1) scope.names []) (bindC (envOfC qual scope s.heap.objs.size f cd).kindOf (ps.zip us) λ_=>none) s1) :
  Inv (Dz CX P w K mg Zf N qual scope f cd A outer s H E) [] (start N vs) H s1:=by
 have F:ps.length<=N.length:=by have:=vF List.length S.pre;rw[Bu]at this;omega
 obtain⟨h1,tk,rfl,m⟩:=x.done;have j:∀b:Addr,b∉(Dz CX P w K mg Zf N qual scope f cd A outer s H E).ex:=λb z=>absurd (show b∈([]:List Addr)from z) (by simp);refine⟨⟨e0.mod,S.kind,rfl,rfl,B4 _,λy z c h1 h2=>?_,λy d=>?_,λy c _ h=>?_,λ_=>hd,Around.frames_deeper e0.frames,.inr ⟨rfl,rfl⟩,λb z=>absurd z (j b),e0.bs,e0.GO,λb _ _=>j b,λb z=>absurd z (j b),e0.EW,e0.Hq⟩,
  rfl,e0.bare,Un.kept m,⟨_,x.toInCall.ns,λi y v h1 h2 D=>?_⟩,λy c h=>⟨_,x.cell y c h⟩,e0.AW.fresh (B4 _),λy c h=>?_,λp g=>absurd (show p∈([]:ZGY)from g) (by simp),e0.AW.kept m,?_⟩
 .exact name_of_addr x.apart (LG h1) (LG h2)
 .have d:scope.names.lookup y=some .cell∨scope.names.lookup y=some .free:=d;rcases d with d|d
  .exact iq d
  .exact absurd rfl (S.ZD6 _ (LG d))
 .exact Oc (x.above y c (LG h))
 .have hi:i<vs.length:=by
   unfold start at h2
   by_cases hi:i<vs.length
   .exact hi
   .rw[Ji (by simpa using hi)]at h2
    rw[kF]at h2;split at h2 <;> cases h2
  have B:vs[i]?=some v:=by
   unfold start at h2;rw[Fp (by simpa using hi),Bt]at h2
   cases e:vs[i]? with
   |none=>rw[e]at h2;cases h2
   |some a=>rw[e]at h2;cases h2;rfl
  obtain⟨u,l,t⟩:=r.get B;have g:ps[i]?=some y:=by
   rw[<- S.pre,kG (by omega)];exact h1
  have o:ps.Nodup:=by rw[<- S.pre];exact S.nd.sublist (ZFF _ _)
  refine⟨u,t,?_⟩;rcases S.par y (LB g)with k|k
  .exact .inl ⟨k,fO o g l k⟩
  .obtain⟨c,e⟩:=iq (n:=s.heap.objs.size+1) k;refine .inr ⟨.inl k,c,e,?_⟩;have q:=x.cell y c e;rw[aL o g l (by show scope.names.lookup y≠_;rw[k];decide)]at q;exact q
 .exact e0.AW.fresh (Oc (x.above y c (LG h)))
 .unfold start;show _=N.length;rw[Bi,Ae,ZF9];omega
theorem dU{P:Program}{K:ZGX}{f:Addr}{a:Arguments}{body:List Stmt}{l kV d j AQ ct B:Value}{m od:Option Addr}
  {G5:Array (Option Value)}{sp:Sp}(C:K.lookup f=some ⟨B,od,.func (PySem.W.fnOf name qual a body scope l kV d j m AQ ct),G5⟩) (EX:PySem.W.codeIn K AQ qual=true) (S:Ay N ps scope)
  (len:∀vs H Q E,sp vs H Q E->vs.length=ps.length)
  (Kx:∀(A:Around)(outer:List Env)(s:Shared)(H:Hp)(vs:List V)(Q:VK)(E:XK),C2 k (A.deeper (envOfC qual scope s.heap.objs.size f AQ))->sp vs H Q E->
   ∃t,DQ (Dz CX P w K mg Zf N qual scope f AQ A outer s H E) body t/\t { nx:=λ_ H'=>Q .AG H',rt:=Q } (start N vs) H) :
  D7 P w K mg Zf CX (k+1) f (PySem.W.fnOf name qual a body scope l kV d j m AQ ct) ps sp:=by
 refine⟨len,λA outer s H args us vs Q E i e0 O r Ea=>?_⟩;have L:=len _ _ _ _ Ea;have p:K.In s.heap:=e0.mod.Gj.keeps λb o e=>(e0.bs b o e).1;have h:s.heap.NoLimit:=e0.mod.nolimit.keeps λb o e=>(e0.bs b o e).1;have z:∀y∈ps.zip us,scope.names.lookup y.1=some .local∨(scope.names.lookup y.1=some .cell/\((cellsFrom (s.heap.objs.size+1) scope.names []).lookup y.1).isSome=true):=λ⟨n,v⟩D=>by
  rcases S.par n (kM D).1 with q|q
  .exact .inl q
  .exact .inr ⟨q,ZFW _ _ _ (.inl q)⟩
 refine codeAny_call_function i.depth (p _ _ C) rfl S.co S.gen rfl (PySem.W.codeRec_of p EX) (O _ _ _ _ ?_);refine wpAny_newFunctionEnv_cells S.kind z λenv M s1 x=>?_;subst M;refine⟨h.keeps x.toInCall.keep,codeAny_func ?_⟩;obtain⟨t,F,G⟩:=Kx A outer s H vs Q E (i.deeper _) Ea;have I:Inv (Dz CX P w K mg Zf N qual scope f AQ A outer s H E) [] (start N vs) H s1:=tJ S i.hd e0 L r x;refine rD (F [] s1 (start N vs) H _ I G) (λR s' c=>?_) λe s' c=>c;have fin:∀{σ':St}{H':Hp}{v:V}{u:Value},Inv (Dz CX P w K mg Zf N qual scope f AQ A outer s H E) [] σ' H' s'->RelV v u->Q v H'->CE outer P w H s Q u s':=
  λ{σ' H' v u}J g q=>⟨v,H',J.os,J.bare,J.base,J.AW,g,q⟩
 cases R with
 |ret u=>
  obtain⟨v,σ',H',J,g,q⟩:=c;exact fin J g q
 |next=>
  obtain⟨σ',H',J,q⟩:=c;exact fin (v:=V.AG) (u:=Value.none) J rfl q
 |brk=>
  obtain⟨_,_,_,q⟩:=c;exact False.elim q
 |cont=>
  obtain⟨_,_,_,q⟩:=c;exact False.elim q
section
variable{p:Pos}{t:TA}{id T:String}{r:List V->Hp->VK->Prop}
def DB(r:List V->Hp->VK->Prop)(t:TA):TE:=λZ H Q=>t Z H λvs H1=>r vs H1 Q
end
end L2
namespace HT
variable{E Q:Value->Shared->Prop}{sl t:Addr}{v vl vu:Value}{hi o:Option Int}
section
open PySem.SeqAt
open PySem.AutoSeq1 (wpAny_loadPart')
open PySem.MeetsSeq PySem.MeetsSeq2 PySem.MeetsSeq3
end
section
variable{prog:Program}{w:World}{A:Around}{s:Shared}
theorem ZAY{b:Addr}{vs ws:List Value}(h:IsTup s.heap t vs.toArray)(i:IsTup s.heap b ws.toArray)(f:vs≠[])
  (h1:ws=[]->Q (.ref t) s) (h2:ws≠[]->Q (.ref s.heap.objs.size) { s with heap:=s.heap.push { cls:=.type "tuple", data:=.seq (vs++ws).toArray } })
  (EY:vs.length+ws.length<=sizeLine):wpAny (model prog w) A (binaryOp .Add (.ref t) (.ref b)) Q E s:=by
 obtain⟨⟨cls,dd,data,sl⟩,ho,g,n,hd⟩:=id h;obtain⟨⟨ZET,PY,c,GC⟩,DJ,IZ,d,a⟩:=id i;simp only at g hd IZ a;subst g hd IZ a;have e:vs.toArray++ws.toArray=(vs++ws).toArray:=by simp
 by_cases hw:ws=[]
 .exact concat_meets ⟨_,ho,rfl⟩ ⟨_,DJ,rfl⟩ ZBA seq_tuple_add ka kY (kX _ _)
   (tuple_addW1 t b vs.toArray ws.toArray n d dd PY sl GC (by simpa using f) (by simp[hw])) ⟨ho,DJ,h1 hw⟩
 .refine concat_meets ⟨_,ho,rfl⟩ ⟨_,DJ,rfl⟩ ZBA seq_tuple_add ka kY (kX _ _)
   (tuple_addW2 t b vs.toArray ws.toArray n d dd PY sl GC (by simpa using f) (by simpa using hw) (by rw[Bv,Bv];exact EY)) ⟨ho,DJ,?_⟩
  rw[e];exact h2 hw
noncomputable def Ax(n d:Nat):Option Int->Nat
 |none=>d
 |some v=>if v<0 then(v+(n:Int)).toNat else min v.toNat n
theorem Pk(n d:Nat):Ax n d none=d:=rfl
theorem JM(n d k:Nat):Ax n d (some (k:Int))=min k n:=by
 show(if(k:Int)<0 then((k:Int)+(n:Int)).toNat else min (k:Int).toNat n)=min k n
 rw[mL (by omega),S6]
theorem zj(n d:Nat)(hd:d<=n)(o:Option Int):Ax n d o<=n:=by
 cases o with
 |none=>exact hd
 |some v=>
  show(if v<0 then(v+(n:Int)).toNat else min v.toNat n)<=n
  by_cases a:v<0
  .rw[o9 a];omega
  .rw[mL a];exact ZFL _ _
theorem jF(v:Int)(n d:Nat):(if v<0 then max (v+(n:Int)) 0 else min v (n:Int))=((Ax n d (some v):Nat):Int):=by
 show(if v<0 then max (v+(n:Int)) 0 else min v (n:Int))=(((if v<0 then(v+(n:Int)).toNat else min v.toNat n):Nat):Int)
 by_cases a:v<0
 .simp only[o9 a];omega
 .simp only[mL a];omega
theorem ug(lo hi:Option Int)(n:Nat):Builtin.Slice.sliceAdjust lo hi 1 (n:Int)=(((Ax n 0 lo:Nat):Int),((Ax n n hi:Nat):Int)):=by
 have h1:¬ ((1:Int)<0):=by omega
 unfold Builtin.Slice.sliceAdjust;simp only[h1,ZB3];refine Z5 ?_ ?_
 .cases lo with
  |none=>rfl
  |some v=>exact jF v n 0
 .cases hi with
  |none=>rfl
  |some v=>exact jF v n n
theorem ZCG(i j:Nat):Builtin.Slice.slicePlaces (i:Int) (j:Int) 1=j - i:=by
 unfold Builtin.Slice.slicePlaces;have h1:(1:Int) > 0:=by omega
 simp only[h1,ZAm,Int.ediv_one];split <;> omega
theorem aV{Q:Option Int->Shared->Prop}(p:IsPart v o)(h:Q o s):wpAny (model prog w) A (Builtin.Slice.slicePartIndex v) Q E s:=by
 cases p with
 |none=>exact slicePart_none h
 |int i t=>exact slicePart_int h
theorem bT{lo:Option Int}{n:Nat}{Q:Int×Int×Nat->Shared->Prop}(b:s.heap.IsSliceOf sl vl vu .none)(pl:IsPart vl lo)(a:IsPart vu hi)
  (h:Q (((Ax n 0 lo:Nat):Int),1,Ax n n hi - Ax n 0 lo) s):wpAny (model prog w) A (Builtin.Slice.sliceApplied (.ref sl) (pure (n:Int))) Q E s:=by
 obtain⟨os,KS,Pp,OG⟩:=id b;unfold Builtin.Slice.sliceApplied Builtin.Slice.sliceFields;refine ko (ko (yU KS OG (x:=vl) rfl (ko (yU KS OG (x:=vu) rfl (ko (yU KS OG (x:=.none) rfl (mD ?_)))))));refine ko (slicePart_none ?_);show wpAny _ _ (if((1:Int) == 0)=true then _ else _) _ _ s
 rw[mL (by decide)];refine ko (aV pl (ko (aV a (ko (mD ?_)))));show wpAny _ _ (match Builtin.Slice.sliceAdjust lo hi 1 (n:Int)with|(lo,hi)=>pure (lo,(1:Int),Builtin.Slice.slicePlaces lo hi 1)) _ _ s
 rw[ug lo hi n];show wpAny _ _ (pure (((Ax n 0 lo:Nat):Int),(1:Int),Builtin.Slice.slicePlaces ((Ax n 0 lo:Nat):Int) ((Ax n n hi:Nat):Int) 1)) _ _ s;rw[ZCG];exact mD h
theorem rW(xs:Array Value)(i k:Nat):((List.range k).filterMap λ(m:Nat)=>xs[((i:Int)+(m:Int) * 1).toNat]?).toArray=((xs.toList.drop i).take k).toArray:=by
 have e:(λ(m:Nat)=>xs[((i:Int)+(m:Int) * 1).toNat]?)=λm=>xs[i+m]?:=by
  funext m
  have:((i:Int)+(m:Int) * 1).toNat=i+m:=by omega
  rw[this]
 rw[e];have:=pick_run xs i k;rw[ZF2]at this;have a:((λx=>xs[x]?) ∘ λx=>i+x)=λm=>xs[i+m]?:=rfl;rw[a]at this;rw[this]
theorem md{items:Array Value}{lo:Option Int}(a:IsTup s.heap t items)(c:s.heap.IsSliceOf sl vl vu .none)(pl:IsPart vl lo)(d:IsPart vu hi)
  (hw:¬ (Ax items.size 0 lo=0/\Ax items.size items.size hi=items.size))
  (h:Q (.ref s.heap.objs.size) { s with heap:=s.heap.push { cls:=.type "tuple", data:=.seq ((items.toList.drop (Ax items.size 0 lo)).take (Ax items.size items.size hi - Ax items.size 0 lo)).toArray } })
  (EY:items.size<=sizeLine):wpAny (model prog w) A (getItem (.ref t) (.ref sl)) Q E s:=by
 have b:sizeOk (.seq ((items.toList.drop (Ax items.size 0 lo)).take (Ax items.size items.size hi - Ax items.size 0 lo)).toArray):=by
  show((items.toList.drop (Ax items.size 0 lo)).take (Ax items.size items.size hi - Ax items.size 0 lo)).toArray.size<=sizeLine;rw[Bv,Bu,D5,Dm];omega
 have j:Ax items.size items.size hi<=items.size:=zj _ _ (B4 _) hi;obtain⟨os,KS,Pp,OG⟩:=id c;have e:s.TypeIs (.ref sl) "slice" := ⟨os,KS,Pp⟩;unfold getItem
 try with_reducible refine tL ?_
 first|refine ko (mD ?_)|skip
 refine ko (wpAny_sequenceKey a.typeIs (by decide) ?_);refine ko (tj (name:=Str.ofString "__getitem__") a.typeIs Z7
  (sC Z7 a.typeIs entry_tuple_getitem ?_ (args_tuple_getitem _ _)))
 show wpAny _ _ (Builtin.Tuple.tupleItemsOf (.ref t) >>= _) _ _ s;refine ko (tupleItemsOf_ a ?_);refine ko (ZAA e ?_);rw[o9 (by decide)];refine ko (bT c pl d ?_);have f:¬ ((((Ax items.size 0 lo:Nat):Int) == 0 && (1:Int) == 1 && (Ax items.size items.size hi - Ax items.size 0 lo) == items.size)=true):=by
  intro q;rw[CU,CU]at q;have i:((Ax items.size 0 lo:Nat):Int)=0:=eq_of_beq q.1.1;have g:Ax items.size items.size hi - Ax items.size 0 lo=items.size:=eq_of_beq q.2;exact hw ⟨by omega,by omega⟩
 show wpAny _ _ (if(((Ax items.size 0 lo:Nat):Int) == 0 && (1:Int) == 1 && (Ax items.size items.size hi - Ax items.size 0 lo) == items.size)=true then _ else _) _ _ s
 rw[mL f,rW]
 first
  |exact ko (m:=Builtin.Tuple.tupleExact _) (qm (mD ⟨_,rfl,mD h⟩) b)
  |exact ko (m:=Builtin.Tuple.tupleExact _) (qm (ko (mD (mD ⟨_,rfl,mD h⟩))) b)
  |exact ko (ko (m:=Builtin.Tuple.tupleExact _) (qm (mD (mD ⟨_,rfl,mD h⟩)) b))
  |exact ko (ko (m:=Builtin.Tuple.tupleExact _) (qm (mD ⟨_,rfl,mD h⟩) b))
end
end HT
namespace L2
variable{X:Cx}{pos:Pos}{xs ys:List V}{A5 its' us:List Value}{α:Type}{j n t':Nat}{i:Int}{Ze:ZGY}{Z:St}{H:Hp}{s:Shared}{A:Around}{x y:V}{u v:Value}{T:String}
abbrev TO:=St->Hp->(Option Int->Hp->Prop)->Prop
def PO(X:Cx)(e:Option Expr)(t:TO):Prop:=
 ∀(Ze:ZGY)(s:Shared)(Z:St)(H:Hp)(Q:Option Int->Hp->Prop),Inv X Ze Z H s->t Z H Q->
  wpAny (model X.prog X.w) X.A (evalPart e X.env) (λu s'=>∃o H',Inv X Ze Z H' s'/\IsPart u o/\Q o H') X.xe s
def Tp:TO:=λ_ H Q=>Q none H
def TR(t:TE):TO:=λZ H Q=>t Z H λx H1=>∃i,x=.int i/\Q (some i) H1
section
variable{e:Expr}{te:TE}{lo hi:Option Expr}{tl th:TO}{p2:Pos}
def KU(X:Cx)(r:V->Option Int->Option Int->Hp->VK->Prop):Prop:=
 ∀(Ze:ZGY)(s:Shared)(Z:St)(H:Hp)(x:V)(v vl vu:Value)(lo hi:Option Int)(sl:Addr)(Q:VK),Inv X Ze Z H s->RelV x v->s.heap.IsSliceOf sl vl vu .none->IsPart vl lo->IsPart vu hi->r x lo hi H Q->
  ∃T id,typeLookup (.type T) "__getitem__"=pure (some (.builtin id))/\s.TypeIs v T/\wpAny (model X.prog X.w) X.A (getItem v (.ref sl)) (EP X Ze Z Q) X.xe s
def Lq(r:V->Option Int->Option Int->Hp->VK->Prop)(te:TE)(tl th:TO):TE:=λZ H Q=>te Z H λx H1=>tl Z H1 λl H2=>th Z H2 λu H3=>r x l u H3 Q
def CN(xs:List V)(lo hi:Option Int):List V:=(xs.drop (HT.Ax xs.length 0 lo)).take (HT.Ax xs.length xs.length hi - HT.Ax xs.length 0 lo)
theorem hU(xs:List V)(lo hi:Option Int):(CN xs lo hi).length<=xs.length:=by
 unfold CN;rw[Bu,D5];omega
def ZA3(K:ZGX):V->Option Int->Option Int->Hp->VK->Prop:=λx lo hi H Q=>∃a xs,x=.ref a/\AN K H a xs/\
 ¬ (HT.Ax xs.length 0 lo=0/\HT.Ax xs.length xs.length hi=xs.length)/\∀p,H p=none->Q (.ref p) (upd H p (.tup (CN xs lo hi)))
theorem dk:KU X (ZA3 X.K):=by
 intro Ze s Z H x v vl vu lo hi sl Q I g j pl i h;obtain⟨a,xs,rfl,hx,hw,q⟩:=h;cases g;obtain⟨A5,r,e,d⟩:=I.tuple hx;have c:A5.toArray.size=xs.length:=by rw[Bv];exact r.length.symm
 refine⟨"tuple", _,PyProof.Rows.slot_tuple_getitem.lookup,e.typeIs,?_⟩;refine HT.md e j pl i (by rw[c];exact hw) ?_ (by rw[c];exact d);rw[c];refine⟨.ref s.heap.objs.size,_,I.laid (t':=s.toks) (o:=.tup (CN xs lo hi)) (λb ob q=>BE _ q) (B4 _) ?_,rfl,q _ (I.AW.fresh (B4 _))⟩;exact⟨Bz (hU xs lo hi) d,_,(r.drop (HT.Ax xs.length 0 lo)).take (HT.Ax xs.length xs.length hi - HT.Ax xs.length 0 lo),⟨IsTup.new _ _,λRw f=>by rw[BY _ rfl]at f;cases f;rfl⟩⟩
def xY(K:ZGX):R2:=λx y H Q=>∃a b xs ys,x=.ref a/\y=.ref b/\AN K H a xs/\AN K H b ys/\xs≠[]/\xs.length+ys.length<=sizeLine/\
 (ys=[]->Q (.ref a) H)/\(ys≠[]->∀p,H p=none->Q (.ref p) (upd H p (.tup (xs++ys))))
theorem Vals.QM(r:Vals xs us):us=[]↔xs=[]:=by
 cases r with
 |nil=>simp
 |cons _ _=>simp
theorem ZDI:BD X (binaryOp .Add) (xY X.K):=by
 intro Ze s Z H x y v u Q I i g h;obtain⟨a,b,xs,ys,rfl,rfl,m,l,hx,e,k,j⟩:=h;cases i;cases g;obtain⟨A5,d,p1,_⟩:=I.tuple m;obtain⟨Bg,c,p2,_⟩:=I.tuple l;refine HT.ZAY p1 p2 (λz=>hx (d.QM.mp z)) (λz=>⟨.ref a,H,I,rfl,k (c.QM.mp z)⟩) (λz=>?_) (by rw[<- d.length,<- c.length];exact e);refine⟨.ref s.heap.objs.size,_,I.laid (t':=s.toks) (o:=.tup (xs++ys)) (λb ob q=>BE _ q) (B4 _) ?_,rfl,j (λw=>z (c.QM.mpr w)) _ (I.AW.fresh (B4 _))⟩;exact⟨by rw[Bi];exact e,_,d.append c,⟨IsTup.new _ _,λRw f=>by rw[BY _ rfl]at f;cases f;rfl⟩⟩
end
noncomputable def G8(n:Nat)(i:Int):Option Nat:=if 0<=i then(if i<n then some i.toNat else none)else if -(n:Int)<=i then some (i+n).toNat else none
def BU(xs:List α)(i:Int):Option α:=(G8 xs.length i).bind λj=>xs[j]?
theorem jq(h:G8 n i=some j):seqIndex? i n=some j/\j<n/\-(n:Int)<=i/\i<n:=by
 unfold G8 at h
 by_cases a:0<=i
 .rw[o9 a]at h
  by_cases h1:i<n
  .rw[o9 h1]at h;have e:i.toNat=j:=Be h;exact⟨by rw[seqIndex_of a h1,e],by omega,by omega,h1⟩
  .rw[mL h1]at h;cases h
 .rw[mL a]at h
  by_cases h1:-(n:Int)<=i
  .rw[o9 h1]at h;have e:(i+n).toNat=j:=Be h;exact⟨by rw[seqIndex_neg (by omega) h1,e],by omega,h1,by omega⟩
  .rw[mL h1]at h;cases h
theorem VW{xs:List α}{v:α}(h:BU xs i=some v):∃j,seqIndex? i xs.length=some j/\xs[j]?=some v/\j<xs.length/\-(xs.length:Int)<=i/\i<xs.length:=by
 unfold BU at h;cases e:G8 xs.length i with
 |none=>rw[e]at h;cases h
 |some j=>
  rw[e]at h;obtain⟨h1,h2,b,a⟩:=jq e;exact⟨j,h1,h,h2,b,a⟩
theorem IA{xs:List α}{v:α}(h:xs[j]?=some v):BU xs (j:Int)=some v:=by
 have a:j<xs.length:=(List.getElem?_eq_some_iff.mp h).1;have e:G8 xs.length (j:Int)=some j:=by
  unfold G8;rw[o9 (by omega),o9 (by omega)];simp
 unfold BU;rw[e];exact h
theorem zq(xs:List α)(v:α):BU (xs++[v]) (-1)=some v:=by
 have a:(xs++[v]).length=xs.length+1:=by simp
 have e:G8 (xs++[v]).length (-1)=some xs.length:=by
  unfold G8;rw[a,mL (by decide),o9 (by omega)]
  congr 1
  omega
 unfold BU;rw[e];show(xs++[v])[xs.length]?=some v;simp
def Sl(b:Expr):Prop:=∀o i,subscripted b false o i=operate [o,i] (getItem o i)
def Gs(X:Cx)(r:R2):Prop:=
 ∀(value a:Expr)(Ze:ZGY)(s:Shared)(Z:St)(H:Hp)(x y:V)(v u:Value)(Q:VK),Inv X Ze Z H s->RelV x v->RelV y u->r x y H Q->
  subscripted a false v u=operate [v,u] (getItem v u)->wpAny (model X.prog X.w) X.A (subscriptTail value a v u) (EP X Ze Z Q) X.xe s
def IY(X:Cx)(id:String)(r:V->List V->Hp->VK->Prop):Prop:=
 ∀(Ze:ZGY)(s:Shared)(Z:St)(H:Hp)(x:V)(xs:List V)(v:Value)(us:List Value)(Q:VK),Inv X Ze Z H s->RelV x v->Vals xs us->r x xs H Q->
  wpAny (model X.prog X.w) X.A (call (.builtin id) (v::us)) (EP X Ze Z Q) X.xe s
section
variable{a b:Expr}{ta tb:TE}
def NW(K:ZGX):R2:=λx y H Q=>∃p xs i v,x=.ref p/\y=.int i/\AO K H p xs/\BU xs i=some v/\Q v H
def LV(K:ZGX):R2:=λx y H Q=>∃p xs i v,x=.ref p/\y=.int i/\AN K H p xs/\BU xs i=some v/\Q v H
def oo:R2:=λx y H Q=>∃z i c,x=.str z/\y=.int i/\z.length<=sizeLine/\BU z.cps.toList i=some c/\Q (.str ⟨#[c]⟩) H
theorem CL:Gs X (NW X.K):=by
 intro value a Ze s Z H x y v u Q I g f h c;obtain⟨p,xs,i,z,rfl,rfl,k,m,q⟩:=h;cases g;obtain⟨t,rfl⟩:=f;obtain⟨A5,r,pl,A⟩:=I.list k;obtain⟨j,h1,h2,B,o,n⟩:=VW m;obtain⟨w,e,Va⟩:=r.get h2;have l:=r.length;have hn:=HI;have fin:EP X Ze Z Q w s:=⟨z,H,I,Va,q⟩
 by_cases d:0<=i
 .have b:i.toNat=j:=by
   rw[seqIndex_of d n]at h1;exact Be h1
  exact item_listR pl.isList d (by omega) (by rw[b];simpa using e) fin c
 .have b:(i+(A5.toArray.size:Int)).toNat=j:=by
   rw[seqIndex_neg (by omega) o]at h1;rw[Bv,<- l];exact Be h1
  exact subscriptTail_builtinR (x:=w) pl.isList.typeIs slot_list_getitem.lookup
   (wpAny_getItem_list_neg (Q:=λr s'=>r=w/\EP X Ze Z Q r s') pl.isList (by omega) (by rw[Bv] <;> omega) (by omega) (by rw[b];simpa using e) ⟨rfl,fin⟩) c
theorem A8:Gs X (LV X.K):=by
 intro value a Ze s Z H x y v u Q I c b h d;obtain⟨p,xs,i,z,rfl,rfl,e,g,q⟩:=h;cases c;obtain⟨t,rfl⟩:=b;obtain⟨A5,r,pl,l⟩:=I.tuple e;obtain⟨j,h1,h2,o,n,m⟩:=VW g;obtain⟨w,k,Va⟩:=r.get h2;have f:=r.length;have hn:=HI;have fin:EP X Ze Z Q w s:=⟨z,H,I,Va,q⟩;exact subscriptTail_builtinR (x:=w) pl.typeIs slot_tuple_getitem.lookup
  (getItem_tuple (j:=j) (Q:=λr s'=>r=w/\EP X Ze Z Q r s') pl (by omega) (by omega) (by rw[Bv,<- f];exact h1) (by simpa using k) ⟨rfl,fin⟩) d
theorem tF:Gs X oo:=by
 intro value a Ze s Z H x y v u Q I d b h e;obtain⟨z,i,c,rfl,rfl,o,g,q⟩:=h;obtain⟨t,rfl⟩:=d;obtain⟨t',rfl⟩:=b;obtain⟨j,h1,h2,p,l,k⟩:=VW g;have f:z.cps.toList.length=z.length:=by simp[Str.length]
 rw[f]at h1 l k;have hn:=HI;exact tail_any (typeIs_str s z t) slot_str_getitem.lookup (getItem_str (c:=c) (by
  have n:decide (i < -(2 ^ 63:Int))=false:=p6 (by omega);have m:decide (i>=2 ^ 63)=false:=p6 (by omega);rw[n,m,Bool.or_false]) (by rw[h1];simpa using h2) ⟨.str ⟨#[c]⟩,H,I.tok _,⟨_,rfl⟩,q⟩) e
theorem ZEC(A5:List Value)(n j:Nat)(u:Value):Obj.mapSeq (·.setIfInBounds j u) { cls:=.type "list", data:=.seq A5.toArray n }={ cls:=.type "list", data:=.seq (A5.set j u).toArray n }:=by
 simp[Obj.mapSeq]
theorem Inv.lst{Ze:ZGY}{Z:St}{H:Hp}{s:Shared}{p:Addr}{xs:List V}(I:Inv X Ze Z H s)(h:H p=some (.lst xs)):
  ∃(A5:List Value)(n:Nat),Vals xs A5/\s.heap.get? p=some { cls:=.type "list", data:=.seq A5.toArray n }/\xs.length<=sizeLine:=by
 obtain⟨z,A5,n,r,e⟩:=I.AW p _ h;exact⟨A5,n,r,e,z⟩
theorem Inv.mI{p:Addr}{a:Nat}{f:Obj->Obj}(I:Inv X Ze Z H s)(h:H p=some (.lst xs))
  (ho:s.heap.get? p=some { cls:=.type "list", data:=.seq A5.toArray n }) (hf:f { cls:=.type "list", data:=.seq A5.toArray n }={ cls:=.type "list", data:=.seq its'.toArray a }) (r:Vals ys its') (hz:ys.length<=sizeLine) (t:Nat) :
  Inv X Ze Z (upd H p (.lst ys)) { s with heap:=s.heap.update p f,toks:=t }:=by
 have e:(s.heap.update p f).get? p=some { cls:=.type "list", data:=.seq its'.toArray a }:=by
  rw[E7 f ho (by rw[hf] <;> rfl),hf]
 refine I.write (x:=p) (e:=p) (by rw[h];trivial) (.inl rfl) (λb u c q=>(DN _ _ (BP c)).trans q) ⟨_,e⟩ ?_;exact⟨hz,its',a,r,e⟩
def vZ:V->V->V->Hp->(Hp->Prop)->Prop:=λo i v H Q=>∃p xs k j,o=.ref p/\i=.int k/\H p=some (.lst xs)/\G8 xs.length k=some j/\Q (upd H p (.lst (xs.set j v)))
theorem set_list:Vl X vZ:=by
 intro Ze s Z H o i v z A u Q I m w l h;obtain⟨p,xs,k,j,rfl,rfl,c,y,q⟩:=h;cases m;obtain⟨t,rfl⟩:=w;obtain⟨A5,n,r,ho,x⟩:=I.lst c;obtain⟨h1,h2,e,d⟩:=jq y;have a:=r.length;have hn:=HI;have g:Inv X Ze Z (upd H p (.lst (xs.set j v))) { s with heap:=s.heap.update p (Obj.mapSeq (·.setIfInBounds j u)) }:=
  I.mI c ho (ZEC A5 n j u) (r.set l j) (by rw[Yw];exact x) s.toks
 by_cases f:0<=k
 .have b:k.toNat=j:=by
   rw[seqIndex_of f d]at h1;exact Be h1
  exact PySem.W.ki_setAt ho f (by omega) (by rw[Bv,<- a];exact d) (by rw[b];exact⟨_,g,q⟩)
 .have b:(k+(A5.toArray.size:Int)).toNat=j:=by
   rw[seqIndex_neg (by omega) e]at h1;rw[Bv,<- a];exact Be h1
  exact PySem.W.ki_setBack ho (by omega) (by rw[Bv,<- a];exact e) (by omega) (by rw[b];exact⟨_,g,q⟩)
theorem ml(lo hi:Option Int)(n:Nat):(sliceBounds lo hi none n).1=((HT.Ax n 0 lo:Nat):Int)/\(sliceBounds lo hi none n).2.1=((HT.Ax n n hi:Nat):Int)/\(sliceBounds lo hi none n).2.2=1:=by
 refine⟨?_,?_,rfl⟩
 .cases lo with
  |none=>simp[sliceBounds,HT.Ax]
  |some i=>
   simp only[sliceBounds,HT.Ax,ZFP,show(1:Int) > 0 by decide,ZAm]
   by_cases h:i<0
   .simp only[h,ZAm] <;> omega
   .simp only[h,ZB3] <;> omega
 .cases hi with
  |none=>simp[sliceBounds,HT.Ax]
  |some i=>
   simp only[sliceBounds,HT.Ax,ZFP,show(1:Int) > 0 by decide,ZAm]
   by_cases h:i<0
   .simp only[h,ZAm] <;> omega
   .simp only[h,ZB3] <;> omega
theorem ZAL(A5:List Value)(lo hi:Option Int):slicePick A5.toArray lo hi none=((A5.drop (HT.Ax A5.length 0 lo)).take (HT.Ax A5.length A5.length hi - HT.Ax A5.length 0 lo)).toArray:=by
 obtain⟨h1,h2,a⟩:=ml lo hi A5.toArray.size;unfold slicePick;rw[h1,h2,a];simp only[sliceRange_one,pick_run,Bv] <;> rfl
def W0(K:ZGX):V->Option Int->Option Int->Hp->VK->Prop:=λx lo hi H Q=>∃a xs,x=.ref a/\AO K H a xs/\∀p,H p=none->Q (.ref p) (upd H p (.lst (CN xs lo hi)))
theorem HQ:KU X (W0 X.K):=by
 intro Ze s Z H x v vl vu lo hi sl Q I e i pl f h;obtain⟨a,xs,rfl,hx,q⟩:=h;cases e;obtain⟨A5,r,d,g⟩:=I.list hx;have c:=r.length;refine⟨"list", _,slot_list_getitem.lookup,d.isList.typeIs,?_⟩;refine wpAny_getItem_list_slice d.isList i pl f .none (by simp) ?_ (by rw[Bv] <;> omega)
 rw[ZAL,<- c];refine⟨.ref s.heap.objs.size,_,I.laid (t':=s.toks) (o:=.lst (CN xs lo hi)) (λb ob q=>BE _ q) (B4 _) ?_,rfl,q _ (I.AW.fresh (B4 _))⟩;exact⟨Bz (hU xs lo hi) g,_,0,(r.drop (HT.Ax xs.length 0 lo)).take (HT.Ax xs.length xs.length hi - HT.Ax xs.length 0 lo),BY _ rfl⟩
noncomputable def EB:V->Bool
 | .AG=>true
 | .bl _=>true
 | .int _=>true
 | .str _=>true
 |_=>false
noncomputable def Dg:V->V->Bool
 | .AG,.AG=>true
 | .bl a,.bl b=>a == b
 | .bl a,.int b=>(if a then 1 else 0) == b
 | .int a,.bl b=>a == (if b then 1 else 0)
 | .int a,.int b=>a == b
 | .str a,.str b=>a == b
 |_,_=>false
theorem QL(d:RelV y u)(c:RelV x v)(f:EB y=true)(e:EB x=true):SeqAt.EqAt A s u v (Dg y x):=by
 cases y with
 |AG=>
  cases d;cases x with
  |AG=>cases c;exact SeqAt.EqAt.same _
  |bl b=>cases c;exact SeqAt.EqAt.none_bool b
  |int b=>obtain⟨t,rfl⟩:=c;exact SeqAt.EqAt.none_int b t
  |str b=>obtain⟨t,rfl⟩:=c;exact SeqAt.EqAt.none_str b t
  |_=>exact absurd (show false=true from e) DC
 |bl a=>
  cases d;cases x with
  |AG=>cases c;exact SeqAt.EqAt.bool_none a
  |bl b=>cases c;exact SeqAt.EqAt.bool_bool a b
  |int b=>obtain⟨t,rfl⟩:=c;exact SeqAt.EqAt.bool_int a b t
  |str b=>obtain⟨t,rfl⟩:=c;exact SeqAt.EqAt.bool_str a b t
  |_=>exact absurd (show false=true from e) DC
 |int a=>
  obtain⟨t',rfl⟩:=d;cases x with
  |AG=>cases c;exact SeqAt.EqAt.int_none a t'
  |bl b=>cases c;exact SeqAt.EqAt.int_bool a t' b
  |int b=>obtain⟨t,rfl⟩:=c;exact SeqAt.EqAt.int_int a t' b t
  |str b=>obtain⟨t,rfl⟩:=c;exact SeqAt.EqAt.int_str a t' b t
  |_=>exact absurd (show false=true from e) DC
 |str a=>
  obtain⟨t',rfl⟩:=d;cases x with
  |AG=>cases c;exact SeqAt.EqAt.str_none a t'
  |bl b=>cases c;exact SeqAt.EqAt.str_bool a t' b
  |int b=>obtain⟨t,rfl⟩:=c;exact SeqAt.EqAt.str_int a t' b t
  |str b=>obtain⟨t,rfl⟩:=c;exact SeqAt.EqAt.str_str a t' b t
  |_=>exact absurd (show false=true from e) DC
 |_=>exact absurd (show false=true from f) DC
def Df(x:V)(u:Value):Bool:=match u with
 | .none=>Dg .AG x
 | .bool b=>Dg (.bl b) x
 | .int i _=>Dg (.int i) x
 | .str z _=>Dg (.str z) x
 |_=>false
theorem bh(r:RelV y u)(f:EB y=true):Df x u=Dg y x:=by
 cases y with
 |AG=>cases r;rfl
 |bl b=>cases r;rfl
 |int i=>obtain⟨t,rfl⟩:=r;rfl
 |str z=>obtain⟨t,rfl⟩:=r;rfl
 |_=>exact absurd (show false=true from f) DC
theorem N3{x:V}:∀{xs:List V}{us:List Value},Vals xs us->xs.all EB=true->us.any (Df x)=xs.any λy=>Dg y x
 |_,_,.nil,_=>rfl
 |y::xs,u::us,.cons r t,f=>by
  rw[S7,CU]at f;rw[List.any_cons,List.any_cons,bh r f.1,N3 t f.2]
theorem Kt{A:Around}{s:Shared}{x:V}{v:Value}(b:RelV x v)(c:EB x=true):∀{xs:List V}{us:List Value},Vals xs us->xs.all EB=true->∀u∈us,SeqAt.EqAt A s u v (Df x u)
 |_,_,.nil,_=>λu a=>by cases a
 |y::xs,u::us,.cons r t,f=>λd a=>by
  rw[S7,CU]at f;rcases List.mem_cons.mp a with rfl|a
  .rw[bh r f.1];exact QL r b f.1 c
  .exact Kt b c t f.2 d a
def Fi(x:V)(xs:List V):Bool:=xs.any λy=>Dg y x
def HW(K:ZGX)(neg:Bool):R2:=λx y H Q=>∃p xs,y=.ref p/\(AO K H p xs∨AN K H p xs)/\EB x=true/\xs.all EB=true/\Q (.bl (if neg then !Fi x xs else Fi x xs)) H
theorem Hm:BD X (compareOp .In) (HW X.K false):=by
 intro Ze s Z H x y v u Q I b d h;obtain⟨p,xs,rfl,a,c,fs,q⟩:=h;cases d;rcases a with a|a
 .obtain⟨A5,r,pl,e⟩:=I.list a;refine SeqAt.in_listAt (Df x) pl.isList (λw hw=>Kt b c r fs w (by simpa using hw)) ⟨.bl _,H,I,rfl,?_⟩
  rw[show A5.toArray.any (Df x)=A5.any (Df x) by simp,N3 r fs];exact q
 .obtain⟨A5,r,pl,e⟩:=I.tuple a;refine SeqAt.in_tupleAt (Df x) pl (λw hw=>Kt b c r fs w (by simpa using hw)) ⟨.bl _,H,I,rfl,?_⟩
  rw[show A5.toArray.any (Df x)=A5.any (Df x) by simp,N3 r fs];exact q
theorem R7:BD X (compareOp .NotIn) (HW X.K true):=by
 intro Ze s Z H x y v u Q I b d h;obtain⟨p,xs,rfl,a,c,fs,q⟩:=h;cases d;rcases a with a|a
 .obtain⟨A5,r,pl,e⟩:=I.list a;refine SeqAt.notIn_listAt (Df x) pl.isList (λw hw=>Kt b c r fs w (by simpa using hw)) ⟨.bl _,H,I,rfl,?_⟩
  rw[show A5.toArray.any (Df x)=A5.any (Df x) by simp,N3 r fs];exact q
 .obtain⟨A5,r,pl,e⟩:=I.tuple a;refine SeqAt.notIn_tupleAt (Df x) pl (λw hw=>Kt b c r fs w (by simpa using hw)) ⟨.bl _,H,I,rfl,?_⟩
  rw[show A5.toArray.any (Df x)=A5.any (Df x) by simp,N3 r fs];exact q
theorem My:Cc X (.builtin "len") (λxs H Q=>∃p ys,xs=[.ref p]/\(AO X.K H p ys∨AN X.K H p ys)/\Q (.int ys.length) H):=by
 intro Ze s Z H xs us Q I r h;obtain⟨p,ys,rfl,b,q⟩:=h;obtain⟨u,rfl,d⟩:=vals1 r;cases d;have hn:=HI;rcases b with b|b
 .obtain⟨A5,c,pl,e⟩:=I.list b;have a:=c.length;exact Calls.call_len_list pl.isList (by simp only[Bv] <;> omega) ⟨.int ys.length,H,I.tok _,⟨s.toks+1,by rw[Bv,a]⟩,q⟩
 .obtain⟨A5,c,pl,e⟩:=I.tuple b;have a:=c.length;exact len_tuple pl (by simp only[Bv] <;> omega) ⟨.int ys.length,H,I.tok _,⟨s.toks+1,by rw[Bv,a]⟩,q⟩
theorem T4:Cc X (.builtin "len") (λxs H Q=>∃z,xs=[.str z]/\z.length<=sizeLine/\Q (.int z.length) H):=by
 intro Ze s Z H xs us Q I r h;obtain⟨z,rfl,a,q⟩:=h;obtain⟨u,rfl,t,rfl⟩:=vals1 r;have hn:=HI;exact len_str (by omega) ⟨.int z.length,H,I.tok _,⟨_,rfl⟩,q⟩
theorem IM:Cc X (.type "list") (λxs H Q=>∃p ys,xs=[.ref p]/\(AO X.K H p ys∨AN X.K H p ys)/\∀l,H l=none->Q (.ref l) (upd H l (.lst ys))):=by
 intro Ze s Z H xs us Q I r h;obtain⟨p,ys,rfl,f,q⟩:=h;obtain⟨u,rfl,j⟩:=vals1 r;cases j;have fin:∀(A5:List Value),Vals ys A5->ys.length<=sizeLine->∀(h':Heap)(c:Nat),(∀b o',s.heap.get? b=some o'->h'.get? b=some o')->
   h'.get? s.heap.objs.size=some { cls:=.type "list", dict:=none,data:=.seq A5.toArray c,slots:=#[] }->EP X Ze Z Q (.ref s.heap.objs.size) { s with heap:=h' }:=λA5 a d h' c kp e=>
  ⟨.ref s.heap.objs.size,_,I.laid (t':=s.toks) kp (B4 _) (show CO X.prog X.w _ h' _ (.lst ys)from⟨d,A5,c,a,e⟩),rfl,q _ (I.AW.fresh (B4 _))⟩
 rcases f with f|f
 .obtain⟨A5,a,pl,d⟩:=I.list f;have g:=a.length;obtain⟨o,ho,i,n,hd⟩:=pl.isList;exact call_list_seq p (.inl rfl) ho i hd (λh' c kp e=>fin A5 a d h' c kp e) (by simp only[Bv] <;> omega)
 .obtain⟨A5,a,pl,d⟩:=I.tuple f;have g:=a.length;obtain⟨o,ho,i,n,hd⟩:=pl;exact call_list_seq p (.inr rfl) ho i hd (λh' c kp e=>fin A5 a d h' c kp e) (by simp only[Bv] <;> omega)
theorem JR:Cc X (.type "tuple") (λxs H Q=>∃p ys,xs=[.ref p]/\((AO X.K H p ys/\∀l,H l=none->Q (.ref l) (upd H l (.tup ys)))∨(AN X.K H p ys/\Q (.ref p) H))):=by
 intro Ze s Z H xs us Q I r h;obtain⟨p,ys,rfl,h⟩:=h;obtain⟨u,rfl,j⟩:=vals1 r;cases j;rcases h with⟨c,q⟩|⟨c,q⟩
 .obtain⟨A5,a,pl,d⟩:=I.list c;have f:=a.length;refine call_tuple_list pl.isList (λh' kp=>?_) (by simp only[Bv] <;> omega)
  have i:Inv X Ze Z H { s with heap:=h' }:=I.kept (t':=s.toks) kp
  have k:Inv X Ze Z (upd H h'.objs.size (.tup ys)) { s with heap:=h'.push { cls:=.type "tuple", data:=.seq A5.toArray } }:=
   i.laid (t':=s.toks) (λb o e=>BE _ e) (B4 _) (show CO X.prog X.w _ _ _ (.tup ys)from⟨d,A5,a,⟨IsTup.new _ _,λRw g=>by rw[BY _ rfl]at g;cases g;rfl⟩⟩)
  exact⟨.ref h'.objs.size,_,k,rfl,q _ (i.AW.fresh (B4 _))⟩
 .obtain⟨A5,a,pl,d⟩:=I.tuple c;exact call_tuple_same pl ⟨.ref p,H,I,rfl,q⟩
def JI(K:ZGX)(T:String)(x:V)(H:Hp):Prop:=match x with
 | .str _=>T="str"
 | .int _=>T="int"
 | .ref p=>(T="list" /\ ∃xs,AO K H p xs)∨(T="tuple" /\ ∃o,K.lookup p=some o/\o.cls=.type "tuple" /\ o.dict=none)∨
   (T="dict" /\ ((∃C9,H p=some (.dK C9))∨∃C9,H p=some (.dT C9)))∨(T="set" /\ ∃S n,H p=some (.set S n))∨(T="tuple" /\ ∃xs,H p=some (.tup xs))
 |_=>False
theorem fY(I:Inv X Ze Z H s)(r:RelV x v)(ty:JI X.K T x H):
  s.TypeIs v T/\∀a,v=.ref a->∃ob,s.heap.get? a=some ob/\ob.dict=none:=by
 cases x with
 |str z=>
  obtain⟨t,rfl⟩:=r;cases(show T="str" from ty);exact⟨typeIs_str s z t,λ_ e=>nomatch e⟩
 |int i=>
  obtain⟨t,rfl⟩:=r;cases(show T="int" from ty);exact⟨typeIs_int s i t,λ_ e=>nomatch e⟩
 |ref p=>
  cases r;rcases ty with⟨rfl,xs,f⟩|⟨rfl,o,b,g,hd⟩|⟨rfl,b⟩|⟨rfl,S,n,b⟩|⟨rfl,xs,b⟩
  .obtain⟨A5,_,pl,_⟩:=I.list f;refine⟨pl.isList.typeIs,λa e=>?_⟩;cases e;obtain⟨o,n,e,c,hd,_⟩:=pl;exact⟨o,e,hd⟩
  .refine⟨⟨o,I.CH p o b,g⟩,λa e=>?_⟩;cases e;exact⟨o,I.CH _ o b,hd⟩
  .have z:∃o,s.heap.get? p=some o/\o.ExactDict:=by
    rcases b with⟨C9,b⟩|⟨C9,b⟩
    .obtain⟨_,_,_,_,o,_,_,e,ex,_⟩:=I.AW p _ b;exact⟨o,e,ex⟩
    .obtain⟨_,_,_,_,o,_,_,e,ex,_⟩:=I.AW p _ b;exact⟨o,e,ex⟩
   obtain⟨o,e,ex⟩:=z;refine⟨⟨o,e,ex.1⟩,λa d=>?_⟩;cases d;exact⟨o,e,ex.2.1⟩
  .obtain⟨o,_,_,_,e,ex,_⟩:=I.AW p _ b;refine⟨⟨o,e,ex.1⟩,λa d=>?_⟩;cases d;exact⟨o,e,ex.2.1⟩
  .obtain⟨_,A5,_,⟨o,e,c,_⟩,h⟩:=I.AW p _ b;refine⟨⟨o,e,c⟩,λa d=>?_⟩;cases d;exact⟨o,e,h o e⟩
 |_=>exact False.elim ty
def Uo(K:ZGX)(T:String)(r:V->List V->Hp->VK->Prop)(to:TE):TE:=λZ H Q=>to Z H λx H1=>JI K T x H1/\r x [] H1 Q
def LN(K:ZGX)(T:String)(r:V->List V->Hp->VK->Prop)(to:TE)(t:TA):TE:=λZ H Q=>to Z H λx H1=>JI K T x H1/\t Z H1 λxs H2=>r x xs H2 Q
variable{o e:Expr}{es:List Expr}{to:TE}{t:TA}{name:Str}{apos Bf:Pos}{id:String}{r:V->List V->Hp->VK->Prop}
end
def UJ(X:Cx)(id:String)(r:V->List V->Hp->VK->Prop):Prop:=
 ∀(Ze:ZGY)(s:Shared)(Z:St)(H:Hp)(x:V)(xs:List V)(v:Value)(us:List Value)(Q:VK),Inv X Ze Z H s->RelV x v->Vals xs us->r x xs H Q->
  wpAny (model X.prog X.w) X.A (call (.builtin id) (v::us)) (EP X Ze Z Q) X.xe s
theorem Vals.one:∀{x:V}{us:List Value},Vals [x] us->∃u,us=[u]/\RelV x u:=λr=>vals1 r
theorem Vals.two:∀{x y:V}{us:List Value},Vals [x,y] us->∃u v,us=[u,v]/\RelV x u/\RelV y v:=λr=>vals2 r
theorem Vals.zero:∀{us:List Value},Vals [] us->us=[]
 |_,.nil=>rfl
theorem Vals.reverse(h:Vals xs us):Vals xs.reverse us.reverse:=by
 induction h with
 |nil=>exact .nil
 |cons r t a=>rw[Z0,Z0];exact Vals.append a (.cons r .nil)
section
variable{l b:Addr}{zs:List V}
theorem Inv.Vw{f:Array Value->Array Value}(I:Inv X Ze Z H s)(c:H l=some (.lst xs))
  (e:s.heap.get? l=some { cls:=.type "list", data:=.seq A5.toArray n }) (hf:f A5.toArray=its'.toArray) (hv:Vals ys its') (hz:ys.length<=sizeLine) :
  Inv X Ze Z (upd H l (.lst ys)) { s with heap:=s.heap.update l (Obj.mapSeq f),toks:=t' }:=by
 have q:=PySem.IsL.update e f;rw[hf]at q;refine I.write (x:=l) (e:=l) (by rw[c];exact trivial) (.inl rfl) (λd u b a=>(DN s.heap (Obj.mapSeq f) (BP b)).trans a) ⟨_,q⟩ ?_;exact⟨hz,its',_,hv,q⟩
theorem Inv.Zt(I:Inv X Ze Z H s)(b:Vals ys A5)(a:ys.length<=sizeLine):
  Inv X Ze Z (upd H s.heap.objs.size (.lst ys)) { s with heap:=s.heap.push { cls:=.type "list", data:=.seq A5.toArray },toks:=t' }:=
 I.laid (λ_ _ q=>BE _ q) (B4 _) ⟨a,A5,0,b,BY _ rfl⟩
theorem Inv.fresh(I:Inv X Ze Z H s):H s.heap.objs.size=none:=I.AW.fresh (B4 _)
theorem Inv.Ms(I:Inv X Ze Z H s)(a:H l=some (.lst xs)):xs.length<=sizeLine/\∃(A5:List Value)(n:Nat),Vals xs A5/\xs.length=A5.length/\s.heap.get? l=some { cls:=.type "list", data:=.seq A5.toArray n }:=by
 obtain⟨z,A5,n,r,e⟩:=I.AW l _ a;exact⟨z,A5,n,r,r.length,e⟩
def PB:V->List V->Hp->VK->Prop:=λx vs H Q=>∃l xs y,x=.ref l/\vs=[y]/\H l=some (.lst xs)/\xs.length<sizeLine/\Q .AG (upd H l (.lst (xs++[y])))
theorem ik:UJ X "list.append" PB:=by
 intro Ze s Z H x vs v us Q I b c h;obtain⟨l,xs,y,rfl,rfl,a,f,q⟩:=h;cases b;obtain⟨u,rfl,d⟩:=c.one;obtain⟨z,A5,n,r,g,e⟩:=I.Ms a;refine ZBL F.slot_list_append ⟨_,e,rfl⟩ F.entry_list_append (F.args_list_append_2 _ _) (PySem.list_append l A5.toArray n u (by rw[Bv];omega)) ⟨e,?_⟩;refine⟨.AG,_,I.Vw (its':=A5++[u]) a e (by simp) (r.append (.cons d .nil)) ?_,rfl,q⟩;rw[Bi,ZFA];omega
def Wf:V->List V->Hp->VK->Prop:=λx vs H Q=>∃l xs,x=.ref l/\vs=[]/\H l=some (.lst xs)/\Q .AG (upd H l (.lst []))
theorem ZCd:UJ X "list.clear" Wf:=by
 intro Ze s Z H x vs v us Q I b c h;obtain⟨l,xs,rfl,rfl,a,q⟩:=h;cases b;have d:=c.zero;subst d;obtain⟨z,A5,n,r,f,e⟩:=I.Ms a;refine ZBL F.slot_list_clear ⟨_,e,rfl⟩ F.entry_list_clear (F.args_list_clear_1 _) (AutoSeq1.list_clear_list_0 l A5.toArray n (by rw[Bv];omega)) ⟨e,?_⟩;exact⟨.AG,_,I.Vw (its':=[]) (ys:=[]) a e rfl .nil (CK _),rfl,q⟩
def iy:R2:=λx y H Q=>∃l b xs zs,x=.ref l/\y=.ref b/\H l=some (.lst xs)/\H b=some (.lst zs)/\xs.length+zs.length<=sizeLine/\∀p,H p=none->Q (.ref p) (upd H p (.lst (xs++zs)))
theorem EH:BD X (binaryOp .Add) iy:=by
 intro Ze s Z H x y v u Q I c a h;obtain⟨l,b,xs,zs,rfl,rfl,f,g,m,q⟩:=h;cases c;cases a;obtain⟨z,A5,n,r,o,e⟩:=I.Ms f;obtain⟨j,Bg,k,d,CY,i⟩:=I.Ms g;refine PySem.P.add_list e i ?_ (by rw[Bv,Bv];omega);have ea:A5.toArray++Bg.toArray=(A5++Bg).toArray:=by simp
 rw[ea];exact⟨.ref _,_,I.Zt (t':=s.toks) (r.append d) (by rw[Bi];omega),rfl,q _ I.fresh⟩
variable{prog:Program}{w:World}{E:Value->Shared->Prop}
set_option maxRecDepth 100000 in
end
end L2
namespace cJ
open PySem.W PySem.Calls
variable{l:OpenLaw}{n:Nat}{prog q:Program}
theorem kr{P:Params}{h:Heap}:∀(ns:List Int)(vs:List Value),WellAll P h vs (ns.map WData.int)->IntsAre vs ns:=by
 intro ns
 induction ns with
 |nil=>
  intro vs w;rw[Jj]at w;cases w;exact .nil
 |cons n ns c=>
  intro vs w;rw[ES]at w;cases w with
  |cons a b=>
   cases a;exact .cons _ _ (c _ b)
theorem ZBZ(hn:l.most=some n){P:Params}{h:Heap}{args:List WData}{vals:List Value}
  (Oj:l.row.toRowW.claim.pre args=true) (JY:WellAll P h vals args) :
  ∃a vs ns,vals=[Value.ref a]/\args=[WData.list (ns.map WData.int)]/\h.get? a=some { cls:=.type "list", data:=.seq vs.toArray }/\IntsAre vs ns/\ns.length<=n:=by
 have k:WShape.hasAll [] args [.list .int]=true:=(pre_splitW Oj).1;have f:l.pre.holds [] { args:=args }=true:=(pre_splitW Oj).2;obtain⟨d,r,rfl,h1,h2⟩:=hasAllW_cons k;obtain rfl:=hasAllW_nil h2;obtain⟨xs,rfl,m⟩:=hasW_list h1;obtain⟨ns,rfl⟩:=items_int m;have b:ns.length<=n:=by
  unfold OpenLaw.pre at f;have e:(WTm.not (.lt (.lit (.int (n:Int))) (.len (.arg 0)))).holds [] { args:=[.list (ns.map .int)] }=true:=by
   have e:=(holds_andW f).1;rw[hn]at e;exact e
  have c:=condW_of e (w_not (w_lt w_lit (w_len_list (w_arg rfl))));rw[Ae]at c;refine ZFI λq=>?_;have j:(n:Int)<((ns.length:Nat):Int):=by omega
  first
   | (rw[mG j]at c;exact absurd c (by decide))
   | (simp at c;omega)
 cases JY with
 |cons i g=>
  cases g;cases i with
  |list ho M1=>exact⟨_,_,ns,rfl,rfl,ho,kr ns _ M1,b⟩
theorem ZBr(l:OpenLaw)(args:List WData):l.row.toRowW.claim.post args (.bool true) args=true:=
 postW_of (r:=l.row.toRowW) (X:=(true == true))
  (show WShape.has [] (.bool true) .bool=true by first|rfl|decide|simp[WShape.has,WShape.arms,WShape.armsAll])
  (show(WTm.eq .res (.lit (.bool true))).value [] { args:=args,res:=some (.bool true),after:=args }=some (.bool (true == true))from w_eq_bool (w_res rfl) w_lit) rfl
theorem ZEb{loose:List Str}{XP:(ZGZ)->Heap->Prop}{YP:World->Heap->Prop}{d:DefRec}
  (hn:l.most=some n) (Nk:d.params.defaults=[])
  (call:∀(w:World)(s₀ b:Shared)(mg j:ZGZ)(h:Addr)(o:Obj)(i cd e:Value)(a:Addr)(vs:List Value)(ns:List Int),
   Ground q loose [] XP w s₀ mg j b.heap->YP w b.heap->
   b.heap.get? h=some o->o.data=.func (docDef d.name d.params d.body d.scope i cd e)->b.heap.CodeRec cd d.name->mg d.name=some (.ref h)->
   b.heap.get? a=some { cls:=.type "list", data:=.seq vs.toArray }->IntsAre vs ns->ns.length<=n->b.gens=#[]->
   codeAny (model l.prog w) callerA (.call (.ref h) ⟨[.ref a],[]⟩) (λr s'=>r=.ok (.ret (.bool true))/\OldK b.heap s'.heap/\s'.os=b.os/\AllBare s'.gens) b) :
  WalkO q loose XP YP l.row.toRowW d [] (λf vs=>PySem.call f vs):=by
 intro w s₀ b mg j G Y h o i cd e y kV ho hd EX k OQ u args vals as Oj ZFz m JY t;obtain rfl:y=.none:=Dflts.none k Nk;obtain rfl:kV=.none:=Dflts.noKw k;obtain⟨a,vs,ns,rfl,rfl,Tx,c,g⟩:=ZBZ hn Oj JY;refine enter_call (ZAS (call w s₀ b mg j h o i cd e a vs ns G Y ho (fd_plain hd) EX OQ Tx c g u) λr s' p=>?_);obtain⟨rfl,h2,x,v⟩:=p;exact⟨.inl ⟨.bool true,.bool true,[],rfl,λ_=>rfl,.bool true,ZBr l _,λ_=>⟨List.Pairwise.nil,λ_ s=>(nomatch s)⟩⟩,h2,x,v⟩
end cJ
namespace L2
variable{w:World}{mg:ZGZ}{k:Nat}{a f:Addr}{fd:FuncData}{qual x:Str}{sp:Sp}{loose ps:List Str}{X:Cx}{A B:Prop}
theorem ZP:∀{vs:List Value}{ns:List Int},IntsAre vs ns->Vals (ns.map V.int) vs
 |_,_,.nil=>.nil
 |_,_,.cons n t h=>.cons ⟨t,rfl⟩ (ZP h)
def X4(H:Hp):Prop:=∀b,H b=none∨∃o xs,H b=some (.Ec o (.lst xs))
theorem zL{P:Program}{K:ZGX}{p:ZGZ}{CX:Fb}{y:Addr}{c:Shared}{vs:List Value}{ns:List Int}
  (KX:K.In c.heap) (MD:c.heap.Ns mainGlobals mg) (f:c.heap.Ns builtinsNs p) (O:∀x:Str,x ≠"__name__" -> p x=bootBuiltins x) (ZBp:c.heap.NoLimit) (Q:c.gens=#[])
  (j:c.heap.get? a=some { cls:=.type "list", data:=.seq vs.toArray }) (hi:IntsAre vs ns) (hl:ns.length<=sizeLine) (hr:C2 k callerA)
  (F:∀Zf:Heap,K.In Zf->Zf.Ns mainGlobals mg->D7 P w K mg Zf CX k y fd [x] sp) (ud:∀(s:Shared)(u:Value),BindsTo s fd ⟨[u],[]⟩ [(x,u)])
  (Ea:∀H:Hp,X4 H->AO K H a (ns.map V.int)->sp [.ref a] H (λv _=>v=.bl true) λ_ _ _=>False)
  (SN:∀H e s',CX [] H c (λ_ _ _=>False) e s'->False) :
  codeAny (model P w) callerA (.call (.ref y) ⟨[.ref a],[]⟩) (λr s'=>r=.ok (.ret (.bool true))/\OldK c.heap s'.heap/\s'.os=c.os/\AllBare s'.gens) c:=by
 have C:=ZP hi;have B:=hi.length
 -- from an abstract heap in ZFd nothing but Gk bU may be tracked
 have g:∀H:Hp,X4 H->AO K H a (ns.map V.int)->CD P w H c.heap->(∀b,H b≠none->b=a)->(H a≠none->K.lookup a=none)->
   codeAny (model P w) callerA (.call (.ref y) ⟨[.ref a],[]⟩) (λr s'=>r=.ok (.ret (.bool true))/\OldK c.heap s'.heap/\s'.os=c.os/\AllBare s'.gens) c:=by
  intro H D R AW E T;have I:∀{b:Addr}{o:Obj},c.heap.get? b=some o->H b=none->(IB c.heap H).get? b=some o:=λe n=>ZCz e n;have X:∀{b:Addr}{o:Obj}{es:Array DictEntry}{ep:Nat},c.heap.get? b=some o->o.data=.dict es ep->H b=none:=λ{b o es ep}e d=>by
   cases q:H b with
   |none=>rfl
   |some u=>
    have A:b=a:=E b (by rw[q];simp);subst A;rw[j]at e;cases e;have d':Data.seq vs.toArray _=Data.dict es ep:=d;cases d'
  have l:∀{b:Addr}{m:ZGZ},c.heap.Ns b m->(IB c.heap H).Ns b m:=λ{b m}AM=>by obtain⟨o,es,ep,e,d,r⟩:=AM;exact⟨o,es,ep,I e (X e d),d,r⟩
  have J:K.In (IB c.heap H):=λb o e=>I (KX b o e) (by
   cases q:H b with
   |none=>rfl
   |some u=>
    have A:b=a:=E b (by rw[q];simp);subst A;rw[T (by rw[q];simp)]at e;cases e)
  have S:Mod K mg (IB c.heap H):=⟨J,l MD,⟨p,l f,O⟩,let ⟨mc,h1,h2⟩:=ZBp;⟨mc,l h1,h2⟩⟩;have e0:Kd P w K mg (IB c.heap H) callerA [] c H:=⟨rfl,S,λb o e=>ZEj e,Z2 (qh _ _),trivial,λb f=>absurd (show b∈([]:List Addr)from f) (by simp),AW,.of_eq Q⟩;refine ZAS ((F _ J (l MD)).run callerA [] c H ⟨[.ref a],[]⟩ [.ref a] [.ref a] _ _ hr e0 (ud c (.ref a)) (.cons rfl .nil) (Ea H D R)) λr s' h=>?_;cases r with
  |error e=>exact(SN H e s' h).elim
  |ok U=>
   cases U with
   |next=>exact False.elim h
   |brk=>exact False.elim h
   |cont=>exact False.elim h
   |ret u=>
    obtain⟨v,H',os,bare,un,ZAH,M,q⟩:=h;have N:v=.bl true:=q;subst N;obtain rfl:u=Value.bool true:=M;refine⟨rfl,OldK.of_keep λb o e=>?_,os,bare⟩;cases q:H b with
    |none=>exact un.keep b o e q (by intro z;exact absurd (show b∈([]:List Addr)from z) (by simp)) (by simp)
    |some u=>
     rcases D b with z|⟨ob,xs,z⟩
     .rw[q]at z;cases z
     .have L:=un.GB b ob _ z;obtain⟨G,_⟩:=AW b _ z;obtain⟨W,_⟩:=ZAH b _ L;rw[e]at G;cases G;exact W
 cases t:K.lookup a with
 |some o=>
  -- Gk bU is one of Gk ZGP own objects
  have e:=KX a o t;rw[j]at e;cases e;refine g (λ_=>none) (λ_=>.inl rfl) (.inr ⟨_,vs.toArray,_,t,rfl,rfl,rfl,by rw[Bv,B];exact hl,by simpa using C⟩) (λb u z=>by have i:(none:Option HO)=some u:=z;cases i) (λb z=>absurd rfl z) λz=>absurd rfl z
 |none=>
  refine g (λb=>if b=a then some (.Ec { cls:=.type "list", data:=.seq vs.toArray } (.lst (ns.map V.int)))else none) (λb=>?_) (.inl (.inr ⟨{ cls:=.type "list", data:=.seq vs.toArray },o9 rfl⟩)) (λb u z=>?_) (λb z=>?_) λ_=>t
  .by_cases f:b=a
   .exact .inr ⟨_,_,o9 f⟩
   .exact .inl (mL f)
  .by_cases f:b=a
   .have i:=(o9 f).symm.trans z;cases i;subst f;exact⟨j,by rw[Ae];exact hl,vs,_,C,j⟩
   .have i:=(mL f).symm.trans z;cases i
  .by_cases f:b=a
   .exact f
   .exact absurd (mL f) z
theorem xI{l:PySem.W.OpenLaw}{n:Nat}{q:Program}{XP:(ZGZ)->Heap->Prop}{YP:World->Heap->Prop}{d:DefRec}{K:Params->ZGX}{CX:World->Fb}{sp:World->Sp}
  (hn:l.most=some n) (J2:n<=sizeLine) (Nk:d.params.defaults=[]) (r:C2 k callerA)
  (z:∀(w:World)(h:Heap),YP w h->(K w.params).In h)
  (F:∀(w:World)(mg:ZGZ)(j:Addr)(h:Heap),(K w.params).In h->h.Ns mainGlobals mg->mg d.name=some (.ref j)->
   ∃fd:FuncData,(∀(s:Shared)(u:Value),BindsTo s fd ⟨[u],[]⟩ [(x,u)])/\
    ∀Zf:Heap,(K w.params).In Zf->Zf.Ns mainGlobals mg->D7 l.prog w (K w.params) mg Zf (CX w) k j fd [x] (sp w))
  (Ea:∀(w:World)(H:Hp)(a:Addr)(ns:List Int),ns.length<=n->X4 H->AO (K w.params) H a (ns.map V.int)->sp w [.ref a] H (λv _=>v=.bl true) λ_ _ _=>False)
  (SN:∀(w:World)(H:Hp)(s:Shared)(e:Value)(s':Shared),CX w [] H s (λ_ _ _=>False) e s'->False) :
  PySem.W.WalkO q loose XP YP l.row.toRowW d [] (λf vs=>PySem.call f vs):=by
 refine cJ.ZEb hn Nk λw s₀ p mg I j o E cd D a vs ns G Y ho hd EX OQ Tx i c t=>?_;have m:=z w _ Y;obtain⟨fd,y,C⟩:=F w mg j _ m G.T.g OQ;exact zL m G.T.g G.T.b G.T.builtins G.T.nolimit t Tx i (Bz c J2) r C y (λH B A=>Ea w H a ns c B A) λH e s'=>SN w H p e s'
noncomputable def OS(s:Stmt):Arguments:=match s with
 | .FunctionDef _ a _ _ _ _ _ _ _ _=>a
 |_=>{ posonlyargs:=[],args:=[],vararg:=none,kwonlyargs:=[],kw_defaults:=[],kwarg:=none,defaults:=[] }
def Iw(s:Stmt):List Stmt:=match s with
 | .FunctionDef _ _ b _ _ _ _ _ _ _=>b
 |_=>[]
noncomputable def AS(s:Stmt):Scope:=match s with
 | .FunctionDef _ _ _ _ _ _ sc _ _ _=>sc
 |_=>{ kind:=.function,names:=[],isGenerator:=false,isCoroutine:=false }
abbrev FK:Fb:=λ_ _ _ _ _ _=>False
abbrev E0:XK:=λ_ _ _=>False
theorem ZDG:Passes FK X E0:=λ_ _ _ _ _ _ _ h=>h.elim
structure AH (K:ZGX) (x qual:Str) (st:Stmt) (f:Addr) (fd:FuncData):Prop where
 ex:∃(oc:Value)(od:Option Addr)(kV doc pm:Value)(an:Option Addr)(AQ ct:Value)(G5:Array (Option Value)),
  fd=PySem.W.fnOf x qual (OS st) (Iw st) (AS st) .none kV doc pm an AQ ct/\K.lookup f=some ⟨oc,od,.func fd,G5⟩/\PySem.W.codeIn K AQ qual=true
 kp:PySem.W.keepIn K (.ref f)=true
section
variable{P:Program}{K:ZGX}{Zf:Heap}
theorem AH.ok{st:Stmt}{N:List Str}(F:AH K x qual st f fd)(S:Ay N ps (AS st))(len:∀vs H Q E,sp vs H Q E->vs.length=ps.length)
  (Kx:∀(AQ:Value)(A:Around)(outer:List Env)(s:Shared)(H:Hp)(vs:List V)(Q:VK)(E:XK),C2 k (A.deeper (envOfC qual (AS st) s.heap.objs.size f AQ))->sp vs H Q E->
   ∃t,DQ (Dz FK P w K mg Zf N qual (AS st) f AQ A outer s H E).N6 (Iw st) t/\t { nx:=λ_ H'=>Q .AG H',rt:=Q } (start N vs) H):D7 P w K mg Zf FK (k+1) f fd ps sp:=by
 obtain⟨e,od,kV,c,d,g,AQ,ct,G5,rfl,a,EX⟩:=F.ex;refine dU a EX S len λA outer s H vs Q E b Ea=>?_;obtain⟨t,h,q⟩:=Kx AQ A outer s H vs Q E b Ea;exact⟨t,h.N6,q⟩
theorem AH.binds{st:Stmt}(F:AH K x qual st f fd)
  (h:∀(kV a b:Value)(c:Option Addr)(AQ ct:Value)(us:List Value),us.length=ps.length->bindArgs (PySem.W.fnOf x qual (OS st) (Iw st) (AS st) .none kV a b c AQ ct) ⟨us,[]⟩=pure (ps.zip us)):Binds K fd ps []:=by
 obtain⟨d,od,kV,a,b,c,AQ,ct,G5,rfl,e,EX⟩:=F.ex;exact .all (h kV a b c AQ ct)
theorem ZAc{st:Stmt}{e:Value}{od d:Option Addr}{G5:Array (Option Value)}{kV a b AQ ct:Value}(l:K.lookup f=some ⟨e,od,.func (PySem.W.fnOf x qual (OS st) (Iw st) (AS st) .none kV a b d AQ ct),G5⟩)
  (c:PySem.W.codeIn K AQ qual=true) (k:PySem.W.keepIn K (.ref f)=true):AH K x qual st f (PySem.W.fnOf x qual (OS st) (Iw st) (AS st) .none kV a b d AQ ct):=⟨⟨e,od,kV,a,b,d,AQ,ct,G5,rfl,l,c⟩,k⟩
theorem pv(i:Nat){pos:Pos}(a:X.N[i]?=some x:=by rfl)(hv:Ov X.env.scope x:=by first|exact Or.inl rfl|exact Or.inr (Or.inl rfl)|exact Or.inr (Or.inr rfl))(hd:(x == ("__debug__":Str))=false:=by decide)
  (EX:(x == ("__classdict__":Str))=false:=by decide):PE X (.Name x pos) (Cp i):=cW a hv hd EX
end
theorem DK(h:B):if false=true then A else B:=by
 rw[mL DC];exact h
theorem UN(h:A):if true=true then A else B:=by
 rw[o9 rfl];exact h
theorem AY{c:Prop}[Decidable c](h1:c->A)(h2:¬ c->B):if c then A else B:=by
 by_cases h:c
 .rw[o9 h];exact h1 h
 .rw[mL h];exact h2 h
def AE(H H':Hp):Prop:=∀b o,H b=some o->H' b=some o
theorem AE.refl(H:Hp):AE H H:=λ_ _ h=>h
theorem AE.trans{H H1 H2:Hp}(a:AE H H1)(b:AE H1 H2):AE H H2:=λc o h=>b c o (a c o h)
theorem AE.seq{K:ZGX}{H H':Hp}{xs:List V}(e:AE H H')(h:AO K H a xs):AO K H' a xs:=by
 rcases h with(h|⟨o,h⟩)|h
 .exact .inl (.inl (e _ _ h))
 .exact .inl (.inr ⟨o,e _ _ h⟩)
 .exact .inr h
end L2
set_option maxHeartbeats 4000000
namespace L2
variable{α:Type}{outer scope:Scope}{env:Env}{X Y:Cx}{c elt tg:Expr}{A:Around}{E:Value->Shared->Prop}{s s2 s4:Shared}{cl closure:List (Str×Addr)}{qual x y z:Str}{ce:Option Str}{C a acc it n p:Addr}{w:World}{ifs:List Expr}{JA pos px py:Pos}{R:Result->Shared->Prop}{Ze:ZGY}{ws Z:St}{H H' H1 H2 H4:Hp}{js:List Nat}{tt:TT}{te:TE}{J:It}{tn:Nat->Heap->Prop}{i j n0 t':Nat}{v:Value}{wi:TI}{CW:It->St->Hp->Addr->VK->Prop}{N:List Str}{tp:Bool}{xs ys:List V}{A5:List Value}
theorem xO{β:Type}{l:List α}{f:α->β->Sem (ForInStep β)}(g:β->α->β)(h:∀x∈l,∀c,f x c=pure (.yield (g c x))):∀c,forIn l c f=pure (l.foldl g c):=by
 induction l with
 |nil=>intro c;rfl
 |cons x l a=>
  intro c;rw[List.forIn_cons,h x BZ,pure_bind];exact a (λy b=>h y (C5 _ b)) (g c x)
noncomputable def KG(cells:List (Str×Addr))(cs:List (Str×Addr))(x:Str×NameKind):List (Str×Addr):=
 if x.2=.free then(x.1,(cells.lookup x.1).getD 0)::cs else cs
def CP(cells:List (Str×Addr))(names:List (Str×NameKind)):List (Str×Addr):=names.foldl (KG cells) []
theorem zd(h:∀x∈scope.names,x.2=.free->(env.cells.lookup x.1).isSome=true):closureFor scope env=pure (CP env.cells scope.names):=by
 simp only[closureFor];rw[xO (KG env.cells) (λx hx c=>by
  obtain⟨n,k⟩:=x;unfold KG
  by_cases b:k=NameKind.free
  .subst b;have q:=h _ hx rfl;obtain⟨a,f⟩:=Option.isSome_iff_exists.mp q;have d:env.cells.lookup n=some a:=f;have e:cellOf env n=pure a:=by unfold cellOf;rw[d]
   simp[e,d]
  .have:(k == NameKind.free)=false:=by simpa using b
   simp[this,b])]
 rfl
theorem Zb{cells:List (Str×Addr)}:∀(names:List (Str×NameKind))(acc:List (Str×Addr)),(∀y∈names,y.2=.free->(cells.lookup y.1).isSome=true)->
  (∀x c,acc.lookup x=some c->cells.lookup x=some c)->∀x c,(names.foldl (KG cells) acc).lookup x=some c->cells.lookup x=some c
 | [],acc,_,ha,x,c,e=>ha x c e
 | (n,k)::r,acc,hs,ha,x,c,e=>by
  rw[Md]at e;refine Zb r _ (λy f=>hs y (C5 _ f)) (λx c e=>?_) x c e;unfold KG at e
  by_cases b:k=NameKind.free
  .rw[o9 b]at e;have q:=hs _ BZ b;obtain⟨a,q⟩:=Option.isSome_iff_exists.mp q;have d:cells.lookup n=some a:=q;rw[Hs]at e
   by_cases hx:x=n
   .subst hx;simp only[xF,d,ZFQ]at e;rw[d,<- e]
   .have g:(x == n)=false:=by simpa using hx
    rw[g]at e;exact ha x c e
  .rw[mL b]at e;exact ha x c e
theorem VC{cells:List (Str×Addr)}{x:Str}:∀(names:List (Str×NameKind))(acc:List (Str×Addr)),((acc.lookup x).isSome=true∨(x,NameKind.free)∈names)->
  ((names.foldl (KG cells) acc).lookup x).isSome=true
 | [],acc,h=>by
  rcases h with h|h
  .exact h
  .cases h
 | (n,k)::r,acc,h=>by
  rw[Md];refine VC r _ ?_;unfold KG;rcases h with h|h
  .refine .inl ?_;split
   .rw[Hs];split
    .rfl
    .exact h
   .exact h
  .rcases List.mem_cons.mp h with e|h
   .cases e;refine .inl ?_;rw[o9 rfl,Hs];simp
   .exact .inr h
theorem PL{env:Env}:∀(names:List (Str×NameKind))(x:Str),
  (names.map λ(n,k)=>if(k == NameKind.free && env.scope.kind == .function && env.kindOf n == some .cell)then(n,NameKind.cell)else(n,k)).lookup x =
   (names.lookup x).map λk=>if(k == NameKind.free && env.scope.kind == .function && env.kindOf x == some .cell)then NameKind.cell else k
 | [],x=>rfl
 | (n,k)::r,x=>by
  have c:=PL (env:=env) r x;rw[ES]
  by_cases a:(k == NameKind.free && env.scope.kind == .function && env.kindOf n == some .cell)=true
  .show List.lookup x ((if(k == NameKind.free && env.scope.kind == .function && env.kindOf n == some .cell)=true then(n,NameKind.cell)else(n,k))::_)=_
   rw[o9 a,Hs,Hs]
   by_cases hx:x=n
   .subst hx;simp only[xF,SK];rw[o9 a]
   .have b:(x == n)=false:=by simpa using hx
    rw[b];exact c
  .show List.lookup x ((if(k == NameKind.free && env.scope.kind == .function && env.kindOf n == some .cell)=true then(n,NameKind.cell)else(n,k))::_)=_
   rw[mL a,Hs,Hs]
   by_cases hx:x=n
   .subst hx;simp only[xF,SK];rw[mL a]
   .have b:(x == n)=false:=by simpa using hx
    rw[b];exact c
noncomputable abbrev JQ(X:Cx)(N:List Str)(scope:Scope)(cl:List (Str×Addr))(C:Addr)(s:Shared)(H:Hp)(fp:List Addr):Cx:=
 { X with N:=N,s₀:=s,H₀:=H,env:=compEnvC scope cl C X.env,outer:=X.stack,ex:=fp,fn:=λ_=>false,pn:=[],xe:=λ_ _=>False }
def Br(js:List Nat)(Z:St):St:=js.map λj=>(Z[j]?).join
structure CV (N:List Str) (outer scope:Scope) (x:Str) (Au:List Str) (js:List Nat):Prop where
 kind:scope.kind=.function
 Mp:∀y∈scope.names,y.2≠.cell
 loc:∀y∈scope.names,y.2=.local->scope.names.lookup y.1=some .local
 cy:scope.names.lookup x=some .local
 at':js.map (λj=>N[j]?)=Au.map some
 cell:∀y∈Au,outer.names.lookup y=some .cell
 free:∀y∈Au,scope.names.lookup y=some .free
 all:∀y∈scope.names,y.2=.free->outer.names.lookup y.1=some .cell
 nd:(Au++[x]).Nodup
def IV(X:Cx)(ifs:List Expr)(t:TT):Prop:=
 ∀(Ze:ZGY)(s:Shared)(Z:St)(H:Hp)(Q:Bool->Hp->Prop),Inv X Ze Z H s->t Z H Q->
  wpAny (model X.prog X.w) X.A (forIn ifs true λc r=>if r=true then do let ok <- isTrue c X.env (eval c X.env);pure (ForInStep.yield ok)else pure (ForInStep.yield r)) (TP X Ze Z Q) X.xe s
def QX:TT:=λ_ H Q=>Q true H
theorem ZDC{t:TT}(a:PT X c t):IV X [c] t:=λZe s Z H Q I h=>by
 rw[List.forIn_cons];refine ko ?_;rw[o9 rfl];refine ko (Aj (a Ze s Z H Q I h) λb s1 q=>mD ?_);show wpAny _ _ (forIn [] b _) _ _ s1;rw[kE];exact mD q
def KA(J:It)(js:List Nat)(tt:TT)(te:TE)(Z:St)(H1:Hp)(acc:Addr)(Q:VK):Prop:=
 ∃W:Nat->Nat->Hp->Prop,(∃m,W 0 m (upd H1 acc (.lst [])))/\∀i m H2,W i m H2->
  (J.stop i H2/\Q (.ref acc) H2)∨(J.go i H2/\∀x H3,J.Fh i H2 x H3->tt (Br js Z++[some x]) H3 λb H4=>
   if b=true then te (Br js Z++[some x]) H4 λy H5=>∃ys,H5 acc=some (.lst ys)/\ys.length<sizeLine/\∃a,a < m/\W (i+1) a (upd H5 acc (.lst (ys++[y])))
   else ∃a,a < m/\W (i+1) a H4)
def Kg(wi:TI)(js:List Nat)(tt:TT)(te:TE):TE:=λZ H Q=>wi Z H λJ H1=>∀acc,H1 acc=none->KA J js tt te Z H1 acc Q
theorem ZBo(l:List α)(a b:α):(l++[a]).set l.length b=l++[b]:=by
 induction l with
 |nil=>rfl
 |cons x l c=>simp[c]
noncomputable def Hc:Option Str->Addr->List (Str×Addr)
 |none,_=>[]
 |some x,n=>[(x,n)]
noncomputable def QK:Option Str->Heap->Heap
 |none,h=>h
 |some _,h=>h.push { cls:=.type "cell", data:=.cell none }
structure G6 (N:List Str) (outer scope:Scope) (ce:Option Str) (zs Au:List Str) (js:List Nat):Prop where
 kind:scope.kind=.function
 loc:∀y∈scope.names,y.2=.local->scope.names.lookup y.1=some .local
 one:∀y∈scope.names,y.2=.cell->ce=some y.1
 sub:∀x,ce=some x->x∈zs
 cf:∀(n:Nat)(cl:List (Str×Addr)),cellsFrom n scope.names cl=Hc ce n++cl
 pc:∀h:Heap,pushCells h scope.names=QK ce h
 at':js.map (λj=>N[j]?)=Au.map some
 cell:∀y∈Au,outer.names.lookup y=some .cell
 free:∀y∈Au,scope.names.lookup y=some .free
 all:∀y∈scope.names,y.2=.free->outer.names.lookup y.1=some .cell
 nd:(Au++zs).Nodup
abbrev GA(X:Cx)(N:List Str)(scope:Scope)(ce:Option Str)(cl:List (Str×Addr))(C:Addr)(s:Shared)(H:Hp)(fp:List Addr):Cx:=
 { X with N:=N,s₀:=s,H₀:=H,env:=compEnvC scope (Hc ce (C+1)++cl) C X.env,outer:=X.stack,ex:=fp,fn:=λy=>ce == some y,pn:=[],xe:=λ_ _=>False }
theorem lV{M:Model}{a:Addr}{b:Option Addr}{c:Value}{outer:Env}{Q:Env->Shared->Prop}
  (cf:∀(n:Nat)(cl:List (Str×Addr)),cellsFrom n scope.names cl=Hc ce n++cl) (pc:∀h:Heap,pushCells h scope.names=QK ce h)
  (d:Q (newEnv scope s.heap.objs.size a (Hc ce (s.heap.objs.size+1)++closure) qual b c (some outer) builtinsNs) { s with heap:=QK ce (s.heap.push { cls:=.type "dict", data:=.dict #[] }) }) :
  wpAny M A (newFunctionEnv scope a closure [] qual b c (some outer)) Q E s:=by
 simp only[newFunctionEnv,Option.isSome_some,ZAm];refine ko (wpAny_alloc ?_);refine ko (wpAny_layCells _ (λname kind cells=>by cases e:kind == NameKind.cell <;> simp[e]) _ _ _ _ ?_)
 rw[cf,pc];rw[show({ s with heap:=s.heap.push { cls:=.type "dict", data:=.dict #[] } }:Shared).heap.objs.size=s.heap.objs.size+1 from E8 ..]
 refine ko ?_;rw[kE];exact mD (mD d)
theorem vM{c:Addr}(h:(Hc ce n++cl).lookup y=some c):(ce=some y/\c=n)∨(ce≠some y/\cl.lookup y=some c):=by
 cases ce with
 |none=>exact .inr ⟨λz=>(by cases z),h⟩
 |some x=>
  have h:((x,n)::cl).lookup y=some c:=h;rw[Hs]at h
  by_cases e:y=x
  .subst e;simp only[xF]at h;exact .inl ⟨rfl,(Be h).symm⟩
  .have a:(y == x)=false:=by simpa using e
   rw[a]at h;exact .inr ⟨λz=>e (Be z).symm,h⟩
theorem ax(h:ce≠some y):(Hc ce n++cl).lookup y=cl.lookup y:=by
 cases ce with
 |none=>rfl
 |some x=>
  show((x,n)::cl).lookup y=_;have a:(y == x)=false:=beq_eq_false_iff_ne.mpr λz=>h (by rw[z]);rw[Hs,a]
theorem zk:(Hc (some x) n++cl).lookup x=some n:=by
 show((x,n)::cl).lookup x=_;rw[Hs,xF]
theorem uA{prog:Program}{iter:Expr}{it acc:Value}(I:Nat->Shared->Prop)
  (turn:∀n s,I n s->wpAny (model prog w) A (pyNext it) (λr s1=>match r with
   |none=>R (.ok .next) s1
   |some v=>wpAny (model prog w) A (letOwnedTupleGo tg it v) (λ_ s2=>wpAny (model prog w) A (assign tg env v) (λ_ f=>
     wpAny (model prog w) A (forIn ifs true λc r=>if r=true then do let ok <- isTrue c env (eval c env);pure (ForInStep.yield ok)else pure (ForInStep.yield r)) (λok s4=>if ok=true then
      wpAny (model prog w) A (eval elt env) (λx d=>wpAny (model prog w) A (call (.builtin "list.append") [acc,x]) (λ_ b=>∃m,m<n/\I m b) (notedBy (model prog w) A env λe s'=>R (.error e) s') d) (notedBy (model prog w) A env λe s'=>R (.error e) s') s4
      else ∃m,m<n/\I m s4) (notedBy (model prog w) A env λe s'=>R (.error e) s') f)
     (notedBy (model prog w) A env λe s'=>R (.error e) s') s2) (notedBy (model prog w) A env λe s'=>R (.error e) s') s1) (notedBy (model prog w) A env λe s'=>R (.error e) s') s)
  (n:Nat) (h:I n s):codeAny (model prog w) A (.compLoop (.ListComp elt [⟨tg,iter,ifs,0⟩] scope pos) 0 it acc env) R s:=by
 refine codeAny_loop rfl I (λn s o=>(show wpAny _ A ((compTurn (.ListComp elt [⟨tg,iter,ifs,0⟩] scope pos) 0 it acc env).onRaise (λx=>do noteFrame x env;theTreesLotGoes x)) _ _ s from wpAny_noted ?_)) n h
 rw[compTurn_list];refine ko (ZAW (ko (rD (turn n s o) (λr s1 g=>?_) λ_ _ z=>z)));cases r with
 |none=>exact mD g
 |some v=>
  refine ko (rD g (λ_ s2 l=>ko (rD l (λ_ f k=>ko (rD k (λok s4 a=>?_) λ_ _ z=>z)) λ_ _ z=>z)) λ_ _ z=>z);cases ok with
  |false=>
   rw[mL (by decide)]at a;exact ko (mD (mD ⟨rfl,a⟩))
  |true=>
   rw[o9 rfl]at a;exact ko (ko (rD a (λx d j=>ko (rD j (λ_ b i=>mD (mD ⟨rfl,i⟩)) λ_ _ z=>z)) λ_ _ z=>z))
abbrev ja(tt:TT)(te:TE)(acc:Addr)(W:Nat->Nat->Hp->Prop)(i m:Nat)(Z:St)(H:Hp):Prop:=
 tt Z H λb H4=>if b=true then te Z H4 λy H5=>∃ys,H5 acc=some (.lst ys)/\ys.length<sizeLine/\∃m',m' < m/\W (i+1) m' (upd H5 acc (.lst (ys++[y])))
  else ∃m',m' < m/\W (i+1) m' H4
def PR(g:TG)(n:Nat)(J:It)(js:List Nat)(tt:TT)(te:TE)(Z:St)(H1:Hp)(acc:Addr)(Q:VK):Prop:=
 ∃W:Nat->Nat->Hp->Prop,(∃m,W 0 m (upd H1 acc (.lst [])))/\∀i m H2,W i m H2->
  (J.stop i H2/\Q (.ref acc) H2)∨(J.go i H2/\∀x H3,J.Fh i H2 x H3->∀ws,ws.length=n->g x (Br js Z++ws) H3 λσ8 H8=>∃us,us.length=n/\σ8=Br js Z++us/\ja tt te acc W i m σ8 H8)
def j8(CW:It->St->Hp->Addr->VK->Prop)(wi:TI):TE:=λZ H Q=>wi Z H λJ H1=>∀acc,H1 acc=none->CW J Z H1 acc Q
section
variable{iter:Expr}{zs Au:List Str}{fp:List Addr}{g:TG}
theorem ZC3(h:scope.names.lookup x=some .cell):(relabel scope env).names.lookup x=some .cell:=by
 refine(PL (env:=env) scope.names x).trans ?_;rw[h];simp
theorem zw{n:Nat}{v:V}(h:(List.replicate n (none:Option V))[i]?=some (some v)):False:=by
 rw[kF]at h
 by_cases c:i<n
 .rw[o9 c]at h;cases h
 .rw[mL c]at h;cases h
theorem oz(S:G6 X.N X.env.scope scope ce zs Au js)(I3:Inv X Ze Z H2 s2)(G:∀b∈fp,FH X Ze H2 b)(Q:∀b∈fp,b<s2.heap.objs.size){h1:Heap}
  {m:ZGZ}(MD:h1.Ns s2.heap.objs.size m) (A:∀b o,s2.heap.get? b=some o->h1.get? b=some o) (F:∀x,ce=some x->h1.IsCell (s2.heap.objs.size+1) none) :
  Inv (GA X (Au++zs) scope ce (CP X.env.cells scope.names) s2.heap.objs.size s2 H2 fp) [] (Br js Z++List.replicate zs.length none) H2 { s2 with heap:=h1,toks:=t' }:=by
 have U:∀y∈scope.names,y.2=.free->(X.env.cells.lookup y.1).isSome=true:=λy g D=>by
  obtain⟨c,e⟩:=I3.ok.has y.1 (.inl (S.all y g D));rw[e];rfl
 have P:∀y c,(CP X.env.cells scope.names).lookup y=some c->X.env.cells.lookup y=some c:=Zb scope.names [] U (λ_ _ e=>by cases e);have M:∀y k,(relabel scope X.env).names.lookup y=some k->k=.cell∨k=.free->scope.names.lookup y=some .free∨ce=some y:=λy k e D=>by
  have t:=(PL (env:=X.env) scope.names y).symm.trans e;cases q:scope.names.lookup y with
  |none=>rw[q]at t;cases t
  |some k0=>
   rw[q]at t;cases k0 with
   |free=>exact .inl rfl
   |cell=>exact .inr (S.one _ (LG q) rfl)
   |_=>simp at t;rcases D with rfl|rfl <;> cases t
 have n:js.length=Au.length:=by have:=vF List.length S.at';simpa using this
 have R:∀y c,X.env.cells.lookup y=some c->c<s2.heap.objs.size:=λy c e=>by
  obtain⟨v,o,ho,_⟩:=I3.cell y c e;exact B9 ho
 have f:∀c v,s2.heap.IsCell c v->h1.IsCell c v:=λc v AM=>by obtain⟨o,ho,hd⟩:=AM;exact⟨o,A c o ho,hd⟩
 have B:∀y c,(Hc ce (s2.heap.objs.size+1)++CP X.env.cells scope.names).lookup y=some c->(ce=some y/\c=s2.heap.objs.size+1)∨(ce≠some y/\X.env.cells.lookup y=some c):=λy c e=>(vM e).imp id λz=>⟨z.1,P y c z.2⟩;have T:∀y∈Au,ce≠some y:=λy g z=>(List.nodup_append.mp S.nd).2.2 y g y (S.sub y z) rfl;refine⟨⟨I3.ok.mod,S.kind,I3.ok.glob,I3.ok.blt,B4 _,λy z c K E=>?_,λy g=>?_,λy c J e=>?_,I3.ok.hd,I3.ok.frames,.inl rfl,λb s=>⟨Bn (Q b s),λy c e=>?_⟩,
  λb o e=>I3.bs b o e,Bz I3.ok.GO I3.sz,λb o e s=>?_,λb s W=>?_,I3.stack,I3.Q5⟩,rfl,I3.bare,Un.kept A,⟨m,MD,λi y v K E e3=>?_⟩,λy c e=>?_,I3.AW.fresh (B4 _),λy c e=>?_,λp Y=>(by cases Y),I3.AW.kept A,?_⟩
 .rcases B y c K with⟨a1,rfl⟩|⟨_,Cu⟩
  .rcases B z _ E with⟨a2,_⟩|⟨_,EU⟩
   .exact Be (a1.symm.trans a2)
   .exact absurd (R z _ EU) (ZFM (E9 _))
  .rcases B z c E with⟨_,rfl⟩|⟨_,EU⟩
   .exact absurd (R y _ Cu) (ZFM (E9 _))
   .exact I3.ok.inj y z c Cu EU
 .have J:scope.names.lookup y=some .free∨ce=some y:=g.elim (λg=>M y _ g (.inl rfl)) λg=>M y _ g (.inr rfl);show ∃c,List.lookup y (Hc ce (s2.heap.objs.size+1)++CP X.env.cells scope.names)=some c
  by_cases ex:ce=some y
  .rw[ex];exact⟨_,zk⟩
  .rw[ax ex];exact Option.isSome_iff_exists.mp (VC scope.names [] (.inr (LG (J.resolve_right ex))))
 .rcases B y c e with⟨_,rfl⟩|⟨V,_⟩
  .exact E9 _
  .exact absurd (eq_of_beq J) V
 .rcases B y c e with⟨_,rfl⟩|⟨_,Cu⟩
  .exact Im (Jl (Q b s))
  .exact(G b s).2.2.2.2.1 y c Cu
 .rcases(G b s).2.2.2.1 with z|z
  .exact I3.ok.JF b o e z
  .exact absurd (DD (DD (B9 e) I3.ok.GO) z) (Mi _)
 .rcases List.mem_cons.mp (I3.OO b W)with z|z
  .exact(G b s).2.1 z
  .exact(G b s).2.2.1 z
 .have F:(Br js Z).length=Au.length:=by unfold Br;rw[Ae,n]
  have hi:i<Au.length:=by
   by_cases hi:i<Au.length
   .exact hi
   .have d:(Br js Z++List.replicate zs.length none)[i]?=some (some v):=E;rw[Ji (by rw[F];omega),F]at d;exact(zw d).elim
  have H:Au[i]?=some y:=by
   have H:(Au++zs)[i]?=some y:=K
   rwa [Fp hi]at H
  have d:(Br js Z)[i]?=some (some v):=by
   have d:(Br js Z++List.replicate zs.length none)[i]?=some (some v):=E
   rwa [Fp (by rw[F];exact hi)]at d
  have C:y∈Au:=LB H;unfold Br at d;rw[Bt]at d;cases I:js[i]? with
  |none=>rw[I]at d;cases d
  |some j=>
   rw[I]at d;have hN:X.N[j]?=some y:=by
    have q:=vF (λl=>l[i]?) S.at';simp only[Bt,I,H,SK]at q;exact Be q
   have hσ:Z[j]?=some (some v):=by
    simp only[SK,Option.some.injEq]at d;cases q:Z[j]? with
    |none=>rw[q]at d;cases d
    |some w=>rw[q]at d;simp at d;rw[d]
   obtain⟨m0,σ,LO⟩:=I3.loc;obtain⟨u,r,l⟩:=LO j y v hN hσ (.inr (.inl (S.cell y C)));refine⟨u,r,?_⟩;rcases l with⟨k,_⟩|⟨_,c,e,z⟩
   .have L:X.env.scope.names.lookup y=some .local:=k;rw[S.cell y C]at L;cases L
   .have Vu:X.env.kindOf y=some .cell:=S.cell y C;have D:(relabel scope X.env).names.lookup y=some .cell:=by
     refine(PL (env:=X.env) scope.names y).trans ?_;rw[S.free y C];simp[I3.ok.kind,Vu]
    obtain⟨c',t⟩:=Option.isSome_iff_exists.mp (VC (cells:=X.env.cells) scope.names [] (.inr (LG (S.free y C))));have O:=P y c' t;rw[e]at O;cases O;exact .inr ⟨.inl D,c,(ax (T y C)).trans t,f c _ z⟩
 .rcases B y c e with⟨a,rfl⟩|⟨_,Cu⟩
  .exact⟨none,F _ a⟩
  .obtain⟨v,z⟩:=I3.cell y c Cu;exact⟨v,f c v z⟩
 .rcases B y c e with⟨_,rfl⟩|⟨_,Cu⟩
  .exact I3.AW.fresh (E9 _)
  .exact I3.EL y c Cu
 .show(Br js Z++List.replicate zs.length none).length=(Au++zs).length;unfold Br;simp[n]
theorem vU(h:Y.prog=X.prog)(hw:Y.w=X.w)(O:Y.K=X.K)(hA:Y.A=X.A)(yC:Y.xe=λ_ _=>False)(N:Y.calm=true)
  (hg:PG Y tg g) (Ed:IV Y ifs tt) (Eg:PE Y elt te)
  (T:Turn X.prog X.w X.K tg J fp it tn) (l:∀b∈fp,Y.Ok->FH Y [] (λ_=>none) b)
  (W:Nat->Nat->Hp->Prop) (Q:VK)
  (turn:∀i m H2,W i m H2->(J.stop i H2/\Q (.ref acc) H2)∨(J.go i H2/\∀x H3,J.Fh i H2 x H3->∀ws,ws.length=n0->g x (Br js Z++ws) H3 λσ8 H8=>∃us,us.length=n0/\σ8=Br js Z++us/\ja tt te acc W i m σ8 H8))
  (I4:Inv Y [] (Br js Z++ws) H4 s4) (Qh:tn 0 s4.heap) (E:∀b∈fp,H4 b=none) (L:Nat) (w4:W 0 L H4)
  (p:ws.length=n0) (hR:∀H' s' ws,Inv Y [] (Br js Z++ws) H' s'->Q (.ref acc) H'->R (.ok .next) s') :
  codeAny (model X.prog X.w) X.A (.compLoop (.ListComp elt [⟨tg,iter,ifs,0⟩] scope pos) 0 (.ref it) (.ref acc) Y.env) R s4:=by
 have AW:=I4.ok;have F:∀{H':Hp},(∀b∈fp,H' b=none)->∀b∈fp,FH Y [] H' b:=λhn b c=>⟨hn b c,(l b c AW).2⟩;rw[<- h,<- hw,<- hA];have j:∀{σ:Value->Shared->Prop}v s,Y.xe v s->σ v s:=λv s z=>by rw[yC]at z;exact z.elim
 refine uA (λn s'=>∃i ws H',ws.length=n0/\Inv Y [] (Br js Z++ws) H' s'/\tn i s'.heap/\(∀b∈fp,H' b=none)/\W i n H') ?_ L ⟨0,ws,H4,p,I4,Qh,E,w4⟩;rintro n I⟨i,ZV,H5,t,I5,Lh,Rk,w5⟩;rcases turn i n H5 w5 with⟨stop,q⟩|⟨go,step⟩
 .have d:=T.done Y h hw O N i [] I _ H5 (λ_ _=>False) I5 (F Rk) Lh stop;rw[<- h,<- hw]at d;refine rD d (λr H⟨B,I6⟩=>?_) λ_ _ z=>z.elim;subst B;exact hR H5 H ZV I6 q
 .have d:=T.item Y h hw O N i [] I _ H5 (λ_ _=>False) I5 (F Rk) Lh go;rw[<- h,<- hw]at d;refine rD d (λr H⟨u,B,h6⟩=>?_) λ_ _ z=>z.elim;subst B;refine rD h6 (λ_ G⟨v,H7,I7,r7,y7,YR,D⟩=>?_) λ_ _ z=>z.elim;have uu:=I7.pinned (F D) (T.obj _ _ YR);refine rD (hg _ G _ H7 v u _ uu r7 (step v H7 y7 ZV t)) (λ_ s8⟨σ8,H8,I8,us,P,e8,oG⟩=>?_) j;subst e8;have a:∀{σa:St}{Ha:Hp}{sa:Shared},Inv Y ([]++OB fp G.heap) σa Ha sa->tn (i+1) sa.heap/\(∀b∈fp,Ha b=none):=λ{σa Ha sa}Ia=>by
   refine⟨T.keep _ _ _ YR λb c o e=>(Ia.pin (b,o) (Ep _ (Ep _ (RC c e)))).1,λb c=>?_⟩;obtain⟨o,e,d⟩:=T.obj _ _ YR b c;exact(Ia.pin (b,o) (Ep _ (Ep _ (RC c e)))).2.1
  refine rD (Ed _ s8 _ H8 _ I8 oG) (λb s9⟨H9,I9,k⟩=>?_) j;cases b with
  |false=>
   have u0:∃f,f < n/\W (i+1) f H9:=k;obtain⟨f,C,w9⟩:=u0;rw[mL (by decide)];exact⟨f,C,i+1,_,H9,P,I9.Nd,(a I9).1,(a I9).2,w9⟩
  |true=>
   rw[o9 rfl];rw[o9 rfl]at k;refine rD (Eg _ s9 _ H9 _ I9 k) (λV lg⟨y,M,kh,v8,ys,B5,hz,f,C,U⟩=>?_) j;refine rD (ik (X:=Y) _ lg _ M (.ref acc) [y] (.ref acc) [V] (λ_ S=>S=upd M acc (.lst (ys++[y]))) kh rfl (.cons v8 .nil) ⟨acc,ys,y,rfl,rfl,B5,hz,rfl⟩)
    (λ_ s11⟨_,S,T1,_,pN⟩=>?_) j
   subst pN;exact⟨f,C,i+1,_,_,P,T1.Nd,(a T1).1,(a T1).2,U⟩
theorem cN{RR:Value->Addr->Result->Shared->Prop}(L:X.calm=true)(S:G6 X.N X.env.scope scope ce zs Au js)
  (I:∀C s H,PG (GA X (Au++zs) scope ce (CP X.env.cells scope.names) C s H fp) tg g)
  (Ed:∀C s H,IV (GA X (Au++zs) scope ce (CP X.env.cells scope.names) C s H fp) ifs tt) (Eg:∀C s H,PE (GA X (Au++zs) scope ce (CP X.env.cells scope.names) C s H fp) elt te)
  (T:Turn X.prog X.w X.K tg J fp it tn) (I2:Inv X Ze Z H2 s2) (Iz:tn 0 s2.heap) (n:∀b∈fp,FH X Ze H2 b) (Q:VK) (M:∀acc,H2 acc=none->PR g zs.length J js tt te Z H2 acc Q)
  (D:∀acc C H' s' m,Inv X Ze Z H' s'->FH X Ze H' C->s'.heap.Ns C m->Q (.ref acc) H'->RR (.ref acc) C (.ok .next) s') :
  wpAny (model X.prog X.w) X.A (newList []) (λacc a=>wpAny (model X.prog X.w) X.A (newFunctionEnv scope X.env.globals (CP X.env.cells scope.names) [] X.env.qual none .none (some X.env)) (λk s4=>
   codeAny (model X.prog X.w) X.A (.compStart (.ListComp elt [⟨tg,iter,ifs,0⟩] scope pos) 0 (.ref it) acc { k with scope:=relabel scope X.env }) (RR acc k.locals) s4) E a) E s2:=by
 refine qm (lV S.cf S.pc ?_);have i:Inv X Ze Z (upd H2 s2.heap.objs.size (.lst [])) { s2 with heap:=s2.heap.push { cls:=.type "list", data:=.seq ([]:List Value).toArray } }:=I2.Zt (t':=s2.toks) .nil (CK _)
 have v:∀b∈fp,b<s2.heap.objs.size:=λb c=>by
  obtain⟨o,e,_⟩:=T.obj _ _ Iz b c;exact B9 e
 have R:(s2.heap.push { cls:=.type "list", data:=.seq ([]:List Value).toArray }).objs.size=s2.heap.objs.size+1:=E8 ..;have f:∀b∈fp,FH X Ze (upd H2 s2.heap.objs.size (.lst [])) b:=λb c=>⟨by rw[Az (Bn (v b c))];exact(n b c).1,(n b c).2⟩;generalize j:({ s2 with heap:=s2.heap.push { cls:=.type "list", data:=.seq ([]:List Value).toArray } }:Shared)=a at i ⊢
 have l:a.heap=s2.heap.push { cls:=.type "list", data:=.seq ([]:List Value).toArray }:=by rw[<- j]
 have y:∀b∈fp,b<a.heap.objs.size:=λb c=>by rw[l,R];exact Jl (v b c)
 generalize t:QK ce (a.heap.push { cls:=.type "dict", data:=.dict #[] })=h1;have r:∀b o,(a.heap.push { cls:=.type "dict", data:=.dict #[] }).get? b=some o->h1.get? b=some o:=λb o e=>by
  rw[<- t];cases ce with
  |none=>exact e
  |some _=>exact BE _ e
 have h:∀b o,a.heap.get? b=some o->h1.get? b=some o:=λb o e=>r b o (BE _ e);have F:∀b o,s2.heap.get? b=some o->h1.get? b=some o:=λb o e=>h b o (by rw[l];exact BE _ e);have O:h1.Ns a.heap.objs.size (λ_=>none):=(Heap.Ns.new a.heap (.type "dict")).keeps r;have U:∀x,ce=some x->h1.IsCell (a.heap.objs.size+1) none:=λx hx=>by
  subst hx;rw[<- t];have e:(a.heap.push { cls:=.type "dict", data:=.dict #[] }).objs.size=a.heap.objs.size+1:=E8 ..;exact⟨_,by rw[<- e];exact BY _ rfl,rfl⟩
 have P:=oz S i f y O h U (t':=a.toks);have u:tn 0 h1:=T.keep _ _ _ Iz λb _ o e=>F b o e;obtain⟨W,⟨B,z⟩,turn⟩:=M s2.heap.objs.size (I2.AW.fresh (B4 _));have d:codeAny (model X.prog X.w) X.A (.compLoop (.ListComp elt [⟨tg,iter,ifs,0⟩] scope pos) 0 (.ref it) (.ref s2.heap.objs.size) (compEnvC scope (Hc ce (a.heap.objs.size+1)++CP X.env.cells scope.names) a.heap.objs.size X.env))
   (RR (.ref s2.heap.objs.size) a.heap.objs.size) { a with heap:=h1 }:=by
  refine vU (X:=X) (Y:=GA X (Au++zs) scope ce (CP X.env.cells scope.names) a.heap.objs.size a (upd H2 s2.heap.objs.size (.lst [])) fp) (acc:=s2.heap.objs.size) (Q:=Q) rfl rfl rfl rfl rfl L (I _ _ _) (Ed _ _ _) (Eg _ _ _) T (λb c ok=>⟨rfl,(ok.KJ b c).1,ok.JH b c,.inl c,(ok.KJ b c).2,λp G=>by cases G⟩) W turn P u (λb c=>(f b c).1) B z (ZF9 ..) λH' s' w I' q=>?_;obtain⟨m,hn,_⟩:=I'.loc;exact D _ _ H' s' m (i.ZB6 (ch:=fp) I'.os I'.base I'.AW I'.bare λb c=>⟨(f b c).2.2.2.1,(f b c).2.1,(f b c).2.2.2.2.1,(f b c).2.2.2.2.2⟩) (i.Qj (B4 _) I'.free) hn q
 exact codeAny_compStart_list d (T.self X.A 0 _ _ _ u d)
theorem iJ(S:G6 X.N X.env.scope scope ce zs Au js)(I:Inv X Ze Z H s):closureFor scope X.env=pure (CP X.env.cells scope.names):=zd λy a b=>by
 obtain⟨c,e⟩:=I.ok.has y.1 (.inl (S.all y a b));rw[e];rfl
theorem ZBj(k:∀J Z H1 acc Q,CW J Z H1 acc Q->PR g zs.length J js tt te Z H1 acc Q)(f:X.calm=true)(S:G6 X.N X.env.scope scope ce zs Au js)(hi:PI X tg iter wi)
  (d:∀fp C s H,PG (GA X (Au++zs) scope ce (CP X.env.cells scope.names) C s H fp) tg g)
  (Ed:∀fp C s H,IV (GA X (Au++zs) scope ce (CP X.env.cells scope.names) C s H fp) ifs tt) (Eg:∀fp C s H,PE (GA X (Au++zs) scope ce (CP X.env.cells scope.names) C s H fp) elt te)
  (c:∀v,foldedSetIterable iter X.env v=pure v):PE X (.ListComp elt [⟨tg,iter,ifs,0⟩] scope pos) (j8 CW wi):=by
 intro Ze s Z H Q I h;rw[eval_ListComp];refine wpAny_comprehension_free (use:=none) rfl c (iJ S I) S.kind S.loc (Aj (hi Ze s Z H _ I h) λv s1 h1=>Aj h1 λPo s2 h2=>?_);obtain⟨it,fp,tn,J,H2,e,I2,T,Iz,l,hw⟩:=h2;subst e;refine cN (RR:=λacc C=>compPost (model X.prog X.w) X.A X.xe none (EP X Ze Z Q) acc C) f S (d fp) (Ed fp) (Eg fp) T I2 Iz l Q (λacc j=>k _ _ _ _ _ (hw acc j)) λacc C H' s' m I' a hn q=>⟨m,hn,λh' Lb=>?_⟩;exact⟨.ref acc,H',I'.turned (t':=s'.toks) (λb o i e=>(Lb.2 b i).trans e) a.1 a.2.1 a.2.2.2.1 a.2.2.2.2.1 a.2.2.2.2.2,rfl,q⟩
theorem lY(x:∀J Z H1 acc Q,CW J Z H1 acc Q->PR g zs.length J js tt te Z H1 acc Q)(B:X.N.Nodup)(HA:X.N[i]?=some y)(k:Loc X.env.scope y)(t:X.calm=true)(S:G6 X.N X.env.scope scope ce zs Au js)(hi:PI X tg iter wi)
  (p:∀fp C s H,PG (GA X (Au++zs) scope ce (CP X.env.cells scope.names) C s H fp) tg g)
  (Ed:∀fp C s H,IV (GA X (Au++zs) scope ce (CP X.env.cells scope.names) C s H fp) ifs tt) (Eg:∀fp C s H,PE (GA X (Au++zs) scope ce (CP X.env.cells scope.names) C s H fp) elt te)
  (Mx:swapsWith (.ListComp elt [⟨tg,iter,ifs,0⟩] scope pos) (some (.Name y py)) JA.line X.env=pure true)
  (r:X.fn y=true∨X.env.scope.names.lookup y=some .local)
  (l:∀v,foldedSetIterable iter X.env v=pure v):PS X (.Assign [.Name y py] (.ListComp elt [⟨tg,iter,ifs,0⟩] scope pos) JA) (Fd (j8 CW wi) (Dj i)):=by
 intro Ze s Z H D I h;rw[exec_Assign_Name_used _ _ _ _ Mx];refine ko (ZAW (ko ?_));show wpAny _ X.A (do let _ <- comprehension (.ListComp elt [⟨tg,iter,ifs,0⟩] scope pos) scope X.env _ (newList []) false (eval iter X.env) (some (assign (.Name y py) X.env))) _ _ s
 refine ko (rD (wpAny_comprehension_free (use:=some (assign (.Name y py) X.env)) (Q:=λ_ s'=>SP X Ze D .next s') rfl l (iJ S I) S.kind S.loc
  (Aj (hi Ze s Z H _ I h) λv s1 h1=>Aj h1 λPo s2 h2=>?_)) (λ_ s' n=>mD (mD n)) λ_ _ e=>e)
 obtain⟨it,fp,tn,J,H2,e,I2,T,Iz,E,hw⟩:=h2;subst e;refine cN (RR:=λacc C=>compPost (model X.prog X.w) X.A X.xe (some (assign (.Name y py) X.env)) (λ_ s'=>SP X Ze D .next s') acc C) t S (p fp) (Ed fp) (Eg fp) T I2 Iz E _ (λacc d=>x _ _ _ _ _ (hw acc d)) λacc C H' s' m I' c hn q=>?_;show wpAny _ X.A (assign (.Name y py) X.env (.ref acc)) _ _ s';refine wpAny_assign_Name (gN (v:=.ref acc) I' B HA k rfl (λKu f⟨a,j,d⟩=>?_) r);have F:C≠a:=by
  rcases d with z|z
  .rw[z];exact c.2.1
  .exact(c.2.2.2.2.1 y a z).symm
 refine⟨m,hn.sameBut j F,λh' Lb=>?_⟩;exact⟨_,H',f.turned (t':=Ku.toks) (λb o u e=>(Lb.2 b u).trans e) c.1 c.2.1 c.2.2.2.1 c.2.2.2.2.1 c.2.2.2.2.2,q⟩
theorem dv{n:Nat}{cl:List (Str×Addr)}:∀{names:List (Str×NameKind)},(∀y∈names,y.2≠.cell)->cellsFrom n names cl=cl
 | [],_=>rfl
 | (x,k)::r,h=>by
  have b:(k == NameKind.cell)=false:=beq_eq_false_iff_ne.mpr (h _ BZ);rw[cellsFrom,b];exact dv λy a=>h y (C5 _ a)
theorem iV{a:Heap}:∀{names:List (Str×NameKind)},(∀y∈names,y.2≠.cell)->pushCells a names=a
 | [],_=>rfl
 | (x,k)::r,h=>by
  have c:(k == NameKind.cell)=false:=beq_eq_false_iff_ne.mpr (h _ BZ);rw[pushCells,c];exact iV λy b=>h y (C5 _ b)
theorem G6.yq(kind:scope.kind=.function)(Mp:∀y∈scope.names,y.2≠.cell)(loc:∀y∈scope.names,y.2=.local->scope.names.lookup y.1=some .local)
  (at':js.map (λj=>N[j]?)=Au.map some) (cell:∀y∈Au,outer.names.lookup y=some .cell) (free:∀y∈Au,scope.names.lookup y=some .free)
  (all:∀y∈scope.names,y.2=.free->outer.names.lookup y.1=some .cell) (nd:(Au++zs).Nodup):G6 N outer scope none zs Au js:=
 ⟨kind,loc,λy a e=>absurd e (Mp y a),λx e=>(by cases e),λn cl=>dv Mp,λh=>iV Mp,at',cell,free,all,nd⟩
theorem G6.len(S:G6 N outer scope ce zs Au js)(Z:St):(Br js Z).length=Au.length:=by
 unfold Br;rw[Ae];have:=vF List.length S.at';simpa using this
theorem bC(S:G6 N outer scope ce [x] Au js)(J:It)(Z:St)(H1:Hp)(acc:Addr)(Q:VK)(h:KA J js tt te Z H1 acc Q):PR (Dj Au.length) 1 J js tt te Z H1 acc Q:=by
 obtain⟨W,a,h⟩:=h;refine⟨W,a,λi m H2 w=>(h i m H2 w).imp id λz=>⟨z.1,λx H3 y ws hw=>?_⟩⟩
 match ws,hw with
 | [w],_=>
  have e:(Br js Z++[w]).set Au.length (some x)=Br js Z++[some x]:=by rw[<- S.len Z];exact ZBo _ _ _
  exact⟨[some x],rfl,e,by rw[e];exact z.2 x H3 y⟩
theorem jc(S:G6 X.N X.env.scope scope ce [x] Au js)(hx:scope.names.lookup x=some .local∨(ce=some x/\scope.names.lookup x=some .cell)):
  PG (GA X (Au++[x]) scope ce cl C s H fp) (.Name x px) (Dj Au.length):=
 jT S.nd (by simp) (hx.imp (λh=>lookup_relabel_local h) λh=>ZC3 h.2) (hx.symm.imp (λh=>by show(ce == some x)=true;rw[h.1];exact xF _) λh=>lookup_relabel_local h)
theorem CV.G(S:CV N outer scope x Au js):G6 N outer scope none [x] Au js:=.yq S.kind S.Mp S.loc S.at' S.cell S.free S.all S.nd
theorem oy(b:X.calm=true)(S:CV X.N X.env.scope scope x Au js)(hi:PI X (.Name x px) iter wi)
  (Ed:∀fp C s H,IV (JQ X (Au++[x]) scope (CP X.env.cells scope.names) C s H fp) ifs tt) (Eg:∀fp C s H,PE (JQ X (Au++[x]) scope (CP X.env.cells scope.names) C s H fp) elt te)
  (a:∀v,foldedSetIterable iter X.env v=pure v:=by intro _;rfl):PE X (.ListComp elt [⟨.Name x px,iter,ifs,0⟩] scope pos) (Kg wi js tt te):=
 ZBj (CW:=λJ Z H1 acc Q=>KA J js tt te Z H1 acc Q) (bC S.G) b S.G hi (λ_ _ _ _=>jc S.G (.inl S.cy)) Ed Eg a
theorem zt(c:X.N.Nodup)(HA:X.N[i]?=some y)(a:Loc X.env.scope y)(b:X.calm=true)(S:CV X.N X.env.scope scope x Au js)(hi:PI X (.Name x px) iter wi)
  (Ed:∀fp C s H,IV (JQ X (Au++[x]) scope (CP X.env.cells scope.names) C s H fp) ifs tt) (Eg:∀fp C s H,PE (JQ X (Au++[x]) scope (CP X.env.cells scope.names) C s H fp) elt te)
  (Mx:swapsWith (.ListComp elt [⟨.Name x px,iter,ifs,0⟩] scope pos) (some (.Name y py)) JA.line X.env=pure true:=by rfl)
  (hf:X.fn y=true∨X.env.scope.names.lookup y=some .local:=by first|exact .inl rfl|exact .inr rfl|assumption)
  (hs:∀v,foldedSetIterable iter X.env v=pure v:=by intro _;rfl):PS X (.Assign [.Name y py] (.ListComp elt [⟨.Name x px,iter,ifs,0⟩] scope pos) JA) (Fd (Kg wi js tt te) (Dj i)):=
 lY (CW:=λJ Z H1 acc Q=>KA J js tt te Z H1 acc Q) (bC S.G) c HA a b S.G hi (λ_ _ _ _=>jc S.G (.inl S.cy)) Ed Eg Mx hf hs
end
def DH(K:ZGX)(tp:Bool)(H:Hp)(a:Addr)(xs:List V):Prop:=match tp with
 |false=>AO K H a xs
 |true=>AN K H a xs
theorem DH.or{K:ZGX}(h:DH K tp H a xs):AO K H a xs∨AN K H a xs:=by
 cases tp
 .exact .inl h
 .exact .inr h
def JP(K:ZGX)(tp:Bool)(a:Addr)(xs:List V):It:=
 ⟨λi H=>DH K tp H a xs/\i<xs.length,λi H x H'=>H'=H/\xs[i]?=some x,λi H=>DH K tp H a xs/\xs.length<=i⟩
theorem zh{P:Program}{K:ZGX}(a it:Addr)(xs:List V):Turn P w K tg (JP K false a xs) [it] it (λi h=>h.IsListIter it a i) where
 mem:=by simp
 obj:=(Mr (P:=P) (w:=w) (K:=K) (tg:=tg) a it).obj
 keep:=(Mr (P:=P) (w:=w) (K:=K) (tg:=tg) a it).keep
 item:=by
  intro X f hw g d i Ze s Z H E I c st b;obtain⟨j,hi⟩:=b;refine Aj ((Mr (P:=P) (w:=w) (K:=K) (tg:=tg) a it).item X f hw g d i Ze s Z H E I c st ⟨xs,xs[i],j,by simp[hi]⟩) λr s1 AM=>by obtain⟨u,e,h⟩:=AM;exact⟨u,e,Aj h λ_ s2 D9=>by obtain⟨x,H',I',k,y,Dr,l⟩:=D9;exact⟨x,H',I',k,⟨y.1,y.2 xs j⟩,Dr,l⟩⟩
 done:=by
  intro X f hw g d i Ze s Z H E I c st b;exact(Mr (P:=P) (w:=w) (K:=K) (tg:=tg) a it).done X f hw g d i Ze s Z H E I c st ⟨xs,b.1,b.2⟩
 self:=(Mr (P:=P) (w:=w) (K:=K) (tg:=tg) a it).self
theorem nD{P:Program}{K:ZGX}(a it:Addr)(xs:List V):Turn P w K tg (JP K true a xs) [it] it (λi h=>h.IsTupleIter it a i) where
 mem:=by simp
 obj:=(O5 (P:=P) (w:=w) (K:=K) (tg:=tg) a it).obj
 keep:=(O5 (P:=P) (w:=w) (K:=K) (tg:=tg) a it).keep
 item:=by
  intro X f hw g d i Ze s Z H E I c st b;obtain⟨j,hi⟩:=b;refine Aj ((O5 (P:=P) (w:=w) (K:=K) (tg:=tg) a it).item X f hw g d i Ze s Z H E I c st ⟨xs,xs[i],j,by simp[hi]⟩) λr s1 AM=>by obtain⟨u,e,h⟩:=AM;exact⟨u,e,Aj h λ_ s2 D9=>by obtain⟨x,H',I',k,y,Dr,l⟩:=D9;exact⟨x,H',I',k,⟨y.1,y.2 xs j⟩,Dr,l⟩⟩
 done:=by
  intro X f hw g d i Ze s Z H E I c st b;exact(O5 (P:=P) (w:=w) (K:=K) (tg:=tg) a it).done X f hw g d i Ze s Z H E I c st ⟨xs,b.1,b.2⟩
 self:=(O5 (P:=P) (w:=w) (K:=K) (tg:=tg) a it).self
def R1(K:ZGX)(tl:TE):TI:=λZ H R=>tl Z H λx H1=>∃tp a xs,x=.ref a/\DH K tp H1 a xs/\R (JP K tp a xs) H1
def UT(z:Str):It:=⟨λi _=>i<z.cps.size,λi H x H'=>H'=H/\∃c,z.cps[i]?=some c/\x=.str ⟨#[c]⟩,λi _=>i=z.cps.size⟩
theorem cB{P:Program}{K:ZGX}{t:Tok}{ty:String}
  (hn:["enumerate","zip","dict_itemiterator","dict_reverseitemiterator","odict_iterator","itertools.zip_longest","itertools.pairwise"].contains ty=false)
  (W:∀A:Around,A.handled=none->Walks P w A it [it] [it] z.cps.size (SignAt z) (λi h=>h.IsStrIter it ty z t i))
  (self:∀(A:Around)(i:Nat)(s:Shared)(Q:Value->Shared->Prop)(E:Value->Shared->Prop),s.heap.IsStrIter it ty z t i->Q (.ref it) s->wpAny (model P w) A (pyIter (.ref it)) Q E s) :
  Turn P w K tg (UT z) [it] it (λi h=>h.IsStrIter it ty z t i) where
 mem:=by simp
 obj:=λi h st b a=>by
  have e:b=it:=by simpa using a
  subst e;obtain⟨o,e,c,d⟩:=st;exact⟨o,e,λv z=>by rw[d]at z;cases z⟩
 keep:=λi h h' st k=>let ⟨o,e,r⟩:=st;⟨o,k it (by simp) o e,r⟩
 item:=by
  intro X l hw m j i Ze s Z H E I f st g;subst l hw m;obtain⟨f0,f1,B,q,p,n⟩:=f it (by simp);refine(W X.A (I.ok.hd j)).item i s _ _ g st λv h' tk⟨c,u,Ox,y⟩Dr kp=>?_;subst y;have C:Inv X Ze Z H { s with heap:=h',toks:=tk }:=I.turned (t':=tk) (λb o a e=>kp b o (by simpa using a) e) f0 f1 q p n
  obtain⟨o,e,cl,d⟩:=id Dr;exact⟨_,rfl,P4 (s:={ s with heap:=h',toks:=tk }) e cl d hn ⟨.str ⟨#[c]⟩,H,C,⟨u,rfl⟩,⟨rfl,c,Ox,rfl⟩,Dr,λb a=>(f b a).1⟩⟩
 done:=by
  intro X l hw m j i Ze s Z H E I f st g;subst l hw m;obtain⟨f0,f1,B,q,p,n⟩:=f it (by simp);have x:i=z.cps.size:=g;subst x;exact(W X.A (I.ok.hd j)).done s _ _ st λh' tk kp=>⟨rfl,I.turned (t':=tk) (λb o a e=>kp b o (by simpa using a) e) f0 f1 q p n⟩
 self:=self
def Vf(tl:TE):TI:=λZ H R=>tl Z H λx H1=>∃z,x=.str z/\R (UT z) H1
theorem B8(h:H p=none)(o:HO):AE H (upd H p o):=λb u q=>by rw[Az (DU q h)];exact q
theorem AE.yo{K:ZGX}(e:AE H H')(h:AN K H a xs):AN K H' a xs:=by
 rcases h with(h|⟨o,h⟩)|h
 .exact .inl (.inl (e _ _ h))
 .exact .inl (.inr ⟨o,e _ _ h⟩)
 .exact .inr h
theorem AE.sq{K:ZGX}(e:AE H H')(h:DH K tp H a xs):DH K tp H' a xs:=by
 cases tp
 .exact AE.seq e h
 .exact AE.yo e h
theorem d9{Q:VK}(xs:List V)(f:V->Bool)(g:V->V)(B5:H1 acc=none)(z:xs.length<=sizeLine)
  (n:∀i H,AE H1 H->i<xs.length->J.go i H) (BQ:∀H,AE H1 H->J.stop xs.length H) (p:∀i H x H',J.Fh i H x H'->H'=H/\xs[i]?=some x)
  (r:∀(i:Nat)(x:V)(H':Hp)(Q':Bool->Hp->Prop),xs[i]?=some x->AE H1 H'->(∀E5,AE H' E5->Q' (f x) E5)->tt (Br js Z++[some x]) H' Q')
  (s:∀(i:Nat)(x:V)(H':Hp)(Q':VK),xs[i]?=some x->f x=true->AE H1 H'->(∀E5,AE H' E5->Q' (g x) E5)->te (Br js Z++[some x]) H' Q')
  (hd:∀H',AE H1 H'->H' acc=some (.lst ((xs.filter f).map g))->Q (.ref acc) H'):KA J js tt te Z H1 acc Q:=by
 refine⟨λi m H=>m=xs.length - i/\i<=xs.length/\AE H1 H/\H acc=some (.lst (((xs.take i).filter f).map g)),⟨xs.length,by simp,CK _,B8 B5 _,AU⟩,?_⟩;rintro i m H2⟨rfl,hi,a,j⟩
 by_cases h:i<xs.length
 .refine .inr ⟨n i H2 a h,λx H3 y=>?_⟩;obtain⟨e,hx⟩:=p i H2 x H3 y;subst e;have w:(xs.take (i+1))=xs.take i++[x]:=by
   have u:xs[i]=x:=by
    rw[C4 h]at hx;exact Be hx
   rw[kP h,u]
  have l:List.filter f (xs.take (i+1))=(xs.take i).filter f++(if f x=true then[x]else[]):=by
   rw[w,Yp];congr 1
   by_cases c:f x=true <;> simp[c]
  refine r i x _ _ hx a λH4 s4=>?_
  by_cases c:f x=true
  .rw[o9 c];refine s i x H4 _ hx c (a.trans s4) λH5 k=>?_;have d:(((xs.take i).filter f).map g).length<sizeLine:=by
    rw[Ae];have:=GX f (xs.take i);rw[Bu]at this;omega
   refine⟨_,k _ _ (s4 _ _ j),d,xs.length - (i+1),by omega,rfl,h,λb o q=>?_,?_⟩
   .have t:b≠acc:=by rintro rfl;rw[B5]at q;cases q
    rw[Az t];exact k _ _ (s4 _ _ (a b o q))
   .rw[AU,l,o9 c,D6];rfl
  .have v:f x=false:=by simpa using c
   rw[v];rw[mL (by decide)];refine⟨xs.length - (i+1),by omega,rfl,h,a.trans s4,?_⟩;rw[l,mL c,Hr];exact s4 _ _ j
 .have e:i=xs.length:=by omega
  subst e;refine .inl ⟨BQ H2 a,hd H2 a ?_⟩;rw[Jk]at j;exact j
theorem L6{K:ZGX}{Q:VK}(f:V->Bool)(g:V->V)(b:DH K tp H1 a xs)(B5:H1 acc=none)(c:xs.length<=sizeLine)
  (d:∀(i:Nat)(x:V)(H':Hp)(Q':Bool->Hp->Prop),xs[i]?=some x->AE H1 H'->(∀E5,AE H' E5->Q' (f x) E5)->tt (Br js Z++[some x]) H' Q')
  (e:∀(i:Nat)(x:V)(H':Hp)(Q':VK),xs[i]?=some x->f x=true->AE H1 H'->(∀E5,AE H' E5->Q' (g x) E5)->te (Br js Z++[some x]) H' Q')
  (hd:∀H',AE H1 H'->H' acc=some (.lst ((xs.filter f).map g))->Q (.ref acc) H'):KA (JP K tp a xs) js tt te Z H1 acc Q:=
 d9 xs f g B5 c (λi H s hi=>⟨s.sq b,hi⟩) (λH s=>⟨s.sq b,B4 _⟩) (λi H x H' y=>y) d e hd
def GV(z:Str):List V:=z.cps.toList.map λc=>.str ⟨#[c]⟩
theorem Xz(z:Str):(GV z).length=z.cps.size:=by unfold GV;simp
theorem fL{Q:VK}(f:V->Bool)(g:V->V)(B5:H1 acc=none)(a:z.cps.size<=sizeLine)
  (b:∀(i:Nat)(x:V)(H':Hp)(Q':Bool->Hp->Prop),(GV z)[i]?=some x->AE H1 H'->(∀E5,AE H' E5->Q' (f x) E5)->tt (Br js Z++[some x]) H' Q')
  (d:∀(i:Nat)(x:V)(H':Hp)(Q':VK),(GV z)[i]?=some x->f x=true->AE H1 H'->(∀E5,AE H' E5->Q' (g x) E5)->te (Br js Z++[some x]) H' Q')
  (hd:∀H',AE H1 H'->H' acc=some (.lst (((GV z).filter f).map g))->Q (.ref acc) H'):KA (UT z) js tt te Z H1 acc Q:=by
 refine d9 (GV z) f g B5 (by rw[Xz];exact a) (λi H s hi=>?_) (λH s=>?_) (λi H x H' y=>?_) b d hd
 .rw[Xz]at hi;exact hi
 .show(GV z).length=z.cps.size;exact Xz z
 .obtain⟨e,c,h,hx⟩:=y;refine⟨e,?_⟩;subst hx;unfold GV;rw[Bt,OX,h];rfl
def G7(xs ys:List V):Bool:=xs.length == ys.length && (List.range xs.length).all λj=>Dg (xs.getD j .AG) (ys.getD j .AG)
theorem NR{x:V}(h:xs[j]?=some x):xs.getD j .AG=x:=by rw[Ob,h];rfl
theorem gg{x:V}(h:xs.all EB=true)(e:xs[j]?=some x):EB x=true:=List.all_eq_true.mp h x (LB e)
theorem Oo{Bg:List Value}(d:Vals xs A5)(c:Vals ys Bg)(k:xs.all EB=true)(i:ys.all EB=true):
  ∀j(h1:j<A5.toArray.size)(h2:j<Bg.toArray.size),SeqAt.EqAt A s A5.toArray[j] Bg.toArray[j] (Dg (xs.getD j .AG) (ys.getD j .AG)):=λj h1 h2=>by
 have l1:=d.length;have l2:=c.length;have o:j<A5.length:=by simpa using h1
 have n:j<Bg.length:=by simpa using h2
 have b:xs[j]?=some (xs[j]'(by omega)):=C4 _;have a:ys[j]?=some (ys[j]'(by omega)):=C4 _;obtain⟨u,f,h⟩:=d.get b;obtain⟨v,e,g⟩:=c.get a;rw[C4 o]at f;rw[C4 n]at e;have m:A5[j]=u:=Be f;have l:Bg[j]=v:=Be e;rw[NR b,NR a];have q:=QL (A:=A) (s:=s) h g (gg k b) (gg i a);rw[<- m,<- l]at q
 simpa using q
def O0(K:ZGX)(neg:Bool):R2:=λx y H Q=>∃p q xs ys,x=.ref p/\y=.ref q/\((AO K H p xs/\AO K H q ys)∨(AN K H p xs/\AN K H q ys))/\xs.all EB=true/\ys.all EB=true/\
 Q (.bl (if neg then !G7 xs ys else G7 xs ys)) H
theorem M8(h:xs.length≠ys.length):G7 xs ys=false:=by
 unfold G7;have:(xs.length == ys.length)=false:=by simpa using h
 rw[this,Yk]
theorem Li(h:xs.length=ys.length):G7 xs ys=(List.range xs.length).all λj=>Dg (xs.getD j .AG) (ys.getD j .AG):=by
 unfold G7;have:(xs.length == ys.length)=true:=by simpa using h
 rw[this,Yl]
theorem VH(f:X.A.units<cLine):BD X (compareOp .Eq) (O0 X.K false):=by
 intro Ze s Z H x y v u Q I r o h;obtain⟨p,q,xs,ys,rfl,rfl,t,l,k,w⟩:=h;cases r;cases o;have b:Q (.bl (G7 xs ys)) H:=w;rcases t with⟨i,g⟩|⟨i,g⟩
 .obtain⟨A5,d,p1,n⟩:=I.list i;obtain⟨Bg,c,p2,m⟩:=I.list g;have l1:=d.length;have l2:=c.length
  by_cases a:xs.length=ys.length
  .refine SeqAt.eq_listAt (e:=λj=>Dg (xs.getD j .AG) (ys.getD j .AG)) p1.isList p2.isList (by simp;omega) f (Oo d c l k) ⟨.bl _,H,I,rfl,?_⟩;rw[Li a]at b;simp only[Bv,<- l1];exact b
  .rw[M8 a]at b;exact ZFb p1.isList p2.isList (by simp;omega) f ⟨.bl false,H,I,rfl,b⟩
 .obtain⟨A5,d,p1,n⟩:=I.tuple i;obtain⟨Bg,c,p2,m⟩:=I.tuple g;have l1:=d.length;have l2:=c.length;refine SeqAt.eq_tupleAt (e:=λj=>Dg (xs.getD j .AG) (ys.getD j .AG)) p1 p2 f (Oo d c l k) ⟨.bl _,H,I,rfl,?_⟩;simp only[Bv,<- l1,<- l2]
  by_cases a:xs.length=ys.length
  .rw[Li a]at b;have:(xs.length == ys.length)=true:=by simpa using a
   rw[this,OY,<- a,kT];exact b
  .rw[M8 a]at b;have:(xs.length == ys.length)=false:=by simpa using a
   rw[this,L9];exact b
theorem LI(f:X.A.units<cLine):BD X (compareOp .NotEq) (O0 X.K true):=by
 intro Ze s Z H x y v u Q I r o h;obtain⟨p,q,xs,ys,rfl,rfl,t,l,k,w⟩:=h;cases r;cases o;have b:Q (.bl (!G7 xs ys)) H:=w;rcases t with⟨i,g⟩|⟨i,g⟩
 .obtain⟨A5,d,p1,n⟩:=I.list i;obtain⟨Bg,c,p2,m⟩:=I.list g;have l1:=d.length;have l2:=c.length
  by_cases a:xs.length=ys.length
  .refine SeqAt.RcNeAt.lists (e:=λj=>Dg (xs.getD j .AG) (ys.getD j .AG)) p1.isList p2.isList (by simp;omega) f (Oo d c l k) _ _ _ _ ⟨.bl _,H,I,rfl,?_⟩;rw[Li a]at b;simp only[Bv,<- l1];exact b
  .rw[M8 a]at b;exact SeqAt.RcNeAt.lists_lengths p1.isList p2.isList (by simp;omega) f _ _ _ _ ⟨.bl true,H,I,rfl,b⟩
 .obtain⟨A5,d,p1,n⟩:=I.tuple i;obtain⟨Bg,c,p2,m⟩:=I.tuple g;have l1:=d.length;have l2:=c.length;refine SeqAt.RcNeAt.tuples (e:=λj=>Dg (xs.getD j .AG) (ys.getD j .AG)) p1 p2 f (Oo d c l k) _ _ _ _ ⟨.bl _,H,I,rfl,?_⟩;simp only[Bv,<- l1,<- l2]
  by_cases a:xs.length=ys.length
  .rw[Li a]at b;have:(xs.length == ys.length)=true:=by simpa using a
   rw[this,OY,<- a,kT];exact b
  .rw[M8 a]at b;have:(xs.length == ys.length)=false:=by simpa using a
   rw[this,L9];exact b
theorem yt:Cc X (.builtin "isinstance") (λxs H Q=>∃x n t b,xs=[x,.ty n]/\EV X.K H x t/\PySem.W.kitOne X.K t (.type n)=some b/\Q (.bl b) H):=by
 intro Ze s Z H xs us Q I r h;obtain⟨x,n,t,b,rfl,ty,e,q⟩:=h;obtain⟨u,c,rfl,a,rt⟩:=vals2 r;cases rt;exact sx I a ty e λtk=>⟨.bl b,H,I.tok tk,rfl,q⟩
theorem oH{bs:List Bool}(r:Vals (bs.map V.bl) A5)(e:A5[i]?=some v):v=.bool (bs.getD i false):=by
 have c:=r.length;rw[Ae]at c;have hi:i<A5.length:=(List.getElem?_eq_some_iff.mp e).1;have d:(bs.map V.bl)[i]?=some (.bl (bs[i]'(by omega))):=by rw[Bt,C4 (by omega)];rfl
 obtain⟨u,a,b⟩:=r.get d;rw[e]at a;cases a;cases b;rw[Ob,C4 (by omega)];rfl
theorem range_all(bs:List Bool):(List.range bs.length).all (λi=>bs.getD i false)=bs.all id:=by
 rw[Eo,Fo,Fo];constructor
 .intro h x hx;obtain⟨i,hi,rfl⟩:=List.mem_iff_getElem.mp hx;have:=h i (List.mem_range.mpr hi);rw[Ob,C4 hi]at this;exact this
 .intro h i hi;rw[Ob,C4 (List.mem_range.mp hi)];exact h _ (Ik _)
theorem M3(j:X.calm=true):Cc X (.builtin "all") (λxs H Q=>∃(p:Addr)(bs:List Bool),xs=[.ref p]/\AO X.K H p (bs.map V.bl)/\Q (.bl (bs.all id)) H):=by
 intro Ze s Z H xs us Q I r h;obtain⟨p,bs,rfl,g,q⟩:=h;obtain⟨u,rfl,d⟩:=vals1 r;cases d;obtain⟨A5,a,pl,m⟩:=I.list g;have c:=a.length;rw[Ae]at c;refine call_all_walk (ZAx pl.isList ?_);obtain⟨o,n,ho,_⟩:=id pl;have l:p≠s.heap.objs.size:=Bn (B9 ho);refine⟨s.heap.objs.size,_,_,_,_,_,λi=>bs.getD i false,rfl,Walks.list (by rw[jr];exact I.ok.hd j) _ p l A5.toArray,⟨⟨_,BY _ rfl,rfl,rfl⟩,pl.isList.push _⟩,λi v s' Q' E' f DV=>?_,λh' tk kp=>?_⟩
 .have k:v=.bool (bs.getD i false):=oH a (by simpa using f)
  rw[k];exact xX DV
 .refine⟨.bl _,H,I.kept (t':=tk) λb ob e=>kp b ob (by simpa using Bn (B9 e)) (BE _ e),rfl,?_⟩
  rw[Bv,<- c,range_all];exact q
def bL:V->List V->Hp->VK->Prop:=λx vs H Q=>∃(l:Addr)(xs:List V)(j:Int)(y:V),x=.ref l/\vs=[.int j,y]/\H l=some (.lst xs)/\0<=j/\j<=xs.length/\xs.length<sizeLine/\Q .AG (upd H l (.lst (xs.take j.toNat++y::xs.drop j.toNat)))
theorem tX:UJ X "list.insert" bL:=by
 intro Ze s Z H x vs v us Q I d f h;obtain⟨l,xs,j,y,rfl,rfl,b,o,m,B,q⟩:=h;cases d;obtain⟨A,a,rfl,g,c⟩:=f.two;obtain⟨t,rfl⟩:=g;obtain⟨z,A5,n,r,k,e⟩:=I.Ms b;have h2:j<2 ^ 63:=by
  have C:(xs.length:Int)<=(sizeLine:Int):=Int.ofNat_le.mpr z;have D:((sizeLine:Nat):Int)<2 ^ 63:=by exact_mod_cast HI
  omega
 have w:(!Builtin.List.listFitsIndex j)=true->False:=by
  have h1:Builtin.List.listFitsIndex j=true:=by
   unfold Builtin.List.listFitsIndex;rw[CU];exact⟨mG (by omega),mG h2⟩
  rw[h1];exact λh=>nomatch h
 have u:A5.toArray.size<=sizeLine:=Bz (Z2 (List.size_toArray.trans k.symm)) z;refine ZBL ZFT ⟨_,e,rfl⟩ PySem.F.entry_list_insert (PySem.F.args_list_insert_3 _ _ _) (PySem.AutoSeq1.list_insert_list_int_val_1 l A5.toArray n j t a w u) ⟨e,?_⟩;refine⟨.AG,_,I.Vw (its':=A5.take j.toNat++a::A5.drop j.toNat) b e ?_ ((r.take _).append (.cons c (r.drop _))) ?_,rfl,q⟩
 .have p:¬ (j<0):=by omega
  have i:min j.toNat A5.toArray.size=j.toNat:=by simp;omega
  simp only[p,ZB3,i];apply Array.toList_inj.mp;simp;exact Mh (by simp)
 .rw[Bi,CG,Bu,D5];omega
def km:V->Option Int->Option Int->Hp->VK->Prop:=λx lo hi H Q=>∃z,x=.str z/\z.length<=sizeLine/\Q (.str (Txt.slice z lo hi)) H
theorem part_of{o:Option Int}(p:IsPart v o):∃l:Option (Int×Tok),v=partValue l/\l.map (·.1)=o:=by
 cases p with
 |none=>exact⟨none,rfl,rfl⟩
 |int i t=>exact⟨some (i,t),rfl,rfl⟩
theorem cu:KU X km:=by
 intro Ze s Z H x v vl vu lo hi sl Q I a e pl b h;obtain⟨z,rfl,c,q⟩:=h;obtain⟨t,rfl⟩:=a;obtain⟨l,rfl,f⟩:=part_of pl;obtain⟨u,rfl,d⟩:=part_of b;subst f;subst d;refine⟨"str", _,F.slot_str_getitem.lookup,typeIs_str _ _ _,wpAny_getItem_str_slice (l:=l) (u:=u) (st:=none) e rfl (post_val_or_str ⟨Bz (Txt.slice_le z _ _) c,λt' k=>?_⟩)⟩;exact⟨.str _,H,I.tok k,⟨t',rfl⟩,q⟩
end L2
set_option exponentiation.threshold 5000
namespace L2
variable{j k n:Nat}{a f p:Addr}{H:Hp}
def A7(P:Program)(w:World)(K:ZGX)(mg:ZGZ)(Zf:Heap)(x:Str)(k:Nat)(ps:List Str)(sp:Sp):Prop:=
 ∃f fd,D7 P w K mg Zf FK k f fd ps sp/\Binds K fd ps []/\PySem.W.keepIn K (.ref f)=true/\mg x=some (.ref f)
section
variable{P:Program}{w:World}{K:ZGX}{mg:ZGZ}{Zf:Heap}{x qual:Str}{ps:List Str}{sp:Sp}{st:Stmt}{fd:FuncData}
theorem A7.mk(F:AH K x qual st f fd)(b:Binds K fd ps [])(m:mg x=some (.ref f))(h:D7 P w K mg Zf FK k f fd ps sp):A7 P w K mg Zf x k ps sp:=⟨f,fd,h,b,F.kp,m⟩
variable{X:Cx}{p pos:Pos}{e:Expr}{es:List Expr}{t:TA}
def j6(K:ZGX):List V->Hp->VK->Prop:=λxs H Q=>∃(p:Addr)(ys:List V),xs=[.ref p]/\(AO K H p ys∨AN K H p ys)/\Q (.int ys.length) H
theorem D0:Cc X (.builtin "len") (j6 X.K):=My
def LH(K:ZGX):List V->Hp->VK->Prop:=λxs H Q=>∃(x:V)(n:String)(t:Value)(b:Bool),xs=[x,.ty n]/\EV K H x t/\PySem.W.kitOne K t (.type n)=some b/\Q (.bl b) H
theorem ML:Cc X (.builtin "isinstance") (LH X.K):=yt
theorem IC:IY X "list.append" PB:=ik
theorem yD:IY X "list.insert" bL:=tX
def vb(i j:Int):Prop:=i.natAbs<2 ^ 1000/\j.natAbs<2 ^ 1000
theorem dQ(h:n<2 ^ 1000):n.log2<1000:=by
 rcases ZFH n with e|e
 .subst e;exact(show(0:Nat).log2<1000 by decide)
 .exact(kR (Im e)).mpr h
theorem bits_le{i:Int}(h:i.natAbs<2 ^ 1000):Builtin.Int.intBits i<=2 ^ 20:=by
 unfold Builtin.Int.intBits;split
 .exact CK _
 .have:=dQ h;have e:(2:Nat) ^ 20=1048576:=by decide
  omega
theorem L0:BD X (binaryOp .Mult) (rI vb λi j=>.int (i * j)):=QD λ_ _ _ _ _ _ _ a q=>mul_int q (.of_bits (bits_le a.1) (bits_le a.2))
theorem Yi:BD X (binaryOp .FloorDiv) (rI (λ_ j=>0<j/\j.natAbs<2 ^ 1000) λi j=>.int (i / j)):=QD λi j _ _ _ _ _ a q=>by
 have h1:(0:Int)<j:=a.1;have h2:=dQ a.2;exact floordiv_int (by omega) (by rw[Int.fdiv_eq_ediv_of_nonneg i (by omega)];exact q) (.inl (PyProof.noPylong_of_log2 (by omega)))
theorem ZCW{body rest:List Stmt}{t u:TS}(e:body=st::rest)(h:PS X st t)(h2:DQ X rest u):DQ X body (Km t u):=by rw[e];exact Ih h h2
def T8(t:TS):TS:=λD Z H=>∃J:St->Hp->Prop,t { D with nx:=J } Z H/\∀ σ' H',J σ' H'->D.nx σ' H'
end
theorem yn{K:ZGX}{tp:Bool}{xs:List V}{g:TG}{tb:TS}{D:Ends}{Z:St}(Pv:Nat->St->Hp->Prop)(j:Pv 0 Z H)(h:∀i Z H,i<=xs.length->Pv i Z H->DH K tp H a xs)
  (f:∀i x Z H,xs[i]?=some x->Pv i Z H->g x Z H λσ2 H2=>tb { D with nx:=Pv (i+1),ct:=Pv (i+1),bk:=D.nx } σ2 H2) (hd:∀ Z H,Pv xs.length Z H->D.nx Z H) :
  ∃W:Nat->Nat->St->Hp->Prop,(∃m,W 0 m Z H)/\∀i m Z H,W i m Z H->
   ((JP K tp a xs).stop i H/\D.nx Z H)∨((JP K tp a xs).go i H/\∃N:St->Hp->Prop,(∀ σ' H',N σ' H'->∃b,b < m/\W (i+1) b σ' H')/\∀x H',(JP K tp a xs).Fh i H x H'->g x Z H' λσ2 H2=>tb { D with nx:=N,ct:=N,bk:=D.nx } σ2 H2):=by
 refine⟨λi m Z H=>m=xs.length - i/\i<=xs.length/\Pv i Z H,⟨xs.length,by simp,CK _,j⟩,λi m Z H⟨e,hi,p⟩=>?_⟩;subst e;have q:=h i Z H hi p
 by_cases c:i<xs.length
 .refine .inr ⟨⟨q,c⟩,Pv (i+1),λσ' H' d=>⟨xs.length - (i+1),by omega,rfl,c,d⟩,λx H' y=>?_⟩;obtain⟨e,y⟩:=y;subst e;exact f i x Z _ y p
 .have e:i=xs.length:=by omega
  subst e;exact .inl ⟨⟨q,B4 _⟩,hd Z H p⟩
def G4(p:Addr)(H H':Hp):Prop:=∀b o,b≠p->H b=some o->H' b=some o
theorem G4.trans{H1 H2:Hp}(a:G4 p H H1)(b:G4 p H1 H2):G4 p H H2:=λc o d e=>b c o d (a c o d e)
theorem G4.of{H':Hp}(a:AE H H'):G4 p H H':=λc o _ e=>a c o e
theorem G4.upd{o:HO}:G4 p H (upd H p o):=λc u a e=>by rw[Az a];exact e
end L2
set_option maxHeartbeats 8000000
namespace L2
variable{ss:List Str}
def Ee(acc:List Str)(x:Str):List Str:=if acc.any (· == x)then acc else acc++[x]
def dd(ss:List Str):List Str:=ss.foldl Ee []
theorem rK(acc:List Str)(x k:Str):(Ee acc x).any (· == k)=(acc.any (· == k) || decide (k=x)):=by
 unfold Ee
 by_cases h:acc.any (· == x)=true
 .rw[o9 h]
  by_cases e:k=x
  .subst e;rw[h];simp
  .simp[e]
 .rw[mL h,List.any_append]
  by_cases e:k=x
  .subst e;simp
  .have a:(x == k)=false:=by simpa[ZAV]using(λh':x=k=>e h'.symm)
   simp[a,e]
theorem Zu(acc:List Str)(x:Str):(Ee acc x).length=if acc.any (· == x)then acc.length else acc.length+1:=by
 unfold Ee;split <;> simp
theorem ag(ss:List Str)(i:Nat)(h:i<ss.length):dd (ss.take (i+1))=Ee (dd (ss.take i)) ss[i]:=by
 unfold dd;rw[kP h,List.foldl_append];rfl
theorem Ow(ss:List Str):(dd ss).length<=ss.length:=by
 have:∀(l acc:List Str),(l.foldl Ee acc).length<=acc.length+l.length:=by
  intro l
  induction l with
  |nil=>intro acc;simp
  |cons x r a=>
   intro acc;rw[Md];have h1:=a (Ee acc x);rw[Zu]at h1;simp only[CG];split at h1 <;> omega
 have q:=this ss [];simp only[SD,kU]at q;exact q
section
variable{prog:Program}{w:World}{A:Around}{R:Result->Shared->Prop}{I:Addr}{fp wr:List Addr}{G:Array GenState->Array GenState->Prop}{n:Nat}{P:Nat->Value->Prop}{St:Nat->Shared->Prop}
variable{E:Value->Shared->Prop}{s:Shared}
theorem sub_tuple_set:isSubtype (.type "tuple") (.type "set")=pure false:=by rw[sF];kernel_rfl
theorem sub_tuple_frozenset:isSubtype (.type "tuple") (.type "frozenset")=pure false:=by rw[sF];kernel_rfl
end
noncomputable def r6(P:Program)(w:World)(a:Addr)(f:Str->Bool)(n:Nat):HO:=.ext λh=>h.SetOf (strKind P w) a f n
section
variable{X:Cx}
theorem Rb{A5:List Value}(r:Vals (ss.map V.str) A5){i:Nat}{v:Value}(e:A5[i]?=some v):∃(h:i<ss.length)(t:Tok),v=.str ss[i] t:=by
 have d:=r.length;rw[Ae]at d;have hi:i<A5.length:=(List.getElem?_eq_some_iff.mp e).1;have b:i<ss.length:=by omega
 have f:(ss.map V.str)[i]?=some (.str ss[i]):=by rw[Bt,C4 b];rfl
 obtain⟨u,a,c⟩:=r.get f;rw[e]at a;cases a;obtain⟨t,q⟩:=c;exact⟨b,t,q⟩
end
end L2
set_option maxHeartbeats 4000000
namespace L2
variable{X:Cx}{a c e o tg:Expr}{es ifs:List Expr}{body rest:List Stmt}{t tb:TS}{tc tt:TT}{te tl to:TE}{p pos pos' px:Pos}{name x y:Str}{Ej op:CmpOp}{r:V->List V->Hp->VK->Prop}{i k n:Nat}{ps ss:List Str}{sp:Sp}{T:String}{wi:TI}{I f it l:Addr}{g:TG}{w:World}{prog:Program}{A:Around}{s:Shared}{R:Result->Shared->Prop}{E Q:Value->Shared->Prop}{items:Array Value}
structure QE (X:Cx) (e:Expr) (t:TE):Prop where h:PE X e t
structure QT (X:Cx) (e:Expr) (t:TT):Prop where h:PT X e t
structure QW (X:Cx) (e:Expr) (t:TT):Prop where h:PW X e t
structure QA (X:Cx) (es:List Expr) (t:TA):Prop where h:PA X es t
structure QS (X:Cx) (st:Stmt) (t:TS):Prop where h:PS X st t
structure GL (X:Cx) (st:List Stmt) (t:TS):Prop where h:DQ X st t
structure QG (X:Cx) (tg:Expr) (t:TG):Prop where h:PG X tg t
structure QN (X:Cx) (ts:List Expr) (t:Hd):Prop where h:NQ X ts t
structure QI (X:Cx) (tg iter:Expr) (wi:TI):Prop where h:PI X tg iter wi
structure Rp (X:Cx) (ifs:List Expr) (t:TT):Prop where h:IV X ifs t
structure QO (X:Cx) (e:Option Expr) (t:TO):Prop where h:PO X e t
section
variable{b:Expr}{rest:List Expr}{ta tb tc:TE}{tA IP:TT}{t:TA}{p2 apos Bf:Pos}
theorem qv(i:Nat)(a:X.N[i]?=some x:=by rfl)(hv:Ov X.env.scope x:=by first|exact Or.inl rfl|exact Or.inr (Or.inl rfl)|exact Or.inr (Or.inr rfl))(hd:(x == ("__debug__":Str))=false:=by decide)
  (EX:(x == ("__classdict__":Str))=false:=by decide):QE X (.Name x pos) (Cp i):=⟨cW a hv hd EX⟩
theorem A4{i j pos}:QE X (.Constant (.int i) j pos) (tC (.int i)):=⟨λ_ _ _ H _ I h=>wpAny_Constant_int ⟨.int i,H,I.tok _,⟨_,rfl⟩,h⟩⟩
theorem G3{b j pos}:QE X (.Constant (.bool b) j pos) (tC (.bl b)):=⟨λ_ _ _ H _ I h=>Constant_bool ⟨.bl b,H,I,rfl,h⟩⟩
theorem FO{j pos}:QE X (.Constant .none j pos) (tC .AG):=⟨λ_ _ _ H _ I h=>Constant_none ⟨.AG,H,I,rfl,h⟩⟩
theorem B1{x j pos}:QE X (.Constant (.str x) j pos) (tC (.str x)):=⟨λ_ _ _ H _ I h=>Calls.Constant_str ⟨.str x,H,I.tok _,⟨_,rfl⟩,h⟩⟩
theorem EJ{v:V}{u:Value}(b:Gl X x)(a:X.mg x=some u)(r:RelV v u)(hd:(x == ("__debug__":Str))=false:=by decide):QE X (.Name x pos) (tC v):=⟨λ_ _ _ H _ I h=>K3 I b a ⟨v,H,I,r,h⟩ hd⟩
theorem K4(T:String)(a:X.mg x=none)(b:Gl X x:=by rfl)(hv:bootBuiltins x=some (.type T):=by decide +kernel)(hn:x ≠"__name__" := by decide)(hd:(x == ("__debug__":Str))=false:=by decide):
  QE X (.Name x pos) (tC (.ty T)):=⟨wy b a hv rfl hn hd⟩
theorem B3{op:Operator}{r:R2}(ho:BD X (binaryOp op) r)(d:QE X a ta)(c:QE X b tb):QE X (.BinOp a op b pos) (Bk r ta tb):=⟨by
 have d:=d.h;have c:=c.h;intro Ze s Z H Q I h;exact wpAny_BinOp (Xy d c I h λv u s2 x y H2 I2 f e q=>ho Ze s2 Z H2 x y v u Q I2 f e q)⟩
theorem JU{op:UnaryOp}{r:V->Hp->VK->Prop}(ho:Oh X (unaryOp op) r)(b:QE X a ta):QE X (.UnaryOp op a pos) (VR r ta):=⟨by
 have b:=b.h;intro Ze s Z H Q I h;exact UnaryOp_ (Aj (b Ze s Z H _ I h) λv s1 AM=>by obtain⟨x,H1,I1,c,d⟩:=AM;exact ho Ze s1 Z H1 x v Q I1 c d)⟩
theorem ZB0{r:R2}(ho:BD X (compareOp op) r)(d:QE X a ta)(c:QE X b tb)(g:behindInMarks op b=false):QE X (.Compare a [op] [b] pos) (Bk r ta tb):=⟨by
 have d:=d.h;have c:=c.h;intro Ze s Z H Q I h;exact wpAny_Compare1 (Xy d c I h λv u s2 x y H2 I2 f e q=>ho Ze s2 Z H2 x y v u Q I2 f e q) g⟩
theorem ZCM{r:R2}(ho:BD X (compareOp op) r)(e:QE X a ta)(d:QE X b tb)(c:behindInMarks op b=false):QT X (.Compare a [op] [b] pos) (MY (Bk r ta tb)):=⟨qQ ho e.h d.h c⟩
theorem UH{r l:R2}(ho:BD X (compareOp op) r)(Cr:BD X (compareOp Ej) l)(i:QE X a ta)(g:QE X b tb)(f:QE X c tc)
  (D:lastMarks [op,Ej] [b,c]=false:=by with_unfolding_all rfl):QE X (.Compare a [op,Ej] [b,c] pos) (Nc r l ta tb tc):=⟨by
 have i:=i.h;have g:=g.h;have f:=f.h;intro Ze s Z H Q I h;refine Compare_chain (Aj (i Ze s Z H _ I h) λv s1⟨x,H1,I1,w,C⟩=>chain_link (Aj (g Ze s1 Z H1 _ I1 C) λu s2⟨y,H2,I2,j,B⟩=>
  Aj (ho Ze s2 Z H2 x y v u _ I2 w j B) λd p⟨z,H3,I3,t,k,e,m⟩=>?_)) D
 subst e;cases t;refine xX ?_;cases k with
 |false=>exact ite_ff ⟨.bl false,H3,I3,rfl,m⟩
 |true=>exact ite_tt (chain_last (Aj (f Ze p Z H3 _ I3 m) λo s4⟨n,H4,I4,q,A⟩=>Cr Ze s4 Z H4 y n u o Q I4 j q A))⟩
theorem Hx{r l:R2}(ho:BD X (compareOp op) r)(Cr:BD X (compareOp Ej) l)(i:QE X a ta)(g:QE X b tb)(f:QE X c tc)
  (J:lastMarks [op,Ej] [b,c]=false:=by with_unfolding_all rfl):QT X (.Compare a [op,Ej] [b,c] pos) (MY (Nc r l ta tb tc)):=⟨by
 have i:=i.h;have g:=g.h;have f:=f.h;intro Ze s Z H Q I h;refine isTrue_chain (Aj (i Ze s Z H _ I h) λv s1⟨x,H1,I1,B,F⟩=>test_link (Aj (g Ze s1 Z H1 _ I1 F) λu s2⟨y,H2,I2,j,E⟩=>
  Aj (ho Ze s2 Z H2 x y v u _ I2 B j E) λd q⟨z,H3,I3,A,k,e,m⟩=>?_)) J
 subst e;cases A;refine xX ?_;cases k with
 |false=>
  obtain⟨O,L,G⟩:=m;cases L;exact ite_ff ⟨H3,I3,G⟩
 |true=>
  refine ite_tt (test_last (Aj (f Ze q Z H3 _ I3 m) λp s4⟨n,H4,I4,w,D⟩=>Aj (Cr Ze s4 Z H4 y n u p _ I4 j w D) λd' N o=>?_));obtain⟨M,H5,I5,t,k2,K,C⟩:=o;subst K;cases t;exact xX ⟨H5,I5,C⟩⟩
theorem ED{op}(h:QE X a ta):QE X (.BoolOp op [a] pos) ta:=⟨by have h:=h.h;exact λZe s Z H Q I hw=>BoolOp_one (h Ze s Z H Q I hw)⟩
theorem GK(f:QE X a ta)(e:QE X (.BoolOp .And (b::rest) pos) tb):QE X (.BoolOp .And (a::b::rest) pos) (VS ta tb):=⟨by
 have f:=f.h;have e:=e.h;intro Ze s Z H Q I h;refine BoolOp_and (Aj (f Ze s Z H _ I h) λv s1 FX=>?_);obtain⟨x,H1,I1,g,d⟩:=FX;obtain⟨c,rfl,d⟩:=d;cases g;refine xX ?_;cases c with
 |true=>exact e Ze s1 Z H1 Q I1 d
 |false=>exact⟨.bl false,H1,I1,rfl,d⟩⟩
theorem Nn(f:QE X a ta)(e:QE X (.BoolOp .Or (b::rest) pos) tb):QE X (.BoolOp .Or (a::b::rest) pos) (WD ta tb):=⟨by
 have f:=f.h;have e:=e.h;intro Ze s Z H Q I h;refine BoolOp_or (Aj (f Ze s Z H _ I h) λv s1 FX=>?_);obtain⟨x,H1,I1,g,d⟩:=FX;obtain⟨c,rfl,d⟩:=d;cases g;refine xX ?_;cases c with
 |false=>exact e Ze s1 Z H1 Q I1 d
 |true=>exact⟨.bl true,H1,I1,rfl,d⟩⟩
theorem rO(d:QE X a ta):QE X (.UnaryOp .Not a pos) (X0 ta):=⟨by
 have d:=d.h;intro Ze s Z H Q I h;refine UnaryOp_ (Aj (d Ze s Z H _ I h) λv s1 FX=>?_);obtain⟨x,H1,I1,e,b⟩:=FX;obtain⟨c,rfl,b⟩:=b;cases e;exact not_of (xX ⟨.bl (!c),H1,I1,rfl,b⟩)⟩
theorem KW(b:QT X a tA):QW X (.BoolOp .And [a] pos) tA:=⟨by
 have b:=b.h;intro d Ze s Z H Q I h;refine isTrue_and (Aj (b Ze s Z H Q I h) λc s1 e=>?_);cases c with
 |true=>exact isTrue_and_nil e
 |false=>exact e⟩
theorem Ho(b:QT X a tA):QW X (.BoolOp .Or [a] pos) tA:=⟨by
 have b:=b.h;intro d Ze s Z H Q I h;refine isTrue_or (Aj (b Ze s Z H Q I h) λc s1 e=>?_);cases c with
 |false=>exact isTrue_or_nil e
 |true=>exact e⟩
theorem K2(e:QT X a tA)(d:QW X (.BoolOp .And (b::rest) pos) IP):QW X (.BoolOp .And (a::b::rest) pos) (Ya tA IP):=⟨by
 have e:=e.h;have d:=d.h;intro g Ze s Z H Q I h;refine isTrue_and (Aj (e Ze s Z H _ I h) λc s1 FX=>?_);obtain⟨H1,I1,f⟩:=FX;cases c with
 |true=>exact d g Ze s1 Z H1 Q I1 f
 |false=>exact⟨H1,I1,f⟩⟩
theorem Ez(e:QT X a tA)(d:QW X (.BoolOp .Or (b::rest) pos) IP):QW X (.BoolOp .Or (a::b::rest) pos) (Sm tA IP):=⟨by
 have e:=e.h;have d:=d.h;intro g Ze s Z H Q I h;refine isTrue_or (Aj (e Ze s Z H _ I h) λc s1 FX=>?_);obtain⟨H1,I1,f⟩:=FX;cases c with
 |true=>exact⟨H1,I1,f⟩
 |false=>exact d g Ze s1 Z H1 Q I1 f⟩
theorem QW.pt{t:TT}(h:QW X e t):QT X e t:=⟨h.h.pt⟩
theorem DM(b:QT X a tA):QT X (.UnaryOp .Not a pos) (WR tA):=⟨by
 have b:=b.h;intro Ze s Z H Q I h;exact isTrue_not (b Ze s Z H (λc H1=>Q (!c) H1) I h)⟩
theorem FP(h:QE X e te)(f:∀a,isTrue e X.env a=(do let v <- a;standAt e.pos;holding [v] (truthy v)):=by intro _;rfl):QT X e (tB te):=⟨by
 have h:=h.h;intro Ze s Z H Q I hw;refine isTrue_plain (Aj (h Ze s Z H _ I hw) λv s1⟨x,H1,I1,b,c⟩=>?_) (f _);obtain⟨d,rfl,q⟩:=c;cases b;exact xX ⟨H1,I1,q⟩⟩
theorem A3:QA X [] Bj:=⟨OR⟩
theorem A0(c:QE X e te)(b:QA X es t)(a:starEach (e::es) X.env=(false,eval e X.env)::starEach es X.env:=by rfl):QA X (e::es) (BC te t):=⟨IW c.h b.h a⟩
theorem BB{x1}(h:QA X es t):QE X (.Tuple es x1 pos) (Pt t):=⟨pG h.h⟩
theorem DL(h:QA X es t):QE X (.List es pos) (YT t):=⟨v5 h.h⟩
theorem Dh:QO X none Tp:=⟨by
 intro Ze s Z H Q I h;rw[evalPart_none];exact mD ⟨none,H,I,.none,h⟩⟩
theorem Cy(h:QE X e te):QO X (some e) (TR te):=⟨by
 have h:=h.h;intro Ze s Z H Q I hw;rw[evalPart_some];refine Aj (h Ze s Z H _ I hw) λu s1 Vj=>?_;obtain⟨x,H1,I1,a,b⟩:=Vj;obtain⟨i,rfl,q⟩:=b;obtain⟨t,rfl⟩:=a;exact⟨some i,H1,I1,.int i t,q⟩⟩
theorem DE{r:V->Option Int->Option Int->Hp->VK->Prop}{lo hi:Option Expr}{tl th:TO}(o:KU X r)(f:QE X e te)(d:QO X lo tl)(c:QO X hi th):QE X (.Subscript e (.Slice lo hi none p2) pos) (Lq r te tl th):=⟨by
 have f:=f.h;have d:=d.h;have c:=c.h;intro Ze s Z H Q I h;refine Subscript_ (Aj (f Ze s Z H _ I h) λv s1 FX=>?_);obtain⟨x,H1,I1,g,k⟩:=FX;refine wpAny_Slice (Aj (d Ze s1 Z H1 _ I1 k) λvl s2⟨l,H2,I2,pl,j⟩=>Aj (c Ze s2 Z H2 _ I2 j) λvu a NI=>?_);obtain⟨u,H3,I3,m,i⟩:=NI;rw[evalPart_none];refine mD ?_;have y:Inv X Ze Z H3 { a with heap:=a.heap.push { cls:=.type "slice", data:=.fields #[vl,vu,.none] } }:=I3.kept (t':=a.toks) λb ob q=>BE _ q
 obtain⟨T,id,t,n,p⟩:=o Ze { a with heap:=a.heap.push { cls:=.type "slice", data:=.fields #[vl,vu,.none] } } Z H3 x v vl vu l u a.heap.objs.size Q y g (Heap.IsSliceOf.new ..) pl m i
 show wpAny (model X.prog X.w) X.A (subscriptTail e (.Slice lo hi none p2) v (.ref a.heap.objs.size)) (EP X Ze Z Q) X.xe { a with heap:=a.heap.push { cls:=.type "slice", data:=.fields #[vl,vu,.none] } }
 exact tail_any (ops:=[.ref a.heap.objs.size,v]) n t p (by with_unfolding_all rfl)⟩
theorem sR{r:R2}(i:Gs X r)(d:QE X a ta)(c:QE X b tb)(g:Sl b):QE X (.Subscript a b pos) (Bk r ta tb):=⟨by
 have d:=d.h;have c:=c.h;intro Ze s Z H Q I h;exact Subscript_ (Xy d c I h λv u s2 x y H2 I2 f e q=>i a b Ze s2 Z H2 x y v u Q I2 f e q (g _ _))⟩
theorem lu{j:Nat}(h:A7 X.prog X.w X.K X.mg X.base x k ps sp)(c:C2 j X.A)(d:k<=j)(a:QA X (e::es) t)(g:Gl X x:=by rfl)(BV:(x == ("__debug__":Str))=false:=by decide)
  (he:starEach (e::es) X.env=(false,eval e X.env)::starEach es X.env:=by rfl) (BF:(backTo pos (starEach es X.env)).any (·.1)=false:=by rfl):QE X (.Call (.Name x p) (e::es) [] pos) (EK sp [] E0 t):=⟨by
 have a:=a.h;obtain⟨f,fd,F,b,kp,m⟩:=h;exact ZEY (F.mono d) c g m kp b .nil ZDG a BV he BF⟩
theorem rS{id:String}{r:List V->Hp->VK->Prop}(i:Cc X (.builtin id) r)(g:Gl X x)(f:X.mg x=none)(d:bootBuiltins x=some (.builtin id))(a:QA X (e::es) t)(hn:x ≠"__name__" := by decide)(BV:(x == ("__debug__":Str))=false:=by decide)
  (he:starEach (e::es) X.env=(false,eval e X.env)::starEach es X.env:=by rfl) (BF:(backTo pos (starEach es X.env)).any (·.1)=false:=by rfl):QE X (.Call (.Name x p) (e::es) [] pos) (DB r t):=⟨by
 have a:=a.h;intro Ze s Z H Q I h;refine z5 (Ln I g f d ?_ hn BV);exact PyProof.Rows.callWith_builtin1 (Aj (a pos Ze s Z H _ I h) λus s1 AM=>by obtain⟨vs,H1,I1,b,c⟩:=AM;exact i Ze s1 Z H1 vs us Q I1 b c) he BF⟩
theorem mq{r:List V->Hp->VK->Prop}(i:Cc X (.type T) r)(g:Gl X x)(f:X.mg x=none)(d:bootBuiltins x=some (.type T))(a:QA X (e::es) t)(hn:x ≠"__name__" := by decide)(BV:(x == ("__debug__":Str))=false:=by decide)
  (he:starEach (e::es) X.env=(false,eval e X.env)::starEach es X.env:=by rfl) (BF:(backTo pos (starEach es X.env)).any (·.1)=false:=by rfl):QE X (.Call (.Name x p) (e::es) [] pos) (DB r t):=⟨by
 have a:=a.h;intro Ze s Z H Q I h;refine z5 (Ln I g f d ?_ hn BV);exact Z6 (Aj (a pos Ze s Z H _ I h) λus s1 AM=>by obtain⟨vs,H1,I1,b,c⟩:=AM;exact i Ze s1 Z H1 vs us Q I1 b c) he BF⟩
theorem ZBQ{id:String}(c:PlainAttrs T)(slot:Slot T name id)(Kn:typeOf (.builtin id)=pure (.type "method_descriptor"))(d:IY X id r)(ho:QE X o to)
  (L4:attributeBase o name X.env (eval o X.env)=eval o X.env:=by rfl) (KR:(apos.endLine == Bf.line)=true:=by rfl):QE X (.Call (.Attribute o name apos) [] [] Bf) (Uo X.K T r to):=⟨by
 have ho:=ho.h;intro Ze s Z H Q I h;refine wpAny_Call_method0_late L4 KR (Aj (ho Ze s Z H _ I h) λv s1 Vj=>?_);obtain⟨x,H1,I1,a,ty,b⟩:=Vj;obtain⟨h1,h2⟩:=fY I1 a ty;exact⟨T,id,c,slot,Kn,h1,h2,jv rfl (PySem.evalArgs_none (d Ze s1 Z H1 x [] v [] Q I1 a .nil b))⟩⟩
theorem FQ{id:String}(i:PlainAttrs T)(slot:Slot T name id)(Kn:typeOf (.builtin id)=pure (.type "method_descriptor"))(j:IY X id r)(ho:QE X o to)(a:QA X (e::es) t)
  (L4:attributeBase o name X.env (eval o X.env)=eval o X.env:=by rfl)
  (X2:((backTo Bf (starEach (e::es) X.env)).all (λx=>!x.1) && (backToKw Bf (keywordEach [] X.env)).all (λx=>x.1.isSome)
   && decide ((e::es).length+([]:List Keyword).length+(if([]:List Keyword).isEmpty then 0 else 1)<30))=true:=by rfl)
  (KR:(apos.endLine == Bf.line)=true:=by rfl) (hs:starEach (e::es) X.env=(false,eval e X.env)::starEach es X.env:=by rfl) (Sf:(backTo Bf (starEach es X.env)).any (·.1)=false:=by rfl) :
  QE X (.Call (.Attribute o name apos) (e::es) [] Bf) (LN X.K T r to t):=⟨by
 have ho:=ho.h;have a:=a.h;intro Ze s Z H Q I h;refine wpAny_Call_method_late L4 X2 KR rfl (Aj (ho Ze s Z H _ I h) λv s1 ZBb=>?_);obtain⟨x,H1,I1,b,ty,g⟩:=ZBb;obtain⟨h1,h2⟩:=fY I1 b ty;refine⟨T,id,i,slot,Kn,h1,h2,?_⟩;have c:=a Bf Ze s1 Z H1 _ I1 g;rw[hs]at c ⊢;refine jv (by show(false || (backTo Bf (starEach es X.env)).any (·.1))=false;rw[Sf] <;> rfl) (jw ?_)
 exact Aj c λus s2 AM=>by obtain⟨vs,H2,I2,d,f⟩:=AM;exact j Ze s2 Z H2 x vs v us Q I2 b d f⟩
variable{elt iter:Expr}{scope:Scope}{Au:List Str}{js:List Nat}
theorem DW{l:Expr}(c:QE X l tl):QI X tg l (R1 X.K tl):=⟨by
 have c:=c.h;intro Ze s Z H R I h;refine Aj (c Ze s Z H _ I h) λv s1⟨x,H1,I1,g,i⟩=>?_;obtain⟨tp,a,xs,e,d,q⟩:=i;subst e;cases g;have fin:∀b∈[s1.heap.objs.size],FH X Ze H1 b:=λb k=>by
  have e:b=s1.heap.objs.size:=by simpa using k
  subst e;exact I1.Qj (B4 _) (I1.AW.fresh (B4 _))
 cases tp with
 |false=>
  obtain⟨A5,f,p,j⟩:=I1.list d;refine ZAx p.isList ?_;exact⟨s1.heap.objs.size,[s1.heap.objs.size],_,_,H1,rfl,I1.kept (t':=s1.toks) λb o e=>BE _ e,zh a _ xs,⟨_,BY _ rfl,rfl,rfl⟩,fin,q⟩
 |true=>
  obtain⟨A5,f,p,j⟩:=I1.tuple d;refine wpAny_pyIter_tuple (show s1.heap.IsTuple a A5.toArray from p) ?_;exact⟨s1.heap.objs.size,[s1.heap.objs.size],_,_,H1,rfl,I1.kept (t':=s1.toks) λb o e=>BE _ e,nD a _ xs,⟨_,BY _ rfl,rfl,rfl⟩,fin,q⟩⟩
theorem Qd{l:Expr}(a:QE X l tl):QI X tg l (Vf tl):=⟨by
 have a:=a.h;intro Ze s Z H R I h;refine Aj (a Ze s Z H _ I h) λv s1⟨x,H1,I1,f,g⟩=>?_;obtain⟨z,e,q⟩:=g;subst e;obtain⟨t,rfl⟩:=f;have fin:∀b∈[s1.heap.objs.size],FH X Ze H1 b:=λb i=>by
  have e:b=s1.heap.objs.size:=by simpa using i
  subst e;exact I1.Qj (B4 _) (I1.AW.fresh (B4 _))
 have kp:∀(ob:Obj),Inv X Ze Z H1 { s1 with heap:=s1.heap.push ob }:=λob=>I1.kept (t':=s1.toks) λb o e=>BE _ e
 cases d:z.cps.all (· < 128)
 .refine wpAny_pyIter_wide d ?_;exact⟨s1.heap.objs.size,[s1.heap.objs.size],_,_,H1,rfl,kp _,cB (t:=t) (by decide) (λA' c=>Walks.strWide c _ z t) (λ_ _ _ _ _ st h=>wpAny_pyIter_striter_wide st h),⟨_,BY _ rfl,rfl,rfl⟩,fin,q⟩
 .refine wpAny_pyIter_ascii d ?_;exact⟨s1.heap.objs.size,[s1.heap.objs.size],_,_,H1,rfl,kp _,cB (t:=t) (by decide) (λA' c=>Walks.strAscii c _ z t) (λ_ _ _ _ _ st h=>wpAny_pyIter_striter_ascii st h),⟨_,BY _ rfl,rfl,rfl⟩,fin,q⟩⟩
theorem gJ{ta:TA}(l:Gl X "range")(k:X.mg "range"=none)(c:QA X [a] ta)(i:starEach [a] X.env=[(false,eval a X.env)]:=by rfl):QI X tg (.Call (.Name "range" p) [a] [] pos) (TZ ta):=⟨by
 have c:=c.h;intro Ze s Z H R I h;refine Call_ (Ln I l k boot_range (Z6 (Aj (c pos Ze s Z H _ I h) λus s1⟨vs,H1,I1,f,b⟩=>?_) i rfl));obtain⟨j,e,b,g,q⟩:=b;subst e;cases f with
 |cons r d=>
  cases d;obtain⟨t,rfl⟩:=r;exact call_range_1 (ZCY I1 (by omega) (by omega) b g (by simpa using q))⟩
theorem IG:Rp X [] QX:=⟨λZe s Z H Q I h=>by
 rw[kE];exact mD ⟨H,I,h⟩⟩
theorem HV{t:TT}(a:QT X c t):Rp X [c] t:=⟨ZDC a.h⟩
theorem E2(b:X.calm=true)(S:CV X.N X.env.scope scope x Au js)(hi:QI X (.Name x px) iter wi)
  (Ed:∀fp C s H,Rp (JQ X (Au++[x]) scope (CP X.env.cells scope.names) C s H fp) ifs tt) (Eg:∀fp C s H,QE (JQ X (Au++[x]) scope (CP X.env.cells scope.names) C s H fp) elt te)
  (a:∀v,foldedSetIterable iter X.env v=pure v:=by intro _;rfl):QE X (.ListComp elt [⟨.Name x px,iter,ifs,0⟩] scope pos) (Kg wi js tt te):=⟨oy b S hi.h (λfp C s H=>(Ed fp C s H).h) (λfp C s H=>(Eg fp C s H).h) a⟩
theorem cH{py JA:Pos}(c:X.N.Nodup)(HA:X.N[i]?=some y)(a:Loc X.env.scope y)(b:X.calm=true)(S:CV X.N X.env.scope scope x Au js)(hi:QI X (.Name x px) iter wi)
  (Ed:∀fp C s H,Rp (JQ X (Au++[x]) scope (CP X.env.cells scope.names) C s H fp) ifs tt) (Eg:∀fp C s H,QE (JQ X (Au++[x]) scope (CP X.env.cells scope.names) C s H fp) elt te)
  (Mx:swapsWith (.ListComp elt [⟨.Name x px,iter,ifs,0⟩] scope pos) (some (.Name y py)) JA.line X.env=pure true:=by rfl)
  (hf:X.fn y=true∨X.env.scope.names.lookup y=some .local:=by first|exact .inl rfl|exact .inr rfl|assumption)
  (hs:∀v,foldedSetIterable iter X.env v=pure v:=by intro _;rfl):QS X (.Assign [.Name y py] (.ListComp elt [⟨.Name x px,iter,ifs,0⟩] scope pos) JA) (Fd (Kg wi js tt te) (Dj i)):=
 ⟨zt c HA a b S hi.h (λfp C s H=>(Ed fp C s H).h) (λfp C s H=>(Eg fp C s H).h) Mx hf hs⟩
theorem y8(b:X.N.Nodup)(hi:X.N[i]?=some x)(hx:Loc X.env.scope x)(a:X.fn x=true∨X.env.scope.names.lookup x=some .local:=by first|exact .inl rfl|exact .inr rfl|assumption):QG X (.Name x pos) (Dj i):=⟨jT b hi hx a⟩
theorem MP:QN X [] U1:=⟨by
 intro Ze s Z H vs us Q I r h;obtain⟨e,h⟩:=h;subst e;cases r;exact assignInOrder_nil ⟨Z,H,I,h⟩⟩
theorem Eu{t:TG}{u:Hd}(h1:QG X e t)(h2:QN X es u)
  (c:(assignEach (e::es) X.env).map (·.2)=assign e X.env::(assignEach es X.env).map (·.2):=by rfl):QN X (e::es) (Qb t u):=⟨by
 have h1:=h1.h;have h2:=h2.h;intro Ze s Z H vs us Q I r h;obtain⟨v,f,d,h⟩:=h;subst d;cases r with
 |cons r a=>
  rw[c];refine assignInOrder_cons (Aj (h1 Ze s Z H _ _ _ I r h) λ_ s1 ZED=>?_);obtain⟨σ1,H1,I1,b⟩:=ZED;exact h2 Ze s1 σ1 H1 _ _ Q I1 a b⟩
theorem LM{t:Hd}(i:X.calm=true)(h:QN X es t)(hn:(assignEach es X.env).length=n:=by rfl)(BQ:(assignEach es X.env).findIdx? (·.1)=none:=by rfl):QG X (.Tuple es k pos) (Sn X.K n t):=⟨by
 have h:=h.h;intro Ze s Z H v u Q I r hw;obtain⟨a,xs,j,f,g,hw⟩:=hw;subst j;cases r;obtain⟨A5,c,d,m⟩:=I.tuple f;refine assign_Tuple_tuple (I.ok.hd i) d (by simp[hn,<- g,c.length]) BQ λh' hx=>?_;have l:Inv X Ze Z H { s with heap:=h' }:=I.kept (t':=s.toks) λb o e=>hx b o (Bn (B9 e)) e
 exact h Ze _ Z H xs _ Q l (by simpa using c) hw⟩
theorem dz{i:Expr}{ti:TE}{t:P7}(ho:QE X o to)(hi:QE X i ti)(l:Vl X t)
  (m:∀v,assign (.Subscript o i pos) X.env v=(do
   let a <- holding [v] (eval o X.env)
   let b <- holding [v,a] (eval i X.env)
   standAt pos
   holding [v,a,b] (setItem a b v)
   release [v,a,b] []):=by intro _;rfl):QG X (.Subscript o i pos) (ZT to ti t):=⟨by
 have ho:=ho.h;have hi:=hi.h;intro Ze s Z H v u Q I r h;rw[m];refine ko (tL (Aj (ho Ze s Z H _ I h) λa s1 d=>?_));obtain⟨x,H1,I1,f,k⟩:=d;refine ko (tL (Aj (hi Ze s1 Z H1 _ I1 k) λb s2 Yh=>?_));obtain⟨y,H2,I2,e,j⟩:=Yh;refine ko (ZAW (ko (tL (Aj (l Ze s2 Z H2 x y v a b u _ I2 f e r j) λ_ n c=>?_))));obtain⟨H3,I3,g⟩:=c;exact wpAny_release ⟨Z,H3,I3,g⟩⟩
end
section
variable{st:Stmt}{u:TS}
theorem Ar:GL X [] Pb:=⟨NJ⟩
theorem AA(e:body=st::rest)(h:QS X st t)(h2:GL X rest u):GL X body (Km t u):=⟨ZCW e h.h h2.h⟩
theorem A9(e:body=[st])(h:QS X st t):GL X body t:=⟨by have h:=h.h;rw[e];exact qu h⟩
theorem ZBC:QS X st d8:=⟨λ_ _ _ _ _ _ h=>h.elim⟩
theorem D1(b:QE X e te)(a:swapsWith e none pos.line X.env=pure false:=by rfl):QS X (.Expr e pos) (Kq te):=⟨NY b.h a⟩
theorem AR(a:QE X e te):QS X (.Return (some e) pos) (M7 te):=⟨by
 have a:=a.h;intro Ze s Z H D I h;exact wpAny_Return_some (Aj (a Ze s Z H _ I h) λv s1 AM=>by obtain⟨x,H1,I1,b,c⟩:=AM;exact⟨x,Z,H1,I1,b,c⟩)⟩
theorem Ak{a b:List Stmt}(e:QT X c tc)(g:GL X a t)(f:GL X b u):QS X (.If c a b pos) (Vo tc t u):=⟨by
 have e:=e.h;have g:=g.h;have f:=f.h;intro Ze s Z H D I h;refine wpAny_If (Aj (e Ze s Z H _ I h) λd s1 FX=>?_);obtain⟨H1,I1,i⟩:=FX;cases d with
 |true=>exact g Ze s1 Z H1 D I1 i
 |false=>exact f Ze s1 Z H1 D I1 i⟩
theorem Je(c:QE X e te)(b:QG X tg g)(a:swapsWithSole [tg] e pos.line X.env=pure false:=by rfl)(hw:swappedStores [tg] e X.env=pure none:=by rfl)
  (h1:(assignEach [tg] X.env).map (·.2)=[assign tg X.env]:=by rfl):QS X (.Assign [tg] e pos) (Fd te g):=⟨va c.h b.h a hw h1⟩
theorem v7(f:X.N.Nodup)(hi:X.N[i]?=some x)(hx:Loc X.env.scope x)(a:QE X e te)(d:swapsWith e (some (.Name x pos')) pos.line X.env=pure false:=by rfl)(hf:X.fn x=true∨X.env.scope.names.lookup x=some .local:=by first|exact .inl rfl|exact .inr rfl|assumption):
  QS X (.Assign [.Name x pos'] e pos) (Fd te (Dj i)):=⟨by
 have a:=a.h;intro Ze s Z H D I h;refine wpAny_Assign_Name (Aj (a Ze s Z H _ I h) λv s1⟨y,H1,I1,b,c⟩=>?_) d;exact gK I1 f hi hx b (λs2 I2=>⟨_,H1,I2,c⟩) hf⟩
theorem aR(m:PassesOwn (model X.prog X.w) X.A X.env X.xe)(k:QT X c tc)(l:GL X body tb):QS X (.While c body [] pos) (iK tc tb):=⟨by
 have k:=k.h;have l:=l.h;intro Ze s Z H D I h;obtain⟨W,⟨t,q⟩,turn⟩:=h;refine wpAny_While (codeAny_whileLoop (λn s'=>∃ σ' H',Inv X Ze σ' H' s'/\W n σ' H') ?_ t ⟨Z,H,I,q⟩);rintro n s1⟨σ1,H1,I1,p⟩;refine ZAD m (Aj (k Ze s1 σ1 H1 _ I1 (turn n σ1 H1 p)) λb s2 r=>?_);obtain⟨H2,I2,d⟩:=r;cases b with
 |true=>
  obtain⟨N,o,d⟩:=d;rw[o9 rfl];refine ZAD m (Aj (l Ze s2 σ1 H2 _ I2 d) λf u a=>?_);cases f with
  |next=>
   obtain⟨σ3,H3,I3,g⟩:=a;obtain⟨i,j,e⟩:=o σ3 H3 g;exact⟨i,j,σ3,H3,I3,e⟩
  |cont=>
   obtain⟨σ3,H3,I3,g⟩:=a;obtain⟨i,j,e⟩:=o σ3 H3 g;exact⟨i,j,σ3,H3,I3,e⟩
  |brk=>exact a
  |ret v=>exact a
 |false=>
  rw[mL DC];exact ZAT ⟨σ1,H2,I2,d⟩⟩
theorem LS{iter:Expr}(l:PassesOwn (model X.prog X.w) X.A X.env X.xe)(C:X.calm=true)(hi:QI X tg iter wi)(t:QG X tg g)(a:GL X body tb)
  (hs:∀x,foldedSetIterable iter X.env x=pure x:=by intro _;rfl):QS X (.For tg iter body [] pos) (Xf wi g tb):=⟨by
 have hi:=hi.h;have t:=t.h;have a:=a.h;intro Ze s Z H D I h;refine wpAny_For (Aj (hi Ze s Z H _ I h) λv s1 h1=>Aj h1 λPo s2 h2=>?_) hs;obtain⟨it,fp,tn,J,H2,e,I2,T,Iz,E,W,⟨σ,P⟩,turn⟩:=h2;subst e
 -- nh stays true of Gk ZGS objects through Gk loop
 have y:∀{H':Hp},(∀b∈fp,H' b=none)->∀b∈fp,FH X Ze H' b:=λhn b a=>⟨hn b a,(E b a).2⟩;refine codeAny_forLoop_any (λn s'=>∃i σ' H',Inv X Ze σ' H' s'/\tn i s'.heap/\(∀b∈fp,H' b=none)/\W i n σ' H') ?_ σ ⟨0,Z,H2,I2,Iz,λb a=>(E b a).1,P⟩;rintro n B⟨i,σ3,H3,I3,F,ZH,O⟩;rcases turn i n σ3 H3 O with⟨stop,qn⟩|⟨go,N,hN,step⟩
 .refine ZAD l (Aj (T.done X rfl rfl rfl C i Ze B σ3 H3 X.xe I3 (y ZH) F stop) λr s4 Yh=>?_);obtain⟨q,I4⟩:=Yh;subst q;exact ZAT ⟨σ3,H3,I4,qn⟩
 .refine ZAD l (Aj (T.item X rfl rfl rfl C i Ze B σ3 H3 X.xe I3 (y ZH) F go) λr s4 Y=>?_);obtain⟨u,q,h4⟩:=Y;subst q;refine ZAD l (Aj h4 λ_ z G=>?_);obtain⟨x,H5,I5,U,K,Lh,Rk⟩:=G;have Q:=I5.pinned (y Rk) (T.obj _ _ Lh);refine ZAD l (Aj (t _ z σ3 H5 x u _ Q U (step x H5 K)) λ_ R ZEk=>?_);obtain⟨σ6,H6,I6,V⟩:=ZEk;refine ZAD l (Aj (a _ R σ6 H6 _ I6 V) λf p j=>?_);have c:∀{σ7:St}{H7:Hp},Inv X (Ze++OB fp z.heap) σ7 H7 p->N σ7 H7->∃m,m<n/\∃i σ' H',Inv X Ze σ' H' p/\tn i p.heap/\(∀b∈fp,H' b=none)/\W i m σ' H':=λ{σ7 H7}I7 k=>by
   obtain⟨m',hm,M⟩:=hN σ7 H7 k;refine⟨m',hm,i+1,σ7,H7,I7.Nd,T.keep _ _ _ Lh λb a o e=>(I7.pin (b,o) (Ep _ (Ep _ (RC a e)))).1,λb a=>?_,M⟩;obtain⟨o,e,d⟩:=T.obj _ _ Lh b a;exact(I7.pin (b,o) (Ep _ (Ep _ (RC a e)))).2.1
  cases f with
  |next=>obtain⟨σ7,H7,I7,k⟩:=j;exact c I7 k
  |cont=>obtain⟨σ7,H7,I7,k⟩:=j;exact c I7 k
  |brk=>obtain⟨σ7,H7,I7,j⟩:=j;exact⟨σ7,H7,I7.Nd,j⟩
  |ret v=>obtain⟨L,σ7,H7,I7,S,j⟩:=j;exact⟨L,σ7,H7,I7.Nd,S,j⟩⟩
theorem CS(h:QS X st t):QS X st (T8 t):=⟨by
 have h:=h.h;intro Ze s Z H D I hw;obtain⟨J,h1,h2⟩:=hw;refine Aj (h Ze s Z H _ I h1) λf s' q=>?_;cases f with
 |next=>obtain⟨σ',H',I',q⟩:=q;exact⟨σ',H',I',h2 σ' H' q⟩
 |ret v=>exact q
 |brk=>exact q
 |cont=>exact q⟩
end
theorem AH.BI{P:Program}{K:ZGX}{mg:ZGZ}{Zf:Heap}{qual:Str}{st:Stmt}{fd:FuncData}{N:List Str}(F:AH K x qual st f fd)(S:Ay N ps (AS st))(len:∀vs H Q E,sp vs H Q E->vs.length=ps.length)
  (Kx:∀(AQ:Value)(A:Around)(outer:List Env)(s:Shared)(H:Hp)(vs:List V)(Q:VK)(E:XK),C2 k (A.deeper (envOfC qual (AS st) s.heap.objs.size f AQ))->sp vs H Q E->
   ∃t,GL (Dz FK P w K mg Zf N qual (AS st) f AQ A outer s H E).N6 (Iw st) t/\t { nx:=λ_ H'=>Q .AG H',rt:=Q } (start N vs) H):D7 P w K mg Zf FK (k+1) f fd ps sp:=
 F.ok S len λAQ A outer s H vs Q E a h=>let ⟨t,q,r⟩:=Kx AQ A outer s H vs Q E a h;⟨t,q.h,r⟩
theorem R9{t:Tok}:Df (.str x) (.str y t)=(y == x):=rfl
theorem XA(x:Str):∀(ss:List Str)(m:Nat)(b:m<ss.length),m<ss.idxOf x->ss[m]≠x
 | [],_,b,_=>absurd b (Nat.not_lt_zero _)
 |a::r,m,b,h=>by
  rw[Yv]at h
  by_cases e:a=x
  .have:(a == x)=true:=by simpa using e
   rw[this]at h;exact absurd h (Nat.not_lt_zero _)
  .have c:(a == x)=false:=by simpa using e
   rw[c]at h;cases m with
   |zero=>exact e
   |succ k=>
    have h':k+1<r.idxOf x+1:=h;exact XA x r k (by simpa using b) (by omega)
theorem WU(h:x∈ss):∃a:ss.idxOf x<ss.length,ss[ss.idxOf x]=x/\∀m(b:m<ss.length),m<ss.idxOf x->ss[m]≠x:=by
 have a:ss.idxOf x<ss.length:=List.idxOf_lt_length_iff.mpr h;exact⟨a,Ys a,λm b Aa=>XA x ss m b Aa⟩
def dG(K:ZGX):V->List V->Hp->VK->Prop:=λx vs H Q=>∃(l:Addr)(ss:List Str)(y:Str),x=.ref l/\vs=[.str y]/\AO K H l (ss.map V.str)/\y∈ss/\Q (.int (ss.idxOf y:Nat)) H
theorem Wr:IY X "list.index" (dG X.K):=by
 intro Ze s Z H x vs v us Q I i j h;obtain⟨l,ss,y,rfl,rfl,p,o,q⟩:=h;cases i;obtain⟨u,rfl,k⟩:=j.one;obtain⟨A5,r,pl,b⟩:=I.list p;obtain⟨⟨c,d,dt,sl⟩,n,ho,f,hd,Ff⟩:=id pl;simp only at f hd Ff;subst f;subst hd;subst Ff;have A:=r.length;rw[Ae]at A;obtain⟨D,Us,K5⟩:=WU o;have at':∀(m:Nat)(a:m<A5.toArray.size),∃t,A5.toArray[m]=.str (ss[m]'(by simp at a;omega)) t:=λm a=>by
  have B:m<A5.length:=by simpa using a
  obtain⟨h2,t,e⟩:=Rb r (C4 B);exact⟨t,by simpa using e⟩
 have g:ss.idxOf y<A5.toArray.size:=by simp;omega
 refine ZBL Z8 ⟨_,ho,rfl⟩ PySem.F.entry_list_index (PySem.F.args_list_index_2 _ _) (SeqAt.list_indexAt l A5.toArray n none sl u (Df (.str y)) (ss.idxOf y) g ?_ ?_ (λm a Aa=>?_)) ⟨ho,λz IX=>Kt k rfl r (by
   rw[Fo];intro w hw;obtain⟨C,_,rfl⟩:=List.mem_map.mp hw;rfl) z (by simpa using IX),?_⟩
 .have h1:ss.length<=sizeLine:=by rw[Ae]at b;exact b
  have h2:=HI;have E:((sizeLine:Nat):Int)<2 ^ 63:=by exact_mod_cast h2
  omega
 .obtain⟨t,e⟩:=at' _ g;rw[e,R9];simpa using Us
 .obtain⟨t,e⟩:=at' _ a;rw[e,R9];have:=K5 m (by simp at a;omega) Aa
  simpa using this
 .exact⟨.int _,H,I.tok _,⟨_,rfl⟩,q⟩
theorem qU(l:Addr)(items:Array Value)(n:Nat)(dd:Option Addr)(sl:Array (Option Value))(x:Value)(e:Value->Bool)(j:Nat)(B:j<items.size)(f:e items[j]=true)(K5:∀m(z:m<items.size),m<j->e items[m]=false):
  Meets (Builtin.«tuple.index» ⟨[.ref l,x],[]⟩)
   (λA R s=>s.heap.get? l=some { cls:=.type "tuple", dict:=dd,data:=.seq items n,slots:=sl }/\(∀y,y∈items->SeqAt.EqAt A.in1 s y x (e y))/\R (.ok (.ret (.int j s.toks))) { s with toks:=s.toks+1 }):=by
 refine Meets.of_wp λprog w A R s h=>?_;obtain⟨o,g,d,tk,os⟩:=s;obtain⟨p,q,h⟩:=h
 wp_walk using AutoSeq1.wpAny_loadPart' p
 show wpAny _ _ (forIn [:min items.size items.size] ((none:Option Fin),()) (λ(i:Nat)(_:Option Fin×Unit)=>match items[i]? with
  |some y=>(do let b <- eqBool y x;if b=true then do let r <- retInt ((i:Nat):Int);pure (ForInStep.done (some r,()))else pure (ForInStep.yield (none,())))
  |_=>pure (ForInStep.yield (none,())))) _ _ _
 rw[Std.Legacy.Range.forIn_eq_forIn_range'];have v:([:min items.size items.size]:Std.Legacy.Range).size=items.size:=by simp[Std.Legacy.Range.size]
 show wpAny _ _ (forIn (List.range' 0 ([:min items.size items.size]:Std.Legacy.Range).size 1) _ _) _ _ _;rw[v];refine wpAny_forIn_list _ (λrest b s'=>b=(none,())/\s'=⟨o,g,d,tk,os⟩/\∃i,rest=List.range' i (items.size - i) 1/\i<=j) _ ?_ ?_ _ _ ⟨rfl,rfl,0,rfl,CK _⟩
 .rintro i rest b s'⟨rfl,rfl,a,c,Gm⟩;have k:a < items.size:=by omega
  have u:List.range' a (items.size - a) 1=a::List.range' (a+1) (items.size - (a+1)) 1:=by
   have:items.size - a=(items.size - (a+1))+1:=by omega
   rw[this,List.range'_succ]
  rw[u]at c;injection c with Tv Lc
  subst Tv;subst Lc;have hi:items[i]?=some items[i]:=by simp[k]
  rw[hi];refine ko (q _ (Array.getElem_mem k) prog w _ _ ?_)
  by_cases t:i=j
  .subst t;rw[f,o9 rfl]
   wp_walk
   exact⟨_,rfl,h⟩
  .rw[K5 i k (by omega),mL (by decide)];exact mD ⟨rfl,rfl,i+1,rfl,by omega⟩
 .rintro b s'⟨rfl,rfl,i,c,Gm⟩;have:0<(List.range' i (items.size - i) 1).length:=by rw[List.length_range'];omega
  rw[<- c]at this;exact absurd this (by simp)
def eG(K:ZGX):V->List V->Hp->VK->Prop:=λx vs H Q=>∃(l:Addr)(ss:List Str)(y:Str),x=.ref l/\vs=[.str y]/\AN K H l (ss.map V.str)/\y∈ss/\Q (.int (ss.idxOf y:Nat)) H
theorem vS:IY X "tuple.index" (eG X.K):=by
 intro Ze s Z H x vs v us Q I g i h;obtain⟨l,ss,y,rfl,rfl,o,k,q⟩:=h;cases g;obtain⟨u,rfl,j⟩:=i.one;obtain⟨A5,r,pl,C⟩:=I.tuple o;obtain⟨⟨c,d,dt,sl⟩,ho,b,n,Ff⟩:=id pl;simp only at b Ff;subst b;subst Ff;have p:=r.length;rw[Ae]at p;obtain⟨D,Us,K5⟩:=WU k;have at':∀(m:Nat)(a:m<A5.toArray.size),∃t,A5.toArray[m]=.str (ss[m]'(by simp at a;omega)) t:=λm a=>by
  have A:m<A5.length:=by simpa using a
  obtain⟨h2,t,e⟩:=Rb r (C4 A);exact⟨t,by simpa using e⟩
 have f:ss.idxOf y<A5.toArray.size:=by simp;omega
 refine ZBL ZFU ⟨_,ho,rfl⟩ PySem.F.entry_tuple_index (PySem.F.args_tuple_index_2 _ _) (qU l A5.toArray n d sl u (Df (.str y)) (ss.idxOf y) f ?_ (λm a Aa=>?_)) ⟨ho,λz IX=>Kt j rfl r (by
   rw[Fo];intro w hw;obtain⟨B,_,rfl⟩:=List.mem_map.mp hw;rfl) z (by simpa using IX),?_⟩
 .obtain⟨t,e⟩:=at' _ f;rw[e,R9];simpa using Us
 .obtain⟨t,e⟩:=at' _ a;rw[e,R9];have:=K5 m (by simp at a;omega) Aa
  simpa using this
 .exact⟨.int _,H,I.tok _,⟨_,rfl⟩,q⟩
def Ue(t u:TE):TE:=λZ H Q=>t Z H Q∨u Z H Q
theorem ZBf{t u:TE}(h:QE X e t)(h2:QE X e u):QE X e (Ue t u):=⟨λZe s Z H Q I q=>q.elim (h.h Ze s Z H Q I) (h2.h Ze s Z H Q I)⟩
theorem vy:typeLookup (.type "list_reverseiterator") "__len__"=pure none:=by rw[uV,qc];kernel_rfl
theorem vJ:typeLookup (.type "list_reverseiterator") "__length_hint__"=pure (some (.builtin "list_reverseiterator.__length_hint__")):=by rw[uV,qc];kernel_rfl
section
variable{fp wr:List Addr}{G:Array GenState->Array GenState->Prop}{P:Nat->Value->Prop}{St:Nat->Shared->Prop}
theorem ZAI(W:WalksS prog w A.in1 I fp wr G n P St)(c:∀i s,St i s->s.TypeIs (.ref I) "list_reverseiterator")(S:Addr)(res:Value)(k:Nat)(BQ:St 0 s)(E6:S∉fp)(j:I∈fp)
  (h:s.heap.get? S=some { cls:=.type "list", data:=.seq #[] k })
  (hR:∀s' Bw a,Moved (S::wr) G s s'->s'.heap.get? S=some { cls:=.type "list", dict:=none,data:=.seq Bw a,slots:=#[] }->ItemsOf P Bw n->R (.ok (.ret res)) s') (hn:n<=sizeLine) :
  wpAny (model prog w) A.in1 (Builtin.List.listExtendWith (.ref S) (.ref I) res)
   (λfin s'=>match fin with | .done f=>R (.ok f) s' | .again a=>a.quiet=true/\codeAny (model prog w) A a R s') (λe s'=>R (.error e) s') s:=by
 have l:S≠I:=λe=>E6 (e▸j);unfold Builtin.List.listExtendWith;refine ko (ZAA (c 0 _ BQ) ?_);have h1:Builtin.List.listSameRef (.ref S) (.ref I)=false:=by simp[Builtin.List.listSameRef,l]
 rw[mL (by rw[h1];decide)];refine ko (W.self 0 _ _ _ BQ ?_);refine ko (tL ?_);unfold Builtin.List.listLengthHint;refine ko (ZA5 (c 0 _ BQ) vy ?_);show wpAny _ A.in1 (specialOf (Value.ref I) (Str.ofString "__length_hint__") >>= _) _ _ _;refine ko (ZA5 (c 0 _ BQ) vJ ?_);generalize d:("list_reverseiterator.__length_hint__":String)=NB
 wp_delta
 rw[show splitId NB=some ("list_reverseiterator","__length_hint__")from by subst d;decide +kernel];subst d;refine ko (xi (b:=true) (c 0 _ BQ) (by rw[sF];kernel_rfl) ?_);refine mD ?_;rw[mL (by decide)];refine mD ⟨ZAN jz _,ZAa W hn _ E6 _ n 0 _ _ _ rfl (CK _) BQ h (ItemsOf.nil P) λs' Bw a g CA B5=>?_⟩;exact hR s' Bw a g CA B5
theorem ki(W:WalksS prog w A.in1 I fp wr G n P St)(l:∀i s,St i s->s.TypeIs (.ref I) "list_reverseiterator")(S:Addr)(BQ:St 0 s)(E6:S∉fp)(m:I∈fp)
  (g:s.heap.get? S=some { cls:=.type "list", data:=.seq #[] })
  (hR:∀s' Bw a,Moved (S::wr) G s s'->s'.heap.get? S=some { cls:=.type "list", dict:=none,data:=.seq Bw a,slots:=#[] }->ItemsOf P Bw n->R (.ok (.ret .none)) s') (hn:n<=sizeLine) :
  wpAny (model prog w) A.in1 (Builtin.«list.__init__» ⟨[.ref S,.ref I],[]⟩)
   (λfin s'=>match fin with | .done f=>R (.ok f) s' | .again a=>a.quiet=true/\codeAny (model prog w) A a R s') (λe s'=>R (.error e) s') s:=by
 show wpAny _ A.in1 (do let old <- Builtin.List.listItems (.ref S);Builtin.List.listUpdate (.ref S) (λ_=>#[]);letGo old.toList.reverse;Builtin.List.listExtendWith (.ref S) (.ref I) .none) _ _ s
 refine ko ?_;unfold Builtin.List.listItems;refine ko (wpAny_seqItems g rfl (mD ?_));show wpAny _ A.in1 (updateSeq S (λ_=>#[]) >>= λ_=>letGo (#[]:Array Value).toList.reverse >>= λ_=>Builtin.List.listExtendWith (.ref S) (.ref I) .none) _ _ s;refine ko (ZAF g rfl ?_);have d:=E7 (Obj.mapSeq (λ_=>(#[]:Array Value))) g rfl;have j:∀b o,b≠S->s.heap.get? b=some o->(s.heap.update S (Obj.mapSeq (λ_=>(#[]:Array Value)))).get? b=some o:=
  λb o c e=>(DN _ _ (BP c)).trans e
 refine ko (wpAny_letGo ?_);refine ZAI (hn:=hn) W l S .none _ (W.frame 0 s _ s.toks BQ (B4 _) λb c o e=>j b o (λh=>E6 (h▸c)) e) E6 m d λs' Bw a k CA B5=>?_;exact hR s' Bw a (Moved.trans W.gtrans ((Moved.refl W.grefl).then_heap (B4 _) λb o c e=>j b o (λh=>c (h▸BZ)) e) k) CA B5
theorem tZ(W:WalksS prog w A.in1.in1 I fp wr G n P St)(g:∀i s,St i s->s.TypeIs (.ref I) "list_reverseiterator")(BQ:St 0 s)(LP:∀b∈fp,b<s.heap.objs.size)(j:I∈fp)
  (h:∀s' Bw c,Moved (s.heap.objs.size::wr) G { s with heap:=s.heap.push { cls:=.type "list", data:=.seq #[] } } s'->
   s'.heap.get? s.heap.objs.size=some { cls:=.type "list", dict:=none,data:=.seq Bw c,slots:=#[] }->ItemsOf P Bw n->Q (.ref s.heap.objs.size) s') (hn:n<=sizeLine) :
  wpAny (model prog w) A (call (.type "list") [.ref I]) Q E s:=by
 have k:s.heap.objs.size∉fp:=λa=>Mi _ (LP _ a);refine callType_codes (Q₁:=λobj d=>obj=.ref s.heap.objs.size/\d={ s with heap:=s.heap.push { cls:=.type "list", data:=.seq #[] } }) F.called_list (F.typeCall_list_1 _) F.entry_list_init
  (code_list_new _ ⟨rfl,rfl⟩) λobj d h₁=>?_
 obtain⟨rfl,rfl⟩:=h₁;have f:(s.heap.push { cls:=.type "list", data:=.seq #[] }).get? s.heap.objs.size=some { cls:=.type "list", data:=.seq #[] }:=BY _ rfl;refine⟨⟨_,f,rfl⟩,F.args_list_init_2 _ _,ki (hn:=hn) W g _ (W.frame 0 s _ s.toks BQ (B4 _) λb _ o e=>BE _ e) k j f λs' Bw c a CA B5=>?_⟩;exact⟨rfl,h s' Bw c a CA B5⟩
end
theorem wK:typeLookup (.type "tuple") "__reversed__"=pure none:=by rw[uV,qc];kernel_rfl
theorem ZDO:typeLookup (.type "reversed") "__len__"=pure none:=by rw[uV,qc];kernel_rfl
theorem ZD3:typeLookup (.type "reversed") "__length_hint__"=pure (some (.builtin "reversed.__length_hint__")):=by rw[uV,qc];kernel_rfl
theorem xg:isSubtype (.type "tuple") (.type "dict")=pure false:=by rw[sF];kernel_rfl
theorem Se:Manifest.owners.lookup (String.ofList ['d','e','s','r','e','v','e','r'].reverse)=some Manifest.sig_reversed:=by kernel_rfl
theorem OH:Slot "reversed" "__next__" "reversed.__next__" :=
 .of (owner:="reversed") (n:="__next__") (by rw[uV,qc];kernel_rfl) (by decide +kernel) (by decide +kernel) (by decide +kernel)
  (by first|exact .inl (by decide +kernel)|exact .inr (by decide +kernel)) (by rw[sF];kernel_rfl)
theorem bR:entryFor table "reversed.__next__"=some Builtin.«reversed.__next__»:=ZBB (by kernel_rfl)
theorem cP(a:Value):argsOk "reversed.__next__" ⟨[a],[]⟩:=by
 unfold argsOk;rw[ZAZ (id:="reversed.__next__") (n:=['_','_','t','x','e','n','_','_']) (o:=['d','e','s','r','e','v','e','r']) (by kernel_rfl) Se];kernel_rfl
theorem jW:Slot "reversed" "__iter__" "reversed.__iter__" :=
 .of (owner:="reversed") (n:="__iter__") (by rw[uV,qc];kernel_rfl) (by decide +kernel) (by decide +kernel) (by decide +kernel)
  (by first|exact .inl (by decide +kernel)|exact .inr (by decide +kernel)) (by rw[sF];kernel_rfl)
theorem x6(a:Value):argsOk "reversed.__iter__" ⟨[a],[]⟩:=by
 unfold argsOk;rw[ZAZ (id:="reversed.__iter__") (n:=['_','_','r','e','t','i','_','_']) (o:=['d','e','s','r','e','v','e','r']) (by kernel_rfl) Se];kernel_rfl
theorem oA:entryFor table "reversed.__iter__"=some Builtin.«dict_keyiterator.__iter__»:=
 ZAj (id' := "dict_keyiterator.__iter__") (by kernel_rfl) (by first|rfl|decide +kernel|(unfold String.splitOn;simp +decide [String.splitOnAux])) (by decide +kernel) (by kernel_rfl)
theorem ZG:Slot "reversed" "__length_hint__" "reversed.__length_hint__" :=
 .of (owner:="reversed") (n:="__length_hint__") (by rw[uV,qc];kernel_rfl) (by decide +kernel) (by decide +kernel) (by decide +kernel)
  (by first|exact .inl (by decide +kernel)|exact .inr (by decide +kernel)) (by rw[sF];kernel_rfl)
theorem y1:entryFor table "reversed.__length_hint__"=some Builtin.«reversed.__length_hint__»:=ZBB (by kernel_rfl)
theorem uT(a:Value):argsOk "reversed.__length_hint__" ⟨[a],[]⟩:=by
 unfold argsOk;rw[ZAZ (id:="reversed.__length_hint__") (n:=['_','_','t','n','i','h','_','h','t','g','n','e','l','_','_']) (o:=['d','e','s','r','e','v','e','r']) (by kernel_rfl) Se];kernel_rfl
theorem qF:Slot "reversed" "__init__" "object.__init__" :=
 .of (owner:="object") (n:="__init__") (by rw[uV,qc];kernel_rfl) (by decide +kernel) (by decide +kernel) (by decide +kernel)
  (by first|exact .inl (by decide +kernel)|exact .inr (by decide +kernel)) (by rw[sF];kernel_rfl)
theorem ZEe:TypeCalled "reversed" "reversed.__new__" "object.__init__" :=
 ⟨by decide +kernel,by decide +kernel,⟨_,_,F.mro_reversed⟩,F.made_reversed,by decide +kernel,by rw[sF];kernel_rfl,qF⟩
noncomputable def O6(l:Addr)(i:Int):Obj:={ cls:=.type "reversed", data:=.fields #[.ref l,rawInt i] }
def Ei(h:Heap)(a l:Addr)(i:Int):Prop:=∃o,h.get? a=some o/\o.cls=.type "reversed" /\ o.data=.fields #[.ref l,rawInt i]
theorem Ei.typeIs{a:Addr}{i:Int}(x:Ei s.heap a l i):s.TypeIs (.ref a) "reversed" := let ⟨o,ho,hc,_⟩:=x;⟨o,ho,hc⟩
theorem Ei.at{h h':Heap}{a:Addr}{i:Int}(x:Ei h a l i)(e:∀o,h.get? a=some o->h'.get? a=some o):Ei h' a l i:=let ⟨o,ho,r⟩:=x;⟨o,e _ ho,r⟩
theorem vv(l:Addr)(items:Array Value)(ER:(items.size:Int)<2 ^ 63):
  Meets (Builtin.«reversed.__new__» ⟨[.type "reversed",.ref l],[]⟩) (λ_ R s=>IsTup s.heap l items/\
   R (.ok (.ret (.ref s.heap.objs.size))) { s with heap:=s.heap.push (O6 l ((items.size:Int) - 1)),toks:=s.toks+1+1 }):=
 .of_wp λprog w A R s h=>by
  obtain⟨c,h⟩:=h;unfold Builtin.«reversed.__new__»;refine ko (sj (newClass_reversed _) ?_)
  try dsimp only
  refine ko (sj (a:=()) (by first|rfl|kernel_rfl) ?_)
  refine ko (sj (a:=()) (by first|rfl|kernel_rfl) ?_)
  try dsimp only
  refine ko (ZA5 c.typeIs wK ?_)
  try dsimp only
  refine ko ?_
  wp_delta
  refine ko (xi (b:=false) c.typeIs xg ?_);rw[mL (by decide)];refine ko (ZA5 c.typeIs PyProof.Rows.slot_tuple_getitem.lookup ?_);dsimp only;rw[o9 (by decide +kernel)];refine mD ?_;rw[mL (by decide)];refine ko (len_tuple c ER ?_);refine ko (m:=asInt? _) (mD ?_);dsimp only;refine ko ?_;unfold Builtin.SmallTypes.newRecord;dsimp only;exact qm (mD ⟨_,rfl,h⟩)
theorem z6(ER:(items.size:Int)<2 ^ 63)(a:IsTup s.heap l items)
  (h:Q (.ref s.heap.objs.size) { s with heap:=s.heap.push (O6 l ((items.size:Int) - 1)),toks:=s.toks+1+1 }):wpAny (model prog w) A (call (.type "reversed") [.ref l]) Q E s:=by
 refine callType_new ZEe (by decide) (F.typeCall_reversed_1 _) (F.newCall_reversed_1 _) (λobj=>F.args_object_init_2 obj _) F.entry_reversed_new (vv l items ER) ⟨a,?_⟩;exact⟨⟨_,BY _ rfl,rfl⟩,h⟩
theorem yX{x:Value}{Q:Option Value->Shared->Prop}(b:Ei s.heap it l (i:Int))(c:IsTup s.heap l items)(hx:items[i]?=some x)(ER:(items.size:Int)<2 ^ 63)
  (d:∀h' tk,Ei h' it l ((i:Int) - 1)->Heap.SameBut it s.heap h'->s.toks<=tk->Q (some x) { s with heap:=h',toks:=tk }):wpAny (model prog w) A (pyNext (.ref it)) Q E s:=by
 obtain⟨o,ho,f,hd⟩:=id b;have hi:i<items.size:=(Array.getElem?_eq_some_iff.mp hx).1;unfold pyNext;refine ko (ZAE (tj (name:=Str.ofString "__next__") b.typeIs OH
  (sC OH b.typeIs bR ?_ (cP _))))
 unfold Builtin.«reversed.__next__»;refine ko (sj (a:=(Value.ref it,[])) rfl ?_)
 try dsimp only
 refine ko (yU ho hd (x:=.ref l) rfl ?_);refine ko (yU ho hd (x:=rawInt (i:Int)) rfl ?_);show wpAny _ _ (if(i:Int)<0 then _ else _) _ _ s
 rw[mL (by omega)];refine ko (ZA5 c.typeIs PyProof.Rows.slot_tuple_getitem.lookup ?_);rw[mL (by simp)];refine ko (wpAny_mkInt ?_);have e:seqIndex? (i:Int) items.size=some i:=by
  unfold seqIndex?;simp;omega
 refine ko (ZAE (getItem_tuple (s:={ s with toks:=s.toks+1 }) c (by omega) (by omega) e hx ?_))
 dsimp only;refine ko (yU (s:={ s with toks:=s.toks+1 }) ho hd (x:=rawInt (i:Int)) rfl ?_)
 show wpAny _ _ (setField (.ref it) 1 (rawInt ((i:Int) - 1)) >>= _) _ _ _;refine ko (vx (s:={ s with toks:=s.toks+1 }) ho hd (by simp) ?_)
 first
 |refine mD ⟨x,rfl,mD (d _ _ ?_ (HE ..) (E9 _))⟩
 |refine ko (mD (mD ⟨x,rfl,mD (d _ _ ?_ (HE ..) (E9 _))⟩))
 exact⟨_,E7 _ ho (LF (FT hd _)),(SJ ..).trans f,by
  rw[FT hd];simp⟩
theorem ZEH{Q:Option Value->Shared->Prop}(hh:A.handled=none)(c:Ei s.heap it l (-1))
  (g:∀h',Heap.ExtBut it s.heap h'->Q none { s with heap:=h' }):wpAny (model prog w) A (pyNext (.ref it)) Q E s:=by
 obtain⟨o,ho,i,hd⟩:=id c;unfold pyNext;refine ko (ZAE (tj (name:=Str.ofString "__next__") c.typeIs OH
  (sC OH c.typeIs bR ?_ (cP _))))
 unfold Builtin.«reversed.__next__»;refine ko (sj (a:=(Value.ref it,[])) rfl ?_)
 try dsimp only
 refine ko (yU ho hd (x:=.ref l) rfl ?_);refine ko (yU ho hd (x:=rawInt (-1)) rfl ?_);show wpAny _ _ (if(-1:Int)<0 then _ else _) _ _ s
 rw[o9 (by decide)];refine ko (ZAR ?_);refine ko ?_
 wp_delta
 refine ko (vx ho hd (by simp) ?_);have h:=E7 (λob=>Obj.mapFields (·.set! 1 (rawInt (-1))) ob) ho (LF (FT hd _))
 have d:=FT hd (·.set! 1 (rawInt (-1)))
 refine vx (s:={ s with heap:=_ }) h d (by simp) ?_
 refine ko ?_;show wpAny _ _ (newExc (.type "StopIteration") [] >>= _) _ _ _;refine ko ?_;simp only[newExc,newTuple];refine ko (qm ?_ (by size_fits));refine ko (m:=firstArgMember _ _) (sj (a:=Value.none) (by first|rfl|(simp only[firstArgMember];rfl)) ?_)
 refine qm ?_ (by size_fits);simp only[raiseNew];refine ko (wpAny_handled ?_)
 first|rw[show A.in1.handled=none from hh]|rw[hh]
 refine ko (mD (wpAny_throw ?_));refine ko (xi (T:="StopIteration") (b:=true) ⟨_,BY _ rfl,rfl⟩ ZBR ?_);refine mD (g _ (λb ob f e=>?_));exact BE _ (BE _ ((DN _ _ (BP f)).trans ((DN _ _ (BP f)).trans e)))
theorem ZCo{i:Int}(a:Ei s.heap it l i)(h:Q (.ref it) s):wpAny (model prog w) A (pyIter (.ref it)) Q E s:=by
 refine ZAo a.typeIs jW (sC jW a.typeIs oA ?_ (x6 _));show wpAny _ _ (ret (.ref it)) _ _ s;exact mD ⟨_,rfl, "reversed", _,a.typeIs,OH.lookup,h⟩
theorem yH(hh:A.handled=none)(I l:Addr)(Ai:l≠I)(items:Array Value)(ER:(items.size:Int)<2 ^ 63):
  Walks prog w A I [I,l] [I] items.size (λi v=>items[items.size - 1 - i]?=some v) (λi h=>i<=items.size/\Ei h I l ((items.size:Int) - 1 - (i:Int))/\IsTup h l items) where
 sub:=λb c=>by simp at c;simp[c]
 frame:=λ_ _ _ x g=>⟨x.1,x.2.1.at λo e=>g I (by simp) o e,let ⟨o,ho,r⟩:=x.2.2;⟨o,g l (by simp) o ho,r⟩⟩
 item:=λi s Q E hi x d=>by
  have e:(items.size:Int) - 1 - (i:Int)=((items.size - 1 - i:Nat):Int):=by omega
  have a:=x.2.1;rw[e]at a;have hx:items[items.size - 1 - i]?=some (items[items.size - 1 - i]'(by omega)):=L8 (by omega);refine yX a x.2.2 hx ER λh' tk Iu J4 GR=>?_;have j:((items.size - 1 - i:Nat):Int) - 1=(items.size:Int) - 1 - ((i+1:Nat):Int):=by omega
  rw[j]at Iu;exact d _ h' tk hx ⟨hi,Iu,x.2.2.extBut J4.extBut Ai⟩ λb o c f=>J4.extBut b o (λh=>c (by simp[h])) f
 done:=λs Q E x d=>by
  have e:(items.size:Int) - 1 - (items.size:Int)=-1:=by omega
  have a:=x.2.1;rw[e]at a;exact ZEH hh a λh' N4=>d h' s.toks λb o c f=>N4 b o (λh=>c (by simp[h])) f
 self:=λ_ _ _ _ x d=>ZCo x.2.1 d
theorem uQ(b:Ei s.heap it l ((items.size:Int) - 1))(c:IsTup s.heap l items)(ER:(items.size:Int)<2 ^ 63)
  (h:∀t tk,s.toks<=tk->Q (.int (items.size:Int) t) { s with toks:=tk }):wpAny (model prog w) A (call (.builtin "reversed.__length_hint__") [.ref it]) Q E s:=by
 obtain⟨o,ho,d,hd⟩:=id b;refine sC ZG b.typeIs y1 ?_ (uT _);unfold Builtin.«reversed.__length_hint__»;refine ko (sj (a:=Value.ref it) rfl ?_);refine ko (yU ho hd (x:=.ref l) rfl ?_);rw[mL (show ¬ ((Value.ref l == Value.none)=true)from DC)];refine ko (len_tuple c ER ?_);refine ko (m:=asInt? _) (mD ?_);dsimp only;refine ko (yU (s:={ s with toks:=_ }) ho hd (x:=rawInt ((items.size:Int) - 1)) rfl ?_)
 show wpAny _ _ (if(items.size:Int)<((items.size:Int) - 1)+1 then _ else _) _ _ _
 rw[mL (by omega)];show wpAny _ _ (retInt (((items.size:Int) - 1)+1)) _ _ _;have e:((items.size:Int) - 1)+1=items.size:=by omega
 rw[e];exact ko (wpAny_mkInt (mD ⟨_,rfl,h _ _ (by show s.toks<=s.toks+1+1+1;omega)⟩))
theorem uf(hh:A.handled=none)(Ai:l≠I)(D:items.size<=sizeLine)(S:Addr)(res:Value)(E:Nat)(c:Ei s.heap I l ((items.size:Int) - 1))(n:IsTup s.heap l items)(HK:S≠I)(Jv:S≠l)
  (x:s.heap.get? S=some { cls:=.type "list", data:=.seq #[] E })
  (hR:∀s' Bw d,Moved [S,I] (λa b=>b=a) s s'->s'.heap.get? S=some { cls:=.type "list", dict:=none,data:=.seq Bw d,slots:=#[] }->ItemsOf (λi v=>items[items.size - 1 - i]?=some v) Bw items.size->R (.ok (.ret res)) s') :
  wpAny (model prog w) A.in1 (Builtin.List.listExtendWith (.ref S) (.ref I) res)
   (λfin s'=>match fin with | .done f=>R (.ok f) s' | .again d=>d.quiet=true/\codeAny (model prog w) A d R s') (λe s'=>R (.error e) s') s:=by
 have B:(items.size:Int)<2 ^ 63:=by
  have h1:=HI;have O:((sizeLine:Nat):Int)<2 ^ 63:=by exact_mod_cast h1
  omega
 have W:=(yH (prog:=prog) (w:=w) (A:=A.in1) hh I l Ai items B).toS;have N:(λ(i:Nat)(s:Shared)=>i<=items.size/\Ei s.heap I l ((items.size:Int) - 1 - (i:Int))/\IsTup s.heap l items) 0 s:=⟨CK _,by simpa using c,n⟩
 have M:S∉[I,l]:=by simp[HK,Jv]
 unfold Builtin.List.listExtendWith;refine ko (ZAA c.typeIs ?_);have h1:Builtin.List.listSameRef (.ref S) (.ref I)=false:=by simp[Builtin.List.listSameRef,HK]
 rw[mL (by rw[h1];decide)];refine ko (W.self 0 _ _ _ N ?_);refine ko (tL ?_);unfold Builtin.List.listLengthHint;refine ko (ZA5 c.typeIs ZDO ?_);show wpAny _ A.in1 (specialOf (Value.ref I) (Str.ofString "__length_hint__") >>= _) _ _ _;refine ko (ZA5 c.typeIs ZD3 ?_);generalize F:("reversed.__length_hint__":String)=NB
 wp_delta
 rw[show splitId NB=some ("reversed","__length_hint__")from by subst F;decide +kernel];subst F;refine ko (xi (b:=true) c.typeIs (by rw[sF];kernel_rfl) ?_);rw[mL (by decide)];refine ZAf (λDt=>absurd Dt (by decide +kernel)) (λ_=>?_);refine ko (ZAR ?_);refine ko (sj (ZG.bind _) ?_);dsimp only;refine ko (ZAE (uQ c n B λt tk GR=>?_));dsimp only;have ea:asInt? (Value.int (items.size:Int) t)=pure (some (items.size:Int)):=rfl;rw[ea,pure_bind];dsimp only;have K:Builtin.List.listTooLong ((items.size:Int).toNat)=false:=by
  simp[Builtin.List.listTooLong];exact D
 have L:Builtin.List.listFitsIndex (items.size:Int)=true:=by
  unfold Builtin.List.listFitsIndex;rw[CU];exact⟨mG (by omega),mG B⟩
 rw[mL (by rw[L];decide),mL (by omega),mL (by rw[K];decide)];refine mD ?_;have g:∀(h:Heap)(y:Nat),(∀b o,b≠S->s.heap.get? b=some o->h.get? b=some o)->h.get? S=some { cls:=.type "list", data:=.seq #[] y }->
   codeAny (model prog w) A (.builtin "list.extend.loop" ⟨[.ref S,.ref I,res],[]⟩) R { s with heap:=h,toks:=tk }:=by
  intro h y p u;refine ZAa W D S M res items.size 0 _ #[] y rfl (CK _) ⟨CK _,?_,?_⟩ u (ItemsOf.nil _) λs' Bw d j CA B5=>?_
  .have:=c.at λo e=>p I o (BP HK) e
   simpa using this
  .obtain⟨o,ho,r⟩:=n;exact⟨o,p l o (BP Jv) ho,r⟩
  .exact hR s' Bw d ⟨λb o k e=>j.heap b o k (p b o (λz=>k (by simp[z])) e),j.gens,j.drawn,j.os,Bz GR j.toks⟩ CA B5
 refine ZAf (λ_=>?_) (λ_=>mD ⟨ZAN jz _,g _ E (λb o _ e=>e) x⟩);refine ko (ZAR ?_);refine ko ?_;show wpAny _ _ (updateSeq S (·.push .none) >>= λ_=>updateSeq S (·.pop)) _ _ _
 have J:(#[]:Array Value).size<=sizeLine:=CK _;have C:((#[]:Array Value).push Value.none).size<=sizeLine:=by show 1<=sizeLine;decide
 have H:((#[]:Array Value).push Value.none).size<=sizeLine+1:=kQ C;have G:(((#[]:Array Value).push Value.none).pop).size<=sizeLine+1:=CK _;refine ko (ZAF (s:={ s with toks:=tk }) x rfl ?_ J H)
 have m:=E7 (Obj.mapSeq (·.push Value.none)) x rfl
 refine ZAF m rfl ?_ C G;have q:=E7 (Obj.mapSeq (·.pop)) m rfl
 refine mD ⟨ZAN jz _,g _ _ (λb o k e=>?_) q⟩;exact(DN _ _ (BP k)).trans ((DN _ _ (BP k)).trans e)
theorem tS(hh:A.handled=none)(Ai:l≠I)(n:items.size<=sizeLine)(S:Addr)(h:Ei s.heap I l ((items.size:Int) - 1))(p:IsTup s.heap l items)(HK:S≠I)(Jv:S≠l)
  (k:s.heap.get? S=some { cls:=.type "list", data:=.seq #[] })
  (hR:∀s' Bw c,Moved [S,I] (λa b=>b=a) s s'->s'.heap.get? S=some { cls:=.type "list", dict:=none,data:=.seq Bw c,slots:=#[] }->ItemsOf (λi v=>items[items.size - 1 - i]?=some v) Bw items.size->R (.ok (.ret .none)) s') :
  wpAny (model prog w) A.in1 (Builtin.«list.__init__» ⟨[.ref S,.ref I],[]⟩)
   (λfin s'=>match fin with | .done f=>R (.ok f) s' | .again c=>c.quiet=true/\codeAny (model prog w) A c R s') (λe s'=>R (.error e) s') s:=by
 show wpAny _ A.in1 (do let old <- Builtin.List.listItems (.ref S);Builtin.List.listUpdate (.ref S) (λ_=>#[]);letGo old.toList.reverse;Builtin.List.listExtendWith (.ref S) (.ref I) .none) _ _ s
 refine ko ?_;unfold Builtin.List.listItems;refine ko (wpAny_seqItems k rfl (mD ?_));show wpAny _ A.in1 (updateSeq S (λ_=>#[]) >>= λ_=>letGo (#[]:Array Value).toList.reverse >>= λ_=>Builtin.List.listExtendWith (.ref S) (.ref I) .none) _ _ s;refine ko (ZAF k rfl ?_);have j:=E7 (Obj.mapSeq (λ_=>(#[]:Array Value))) k rfl;have m:∀b o,b≠S->s.heap.get? b=some o->(s.heap.update S (Obj.mapSeq (λ_=>(#[]:Array Value)))).get? b=some o:=
  λb o g e=>(DN _ _ (BP g)).trans e
 refine ko (wpAny_letGo ?_);refine uf hh Ai n S .none _ (h.at λo e=>m I o (BP HK) e) (let ⟨o,ho,r⟩:=p;⟨o,m l o (BP Jv) ho,r⟩) HK Jv j λs' Bw c d CA B5=>?_;exact hR s' Bw c ⟨λb o g e=>d.heap b o g (m b o (λz=>g (by simp[z])) e),d.gens,d.drawn,d.os,d.toks⟩ CA B5
theorem yp(hh:A.handled=none)(Ai:l≠I)(j:items.size<=sizeLine)(c:Ei s.heap I l ((items.size:Int) - 1))(g:IsTup s.heap l items)
  (m:∀s' Bw d,Moved [s.heap.objs.size,I] (λa b=>b=a) { s with heap:=s.heap.push { cls:=.type "list", data:=.seq #[] } } s'->
   s'.heap.get? s.heap.objs.size=some { cls:=.type "list", dict:=none,data:=.seq Bw d,slots:=#[] }->ItemsOf (λi v=>items[items.size - 1 - i]?=some v) Bw items.size->Q (.ref s.heap.objs.size) s') :
  wpAny (model prog w) A (call (.type "list") [.ref I]) Q E s:=by
 have p:s.heap.objs.size≠I:=by obtain⟨o,ho,_⟩:=c;exact Im (B9 ho)
 have n:s.heap.objs.size≠l:=Im g.lt;refine callType_codes (Q₁:=λobj f=>obj=.ref s.heap.objs.size/\f={ s with heap:=s.heap.push { cls:=.type "list", data:=.seq #[] } }) F.called_list (F.typeCall_list_1 _) F.entry_list_init
  (code_list_new _ ⟨rfl,rfl⟩) λobj f h₁=>?_
 obtain⟨rfl,rfl⟩:=h₁;have h:(s.heap.push { cls:=.type "list", data:=.seq #[] }).get? s.heap.objs.size=some { cls:=.type "list", data:=.seq #[] }:=BY _ rfl;refine⟨⟨_,h,rfl⟩,F.args_list_init_2 _ _,tS (A:=A.in1) hh Ai j _ (c.at λo e=>BE _ e) (g.push _) p n h λs' Bw d k CA B5=>?_⟩;exact⟨rfl,m s' Bw d k CA B5⟩
end L2
namespace HT
variable{E Q:Value->Shared->Prop}
section
variable{prog:Program}{w:World}{A:Around}{s:Shared}
theorem qO{t sl:Addr}{items:Array Value}{vl vu:Value}{lo hi:Option Int}(a:IsTup s.heap t items)(c:s.heap.IsSliceOf sl vl vu .none)(pl:IsPart vl lo)(d:IsPart vu hi)
  (hw:Ax items.size 0 lo=0/\Ax items.size items.size hi=items.size) (h:Q (.ref t) s):wpAny (model prog w) A (getItem (.ref t) (.ref sl)) Q E s:=by
 obtain⟨os,KS,Pp,OG⟩:=id c;have e:s.TypeIs (.ref sl) "slice" := ⟨os,KS,Pp⟩;unfold getItem
 try with_reducible refine tL ?_
 first|refine ko (mD ?_)|skip
 refine ko (wpAny_sequenceKey a.typeIs (by decide) ?_);refine ko (tj (name:=Str.ofString "__getitem__") a.typeIs Z7
  (sC Z7 a.typeIs entry_tuple_getitem ?_ (args_tuple_getitem _ _)))
 show wpAny _ _ (Builtin.Tuple.tupleItemsOf (.ref t) >>= _) _ _ s;refine ko (tupleItemsOf_ a ?_);refine ko (ZAA e ?_);rw[o9 (by decide)];refine ko (bT c pl d ?_);have b:((((Ax items.size 0 lo:Nat):Int) == 0 && (1:Int) == 1 && (Ax items.size items.size hi - Ax items.size 0 lo) == items.size)=true):=by
  rw[hw.1,hw.2];simp
 first
 |rw[o9 b]
 |simp only[b,ZAm]
 refine ko ?_;unfold Builtin.Tuple.tupleIsExact;refine ko (ZAA a.typeIs (mD ?_));rw[o9 (by decide)];exact ko (ZAR (mD ⟨_,rfl,mD h⟩))
end
end HT
namespace L2
variable{X:Cx}{A5 vs:List Value}{acc items ps:Array Value}{e:Int×Value}{t:SetTable}{prog:Program}{w:World}{h':Heap}{I S a it:Addr}{ep i n nT nl pl sl:Nat}{A:Around}{E Q₁:Value->Shared->Prop}{s:Shared}{o oT:Obj}{es:Array (Int×Value)}{Q:Option Value->Shared->Prop}{α:Type}{f v x:Value}{AV ss:List Str}{Ze:ZGY}{Z:St}{H:Hp}
def jB(K:ZGX):V->Option Int->Option Int->Hp->VK->Prop:=λx lo hi H Q=>∃a xs,x=.ref a/\AN K H a xs/\
 ((HT.Ax xs.length 0 lo=0/\HT.Ax xs.length xs.length hi=xs.length)->Q (.ref a) H)/\(¬ (HT.Ax xs.length 0 lo=0/\HT.Ax xs.length xs.length hi=xs.length)->∀p,H p=none->Q (.ref p) (upd H p (.tup (CN xs lo hi))))
theorem ve:KU X (jB X.K):=by
 intro Ze s Z H x v vl vu lo hi sl Q I c f pl d h;obtain⟨a,xs,rfl,hx,i,g⟩:=h
 by_cases hw:HT.Ax xs.length 0 lo=0/\HT.Ax xs.length xs.length hi=xs.length
 .cases c;obtain⟨A5,r,e,j⟩:=I.tuple hx;have b:A5.toArray.size=xs.length:=by rw[Bv];exact r.length.symm
  refine⟨"tuple", _,PyProof.Rows.slot_tuple_getitem.lookup,e.typeIs,?_⟩;exact HT.qO e f pl d (by rw[b];exact hw) ⟨.ref a,H,I,rfl,i hw⟩
 .exact dk Ze s Z H _ v vl vu lo hi sl Q I c f pl d ⟨a,xs,rfl,hx,hw,g hw⟩
theorem xT{ys:List V}(r:Vals ys A5)(h:ItemsOf (λi v=>A5.toArray[A5.toArray.size - 1 - i]?=some v) acc A5.toArray.size):∃us:List Value,Vals ys.reverse us/\acc=us.toArray:=by
 have e:acc=A5.reverse.toArray:=by
  apply Array.toList_inj.mp;rw[List.toList_toArray];apply kC;intro i;have a:acc.size=A5.length:=by rw[h.1];simp
  by_cases hi:i<A5.length
  .have h1:acc.toList[i]?=some (acc[i]'(by omega)):=by simp
   have h2:=h.2 i (acc[i]'(by omega)) (by simp);rw[h1,ZF6 hi];simp at h2;rw[<- h2]
  .have h1:acc.toList[i]?=none:=SA (by simp;omega);have h2:A5.reverse[i]?=none:=SA (by simp;omega);rw[h1,h2]
 exact⟨A5.reverse,r.reverse,e⟩
def Tt(K:ZGX)(t:TA):TE:=λZ H Q=>t Z H λvs H1=>∃a tp ys,vs=[.ref a]/\DH K tp H1 a ys/\∀l,H1 l=none->Q (.ref l) (upd H1 l (.lst ys.reverse))
theorem jA{p1 p2 UG IS:Pos}{e:Expr}{t:TA}(G:X.calm=true)(G2:Gl X "list")(JS:X.mg "list"=none)(Kw:Gl X "reversed")(X7:X.mg "reversed"=none)(l:QA X [e] t)
  (F:starEach [e] X.env=[(false,eval e X.env)]:=by rfl) (RK:starEach [.Call (.Name "reversed" p2) [e] [] IS] X.env=[(false,eval (.Call (.Name "reversed" p2) [e] [] IS) X.env)]:=by rfl) :
  QE X (.Call (.Name "list" p1) [.Call (.Name "reversed" p2) [e] [] IS] [] UG) (Tt X.K t):=⟨by
 have l:=l.h;intro Ze s Z H Q I h;refine z5 (Ln I G2 JS (show bootBuiltins "list"=some (.type "list") by decide +kernel) ?_ (by decide) (by decide));refine Z6 ?_ RK rfl;rw[RK];show wpAny _ _ (spliced ((false,eval (.Call (.Name "reversed" p2) [e] [] IS) X.env)::[])) _ _ s;refine Calls.spliced_cons ?_;refine z5 (Ln I Kw X7 (show bootBuiltins "reversed"=some (.type "reversed") by decide +kernel) ?_ (by decide) (by decide));refine Z6 (Aj (l IS Ze s Z H _ I h) λus s1⟨vs,H1,I1,C,E⟩=>?_) F rfl;obtain⟨a,tp,ys,rfl,x,q⟩:=E;obtain⟨u,rfl,z⟩:=vals1 C;cases z;have fin:∀(A5:List Value)(D:Addr)(s2 s':Shared)(acc:Array Value)(c:Nat)(tk:Nat)(ob:Obj),Vals ys A5->ys.length<=sizeLine->D=s1.heap.objs.size->s2={ s1 with heap:=s1.heap.push ob,toks:=tk }->
   Moved [s2.heap.objs.size,D] (λa b=>b=a) { s2 with heap:=s2.heap.push { cls:=.type "list", data:=.seq #[] } } s'->s'.heap.get? s2.heap.objs.size=some { cls:=.type "list", dict:=none,data:=.seq acc c,slots:=#[] }->
   ItemsOf (λi v=>A5.toArray[A5.toArray.size - 1 - i]?=some v) acc A5.toArray.size->EP X Ze Z Q (.ref s2.heap.objs.size) s':=by
  intro A5 D s2 s' acc c tk ob r f N O d j B5;subst N;subst O;obtain⟨us,B,rfl⟩:=xT r B5;obtain⟨h',g',d',Tc,KN⟩:=s';have L:g'=s1.gens:=d.gens;have M:d'=s1.drawn:=d.drawn;have J:KN=s1.os:=d.os;subst L;subst M;subst J;have m:(s1.heap.push ob).objs.size=s1.heap.objs.size+1:=E8 ..;have kp:∀b o,s1.heap.get? b=some o->h'.get? b=some o:=λb o e=>by
   have k:=B9 e;refine d.heap b o ?_ (BE _ (BE _ e));show b∉[(s1.heap.push ob).objs.size,s1.heap.objs.size];rw[m];simp only[Cj,Bb,ZA1,not_or];exact⟨Bn (Jl k),Bn k⟩
  refine⟨.ref _,_,I1.laid (a:=(s1.heap.push ob).objs.size) (t':=Tc) kp (by rw[m];exact E9 _) (show CO X.prog X.w _ h' _ (.lst ys.reverse)from⟨by rw[Mf];exact f,us,c,B,j⟩),rfl,q _ (I1.AW.fresh (by show _<=_;rw[m];exact E9 _))⟩
 have hh:X.A.handled=none:=I1.ok.hd G;cases tp with
 |false=>
  obtain⟨A5,r,pl,f⟩:=I1.list x;have g:=r.length;refine call_reversed_list pl.isList ?_;refine jx ?_;obtain⟨o,n,ho,_⟩:=id pl;have y:=B9 ho;have p:a≠s1.heap.objs.size:=Bn y;have R:0<=A5.toArray.size/\Heap.IsRevIter (s1.heap.push (revObj a ((A5.toArray.size:Int) - 1))) s1.heap.objs.size a ((A5.toArray.size:Int) - 1 - ((0:Nat):Int))/\Heap.IsList (s1.heap.push (revObj a ((A5.toArray.size:Int) - 1))) a A5.toArray:=
   ⟨CK _,⟨_,BY _ rfl,rfl,by simp[revObj]⟩,pl.isList.push _⟩
  refine tZ (I:=s1.heap.objs.size) (s:={ s1 with heap:=s1.heap.push (revObj a ((A5.toArray.size:Int) - 1)) }) (Walks.listRev (prog:=X.prog) (w:=X.w) (A:=X.A.in1.in1) hh s1.heap.objs.size a p A5.toArray).toS (λi s st=>st.2.1.typeIs) R ?_ (by simp) ?_ (by simp;omega)
  .intro b k;show b<(s1.heap.push _).objs.size;rw[E8];rcases List.mem_cons.mp k with h|h
   .rw[h];exact Oe _
   .have:b=a:=by simpa using h
    rw[this];exact Jl y
  .intro s' acc c d j B5;exact fin A5 s1.heap.objs.size { s1 with heap:=s1.heap.push (revObj a ((A5.toArray.size:Int) - 1)) } s' acc c s1.toks (revObj a ((A5.toArray.size:Int) - 1)) r f rfl rfl d j B5
 |true=>
  obtain⟨A5,r,pl,f⟩:=I1.tuple x;have g:=r.length;have hn:=HI;have P:(A5.toArray.size:Int)<2 ^ 63:=by simp only[Bv];omega
  refine z6 P pl ?_;refine jx ?_;have p:a≠s1.heap.objs.size:=Bn pl.lt;refine yp (I:=s1.heap.objs.size) (s:={ s1 with heap:=s1.heap.push (O6 a ((A5.toArray.size:Int) - 1)),toks:=s1.toks+1+1 }) hh p (by simp;omega) ⟨_,BY _ rfl,rfl,rfl⟩ (pl.push _) ?_
  intro s' acc c d j B5;exact fin A5 s1.heap.objs.size { s1 with heap:=s1.heap.push (O6 a ((A5.toArray.size:Int) - 1)),toks:=s1.toks+1+1 } s' acc c (s1.toks+1+1) (O6 a ((A5.toArray.size:Int) - 1)) r f rfl rfl d j B5⟩
theorem ZAw(t:SetTable)(n:Nat):(t.orStandIn n).led=t.led:=by unfold SetTable.orStandIn;split <;> rfl
theorem nV(t:SetTable)(es:Array (Int×Value))(h:Int)(x:Value):(layNew t es h x).2.1.led=t.led:=by
 unfold layNew;split
 .show(SetTable.orStandIn (t.put _).1 _).led=t.led;rw[ZAw];rfl
 .rfl
theorem zG{mask b c:Nat}{led a:Bool}{d:Array Int}{p:SetTable×Array Nat}(h:SetTable.laid mask b c led a d=some p):p.1.led=led/\p.1.plain=a:=by
 unfold SetTable.laid at h;cases e:SetTable.layClean mask d with
 |none=>rw[e]at h;cases h
 |some ow=>rw[e]at h;cases h;exact⟨rfl,rfl⟩
theorem yz(t:SetTable)(es:Array (Int×Value))(n:Nat)(a:t.plain=false):(relayAll t es n).2.1.led=t.led/\(relayAll t es n).2.1.plain=false:=by
 unfold relayAll;split
 .next t' order hr=>
  have q:=zG (p:=(t',order)) hr;dsimp only at q ⊢;split
  .exact⟨q.1,q.2.trans a⟩
  .exact⟨rfl,rfl⟩
 .exact⟨rfl,rfl⟩
noncomputable def CB(w:World):Bool:=w.params.followText "set-order"
def BJ(prog:Program)(w:World)(h:Heap)(a:Addr)(S:Str->Bool)(n:Nat):Prop:=
 ∃o es ep t,h.get? a=some o/\o.ExactSet/\o.data=.set es ep t/\ElemsOf (PySem.strKind prog w) es.toList/\(∀k,S k=true↔∃e∈es.toList,(PySem.strKind prog w).is k e.2=true)/\
  es.size<scanBound/\t.fits es.size=true/\es.size=n/\(t.led=!CB w)/\(0<es.size->t.plain=false)
theorem BJ.keep{h:Heap}{S:Str->Bool}(x:BJ prog w h a S n)(k:∀o,h.get? a=some o->h'.get? a=some o):BJ prog w h' a S n:=by
 obtain⟨o,es,ep,t,ho,r⟩:=x;exact⟨o,es,ep,t,k o ho,r⟩
theorem BJ.congr{h:Heap}{S S':Str->Bool}{b:Nat}(x:BJ prog w h a S n)(e:∀k,S k=S' k)(m:n=b):BJ prog w h a S' b:=by
 obtain⟨o,es,ep,t,h1,h2,l,j,i,g,f,d,c⟩:=x;exact⟨o,es,ep,t,h1,h2,l,j,λk=>by rw[<- e k];exact i k,g,f,d.trans m,c⟩
theorem K6{h:Heap}(ho:h.get? a=some o)(hd:o.data=.set es ep t)(Bs:Array (Int×Value))(t':SetTable):
  (h.update a (Obj.putSet Bs t')).get? a=some { o with data:=.set Bs (ep+1) t' }:=by
 have q:=E7 (Obj.putSet Bs t') ho (by rw[putSet_of Bs t' hd];rfl);rw[q,putSet_of Bs t' hd]
theorem BJ.put{S:Str->Bool}{k:Str}{tk:Tok}{Q:Bool->Shared->Prop}(Y:BJ prog w s.heap a S n)(Mn:n+1<scanBound)
  (h:∀h',Heap.SameBut a s.heap h'->BJ prog w h' a (λc=>S c || decide (c=k)) (if S k then n else n+1)->Q (!S k) { s with heap:=h' }) :
  wpAny (model prog w) A (setAddHashed a (.str k tk) ((PySem.strKind prog w).hash k)) Q E s:=by
 obtain⟨o,es,ep,t,ho,f,hd,CZ,Cq,H,p,hn,Dw,BF⟩:=Y;have B:(PySem.strKind prog w).is k (.str k tk)=true:=Z9 prog w k tk;have y:(Value.str k tk).scannable=true:=rfl;have rm:es.size+1<scanBound:=by rw[hn];exact Mn
 have I:∀(b:Bool)(s1:Shared)(Q1:Unit->Shared->Prop),Q1 () s1->wpAny (model prog w) A (match b with|true=>rule "set.scan.the-table-gave-way" |false=>pure ()) Q1 E s1:=by
  intro b s1 Q1 q;cases b
  .exact mD q
  .exact ZAR q
 unfold setAddHashed setAddHashedIn;refine tL ?_;refine ko (qg ho hd p ?_);dsimp only;rw[byScan_of y H CZ];simp only[↓reduceIte];unfold setAddByScan;refine ko ?_;refine ko (ZAR ?_);refine ko (wpAny_setScan_of B ho hd p CZ ?_);cases G:List.findIdx? (λe=>(PySem.strKind prog w).is k e.2) es.toList with
 |some j=>
  dsimp only;obtain⟨X,Rt,_⟩:=List.findIdx?_eq_some_iff_getElem.mp G;have g:S k=true:=(Cq k).mpr ⟨es.toList[j],Ik X,Rt⟩;refine mD ?_;refine mD ?_;have q:=h s.heap (Ry a s.heap) ⟨o,es,ep,t,ho,f,hd,CZ,λc=>by
   rw[<- Cq c,Bool.or_eq_true,oE];exact⟨λz=>z.elim id λe=>e▸g,Or.inl⟩,H,p,by rw[o9 g];exact hn,Dw,BF⟩
  rw[g]at q;exact q
 |none=>
  dsimp only;have g:S k=false:=by
   cases e:S k with
   |false=>rfl
   |true=>
    obtain⟨x,hx,W⟩:=(Cq k).mp e;have q:=List.findIdx?_eq_none_iff.mp G x hx;rw[W]at q;exact Bool.noConfusion q
  have p1:=layNew_perm t es ((PySem.strKind prog w).hash k) (.str k tk);have f1:=layNew_fits t es ((PySem.strKind prog w).hash k) (.str k tk);have l1:=nV t es ((PySem.strKind prog w).hash k) (.str k tk);generalize layNew t es ((PySem.strKind prog w).hash k) (.str k tk)=L at p1 f1 l1 ⊢;obtain⟨Cb,t1,P,gv⟩:=L;dsimp only at p1 f1 l1 ⊢;rw[ZEt]at p1;have N:ElemsOf (PySem.strKind prog w) Cb.toList:=(CZ.push B y).perm p1;have U:∀c,(S c || decide (c=k))=true↔∃e∈Cb.toList,(PySem.strKind prog w).is c e.2=true:=mem_push_iff B Cq p1;have D:Cb.size=n+1:=by rw[<- Dm,p1.length_eq,Bi,Dm,hn];rfl
  have K:Cb.size<scanBound:=by rw[D];exact Mn
  have fin:∀(h':Heap)(o':Obj)(Bs:Array (Int×Value))(Ip:Nat)(t':SetTable),Heap.SameBut a s.heap h'->h'.get? a=some o'->o'.ExactSet->o'.data=.set Bs Ip t'->Bs.toList.Perm Cb.toList->t'.fits Bs.size=true->t'.led=t.led->t'.plain=false->
    Q true { s with heap:=h' }:=by
   intro h' o' Bs Ip t' R go xo d' i ff V T;have C:Bs.size=n+1:=by rw[<- D,<- Dm,i.length_eq,Dm]
   have q:=h h' R ⟨o',Bs,Ip,t',go,xo,d',N.perm i,λc=>(U c).trans ⟨λ⟨e,u,q⟩=>⟨e,i.mem_iff.mpr u,q⟩,λ⟨e,u,q⟩=>⟨e,i.mem_iff.mp u,q⟩⟩,by rw[C];exact Mn,ff,by rw[g];exact C,V.trans Dw,λ_=>T⟩;rw[g]at q;exact q
  have d:∀(t2:SetTable),t2.fits Cb.size=true->t2.led=t.led->t2.plain=false->wpAny (model prog w) A (do
    storeSet a Cb t2
    if(
      !P && t2.tooFull)=true then do
      (match(relayAll t2 Cb (SetTable.grown Cb.size)).2.2 with|true=>rule "set.scan.the-table-gave-way" |false=>pure ())
      storeSet a (relayAll t2 Cb (SetTable.grown Cb.size)).1 (relayAll t2 Cb (SetTable.grown Cb.size)).2.1
      pure (some true)
     else pure (some true)) (λr s'=>match r with|some b=>Q b s'|none=>False) E s:=by
   intro t2 σ l2 J;refine ko (ZA2 ho hd ?_ (ZA4 K));have m:=K6 ho hd Cb t2;have M:=HE s.heap a (Obj.putSet Cb t2);split
   .have p3:=relayAll_perm t2 Cb (SetTable.grown Cb.size);have v:=relayAll_fits t2 Cb (SetTable.grown Cb.size);have l:=yz t2 Cb (SetTable.grown Cb.size) J;generalize relayAll t2 Cb (SetTable.grown Cb.size)=Rl at p3 v l ⊢;obtain⟨GI,F,g3⟩:=Rl;dsimp only at p3 v l ⊢;have O:GI.size=Cb.size:=by rw[<- Dm,p3.length_eq,Dm]
    refine ko (I _ _ _ ?_);refine ko (ZA2 m rfl ?_ (ZA4 (by rw[O];exact K)));refine mD ?_;exact fin _ _ GI _ F (M.trans (HE _ a _)) (K6 m rfl GI F) f rfl p3 v (l.1.trans l2) l.2
   .exact mD (fin _ _ Cb _ t2 M m f rfl (Ij _) σ l2 J)
  refine ko (I _ _ _ ?_);split
  .next aD=>
   refine ko ?_;rw[hashByValue_scannable 8 y];refine mD ?_;refine rD (d { t1 with plain:=false } (SetTable.fits_plain_off f1) l1 rfl) (λr s' q=>?_) λ_ _ e=>e
   cases r with
   |none=>exact q.elim
   |some b=>exact mD q
  .next aD=>
   refine ko (mD ?_);simp only[↓reduceIte];refine rD (d t1 f1 l1 (by simpa using aD)) (λr s' q=>?_) λ_ _ e=>e
   cases r with
   |none=>exact q.elim
   |some b=>exact mD q
theorem Vd{α:Type}:∀(l:List α)(i:Nat)(h:i<l.length),(l[i]::l.eraseIdx i).Perm l
 |_::_,0,_=>Ij _
 |x::r,i+1,h=>(List.Perm.swap x (r[i]'(by simpa using h)) (r.eraseIdx i)).trans ((Vd r i (by simpa using h)).cons x)
theorem ZBM(nx:Nat->Nat):∀(n k:Nat)(l:List α)(out:Array α),l.length=n->(pickOrder.go nx n k l out).toList.Perm (out.toList++l):=by
 intro n
 induction n with
 |zero=>
  intro k l out b;rw[List.length_eq_zero_iff.mp b];unfold pickOrder.go;simp
 |succ n c=>
  intro k l out b;have a:nx k % l.length<l.length:=Z3 _ (by omega);unfold pickOrder.go;rw[C4 a];dsimp only;refine(c _ _ _ (by rw[ZF8 a];omega)).trans ?_;rw[ZEt,C3];exact List.Perm.append_left _ (Vd l _ a)
theorem Rq(nx:Nat->Nat)(xs:Array α):(pickOrder nx xs).toList.Perm xs.toList:=by
 have q:=ZBM nx xs.size 0 xs.toList #[] (by simp)
 simpa[pickOrder]using q
theorem mM{a:Source}{Q:Nat->Shared->Prop}(hn:n≠0)(h:∀k d,k<n->Q k { s with drawn:=d }):wpAny (model prog w) A (choose a n) Q E s:=by
 intro Γ p hΓ;show Sem.wp _ _ (.choose a n .pure) _ _ _ _;rw[Sem.wp_choose];refine⟨hn,?_⟩;rw[Sem.wp_pure];exact h _ _ (Z3 _ (Nat.pos_of_ne_zero hn))
theorem qa:∀(n:Nat)(xs:List α)(s:Shared)(Q:List α->Shared->Prop),xs.length<=n->(∀ys d,ys.Perm xs->Q ys { s with drawn:=d })->wpAny (model prog w) A (drawOrder n xs) Q E s:=by
 intro n
 induction n with
 |zero=>
  intro xs s Q a h;rw[List.length_eq_zero_iff.mp (Nat.le_zero.mp a)]at h ⊢;exact mD (h [] s.drawn (Ij _))
 |succ n c=>
  intro xs s Q a h;cases xs with
  |nil=>exact mD (h [] s.drawn (Ij _))
  |cons x r=>
   unfold drawOrder;refine ko (mM (by simp) λk d b=>?_);rw[C4 b];dsimp only;refine ko (c _ _ _ (by rw[ZF8 b];simp only[CG]at a ⊢;omega) λys d' e=>?_);exact mD (h _ d' ((e.cons _).trans (Vd (x::r) _ b)))
theorem xm{Q:Bool->Shared->Prop}(ho:s.heap.get? a=some o)(hd:o.data=.set es ep t)(b:t.fits es.size=true)
  (h:Q (!CB w && (!t.plain && decide (es.size > 1))) s):wpAny (model prog w) A (setDrawn a) Q E s:=by
 unfold setDrawn;refine ko (qg ho hd b ?_);dsimp only;unfold setsByText;refine ko (ko (wL (mD ?_)));exact mD h
theorem fM{Q:Option (Value×Nat)->Shared->Prop}(d:CB w=true)(ho:s.heap.get? a=some o)(hd:o.data=.set es ep t)(b:t.fits es.size=true)
  (h:Q (((pickOrder (w.params.setOrder a ep) es)[i]?).map λe=>(e.2,sl)) s):wpAny (model prog w) A (setNext a sl i ep) Q E s:=by
 have c:w.params.followText "set-order"=true:=d;unfold setNext;refine ko (qg ho hd b ?_);dsimp only;unfold setsByText;refine ko (ko (wL (mD ?_)));show wpAny _ _ (if w.params.followText "set-order"=true then _ else _) _ _ _
 rw[o9 c,mL (by simp)];refine ko ?_;unfold setWalk setsByText;refine ko (qg ho hd b ?_);dsimp only;refine ko (ko (wL (mD ?_)));show wpAny _ _ (if w.params.followText "set-order"=true then _ else _) _ _ _
 rw[o9 c];exact ko (wL (mD (mD h)))
theorem aH{Q:Option (Value×Nat)->Shared->Prop}(d:CB w=false)(ho:s.heap.get? a=some o)(hd:o.data=.set es ep t)(c:t.fits es.size=true)
  (h1:es.size<=1) (b:t.led=true)
  (h:Q (match es[SetTable.below t.place sl]?,t.place[SetTable.below t.place sl]? with|some (_,x),some j=>some (x,j+1)|_,_=>none) s):wpAny (model prog w) A (setNext a sl i ep) Q E s:=by
 have e:w.params.followText "set-order"=false:=d;unfold setNext;refine ko (qg ho hd c ?_);dsimp only;unfold setsByText;refine ko (ko (wL (mD ?_)));show wpAny _ _ (if w.params.followText "set-order"=true then _ else _) _ _ _
 rw[mL (by rw[e];decide)];show wpAny _ _ (if(!t.plain && decide (es.size > 1))=true then _ else _) _ _ _
 rw[mL (by rw[p6 (by omega)];simp)];refine ko (m:=_) ?_
 wp_delta
 rw[b];exact mD (mD h)
theorem qZ{Q:Value->Shared->Prop}(ho:s.heap.get? a=some o)(hd:o.data=.set es ep t)(b:t.fits es.size=true)(c:es[pl]?=some e)
  (h:Q e.2 s):wpAny (model prog w) A (setNextDrawn a pl ep) Q E s:=by
 unfold setNextDrawn;refine ko (qg ho hd b ?_);dsimp only;rw[mL (by simp),c];exact mD h
theorem bf:Manifest.owners.lookup (String.ofList ['r','o','t','a','r','e','t','i','_','t','e','s'].reverse)=some Manifest.sig_set_iterator:=by kernel_rfl
theorem Gf:Slot "set_iterator" "__next__" "set_iterator.__next__" :=
 .of (owner:="set_iterator") (n:="__next__") (by rw[uV,qc];kernel_rfl) (by decide +kernel) (by decide +kernel) (by decide +kernel)
  (by first|exact .inl (by decide +kernel)|exact .inr (by decide +kernel)) (by rw[sF];kernel_rfl)
theorem PQ:entryFor table "set_iterator.__next__"=some Builtin.«set_iterator.__next__»:=ZBB (by kernel_rfl)
theorem PN(a:Value):argsOk "set_iterator.__next__" ⟨[a],[]⟩:=by
 unfold argsOk;rw[ZAZ (id:="set_iterator.__next__") (n:=['_','_','t','x','e','n','_','_']) (o:=['r','o','t','a','r','e','t','i','_','t','e','s']) (by kernel_rfl) bf];kernel_rfl
theorem aF:Slot "set_iterator" "__iter__" "set_iterator.__iter__" :=
 .of (owner:="set_iterator") (n:="__iter__") (by rw[uV,qc];kernel_rfl) (by decide +kernel) (by decide +kernel) (by decide +kernel)
  (by first|exact .inl (by decide +kernel)|exact .inr (by decide +kernel)) (by rw[sF];kernel_rfl)
theorem lP(a:Value):argsOk "set_iterator.__iter__" ⟨[a],[]⟩:=by
 unfold argsOk;rw[ZAZ (id:="set_iterator.__iter__") (n:=['_','_','r','e','t','i','_','_']) (o:=['r','o','t','a','r','e','t','i','_','t','e','s']) (by kernel_rfl) bf];kernel_rfl
theorem tU:entryFor table "set_iterator.__iter__"=some Builtin.«dict_keyiterator.__iter__»:=
 ZAj (id' := "dict_keyiterator.__iter__") (by kernel_rfl) (by first|rfl|decide +kernel|(unfold String.splitOn;simp +decide [String.splitOnAux])) (by decide +kernel) (by kernel_rfl)
theorem nH:entryFor table "set.__iter__"=some Builtin.«frozenset.__iter__»:=
 ZAj (id' := "frozenset.__iter__") (by kernel_rfl) (by first|rfl|decide +kernel|(unfold String.splitOn;simp +decide [String.splitOnAux])) (by decide +kernel) (by kernel_rfl)
noncomputable def IK(f:Value)(i:Nat)(S:Addr)(n ep:Nat):Array Value:=#[f,rawInt (i:Int),.ref S,rawInt (n:Int),rawInt (ep:Int)]
def Ek(h:Heap)(I:Addr)(f:Value)(i:Nat)(S:Addr)(n ep:Nat):Prop:=∃o,h.get? I=some o/\o.cls=.type "set_iterator" /\ o.data=.fields (IK f i S n ep)
theorem Ek.typeIs(x:Ek s.heap I f i S n ep):s.TypeIs (.ref I) "set_iterator" := let ⟨o,ho,hc,_⟩:=x;⟨o,ho,hc⟩
theorem Ek.at{h:Heap}(x:Ek h I f i S n ep)(e:∀o,h.get? I=some o->h'.get? I=some o):Ek h' I f i S n ep:=let ⟨o,ho,r⟩:=x;⟨o,e _ ho,r⟩
theorem eB{Q:α->Shared->Prop}{F:Value->Shared->Prop}(hh:A.handled=none)
  (c:∀e h',(∀b o,s.heap.get? b=some o->h'.get? b=some o)->(Shared.TypeIs { s with heap:=h' } e "StopIteration")->F e { s with heap:=h' }) :
  wpAny (model prog w) A (newExc (.type "StopIteration") [] >>= λe=>raiseNew e) Q F s:=by
 refine ko ?_;simp only[newExc,newTuple];refine ko (qm ?_ (by size_fits));refine ko (m:=firstArgMember _ _) (sj (a:=Value.none) (by first|rfl|(simp only[firstArgMember];rfl)) ?_)
 refine qm ?_ (by size_fits);simp only[raiseNew];refine ko (wpAny_handled ?_);rw[hh];refine ko (mD (wpAny_throw ?_));exact c _ _ (λb o e=>BE _ (BE _ e)) ⟨_,BY _ rfl,rfl⟩
theorem ZQ{nx:Nat}(b:Ek s.heap it (rawInt (sl:Int)) i S n ep)
  (ho:s.heap.get? S=some o) (hd:o.data=.set es ep t) (e:t.fits es.size=true) (hn:es.size=n)
  (UX:∀(A1:Around)(E1:Value->Shared->Prop)(Q1:Option (Value×Nat)->Shared->Prop),Q1 (some (x,nx)) s->wpAny (model prog w) A1 (setNext S sl i ep) Q1 E1 s)
  (g:∀h',Ek h' it (rawInt (nx:Int)) (i+1) S n ep->Heap.SameBut it s.heap h'->Q (some x) { s with heap:=h' }):wpAny (model prog w) A (pyNext (.ref it)) Q E s:=by
 obtain⟨h,FC,f,Dy⟩:=id b;subst hn;unfold pyNext;refine ko (ZAE (tj (name:=Str.ofString "__next__") b.typeIs Gf
  (sC Gf b.typeIs PQ ?_ (PN _))))
 unfold Builtin.«set_iterator.__next__»;refine ko (sj (a:=(Value.ref it,[])) rfl ?_)
 try dsimp only
 refine ko (ZAh FC Dy ?_);show wpAny _ _ (setEntries S >>= _) _ _ s;refine ko (ZA8 ho hd e ?_);rw[mL (by simp)];show wpAny _ _ (setNext S sl i ep >>= _) _ _ s;refine ko (UX _ _ _ ?_);dsimp only;refine ko (vx FC Dy (by simp[IK]) ?_);have d:=E7 (λob=>Obj.mapFields (·.setIfInBounds 0 (rawInt (nx:Int))) ob) FC (LF (FT Dy _))
 have c:=FT Dy (·.setIfInBounds 0 (rawInt (nx:Int)))
 refine ko (vx (s:={ s with heap:=_ }) d c (by simp[IK]) ?_)
 refine mD ⟨x,rfl,mD (g _ ⟨_,E7 _ d (LF (FT c _)),?_,?_⟩ ((HE ..).trans (HE ..)))⟩
 .exact(SJ ..).trans ((SJ ..).trans f)
 .rw[FT c];simp[IK]
theorem gc(hh:A.handled=none)(c:Ek s.heap it (rawInt (sl:Int)) i S n ep)
  (ho:s.heap.get? S=some o) (hd:o.data=.set es ep t) (d:t.fits es.size=true) (hn:es.size=n)
  (UX:∀(A1:Around)(E1:Value->Shared->Prop)(Q1:Option (Value×Nat)->Shared->Prop),Q1 none s->wpAny (model prog w) A1 (setNext S sl i ep) Q1 E1 s)
  (h:∀h',Heap.ExtBut it s.heap h'->Q none { s with heap:=h' }):wpAny (model prog w) A (pyNext (.ref it)) Q E s:=by
 obtain⟨j,FC,l,Dy⟩:=id c;subst hn;unfold pyNext;refine ko (ZAE (tj (name:=Str.ofString "__next__") c.typeIs Gf
  (sC Gf c.typeIs PQ ?_ (PN _))))
 unfold Builtin.«set_iterator.__next__»;refine ko (sj (a:=(Value.ref it,[])) rfl ?_)
 try dsimp only
 refine ko (ZAh FC Dy ?_);show wpAny _ _ (setEntries S >>= _) _ _ s;refine ko (ZA8 ho hd d ?_);rw[mL (by simp)];show wpAny _ _ (setNext S sl i ep >>= _) _ _ s;refine ko (UX _ _ _ ?_);dsimp only;refine ko (vx FC Dy (by simp[IK]) ?_);refine eB (A:=A.in1) hh λe h' k g=>?_;refine ko (xi (T:="StopIteration") (b:=true) g ZBR ?_);refine mD (h _ (λb ob f e=>?_));exact k b ob ((DN _ _ (BP f)).trans e)
theorem ZCh{T:Addr}(b:Ek s.heap it (.ref T) i S n ep)
  (ho:s.heap.get? S=some o) (hd:o.data=.set es ep t) (c:t.fits es.size=true) (hn:es.size=n) (h:s.heap.get? T=some oT) (EZ:oT.data=.seq ps nT) (d:ps[i]?=some (rawInt (pl:Int))) (f:es[pl]?=some e)
  (j:∀h',Ek h' it (.ref T) (i+1) S n ep->Heap.SameBut it s.heap h'->Q (some e.2) { s with heap:=h' }):wpAny (model prog w) A (pyNext (.ref it)) Q E s:=by
 obtain⟨k,FC,g,Dy⟩:=id b;subst hn;unfold pyNext;refine ko (ZAE (tj (name:=Str.ofString "__next__") b.typeIs Gf
  (sC Gf b.typeIs PQ ?_ (PN _))))
 unfold Builtin.«set_iterator.__next__»;refine ko (sj (a:=(Value.ref it,[])) rfl ?_)
 try dsimp only
 refine ko (ZAh FC Dy ?_);show wpAny _ _ (setEntries S >>= _) _ _ s;refine ko (ZA8 ho hd c ?_);rw[mL (by simp)];show wpAny _ _ (seqItems? (.ref T) >>= _) _ _ s;refine ko ?_;unfold seqItems?;refine ko (ZBI h ?_);rw[EZ];refine mD ?_;show wpAny _ _ (match ps[i]? with|some (.int place _)=>_|some _=>_|none=>_) _ _ s
 rw[d];show wpAny _ _ (setNextDrawn S pl ep >>= _) _ _ s;refine ko (qZ ho hd c f ?_);refine ko (vx FC Dy (by simp[IK]) ?_);refine mD ⟨e.2,rfl,mD (j _ ⟨_,E7 _ FC (LF (FT Dy _)),?_,?_⟩ (HE ..))⟩
 .exact(SJ ..).trans g
 .rw[FT Dy];simp[IK]
theorem pL{T:Addr}(hh:A.handled=none)(c:Ek s.heap it (.ref T) i S n ep)
  (ho:s.heap.get? S=some o) (hd:o.data=.set es ep t) (j:t.fits es.size=true) (hn:es.size=n) (d:s.heap.get? T=some oT) (EZ:oT.data=.seq ps nT) (h:ps[i]?=none)
  (l:∀h',Heap.ExtBut it s.heap h'->Q none { s with heap:=h' }):wpAny (model prog w) A (pyNext (.ref it)) Q E s:=by
 obtain⟨p,FC,q,Dy⟩:=id c;subst hn;unfold pyNext;refine ko (ZAE (tj (name:=Str.ofString "__next__") c.typeIs Gf
  (sC Gf c.typeIs PQ ?_ (PN _))))
 unfold Builtin.«set_iterator.__next__»;refine ko (sj (a:=(Value.ref it,[])) rfl ?_)
 try dsimp only
 refine ko (ZAh FC Dy ?_);show wpAny _ _ (setEntries S >>= _) _ _ s;refine ko (ZA8 ho hd j ?_);rw[mL (by simp)];show wpAny _ _ (seqItems? (.ref T) >>= _) _ _ s;refine ko ?_;unfold seqItems?;refine ko (ZBI d ?_);rw[EZ];refine mD ?_;show wpAny _ _ (match ps[i]? with|some (.int place _)=>_|some _=>_|none=>_) _ _ s
 rw[h];dsimp only;refine ko (vx FC Dy (by simp[IK]) ?_);have g:=E7 (λob=>Obj.mapFields (·.setIfInBounds 0 (rawInt 0)) ob) FC (LF (FT Dy _))
 have m:=FT Dy (·.setIfInBounds 0 (rawInt 0))
 refine ko (vx (s:={ s with heap:=_ }) g m (by simp[IK]) ?_)
 refine eB (A:=A.in1) hh λe h' k d=>?_;refine ko (xi (T:="StopIteration") (b:=true) d ZBR ?_);refine mD (l _ (λb ob f e=>?_));exact k b ob ((DN _ _ (BP f)).trans ((DN _ _ (BP f)).trans e))
theorem UE{Q:Value->Shared->Prop}(a:Ek s.heap it f i S n ep)(h:Q (.ref it) s):wpAny (model prog w) A (pyIter (.ref it)) Q E s:=by
 refine ZAo a.typeIs aF (sC aF a.typeIs tU ?_ (lP _));show wpAny _ _ (ret (.ref it)) _ _ s;exact mD ⟨_,rfl, "set_iterator", _,a.typeIs,Gf.lookup,h⟩
theorem ZE2(a:CB w=true)(hh:A.handled=none)(I S:Addr)(Ai:S≠I)(hd:o.data=.set es ep t)(d:t.fits es.size=true):
  Walks prog w A I [I,S] [I] es.size (λi v=>((pickOrder (w.params.setOrder S ep) es).toList.map (·.2))[i]?=some v) (λi h=>Ek h I (rawInt ((0:Nat):Int)) i S es.size ep/\h.get? S=some o) where
 sub:=λb a=>by simp at a;simp[a]
 frame:=λ_ _ _ x j=>⟨x.1.at λo e=>j I (by simp) o e,j S (by simp) _ x.2⟩
 item:=λi s Q E hi x c=>by
  have l:(pickOrder (w.params.setOrder S ep) es).size=es.size:=by
   have q:=(Rq (w.params.setOrder S ep) es).length_eq
   simpa using q
  have k:i<(pickOrder (w.params.setOrder S ep) es).size:=by omega
  refine ZQ (x:=((pickOrder (w.params.setOrder S ep) es)[i]).2) (nx:=0) x.1 x.2 hd d rfl (λA1 E1 Q1 q=>fM a x.2 hd d (by rw[L8 k];exact q)) λh' Iu g=>?_;exact c _ h' s.toks (by rw[Bt,OX,L8 k];rfl) ⟨Iu,g.extBut S o Ai x.2⟩ λb ob a f=>g.extBut b ob (λh=>a (by simp[h])) f
 done:=λs Q E x c=>by
  have l:(pickOrder (w.params.setOrder S ep) es).size=es.size:=by
   have q:=(Rq (w.params.setOrder S ep) es).length_eq
   simpa using q
  refine gc hh x.1 x.2 hd d rfl (λA1 E1 Q1 q=>fM a x.2 hd d (by rw[ju (by omega)];exact q)) λh' m=>?_;exact c h' s.toks λb ob a f=>m b ob (λh=>a (by simp[h])) f
 self:=λ_ _ _ _ x c=>UE x.1 c
theorem Xh:∀(a:Array α),a.size=1->∃x,a=#[x]
 | ⟨[x]⟩,_=>⟨x,rfl⟩
 | ⟨[]⟩,h=>by simp at h
 | ⟨_::_::_⟩,h=>by simp at h
theorem nj(p:Nat):SetTable.below #[p] 0=0:=by simp[SetTable.below,SetTable.below.go]
theorem below_1(p:Nat):SetTable.below #[p] (p+1)=1:=by simp[SetTable.below,SetTable.below.go]
theorem Uu(h:t.fits n=true):t.place.size=n:=by
 simp only[SetTable.fits,CU,ZAV]at h;exact h.1
theorem wI(a:CB w=false)(hh:A.handled=none)(I S:Addr)(Ai:S≠I)(hd:o.data=.set es ep t)(c:t.fits es.size=true)(h1:es.size<=1)(n:t.led=true):
  Walks prog w A I [I,S] [I] es.size (λi v=>(es.toList.map (·.2))[i]?=some v) (λi h=>Ek h I (rawInt (((if i=0 then 0 else t.place.getD 0 0+1:Nat)):Int)) i S es.size ep/\h.get? S=some o) where
 sub:=λb a=>by simp at a;simp[a]
 frame:=λ_ _ _ x r=>⟨x.1.at λo e=>r I (by simp) o e,r S (by simp) _ x.2⟩
 item:=λi s Q E hi x d=>by
  obtain rfl:i=0:=by omega
  have z:es.size=1:=by omega
  have g:t.place.size=1:=(Uu c).trans z;obtain⟨e,rfl⟩:=Xh es z;obtain⟨p,f⟩:=Xh t.place g;have k:=x.1;refine ZQ (x:=e.2) (nx:=p+1) k x.2 hd c rfl (λA1 E1 Q1 q=>aH a x.2 hd c h1 n (by rw[f,o9 rfl,nj];exact q)) λh' Iu m=>?_;refine d _ h' s.toks rfl ⟨?_,m.extBut S o Ai x.2⟩ λb ob a l=>m.extBut b ob (λh=>a (by simp[h])) l;rw[mL (by omega),f];exact Iu
 done:=λs Q E x d=>by
  refine gc hh x.1 x.2 hd c rfl (λA1 E1 Q1 q=>aH a x.2 hd c h1 n ?_) λh' y=>?_
  .by_cases z:es.size=0
   .rw[ju (by omega)];exact q
   .have u:es.size=1:=by omega
    have g:t.place.size=1:=(Uu c).trans u;obtain⟨p,f⟩:=Xh t.place g;rw[mL z,f];show Q1 (match es[SetTable.below #[p] (p+1)]?,(#[p]:Array Nat)[SetTable.below #[p] (p+1)]? with|some (_,x),some j=>some (x,j+1)|_,_=>none) s
    rw[below_1,ju (by omega)];exact q
  .exact d h' s.toks λb ob a l=>y b ob (λh=>a (by simp[h])) l
 self:=λ_ _ _ _ x d=>UE x.1 d
theorem ZBS(hh:A.handled=none)(I S T:Addr)(Ai:S≠I)(u:T≠I)(hd:o.data=.set es ep t)(l:t.fits es.size=true){ps:List Nat}(f:ps.Perm (List.range es.size))(n:oT.data=.seq (ps.map λi:Nat=>rawInt i).toArray nT):
  Walks prog w A I [I,S,T] [I] es.size (λi v=>(ps.map λp=>(es[p]?.map (·.2)).getD .none)[i]?=some v) (λi h=>Ek h I (.ref T) i S es.size ep/\h.get? S=some o/\h.get? T=some oT) where
 sub:=λb a=>by simp at a;simp[a]
 frame:=λ_ _ _ x g=>⟨x.1.at λo e=>g I (by simp) o e,g S (by simp) _ x.2.1,g T (by simp) _ x.2.2⟩
 item:=λi s Q E hi x c=>by
  have y:ps.length=es.size:=by have q:=f.length_eq;simpa using q
  have k:i<ps.length:=by omega
  have r:ps[i]<es.size:=by
   have q:=f.mem_iff.mp (Ik k)
   simpa using q
  have m:es[ps[i]]?=some es[ps[i]]:=L8 r;refine ZCh (pl:=ps[i]) (e:=es[ps[i]]) x.1 x.2.1 hd l rfl x.2.2 n (by rw[ZF7,Bt,C4 k];rfl) m λh' Iu d=>?_;exact c _ h' s.toks (by rw[Bt,C4 k];simp only[SK,m,ZFQ]) ⟨Iu,d.extBut S o Ai x.2.1,d.extBut T oT u x.2.2⟩ λb ob a j=>d.extBut b ob (λh=>a (by simp[h])) j
 done:=λs Q E x c=>by
  have y:ps.length=es.size:=by have q:=f.length_eq;simpa using q
  refine pL hh x.1 x.2.1 hd l rfl x.2.2 n (by rw[ZF7,Bt,SA (by omega)];rfl) λh' z=>?_;exact c h' s.toks λb ob a j=>z b ob (λh=>a (by simp[h])) j
 self:=λ_ _ _ _ x c=>UE x.1 c
theorem qq(es:Array (Int×Value)):(List.range es.size).map (λp=>(es[p]?.map (·.2)).getD Value.none)=es.toList.map (·.2):=by
 refine kB (by simp) λi h1 h2=>?_;have hi:i<es.size:=by simpa using h1
 simp[L8 hi]
theorem ZBE{l:List (Int×Value)}(h:ElemsOf (PySem.strKind prog w) l):∃ts,StrsAre (l.map (·.2)) ts/\∀k,k∈ts↔∃e∈l,(PySem.strKind prog w).is k e.2=true:=by
 induction l with
 |nil=>exact⟨[],.nil,λk=>by simp⟩
 |cons e r c=>
  obtain⟨ts,h1,h2⟩:=c h.tail;obtain⟨⟨k,a,_⟩,_⟩:=h.head;obtain⟨tk,d⟩:=Mk a;refine⟨k::ts,?_,λb=>?_⟩
  .rw[ES,d];exact .cons k tk h1
  .rw[Cj,h2 b];constructor
   .rintro(rfl|⟨x,hx,q⟩)
    .exact⟨e,BZ,a⟩
    .exact⟨x,C5 _ hx,q⟩
   .rintro⟨x,hx,q⟩;rcases List.mem_cons.mp hx with rfl|hx
    .exact .inl ((PySem.strKind prog w).inj x.2 b k q a)
    .exact .inr ⟨x,hx,q⟩
theorem StrsAre.len:∀{vs:List Value}{ss:List Str},StrsAre vs ss->vs.length=ss.length
 |_,_,.nil=>rfl
 |_,_,.cons _ _ h=>by rw[CG,CG,StrsAre.len h]
theorem StrsAre.perm{EN:List Value}(h:StrsAre vs ss)(p:EN.Perm vs):∃AV,StrsAre EN AV/\AV.Perm ss:=by
 refine⟨EN.map strOf,strsAre_map EN λv a=>h.all v (p.mem_iff.mp a),?_⟩;rw[<- h.strs];exact p.map strOf
section
theorem vc{f:Str->Bool}{Q:Value->Shared->Prop}(H:BJ prog w s.heap S f n)
  (h:∀(I:Addr)(h1:Heap)(d:_)(fp:List Addr)(vs:List Value)(ts:List Str)(St:Nat->Heap->Prop),(∀A2:Around,A2.handled=none->Walks prog w A2 I fp [I] n (λi v=>vs[i]?=some v) St)->St 0 h1->(∀b∈fp,b=S∨s.heap.objs.size<=b/\b<h1.objs.size)->s.heap.objs.size<=I->s.heap.objs.size<=h1.objs.size->
   (∀b o,s.heap.get? b=some o->h1.get? b=some o)->StrsAre vs ts->ts.length=n->(∀k,f k=true↔k∈ts)->Q (.ref I) { s with heap:=h1,drawn:=d }):wpAny (model prog w) A (pyIter (.ref S)) Q E s:=by
 obtain⟨o,es,ep,t,ho,r,hd,CZ,Cq,G,c,hn,Dw,BF⟩:=H;subst hn;have y:s.TypeIs (.ref S) "set" := ⟨o,ho,r.1⟩;have u:S<s.heap.objs.size:=B9 ho;obtain⟨C,t1,t2⟩:=ZBE CZ;have fin:∀(I:Addr)(h1:Heap)(d:_)(fp:List Addr)(vs:List Value)(St:Nat->Heap->Prop),(∀A2:Around,A2.handled=none->Walks prog w A2 I fp [I] es.size (λi v=>vs[i]?=some v) St)->St 0 h1->(∀b∈fp,b=S∨s.heap.objs.size<=b/\b<h1.objs.size)->s.heap.objs.size<=I->s.heap.objs.size<=h1.objs.size->
   (∀b o,s.heap.get? b=some o->h1.get? b=some o)->vs.Perm (es.toList.map (·.2))->Q (.ref I) { s with heap:=h1,drawn:=d }:=by
  intro I h1 d fp vs St P O N M L K J;obtain⟨ts,D,x⟩:=StrsAre.perm t1 J;refine h I h1 d fp vs ts St P O N M L K D ?_ λk=>?_
  .rw[x.length_eq,<- StrsAre.len t1];simp
  .rw[Cq k,<- t2 k];exact x.mem_iff.symm
 refine ZAo y F.slot_set_iter (sC F.slot_set_iter y nH ?_ (F.args_set_iter_1 _));unfold Builtin.«frozenset.__iter__»;refine ko (sj (a:=S) rfl ?_);refine ko ?_;unfold Builtin.Frozenset.sizeOf;refine ko (ZA8 ho hd c (mD ?_));refine ko (xm ho hd c ?_)
 by_cases l:(!CB w && (!t.plain && decide (es.size > 1)))=true
 .rw[o9 l];refine ko ?_;refine qa es.size (List.range es.size) _ _ (by rw[SE];exact B4 _) λps d p=>?_;have pz:(ps.map λi:Nat=>rawInt i).length<=sizeLine:=by rw[Ae,p.length_eq,SE];exact ZA4 G
  refine ko (wpAny_newTuple ?_ pz);dsimp only;refine ko (ZAO (s:={ s with heap:=_,drawn:=d }) (BE _ ho) hd c ?_)
  refine ko (qm ?_);have g:∀(q:Obj)(b:Addr)(ob:Obj),s.heap.get? b=some ob->((s.heap.push (seqObj "tuple" (ps.map λi:Nat=>rawInt i).toArray 0)).push q).get? b=some ob:=λq b ob e=>BE _ (BE _ e);have j:(s.heap.push (seqObj "tuple" (ps.map λi:Nat=>rawInt i).toArray 0)).objs.size=s.heap.objs.size+1:=E8 ..;refine mD ⟨_,rfl, "set_iterator", _,⟨_,BY _ rfl,rfl⟩,Gf.lookup,?_⟩;refine fin _ _ d [(s.heap.push (seqObj "tuple" (ps.map λi:Nat=>rawInt i).toArray 0)).objs.size,S,s.heap.objs.size] _ _ (λA2 hh=>ZBS hh _ S s.heap.objs.size (by rw[j];exact Bn (Jl u)) (by rw[j];exact Bn (Oe _)) hd c p (oT:=seqObj "tuple" (ps.map λi:Nat=>rawInt i).toArray 0) rfl) ⟨⟨_,BY _ rfl,rfl,rfl⟩,g _ _ _ ho,BE _ (BY _ rfl)⟩ ?_ (by show s.heap.objs.size<=(s.heap.push (seqObj "tuple" (ps.map λi:Nat=>rawInt i).toArray 0)).objs.size;rw[j];exact E9 _) ?_ (g _) ?_
  .intro b Di;simp only[Cj,Bb,ZA1]at Di;rw[E8,j];rcases Di with rfl|rfl|rfl
   .right;rw[j];exact⟨E9 _,Oe _⟩
   .left;rfl
   .right;exact⟨B4 _,Jl (Oe _)⟩
  .rw[E8,j];exact kQ (E9 _)
  .rw[<- qq];exact p.map _
 .rw[mL l];refine ko (mD ?_);refine ko (ZAO ho hd c ?_);refine ko (qm ?_);have g:∀(q:Obj)(b:Addr)(ob:Obj),s.heap.get? b=some ob->(s.heap.push q).get? b=some ob:=λq b ob e=>BE _ e;refine mD ⟨_,rfl, "set_iterator", _,⟨_,BY _ rfl,rfl⟩,Gf.lookup,?_⟩;have B:∀(q:Obj),∀b∈[s.heap.objs.size,S],b=S∨s.heap.objs.size<=b/\b<(s.heap.push q).objs.size:=by
   intro q b Di;simp only[Cj,Bb,ZA1]at Di;rw[E8];rcases Di with rfl|rfl
   .right;omega
   .left;rfl
  cases m:CB w with
  |true=>
   refine fin _ _ s.drawn [s.heap.objs.size,S] _ _ (λA2 hh=>ZE2 m hh _ S (Bn u) hd c) ⟨⟨_,BY _ rfl,rfl,rfl⟩,g _ _ _ ho⟩ (B _) (B4 _) (by rw[E8];omega) (g _) ?_;exact(Rq _ _).map _
  |false=>
   have h1:es.size<=1:=by
    rw[m]at l
    by_cases z:es.size<=1
    .exact z
    .rw[BF (by omega),mG (by omega:es.size > 1)]at l;exact absurd rfl l
   refine fin _ _ s.drawn [s.heap.objs.size,S] _ _ (λA2 hh=>wI m hh _ S (Bn u) hd c h1 (by rw[Dw,m];rfl)) ⟨⟨_,BY _ rfl,rfl,rfl⟩,g _ _ _ ho⟩ (B _) (B4 _) (by rw[E8];omega) (g _) (Ij _)
theorem ZAe:typeLookup (.type "set") "__len__"=pure (some (.builtin "set.__len__")):=by rw[uV,qc];kernel_rfl
theorem wc{f:Str->Bool}{Q:List Value->Shared->Prop}(hh:A.handled=none)(v:BJ prog w s.heap S f n)(hn:n<=sizeLine)
  (h:∀(s':Shared)(vs:List Value)(ts:List Str),(∀b o,s.heap.get? b=some o->s'.heap.get? b=some o)->s.heap.objs.size<=s'.heap.objs.size->s'.gens=s.gens->s'.os=s.os->StrsAre vs ts->ts.length=n->(∀k,f k=true↔k∈ts)->Q vs s') :
  wpAny (model prog w) A (collect (.ref S)) Q E s:=by
 have U:S<s.heap.objs.size:=by obtain⟨o,_,_,_,ho,_⟩:=v;exact B9 ho
 have t:s.heap.objs.size≠S:=Im U;unfold collect;refine ko (ZBP (ZA6 F.entry_proto_collect ?_));rw[Rx F.plain_proto_collect _];show wpAny _ A.in1 (newList [] >>= λl=>again (.builtin "list.__iadd__" ⟨[l,.ref S],[]⟩)) _ _ s;refine ko (qm ?_);refine mD ⟨ZAN F.plain_list_iadd _,ZA6 F.entry_list_iadd ?_⟩;rw[Rx F.plain_list_iadd _];generalize x:({ cls:=.type "list", data:=.seq ([]:List Value).toArray }:Obj)=so;have B:BJ prog w (s.heap.push so) S f n:=v.keep λo e=>BE _ e;have j:(s.heap.push so).get? s.heap.objs.size=some so:=BY _ (by rw[<- x];rfl);have sz:(s.heap.push so).objs.size=s.heap.objs.size+1:=E8 ..;have G:Shared.TypeIs { s with heap:=s.heap.push so } (.ref S) "set" := by obtain⟨o,_,_,_,ho,g,_⟩:=B;exact⟨o,ho,g.1⟩
 have h1:Builtin.List.listSameRef (.ref s.heap.objs.size) (.ref S)=false:=by simp[Builtin.List.listSameRef,t]
 show wpAny _ A.in1 (Builtin.List.listExtendWith (.ref s.heap.objs.size) (.ref S) (.ref s.heap.objs.size)) _ _ { s with heap:=s.heap.push so }
 unfold Builtin.List.listExtendWith;refine ko (ZAA G ?_);rw[mL (by rw[h1];decide)];refine ko (vc (s:={ s with heap:=s.heap.push so }) B λI h2 d fp vs ts St W UC LP R ZGC kp Sy tl M=>?_)
 have C:s.heap.objs.size∉fp:=λc=>by
  rcases LP _ c with z|⟨z,_⟩
  .exact t z
  .have L:(s.heap.push so).objs.size<=s.heap.objs.size:=z;rw[sz]at L;omega
 have p:Shared.TypeIs { s with heap:=h2,drawn:=d } (.ref S) "set" := by obtain⟨o,ho,P⟩:=G;exact⟨o,kp _ _ ho,P⟩
 refine ko (tL ?_);unfold Builtin.List.listLengthHint;refine ko (ZA5 p ZAe ?_);generalize y:("set.__len__":String)=NB
 wp_delta
 rw[show splitId NB=some ("set","__len__")from by subst y;decide +kernel];subst y;refine ko (xi (b:=true) p (by rw[sF];kernel_rfl) ?_);rw[mL (by decide)];refine ZAf (λ_=>?_) (λDt=>absurd (by decide +kernel) Dt);refine ko (ZAA p ?_);refine mD ?_;refine ZAf (λ_=>?_) (λDt=>absurd (by decide +kernel) Dt);refine ko (ZAR ?_);refine ko ?_;show wpAny _ _ (updateSeq s.heap.objs.size (·.push .none) >>= λ_=>updateSeq s.heap.objs.size (·.pop)) _ _ _
 have K:(#[]:Array Value).size<=sizeLine:=CK _;have q:((#[]:Array Value).push Value.none).size<=sizeLine:=by show 1<=sizeLine;decide
 have J:((#[]:Array Value).push Value.none).size<=sizeLine+1:=kQ q;have H:(((#[]:Array Value).push Value.none).pop).size<=sizeLine+1:=CK _;have u:=kp _ _ j;subst x;refine ko (ZAF (s:={ s with heap:=h2,drawn:=d }) u rfl ?_ K J)
 have r:=E7 (Obj.mapSeq (·.push Value.none)) u rfl
 refine ZAF r rfl ?_ q H;have N:=E7 (Obj.mapSeq (·.pop)) r rfl
 have D:∀b o,b≠s.heap.objs.size->h2.get? b=some o->((h2.update s.heap.objs.size (Obj.mapSeq (·.push Value.none))).update s.heap.objs.size (Obj.mapSeq (·.pop))).get? b=some o:=
  λb o a e=>(DN _ _ (BP a)).trans ((DN _ _ (BP a)).trans e)
 refine mD ⟨ZAN PySem.F.plain_extend_loop _,ZAa (W A.in1 hh).toS hn _ C _ n 0 _ #[] _ rfl (CK _) ?_ N (ItemsOf.nil _) λs' Bw V c CA B5=>?_⟩
 .exact(W A.in1 hh).frame 0 h2 _ UC λb a o e=>D b o (λz=>C (z▸a)) e
 .show wpAny _ A (load s.heap.objs.size >>= _) _ _ s';refine ko (ZBI CA ?_);have T:Bw.toList=vs:=by
   have O:vs.length=n:=(StrsAre.len Sy).trans tl;refine kC λi=>?_
   by_cases hi:i<n
   .have h1:Bw[i]?=some (Bw[i]'(by rw[B5.1];exact hi)):=L8 _;rw[OX,h1];exact(B5.2 i _ h1).symm
   .rw[SA (by rw[Dm,B5.1];omega),SA (by omega)]
  refine mD ?_;rw[<- T]at Sy;refine h s' Bw.toList ts (λb o e=>?_) (Oc (B9 CA)) c.gens c.os Sy tl M;have a:b<s.heap.objs.size:=B9 e;refine c.heap b o ?_ (D b o (Bn a) (kp b o (BE _ e)));simp only[Cj,Bb,ZA1,not_or];refine⟨Bn a,?_⟩;have m:s.heap.objs.size+1<=I:=by rw[<- sz];exact R
  exact Bn (DD a (Nat.le_of_succ_le m))
variable{R:Result->Shared->Prop}{fp wr:List Addr}{G:Array GenState->Array GenState->Prop}{P:Nat->Value->Prop}{St:Nat->Shared->Prop}
theorem xZ(W:WalksS prog w A.in1 I fp wr G ss.length P St)(S:Addr)(E6:S∉fp)(TJ:∀i v,P i v->∃(h:i<ss.length)(t:Tok),v=.str ss[i] t)(a:ss.length+1<scanBound):
  ∀(k i:Nat)(s:Shared),ss.length - i=k->i<=ss.length->St i s->BJ prog w s.heap S (λd=>(dd (ss.take i)).any (· == d)) (dd (ss.take i)).length->
   (∀s',Moved (S::wr) G s s'->BJ prog w s'.heap S (λd=>(dd ss).any (· == d)) (dd ss).length->R (.ok (.ret .none)) s')->
   codeAny (model prog w) A (.builtin "set.update.loop" ⟨[.ref S,.ref I],[]⟩) R s:=by
 have p:S∉wr:=λh=>E6 (W.sub _ h);have n:∀{s s':Shared}{f:Str->Bool}{m:Nat},Moved wr G s s'->BJ prog w s.heap S f m->BJ prog w s'.heap S f m:=λc g=>g.keep λo ho=>c.heap S _ p ho;intro k
 induction k with
 |zero=>
  intro i s z hi BQ g fin;have e:i=ss.length:=by omega
  subst e;refine ZA6 ZFR ?_;rw[Rx kW _];show wpAny _ A.in1 (pyNext (.ref I) >>= _) _ _ s;refine ko (W.done s _ _ BQ λs' c=>?_);show wpAny _ A.in1 (ret Value.none) _ _ s';rw[Jk]at g;exact mD (fin s' (c.mono λb a=>C5 _ a) (n c g))
 |succ k y=>
  intro i s z hi BQ g fin;have j:i<ss.length:=by omega
  refine ZA6 ZFR ?_;rw[Rx kW _];show wpAny _ A.in1 (pyNext (.ref I) >>= _) _ _ s;refine ko (W.item i s _ _ j BQ λv s' B q c=>?_);obtain⟨_,t,rfl⟩:=TJ i v B;have D:=n c g;show wpAny _ A.in1 (holding [Value.str ss[i] t] (setAdd S (.str ss[i] t)) >>= _) _ _ s';refine ko (tL ?_);unfold setAdd;have r:(PySem.strKind prog w).is ss[i] (.str ss[i] t)=true:=Z9 prog w ss[i] t;refine tL (ko ((PySem.strKind prog w).pyHash r ?_));have C:(dd (ss.take i)).length+1<scanBound:=by
   have:=Ow (ss.take i);rw[Bu]at this;omega
  refine BJ.put (s:={ s' with toks:=s'.toks+1 }) D C λh' Lb NU=>?_
  have l:BJ prog w h' S (λd=>(dd (ss.take (i+1))).any (· == d)) (dd (ss.take (i+1))).length:=
   NU.congr (λd=>by rw[ag ss i j,rK]) (by rw[ag ss i j,Zu])
  refine mD ⟨ZAN kW _,y (i+1) _ (by omega) j (W.frame _ s' _ _ q (E9 _) λb a o e=>?_) l λKu x u=>?_⟩
  .rw[Lb.2 b (by rintro rfl;exact E6 a)];exact e
  .refine fin Ku (Moved.trans W.gtrans ((c.mono λb a=>C5 _ a).then_heap (E9 _) λb o a e=>?_) x) u;rw[Lb.2 b (by rintro rfl;exact a BZ)];exact e
theorem o7(a:Value)
  (h:Q₁ (.ref s.heap.objs.size) { s with heap:=s.heap.push { cls:=.type "set", dict:=none,data:=.set #[] 0 (.fresh 0 0 (!CB w)) } }) :
  codeAny (model prog w) A (.call (.builtin "set.__new__") ⟨[.type "set", a],[]⟩) (wants Q₁ E) s:=by
 refine ZBO ?_;show wpAny _ A.in1 (do checkBuiltinCall "set.__new__" ⟨[.type "set", a],[]⟩;again (.builtin "set.__new__" ⟨[.type "set", a],[]⟩)) _ _ s
 refine ko (sj (PySem.F.newCall_set_1 a) ?_);refine mD ⟨ZAN ZFS _,ZA6 PySem.F.entry_set_new ?_⟩;rw[Rx ZFS _];unfold Builtin.«set.__new__» Builtin.Frozenset.newClass;have c:isSubtype (.type "set") (.type "set")=pure true:=by rw[sF];kernel_rfl
 obtain⟨b,g,d,tk,os⟩:=s;dsimp only
 wp_walk
 refine wL (mD ?_);dsimp only;simp only[newObj];refine ko (wpAny_alloc (mD ?_));exact mD h
theorem fm{l:Addr}{T:String}{od:Option Addr}{G5:Array (Option Value)}{Q:Value->Shared->Prop}(ho:s.heap.get? l=some { cls:=.type T,dict:=od,data:=.seq items nl,slots:=G5 })
  (hs1:isSubtype (.type T) (.type "set")=pure false) (Gw:isSubtype (.type T) (.type "frozenset")=pure false) (Ai:(Value.type T == Value.type "dict")=false) (hb:ss.length+1<scanBound)
  (hit:∀(s1:Shared)(A1:Around)(Q1:Value->Shared->Prop),A1.handled=A.handled->s1.heap.get? l=s.heap.get? l->l<s1.heap.objs.size->
   (∀ob St P,WalksS prog w A1.in1 s1.heap.objs.size [s1.heap.objs.size,l] [s1.heap.objs.size] (λa b=>b=a) ss.length P St->(∀i v,P i v->∃(h:i<ss.length)(t:Tok),v=.str ss[i] t)->St 0 { s1 with heap:=s1.heap.push ob }->Q1 (.ref s1.heap.objs.size) { s1 with heap:=s1.heap.push ob })->
   wpAny (model prog w) A1 (pyIter (.ref l)) Q1 E s1)
  (h:∀(h':Heap)(tk:Nat),BJ prog w h' s.heap.objs.size (λg=>(dd ss).any (· == g)) (dd ss).length->(∀b o,b<s.heap.objs.size->s.heap.get? b=some o->h'.get? b=some o)->Q (.ref s.heap.objs.size) { s with heap:=h',toks:=tk }) :
  wpAny (model prog w) A (call (.type "set") [.ref l]) Q E s:=by
 have y:l<s.heap.objs.size:=B9 ho;obtain⟨c,tl,ZGI⟩:=PySem.F.called_set.mro;have U:=PySem.F.called_set.made;have V:=PySem.F.called_set.sub;refine ZAg (ZBO (by
  show wpAny _ _ (callAny (.type "set") _) _ _ _;refine mD ⟨Ym _ (by decide +kernel),ZA6 PySem.F.entry_type_call ?_⟩;rw[Around.under_plain (weight_type_call_type "set" [.ref l] []) rfl];have h1:=PySem.F.called_set.notType;have h2:=PySem.F.called_set.canCreate;have H:=PySem.F.typeCall_set_1 (.ref l)
  repeat (any_goals (first|assumption|wp_step))
  refine ZAS (o7 (.ref l) (E:=E) (Q₁:=λobj u=>obj=.ref s.heap.objs.size/\u={ s with heap:=s.heap.push { cls:=.type "set", dict:=none,data:=.set #[] 0 (.fresh 0 0 (!CB w)) } }) ⟨rfl,rfl⟩) λr u j=>?_
  cases r with
  |error e=>exact j
  |ok K=>
   cases K with
   |ret obj=>
    obtain⟨rfl,rfl⟩:=j;generalize n:({ cls:=.type "set", dict:=none,data:=.set #[] 0 (.fresh 0 0 (!CB w)) }:Obj)=so;have p:(s.heap.push so).objs.size=s.heap.objs.size+1:=E8 ..;have x:(s.heap.push so).get? s.heap.objs.size=some so:=BY _ (by rw[<- n];rfl);have J:Shared.TypeIs { s with heap:=s.heap.push so } (.ref s.heap.objs.size) "set" := ⟨_,x,by rw[<- n]⟩
    have C:=PySem.F.called_set.init.lookup;have I:=PySem.F.called_set.init.bind (.ref s.heap.objs.size)
    repeat (any_goals (first|assumption|wp_step))
    refine ZAS (ZAd (R:=wants (λr q=>r=.none/\∃h' tk,q={ s with heap:=h',toks:=tk }/\BJ prog w h' s.heap.objs.size (λg=>(dd ss).any (· == g)) (dd ss).length/\
      (∀b o,b<s.heap.objs.size->s.heap.get? b=some o->h'.get? b=some o)) E) PySem.F.called_set.init.plain PySem.F.entry_set_init (check_set_init_1 J ?_)) λB q d=>?_
    .have S:(s.heap.push so).get? l=some { cls:=.type T,dict:=od,data:=.seq items nl,slots:=G5 }:=BE _ ho;subst n;unfold Builtin.«set.__init__» noKeywords Builtin.Frozenset.updateFrom;generalize z:pyIter=PI
     wp_walk
     subst z;refine hit { s with heap:=s.heap.push _ } _ _ rfl (S.trans ho.symm) (Nat.lt_of_lt_of_eq (Jl y) p.symm) λob St P W TJ UC=>?_
     refine ko (ZBP ?_);have O:s.heap.objs.size∉[(s.heap.push { cls:=.type "set", dict:=none,data:=.set #[] 0 (.fresh 0 0 (!CB w)) }).objs.size,l]:=by
      rw[p];simp only[Cj,Bb,ZA1,not_or];exact⟨Bn (Oe _),Im y⟩
     refine xZ W s.heap.objs.size O TJ hb (ss.length - 0) 0 _ rfl (CK _) UC ?_ ?_
     .have D:=BE ob x;exact⟨_,#[],0,_,D,⟨rfl,rfl,rfl⟩,rfl,λe G=>by simp at G,λk=>by simp[dd],by decide,by rfl,rfl,rfl,λh=>absurd h (by simp)⟩
     .intro s' f CA;obtain⟨h',g',d',Tc,KN⟩:=s';have M:g'=s.gens:=f.gens;have N:d'=s.drawn:=f.drawn;have L:KN=s.os:=f.os;subst M;subst N;subst L;show wpAny _ _ _ _ _ _;refine mD ?_;show wpAny _ _ (ret Value.none) _ _ _;refine mD ⟨rfl,h',Tc,rfl,CA,λb o Di e=>?_⟩;refine f.heap b o ?_ (BE _ (BE _ e));rw[p];simp only[Cj,Bb,ZA1,not_or];exact⟨Bn Di,Bn (Jl Di)⟩
    .cases B with
     |error e=>exact d
     |ok m=>
      cases m with
      |ret r=>
       obtain⟨rfl,h',tk,rfl,CA,KO⟩:=d
       repeat (any_goals (first|assumption|wp_step))
       exact h _ _ CA KO
      |_=>exact d.elim
   |_=>exact j.elim))
end
noncomputable def Ef(P:Program)(w:World)(a:Addr)(f:Str->Bool)(n:Nat):HO:=.ext λh=>BJ P w h a f n
theorem YU(y:X.calm=true):Cc X (.type "set") (λxs H Q=>∃(p:Addr)(tp:Bool)(ss:List Str),xs=[.ref p]/\DH X.K tp H p (ss.map V.str)/\ss.length<4000/\
  ∀l,H l=none->Q (.ref l) (upd H l (Ef X.prog X.w l (λk=>(dd ss).any (· == k)) (dd ss).length))):=by
 intro Ze s Z H xs us Q I r h;obtain⟨p,tp,ss,rfl,x,D,q⟩:=h;obtain⟨u,rfl,C⟩:=vals1 r;cases C;have z:ss.length+1<scanBound:=by unfold scanBound;omega
 have fin:∀(h':Heap)(tk:Nat),BJ X.prog X.w h' s.heap.objs.size (λk=>(dd ss).any (· == k)) (dd ss).length->(∀b o,b<s.heap.objs.size->s.heap.get? b=some o->h'.get? b=some o)->
   EP X Ze Z Q (.ref s.heap.objs.size) { s with heap:=h',toks:=tk }:=λh' tk B kp=>by
  refine⟨.ref s.heap.objs.size,_,I.laid (t':=tk) (λb o e=>kp b o (B9 e) e) (B4 _) (show CO X.prog X.w _ h' _ (Ef X.prog X.w s.heap.objs.size _ _)from⟨B,?_,λh1 h2 J0 Jw=>?_⟩),rfl,q _ (I.AW.fresh (B4 _))⟩
  .obtain⟨o,_,_,_,ho,_⟩:=B;exact⟨o,ho⟩
  .exact J0.keep Jw
 cases tp with
 |false=>
  obtain⟨A5,a,pl,IX⟩:=I.list x;have f:=a.length;rw[Ae]at f;obtain⟨⟨c,d,dt,sl⟩,n,ho,DI,hd,Ff⟩:=id pl;simp only at DI hd Ff;subst DI;subst hd;subst Ff;refine fm ho PySem.F.sub_list_set PySem.F.sub_list_frozenset (by decide) z (λs1 A1 Q1 m g l1 Vr=>?_) fin;have j:s1.heap.IsList p A5.toArray:=⟨_,g.trans ho,rfl,n,rfl⟩;have t:A5.toArray.size=ss.length:=List.size_toArray.trans f.symm;refine ZAx j (Vr _ (λi s=>s.heap.IsListIter s1.heap.objs.size p i/\s.heap.IsList p A5.toArray) (λi v=>A5.toArray[i]?=some v) (by
   have W:=(Walks.list (prog:=X.prog) (w:=X.w) (A:=A1.in1) (by rw[jr,m];exact I.ok.hd y) s1.heap.objs.size p (Bn l1) A5.toArray).toS;rw[t]at W;exact W) (λi v e=>Rb a (by simpa using e)) ⟨⟨_,BY _ rfl,rfl,rfl⟩,j.push _⟩)
 |true=>
  obtain⟨A5,a,pl,IX⟩:=I.tuple x;have f:=a.length;rw[Ae]at f;obtain⟨⟨c,d,dt,sl⟩,ho,DI,n,Ff⟩:=id pl;simp only at DI Ff;subst DI;subst Ff;refine fm ho sub_tuple_set sub_tuple_frozenset (by decide) z (λs1 A1 Q1 m g l1 Vr=>?_) fin;have j:s1.heap.IsTuple p A5.toArray:=⟨_,g.trans ho,rfl,n,rfl⟩;have t:A5.toArray.size=ss.length:=List.size_toArray.trans f.symm;refine wpAny_pyIter_tuple j (Vr _ (λi s=>s.heap.IsTupleIter s1.heap.objs.size p i/\s.heap.IsTuple p A5.toArray) (λi v=>A5.toArray[i]?=some v) (by
   have W:=(Walks.tuple (prog:=X.prog) (w:=X.w) (A:=A1.in1) (by rw[jr,m];exact I.ok.hd y) s1.heap.objs.size p (Bn l1) A5.toArray).toS;rw[t]at W;exact W) (λi v e=>Rb a (by simpa using e)) ⟨⟨_,BY _ rfl,rfl,rfl⟩,?_⟩)
  exact⟨_,BE _ (g.trans ho),rfl,n,rfl⟩
theorem Inv.drew(I:Inv X Ze Z H s)(d:Drawn):Inv X Ze Z H { s with drawn:=d }:=
 I.step (h':=s.heap) (g':=s.gens) (t':=s.toks) (d':=d) (ch:=[]) (λ_ z=>nomatch z) (λb o _ _ _ e _=>e) (λb o _ _ _ e _=>⟨o.slots,e⟩) (λ_ _ _ _ n=>n) (λb o _ e=>⟨o,e⟩) (λ_ _ e=>e) (λ_ _ _ e=>e) (λb ps e=>⟨#[],by rw[e];simp⟩) (λm a=>a) I.AW I.bare
theorem qy{l:Addr}{Q:List Value->Shared->Prop}(a:IsTup s.heap l vs.toArray)(h:Q vs { s with heap:=(s.heap.push (seqObj "list" #[] 0)).update s.heap.objs.size (Obj.mapSeq (·++vs.toArray)) })(EY:vs.length<=sizeLine):
  wpAny (model prog w) A (collect (.ref l)) Q E s:=by
 obtain⟨o,ho,b,n,hd⟩:=id a;unfold collect;refine ko (ZBP (ZA6 entry_proto_collect' ?_));show wpAny _ _ (newList [] >>= λx=>again (.builtin "list.__iadd__" ⟨[x,.ref l],[]⟩)) _ _ s;refine ko (wpAny_newList ?_);refine mD ⟨Ym _ (by decide +kernel),ZA6 entry_list_iadd' ?_⟩;show wpAny _ _ (Builtin.List.listExtendWith (.ref s.heap.objs.size) (.ref l) (.ref s.heap.objs.size)) _ _ { s with heap:=s.heap.push (seqObj "list" #[] 0) }
 unfold Builtin.List.listExtendWith;have g:(s.heap.push (seqObj "list" #[] 0)).get? l=some o:=BE _ ho;refine ko (ZAA (T:="tuple") ⟨o,g,b⟩ ?_);rw[o9 (by simp)];refine ko (listItems_at g hd ?_);refine ko (listItems_at (xs:=#[]) (n:=0) (BY _ rfl) rfl ?_);rw[mL (by simp)];refine ko (listUpdate_at (xs:=#[]) (n:=0) (BY _ rfl) rfl ?_ (CK _) (by show(#[]++vs.toArray).size<=sizeLine+1;simp only[Array.size_append,Bv,SD];omega));refine mD ?_;show wpAny (model prog w) A (load s.heap.objs.size >>= λo=>(match o.data with | .seq xs _=>pure xs.toList|_=>unsupported "internal:collect")) Q E _
 refine ko (ZBI (get?_update_seq (BY _ rfl) _) ?_);show wpAny _ _ (pure ((#[]:Array Value)++vs.toArray).toList) Q E _;have e:((#[]:Array Value)++vs.toArray).toList=vs:=by simp
 rw[e];exact mD h
theorem Zo{Pc:List Value->Shared->Prop}{Q:Value->Shared->Prop}
  (i:∀(A1:Around)(E1:Value->Shared->Prop)(Q1:List Value->Shared->Prop),A1.handled=A.handled->(∀vs s1,Pc vs s1->Q1 vs s1)->wpAny (model prog w) A1 (collect v) Q1 E1 s)
  (h:∀vs s1,Pc vs s1->vs.length<64/\∃ss,StrsAre vs ss/\∀out AV e h',(∀b o,s1.heap.get? b=some o->h'.get? b=some o)->h'.get? s1.heap.objs.size=some (seqObj "list" out e)->StrsAre out.toList AV->AV.Perm ss->sortedS AV=true->Q (.ref s1.heap.objs.size) { s1 with heap:=h' }) :
  wpAny (model prog w) A (call (.builtin "sorted") [v]) Q E s:=by
 refine Calls.call_function_entry kind_sorted plain_sorted entry_sorted (args_sorted1 _) ?_;unfold Builtin.«sorted»;refine ko (m:=checkCount "sorted" 1 1 _) (mD ?_);refine ko (i _ _ _ rfl λvs s1 f=>?_);obtain⟨Gh,ss,TM,k⟩:=h vs s1 f;refine ko (wpAny_newList ?_);have a:(s1.heap.push (seqObj "list" vs.toArray 0)).get? s1.heap.objs.size=some (seqObj "list" vs.toArray 0):=BY _ rfl;refine ko (tL (sC slot_list_sort ⟨_,a,rfl⟩ entry_list_sort (list_sort_treeK (s:={ s1 with heap:=s1.heap.push (seqObj "list" vs.toArray 0) }) strKind_oneLt a TM.keysOf (λt r rest e=>keyKind_strs (by rw[<- e];exact TM)) Gh λDr q p=>⟨_,rfl,?_⟩) (args_list_sort _)))
 obtain⟨AV,n,l,j⟩:=sorted_out_str TM q p;obtain⟨e,g⟩:=sortedHeap_at (out:=(arrOf Dr).map (·.2)) a
 refine mD ⟨_,rfl,k _ AV e _ (λb o c=>?_) g n l j⟩;have d:=B9 c;rw[sortedHeap_old (Bn d) (by rw[E8];exact Jl d)];exact BE _ c
theorem Zn:∀{ss:List Str}{us:List Value},Vals (ss.map V.str) us->StrsAre us ss
 | [],_,.nil=>.nil
 |x::r,_,.cons ⟨t,e⟩ h=>by rw[e];exact .cons x t (Zn h)
theorem cR:∀{ss:List Str}{us:List Value},StrsAre us ss->Vals (ss.map V.str) us
 |_,_,.nil=>.nil
 |_,_,.cons x t h=>.cons ⟨t,rfl⟩ (cR h)
theorem bI{s1:Shared}{Q:VK}(I:Inv X Ze Z H s)(f:s1.gens=s.gens)(ho:s1.os=s.os)(d:∀b o,s.heap.get? b=some o->s1.heap.get? b=some o)(c:s.heap.objs.size<=s1.heap.objs.size)
  {out:Array Value}{e:Nat}(kp:∀b o,s1.heap.get? b=some o->h'.get? b=some o) (g:h'.get? s1.heap.objs.size=some (seqObj "list" out e)) (h:StrsAre out.toList AV) (Gh:AV.length<64)
  (q:∀l,H l=none->Q (.ref l) (upd H l (.lst (AV.map V.str)))):EP X Ze Z Q (.ref s1.heap.objs.size) { s1 with heap:=h' }:=by
 obtain⟨h1,g1,i,t1,j⟩:=s1;simp only at f ho d c kp g;subst f;subst ho;refine⟨.ref _,_,(I.drew i).laid (a:=h1.objs.size) (h':=h') (t':=t1) (o:=.lst (AV.map V.str)) (λb o q=>kp b o (d b o q)) c ?_,rfl,q _ (I.AW.fresh c)⟩;refine⟨?_,out.toList,e,cR h,by simpa[seqObj]using g⟩
 rw[Ae];exact Bz (Oc Gh) (by decide +kernel)
def Ui(K:ZGX):List V->Hp->VK->Prop:=λxs H Q=>∃(p:Addr)(tp:Bool)(ss:List Str),xs=[.ref p]/\DH K tp H p (ss.map V.str)/\ss.length<64/\∀l AV,H l=none->AV.Perm ss->sortedS AV=true->Q (.ref l) (upd H l (.lst (AV.map V.str)))
theorem RT:Cc X (.builtin "sorted") (Ui X.K):=by
 intro Ze s Z H xs us Q I r h;obtain⟨p,tp,ss,rfl,f,Gh,q⟩:=h;obtain⟨u,rfl,j⟩:=vals1 r;cases j;have d:∀A5:List Value,Vals (ss.map V.str) A5->(∀(A1:Around)(E1:Value->Shared->Prop)(Q1:List Value->Shared->Prop),Q1 A5 { s with heap:=(s.heap.push (seqObj "list" #[] 0)).update s.heap.objs.size (Obj.mapSeq (·++A5.toArray)) }->wpAny (model X.prog X.w) A1 (collect (.ref p)) Q1 E1 s)->
   wpAny (model X.prog X.w) X.A (call (.builtin "sorted") [.ref p]) (EP X Ze Z Q) X.xe s:=by
  intro A5 c m;have a:=c.length;rw[Ae]at a;refine Zo (Pc:=λvs s1=>vs=A5/\s1={ s with heap:=(s.heap.push (seqObj "list" #[] 0)).update s.heap.objs.size (Obj.mapSeq (·++A5.toArray)) }) (λA1 E1 Q1 _ k=>m A1 E1 Q1 (k _ _ ⟨rfl,rfl⟩)) ?_
  rintro vs s1⟨rfl,rfl⟩;refine⟨by omega,ss,Zn c,λout AV e h' kp x y g t=>?_⟩;refine bI (s1:={ s with heap:=(s.heap.push (seqObj "list" #[] 0)).update s.heap.objs.size (Obj.mapSeq (·++vs.toArray)) }) I rfl rfl (λb o i=>?_) (by show s.heap.objs.size<=((s.heap.push (seqObj "list" #[] 0)).update s.heap.objs.size (Obj.mapSeq (·++vs.toArray))).objs.size;rw[Heap.size_update,E8];exact E9 _) kp x y (by rw[g.length_eq];exact Gh) λl v=>q l AV v g t
  show((s.heap.push _).update _ _).get? b=some o;rw[Heap.get?_update_ne _ _ _ _ (Bn (B9 i))];exact BE _ i
 cases tp with
 |false=>
  obtain⟨A5,c,pl,n⟩:=I.list f;have a:=c.length;exact d A5 c λA1 E1 Q1 k=>collect_list pl.isList k (by omega)
 |true=>
  obtain⟨A5,c,pl,n⟩:=I.tuple f;have a:=c.length;exact d A5 c λA1 E1 Q1 k=>qy pl k (by omega)
def WZ(P:Program)(w:World):List V->Hp->VK->Prop:=λxs H Q=>∃(p:Addr)(f:Str->Bool)(n:Nat),xs=[.ref p]/\H p=some (Ef P w p f n)/\n<64/\∀l ts,H l=none->ts.length=n->(∀k,f k=true↔k∈ts)->sortedS ts=true->Q (.ref l) (upd H l (.lst (ts.map V.str)))
theorem gS(B:X.calm=true):Cc X (.builtin "sorted") (WZ X.prog X.w):=by
 intro Ze s Z H xs us Q I r h;obtain⟨p,f,n,rfl,D,Gh,q⟩:=h;obtain⟨u,rfl,v⟩:=vals1 r;cases v;have C:BJ X.prog X.w s.heap p f n:=(I.AW p _ D).1;have hh:X.A.handled=none:=I.ok.hd B;refine Zo (Pc:=λvs s1=>∃ts,(∀b o,s.heap.get? b=some o->s1.heap.get? b=some o)/\s.heap.objs.size<=s1.heap.objs.size/\s1.gens=s.gens/\s1.os=s.os/\StrsAre vs ts/\ts.length=n/\(∀k,f k=true↔k∈ts)) (λA1 E1 Q1 E k=>?_) ?_
 .exact wc (E.trans hh) C (Bz (Oc Gh) (by decide +kernel)) λs' vs ts t m j i c a g=>k vs s' ⟨ts,t,m,j,i,c,a,g⟩
 .rintro vs s1⟨ts,t,m,j,i,c,a,g⟩;refine⟨by rw[StrsAre.len c,a];exact Gh,ts,c,λout AV e h' kp z CA d x=>?_⟩;exact bI I j i t m kp z CA (by rw[d.length_eq,a];exact Gh) λl y=>q l AV y (d.length_eq.trans a) (λk=>(g k).trans d.mem_iff.symm) x
end L2
namespace MA
noncomputable def NP:Nat->Nat->List Nat
 | 0,n=>[97+n]
 |k+1,n=>if n<26 then[97+n]else(97+n % 26)::NP k (n / 26)
theorem KY:∀(k:Nat){n:Nat},n<26->NP k n=[97+n]
 | 0,_,_=>rfl
 |_+1,_,h=>o9 h
theorem ZN:∀(k j n:Nat),n<=k->n<=j->NP k n=NP j n
 | 0,j,n,h,_=>by rw[KY 0 (FR h (by decide)),KY j (FR h (by decide))]
 |k+1,0,n,_,h=>by rw[KY (k+1) (FR h (by decide)),KY 0 (FR h (by decide))]
 |k+1,j+1,n,h1,h2=>by
  by_cases c:n<26
  .rw[KY _ c,KY _ c]
  .have d:n / 26<n:=Nat.div_lt_self (DD (by decide) (ZFI c)) (by decide);show(if n<26 then _ else _)=(if n<26 then _ else _)
   rw[mL c,mL c,ZN k j (n / 26) (SG (DD d h1)) (SG (DD d h2))]
def lets(n:Nat):List Nat:=NP n n
noncomputable def vals:List Nat->Nat
 | []=>0
 |c::r=>(c - 97)+26 * vals r
theorem Le{n:Nat}(h:n<26):lets n=[97+n]:=KY n h
theorem ON{n:Nat}(h:¬ n<26):lets n=(97+n % 26)::lets (n / 26):=by
 cases n with
 |zero=>exact absurd (by decide) h
 |succ k=>
  have d:(k+1) / 26<k+1:=Nat.div_lt_self (Z4 k) (by decide);show(if k+1<26 then _ else _)=_
  rw[mL h,ZN k ((k+1) / 26) ((k+1) / 26) (SG d) (B4 _)];rfl
theorem fN:∀n,vals (lets n)=n:=by
 intro n
 induction n using Nat.strongRecOn with
 |_ n a=>
  by_cases h:n<26
  .rw[Le h];simp[vals]
  .rw[ON h];have:=a (n / 26) (by omega);simp only[vals,this];omega
theorem yB{a b:Nat}(h:lets a=lets b):a=b:=by rw[<- fN a,h,fN]
theorem XY(n:Nat):1<=(lets n).length:=by
 by_cases h:n<26
 .rw[Le h];simp
 .rw[ON h];simp
theorem RI:∀(k n:Nat),n<26 ^ (k+1)->(lets n).length<=k+1
 | 0,n,h=>by rw[Le (by simpa using h)];simp
 |k+1,n,h=>by
  by_cases h1:n<26
  .rw[Le h1];simp
  .rw[ON h1];have:=RI k (n / 26) (by rw[Nat.pow_succ]at h;exact Nat.div_lt_of_lt_mul (by rw[Nat.mul_comm];exact h));simp only[CG];omega
theorem sY:∀n,∀c∈lets n,97<=c/\c<=122:=by
 intro n
 induction n using Nat.strongRecOn with
 |_ n b=>
  by_cases h:n<26
  .rw[Le h];intro c a;simp at a;omega
  .rw[ON h];intro c a;rcases List.mem_cons.mp a with e|e
   .omega
   .exact b (n / 26) (by omega) c e
theorem dN{α:Type}[DecidableEq α]:∀(k:Nat)(f:Nat->α)(l:List α),(∀i j,i<k->j<k->f i=f j->i=j)->(∀i,i<k->f i∈l)->k<=l.length
 | 0,_,_,_,_=>CK _
 |k+1,f,l,hi,hm=>by
  have h1:=hm k (Oe k);have:=dN k f (l.erase (f k)) (λi j a b e=>hi i j (by omega) (by omega) e) (λi a=>by
   have c:f i≠f k:=λe=>by have:=hi i k (by omega) (by omega) e;omega
   exact(Yx c).mpr (hm i (by omega)))
  rw[Me h1]at this;have d:=kI h1;omega
end MA
namespace Lw
open L2
variable{a l p:Addr}{H H' H2:Hp}{xs:List V}{o:HO}{α:Type}{j k r:Int}{hi i m n:Nat}{ns ss:List Str}{x y z:Str}{A B c:Prop}
def CC(H:Hp)(p:Addr):Prop:=∃a b:Int,H p=some (.lst [.int a,.int b])/\0<=a/\a<10 ^ 256/\0<=b/\b<2147483647
structure BM (p:Addr) (H H':Hp):Prop where
 Af:CC H' p
 same:G4 p H H'
theorem BM.trans{H1:Hp}(a:BM p H H1)(b:BM p H1 H2):BM p H H2:=⟨b.Af,a.same.trans b.same⟩
theorem BM.of(h:CC H p)(s:AE H H'):BM p H H':=by
 obtain⟨a,b,e,r⟩:=h;exact⟨⟨a,b,s _ _ e,r⟩,G4.of s⟩
theorem BM.Nq{K:ZGX}(s:BM p H H')(h:AO K H a xs)(Ai:a≠p):AO K H' a xs:=by
 rcases h with(h|⟨o,h⟩)|h
 .exact .inl (.inl (s.same _ _ Ai h))
 .exact .inl (.inr ⟨o,s.same _ _ Ai h⟩)
 .exact .inr h
theorem BM.at'(s:BM p H H')(h:H a=some o)(Ai:a≠p):H' a=some o:=s.same _ _ Ai h
theorem Lv{a:Int}(c:-(10 ^ 20)<a)(h1:a<10 ^ 20):a.natAbs<2 ^ 1000:=by
 have b:a.natAbs<10 ^ 20:=by omega
 exact Nat.lt_trans b (by decide +kernel)
def U9(K:ZGX):Sp:=λvs H Q _=>∃(a:Addr)(ns:List Int)(k:Int),vs=[.ref a,.int k]/\AO K H a (ns.map V.int)/\0<=k/\k<=1000/\∀p H',H p=none->AE H H'->CC H' p->Q (.ref p) H'
def LX:Sp:=λvs H Q _=>∃(p:Addr)(m:Int),vs=[.ref p,.int m]/\CC H p/\0<m/\m<10 ^ 18/\∀r H',0<=r->r<m->BM p H H'->Q (.int r) H'
def Cv(l:List Nat):Str:=⟨l.toArray⟩
def gQ:Sp:=λvs H Q _=>∃r:Int,vs=[.int r]/\0<=r/\r<26 ^ 8/\∀H',AE H H'->Q (.str (Cv (MA.lets r.toNat))) H'
theorem Mz{xs:List α}{v:α}(b:0<=k)(h:xs[k.toNat]?=some v):BU xs k=some v:=by
 have a:k=((k.toNat:Nat):Int):=by omega
 have q:=IA h;rw[<- a]at q;exact q
abbrev HR:Str:="abcdefghijklmnopqrstuvwxyz"
theorem vW:∀j,j<26->HR.cps.toList[j]?=some (97+j):=by decide +kernel
theorem eK(a:0<=k)(h1:k<26):BU HR.cps.toList k=some (97+k.toNat):=Mz a (vW _ (by omega))
theorem eQ(l:List Nat)(c:Nat):Cv l++(⟨#[c]⟩:Str)=Cv (l++[c]):=by
 show(⟨l.toArray++#[c]⟩:Str)=⟨(l++[c]).toArray⟩;simp
theorem RM(l:List Nat):(Cv l).length=l.length:=by simp[Cv,Str.length]
theorem cq{l:List Nat}:(V.str (Cv l)=V.str (Str.ofString ""))↔l=[]:=by
 constructor
 .intro h;injection h with h
  have h2:=vF (λx=>x.cps.toList) h;have e:(Str.ofString "").cps.toList=[]:=by decide +kernel
  rw[e]at h2
  simpa[Cv]using h2
 .rintro rfl;rfl
theorem small(h:n<=100000):n<=sizeLine:=Bz h (by decide +kernel)
theorem jK{k:Nat}{pre:List Nat}(h:pre++MA.lets k=MA.lets n):(0<k / 26->(pre++[97+k % 26])++MA.lets (k / 26)=MA.lets n)/\(k / 26=0->pre++[97+k % 26]=MA.lets n):=by
 constructor
 .intro h1;rw[MA.ON (by omega)]at h;rw[<- h,C3];rfl
 .intro h1;have h2:k<26:=by omega
  rw[MA.Le h2]at h;rw[<- h,Nat.mod_eq_of_lt h2]
def Nm(x:Str):Prop:=1<=x.length/\x.length<=8/\∀c∈x.cps.toList,97<=c/\c<=122
instance (x:Str):Decidable (Nm x):=by unfold Nm;exact inferInstance
theorem HD(x:Str):x.length=x.cps.toList.length:=by simp[Str.length]
theorem Vy(h:n<26 ^ 8):Nm (Cv (MA.lets n)):=by
 refine⟨by rw[RM];exact MA.XY n,by rw[RM];exact MA.RI 7 n h,λc a=>MA.sY n c (by simpa[Cv]using a)⟩
noncomputable def menu:List Str:=["put","take","none","ahead","all","over","next","a","ab","abc","abcdefgh","b","step"]
theorem lz:∀x∈menu,Nm x:=by decide +kernel
noncomputable def PC:List V:=[.str "put",.str "take",.str "none",.str "ahead",.str "all",.str "over",.str "next",.str "a",.str "ab",.str "abc",.str "abcdefgh",.str "b",.str "step"]
theorem ZB5{i:Int}(a:0<=i)(h1:i<13):∃x,BU PC i=some (.str x)/\Nm x:=by
 have b:menu.length=13:=rfl;have hi:i.toNat<menu.length:=by omega
 have e:PC=menu.map V.str:=rfl;refine⟨menu[i.toNat],Mz a ?_,lz _ (Ik hi)⟩;rw[e,Bt,C4 hi];rfl
theorem UM{i:Int}(a:0<=i)(h1:i<ns.length):∃x,BU (ns.map V.str) i=some (.str x)/\x∈ns/\ns[i.toNat]?=some x:=by
 have hi:i.toNat<ns.length:=by omega
 exact⟨ns[i.toNat],Mz a (by rw[Bt,C4 hi];rfl),Ik hi,C4 hi⟩
theorem II(ns:List Str):(ns.map V.str).all EB=true:=by
 rw[Fo];intro x hx;obtain⟨y,_,rfl⟩:=List.mem_map.mp hx;rfl
theorem Pw(x:Str)(ns:List Str):Fi (.str x) (ns.map V.str)=decide (x∈ns):=by
 unfold Fi;rw[Eo,k9,zF];constructor
 .rintro⟨v,b,h⟩;obtain⟨y,a,rfl⟩:=List.mem_map.mp b;have h':(y == x)=true:=h;have:y=x:=by simpa using h'
  rw[<- this];exact a
 .intro h;exact⟨.str x,List.mem_map.mpr ⟨x,h,rfl⟩,by show(x == x)=true;simp⟩
theorem Sr(xs:List V):G7 xs []=decide (xs=[]):=by
 cases xs with
 |nil=>rfl
 |cons x r=>rw[M8 (by simp)];simp
theorem nL(h:x.cps.toList=y.cps.toList):x=y:=by
 cases x;cases y;simp only[Str.mk.injEq];exact Array.toList_inj.mp h
theorem zv(z:Str){a b:Nat}{lo hi:Option Int}(Dt:a<=b)(c:b<=z.length)(e:Builtin.Str.strSliceIndices lo hi 1 z.length=Builtin.Str.strSliceIndices (some (a:Int)) (some (b:Int)) 1 z.length):
  (Txt.slice z lo hi).cps.toList=(z.cps.toList.drop a).take (b - a):=by
 have q:=StrLaws.sliced_plain z Dt c;rw[<- e]at q;unfold Txt.slice;split
 .rename_i h;have d:(Builtin.Str.strSliceIndices lo hi 1 z.length).length=z.length:=by simpa using h
  rw[e,StrLaws.strSliceIndices_plain Dt c,Ae,SE]at d;have h1:a=0:=by omega
  have h2:b=z.length:=by omega
  subst h1;subst h2;rw[Oa,SH,HD,Jk]
 .rw[<- q]
theorem qS(h:0<=j):max (0:Int) (min j (n:Int))=max 0 (min ((min j.toNat n:Nat):Int) (n:Int)):=by
 have e:((min j.toNat n:Nat):Int)=min j n:=by
  rcases Od j.toNat n with c|c
  .rw[Ht c,k6 h,Int.min_eq_left (by have:=Int.ofNat_le.mpr c;rw[k6 h]at this;exact this)]
  .rw[Of c,Int.min_eq_right (by have:=Int.ofNat_le.mpr c;rw[k6 h]at this;exact this)]
 rw[e,Int.min_assoc,Int.min_self]
theorem x8(z:Str)(h:0<=j):(Txt.slice z none (some j)).cps.toList=z.cps.toList.take j.toNat:=by
 have e:=zv z (a:=0) (b:=min j.toNat z.length) (lo:=none) (hi:=some j) (CK _) (ZFL _ _) (by
  have h1:¬ j<0:=by omega
  have h2:¬ (((min j.toNat z.length:Nat):Int)<0):=Int.not_lt.mpr (Int.natCast_nonneg _);have c:max (0:Int) (min j (z.length:Int))=max 0 (min ((min j.toNat z.length:Nat):Int) (z.length:Int)):=qS h;simp only[Builtin.Str.strSliceIndices,h1,h2,ZB3,c];rfl)
 rw[e,Oa,SH];rcases Od j.toNat z.length with h1|h1
 .rw[Ht h1]
 .rw[Of h1,HD,Jk,Mh (by rw[<- HD];exact h1)]
theorem fk(h:1<=j)(d:j<=8)(b:1<=z.length)(a:∀c∈z.cps.toList,97<=c/\c<=122):Nm (Txt.slice z none (some j)):=by
 have e:=x8 z (j:=j) (by omega);refine⟨?_,?_,λc Jz=>a c ?_⟩
 .rw[HD,e,Bu,<- HD];omega
 .rw[HD,e,Bu];omega
 .rw[e]at Jz;exact kL Jz
theorem aI(x y:Str):(x++y).cps.toList=x.cps.toList++y.cps.toList:=by
 show(x.cps++y.cps).toList=_;simp
theorem ck(x y:Str):(x++y).length=x.length+y.length:=by rw[HD,aI,Bi,<- HD,<- HD]
def fS(K:ZGX):Sp:=λvs H Q _=>∃(p q:Addr)(ns:List Str),vs=[.ref p,.ref q]/\CC H p/\H q=some (.lst (ns.map V.str))/\q≠p/\(∀x∈ns,Nm x)/\ns.length<=1000/\∀x H',Nm x->x∉ns->BM p H H'->Q (.str x) H'
theorem pP{k:Nat}(h:∀j,j<k->Cv (MA.lets j)∈ns):k<=ns.length:=
 MA.dN k (λj=>Cv (MA.lets j)) ns (λi j _ _ e=>MA.yB (by
  have:=vF (λx=>x.cps.toList) e
  simpa[Cv]using this)) h
theorem xD:1000<26 ^ 8:=by decide +kernel
theorem uH:(1000:Int)<26 ^ 8:=by decide +kernel
theorem ZCv:(26:Int) ^ (8:Int).toNat - 26<26 ^ 8:=by decide +kernel
theorem nX:(26:Int)<26 ^ 8:=by decide +kernel
theorem l9:(0:Int)<26 ^ (8:Int).toNat - 26:=by decide +kernel
theorem ZAv:(26:Int) ^ (8:Int).toNat - 26<10 ^ 18:=by decide +kernel
theorem iD(a:0<=r)(h:r<26 ^ 8):r.toNat<26 ^ 8:=by omega
theorem BM.upd(s:BM p H H2)(h:H l=none)(Ai:l≠p):BM p H (upd H2 l o):=by
 obtain⟨a,b,e,r⟩:=s.Af;refine⟨⟨a,b,by rw[Az (BP Ai)];exact e,r⟩,λc u d q=>?_⟩;rw[Az (DU q h)];exact s.same c u d q
theorem BM.none(s:BM p H H2)(h:H2 l=none):H l=none:=by
 cases q:H l with
 |none=>rfl
 |some o=>
  by_cases e:l=p
  .obtain⟨a,b,c,_⟩:=s.Af;rw[<- e,h]at c;cases c
  .rw[s.same l o e q]at h;cases h
theorem CC.ne(h:CC H p)(a:H l=none):l≠p:=by
 obtain⟨_,_,e,_⟩:=h;exact(DU e a).symm
theorem AE.none(s:AE H H2)(h:H2 l=none):H l=none:=by
 cases q:H l with
 |none=>rfl
 |some o=>rw[s l o q]at h;cases h
def iF:Sp:=λvs H Q _=>∃(p:Addr)(m:Int),vs=[.ref p,.int m]/\CC H p/\0<=m/\m<=100/\
 ∀l H'(ns:List Str),H l=none->BM p H H'->H' l=some (.lst (ns.map V.str))->(ns.length:Int)=m->(∀x∈ns,Nm x)->ns.Nodup->Q (.ref l) H'
def TQ:Sp:=λvs H Q _=>∃(p:Addr)(m:Int),vs=[.ref p,.int m]/\CC H p/\1<=m/\m<=100/\
 ∀l H'(ns:List Str),H l=none->BM p H H'->H' l=some (.lst (ns.map V.str))->(ns.length:Int)<=m->(∀x∈ns,Nm x)->ns.Nodup->Q (.ref l) H'
theorem Sx{l:List α}{x:α}(h:l.Nodup)(hx:x∉l):(l++[x]).Nodup:=by
 rw[Er];exact⟨h,by simp,λa d b c=>by
  have:b=x:=by simpa using c
  subst this;rintro rfl;exact hx d⟩
theorem lG{m:Int}(b:0<=j)(h1:j<3)(a:1<=m):∃k:Int,BU [V.int 0,V.int 1,V.int m] j=some (.int k)/\0<=k/\k<=m:=by
 have:j=0∨j=1∨j=2:=by omega
 rcases this with rfl|rfl|rfl
 .exact⟨0,rfl,by omega,by omega⟩
 .exact⟨1,rfl,by omega,by omega⟩
 .exact⟨m,rfl,by omega,by omega⟩
noncomputable def KP(c:Nat):Bool:=!(Builtin.Str.occurrences HR ⟨#[c]⟩ 0 HR.length 1).isEmpty
def isNm(x:Str):Bool:=decide ((1:Int)<=x.length) && (decide ((x.length:Int)<=8) && x.cps.toList.all KP)
def NF:Sp:=λvs H Q _=>∃x:Str,vs=[.str x]/\x.length<=1000/\∀H',AE H H'->Q (.bl (isNm x)) H'
theorem oB(l:List α):l.filter (λ_=>true)=l:=List.filter_eq_self.mpr λ_ _=>rfl
noncomputable def SY:V->V
 | .str y=>.bl (!(Builtin.Str.occurrences HR y 0 HR.length 1).isEmpty)
 |_=>.bl false
theorem ia(x:Str):((GV x).filter (λ_=>true)).map SY=(x.cps.toList.map KP).map V.bl:=by
 unfold GV;rw[oB,Il,Il];rfl
theorem signs_get{v:V}(h:(GV x)[i]?=some v):∃c,v=.str ⟨#[c]⟩:=by
 unfold GV at h;rw[Bt]at h;cases q:x.cps.toList[i]? with
 |none=>rw[q]at h;cases h
 |some c=>rw[q]at h;simp at h;exact⟨c,h.symm⟩
theorem all_map{α:Type}(f:α->Bool)(l:List α):(l.map f).all id=l.all f:=by rw[k8];rfl
theorem Ki{v:V}(h:(ss.map V.str)[i]?=some v):∃x,v=.str x/\x∈ss:=by
 rw[Bt]at h;cases q:ss[i]? with
 |none=>rw[q]at h;cases h
 |some x=>rw[q]at h;simp at h;exact⟨x,h.symm,LB q⟩
theorem ZBz(xs:List Str):G7 (xs.map V.str) (xs.map V.str)=true:=by
 rw[Li rfl,Fo];intro j a;have b:j<xs.length:=by simpa using a
 have e:(xs.map V.str)[j]?=some (.str xs[j]):=by rw[Bt,C4 b];rfl
 rw[NR e];show(xs[j] == xs[j])=true;simp
theorem JW(K:ZGX)(t:String):PySem.W.kitOne K (.type t) (.type t)=some true:=by
 unfold PySem.W.kitOne;rw[o9 (by simp)]
def N9(K:ZGX):Sp:=λvs H Q _=>∃(a:Addr)(ns:List Int),vs=[.ref a]/\AO K H a (ns.map V.int)/\ns.length<=63/\∀H',Q (.bl true) H'
inductive Ag where
 |put (x:Str) (i:Nat)|take (x:Str)|move (x:Str) (i:Nat)|turn (lo hi:Nat)
noncomputable def Ag.vals:Ag->List V
 | .put x i=>[.str "put",.str x,.int i]
 | .take x=>[.str "take",.str x]
 | .move x i=>[.str "move",.str x,.int i]
 | .turn lo hi=>[.str "turn",.int lo,.int hi]
def Ag.Ok(m:Nat)(ns:List Str):Ag->Prop
 | .put x i=>Nm x/\x∉ns/\i<=ns.length/\ns.length<m
 | .take x=>x∈ns
 | .move x i=>x∈ns/\i<ns.length
 | .turn lo hi=>lo<=hi/\hi<=ns.length
noncomputable def ins(ns:List Str)(x:Str)(i:Nat):List Str:=ns.take i++x::ns.drop i
noncomputable def wo(ns:List Str)(x:Str):List Str:=ns.filter λy=>!decide (y=x)
noncomputable def C0(ns:List Str)(lo hi:Nat):List Str:=ns.take lo++((ns.drop lo).take (hi - lo)).reverse++ns.drop hi
def Ag.done(ns:List Str):Ag->List Str
 | .put x i=>ins ns x i
 | .take x=>wo ns x
 | .move x i=>ins (wo ns x) x i
 | .turn lo hi=>C0 ns lo hi
theorem M0(h:x∉ns):wo ns x=ns:=by
 unfold wo;rw[ZF4];intro y a;have:y≠x:=λe=>h (e▸a);simp[this]
theorem De:y∈wo ns x↔y∈ns/\y≠x:=by
 unfold wo;rw[kK];simp
theorem Q3(h:ns.Nodup):(wo ns x).Nodup:=h.filter _
theorem aX(as bs:List Str)(x:Str):wo (as++bs) x=wo as x++wo bs x:=by unfold wo;rw[Yp]
theorem fb(bs:List Str)(x:Str):wo (x::bs) x=wo bs x:=by unfold wo;rw[Yq];simp
theorem W4(h:x∈ns):ns=ns.take (ns.idxOf x)++x::ns.drop (ns.idxOf x+1):=by
 have a:ns.idxOf x<ns.length:=List.idxOf_lt_length_iff.mpr h;have e:ns[ns.idxOf x]=x:=Ys a
 conv=>lhs;rw[<- LD (ns.idxOf x) ns,Yo a,e]
theorem gF(h:x∈ns):x∉ns.take (ns.idxOf x):=by
 intro a;obtain⟨m,JS,e⟩:=List.mem_iff_getElem.mp a;rw[Bu]at JS;rw[List.getElem_take]at e;exact XA x ns m (by omega) (by omega) e
theorem cO(h:x∈ns)(nd:ns.Nodup):x∉ns.drop (ns.idxOf x+1):=by
 rw[W4 h]at nd;have h2:=(List.nodup_append.mp nd).2.1;exact(List.nodup_cons.mp h2).1
theorem wB(h:x∈ns)(nd:ns.Nodup):wo ns x=ns.take (ns.idxOf x)++ns.drop (ns.idxOf x+1):=by
 conv=>lhs;rw[W4 h]
 rw[aX,fb,M0 (gF h),M0 (cO h nd)]
theorem Nl(h:x∈ns)(nd:ns.Nodup):(wo ns x).length+1=ns.length:=by
 have a:ns.idxOf x<ns.length:=List.idxOf_lt_length_iff.mpr h;rw[wB h nd,Bi,Bu,D5];omega
theorem QR:(ins ns x i).length=ns.length+1:=by
 unfold ins;rw[Bi,CG,Bu,D5];omega
theorem Jt:y∈ins ns x i↔y=x∨y∈ns:=by
 unfold ins;rw[GY,Cj];have:y∈ns↔y∈ns.take i∨y∈ns.drop i:=by rw[<- GY,LD]
 rw[this];constructor
 .rintro(h|h|h)
  .exact .inr (.inl h)
  .exact .inl h
  .exact .inr (.inr h)
 .rintro(h|h|h)
  .exact .inr (.inl h)
  .exact .inl h
  .exact .inr (.inr h)
theorem VV(h:ns.Nodup)(hx:x∉ns):(ins ns x i).Nodup:=by
 unfold ins;have e:(ns.take i++ns.drop i).Nodup:=by rw[LD];exact h
 obtain⟨h1,h2,f⟩:=List.nodup_append.mp e;rw[Er];refine⟨h1,List.nodup_cons.mpr ⟨λz=>hx (List.mem_of_mem_drop z),h2⟩,λa c b d=>?_⟩;rcases List.mem_cons.mp d with z|z
 .rw[z];rintro rfl;exact hx (kL c)
 .exact f a c b z
theorem TV{lo:Nat}(h1:lo<=hi)(h2:hi<=ns.length):(C0 ns lo hi).length=ns.length:=by
 unfold C0;rw[Bi,Bi,Mf,Bu,Bu,D5,D5];omega
theorem df{lo:Nat}(h1:lo<=hi):ns=ns.take lo++(ns.drop lo).take (hi - lo)++ns.drop hi:=by
 have:ns.drop hi=(ns.drop lo).drop (hi - lo):=by rw[List.drop_drop];congr 1;omega
 rw[this,C3,LD,LD]
theorem eR{lo:Nat}(h1:lo<=hi):y∈C0 ns lo hi↔y∈ns:=by
 conv=>rhs;rw[df (ns:=ns) h1]
 unfold C0;simp only[GY,List.mem_reverse]
theorem rJ{lo:Nat}(h1:lo<=hi)(nd:ns.Nodup):(C0 ns lo hi).Nodup:=by
 have p:List.Perm (C0 ns lo hi) ns:=by
  conv=>rhs;rw[df (ns:=ns) h1]
  unfold C0;exact((List.reverse_perm _).append_left _).append_right _
 exact p.nodup_iff.mpr nd
theorem Ag.step{d:Ag}(h:d.Ok m ns)(nd:ns.Nodup)(b:∀x∈ns,Nm x)(c:ns.length<=m):
  (d.done ns).Nodup/\(∀x∈d.done ns,Nm x)/\(d.done ns).length<=m:=by
 cases d with
 |put x i=>
  obtain⟨h1,h2,g,f⟩:=h;refine⟨VV nd h2,λy a=>?_,?_⟩
  .rcases Jt.mp a with e|e
   .rw[e];exact h1
   .exact b y e
  .show(ins ns x i).length<=m;rw[QR];omega
 |take x=>
  refine⟨Q3 nd,λy a=>b y (De.mp a).1,?_⟩;have:=Nl h nd;show(wo ns x).length<=m;omega
 |move x i=>
  obtain⟨h1,h2⟩:=h;refine⟨VV (Q3 nd) (λz=>(De.mp z).2 rfl),λy a=>?_,?_⟩
  .rcases Jt.mp a with e|e
   .rw[e];exact b x h1
   .exact b y (De.mp e).1
  .have:=Nl h1 nd;show(ins (wo ns x) x i).length<=m;rw[QR];omega
 |turn lo hi=>
  obtain⟨h1,h2⟩:=h;exact⟨rJ h1 nd,λy a=>b y ((eR h1).mp a),by show(C0 ns lo hi).length<=m;rw[TV h1 h2];exact c⟩
theorem dD(xs:List V)(i:Nat):CN xs none (some (i:Int))=xs.take i:=by
 unfold CN;rw[HT.Pk,HT.JM,Oa,SH];rcases Od i xs.length with h|h
 .rw[Ht h]
 .rw[Of h,Jk,Mh h]
theorem jf(xs:List V)(i:Nat):CN xs (some (i:Int)) none=xs.drop i:=by
 unfold CN;rw[HT.Pk,HT.JM];rcases Od i xs.length with h|h
 .rw[Ht h,Mh (by rw[D5];omega)]
 .rw[Of h,Nat.sub_self,List.take_zero,ZF1 h]
theorem ZBH(xs:List V){j:Nat}(hi:i<=j)(a:j<=xs.length):CN xs (some (i:Int)) (some (j:Int))=(xs.drop i).take (j - i):=by
 unfold CN;rw[HT.JM,HT.JM,Ht a,Ht (Bz hi a)]
def Ey(tp:Bool)(xs:List V):HO:=match tp with
 |false=>.lst xs
 |true=>.tup xs
theorem Ey.sq{K:ZGX}{tp:Bool}(h:H a=some (Ey tp xs)):DH K tp H a xs:=by
 cases tp
 .exact AO.of h
 .exact AN.of h
def ZCE(H:Hp)(Q:VK)(ns:List Str):Prop:=∀l H',H l=none->AE H H'->H' l=some (.lst (ns.map V.str))->Q (.ref l) H'
def YL:Sp:=λvs H Q _=>∃(a t:Addr)(ns:List Str)(d:Ag),vs=[.ref a,.ref t]/\H a=some (.lst (ns.map V.str))/\H t=some (.tup d.vals)/\d.Ok 40 ns/\ns.length<=40/\ns.Nodup/\ZCE H Q (d.done ns)
theorem YI[Decidable c](h:c)(a:A):if c then A else B:=by rw[o9 h];exact a
theorem BG[Decidable c](h:¬ c)(b:B):if c then A else B:=by rw[mL h];exact b
theorem ZEA:∀j,j<26->KP (97+j)=true:=by decide +kernel
theorem ZCQ(h:Nm x):isNm x=true:=by
 obtain⟨h1,h2,f⟩:=h;unfold isNm;rw[mG (by omega),mG (by omega),Yl,Yl,Fo];intro c d;obtain⟨a,b⟩:=f c d;have:=ZEA (c - 97) (by omega);have e:97+(c - 97)=c:=by omega
 rw[e]at this;exact this
theorem Fw(ns:List Str):(ns.map V.str).length=ns.length:=Ae _
noncomputable def Hi(y:V):V->Bool:=λv=>!decide (v=y)
theorem Nh(ns:List Str)(x:Str):((ns.map V.str).filter (Hi (.str x))).map (λv=>v)=(wo ns x).map V.str:=by
 unfold wo Hi;rw[kJ,kD]
 congr 1
 apply ZF3;intro y _;simp
theorem ZD0(ns:List Str)(i:Int):((ns.map V.str).filter (Hi (.int i))).map (λv=>v)=ns.map V.str:=by
 unfold Hi;rw[kJ,ZF4];intro v a;obtain⟨y,_,rfl⟩:=List.mem_map.mp a;rfl
theorem cw(s:AE H H')(h:H l=none):AE H (upd H' l o):=λb u q=>by rw[Az (DU q h)];exact s b u q
theorem ZBJ(K:ZGX):PySem.W.kitOne K (.type "int") (.type "bool")=some false:=by
 unfold PySem.W.kitOne;rw[mL (by decide)];with_unfolding_all rfl
end Lw
namespace Fz
open L2 Lw
variable{F F' H H':Hp}{v:V}{EN vs:List V}{i i0 j:Nat}{t:TA}{a l:Addr}{r:List V->Hp->VK->Prop}{Z τ:L2.St}{o:HO}{ta tb tc te:TE}{b neg tp:Bool}{f:Int->Int->Bool}{g:TG}{u:TS}{n:String}{th tl:TO}{X:XK}{wi:TI}{A:List Addr}{Q:VK}
inductive PV where
 |AG|bl (b:Bool)|int (i:Int)|str (x:Str)|lst (xs:List PV)|tup (xs:List PV)
 |Du (ks:List Key) (xs:List PV)|obj (C:Addr) (ns:List Str) (xs:List PV)|exc (C:Addr) (ns:List Str) (xs:List PV)|con (a:Addr) (xs:List PV)
variable{p:PV}{ps xs:List PV}{k:List PV->Prop}
def Rn(a C:Addr)(dx:Option Addr):HO:=.ext λh=>∃ob vs,h.get? a=some ob/\ob.cls=.ref C/\ob.dict=dx/\ob.data=.fields vs
mutual
inductive Rep (F:Hp):V->PV->Prop where
 |AG:Rep F .AG .AG
 |bl (b:Bool):Rep F (.bl b) (.bl b)
 |int (i:Int):Rep F (.int i) (.int i)
 |str (x:Str):Rep F (.str x) (.str x)
 |lst {a:Addr}{vs:List V}{xs:List PV}:F a=some (.lst vs)->Ad F vs xs->Rep F (.ref a) (.lst xs)
 |tup {a:Addr}{vs:List V}{xs:List PV}:F a=some (.tup vs)->Ad F vs xs->Rep F (.ref a) (.tup xs)
 |Du {a:Addr}{ks:List Key}{vs:List V}{xs:List PV}:F a=some (.dK (ks.zip vs))->ks.length=vs.length->Ad F vs xs->Rep F (.ref a) (.Du ks xs)
 |obj {a C dx:Addr}{ns:List Str}{vs:List V}{xs:List PV}:F a=some (.ins C dx (ns.zip vs))->F dx=some (.own a)->ns.length=vs.length->Ad F vs xs->Rep F (.ref a) (.obj C ns xs)
 |con {a:Addr}{xs:List PV}:Rep F (.ref a) (.con a xs)
 |RD {a C:Addr}:F a=some (Rn a C none)->Rep F (.ref a) (.exc C [] [])
 |exc {a C dx:Addr}{ns:List Str}{vs:List V}{xs:List PV}:F a=some (Rn a C (some dx))->F dx=some (.xd (ns.zip vs))->ns.length=vs.length->Ad F vs xs->Rep F (.ref a) (.exc C ns xs)
inductive Ad (F:Hp):List V->List PV->Prop where
 |nil:Ad F [] []
 |cons {v:V}{p:PV}{vs:List V}{ps:List PV}:Rep F v p->Ad F vs ps->Ad F (v::vs) (p::ps)
end
theorem Rep.mono(s:AE F F')(r:Rep F v p):Rep F' v p:=
 Rep.rec (motive_1:=λv p _=>Rep F' v p) (motive_2:=λvs ps _=>Ad F' vs ps) .AG .bl .int .str (λh _ i=>.lst (s _ _ h) i) (λh _ i=>.tup (s _ _ h) i) (λh e _ i=>.Du (s _ _ h) e i) (λh h2 e _ i=>.obj (s _ _ h) (s _ _ h2) e i) .con (λh=>.RD (s _ _ h)) (λh h2 e _ i=>.exc (s _ _ h) (s _ _ h2) e i) .nil (λ_ _ i k=>.cons i k) r
def tf(F:Hp)(v:V):PV->Prop
 | .AG=>v=.AG
 | .bl b=>v=.bl b
 | .int i=>v=.int i
 | .str x=>v=.str x
 | .lst xs=>∃a vs,v=.ref a/\F a=some (.lst vs)/\Ad F vs xs
 | .tup xs=>∃a vs,v=.ref a/\F a=some (.tup vs)/\Ad F vs xs
 | .Du ks xs=>∃a vs,v=.ref a/\F a=some (.dK (ks.zip vs))/\ks.length=vs.length/\Ad F vs xs
 | .obj C ns xs=>∃a dx vs,v=.ref a/\F a=some (.ins C dx (ns.zip vs))/\F dx=some (.own a)/\ns.length=vs.length/\Ad F vs xs
 | .con a _=>v=.ref a
 | .exc C ns xs=>(∃a,v=.ref a/\F a=some (Rn a C none)/\ns=[]/\xs=[])∨∃a dx vs,v=.ref a/\F a=some (Rn a C (some dx))/\F dx=some (.xd (ns.zip vs))/\ns.length=vs.length/\Ad F vs xs
theorem Rep.inv(r:Rep F v p):tf F v p:=by
 cases r with
 |lst h r=>exact⟨_,_,rfl,h,r⟩
 |tup h r=>exact⟨_,_,rfl,h,r⟩
 |Du h l r=>exact⟨_,_,rfl,h,l,r⟩
 |obj h h2 l r=>exact⟨_,_,_,rfl,h,h2,l,r⟩
 |RD h=>exact .inl ⟨_,rfl,h,rfl,rfl⟩
 |exc h h2 l r=>exact .inr ⟨_,_,_,rfl,h,h2,l,r⟩
 |_=>exact rfl
theorem Ad.inv(r:Ad F vs (p::ps)):∃v ws,vs=v::ws/\Rep F v p/\Ad F ws ps:=by
 cases r with
 |cons r t=>exact⟨_,_,rfl,r,t⟩
theorem Ad.E4(r:Ad F vs []):vs=[]:=by
 cases r;rfl
theorem Ad.mono(s:AE F F')(r:Ad F vs ps):Ad F' vs ps:=by
 induction ps generalizing vs with
 |nil=>cases r.E4;exact .nil
 |cons p ps c=>obtain⟨v,ws,rfl,a,b⟩:=r.inv;exact .cons (a.mono s) (c b)
theorem Ad.length(r:Ad F vs ps):vs.length=ps.length:=by
 induction ps generalizing vs with
 |nil=>cases r.E4;rfl
 |cons p ps c=>obtain⟨v,ws,rfl,a,b⟩:=r.inv;exact vF (· + 1) (c b)
theorem Ad.get{F:Hp}{vs:List V}{ps:List PV}{i:Nat}{p:PV}(r:Ad F vs ps)(e:ps[i]?=some p):∃v,vs[i]?=some v/\Rep F v p:=by
 induction ps generalizing vs i with
 |nil=>cases e
 |cons q ps c=>
  obtain⟨v,ws,rfl,a,b⟩:=r.inv;cases i with
  |zero=>cases e;exact⟨_,rfl,a⟩
  |succ i=>exact c (vs:=ws) (i:=i) b e
theorem Ad.get'(r:Ad F vs ps)(e:vs[i]?=some v):∃p,ps[i]?=some p/\Rep F v p:=by
 induction ps generalizing vs i with
 |nil=>cases r.E4;cases e
 |cons q ps c=>
  obtain⟨u,ws,rfl,a,b⟩:=r.inv;cases i with
  |zero=>cases e;exact⟨_,rfl,a⟩
  |succ i=>exact c (vs:=ws) (i:=i) b e
theorem Ad.append{ws:List V}{c:List PV}(r:Ad F vs ps)(s:Ad F ws c):Ad F (vs++ws) (ps++c):=by
 induction ps generalizing vs with
 |nil=>cases r.E4;exact s
 |cons p ps d=>obtain⟨v,us,rfl,a,b⟩:=r.inv;exact .cons a (d b)
theorem Ad.take(n:Nat)(r:Ad F vs ps):Ad F (vs.take n) (ps.take n):=by
 induction ps generalizing vs n with
 |nil=>cases r.E4;rw[List.take_nil,List.take_nil];exact .nil
 |cons p ps c=>
  obtain⟨v,us,rfl,a,b⟩:=r.inv;cases n with
  |zero=>exact .nil
  |succ n=>exact .cons a (c n b)
theorem Ad.drop(n:Nat)(r:Ad F vs ps):Ad F (vs.drop n) (ps.drop n):=by
 induction ps generalizing vs n with
 |nil=>cases r.E4;rw[List.drop_nil,List.drop_nil];exact .nil
 |cons p ps c=>
  cases n with
  |zero=>exact r
  |succ n=>obtain⟨v,us,rfl,a,b⟩:=r.inv;exact c n b
theorem Ad.one(r:Rep F v p):Ad F [v] [p]:=.cons r .nil
theorem Ad.reverse(r:Ad F vs ps):Ad F vs.reverse ps.reverse:=by
 induction ps generalizing vs with
 |nil=>cases r.E4;exact .nil
 |cons p ps c=>obtain⟨v,us,rfl,a,b⟩:=r.inv;rw[Z0,Z0];exact(c b).append (.one a)
noncomputable def flat:PV->Bool
 | .lst _=>false
 | .tup _=>false
 | .Du _ _=>false
 | .obj _ _ _=>false
 | .exc _ _ _=>false
 | .con _ _=>false
 |_=>true
noncomputable def enc:PV->V
 | .bl b=>.bl b
 | .int i=>.int i
 | .str x=>.str x
 |_=>.AG
theorem Rep.enc(h:flat p=true)(r:Rep F v p):v=enc p:=by
 cases r <;> first|rfl|cases h
theorem ZAC(h:flat p=true):Rep F (enc p) p:=by
 cases p with
 |AG=>exact .AG
 |bl b=>exact .bl b
 |int i=>exact .int i
 |str x=>exact .str x
 |lst xs=>cases h
 |tup xs=>cases h
 |Du ks xs=>cases h
 |obj C ns xs=>cases h
 |exc C ns xs=>cases h
 |con a xs=>cases h
theorem Ad.enc(h:ps.all flat=true)(r:Ad F vs ps):vs=ps.map enc:=by
 induction ps generalizing vs with
 |nil=>exact r.E4
 |cons p ps c=>
  obtain⟨v,us,rfl,a,b⟩:=r.inv;rw[S7,CU]at h;rw[ES,<- Rep.enc h.1 a,<- c h.2 b]
theorem Y0(h:ps.all flat=true):Ad F (ps.map enc) ps:=by
 induction ps with
 |nil=>exact .nil
 |cons p r a=>
  rw[S7,CU]at h;exact .cons (ZAC h.1) (a h.2)
theorem Qe(h:flat p=true):EB (Fz.enc p)=true:=by cases p <;> first|rfl|cases h
theorem jM(ns:List Str):(ns.map PV.str).all flat=true:=by
 rw[Fo];intro x hx;obtain⟨y,_,rfl⟩:=List.mem_map.mp hx;rfl
theorem xK(ns:List Bool):(ns.map PV.bl).all flat=true:=by
 rw[Fo];intro x hx;obtain⟨y,_,rfl⟩:=List.mem_map.mp hx;rfl
theorem Y3(ns:List Str):(ns.map PV.str).map Fz.enc=ns.map V.str:=by rw[Il];rfl
theorem wG(ns:List Bool):(ns.map PV.bl).map Fz.enc=ns.map V.bl:=by rw[Il];rfl
theorem Ad.strs{ns:List Str}(r:Ad F vs (ns.map PV.str)):vs=ns.map V.str:=(r.enc (jM ns)).trans (Y3 ns)
theorem KZ(ns:List Str):Ad F (ns.map V.str) (ns.map PV.str):=by rw[<- Y3];exact Y0 (jM ns)
theorem Ad.bls{ns:List Bool}(r:Ad F vs (ns.map PV.bl)):vs=ns.map V.bl:=(r.enc (xK ns)).trans (wG ns)
inductive NK where
 |lst|Du (ks:List Key)|obj (C dx:Addr) (ns:List Str)
noncomputable def NK.ho:NK->List V->HO
 | .lst,vs=>.lst vs
 | .Du ks,vs=>.dK (ks.zip vs)
 | .obj C dx ns,vs=>.ins C dx (ns.zip vs)
noncomputable def NK.more:NK->List Addr
 | .obj _ dx _=>[dx]
 |_=>[]
def NK.side(k:NK)(a:Addr)(H:Hp):Prop:=match k with
 | .obj _ dx _=>H dx=some (.own a)
 |_=>True
def NK.fit(k:NK)(n:Nat):Prop:=match k with
 | .Du ks=>ks.length=n
 | .obj _ _ ns=>ns.length=n
 |_=>True
inductive OV where
 |fz (p:PV)
 |tp (xs:List OV)
 |nd (k:NK) (a:Addr) (xs:List OV)
variable{ts:List OV}
mutual
def OV.addrs:OV->List Addr
 | .fz _=>[]
 | .tp xs=>OV.Bd xs
 | .nd k a xs=>a::(k.more++OV.Bd xs)
def OV.Bd:List OV->List Addr
 | []=>[]
 |x::r=>x.addrs++OV.Bd r
end
mutual
def OV.pv:OV->PV
 | .fz p=>p
 | .tp xs=>.tup (OV.GS xs)
 | .nd .lst _ xs=>.lst (OV.GS xs)
 | .nd (.Du ks) _ xs=>.Du ks (OV.GS xs)
 | .nd (.obj C _ ns) _ xs=>.obj C ns (OV.GS xs)
def OV.GS:List OV->List PV
 | []=>[]
 |x::r=>x.pv::OV.GS r
end
mutual
inductive BN (F H:Hp):V->OV->Prop where
 |fz {v:V}{p:PV}:Rep F v p->BN F H v (.fz p)
 |tp {a:Addr}{vs:List V}{xs:List OV}:F a=some (.tup vs)->Bl F H vs xs->BN F H (.ref a) (.tp xs)
 |nd {k:NK}{a:Addr}{vs:List V}{xs:List OV}:H a=some (k.ho vs)->k.side a H->k.fit vs.length->Bl F H vs xs->BN F H (.ref a) (.nd k a xs)
inductive Bl (F H:Hp):List V->List OV->Prop where
 |nil:Bl F H [] []
 |cons {v:V}{t:OV}{vs:List V}{ts:List OV}:BN F H v t->Bl F H vs ts->Bl F H (v::vs) (t::ts)
end
def m9(F H:Hp)(v:V):OV->Prop
 | .fz p=>Rep F v p
 | .tp xs=>∃a vs,v=.ref a/\F a=some (.tup vs)/\Bl F H vs xs
 | .nd k a xs=>∃vs,v=.ref a/\H a=some (k.ho vs)/\k.side a H/\k.fit vs.length/\Bl F H vs xs
theorem BN.inv{t:OV}(r:BN F H v t):m9 F H v t:=by
 cases r with
 |fz r=>exact r
 |tp h r=>exact⟨_,_,rfl,h,r⟩
 |nd h a b r=>exact⟨_,rfl,h,a,b,r⟩
theorem Bl.inv{t:OV}(r:Bl F H vs (t::ts)):∃v ws,vs=v::ws/\BN F H v t/\Bl F H ws ts:=by
 cases r with
 |cons r t=>exact⟨_,_,rfl,r,t⟩
theorem Bl.E4(r:Bl F H vs []):vs=[]:=by
 cases r;rfl
theorem OV.FD{k:NK}{xs:List OV}:(OV.nd k a xs).addrs=a::(k.more++OV.Bd xs):=by rw[OV.addrs]
theorem OV.G0{xs:List OV}:(OV.tp xs).addrs=OV.Bd xs:=by rw[OV.addrs]
theorem OV.Ma:(OV.fz p).addrs=[]:=by rw[OV.addrs]
theorem OV.D4{x:OV}{r:List OV}:OV.Bd (x::r)=x.addrs++OV.Bd r:=by rw[OV.Bd]
theorem OV.IQ:OV.Bd []=[]:=by rw[OV.Bd]
theorem NK.iY{k:NK}(h:k.side a H)(s:∀b∈k.more,∀o,H b=some o->H' b=some o):k.side a H':=by
 cases k with
 |obj C dx ns=>exact s dx (by simp[NK.more]) _ h
 |_=>trivial
theorem BN.mono(f:AE F F'){t:OV}(r:BN F H v t):(∀a∈t.addrs,∀o,H a=some o->H' a=some o)->BN F' H' v t:=
 BN.rec (motive_1:=λv t _=>(∀a∈t.addrs,∀o,H a=some o->H' a=some o)->BN F' H' v t) (motive_2:=λvs ts _=>(∀a∈OV.Bd ts,∀o,H a=some o->H' a=some o)->Bl F' H' vs ts)
  (λr _=>.fz (r.mono f))
  (λh _ i s=>.tp (f _ _ h) (i (by rw[OV.G0]at s;exact s)))
  (λh d g _ i s=>by
   rw[OV.FD]at s;exact .nd (s _ BZ _ h) (NK.iY d λb e=>s b (C5 _ (HF _ e))) g (i λa c=>s a (C5 _ (Ep _ c))))
  (λ_=>.nil)
  (λ_ _ i k s=>by
   rw[OV.D4]at s;exact .cons (i λa c=>s a (HF _ c)) (k λa c=>s a (Ep _ c)))
  r
theorem Bl.mono(f:AE F F')(r:Bl F H vs ts)(s:∀a∈OV.Bd ts,∀o,H a=some o->H' a=some o):Bl F' H' vs ts:=by
 induction ts generalizing vs with
 |nil=>cases r.E4;exact .nil
 |cons p ps d=>
  obtain⟨v,ws,rfl,a,b⟩:=r.inv;rw[OV.D4]at s;exact .cons (a.mono f λa c=>s a (HF _ c)) (d b λa c=>s a (Ep _ c))
theorem BN.there{t:OV}(r:BN F H v t):∀a∈t.addrs,H a≠none:=
 BN.rec (motive_1:=λv t _=>∀a∈t.addrs,H a≠none) (motive_2:=λvs ts _=>∀a∈OV.Bd ts,H a≠none)
  (λ_ a c=>by rw[OV.Ma]at c;cases c)
  (λ_ _ i a c=>i a (by rw[OV.G0]at c;exact c))
  (λ{k b vs xs}h d f _ i a c=>by
   rw[OV.FD,Cj,GY]at c;rcases c with rfl|c|c
   .rw[h];exact λz=>by cases z
   .cases k with
    |obj C dx ns=>
     have e:a=dx:=List.mem_singleton.mp c;rw[e,show H dx=some (.own b)from d];exact λz=>by cases z
    |_=>cases c
   .exact i a c)
  (λa c=>by rw[OV.IQ]at c;cases c)
  (λ_ _ i k a c=>by
   rw[OV.D4,GY]at c;exact c.elim (i a) (k a))
  r
theorem Bl.there(r:Bl F H vs ts):∀a∈OV.Bd ts,H a≠none:=by
 induction ts generalizing vs with
 |nil=>intro a c;rw[OV.IQ]at c;cases c
 |cons p ps d=>
  obtain⟨v,ws,rfl,x,b⟩:=r.inv;intro a c;rw[OV.D4,GY]at c;exact c.elim (x.there a) (d b a)
theorem Bl.length(r:Bl F H vs ts):vs.length=ts.length:=by
 induction ts generalizing vs with
 |nil=>cases r.E4;rfl
 |cons p ps c=>obtain⟨v,ws,rfl,a,b⟩:=r.inv;exact vF (· + 1) (c b)
inductive Slot where
 |any|is (p:PV)|own (xs:List PV)|Af|sq (tp:Bool) (xs:List PV)|raw (P:Hp->V->Prop)|ow (lt:Bool) (t:OV)
variable{ss:List Slot}{s:Slot}{iQ nx:List Slot->Prop}
structure Ent0 where
 A:List Addr
 F0:Hp
 H0:Hp
 B:List Addr
variable{E:Ent0}
abbrev E3(A:List Addr)(F H:Hp):Ent0:=⟨A,F,H,[]⟩
def Ok(E:Ent0)(F H:Hp):Slot->Option (Option V)->Prop
 | .any,_=>True
 | .is p,o=>∃v,o=some (some v)/\Rep F v p
 | .own xs,o=>∃l vs,o=some (some (.ref l))/\F l=none/\E.H0 l=none/\H l=some (.lst vs)/\Ad F vs xs
 | .Af,o=>∃l,o=some (some (.ref l))/\F l=none/\(E.H0 l=none∨l∈E.A)/\CC H l
 | .sq true xs,o=>∃v,o=some (some v)/\Rep F v (.tup xs)
 | .sq false xs,o=>∃l vs,o=some (some (.ref l))/\(l∉E.A/\l∉E.B)/\E.H0 l=some (.lst vs)/\Ad F vs xs
 | .raw P,o=>∃v,o=some (some v)/\P F v/\∀F F',AE F F'->P F v->P F' v
 | .ow lt t,o=>∃v,o=some (some v)/\BN F H v t/\t.addrs.Nodup/\∀a∈t.addrs,F a=none/\(E.H0 a=none∨(lt=true/\a∈E.B))
def C6:Slot->Option (Option V)->Addr->Prop
 | .own _,o,l=>o=some (some (.ref l))
 | .Af,o,l=>o=some (some (.ref l))
 | .ow _ t,_,l=>l∈t.addrs
 |_,_,_=>False
structure Fin (E:Ent0) (F H:Hp):Prop where
 fh:AE F H
 f0:AE E.F0 F
 keep:∀a o,(a∉E.A/\a∉E.B)->E.H0 a=some o->H a=some o
 fresh:∀a o,F a=some o->E.F0 a=some o∨E.H0 a=none
 HH:∀a,a∈E.A->CC H a
 Lz:∀a,a∈E.A->F a=none
 a0:∀a,a∈E.A->E.H0 a≠none
 bF:∀a,a∈E.B->F a=none
 bH:∀a,a∈E.B->H a≠none
 b0:∀a,a∈E.B->E.H0 a≠none/\a∉E.A
structure Sg (E:Ent0) (ss:List Slot) (Z:L2.St) (F H:Hp):Prop extends Fin E F H where
 len:ss.length=Z.length
 ok:∀(i:Nat)s,ss[i]?=some s->Ok E F H s Z[i]?
 DS:∀(i j:Nat)s u l,i≠j->ss[i]?=some s->ss[j]?=some u->C6 s Z[i]? l->¬ C6 u Z[j]? l
structure Ex where
 C:Addr
 ns:List Str
 xs:List PV
def Ex.at(x:Ex)(F:Hp)(C:Value)(dx:Option Addr):Prop:=
 C=.ref x.C/\((x.ns=[]/\x.xs=[]/\dx=none)∨∃a vs,dx=some a/\F a=some (.xd (x.ns.zip vs))/\x.ns.length=vs.length/\Ad F vs x.xs)
class Xw where
 e:L2.St->XK
 J:List Slot->Prop
 D:Ex->Prop
structure Ent [Xw] extends Ent0 where
 hx:∀(ss:List Slot)(Z:L2.St)(F H:Hp)(x:Ex)(C:Value)(dx:Option Addr),Xw.J ss->Sg toEnt0 ss Z F H->Xw.D x->x.at F C dx->Xw.e Z C dx H
instance [Xw]:CoeOut Ent Ent0:=⟨Ent.toEnt0⟩
instance ae:Xw:=⟨λ_=>E0,λ_=>True,λ_=>False⟩
def DY(ss:List Slot)(Z:L2.St)(a:Addr):Prop:=∀i:Nat,ss[i]?=some .Af->Z[i]?≠some (some (.ref a))
structure Mv (E:Ent0) (ss:List Slot) (Z:L2.St) (F H F' H':Hp):Prop where
 st:Sg E ss Z F' H'
 ff:AE F F'
 hh:∀a o,DY ss Z a->H a=some o->H' a=some o
 nn:∀a o,F' a=some o->F a=some o∨H a=none
theorem Sg.OA(S:Sg E ss Z F H)(h:H l=none):DY ss Z l:=λi hi e=>by
 obtain⟨c,b,_,_,_,_,a,_⟩:=S.ok i _ hi;rw[e]at b;cases b;rw[h]at a;cases a
theorem Mv.none(m:Mv E ss Z F H F' H')(h:H' a=none):H a=none:=by
 cases e:H a with
 |none=>rfl
 |some o=>rw[m.hh a o (m.st.OA h) e]at h;cases h
theorem Mv.refl{E:Ent0}{ss:List Slot}{Z:L2.St}{F H:Hp}(S:Sg E ss Z F H):Mv E ss Z F H F H:=⟨S,AE.refl _,λ_ _ _ e=>e,λ_ _ e=>.inl e⟩
theorem Mv.trans{F1 H1 F2 H2:Hp}(a:Mv E ss Z F H F1 H1)(b:Mv E ss Z F1 H1 F2 H2):Mv E ss Z F H F2 H2:=
 ⟨b.st,a.ff.trans b.ff,λc o n e=>b.hh c o n (a.hh c o n e),λc o e=>(b.nn c o e).elim (λe=>a.nn c o e) λe=>.inr (a.none e)⟩
theorem Sg.Gr(S:Sg E ss Z F H){p:Addr}(h:H p=none):E.H0 p=none:=by
 cases e:E.H0 p with
 |none=>rfl
 |some o=>
  by_cases q:p∈E.A
  .obtain⟨_,_,b,_⟩:=S.HH p q;rw[h]at b;cases b
  .by_cases a:p∈E.B
   .exact absurd h (S.bH p a)
   .rw[S.keep p o ⟨q,a⟩ e]at h;cases h
theorem Sg.Cw(S:Sg E ss Z F H){p:Addr}(h:H p=none):F p=none:=AE.none S.fh h
theorem CC.keep(h:CC H l)(k:∀o,H l=some o->H' l=some o):CC H' l:=by
 obtain⟨a,b,e,r⟩:=h;exact⟨a,b,k _ e,r⟩
theorem Sg.gR(S:Sg E ss Z F H)(h:F l=some o):DY ss Z l:=λi hi e=>by
 obtain⟨c,b,a,_⟩:=S.ok i _ hi;rw[e]at b;cases b;rw[h]at a;cases a
theorem Sg.iN(S:Sg E ss Z F H)(b:l∉E.A)(h:E.H0 l=some o):DY ss Z l:=λi hi e=>by
 obtain⟨c,a,_,q,_⟩:=S.ok i _ hi;rw[e]at a;cases a;rcases q with q|q
 .rw[h]at q;cases q
 .exact b q
theorem Sg.ZCe(S:Sg E ss Z F H)(h:l∈E.B):DY ss Z l:=λi hi e=>by
 obtain⟨d,a,_,q,_⟩:=S.ok i _ hi;rw[e]at a;cases a;obtain⟨c,b⟩:=S.b0 l h;rcases q with q|q
 .exact c q
 .exact b q
theorem Sg.J8(S:Sg E ss Z F H)(h:ss[i]?=some s)(m:C6 s Z[i]? l):H l≠none:=by
 have k:=S.ok i s h;cases s with
 |own xs=>obtain⟨c,vs,a,_,_,b,_⟩:=k;rw[show Z[i]?=some (some (.ref l))from m]at a;cases a;rw[b];simp
 |Af=>obtain⟨c,a,_,_,_,_,b,_⟩:=k;rw[show Z[i]?=some (some (.ref l))from m]at a;cases a;rw[b];simp
 |ow lt t=>obtain⟨v,_,r,_⟩:=k;exact r.there l m
 |_=>cases m
theorem Sg.ZBN(S:Sg E ss Z F H)(h:ss[i]?=some s)(m:C6 s Z[i]? l):F l=none:=by
 have k:=S.ok i s h;cases s with
 |own xs=>obtain⟨c,vs,a,b,_⟩:=k;rw[show Z[i]?=some (some (.ref l))from m]at a;cases a;exact b
 |Af=>obtain⟨c,a,b,_⟩:=k;rw[show Z[i]?=some (some (.ref l))from m]at a;cases a;exact b
 |ow lt t=>obtain⟨v,_,r,_,q⟩:=k;exact(q l m).1
 |_=>cases m
theorem Sg.P6(S:Sg E ss Z F H)(h:ss[i]?=some s)(a:H l=none):¬ C6 s Z[i]? l:=λm=>S.J8 h m a
theorem Sg.LR(S:Sg E ss Z F H)(h:ss[i]?=some s)(m:C6 s Z[i]? l)(np:s≠.Af):DY ss Z l:=λj a b=>
 S.DS i j s _ l (by rintro rfl;rw[h]at a;exact np (Be a)) h a m b
theorem Ok.go(S:Sg E ss Z F H){i:Nat}{s:Slot}(hi:ss[i]?=some s)(ff:AE F F')(f:∀a o,C6 s Z[i]? a->H a=some o->H' a=some o)(Cw:∀a,H a≠none->F a=none->F' a=none)(np:s≠.Af):Ok E F' H' s Z[i]?:=by
 have k:=S.ok i s hi;cases s with
 |any=>trivial
 |is p=>obtain⟨v,e,r⟩:=k;exact⟨v,e,r.mono ff⟩
 |own xs=>
  obtain⟨l,vs,e,d,c,g,r⟩:=k;exact⟨l,vs,e,Cw l (by rw[g];simp) d,c,f l _ e g,r.mono ff⟩
 |Af=>exact absurd rfl np
 |sq tp xs=>
  cases tp with
  |true=>obtain⟨v,e,r⟩:=k;exact⟨v,e,r.mono ff⟩
  |false=>obtain⟨l,vs,e,d,c,r⟩:=k;exact⟨l,vs,e,d,c,r.mono ff⟩
 |raw P=>obtain⟨v,e,r,st⟩:=k;exact⟨v,e,st _ _ ff r,st⟩
 |ow lt t=>
  obtain⟨v,e,r,nd,q⟩:=k;exact⟨v,e,r.mono ff λa b o=>f a o b,nd,λa b=>⟨Cw a (r.there a b) (q a b).1,(q a b).2⟩⟩
theorem Sg.step(S:Sg E ss Z F H)(ff:AE F F')(fh:AE F' H')(c:∀a o,DY ss Z a->H a=some o->H' a=some o)(hn:∀a o,F' a=some o->F a=some o∨H a=none)
  (h:∀(i:Nat)l,ss[i]?=some .Af->Z[i]?=some (some (.ref l))->CC H' l):Mv E ss Z F H F' H':=by
 have Cw:∀a,H a≠none->F a=none->F' a=none:=λa h1 h2=>by
  cases e:F' a with
  |none=>rfl
  |some o=>
   rcases hn a o e with q|q
   .rw[h2]at q;cases q
   .exact absurd q h1
 have g:∀a,CC H a->DY ss Z a->CC H' a:=λa p n=>CC.keep p λo e=>c a o n e;refine⟨⟨⟨fh,S.f0.trans ff,λa o b e=>?_,λa o e=>?_,λa b=>?_,λa b=>?_,S.a0,λa d=>Cw a (S.bH a d) (S.bF a d),λa d=>?_,S.b0⟩,S.len,λi s hi=>?_,S.DS⟩,ff,c,hn⟩
 .exact c a o (S.iN b.1 e) (S.keep a o b e)
 .rcases hn a o e with q|q
  .exact S.fresh a o q
  .exact .inr (S.Gr q)
 .by_cases q:∃i:Nat,ss[i]?=some .Af/\Z[i]?=some (some (.ref a))
  .obtain⟨i,k,j⟩:=q;exact h i a k j
  .exact g a (S.HH a b) λi h1 h2=>q ⟨i,h1,h2⟩
 .refine Cw a ?_ (S.Lz a b);obtain⟨_,_,f,_⟩:=S.HH a b;rw[f];simp
 .obtain⟨o,e⟩:=Option.ne_none_iff_exists'.mp (S.bH a d);rw[c a o (S.ZCe d) e];simp
 .by_cases np:s=.Af
  .subst np;obtain⟨l,e,f,u,t⟩:=S.ok i _ hi;have v:=t;obtain⟨_,_,r,_⟩:=v;exact⟨l,e,Cw l (by rw[r];simp) f,u,h i l hi e⟩
  .exact Ok.go S hi ff (λa o m=>c a o (S.LR hi m np)) Cw np
theorem Sg.Gv(S:Sg E ss Z F H)(hi:ss[i]?=some .Af)(e:Z[i]?=some (some (.ref l))):CC H l:=by
 obtain⟨b,a,_,_,p⟩:=S.ok i _ hi;rw[e]at a;cases a;exact p
theorem Sg.alloc(S:Sg E ss Z F H){p:Addr}(h:H p=none)(o:HO):Mv E ss Z F H (upd F p o) (upd H p o):=by
 refine S.step (B8 (S.Cw h) _) (λa u e=>?_) (λa u _ e=>B8 h o a u e) (λa u e=>?_) λi l hi e=>CC.keep (S.Gv hi e) λu e=>B8 h o l u e
 .by_cases q:a=p
  .subst q;rw[AU]at e ⊢;exact e
  .rw[Az q]at e ⊢;exact S.fh a u e
 .by_cases q:a=p
  .subst q;exact .inr h
  .rw[Az q]at e;exact .inl e
theorem Sg.make(S:Sg E ss Z F H){p:Addr}(h:H p=none)(o:HO):Mv E ss Z F H F (upd H p o):=
 S.step (AE.refl _) (S.fh.trans (B8 h o)) (λa u _ e=>B8 h o a u e) (λa u e=>.inl e) λi l hi e=>CC.keep (S.Gv hi e) λu e=>B8 h o l u e
theorem Sg.grow(S:Sg E ss Z F H)(s:AE H H'):Mv E ss Z F H F H':=
 S.step (AE.refl _) (S.fh.trans s) (λa u _ e=>s a u e) (λa u e=>.inl e) λi l hi e=>CC.keep (S.Gv hi e) λu e=>s l u e
theorem Sg.setG(S:Sg E ss Z F H)(AW:Ok E F H s (some (some v)))(f:∀l,C6 s (some (some v)) l->∀(i:Nat)u,i≠j->ss[i]?=some u->¬ C6 u Z[i]? l):Sg E (ss.set j s) (Z.set j (some v)) F H:=by
 refine⟨S.toFin,by rw[Yw,Yw];exact S.len,λi u hi=>?_,λi k u w l Pd hi b d c=>?_⟩
 .by_cases q:i=j
  .subst q;have a:i<ss.length:=by have:=(List.getElem?_eq_some_iff.mp hi).1;simpa using this
   rw[Fs a]at hi;cases hi;rw[Fs (by rw[<- S.len];exact a)];exact AW
  .rw[Fq (BP q)]at hi ⊢;exact S.ok i u hi
 .by_cases q:i=j
  .subst q;have a:i<ss.length:=by have:=(List.getElem?_eq_some_iff.mp hi).1;simpa using this
   rw[Fs a]at hi;rw[Fs (by rw[<- S.len];exact a)]at d;cases hi;rw[Fq Pd]at b c;exact f l d k w (BP Pd) b c
  .rw[Fq (BP q)]at hi d
   by_cases e:k=j
   .subst e;have a:k<ss.length:=by have:=(List.getElem?_eq_some_iff.mp b).1;simpa using this
    rw[Fs a]at b;cases b;rw[Fs (by rw[<- S.len];exact a)]at c;exact f l c i u Pd hi d
   .rw[Fq (BP e)]at b c;exact S.DS i k u w l Pd hi b d c
theorem Sg.O1(S:Sg E ss Z F H)(r:Rep F v p):Sg E (ss.set j (.is p)) (Z.set j (some v)) F H:=S.setG ⟨v,rfl,r⟩ λ_ h=>by cases h
def Sv(ss:List Slot)(Z:L2.St)(F H:Hp)(v:V):Bool->List PV->Prop
 |true,xs=>Rep F v (.tup xs)
 |false,xs=>∃l vs,v=.ref l/\DY ss Z l/\H l=some (.lst vs)/\Ad F vs xs
def Fv(E:Ent0)(F:Hp)(v:V):Bool->List PV->Prop
 |true,xs=>Rep F v (.tup xs)
 |false,xs=>∃l vs,v=.ref l/\(F l=some (.lst vs)∨((l∉E.A/\l∉E.B)/\E.H0 l=some (.lst vs)))/\Ad F vs xs
structure Wp [Xw] (ss:List Slot) (t:TE) (k:PV->Prop):Prop where
 go:∀(E:Ent)(Z:L2.St)(F H:Hp)(Q:VK),Sg E ss Z F H->(∀v p F' H',Mv E ss Z F H F' H'->Rep F' v p->k p->Q v H')->t Z H Q
structure Wn [Xw] (ss:List Slot) (t:TE) (k:List PV->Prop):Prop where
 go:∀(E:Ent)(Z:L2.St)(F H:Hp)(Q:VK),Sg E ss Z F H->(∀l vs xs F' H',Mv E ss Z F H F' H'->F' l=none->H l=none->H' l=some (.lst vs)->Ad F' vs xs->k xs->Q (.ref l) H')->t Z H Q
structure Wq [Xw] (ss:List Slot) (t:TE) (k:Bool->List PV->Prop):Prop where
 go:∀(E:Ent)(Z:L2.St)(F H:Hp)(Q:VK),Sg E ss Z F H->(∀v tp xs F' H',Mv E ss Z F H F' H'->Sv ss Z F' H' v tp xs->k tp xs->Q v H')->t Z H Q
structure Wz [Xw] (ss:List Slot) (t:TE) (k:Bool->List PV->Prop):Prop where
 go:∀(E:Ent)(Z:L2.St)(F H:Hp)(Q:VK),Sg E ss Z F H->(∀v tp xs F' H',Mv E ss Z F H F' H'->Fv E F' v tp xs->k tp xs->Q v H')->t Z H Q
structure Wt [Xw] (ss:List Slot) (t:TT) (k:Bool->Prop):Prop where
 go:∀(E:Ent)(Z:L2.St)(F H:Hp)(Q:Bool->Hp->Prop),Sg E ss Z F H->(∀b F' H',Mv E ss Z F H F' H'->k b->Q b H')->t Z H Q
def Av(ss:List Slot)(Z:L2.St)(F H:Hp)(v:V):Slot->Prop
 | .is p=>Rep F v p
 | .sq tp xs=>Sv ss Z F H v tp xs
 | .raw P=>P F v/\∀F F',AE F F'->P F v->P F' v
 |_=>False
inductive Hk (ss:List Slot) (Z:L2.St) (F H:Hp):List V->List Slot->Prop where
 |nil:Hk ss Z F H [] []
 |cons {v:V}{s:Slot}{vs:List V}{l:List Slot}:Av ss Z F H v s->Hk ss Z F H vs l->Hk ss Z F H (v::vs) (s::l)
structure Wa [Xw] (ss:List Slot) (t:TA) (k:List Slot->Prop):Prop where
 go:∀(E:Ent)(Z:L2.St)(F H:Hp)(Q:List V->Hp->Prop),Sg E ss Z F H->(∀vs l F' H',Mv E ss Z F H F' H'->Hk ss Z F' H' vs l->k l->Q vs H')->t Z H Q
inductive B6 where
 |is (k:PV->Prop)|new (k:List PV->Prop)|Af|ow (k:OV->Prop)|mt (k:PV->OV->Prop)|uO (k:PV->OV->OV->Prop)
noncomputable def OV.val:OV->V
 | .nd _ a _=>.ref a
 |_=>.AG
def B6.ok(R:B6)(E:Ent0)(F' H':Hp)(v:V):Prop:=match R with
 | .is k=>∃p,Rep F' v p/\k p
 | .new k=>∃l vs xs,v=.ref l/\F' l=none/\E.H0 l=none/\H' l=some (.lst vs)/\Ad F' vs xs/\k xs
 | .Af=>∃l,v=.ref l/\F' l=none/\E.H0 l=none/\CC H' l
 | .ow k=>∃t,BN F' H' v t/\t.addrs.Nodup/\(∀a∈t.addrs,F' a=none/\E.H0 a=none)/\k t
 | .mt k=>∃p t,Rep F' v p/\BN F' H' t.val t/\t.addrs.Nodup/\(∀a∈t.addrs,F' a=none/\(E.H0 a=none∨a∈E.B))/\k p t
 | .uO k=>∃p t u,Rep F' v p/\BN F' H' t.val t/\BN F' H' u.val u/\(t.addrs++u.addrs).Nodup/\(∀a∈t.addrs++u.addrs,F' a=none/\(E.H0 a=none∨a∈E.B))/\k p t u
structure Ws [Xw] (ss:List Slot) (t:TS) (nx:List Slot->Prop) (R:B6):Prop where
 go:∀(E:Ent)(D:Ends)(Z:L2.St)(F H:Hp),Sg E ss Z F H->(∀AV σ' F' H',nx AV->Sg E AV σ' F' H'->AE F F'->D.nx σ' H')->(∀v F' H',Fin E F' H'->R.ok E F' H' v->D.rt v H')->t D Z H
section
variable[Xw]
variable{K:ZGX}{k:PV->Prop}{R:B6}
theorem Sv.mv(h:Sv ss Z F H v tp xs)(m:Mv E ss Z F H F' H'):Sv ss Z F' H' v tp xs:=by
 cases tp with
 |true=>exact Rep.mono m.ff h
 |false=>
  obtain⟨l,vs,e,n,r,q⟩:=h;exact⟨l,vs,e,n,m.hh l _ n r,q.mono m.ff⟩
theorem Sv.seq(S:Sg E ss Z F H)(h:Sv ss Z F H v tp xs):∃l vs,v=.ref l/\H l=some (Ey tp vs)/\Ad F vs xs:=by
 cases tp with
 |true=>cases h with|tup e r=>exact⟨_,_,rfl,S.fh _ _ e,r⟩
 |false=>obtain⟨l,vs,e,_,r,q⟩:=h;exact⟨l,vs,e,r,q⟩
theorem Fv.sv(S:Sg E ss Z F H)(h:Fv E F v tp xs):Sv ss Z F H v tp xs:=by
 cases tp with
 |true=>exact h
 |false=>
  obtain⟨l,vs,e,h1|⟨a,h1⟩,r⟩:=h
  .exact⟨l,vs,e,S.gR h1,S.fh _ _ h1,r⟩
  .exact⟨l,vs,e,S.iN a.1 h1,S.keep _ _ a h1,r⟩
theorem AF(h:ss[i]?=some (.is p))(b:k p):Wp ss (Cp i) k:=⟨λE Z F H Q S q=>by
 obtain⟨v,a,r⟩:=S.ok i _ h;exact⟨v,a,q v p F H (.refl S) r b⟩⟩
theorem Dp{i:Int}(a:k (.int i)):Wp ss (tC (.int i)) k:=⟨λE Z F H Q S q=>q _ _ F H (.refl S) (.int i) a⟩
theorem FE{x:Str}(a:k (.str x)):Wp ss (tC (.str x)) k:=⟨λE Z F H Q S q=>q _ _ F H (.refl S) (.str x) a⟩
theorem Gu(a:k (.bl b)):Wp ss (tC (.bl b)) k:=⟨λE Z F H Q S q=>q _ _ F H (.refl S) (.bl b) a⟩
theorem En(a:k .AG):Wp ss (tC .AG) k:=⟨λE Z F H Q S q=>q _ _ F H (.refl S) .AG a⟩
theorem EF(h:Wn ss te (λxs=>k (.lst xs))):Wp ss te k:=⟨λE Z F H Q S q=>h.go E Z F H Q S λl vs xs F' H' m c f EM r kk=>by
 have b:=m.st;have fr:Mv E ss Z F H (upd F' l (.lst vs)) H':=by
  have A:∀a,H' a≠none->a≠l->F' a=none->upd F' l (.lst vs) a=none:=λa _ h1 h2=>by rw[Az h1];exact h2
  refine⟨⟨⟨λa u e=>?_,b.f0.trans (B8 c _),b.keep,λa u e=>?_,b.HH,λa z=>?_,b.a0,λa y=>?_,b.bH,b.b0⟩,b.len,λi s hi=>?_,b.DS⟩,m.ff.trans (B8 c _),m.hh,λa u e=>?_⟩
  .by_cases q:a=l
   .subst q;rw[AU]at e;rw[<- e];exact EM
   .rw[Az q]at e;exact b.fh a u e
  .by_cases q:a=l
   .subst q;exact .inr (S.Gr f)
   .rw[Az q]at e;exact b.fresh a u e
  .by_cases q:a=l
   .subst q;obtain⟨_,_,e,_⟩:=S.HH _ z;rw[f]at e;cases e
   .rw[Az q];exact b.Lz a z
  .by_cases q:a=l
   .subst q;exact absurd f (S.bH _ y)
   .rw[Az q];exact b.bF a y
  .have x:∀a,C6 s Z[i]? a->a≠l:=by
    rintro a m rfl;exact S.P6 hi f m
   have kk:=b.ok i s hi;cases s with
   |any=>trivial
   |is p=>obtain⟨v,e,r⟩:=kk;exact⟨v,e,r.mono (B8 c _)⟩
   |own ys=>
    obtain⟨d,ws,e,j,g,w,r⟩:=kk;exact⟨d,ws,e,by rw[Az (x d e)];exact j,g,w,r.mono (B8 c _)⟩
   |Af=>
    obtain⟨d,e,j,g,w⟩:=kk;exact⟨d,e,by rw[Az (x d e)];exact j,g,w⟩
   |sq tp ys=>
    cases tp with
    |true=>obtain⟨v,e,r⟩:=kk;exact⟨v,e,r.mono (B8 c _)⟩
    |false=>obtain⟨d,ws,e,j,g,r⟩:=kk;exact⟨d,ws,e,j,g,r.mono (B8 c _)⟩
   |raw P=>obtain⟨v,e,r,st⟩:=kk;exact⟨v,e,st _ _ (B8 c _) r,st⟩
   |ow lt t=>
    obtain⟨v,e,r,nd,q⟩:=kk;exact⟨v,e,r.mono (B8 c _) λa _ o h=>h,nd,λa n=>⟨by rw[Az (x a n)];exact(q a n).1,(q a n).2⟩⟩
  .by_cases q:a=l
   .subst q;exact .inr f
   .rw[Az q]at e;exact m.nn a u e
 exact q _ _ _ _ fr (.lst AU (r.mono (B8 c _))) kk⟩
theorem FY{k:Bool->List PV->Prop}(h:Wp ss te (λp=>∃xs,(p=.lst xs/\k false xs)∨(p=.tup xs/\k true xs))):Wq ss te k:=⟨λE Z F H Q S q=>h.go E Z F H Q S λv p F' H' m r AM=>by
 obtain⟨xs,h⟩:=AM;rcases h with⟨rfl,kk⟩|⟨rfl,kk⟩
 .cases r with|lst h r=>exact q _ false xs F' H' m ⟨_,_,rfl,m.st.gR h,m.st.fh _ _ h,r⟩ kk
 .exact q v true xs F' H' m r kk⟩
theorem Hl{k:Bool->List PV->Prop}(h:ss[i]?=some (.is (.lst xs)))(a:k false xs):Wq ss (Cp i) k:=FY (AF h ⟨xs,.inl ⟨rfl,a⟩⟩)
theorem ZCy{k:Bool->List PV->Prop}(h:ss[i]?=some (.is (.tup xs)))(a:k true xs):Wq ss (Cp i) k:=FY (AF h ⟨xs,.inr ⟨rfl,a⟩⟩)
theorem FJ{k:Bool->List PV->Prop}(h:ss[i]?=some (.own xs))(a:k false xs):Wq ss (Cp i) k:=⟨λE Z F H Q S q=>by
 obtain⟨l,vs,e,d,c,b,r⟩:=S.ok i _ h;exact⟨_,e,q _ false xs F H (.refl S) ⟨l,vs,rfl,S.LR h e (by simp),b,r⟩ a⟩⟩
theorem bZ{k:Bool->List PV->Prop}(h:ss[i]?=some (.sq tp xs))(a:k tp xs):Wz ss (Cp i) k:=⟨λE Z F H Q S q=>by
 have kk:=S.ok i _ h;cases tp with
 |true=>obtain⟨v,e,r⟩:=kk;exact⟨_,e,q _ true xs F H (.refl S) r a⟩
 |false=>
  obtain⟨l,vs,e,b,c,r⟩:=kk;exact⟨_,e,q _ false xs F H (.refl S) ⟨l,vs,rfl,.inr ⟨b,c⟩,r⟩ a⟩⟩
theorem Nj{k:Bool->List PV->Prop}(h:Wp ss te (λp=>∃xs,(p=.lst xs/\k false xs)∨(p=.tup xs/\k true xs))):Wz ss te k:=⟨λE Z F H Q S q=>h.go E Z F H Q S λv p F' H' m r AM=>by
 obtain⟨xs,h⟩:=AM;rcases h with⟨rfl,kk⟩|⟨rfl,kk⟩
 .cases r with|lst h r=>exact q _ false xs F' H' m ⟨_,_,rfl,.inl h,r⟩ kk
 .exact q _ true xs F' H' m r kk⟩
theorem i8{k:Bool->List PV->Prop}(h:Wz ss te k):Wq ss te k:=⟨λE Z F H Q S q=>h.go E Z F H Q S λv tp xs F' H' m f kk=>q v tp xs F' H' m (f.sv m.st) kk⟩
theorem B7{k:Bool->List PV->Prop}(h:ss[i]?=some (.sq tp xs))(a:k tp xs):Wq ss (Cp i) k:=i8 (bZ h a)
theorem ZEa{f:Int->Int->Int}(h:Wp ss ta λx=>∃i,x=.int i/\Wp ss tb λy=>∃j,y=.int j/\k (.int (f i j))):Wp ss (Bk (GP λi j=>.int (f i j)) ta tb) k:=⟨λE Z F H Q S q=>
 h.go E Z F H _ S λv p F1 H1 a c AM=>by
  obtain⟨i,g,h2⟩:=AM;subst g;cases c.inv;exact h2.go E Z F1 H1 _ a.st λl p2 F2 H2 d b D9=>by
   obtain⟨j,e,kk⟩:=D9;subst e;cases b.inv;exact⟨i,j,rfl,rfl,q _ _ F2 H2 (a.trans d) (.int _) kk⟩⟩
theorem kg(h:Wp ss ta λx=>∃i,x=.int i/\Wp ss tb λy=>∃j,y=.int j/\k (.bl (f i j))):Wp ss (Bk (GP λi j=>.bl (f i j)) ta tb) k:=⟨λE Z F H Q S q=>
 h.go E Z F H _ S λv p F1 H1 a c AM=>by
  obtain⟨i,g,h2⟩:=AM;subst g;cases c.inv;exact h2.go E Z F1 H1 _ a.st λl p2 F2 H2 d b D9=>by
   obtain⟨j,e,kk⟩:=D9;subst e;cases b.inv;exact⟨i,j,rfl,rfl,q _ _ F2 H2 (a.trans d) (.bl _) kk⟩⟩
theorem NT{f:Int->Int}(h:Wp ss ta λx=>∃i,x=.int i/\k (.int (f i))):Wp ss (VR (rU λi=>.int (f i)) ta) k:=⟨λE Z F H Q S q=>
 h.go E Z F H _ S λv p F1 H1 b a AM=>by
  obtain⟨i,c,kk⟩:=AM;subst c;cases a.inv;exact⟨i,rfl,q _ _ F1 H1 b (.int _) kk⟩⟩
noncomputable def alike:PV->PV->Bool
 | .int i,.int j=>decide (i=j)
 | .str i,.str j=>decide (i=j)
 | .bl i,.bl j=>decide (i=j)
 | .AG,.AG=>true
 |_,_=>false
def LW(p q:PV):Bool:=flat p && flat q && W9 (Fz.enc p) (Fz.enc q)
theorem Zc{q:PV}(h:LW p q=true):decide (Fz.enc p=Fz.enc q)=alike p q:=by
 unfold LW at h;rw[CU,CU]at h;obtain⟨⟨h1,h2⟩,a⟩:=h;cases p <;> first|exact Bool.noConfusion h1|skip
 all_goals cases q <;> first|exact Bool.noConfusion h2|exact Bool.noConfusion a|rfl|exact decide_eq_decide.mpr ⟨λe=>by injection e,vF _⟩
theorem Qw(h:Wp ss ta λx=>Wp ss tb λy=>LW x y=true/\k (.bl (alike x y))):Wp ss (Bk aa ta tb) k:=⟨λE Z F H Q S q=>
 h.go E Z F H _ S λv p F1 H1 a c h2=>h2.go E Z F1 H1 _ a.st λf p2 F2 H2 d b AM=>by
  obtain⟨sc,kk⟩:=AM;have e:=sc;unfold LW at sc;rw[CU,CU]at sc;rw[c.enc sc.1.1,b.enc sc.1.2];refine⟨sc.2,?_⟩;rw[Zc e];exact q _ _ F2 H2 (a.trans d) (.bl _) kk⟩
theorem rL(h:Wp ss ta λx=>Wp ss tb λy=>LW x y=true/\k (.bl (!alike x y))):Wp ss (Bk iC ta tb) k:=⟨λE Z F H Q S q=>
 h.go E Z F H _ S λv p F1 H1 a c h2=>h2.go E Z F1 H1 _ a.st λf p2 F2 H2 d b AM=>by
  obtain⟨sc,kk⟩:=AM;have e:=sc;unfold LW at sc;rw[CU,CU]at sc;rw[c.enc sc.1.1,b.enc sc.1.2];refine⟨sc.2,?_⟩;rw[Zc e];exact q _ _ F2 H2 (a.trans d) (.bl _) kk⟩
theorem Ib(h:Wp ss ta λx=>∃c,x=.bl c/\if c=true then Wp ss tb k else k (.bl false)):Wp ss (VS ta tb) k:=⟨λE Z F H Q S q=>
 h.go E Z F H _ S λv p F1 H1 a d AM=>by
  obtain⟨c,e,h2⟩:=AM;subst e;cases d.inv;refine⟨c,rfl,?_⟩;cases c with
  |true=>rw[o9 rfl]at h2 ⊢;exact h2.go E Z F1 H1 _ a.st λg p2 F2 H2 f b kk=>q _ _ F2 H2 (a.trans f) b kk
  |false=>rw[mL (by decide)]at h2 ⊢;exact q _ _ F1 H1 a (.bl _) h2⟩
theorem Mc(h:Wp ss ta λx=>∃c,x=.bl c/\if c=true then k (.bl true)else Wp ss tb k):Wp ss (WD ta tb) k:=⟨λE Z F H Q S q=>
 h.go E Z F H _ S λv p F1 H1 a d AM=>by
  obtain⟨c,e,h2⟩:=AM;subst e;cases d.inv;refine⟨c,rfl,?_⟩;cases c with
  |true=>rw[o9 rfl]at h2 ⊢;exact q _ _ F1 H1 a (.bl _) h2
  |false=>rw[mL (by decide)]at h2 ⊢;exact h2.go E Z F1 H1 _ a.st λg p2 F2 H2 f b kk=>q _ _ F2 H2 (a.trans f) b kk⟩
theorem jZ(h:Wp ss ta λx=>∃c,x=.bl c/\k (.bl (!c))):Wp ss (X0 ta) k:=⟨λE Z F H Q S q=>
 h.go E Z F H _ S λv p F1 H1 b a AM=>by obtain⟨c,e,kk⟩:=AM;subst e;cases a.inv;exact⟨c,rfl,q _ _ F1 H1 b (.bl _) kk⟩⟩
theorem Ge{g:Int->Int->Bool}(h:Wp ss ta λx=>∃i,x=.int i/\Wp ss tb λy=>∃j,y=.int j/\if f i j=true then Wp ss tc (λz=>∃l,z=.int l/\k (.bl (g j l)))else k (.bl false)):
  Wp ss (Nc (GP λi j=>.bl (f i j)) (GP λi j=>.bl (g i j)) ta tb tc) k:=⟨λE Z F H Q S q=>
 h.go E Z F H _ S λv p F1 H1 d n AM=>by
  obtain⟨i,t,h2⟩:=AM;subst t;cases n.inv;exact h2.go E Z F1 H1 _ d.st λw p2 F2 H2 b m D9=>by
   obtain⟨j,s,a⟩:=D9;subst s;cases m.inv;refine⟨i,j,rfl,rfl,f i j,rfl,?_⟩;cases c:f i j with
   |true=>
    rw[c,o9 rfl]at a;rw[o9 rfl];exact a.go E Z F2 H2 _ b.st λu p3 F3 H3 o e WM=>by
     obtain⟨l,r,kk⟩:=WM;subst r;cases e.inv;exact⟨j,l,rfl,rfl,q _ _ F3 H3 (d.trans (b.trans o)) (.bl _) kk⟩
   |false=>
    rw[c,mL (by decide)]at a;rw[mL (by decide)];exact q _ _ F2 H2 (d.trans b) (.bl _) a⟩
theorem Cf{k:Bool->Prop}(h:Wp ss te λx=>∃c,x=.bl c/\k c):Wt ss (MY te) k:=⟨λE Z F H Q S q=>
 h.go E Z F H _ S λv p F1 H1 b a AM=>by obtain⟨c,e,kk⟩:=AM;subst e;cases a.inv;exact⟨c,rfl,q _ F1 H1 b kk⟩⟩
theorem Dn{k:Bool->Prop}(h:Wp ss te λx=>∃c,x=.bl c/\k c):Wt ss (tB te) k:=⟨λE Z F H Q S q=>
 h.go E Z F H _ S λv p F1 H1 b a AM=>by obtain⟨c,e,kk⟩:=AM;subst e;cases a.inv;exact⟨c,rfl,q _ F1 H1 b kk⟩⟩
theorem IU{k:Bool->Prop}(h:k true):Wt ss QX k:=⟨λE Z F H Q S q=>q _ F H (.refl S) h⟩
theorem D2{t:TT}{k:Bool->Prop}(h:Wt ss t λc=>k (!c)):Wt ss (WR t) k:=⟨λE Z F H Q S q=>h.go E Z F H _ S λc F1 H1 a kk=>q _ F1 H1 a kk⟩
theorem aC{t u:TT}{k:Bool->Prop}(h:Wt ss t λc=>if c=true then Wt ss u k else k false):Wt ss (Ya t u) k:=⟨λE Z F H Q S q=>
 h.go E Z F H _ S λc F1 H1 a h2=>by
  show if c=true then _ else _
  cases c with
  |true=>rw[o9 rfl]at h2 ⊢;exact h2.go E Z F1 H1 _ a.st λc2 F2 H2 b kk=>q _ F2 H2 (a.trans b) kk
  |false=>rw[mL (by decide)]at h2 ⊢;exact q _ F1 H1 a h2⟩
theorem HU{t u:TT}{k:Bool->Prop}(h:Wt ss t λc=>if c=true then k true else Wt ss u k):Wt ss (Sm t u) k:=⟨λE Z F H Q S q=>
 h.go E Z F H _ S λc F1 H1 a h2=>by
  show if c=true then _ else _
  cases c with
  |true=>rw[o9 rfl]at h2 ⊢;exact q _ F1 H1 a h2
  |false=>rw[mL (by decide)]at h2 ⊢;exact h2.go E Z F1 H1 _ a.st λc2 F2 H2 b kk=>q _ F2 H2 (a.trans b) kk⟩
end
structure We [Xw] (ss:List Slot) (t:TA) (k:List PV->Prop):Prop where
 go:∀(E:Ent)(Z:L2.St)(F H:Hp)(Q:List V->Hp->Prop),Sg E ss Z F H->(∀vs ps F' H',Mv E ss Z F H F' H'->Ad F' vs ps->k ps->Q vs H')->t Z H Q
structure Wo [Xw] (ss:List Slot) (t:TO) (k:Option Int->Prop):Prop where
 go:∀(E:Ent)(Z:L2.St)(F H:Hp)(Q:Option Int->Hp->Prop),Sg E ss Z F H->(∀o F' H',Mv E ss Z F H F' H'->k o->Q o H')->t Z H Q
section
variable[Xw]
variable{K:ZGX}{k:PV->Prop}{R:B6}
theorem Cs{k:List PV->Prop}(h:k []):We ss Bj k:=⟨λE Z F H Q S q=>q _ _ F H (.refl S) .nil h⟩
theorem Bm{k:List PV->Prop}(h:Wp ss te λp=>We ss t λps=>k (p::ps)):We ss (BC te t) k:=⟨λE Z F H Q S q=>
 h.go E Z F H _ S λv p F1 H1 b d h2=>h2.go E Z F1 H1 _ b.st λvs ps F2 H2 a c kk=>q _ _ F2 H2 (b.trans a) (.cons (d.mono a.ff) c) kk⟩
theorem Al{k:List Slot->Prop}(h:k []):Wa ss Bj k:=⟨λE Z F H Q S q=>q _ _ F H (.refl S) .nil h⟩
theorem AL{k:List Slot->Prop}(h:Wp ss te λp=>Wa ss t λl=>k (.is p::l)):Wa ss (BC te t) k:=⟨λE Z F H Q S q=>
 h.go E Z F H _ S λv p F1 H1 b d h2=>h2.go E Z F1 H1 _ b.st λvs l F2 H2 a c kk=>q _ _ F2 H2 (b.trans a) (.cons (s:=.is p) (d.mono a.ff) c) kk⟩
theorem B0{k:List Slot->Prop}(h:Wq ss te λtp xs=>Wa ss t λl=>k (.sq tp xs::l)):Wa ss (BC te t) k:=⟨λE Z F H Q S q=>
 h.go E Z F H _ S λv tp xs F1 H1 b d h2=>h2.go E Z F1 H1 _ b.st λvs l F2 H2 a c kk=>q _ _ F2 H2 (b.trans a) (.cons (s:=.sq tp xs) (d.mv a) c) kk⟩
theorem ZDH{k:Option Int->Prop}(h:k none):Wo ss Tp k:=⟨λE Z F H Q S q=>q _ F H (.refl S) h⟩
theorem mH{k:Option Int->Prop}(h:Wp ss te λp=>∃i,p=.int i/\k (some i)):Wo ss (TR te) k:=⟨λE Z F H Q S q=>
 h.go E Z F H _ S λv p F1 H1 b a AM=>by obtain⟨i,e,kk⟩:=AM;subst e;cases a.inv;exact⟨i,rfl,q _ F1 H1 b kk⟩⟩
theorem Vz{n:Nat}(h:n<=99999):n<sizeLine:=DD (Nat.lt_succ_of_le h) (small (B4 100000))
theorem FW(h:We ss t λps=>ps.length<=100000/\k (.tup ps)):Wp ss (Pt t) k:=⟨λE Z F H Q S q=>
 h.go E Z F H _ S λvs ps F1 H1 d b AM=>by obtain⟨e,kk⟩:=AM;exact⟨small (by rw[b.length];exact e),λa f=>by
  have c:=d.st.alloc f (.tup vs);exact q _ _ _ _ (d.trans c) (.tup AU (b.mono c.ff)) kk⟩⟩
theorem IL{k:List PV->Prop}(h:We ss t λps=>ps.length<=100000/\k ps):Wn ss (YT t) k:=⟨λE Z F H Q S q=>
 h.go E Z F H _ S λvs ps F1 H1 b d AM=>by obtain⟨g,kk⟩:=AM;exact⟨small (by rw[d.length];exact g),λa c=>by
  have f:=b.st.make c (.lst vs);refine q a vs ps F1 _ (b.trans f) (b.st.Cw c) ?_ AU d kk;cases e:H a with
  |none=>rfl
  |some o=>rw[b.hh a o (b.st.OA c) e]at c;cases c⟩⟩
theorem ni(h:Wq ss te λ_ xs=>k (.int xs.length)):Wp ss (DB (j6 K) (BC te Bj)) k:=⟨λE Z F H Q S q=>
 h.go E Z F H _ S λv tp xs F1 H1 a sv kk=>by
  obtain⟨l,vs,rfl,b,r⟩:=sv.seq a.st;refine⟨l,vs,rfl,(Ey.sq (K:=K) b).or,?_⟩;rw[r.length];exact q _ _ F1 H1 a (.int _) kk⟩
theorem Ad.BU{i:Int}(r:Ad F vs xs)(h:L2.BU xs i=some p):∃u,L2.BU vs i=some u/\Rep F u p:=by
 unfold L2.BU at h ⊢;rw[r.length];cases e:G8 xs.length i with
 |none=>rw[e]at h;cases h
 |some j=>
  rw[e]at h;exact r.get h
theorem G9(h:Wq ss ta λtp xs=>tp=false/\Wp ss tb λy=>∃i p,y=.int i/\L2.BU xs i=some p/\k p):Wp ss (Bk (NW K) ta tb) k:=⟨λE Z F H Q S q=>
 h.go E Z F H _ S λv tp xs F1 H1 b sv⟨m,h2⟩=>h2.go E Z F1 H1 _ b.st λn p2 F2 H2 a d⟨i,p,e,j,kk⟩=>by
  subst e;cases d.inv;subst m;obtain⟨l,vs,rfl,g,r⟩:=(sv.mv a).seq a.st;obtain⟨u,f,c⟩:=r.BU j;exact⟨l,vs,i,u,rfl,rfl,AO.of g,f,q _ _ F2 H2 (b.trans a) c kk⟩⟩
theorem ZEI(h:Wq ss ta λtp xs=>tp=true/\Wp ss tb λy=>∃i p,y=.int i/\L2.BU xs i=some p/\k p):Wp ss (Bk (LV K) ta tb) k:=⟨λE Z F H Q S q=>
 h.go E Z F H _ S λv tp xs F1 H1 b sv⟨m,h2⟩=>h2.go E Z F1 H1 _ b.st λn p2 F2 H2 a d⟨i,p,e,j,kk⟩=>by
  subst e;cases d.inv;subst m;obtain⟨l,vs,rfl,g,r⟩:=(sv.mv a).seq a.st;obtain⟨u,f,c⟩:=r.BU j;exact⟨l,vs,i,u,rfl,rfl,AN.of g,f,q _ _ F2 H2 (b.trans a) c kk⟩⟩
theorem Zw(h:Wp ss ta λp=>∃x,p=.str x/\Wq ss tb λ_ ys=>∃ns:List Str,ys=ns.map PV.str/\k (.bl (if neg then !decide (x∈ns)else decide (x∈ns)))):Wp ss (Bk (HW K neg) ta tb) k:=⟨λE Z F H Q S q=>
 h.go E Z F H _ S λv p F1 H1 b d AM=>by
  obtain⟨x,e,h2⟩:=AM;subst e;cases d.inv;exact h2.go E Z F1 H1 _ b.st λg tp ys F2 H2 a sv D9=>by
   obtain⟨ns,f,kk⟩:=D9;subst f;obtain⟨l,vs,rfl,c,r⟩:=sv.seq a.st;rw[r.strs]at c;refine⟨l,_,rfl,(Ey.sq (K:=K) c).or,rfl,II ns,?_⟩;rw[Pw];exact q _ _ F2 H2 (b.trans a) (.bl _) kk⟩
theorem Wv{k:List PV->Prop}(e:r=λxs H Q=>∃p ys,xs=[.ref p]/\(AO K H p ys∨AN K H p ys)/\∀l,H l=none->Q (.ref l) (upd H l (.lst ys)))(h:Wq ss te λ_ xs=>k xs):Wn ss (DB r (BC te Bj)) k:=⟨λE Z F H Q S q=>
 h.go E Z F H _ S λv tp xs F1 H1 b sv kk=>by
  subst e;obtain⟨l,vs,rfl,f,r⟩:=sv.seq b.st;refine⟨l,vs,rfl,(Ey.sq (K:=K) f).or,λa c=>?_⟩;have d:=b.st.make c (.lst vs);exact q a vs xs F1 _ (b.trans d) (b.st.Cw c) (b.none c) AU r kk⟩
theorem TK(d:r=λxs H Q=>∃p ys,xs=[.ref p]/\((AO K H p ys/\∀l,H l=none->Q (.ref l) (upd H l (.tup ys)))∨(AN K H p ys/\Q (.ref p) H)))(h:Wq ss te λ_ xs=>k (.tup xs)):Wp ss (DB r (BC te Bj)) k:=⟨λE Z F H Q S q=>
 h.go E Z F H _ S λv tp xs F1 H1 b sv kk=>by
  subst d;cases tp with
  |false=>
   obtain⟨l,vs,rfl,f,r⟩:=sv.seq b.st;refine⟨l,vs,rfl,.inl ⟨AO.of f,λa g=>?_⟩⟩;have c:=b.st.alloc g (.tup vs);exact q _ _ _ _ (b.trans c) (.tup AU (r.mono c.ff)) kk
  |true=>
   have i:Rep F1 v (.tup xs):=sv;cases i with
   |tup e r=>exact⟨_,_,rfl,.inr ⟨AN.of (b.st.fh _ _ e),q _ _ F1 H1 b (.tup e r) kk⟩⟩⟩
theorem PH{k:List PV->Prop}(h:Wq ss ta λtp xs=>tp=false/\Wq ss tb λC1 ys=>C1=false/\xs.length+ys.length<=100000/\k (xs++ys)):Wn ss (Bk iy ta tb) k:=⟨λE Z F H Q S q=>
 h.go E Z F H _ S λv tp xs F1 H1 c sv⟨j,h2⟩=>h2.go E Z F1 H1 _ c.st λm C1 ys F2 H2 b Kl⟨UU,g,kk⟩=>by
  subst j;subst UU;obtain⟨l,vs,rfl,i,r⟩:=(sv.mv b).seq b.st;obtain⟨l2,OD,rfl,CY,e⟩:=Kl.seq b.st;refine⟨l,l2,vs,OD,rfl,rfl,i,CY,small (by rw[r.length,e.length];exact g),λa d=>?_⟩;have f:=b.st.make d (.lst (vs++OD));exact q a _ _ F2 _ (c.trans (b.trans f)) (b.st.Cw d) ((c.trans b).none d) AU (r.append e) kk⟩
def EA{α:Type}(xs:List α)(lo hi:Option Int):List α:=(xs.drop (HT.Ax xs.length 0 lo)).take (HT.Ax xs.length xs.length hi - HT.Ax xs.length 0 lo)
theorem Ad.cut(r:Ad F vs xs)(lo hi:Option Int):Ad F (CN vs lo hi) (EA xs lo hi):=by
 unfold CN EA;rw[r.length];exact(r.drop _).take _
theorem ZDl{k:List PV->Prop}(h:Wq ss te λtp xs=>tp=false/\Wo ss tl λlo=>Wo ss th λhi=>k (EA xs lo hi)):Wn ss (Lq (W0 K) te tl th) k:=⟨λE Z F H Q S q=>
 h.go E Z F H _ S λv tp xs F1 H1 d sv⟨j,h2⟩=>h2.go E Z F1 H1 _ d.st λlo F2 H2 c i=>i.go E Z F2 H2 _ c.st λhi F3 H3 b kk=>by
  subst j;obtain⟨l,vs,rfl,g,r⟩:=(sv.mv (c.trans b)).seq b.st;refine⟨l,vs,rfl,AO.of g,λa e=>?_⟩;have f:=b.st.make e (.lst (CN vs lo hi));exact q a _ _ F3 _ (d.trans (c.trans (b.trans f))) (b.st.Cw e) ((d.trans (c.trans b)).none e) AU (r.cut lo hi) kk⟩
def gM(tp:Bool)(xs:List PV):PV:=if tp then .tup xs else .lst xs
def Pz(K:ZGX):V->Option Int->Option Int->Hp->VK->Prop:=λx lo hi H Q=>W0 K x lo hi H Q∨jB K x lo hi H Q
theorem JD{X:Cx}:KU X (Pz X.K):=by
 intro Ze s Z H x v vl vu lo hi sl Q I a c pl b h;rcases h with h|h
 .exact HQ Ze s Z H x v vl vu lo hi sl Q I a c pl b h
 .exact ve Ze s Z H x v vl vu lo hi sl Q I a c pl b h
theorem jP(h:Wq ss te λtp xs=>Wo ss tl λlo=>Wo ss th λhi=>k (gM tp (EA xs lo hi))):Wp ss (Lq (Pz K) te tl th) k:=⟨λE Z F H Q S q=>
 h.go E Z F H _ S λv tp xs F1 H1 i sv h2=>h2.go E Z F1 H1 _ i.st λlo F2 H2 d o=>o.go E Z F2 H2 _ d.st λhi F3 H3 b kk=>by
  have m:=sv.mv (d.trans b);have g:=i.trans (d.trans b);cases tp with
  |false=>
   obtain⟨l,vs,rfl,n,r⟩:=m.seq b.st;refine .inl ⟨l,vs,rfl,AO.of n,λa f=>?_⟩;have c:=b.st.alloc f (.lst (CN vs lo hi));exact q _ _ _ _ (g.trans c) (.lst AU ((r.cut lo hi).mono c.ff)) kk
  |true=>
   have s:Rep F3 v (.tup xs):=m;cases s with
   |@tup _ vs _ e r=>
    refine .inr ⟨_,vs,rfl,AN.of (b.st.fh _ _ e),λhw=>?_,λhw a f=>?_⟩
    .have p:EA xs lo hi=xs:=by
      rw[r.length]at hw;unfold EA;rw[hw.1,hw.2];simp
     refine q _ _ F3 H3 g (.tup e r) ?_;have j:=kk;rw[p]at j;exact j
    .have c:=b.st.alloc f (.tup (CN vs lo hi));exact q _ _ _ _ (g.trans c) (.tup AU ((r.cut lo hi).mono c.ff)) kk⟩
theorem ZBG{k:List PV->Prop}(h:Wq ss te λ_ xs=>∃ns:List Str,xs=ns.map PV.str/\ns.length<64/\∀BW:List Str,BW.Perm ns->sortedS BW=true->k (BW.map PV.str)):Wn ss (DB (Ui K) (BC te Bj)) k:=⟨λE Z F H Q S q=>
 h.go E Z F H _ S λv tp xs F1 H1 b sv AM=>by
  obtain⟨ns,e,g,kk⟩:=AM;subst e;obtain⟨l,vs,rfl,d,r⟩:=sv.seq b.st;rw[r.strs]at d;refine⟨l,tp,ns,rfl,Ey.sq d,g,λa BW c j i=>?_⟩;have f:=b.st.make c (.lst (BW.map V.str));exact q a _ _ F1 _ (b.trans f) (b.st.Cw c) (b.none c) AU (KZ BW) (kk BW j i)⟩
theorem oP(xs ys:List Str):G7 (xs.map V.str) (ys.map V.str)=decide (xs=ys):=by
 by_cases h:xs=ys
 .subst h;rw[ZBz,mG rfl]
 .rw[p6 h]
  by_cases a:xs.length=ys.length
  .rw[Li (by simpa using a)]
   cases c:(List.range (xs.map V.str).length).all λj=>Dg ((xs.map V.str).getD j .AG) ((ys.map V.str).getD j .AG)with
   |false=>rfl
   |true=>
    exfalso;apply h;apply kB a;intro j h1 h2;have q:=List.all_eq_true.mp c j (List.mem_range.mpr (by simpa using h1))
    have e:(xs.map V.str)[j]?=some (.str xs[j]):=by rw[Bt,C4 h1];rfl
    have d:(ys.map V.str)[j]?=some (.str ys[j]):=by rw[Bt,C4 h2];rfl
    rw[NR e,NR d]at q;have b:(xs[j] == ys[j])=true:=q
    simpa using b
  .rw[M8 (by simpa using a)]
theorem fD(h:Wq ss ta λtp xs=>∃ns:List Str,xs=ns.map PV.str/\Wq ss tb λC1 ys=>C1=tp/\∃a:List Str,ys=a.map PV.str/\k (.bl (if neg then !decide (ns=a)else decide (ns=a)))):Wp ss (Bk (O0 K neg) ta tb) k:=⟨λE Z F H Q S q=>
 h.go E Z F H _ S λv tp xs F1 H1 c sv⟨ns,i,h2⟩=>h2.go E Z F1 H1 _ c.st λj C1 ys F2 H2 b Kl⟨f,a,g,kk⟩=>by
  subst i;subst g;subst f;obtain⟨l,vs,rfl,d,r⟩:=(sv.mv b).seq b.st;obtain⟨l2,OD,rfl,CY,e⟩:=Kl.seq b.st;rw[r.strs]at d;rw[e.strs]at CY;refine⟨l,l2,ns.map V.str,a.map V.str,rfl,rfl,?_,II _,II _,?_⟩
  .cases C1
   .exact .inl ⟨AO.of d,AO.of CY⟩
   .exact .inr ⟨AN.of d,AN.of CY⟩
  .rw[oP];cases neg
   .exact q _ _ F2 H2 (c.trans b) (.bl _) kk
   .exact q _ _ F2 H2 (c.trans b) (.bl _) kk⟩
theorem Om(c:r=λxs H Q=>∃(p:Addr)(bs:List Bool),xs=[.ref p]/\AO K H p (bs.map V.bl)/\Q (.bl (bs.all id)) H)(h:Wq ss te λtp xs=>tp=false/\∃bs:List Bool,xs=bs.map PV.bl/\k (.bl (bs.all id))):Wp ss (DB r (BC te Bj)) k:=⟨λE Z F H Q S q=>
 h.go E Z F H _ S λv tp xs F1 H1 a sv AM=>by
  obtain⟨d,bs,e,kk⟩:=AM;subst c;subst e;subst d;obtain⟨l,vs,rfl,b,r⟩:=sv.seq a.st;rw[r.bls]at b;exact⟨l,bs,rfl,AO.of b,q _ _ F1 H1 a (.bl _) kk⟩⟩
noncomputable def tyP:PV->String
 | .AG => "NoneType"
 | .bl _ => "bool"
 | .int _ => "int"
 | .str _ => "str"
 | .lst _ => "list"
 | .tup _ => "tuple"
 | .Du _ _ => "dict"
 |_ => ""
def JI:PV->Value
 | .obj _ _ _=>.none
 | .exc _ _ _=>.none
 | .con _ _=>.none
 |p=>.type (tyP p)
theorem Oi(h:PySem.W.kitOne K .none (.type n)=some b):False:=by
 unfold PySem.W.kitOne PySem.W.kitCls PySem.W.subIn at h;simp at h
theorem Rep.jS(s:AE F H)(r:Rep F v p)(a:PySem.W.kitOne K (JI p) (.type n)=some b):EV K H v (JI p):=by
 cases r with
 |AG=>exact .AG
 |bl b=>exact .bl b
 |int i=>exact .int i
 |str x=>exact .str x
 |lst h _=>exact .lst (s _ _ h)
 |tup h _=>exact .tup (s _ _ h)
 |Du h _ _=>exact .dK (s _ _ h)
 |obj _ _ _ _=>exact(Oi a).elim
 |RD _=>exact(Oi a).elim
 |con=>exact(Oi a).elim
 |exc _ _ _ _=>exact(Oi a).elim
theorem KC(h:Wp ss te λp=>∃b,PySem.W.kitOne K (JI p) (.type n)=some b/\k (.bl b)):Wp ss (DB (LH K) (BC te (BC (tC (.ty n)) Bj))) k:=⟨λE Z F H Q S q=>
 h.go E Z F H _ S λv p F1 H1 a r AM=>by obtain⟨b,c,kk⟩:=AM;exact⟨v,n,_,b,rfl,r.jS a.st.fh c,c,q _ _ F1 H1 a (.bl _) kk⟩⟩
theorem zO(e:r=λxs H Q=>∃i j,xs=[.int i,.int j]/\Q (.int (if j > i then j else i)) H)(h:Wp ss ta λx=>∃i,x=.int i/\Wp ss tb λy=>∃j,y=.int j/\k (.int (if j > i then j else i))):Wp ss (DB r (BC ta (BC tb Bj))) k:=⟨λE Z F H Q S q=>
 h.go E Z F H _ S λv p F1 H1 a c AM=>by
  obtain⟨i,g,h2⟩:=AM;subst e;subst g;cases c.inv;exact h2.go E Z F1 H1 _ a.st λl p2 F2 H2 d b D9=>by
   obtain⟨j,f,kk⟩:=D9;subst f;cases b.inv;exact⟨i,j,rfl,q _ _ F2 H2 (a.trans d) (.int _) kk⟩⟩
theorem ZEl(e:r=λxs H Q=>∃i j,xs=[.int i,.int j]/\Q (.int (if j<i then j else i)) H)(h:Wp ss ta λx=>∃i,x=.int i/\Wp ss tb λy=>∃j,y=.int j/\k (.int (if j<i then j else i))):Wp ss (DB r (BC ta (BC tb Bj))) k:=⟨λE Z F H Q S q=>
 h.go E Z F H _ S λv p F1 H1 a c AM=>by
  obtain⟨i,g,h2⟩:=AM;subst e;subst g;cases c.inv;exact h2.go E Z F1 H1 _ a.st λl p2 F2 H2 d b D9=>by
   obtain⟨j,f,kk⟩:=D9;subst f;cases b.inv;exact⟨i,j,rfl,q _ _ F2 H2 (a.trans d) (.int _) kk⟩⟩
end
structure Src (E:Ent0) (F1:Hp) (J:It) (xs:List PV):Prop where
 go:∀(ss:List Slot)(Z:L2.St)(F H:Hp)(i:Nat),AE F1 F->Sg E ss Z F H->i<xs.length->J.go i H
 stop:∀(ss:List Slot)(Z:L2.St)(F H:Hp),AE F1 F->Sg E ss Z F H->J.stop xs.length H
 Fh:∀(ss:List Slot)(Z:L2.St)(F H:Hp)(i:Nat)(x:V)(H':Hp),AE F1 F->Sg E ss Z F H->i<xs.length->J.Fh i H x H'->∃p F',xs[i]?=some p/\Mv E ss Z F H F' H'/\Rep F' x p
structure Wi [Xw] (ss:List Slot) (wi:TI) (k:List PV->Prop):Prop where
 go:∀(E:Ent)(Z:L2.St)(F H:Hp)(R:It->Hp->Prop),Sg E ss Z F H->(∀J xs F' H',Mv E ss Z F H F' H'->Src E F' J xs->k xs->R J H')->wi Z H R
structure Wg [Xw] (ss:List Slot) (g:TG) (p:PV) (k:List Slot->Prop):Prop where
 go:∀(E:Ent)(Z:L2.St)(F H:Hp)(v:V)(Q:L2.St->Hp->Prop),Sg E ss Z F H->Rep F v p->(∀AV σ',k AV->Sg E AV σ' F H->Q σ' H)->g v Z H Q
section
variable[Xw]
variable{K:ZGX}{k:PV->Prop}{R:B6}
theorem Zk(h:∀(ss:List Slot)(Z:L2.St)(F H:Hp),AE F' F->Sg E ss Z F H->H l=some (Ey tp vs))(r:Ad F' vs xs):Src E F' (JP K tp l vs) xs where
 go:=λss Z F H i s S hi=>⟨Ey.sq (h ss Z F H s S),by rw[r.length];exact hi⟩
 stop:=λss Z F H s S=>⟨Ey.sq (h ss Z F H s S),by rw[r.length];exact B4 _⟩
 Fh:=λss Z F H i x H' s S hi y=>by
  obtain⟨e,hx⟩:=y;subst e;obtain⟨p,b,a⟩:=r.get' hx;exact⟨p,F,b,.refl S,a.mono s⟩
theorem Wd{k:List PV->Prop}(h:Wz ss te λ_ xs=>k xs):Wi ss (R1 K te) k:=⟨λE Z F H R S q=>
 h.go E Z F H _ S λv tp xs F1 H1 a f kk=>by
  cases tp with
  |true=>
   have c:Rep F1 v (.tup xs):=f;cases c with
   |tup e r=>exact⟨true,_,_,rfl,AN.of (a.st.fh _ _ e),q _ _ F1 H1 a (Zk (tp:=true) (λss Z F H s S=>S.fh _ _ (s _ _ e)) r) kk⟩
  |false=>
   obtain⟨l,vs,rfl,h1,r⟩:=f;have b:∀(ss:List Slot)(Z:L2.St)(F H:Hp),AE F1 F->Sg E ss Z F H->H l=some (.lst vs):=λss Z F H s S=>by
    rcases h1 with h1|⟨hA,h1⟩
    .exact S.fh _ _ (s _ _ h1)
    .exact S.keep _ _ hA h1
   exact⟨false,l,vs,rfl,AO.of (b ss Z F1 H1 (AE.refl _) a.st),q _ _ F1 H1 a (Zk (tp:=false) b r) kk⟩⟩
def Kr(n:Nat):List PV:=(List.range n).map λi:Nat=>PV.int (i:Int)
theorem Q8(n:Nat):(Kr n).length=n:=by simp[Kr]
theorem ZEZ{n:Nat}(h:(Kr n)[i]?=some p):i<n/\p=.int (i:Int):=by
 have hi:i<n:=by have:=(List.getElem?_eq_some_iff.mp h).1;rwa [Q8]at this
 unfold Kr at h;rw[Bt,ZF5 hi]at h;exact⟨hi,(Be h).symm⟩
theorem vB{k:List PV->Prop}(h:Wp ss te λp=>∃j:Int,p=.int j/\j<=1000000/\-1000000<=j/\k (Kr j.toNat)):Wi ss (TZ (BC te Bj)) k:=⟨λE Z F H R S q=>
 h.go E Z F H _ S λv p F1 H1 a r AM=>by
  obtain⟨j,e,h1,h2,kk⟩:=AM;subst e;cases r.inv;refine⟨j,rfl,by omega,by omega,q _ (Kr j.toNat) F1 H1 a ⟨λss Z F H i s S hi=>?_,λss Z F H s S=>?_,λss Z F H i x H' s S hi y=>?_⟩ kk⟩
  .rw[Q8]at hi;exact hi
  .show _<=_;rw[Q8];exact B4 _
  .obtain⟨e,hx⟩:=y;subst e;subst hx;rw[Q8]at hi;refine⟨.int (i:Int),F,?_,.refl S,?_⟩
   .unfold Kr;rw[Bt,ZF5 hi];rfl
   .rw[Int.zero_add];exact .int _⟩
theorem RW{k:List Slot->Prop}(h:k (ss.set j (.is p))):Wg ss (Dj j) p k:=⟨λE Z F H v Q S r q=>q _ _ h (S.O1 r)⟩
theorem WO{k:List Slot->Prop}(h:∃a b,p=.tup [a,b]/\k ((ss.set i (.is a)).set j (.is b))):Wg ss (Sn K 2 (Qb (Dj i) (Qb (Dj j) U1))) p k:=⟨λE Z F H v Q S r q=>by
 obtain⟨a,b,rfl,kk⟩:=h;obtain⟨_,_,rfl,e,r⟩:=r.inv;obtain⟨_,_,rfl,d,r⟩:=r.inv;obtain⟨_,_,rfl,c,r⟩:=r.inv;obtain rfl:=r.E4;exact⟨_,_,rfl,AN.of (S.fh _ _ e),rfl,_,_,rfl,_,_,rfl,rfl,q _ _ kk ((S.O1 d).O1 c)⟩⟩
theorem B2{t:TS}(h:Ws ss t (λAV=>Ws AV u nx R) R):Ws ss (Km t u) nx R:=⟨λE D Z F H S hn a=>
 h.go E { D with nx:=u D } Z F H S (λAV σ' F' H' w S' s=>w.go E D σ' F' H' S' (λEh σ2 F2 H2 b S2 s2=>hn Eh σ2 F2 H2 b S2 (s.trans s2)) a) a⟩
theorem GN{t:TS}(h:Ws ss t nx R):Ws ss (T8 t) nx R:=⟨λE D Z F H S hn a=>⟨D.nx,h.go E { D with nx:=D.nx } Z F H S hn a,λ_ _ q=>q⟩⟩
theorem Ws.mono{t:TS}(h:Ws ss t nx R)(i:∀s,nx s->iQ s):Ws ss t iQ R:=⟨λE D Z F H S hn a=>h.go E D Z F H S (λAV σ' F' H' n=>hn AV σ' F' H' (i _ n)) a⟩
theorem Jy{t:TS}(J:List Slot->Prop)(h:Ws ss t J R)(h2:∀AV,J AV->Ws AV u nx R):Ws ss (Km t u) nx R:=B2 (h.mono h2)
theorem EI(h:Wp ss te λp=>nx (ss.set i (.is p))):Ws ss (Fd te (Dj i)) nx R:=⟨λE D Z F H S hn b=>
 h.go E Z F H _ S λv p F1 H1 a r kk=>hn _ _ F1 H1 kk (a.st.O1 r) a.ff⟩
theorem Y6(h:Wp ss te λp=>Wg ss g p nx):Ws ss (Fd te g) nx R:=⟨λE D Z F H S hn b=>
 h.go E Z F H _ S λv p F1 H1 a r kk=>kk.go E Z F1 H1 v _ a.st r λAV σ' n S'=>hn _ _ F1 H1 n S' a.ff⟩
theorem FL(h:Wn ss te λxs=>nx (ss.set i (.own xs))):Ws ss (Fd te (Dj i)) nx R:=⟨λE D Z F H S hn k=>
 h.go E Z F H _ S λl vs xs F1 H1 a f b Fm r kk=>hn _ _ F1 H1 kk (a.st.setG ⟨l,vs,rfl,f,S.Gr b,Fm,r⟩ λg e j u _ d c=>by cases e;exact S.P6 d b c) a.ff⟩
theorem Ba(h:Wp ss te k):Ws ss (M7 te) nx (.is k):=⟨λE D Z F H S hn b=>
 h.go E Z F H _ S λv p F1 H1 a r kk=>b v F1 H1 a.st.toFin ⟨p,r,kk⟩⟩
theorem EO{k:List PV->Prop}(h:Wn ss te k):Ws ss (M7 te) nx (.new k):=⟨λE D Z F H S hn b=>
 h.go E Z F H _ S λl vs xs F1 H1 a d c Fm r kk=>b _ F1 H1 a.st.toFin ⟨l,vs,xs,rfl,d,S.Gr c,Fm,r,kk⟩⟩
theorem WH{k:List PV->Prop}(h:ss[i]?=some (.own xs))(kk:k xs):Ws ss (M7 (Cp i)) nx (.new k):=⟨λE D Z F H S hn a=>by
 obtain⟨l,vs,e,d,c,b,r⟩:=S.ok i _ h;exact⟨_,e,a _ F H S.toFin ⟨l,vs,xs,rfl,d,c,b,r,kk⟩⟩⟩
theorem CM{c:TT}{t:TS}(h:Wt ss c λb=>if b=true then Ws ss t nx R else Ws ss u nx R):Ws ss (Vo c t u) nx R:=⟨λE D Z F H S hn d=>
 h.go E Z F H _ S λb F1 H1 a w=>by
  show if b=true then _ else _
  cases b with
  |true=>rw[o9 rfl]at w ⊢;exact w.go E D Z F1 H1 a.st (λEh σ2 F2 H2 n S2 s2=>hn Eh σ2 F2 H2 n S2 (a.ff.trans s2)) d
  |false=>rw[mL (by decide)]at w ⊢;exact w.go E D Z F1 H1 a.st (λEh σ2 F2 H2 n S2 s2=>hn Eh σ2 F2 H2 n S2 (a.ff.trans s2)) d⟩
theorem An(h:nx ss):Ws ss Pb nx R:=⟨λE D Z F H S hn a=>hn ss Z F H h S (AE.refl _)⟩
theorem Gi(h:Wp ss te λ_=>nx ss):Ws ss (Kq te) nx R:=⟨λE D Z F H S hn b=>
 h.go E Z F H _ S λv p F1 H1 a r kk=>hn ss Z F1 H1 kk a.st a.ff⟩
theorem Sg.drop(S:Sg E ss Z F H)(i:Nat):Sg E (ss.set i .any) Z F H:=by
 have c:∀(j:Nat)u,(ss.set i .any)[j]?=some u->u=.any∨ss[j]?=some u:=λj u a=>by
  by_cases q:j=i
  .subst q;have g:j<ss.length:=by have:=(List.getElem?_eq_some_iff.mp a).1;simpa using this
   rw[Fs g]at a;exact .inl (Be a).symm
  .rw[Fq (BP q)]at a;exact .inr a
 refine⟨S.toFin,by rw[Yw];exact S.len,λj u a=>?_,λj k u w l b a f e d=>?_⟩
 .rcases c j u a with rfl|h
  .trivial
  .exact S.ok j u h
 .rcases c j u a with rfl|h
  .cases e
  .rcases c k w f with rfl|h2
   .cases d
   .exact S.DS j k u w l b h h2 e d
theorem Uy(e:Z[i]?=some (some v)):Z.set i (some v)=Z:=by
 apply kC;intro j
 by_cases q:j=i
 .subst q;rw[Fs (List.getElem?_eq_some_iff.mp e).1,e]
 .rw[Fq (BP q)]
theorem Sg.W7(S:Sg E ss Z F H)(j:F a=none)(c:E.H0 a=none∨a∈E.B)(hn:∀(i:Nat)s,ss[i]?=some s->¬ C6 s Z[i]? a):Sg E ss Z F (upd H a o):=by
 have f:∀b u,b≠a->H b=some u->upd H a o b=some u:=λb u h e=>by rw[Az h];exact e
 refine⟨⟨λb u e=>?_,S.f0,λb u d e=>?_,S.fresh,λb d=>?_,S.Lz,S.a0,S.bF,λb g=>?_,S.b0⟩,S.len,λi s hi=>?_,S.DS⟩
 .exact f b u (DU e j) (S.fh b u e)
 .refine f b u ?_ (S.keep b u d e);rintro rfl;rcases c with c|c
  .rw[c]at e;cases e
  .exact d.2 c
 .refine CC.keep (S.HH b d) λu e=>f b u ?_ e;rintro rfl;rcases c with c|c
  .exact S.a0 _ d c
  .exact(S.b0 _ c).2 d
 .by_cases q:b=a
  .subst q;rw[AU];simp
  .rw[Az q];exact S.bH b g
 .by_cases np:s=.Af
  .subst np;obtain⟨l,e,p,n,k⟩:=S.ok i _ hi;exact⟨l,e,p,n,CC.keep k λu h=>f l u (by rintro rfl;exact hn i _ hi e) h⟩
  .exact Ok.go S hi (AE.refl _) (λb u m h=>f b u (by rintro rfl;exact hn i _ hi m) h) (λ_ _ h=>h) np
theorem Sg.put(S:Sg E ss Z F H){ys:List PV}(hi:ss[i]?=some (.own xs))(e:Z[i]?=some (some (.ref l)))(f:F l=none)(d:E.H0 l=none)(r:Ad F EN ys):Sg E (ss.set i (.own ys)) Z F (upd H l (.lst EN)):=by
 have a:∀(j:Nat)s,(ss.set i .any)[j]?=some s->¬ C6 s Z[j]? l:=λj s b c=>by
  by_cases q:j=i
  .subst q;have p:j<ss.length:=(List.getElem?_eq_some_iff.mp hi).1;rw[Fs p]at b;cases b;cases c
  .rw[Fq (BP q)]at b;exact S.DS j i s _ l q b hi c e
 have n:=(S.drop i).W7 (o:=.lst EN) f (.inl d) a;have g:=n.setG (j:=i) (s:=.own ys) (v:=.ref l) ⟨l,EN,rfl,f,d,AU,r⟩ λt m j u b k h=>by cases m;exact a j u k h
 rw[Uy e,kO]at g;exact g
theorem Oq(hi:ss[i]?=some (.own xs))(h:Wp ss te λp=>xs.length<=99999/\nx (ss.set i (.own (xs++[p])))):Ws ss (Kq (LN K "list" PB (Cp i) (BC te Bj))) nx R:=⟨λE D Z F H S hn k=>by
 obtain⟨l,vs,e,n,m,g,r⟩:=S.ok i _ hi;refine⟨_,e,.inl ⟨rfl,_,AO.of g⟩,h.go E Z F H _ S λv p F1 H1 a d⟨f,kk⟩=>?_⟩;obtain⟨j,EN,c,GJ,Ci,YW,b⟩:=a.st.ok i _ hi;rw[e]at c;cases c;refine⟨l,EN,v,rfl,rfl,YW,Vz (by rw[b.length];exact f),?_⟩;exact hn _ Z F1 _ kk (a.st.put hi e GJ Ci (b.append (.one d))) a.ff⟩
noncomputable def Cn(F H:Hp)(as:List Addr):Hp:=λa=>if a∈as then H a else F a
theorem Sg.lay(S:Sg E ss Z F H)(as:List Addr)(g:∀a∈as,F a=none/\E.H0 a=none/\H a≠none)(hn:∀a∈as,∀(i:Nat)s,ss[i]?=some s->¬ C6 s Z[i]? a):Sg E ss Z (Cn F H as) H/\AE F (Cn F H as):=by
 have x:∀a,a∈as->Cn F H as a=H a:=λa h=>o9 h;have j:∀a,a∉as->Cn F H as a=F a:=λa h=>mL h;have ff:AE F (Cn F H as):=λa o e=>by
  by_cases q:a∈as
  .rw[(g a q).1]at e;cases e
  .rw[j a q];exact e
 have f:∀a,a∉as->F a=none->Cn F H as a=none:=λa q h=>by rw[j a q];exact h
 refine⟨⟨⟨λa o e=>?_,S.f0.trans ff,S.keep,λa o e=>?_,S.HH,λa w=>?_,S.a0,λa u=>?_,S.bH,S.b0⟩,S.len,λi s hi=>?_,S.DS⟩,ff⟩
 .by_cases q:a∈as
  .rw[x a q]at e;exact e
  .rw[j a q]at e;exact S.fh a o e
 .by_cases q:a∈as
  .exact .inr (g a q).2.1
  .rw[j a q]at e;exact S.fresh a o e
 .exact f a (λq=>S.a0 a w (g a q).2.1) (S.Lz a w)
 .exact f a (λq=>(S.b0 a u).1 (g a q).2.1) (S.bF a u)
 .have l:∀a,C6 s Z[i]? a->a∉as:=λa m q=>hn a q i s hi m;have kk:=S.ok i s hi;cases s with
  |any=>trivial
  |is p=>obtain⟨v,e,r⟩:=kk;exact⟨v,e,r.mono ff⟩
  |own ys=>
   obtain⟨b,ws,q,d,c,k,r⟩:=kk;exact⟨b,ws,q,f b (l b q) d,c,k,r.mono ff⟩
  |Af=>
   obtain⟨b,q,d,c,k⟩:=kk;exact⟨b,q,f b (l b q) d,c,k⟩
  |sq tp ys=>
   cases tp with
   |true=>obtain⟨v,e,r⟩:=kk;exact⟨v,e,r.mono ff⟩
   |false=>obtain⟨b,ws,q,d,c,r⟩:=kk;exact⟨b,ws,q,d,c,r.mono ff⟩
  |raw P=>obtain⟨v,e,r,st⟩:=kk;exact⟨v,e,st _ _ ff r,st⟩
  |ow lt t=>
   obtain⟨v,e,r,nd,q⟩:=kk;exact⟨v,e,r.mono ff λa _ o h=>h,nd,λa n=>⟨f a (l a n) (q a n).1,(q a n).2⟩⟩
theorem Nz{t:TS}(i:Nat)(hi:ss[i]?=some (.own xs))(h:Ws (ss.set i (.is (.lst xs))) t nx R):Ws ss t nx R:=⟨λE D Z F H S hn g=>by
 obtain⟨l,vs,e,o,k,f,r⟩:=S.ok i _ hi;have one:∀a,a∈[l]->a=l:=λa h=>by simpa using h
 obtain⟨S1,d⟩:=(S.drop i).lay [l] (λa h=>by rw[one a h,f];exact⟨o,k,by simp⟩) λa h j s b m=>by
  rw[one a h]at m
  by_cases q:j=i
  .subst q;rw[Fs (List.getElem?_eq_some_iff.mp hi).1]at b;cases b;cases m
  .rw[Fq (BP q)]at b;exact S.DS j i s _ l q b hi m e
 have c:=S1.O1 (j:=i) (v:=.ref l) (p:=.lst xs) (.lst (by unfold Cn;rw[o9 (by simp)];exact f) (r.mono d));rw[Uy e,kO]at c;exact h.go E D Z _ H c (λEh σ2 F2 H2 n c s2=>hn Eh σ2 F2 H2 n c (d.trans s2)) g⟩
theorem Qi{tb:TS}(I:List PV->Nat->List Slot->Prop)(h:Wi ss wi λxs=>I xs 0 ss/\(∀(i:Nat)p AV,xs[i]?=some p->I xs i AV->Wg AV g p λEh=>Ws Eh tb (I xs (i+1)) R)/\∀AV,I xs xs.length AV->nx AV):Ws ss (Xf wi g tb) nx R:=⟨λE D Z F H S hn u=>
 h.go E Z F H _ S λJ xs F1 H1 l f AM=>by
  obtain⟨i0,t,hd⟩:=AM;refine⟨λi m σ' H'=>m=xs.length - i/\i<=xs.length/\∃AV F',I xs i AV/\Sg E AV σ' F' H'/\AE F1 F',⟨_,rfl,CK _,ss,F1,i0,l.st,AE.refl _⟩,?_⟩;rintro i m σ' H'⟨rfl,hi,AV,F',n,S',s'⟩
  by_cases j:i<xs.length
  .refine .inr ⟨f.go AV σ' F' H' i s' S' j,λσ2 H2=>∃Eh F2,I xs (i+1) Eh/\Sg E Eh σ2 F2 H2/\AE F1 F2,λσ2 H2 D9=>by obtain⟨Eh,F2,a,b,c⟩:=D9;exact⟨_,by omega,rfl,j,Eh,F2,a,b,c⟩,λx H3 y=>?_⟩;obtain⟨p,F3,v,k,r⟩:=f.Fh AV σ' F' H' i x H3 s' S' j y;refine(t i p AV v n).go E σ' F3 H3 x _ k.st r λo σ4 w S4=>?_;exact w.go E _ σ4 F3 H3 S4 (λd σ5 F5 H5 s S5 q=>⟨d,F5,s,S5,(s'.trans k.ff).trans q⟩) u
  .have e:i=xs.length:=by omega
   subst e;exact .inl ⟨f.stop AV σ' F' H' s' S',hn AV σ' F' H' (hd AV n) S' (l.ff.trans s')⟩⟩
end
def DT(js:List Nat)(ss:List Slot):List Slot:=js.map λj=>(ss[j]?).getD .any
def Qv(js:List Nat)(ss:List Slot):Bool:=js.all λj=>match ss[j]? with
 |some .Af=>false
 |_=>true
section
variable[Xw]
variable{K:ZGX}{js:List Nat}
theorem uJ(h:js[i]?=some j)(e:(DT js ss)[i]?=some s):s=(ss[j]?).getD .any:=by
 unfold DT at e;rw[Bt,h]at e;exact(Be e).symm
theorem Sg.Au(S:Sg E ss Z F H)(nd:js.Nodup)(r:Ad F vs ps):Sg E (DT js ss++ps.map .is) (Br js Z++vs.map some) F H:=by
 have d:(DT js ss).length=js.length:=by simp[DT]
 have f:(Br js Z).length=js.length:=by simp[Br]
 have k:∀(i:Nat)(hi:i<js.length),(DT js ss++ps.map .is)[i]?=some ((ss[js[i]]?).getD .any)/\(Br js Z++vs.map some)[i]?=some ((Z[js[i]]?).join):=λi hi=>by
  rw[Fp (by rw[d];exact hi),Fp (by rw[f];exact hi)];unfold DT Br;rw[Bt,Bt,C4 hi];exact⟨rfl,rfl⟩
 have c:∀(i:Nat)s,js.length<=i->(DT js ss++ps.map .is)[i]?=some s->∃p v,s=.is p/\(Br js Z++vs.map some)[i]?=some (some v)/\Rep F v p:=λi s hi e=>by
  rw[Ji (by rw[d];exact hi),d,Bt]at e;rw[Ji (by rw[f];exact hi),f,Bt];cases q:ps[i - js.length]? with
  |none=>rw[q]at e;cases e
  |some p=>
   rw[q]at e;obtain⟨v,h,g⟩:=r.get q;rw[h];exact⟨p,v,(Be e).symm,rfl,g⟩
 have G:∀(s:Slot)(m:Nat)(l:Addr),C6 s (some (Z[m]?).join) l->C6 s Z[m]? l:=λs m l o=>by
  have w:∀l,some (Z[m]?).join=some (some (V.ref l))->Z[m]?=some (some (.ref l)):=λl e=>by
   cases q:Z[m]? with
   |none=>rw[q]at e;cases e
   |some o=>rw[q]at e;cases o with
    |none=>cases e
    |some v=>simpa using e
  cases s with
  |own xs=>exact w l o
  |Af=>exact w l o
  |ow lt t=>exact o
  |_=>exact o
 have n:∀(i:Nat)s l,(DT js ss++ps.map .is)[i]?=some s->C6 s (Br js Z++vs.map some)[i]? l->∃hi:i<js.length,ss[js[i]]?=some s/\C6 s Z[js[i]]? l:=λi s l e m=>by
  by_cases hi:i<js.length
  .rw[(k i hi).2]at m;refine⟨hi,?_,G s _ l m⟩;rw[(k i hi).1]at e;cases q:ss[js[i]]? with
   |none=>rw[q]at e;cases e;cases m
   |some u=>rw[q]at e;exact e
  .obtain⟨p,v,rfl,_⟩:=c i s (by omega) e;cases m
 refine⟨S.toFin,?_,λi s e=>?_,λi j s u l Gm hi D C B=>?_⟩
 .rw[Bi,Bi,d,f,Ae,Ae,r.length]
 .by_cases hi:i<js.length
  .obtain⟨a,b⟩:=k i hi;rw[a]at e;rw[b];cases q:ss[js[i]]? with
   |none=>rw[q]at e;cases e;trivial
   |some u=>
    rw[q]at e;have I:u=s:=Be e;subst I;have kk:=S.ok _ _ q;cases u with
    |any=>trivial
    |is p=>obtain⟨v,e,r⟩:=kk;rw[e];exact⟨v,rfl,r⟩
    |own xs=>obtain⟨l,vs,e,r⟩:=kk;rw[e];exact⟨l,vs,rfl,r⟩
    |Af=>obtain⟨l,e,r⟩:=kk;rw[e];exact⟨l,rfl,r⟩
    |sq tp xs=>
     cases tp with
     |true=>obtain⟨v,e,r⟩:=kk;rw[e];exact⟨v,rfl,r⟩
     |false=>obtain⟨l,vs,e,r⟩:=kk;rw[e];exact⟨l,vs,rfl,r⟩
    |raw P=>obtain⟨v,e,r⟩:=kk;rw[e];exact⟨v,rfl,r⟩
    |ow lt t=>obtain⟨v,e,r⟩:=kk;rw[e];exact⟨v,rfl,r⟩
  .obtain⟨p,v,rfl,h,g⟩:=c i s (by omega) e;rw[h];exact⟨v,rfl,g⟩
 .obtain⟨K,y,A⟩:=n i s l hi C;obtain⟨J,x,z⟩:=n j u l D B;refine S.DS js[i] js[j] s u l (λe=>Gm ?_) y x A z;exact(kH nd).mp e
theorem Mv.out(S:Sg E ss Z F H)(np:Qv js ss=true)(m:Mv E (DT js ss++ps.map .is) τ F H F' H'):Mv E ss Z F H F' H':=by
 have nn:∀a,DY (DT js ss++ps.map .is) τ a:=λa i hi _=>by
  by_cases h:i<(DT js ss).length
  .rw[Fp h]at hi;have c:i<js.length:=by simpa[DT]using h
   have q:=uJ (C4 c) hi;have z:=List.all_eq_true.mp np js[i] (Ik c);cases w:ss[js[i]]? with
   |none=>rw[w]at q;cases q
   |some u=>rw[w]at q z;cases q;cases z
  .rw[Ji (by omega),Bt]at hi;cases w:ps[i - (DT js ss).length]? with
   |none=>rw[w]at hi;cases hi
   |some p=>rw[w]at hi;cases hi
 have b:∀a o,H a=some o->H' a=some o:=λa o e=>m.hh a o (nn a) e;exact S.step m.ff m.st.fh (λa o _ e=>b a o e) m.nn λi l hi e=>CC.keep (S.Gv hi e) λo e=>b l o e
theorem LK{tt:TT}(f:PV->Bool)(g:PV->PV)
  (h:Wi ss wi λxs=>xs.length<=100000/\(∀x∈xs,Wt (DT js ss++[.is x]) tt λb=>b=f x)/\(∀x∈xs,f x=true->Wp (DT js ss++[.is x]) te λp=>p=g x)/\k ((xs.filter f).map g))
  (nd:js.Nodup:=by decide) (np:Qv js ss=true:=by rfl):Wn ss (Kg wi js tt te) k:=⟨λE Z F H Q S q=>
 h.go E Z F H _ S λJ xs F1 H1 d C⟨hz,σ,he,kk⟩acc B5=>by
  have T:DY ss Z acc:=d.st.OA B5;have V:=d.st.Gr B5;have D:∀(i:Nat)s,ss[i]?=some s->¬ C6 s Z[i]? acc:=λi s hi=>d.st.P6 hi B5;refine⟨λi m H2=>m=xs.length - i/\i<=xs.length/\∃F2 vs,Mv E ss Z F1 H1 F2 H2/\F2 acc=none/\H2 acc=some (.lst vs)/\Ad F2 vs (((xs.take i).filter f).map g),⟨_,rfl,CK _,F1,[],d.st.make B5 _,d.st.Cw B5,AU,.nil⟩,?_⟩;rintro i m H2⟨rfl,hi,F2,vs,c,M,z,t⟩
  by_cases r:i<xs.length
  .refine .inr ⟨C.go ss Z F2 H2 i c.ff c.st r,λx H3 y=>?_⟩;obtain⟨p,F3,K,u,L⟩:=C.Fh ss Z F2 H2 i x H3 c.ff c.st r y;have U:p∈xs:=LB K;have GR:(xs.take (i+1))=xs.take i++[p]:=by
    have e2:xs[i]=p:=by rw[C4 r]at K;exact Be K
    rw[kP r,e2]
   have N:List.filter f (xs.take (i+1))=(xs.take i).filter f++(if f p=true then[p]else[]):=by
    rw[GR,Yp];congr 1
    by_cases j:f p=true <;> simp[j]
   have O:∀{F4:Hp},(∀a o,F4 a=some o->F2 a=some o∨H2 a=none)->F4 acc=none:=λ{F4}n=>by
    cases e:F4 acc with
    |none=>rfl
    |some o=>
     rcases n acc o e with w|w
     .rw[M]at w;cases w
     .rw[z]at w;cases w
   have S3:=u.st.Au (js:=js) nd (.one L);refine(σ p U).go E _ F3 H3 _ S3 λb F4 H4 I hb=>?_;have l:=u.trans (I.out (ps:=[p]) u.st np);show if b=true then _ else _
   rw[hb]
   by_cases j:f p=true
   .rw[o9 j];have S4:=l.st.Au (js:=js) nd (.one (L.mono (I.out (ps:=[p]) u.st np).ff));refine(he p U j).go E _ F4 H4 _ S4 λw pw F5 H5 X P ew=>?_;have Y:=I.out (ps:=[p]) u.st np;have G:=X.out (ps:=[p]) l.st np;have B:=l.trans G;have W:=B.hh acc _ T z;have R:=O B.nn;have v:vs.length<=99999:=by
     rw[t.length,Ae];have:=GX f (xs.take i);rw[Bu]at this;omega
    refine⟨vs,W,Vz v,xs.length - (i+1),by omega,rfl,r,F5,vs++[w],?_,R,AU,?_⟩
    .have A:=c.trans B;refine⟨A.st.W7 R (.inl V) D,A.ff,λa o n e=>?_,A.nn⟩;rw[Az (DU e B5)];exact A.hh a o n e
    .rw[N,o9 j,D6];rw[ew]at P;exact(t.mono B.ff).append (.one P)
   .have UZ:f p=false:=by simpa using j
    rw[UZ,mL (by decide)];refine⟨xs.length - (i+1),by omega,rfl,r,F4,vs,c.trans l,O l.nn,l.hh acc _ T z,?_⟩;rw[N,mL j,Hr];exact t.mono l.ff
  .have e:i=xs.length:=by omega
   subst e;refine .inl ⟨C.stop ss Z F2 H2 c.ff c.st,q acc vs _ F2 H2 (d.trans c) M (d.none B5) z ?_ kk⟩;rw[Jk]at t;exact t⟩
end
abbrev Pre:=List Slot->B6->Prop
def Ah(pre:Pre):Sp:=λvs H Q _=>∃(ss:List Slot)(R:B6)(F:Hp)(A:List Addr),pre ss R/\Sg (E3 A F H) ss (vs.map some) F H/\∀v F' H',Fin (E3 A F H) F' H'->R.ok (E3 A F H) F' H' v->Q v H'
section
variable[Xw]
variable{pre:Pre}{k:PV->Prop}
theorem Hk.at{l:List Slot}(h:Hk ss Z F H vs l):∀{i:Nat}{s:Slot},l[i]?=some s->∃v,vs[i]?=some v/\Av ss Z F H v s:=by
 induction h with
 |nil=>intro i s e;simp at e
 |cons a _ b=>
  intro i s e;cases i with
  |zero=>simp at e;subst e;exact⟨_,rfl,a⟩
  |succ i=>exact b (by simpa using e)
theorem Hk.len{l:List Slot}(h:Hk ss Z F H vs l):l.length=vs.length:=by
 induction h with
 |nil=>rfl
 |cons a _ b=>rw[CG,CG,b]
theorem Av.ok(S:Sg E ss Z F H)(a:Av ss Z F H v s)(b:∀l,DY ss Z l->l∉A):Ok (E3 A F H) F H s (some (some v))/\∀o l,¬ C6 s o l:=by
 cases s with
 |is p=>exact⟨⟨v,rfl,a⟩,λ_ _ z=>z⟩
 |sq tp xs=>
  cases tp with
  |true=>exact⟨⟨v,rfl,a⟩,λ_ _ z=>z⟩
  |false=>obtain⟨l,vs,rfl,n,h,r⟩:=a;exact⟨⟨l,vs,rfl,⟨b l n,Bb⟩,h,r⟩,λ_ _ z=>z⟩
 |raw P=>exact⟨⟨v,rfl,a⟩,λ_ _ z=>z⟩
 |any=>exact a.elim
 |own xs=>exact a.elim
 |Af=>exact a.elim
 |ow lt t=>exact a.elim
theorem Sg.O2(S:Sg E ss Z F H){l:List Slot}(a:Hk ss Z F H vs l):Sg (E3 [] F H) l (vs.map some) F H:=by
 have nn:∀{p:Prop}(a:Addr),a∈([]:List Addr)->p:=λa h=>absurd h Bb;refine⟨⟨S.fh,AE.refl _,λ_ _ _ e=>e,λ_ _ e=>.inl e,λa h=>nn a h,λa h=>nn a h,λa h=>nn a h,λa h=>nn a h,λa h=>nn a h,λa h=>nn a h⟩,by rw[Ae];exact a.len,λi s hi=>?_,λi j s u l Gm hi f c d=>?_⟩
 .obtain⟨v,b,q⟩:=a.at hi;rw[Bt,b];exact(q.ok S λ_ _ h=>absurd h Bb).1
 .obtain⟨v,b,q⟩:=a.at hi;exact(q.ok S (A:=[]) λ_ _ h=>absurd h Bb).2 _ _ c
theorem Sg.yw(S:Sg E ss Z F H){p:Addr}(hi:ss[i0]?=some .Af)(e:Z[i0]?=some (some (.ref p))){l:List Slot}(a:Hk ss Z F H vs l):Sg (E3 [p] F H) (.Af::l) ((V.ref p::vs).map some) F H:=by
 obtain⟨w,g,fp,_,b⟩:=S.ok i0 _ hi;rw[e]at g;cases g;have f:∀l,DY ss Z l->l∉[p]:=λl n h=>by
  have:l=p:=by simpa using h
  subst this;exact n i0 hi e
 have one:∀a,a∈[p]->a=p:=λa h=>by simpa using h
 have nn:∀{p:Prop}(a:Addr),a∈([]:List Addr)->p:=λa h=>absurd h Bb;refine⟨⟨S.fh,AE.refl _,λ_ _ _ e=>e,λ_ _ e=>.inl e,λa h=>(one a h)▸b,λa h=>(one a h)▸fp,λa h=>?_,λa h=>nn a h,λa h=>nn a h,λa h=>nn a h⟩,by rw[Ae,CG,CG];rw[a.len],λi s hi=>?_,λi j s u c Gm hi t r k=>?_⟩
 .rw[one a h];obtain⟨_,_,q,_⟩:=b;show H p≠none;rw[q];simp
 .cases i with
  |zero=>simp at hi;subst hi;exact⟨p,rfl,fp,.inr (by simp),b⟩
  |succ i=>
   obtain⟨v,d,q⟩:=a.at (i:=i) (s:=s) (by simpa using hi)
   have:((V.ref p::vs).map some)[i+1]?=some (some v):=by rw[ES,List.getElem?_cons_succ,Bt,d];rfl
   rw[this];exact(q.ok S f).1
 .have z:∀(i:Nat)s o c,(Slot.Af::l)[i]?=some s->C6 s o c->i=0:=λi s o c h m=>by
   cases i with
   |zero=>rfl
   |succ i=>
    obtain⟨v,d,q⟩:=a.at (i:=i) (s:=s) (by simpa using h)
    exact((q.ok S f).2 _ _ m).elim
  exact absurd ((z i s _ _ hi r).trans (z j u _ _ t k).symm) Gm
theorem Sg.back(S:Sg E ss Z F H)(d:∀a,a∈A->∃i:Nat,ss[i]?=some .Af/\Z[i]?=some (some (.ref a)))(f:Fin (E3 A F H) F' H'):Mv E ss Z F H F' H':=by
 refine S.step f.f0 f.fh (λa o n e=>f.keep a o ⟨λh=>?_,Bb⟩ e) f.fresh λi l hi e=>?_
 .obtain⟨i,c,b⟩:=d a h;exact n i c b
 .by_cases q:l∈A
  .exact f.HH l q
  .exact CC.keep (S.Gv hi e) λo e=>f.keep l o ⟨q,Bb⟩ e
theorem wp_call(h:Wa ss t λl=>∃b,pre l (.is b)/\∀p,b p->k p):Wp ss (EK (Ah pre) [] E0 t) k:=⟨λE Z F H Q S q=>
 h.go E Z F H _ S λvs l F1 H1 c a⟨b,d,kk⟩=>by
  rw[Hr];refine⟨l,.is b,F1,[],d,c.st.O2 a,λv F' H' f⟨p,r,kp⟩=>?_⟩;exact q v p F' H' (c.trans (c.st.back (λ_ h=>absurd h Bb) f)) r (kk p kp)⟩
theorem Dd{k:List PV->Prop}(h:Wa ss t λl=>∃c,pre l (.new c)/\∀xs,c xs->k xs):Wn ss (EK (Ah pre) [] E0 t) k:=⟨λE Z F H Q S q=>
 h.go E Z F H _ S λvs l F1 H1 b a⟨c,g,kk⟩=>by
  rw[Hr];refine⟨l,.new c,F1,[],g,b.st.O2 a,λv F' H' f⟨l,vs,xs,e,j,i,EM,r,d⟩=>?_⟩;subst e;exact q l vs xs F' H' (b.trans (b.st.back (λ_ h=>absurd h Bb) f)) j (b.none i) EM r (kk xs d)⟩
theorem xf(hi:ss[i]?=some .Af)(h:Wa ss t λl=>∃b,pre (.Af::l) (.is b)/\∀p,b p->k p):Wp ss (EK (Ah pre) [] E0 (BC (Cp i) t)) k:=⟨λE Z F H Q S q=>by
 obtain⟨p,e,_⟩:=S.ok i _ hi;refine⟨_,e,h.go E Z F H _ S λvs l F1 H1 c a⟨b,d,kk⟩=>?_⟩;show Ah pre ((V.ref p::vs)++[]) H1 Q E0;rw[Hr];refine⟨.Af::l,.is b,F1,[p],d,c.st.yw hi e a,λv F' H' f⟨pv,r,kp⟩=>?_⟩;exact q v pv F' H' (c.trans (c.st.back (A:=[p]) (λa h=>⟨i,hi,(show a=p from by simpa using h)▸e⟩) f)) r (kk pv kp)⟩
theorem Sg.grown(S:Sg E ss Z F H)(n:Nat):Sg E (ss++List.replicate n .any) (Z++List.replicate n none) F H:=by
 have k:∀(i:Nat)s,(ss++List.replicate n .any)[i]?=some s->s≠.any->ss[i]?=some s/\(Z++List.replicate n none)[i]?=Z[i]?:=λi s e o=>by
  by_cases h:i<ss.length
  .rw[Fp h]at e;rw[Fp (by rw[<- S.len];exact h)];exact⟨e,rfl⟩
  .rw[Ji (by omega),kF]at e;split at e
   .exact absurd (Be e).symm o
   .cases e
 refine⟨S.toFin,by simp[S.len],λi s e=>?_,λi j s u l Gm hi p g f=>?_⟩
 .cases s with
  |any=>trivial
  |_=>obtain⟨a,b⟩:=k i _ e (by simp);rw[b];exact S.ok i _ a
 .have ns:s≠.any:=by rintro rfl;cases g
  have m:u≠.any:=by rintro rfl;cases f
  obtain⟨a,b⟩:=k i s hi ns;obtain⟨c,d⟩:=k j u p m;rw[b]at g;rw[d]at f;exact S.DS i j s u l Gm a c g f
end
section
variable{pre:Pre}{k:PV->Prop}
def aJ(E:Ent0):Ent:=⟨E,λ_ _ _ _ _ _ _ _ _ d=>d.elim⟩
theorem Bo{N:List Str}{n:Nat}{t:TS}(h:Ah pre vs H Q X)(c:∀ss R,pre ss R->ss.length=n)
  (hw:∀ss R,pre ss R->Ws (ss++List.replicate (N.length - n) .any) t (λ_=>∃k,R=.is k/\k .AG) R):t { nx:=λ_ H'=>Q .AG H',rt:=Q } (L2.start N vs) H:=by
 obtain⟨ss,R,F,A,a,S,q⟩:=h;have e:vs.length=n:=by have:=S.len;rw[Ae]at this;rw[<- this];exact c ss R a
 unfold L2.start;rw[e];refine(hw ss R a).go (aJ (E3 A F H)) _ _ F H (S.grown _) (λAV σ' F' H'⟨k,e,b⟩S' _=>?_) λv F' H' f ok=>q v F' H' f ok;subst e;exact q .AG F' H' S'.toFin ⟨.AG,.AG,b⟩
theorem Bq{n:Nat}(b:∀ss R,pre ss R->ss.length=n)(h:Ah pre vs H Q X):vs.length=n:=by
 obtain⟨ss,R,F,A,a,S,q⟩:=h;have:=S.len;rw[Ae]at this;rw[<- this];exact b ss R a
end
end Fz
namespace L2
section
variable{X:Cx}
def bP(K:ZGX):R2:=λx y H Q=>∃p q xs,x=.ref p/\y=.ref q/\AO K H p xs/\AO K H q []/\Q (.bl (decide (xs=[]))) H
theorem hV(a:X.A.units<cLine):BD X (compareOp .Eq) (bP X.K):=by
 intro Ze s Z H x y v u Q I f e h;obtain⟨p,q,xs,rfl,rfl,c,b,d⟩:=h;cases f;cases e;obtain⟨A5,i,p1,l⟩:=I.list c;obtain⟨Bg,g,p2,k⟩:=I.list b;have l1:=i.length;have l2:=g.length;cases xs with
 |nil=>exact VH a Ze s Z H _ _ _ _ Q I (show RelV (.ref p) (.ref p)from rfl) (show RelV (.ref q) (.ref q)from rfl) ⟨p,q,[],[],rfl,rfl,.inl ⟨c,b⟩,rfl,rfl,d⟩
 |cons y ys=>
  have j:(A5.toArray.size != Bg.toArray.size)=true:=by simp only[Bv,<- l1,<- l2];simp
  exact ZFb p1.isList p2.isList j a ⟨.bl false,H,I,rfl,d⟩
end
end L2
namespace Lw
open L2
variable{HP acc l ns ss xs:List Str}{r x:Str}{g i:Nat}
inductive Tr (lr lb:Addr) (H:Hp):List V->List V->Addr->List Str->Prop where
 |Zf {l:Addr}{rs:List Str}:l≠lr->l≠lb->H l=some (.lst (rs.map V.str))->Tr lr lb H [.ref l] [] l rs
 |snoc {vs bs:List V}{l:Addr}{rs:List Str}{l':Addr}{Nw:List Str}{t:Addr}{d:Ag}:Tr lr lb H vs bs l rs->l'≠lr->l'≠lb->t≠lr->t≠lb->H l'=some (.lst (Nw.map V.str))->H t=some (.tup d.vals)->
   d.Ok 40 Nw->Nw.length<=40->d.done Nw=rs->Tr lr lb H (vs++[.ref l']) (bs++[.ref t]) l' Nw
theorem NM:∀l:List Nat,¬ l<l
 | [],h=>by simp at h
 |a::r,h=>by
  rw[Yn]at h;rcases h with h|⟨_,h⟩
  .omega
  .exact NM r h
theorem Ri:∀{a b c:List Nat},a<b->b<c->a<c
 |_,[],_,h,_=>by simp at h
 |_,_::_,[],_,h=>by simp at h
 | [],_::_,_::_,_,_=>by simp
 |a::r,b::s,c::t,h,h'=>by
  rw[Yn]at h h' ⊢;rcases h with h|⟨rfl,h⟩
  .rcases h' with h'|⟨rfl,h'⟩
   .left;omega
   .left;exact h
  .rcases h' with h'|⟨rfl,h'⟩
   .left;exact h'
   .right;exact⟨rfl,Ri h h'⟩
theorem aU:∀a b:List Nat,a<b∨a=b∨b<a
 | [],[]=>.inr (.inl rfl)
 | [],_::_=>.inl (by simp)
 |_::_,[]=>.inr (.inr (by simp))
 |a::r,b::s=>by
  rw[Yn,Yn];rcases ZFK a b with h|rfl|h
  .exact .inl (.inl h)
  .rcases aU r s with h|rfl|h
   .exact .inl (.inr ⟨rfl,h⟩)
   .exact .inr (.inl rfl)
   .exact .inr (.inr (.inr ⟨rfl,h⟩))
  .exact .inr (.inr (.inl h))
abbrev HS(a b:Str):Prop:=a.cps.toList<b.cps.toList
theorem Q9(a b:Str):HS a b∨a=b∨HS b a:=by
 rcases aU a.cps.toList b.cps.toList with h|h|h
 .exact .inl h
 .exact .inr (.inl (nL h))
 .exact .inr (.inr h)
abbrev Up(ss:List Str):Prop:=ss.Pairwise HS
theorem NZ(h:Up ss):ss.Nodup:=by
 refine List.Pairwise.imp (λ{a b}(Dt:HS a b)(e:a=b)=>?_) h;subst e;exact NM _ Dt
theorem b9:∀(l:List Str)(p:Str),risingS p l=true->(∀x∈l,¬ HS x p)/\l.Pairwise λa b=>¬ HS b a
 | [],p,_=>⟨λx hx=>absurd hx (by simp),.nil⟩
 |y::r,p,h=>by
  have h1:(!ltCps y.cps.toList p.cps.toList && risingS y r)=true:=h;rw[CU,ltCps_eq]at h1;have c:¬ HS y p:=by
   intro z;rw[mG z]at h1;exact absurd h1.1 (by decide)
  obtain⟨h2,d⟩:=b9 r y h1.2;refine⟨λx hx=>?_,List.pairwise_cons.mpr ⟨λx hx=>h2 x hx,d⟩⟩;rcases List.mem_cons.mp hx with rfl|hx
  .exact c
  .intro z;rcases Q9 y p with q|q|q
   .exact c q
   .exact h2 x hx (q▸z)
   .exact h2 x hx (Ri z q)
theorem X6(h:sortedS l=true):l.Pairwise λa b=>¬ HS b a:=by
 cases l with
 |nil=>exact .nil
 |cons x r=>
  obtain⟨h1,h2⟩:=b9 r x h;exact List.pairwise_cons.mpr ⟨h1,h2⟩
theorem QU(h:sortedS l=true)(nd:l.Nodup):Up l:=by
 have w:=X6 h;have q:=List.Pairwise.and w nd;refine q.imp λ{a b}Dt=>?_;rcases Q9 a b with z|z|z
 .exact z
 .exact absurd z Dt.2
 .exact absurd z Dt.1
theorem RJ:∀{as bs:List Str},Up as->Up bs->(∀x,x∈as↔x∈bs)->as=bs
 | [],[],_,_,_=>rfl
 | [],b::bs,_,_,h=>absurd ((h b).mpr BZ) (by simp)
 |a::as,[],_,_,h=>absurd ((h a).mp BZ) (by simp)
 |a::as,b::bs,ha,hb,h=>by
  obtain⟨d,g⟩:=List.pairwise_cons.mp ha;obtain⟨c,f⟩:=List.pairwise_cons.mp hb;have e:a=b:=by
   rcases List.mem_cons.mp ((h a).mp BZ)with z|z
   .exact z
   .rcases List.mem_cons.mp ((h b).mpr BZ)with y|y
    .exact y.symm
    .exact absurd (Ri (d b y) (c a z)) (NM _)
  subst e
  congr 1
  refine RJ g f λx=>⟨λhx=>?_,λhx=>?_⟩
  .rcases List.mem_cons.mp ((h x).mp (C5 _ hx))with z|z
   .exact absurd (z▸d x hx) (NM _)
   .exact z
  .rcases List.mem_cons.mp ((h x).mpr (C5 _ hx))with z|z
   .exact absurd (z▸c x hx) (NM _)
   .exact z
theorem WK:∀{as bs:List Str},as.Nodup->(∀x∈as,x∈bs)->as.length<=bs.length
 | [],_,_,_=>CK _
 |a::as,bs,nd,h=>by
  obtain⟨h1,h2⟩:=List.nodup_cons.mp nd;have b:=h a BZ;have q:=WK (bs:=bs.erase a) h2 λx hx=>(Yx (λe:x=a=>h1 (by rw[<- e];exact hx))).mpr (h x (C5 _ hx));have e:=Me b;have p:=kI b;simp only[CG];omega
theorem dI:∀{as bs:List Str},as.Nodup->(∀x∈as,x∈bs)->bs.length=as.length->bs.Nodup
 | [],bs,_,_,hl=>by
  have e:bs=[]:=List.length_eq_zero_iff.mp (by simpa using hl)
  rw[e];exact LC
 |a::as,bs,nd,h,hl=>by
  obtain⟨h1,h2⟩:=List.nodup_cons.mp nd;have b:=h a BZ;have d:bs.length=as.length+1:=by simpa using hl
  have sub:∀x∈as,x∈bs.erase a:=λx hx=>(Yx (λe:x=a=>h1 (by rw[<- e];exact hx))).mpr (h x (C5 _ hx));have e:=Me b;have q:=dI (bs:=bs.erase a) h2 sub (by omega);have p:=List.perm_cons_erase b;rw[p.nodup_iff,List.nodup_cons];refine⟨λc=>?_,q⟩;have r:=WK (as:=a::as) (bs:=bs.erase a) nd λx hx=>by
   rcases List.mem_cons.mp hx with rfl|hx
   .exact c
   .exact sub x hx
  simp only[CG]at r;omega
theorem ZAM{k:Str}:k∈Ee acc x↔k∈acc∨k=x:=by
 unfold Ee
 by_cases h:acc.any (· == x)=true
 .rw[o9 h];refine⟨.inl,λq=>q.elim id λe=>?_⟩;obtain⟨y,a,b⟩:=List.any_eq_true.mp h;have:y=x:=by simpa using b
  rw[e,<- this];exact a
 .rw[mL h];simp
theorem WS:∀(l acc:List Str),acc.Nodup->(l.foldl Ee acc).Nodup/\∀k,k∈l.foldl Ee acc↔k∈acc∨k∈l
 | [],acc,h=>⟨h,λk=>by simp⟩
 |x::r,acc,h=>by
  have hn:(Ee acc x).Nodup:=by
   unfold Ee
   by_cases c:acc.any (· == x)=true
   .rw[o9 c];exact h
   .rw[mL c];exact Sx h λa=>c (List.any_eq_true.mpr ⟨x,a,by simp⟩)
  obtain⟨h1,h2⟩:=WS r (Ee acc x) hn;refine⟨h1,λk=>?_⟩;rw[Md,h2 k,ZAM,Cj,or_assoc]
theorem Vg(ss:List Str):(dd ss).Nodup:=(WS ss [] LC).1
theorem Y9(ss:List Str)(k:Str):k∈dd ss↔k∈ss:=by
 have q:=(WS ss [] LC).2 k;refine(show(k∈dd ss↔_)from q).trans ⟨λz=>z.elim (λy=>absurd y (by simp)) id,.inr⟩
theorem c6(l:List Str)(k:Str):l.any (· == k)=true↔k∈l:=by
 rw[k9];exact⟨λ⟨y,a,e⟩=>by
   have:y=k:=by simpa using e
   rw[<- this];exact a,λh=>⟨k,h,by simp⟩⟩
theorem lq{ts:List Str}(d:ts.length=(dd ss).length)(b:∀k,(dd ss).any (· == k)=true↔k∈ts)(c:sortedS ts=true):(ss=ts)↔Up ss:=by
 have nd:ts.Nodup:=dI (Vg ss) (λx hx=>(b x).mp ((c6 _ _).mpr hx)) d;have a:=QU c nd;constructor
 .rintro rfl;exact a
 .intro us;exact RJ us a λx=>by rw[<- b x,c6,Y9]
noncomputable def IH:List Str:=["none","ahead","all"]
def yZ(p:Addr)(H:Hp)(Q:VK)(W:Str->Int->List Str->Prop):Prop:=∀t c r g ss H',H t=none->H c=none->BM p H H'->H' t=some (.tup [.str r,.int g,.ref c])->H' c=some (.tup (ss.map V.str))->W r g ss->Q (.ref t) H'
def Y1:Sp:=λvs H Q _=>∃(p q:Addr)(ns:List Str),vs=[.ref p,.ref q]/\CC H p/\H q=some (.lst (ns.map V.str))/\q≠p/\ns.length<=40/\ns.Nodup/\
 yZ p H Q λr g ss=>r∈IH/\0<=g/\g<=(ns.length:Int)/\Up ss/\(∀x∈ss,x∈ns)/\ss.length<=40
theorem zo{v:V}(h:(ss.map V.str)[i]?=some v):∃x,v=.str x/\ss[i]?=some x:=by
 rw[Bt]at h;cases q:ss[i]? with
 |none=>rw[q]at h;cases h
 |some x=>rw[q]at h;simp at h;exact⟨x,h.symm,rfl⟩
theorem az{j:Int}(c:0<=j)(h1:j<3):∃r,BU (IH.map V.str) j=some (.str r)/\r∈IH:=by
 obtain⟨x,a,b,_⟩:=UM (ns:=IH) c h1;exact⟨x,a,b⟩
theorem ZK(x:Str)(h:i<=xs.length):(ins xs x i).length=xs.length+1:=by
 unfold ins;simp only[Bi,Bu,CG,D5];omega
noncomputable def DR(ss:List Str)(x:Str):Bool:=decide (x∈ss)
def Cg(ns:List Str)(g:Nat)(ss:List Str):List Str:=(ns.drop g).filter (DR ss)++(ns.take g).filter (DR ss)
theorem vQ(ns:List Str)(g:Nat)(ss:List Str):(ns.drop g++ns.take g).filter (DR ss)=Cg ns g ss:=Yp ..
theorem J5:x∈Cg ns g ss↔x∈ns/\x∈ss:=by
 unfold Cg;rw[GY,kK,kK];have e:(x∈ns)↔(x∈ns.take g∨x∈ns.drop g):=by
  rw[<- GY,LD]
 unfold DR;simp only[oE];rw[e];constructor
 .rintro(⟨a,b⟩|⟨a,b⟩)
  .exact⟨.inr a,b⟩
  .exact⟨.inl a,b⟩
 .rintro⟨a|a,b⟩
  .exact .inr ⟨a,b⟩
  .exact .inl ⟨a,b⟩
theorem vC(ns ss:List Str):((ns.map V.str).filter (λv=>Fi v (ss.map V.str))).map (λv=>v)=(ns.filter (DR ss)).map V.str:=by
 rw[kJ,kD]
 congr 1
 apply ZF3;intro y _;show Fi (.str y) (ss.map V.str)=DR ss y;rw[Pw];rfl
def jX(H:Hp)(t:Addr)(r:Str)(g:Int)(ss:List Str):Prop:=∃c,H t=some (.tup [.str r,.int g,.ref c])/\H c=some (.tup (ss.map V.str))
structure BK (ns:List Str) (r:Str) (g:Int) (ss:List Str):Prop where
 rule:r∈IH
 g0:0<=g
 g1:g<=(ns.length:Int)
 up:Up ss
 sub:∀x∈ss,x∈ns
theorem RN(x:Str)(h:Up ss):Up (wo ss x):=h.filter _
theorem ZCt(nd:ss.Nodup)(h:x∈ss):(wo ss x).length+1=ss.length:=by
 have e:=W4 h;have h1:=gF h;have h2:=cO h nd;have:wo ss x=ss.take (ss.idxOf x)++ss.drop (ss.idxOf x+1):=by
  conv=>lhs;rw[e]
  rw[aX,fb,M0 h1,M0 h2]
 rw[this]
 conv=>rhs;rw[e]
 simp only[Bi,CG];omega
theorem BK.step{g:Int}(h:BK ns r g ss)(hx:x∈ns):BK ns r ((ns.idxOf x:Nat)+1) (wo ss x):=by
 have b:ns.idxOf x<ns.length:=List.idxOf_lt_length_iff.mpr hx;exact⟨h.rule,by omega,by omega,RN x h.up,λy a=>h.sub y (De.mp a).1⟩
def CI(ns:List Str)(g:Nat)(ss:List Str):Option Str:=(Cg ns g ss).head?
def Hz(ns:List Str)(g:Nat)(ss:List Str):Nat:=match CI ns g ss with
 |none=>g
 |some x=>ns.idxOf x+1
def Iy(ns:List Str)(g:Nat)(ss:List Str):List Str:=match CI ns g ss with
 |none=>ss
 |some x=>wo ss x
theorem ir(h:BK ns r g ss):BK ns r (Hz ns g ss:Nat) (Iy ns g ss)/\(Iy ns g ss).length<=ss.length - 1:=by
 unfold Hz Iy;cases e:CI ns g ss with
 |none=>
  refine⟨h,?_⟩;have b:Cg ns g ss=[]:=List.head?_eq_none_iff.mp e;have:ss=[]:=by
   cases a:ss with
   |nil=>rfl
   |cons x q=>
    have hx:x∈ss:=by rw[a];exact BZ
    have:x∈Cg ns g ss:=J5.mpr ⟨h.sub x hx,hx⟩;rw[b]at this;simp at this
  show ss.length<=ss.length - 1;rw[this];exact B4 _
 |some x=>
  have hx:x∈Cg ns g ss:=ZFC e;obtain⟨h1,h2⟩:=J5.mp hx;have:=ZCt (NZ h.up) h2;exact⟨h.step h1,by show(wo ss x).length<=_;omega⟩
theorem Th:BU ((x::HP).map V.str) 0=some (.str x):=Mz (by decide) rfl
structure Ent where
 a:Addr
 ns:List Str
 t:Addr
 r:Str
 g:Nat
 ss:List Str
end Lw
namespace L2
section
variable{X:Cx}
def fq(K:ZGX):R2:=λx y H Q=>∃a b xs ys,x=.ref a/\y=.ref b/\AN K H a xs/\AN K H b ys/\ys≠[]/\xs.length+ys.length<=sizeLine/\∀p H',AE H H'->AN K H' p (xs++ys)->Q (.ref p) H'
theorem eA:BD X (binaryOp .Add) (fq X.K):=by
 intro Ze s Z H x y v u Q I i g h;obtain⟨a,b,xs,ys,rfl,rfl,k,d,r,o,q⟩:=h
 by_cases hx:xs=[]
 .subst hx;cases i;cases g;obtain⟨A5,l,p1,_⟩:=I.tuple k;obtain⟨Bg,w,p2,_⟩:=I.tuple d;obtain⟨⟨cls,dd,data,sl⟩,ho,j,n,hd⟩:=id p1;obtain⟨⟨ZET,PY,f,GC⟩,DJ,IZ,m,c⟩:=id p2;simp only at j hd IZ c;subst j hd IZ c;have e:A5=[]:=l.QM.mpr rfl;exact concat_meets ⟨_,ho,rfl⟩ ⟨_,DJ,rfl⟩ ZBA seq_tuple_add ka kY (kX _ _)
   (tuple_addW0 a b A5.toArray Bg.toArray n m dd PY sl GC (by simp[e])) ⟨ho,DJ,⟨.ref b,H,I,rfl,q b H (AE.refl _) d⟩⟩
 .exact ZDI Ze s Z H _ _ _ _ Q I i g ⟨a,b,xs,ys,rfl,rfl,k,d,hx,o,λe=>absurd e r,λ_ p t=>q p _ (B8 t _) (AN.of AU)⟩
end
end L2
namespace Lw
open L2
variable{ns rs ss:List Str}{r x:Str}{g i:Nat}{d:Ag}
noncomputable def Cd(i g:Nat):Nat:=if i<g then g+1 else g
noncomputable def FA(p g:Nat):Nat:=if p<g then g - 1 else g
def Ag.gap(ns:List Str)(g:Nat):Ag->Nat
 | .put _ i=>Cd i g
 | .take x=>FA (ns.idxOf x) g
 | .move x i=>Cd i (FA (ns.idxOf x) g)
 | .turn _ _=>g
noncomputable def Bx:List Str->Str->List Str
 | [],x=>[x]
 |y::r,x=>if HS x y then x::y::r else y::Bx r x
noncomputable def Bp(r:Str)(g i:Nat):Bool:=if decide (V.str r=V.str "all")=true then true else if decide (V.str r=V.str "ahead")=true then decide ((g:Int)<=(i:Int))else false
def Ag.HZ(r:Str)(g:Nat)(ss:List Str):Ag->List Str
 | .put x i=>if Bp r g i=true then Bx ss x else ss
 | .take x=>wo ss x
 | .move _ _=>ss
 | .turn _ _=>ss
theorem IE{x k:Str}:∀{ss:List Str},k∈Bx ss x↔k=x∨k∈ss
 | []=>by simp[Bx]
 |y::r=>by
  unfold Bx;split
  .simp
  .rw[Cj,IE (ss:=r),Cj];constructor
   .rintro(h|h|h)
    .exact .inr (.inl h)
    .exact .inl h
    .exact .inr (.inr h)
   .rintro(h|h|h)
    .exact .inr (.inl h)
    .exact .inl h
    .exact .inr (.inr h)
theorem VO{x:Str}:∀{ss:List Str},Up ss->x∉ss->Up (Bx ss x)
 | [],_,_=>kN _ _
 |y::r,h,hx=>by
  obtain⟨h1,h2⟩:=List.pairwise_cons.mp h;unfold Bx;split
  .next c=>exact List.pairwise_cons.mpr ⟨λk a=>(List.mem_cons.mp a).elim (λe=>by rw[e];exact c) λa=>Ri c (h1 k a),h⟩
  .next c=>
   refine List.pairwise_cons.mpr ⟨λk a=>?_,VO h2 λb=>hx (C5 _ b)⟩;rcases IE.mp a with rfl|a
   .rcases Q9 k y with z|z|z
    .exact absurd z c
    .exact absurd (by rw[z];exact BZ) hx
    .exact z
   .exact h1 k a
theorem Xs{ts:List Str}(a:ts.Perm (ss++[x]))(b:sortedS ts=true)(h:Up ss)(hx:x∉ss):ts=Bx ss x:=by
 have nd:ts.Nodup:=a.nodup_iff.mpr (Sx (NZ h) hx);refine RJ (QU b nd) (VO h hx) λk=>?_;rw[a.mem_iff,IE,GY,Yy];exact or_comm
theorem BK.len{g:Int}(h:BK ns r g ss):ss.length<=ns.length:=WK (NZ h.up) h.sub
theorem BK.led(h:BK ns r g ss)(ok:d.Ok 40 ns)(nd:ns.Nodup):BK (d.done ns) r (d.gap ns g:Nat) (d.HZ r g ss):=by
 have g1:=h.g1;cases d with
 |put x i=>
  obtain⟨h1,h2,o,n⟩:=ok;refine⟨h.rule,by omega,?_,?_,?_⟩
  .show((Cd i g:Nat):Int)<=((ins ns x i).length:Int);rw[QR];unfold Cd;split <;> omega
  .show Up (if Bp r g i=true then Bx ss x else ss)
   split
   .exact VO h.up λj=>h2 (h.sub x j)
   .exact h.up
  .intro k c;show k∈ins ns x i;rw[Jt];have f:k∈(if Bp r g i=true then Bx ss x else ss):=c
   split at f
   .rcases IE.mp f with z|z
    .exact .inl z
    .exact .inr (h.sub k z)
   .exact .inr (h.sub k f)
 |take x=>
  have hx:x∈ns:=ok;have l:=Nl hx nd;have m:ns.idxOf x<ns.length:=List.idxOf_lt_length_iff.mpr hx;refine⟨h.rule,by omega,?_,RN x h.up,λk c=>?_⟩
  .show((FA (ns.idxOf x) g:Nat):Int)<=((wo ns x).length:Int);unfold FA;split <;> omega
  .obtain⟨a,b⟩:=De.mp (show k∈wo ss x from c);exact De.mpr ⟨h.sub k a,b⟩
 |move x i=>
  obtain⟨hx,hi⟩:=ok;have l:=Nl hx nd;have m:ns.idxOf x<ns.length:=List.idxOf_lt_length_iff.mpr hx;refine⟨h.rule,by omega,?_,h.up,λk c=>?_⟩
  .show((Cd i (FA (ns.idxOf x) g):Nat):Int)<=((ins (wo ns x) x i).length:Int);rw[QR];unfold Cd FA;split <;> split <;> omega
  .show k∈ins (wo ns x) x i;rw[Jt,De]
   by_cases e:k=x
   .exact .inl e
   .exact .inr ⟨h.sub k c,e⟩
 |turn lo hi=>
  obtain⟨h1,h2⟩:=ok;refine⟨h.rule,by omega,?_,h.up,λk c=>(eR h1).mpr (h.sub k c)⟩;show((g:Nat):Int)<=((C0 ns lo hi).length:Int);rw[TV h1 h2];exact g1
def fA:Sp:=λvs H Q _=>∃(a t:Addr)(ns:List Str)(g:Nat)(d:Ag),vs=[.ref a,.int g,.ref t]/\H a=some (.lst (ns.map V.str))/\H t=some (.tup d.vals)/\d.Ok 40 ns/\∀H',AE H H'->Q (.int (d.gap ns g:Nat)) H'
theorem Xe{g:Int}(h:BK ns r g ss)(ok:d.Ok 40 ns):∀x i,d=.put x i->x∉ss:=by
 rintro x i rfl a;exact ok.2.1 (h.sub x a)
theorem xR(p g:Nat):((g:Int) - (if decide ((p:Int)<(g:Int))=true then 1 else 0))=((FA p g:Nat):Int):=by
 unfold FA
 by_cases h:p<g
 .rw[o9 h,o9 (mG (by omega))];omega
 .rw[mL h,mL (by simp;omega)];omega
theorem ZEn(i g:Nat):((g:Int)+(if decide ((i:Int)<(g:Int))=true then 1 else 0))=((Cd i g:Nat):Int):=by
 unfold Cd
 by_cases h:i<g
 .rw[o9 h,o9 (mG (by omega))];omega
 .rw[mL h,mL (by simp;omega)];omega
noncomputable def Ag.kind:Ag->Str
 | .put _ _ => "put"
 | .take _ => "take"
 | .move _ _ => "move"
 | .turn _ _ => "turn"
theorem Q4(d:Ag):BU d.vals 0=some (.str d.kind):=by cases d <;> rfl
def Ag.OK(ns:List Str)(g:Nat):Ag->Nat
 | .take x=>FA (ns.idxOf x) g
 | .move x _=>FA (ns.idxOf x) g
 |_=>g
theorem uS(g:Nat)(ok:d.Ok 40 ns)(h:Fi (.str d.kind) [.str "take",.str "move"]=true):∃x,BU d.vals 1=some (.str x)/\x∈ns/\d.OK ns g=FA (ns.idxOf x) g:=by
 cases d with
 |put x i=>(simp only[Ag.kind]at h;exact absurd h (by decide +kernel))
 |take x=>exact⟨x,rfl,ok,rfl⟩
 |move x i=>exact⟨x,rfl,ok.1,rfl⟩
 |turn lo hi=>(simp only[Ag.kind]at h;exact absurd h (by decide +kernel))
theorem tW(g:Nat)(h:¬ Fi (.str d.kind) [.str "take",.str "move"]=true):d.OK ns g=g:=by
 cases d with
 |put x i=>rfl
 |take x=>exact absurd (by simp only[Ag.kind];decide +kernel) h
 |move x i=>exact absurd (by simp only[Ag.kind];decide +kernel) h
 |turn lo hi=>rfl
theorem ZAs(g:Nat)(h:Fi (.str d.kind) [.str "put",.str "move"]=true):∃i:Nat,BU d.vals 2=some (.int i)/\d.gap ns g=Cd i (d.OK ns g):=by
 cases d with
 |put x i=>exact⟨i,rfl,rfl⟩
 |take x=>(simp only[Ag.kind]at h;exact absurd h (by decide +kernel))
 |move x i=>exact⟨i,rfl,rfl⟩
 |turn lo hi=>(simp only[Ag.kind]at h;exact absurd h (by decide +kernel))
theorem ZD9(g:Nat)(h:¬ Fi (.str d.kind) [.str "put",.str "move"]=true):d.gap ns g=d.OK ns g:=by
 cases d with
 |put x i=>exact absurd (by simp only[Ag.kind];decide +kernel) h
 |take x=>rfl
 |move x i=>exact absurd (by simp only[Ag.kind];decide +kernel) h
 |turn lo hi=>rfl
def Ag.Pe(ss:List Str):Ag->List Str
 | .take x=>wo ss x
 |_=>ss
theorem mV{r:Str}{g:Nat}(h:decide (V.str d.kind=V.str "take")=true):∃x,BU d.vals 1=some (.str x)/\d.Pe ss=wo ss x:=by
 cases d with
 |take x=>exact⟨x,rfl,rfl⟩
 |_=>
  have h':=mP h;injection h' with h2
  exact absurd h2 (by simp only[Ag.kind];decide +kernel)
theorem pW(h:¬ decide (V.str d.kind=V.str "take")=true):d.Pe ss=ss:=by
 cases d with
 |take x=>exact absurd (by simp only[Ag.kind];decide +kernel) h
 |_=>rfl
theorem tV(h:decide (V.str d.kind=V.str "put")=true):∃x i,d=.put x i:=by
 cases d with
 |put x i=>exact⟨x,i,rfl⟩
 |_=>
  have h':=mP h;injection h' with h2
  exact absurd h2 (by simp only[Ag.kind];decide +kernel)
theorem mY(h:¬ decide (V.str d.kind=V.str "put")=true):d.HZ r g ss=d.Pe ss:=by
 cases d with
 |put x i=>exact absurd (by simp only[Ag.kind];decide +kernel) h
 |_=>rfl
theorem WX(h:Bp r g i=true):Ag.HZ r g ss (.put x i)=Bx ss x:=by show(if _ then _ else _)=_;rw[o9 h]
theorem UR(h:Bp r g i=false):Ag.HZ r g ss (.put x i)=ss:=by show(if _ then _ else _)=_;rw[mL (by rw[h];decide)]
theorem WU(nd:rs.Nodup)(h:rs[g]?=some x):rs.idxOf x=g:=by
 obtain⟨d,e⟩:=List.getElem?_eq_some_iff.mp h;have hx:x∈rs:=LB h;have a:rs.idxOf x<rs.length:=List.idxOf_lt_length_iff.mpr hx;have f:rs[rs.idxOf x]=x:=Ys a;have b:=List.pairwise_iff_getElem.mp nd;rcases ZFK (rs.idxOf x) g with c|c|c
 .exact absurd (f.trans e.symm) (b _ _ a d c)
 .exact c
 .exact absurd (e.trans f.symm) (b _ _ d a c)
theorem OE(g i:Nat):Bp "ahead" g i=decide ((g:Int)<=(i:Int)):=by
 unfold Bp;rw[mL (by decide),o9 (by decide)]
end Lw
namespace L2
section
variable{X:Cx}{Ze:ZGY}{Z:St}{H2:Hp}{s2:Shared}{elt iter:Expr}{x z:Str}{px pz tp pos:Pos}{tk:Nat}{scope:Scope}{Au:List Str}{js:List Nat}{te:TE}{J:It}{fp:List Addr}{it:Addr}
 {tn:Nat->Heap->Prop}
end
end L2
namespace Fz
open L2 Lw
variable{E:Ent0}{ss:List Slot}{Z:L2.St}{F F' H H':Hp}{js:List Nat}{ta tb te:TE}{k:Bool->List PV->Prop}{nx:List Slot->Prop}{R:B6}{i:Nat}{wi:TI}{α:Type}{th tl:TO}
section
variable[Xw]
variable{K:ZGX}{k:PV->Prop}
theorem Sg.WE(S:Sg E ss Z F H){p:Addr}(hi:ss[i]?=some .Af)(e:Z[i]?=some (some (.ref p)))(s:BM p H H'):Mv E ss Z F H F H':=by
 obtain⟨g,b,fp,_,f⟩:=S.ok i _ hi;rw[e]at b;cases b;refine S.step (AE.refl _) (λa o q=>s.same a o (DU q fp) (S.fh a o q)) (λa o n q=>s.same a o (λz=>?_) q) (λa o q=>.inl q) λj l c d=>?_
 .rw[z]at n;exact n i hi e
 .by_cases z:l=p
  .rw[z];exact s.Af
  .exact CC.keep (S.Gv c d) λo q=>s.same l o z q
theorem ZAJ(hi:ss[i]?=some .Af)(h:Wp ss te λx=>∃m,x=.int m/\0<m/\m<10 ^ 18/\∀r:Int,0<=r->r<m->k (.int r)):Wp ss (EK LX [] E0 (BC (Cp i) (BC te Bj))) k:=⟨λE Z F H Q S q=>by
 obtain⟨p,e,_⟩:=S.ok i _ hi;refine⟨_,e,h.go E Z F H _ S λv x F1 H1 a r⟨m,f,d,OW,kk⟩=>?_⟩;subst f;cases r.inv;exact⟨p,m,rfl,a.st.Gv hi e,d,OW,λr H2 c b s=>q _ _ F1 H2 (a.trans (a.st.WE hi e s)) (.int r) (kk r c b)⟩⟩
theorem ZAu{sp:Sp}{k:List PV->Prop}(Ea:sp=TQ)(hi:ss[i]?=some .Af)(h:Wp ss te λx=>∃m,x=.int m/\1<=m/\m<=100/\∀ns:List Str,(ns.length:Int)<=m->(∀x∈ns,Nm x)->ns.Nodup->k (ns.map PV.str)):Wn ss (EK sp [] E0 (BC (Cp i) (BC te Bj))) k:=⟨λE Z F H Q S q=>by
 subst Ea;obtain⟨p,e,_⟩:=S.ok i _ hi;refine⟨_,e,h.go E Z F H _ S λv x F1 H1 a r⟨m,j,d,OW,kk⟩=>?_⟩;subst j;cases r.inv;refine⟨p,m,rfl,a.st.Gv hi e,d,OW,λl H2 ns b s CY f g nd=>?_⟩;have c:=a.st.WE hi e s;exact q l _ _ F1 H2 (a.trans c) (a.st.Cw b) (a.none b) CY (KZ ns) (kk ns f g nd)⟩
def MI(K:ZGX)(ns:List Int):Hp->V->Prop:=λF v=>∃a,v=.ref a/\AO K F a (ns.map V.int)
theorem jj(K:ZGX)(ns:List Int):∀(v:V)(F F':Hp),AE F F'->MI K ns F v->MI K ns F' v:=λv F F' s AM=>by obtain⟨a,e,h⟩:=AM;exact⟨a,e,by
 rcases h with(h|⟨o,h⟩)|h
 .exact .inl (.inl (s _ _ h))
 .exact .inl (.inr ⟨o,s _ _ h⟩)
 .exact .inr h⟩
theorem zD{j:Nat}{ns:List Int}(hi:ss[i]?=some (.raw (MI K ns)))(h:Wp ss te λx=>∃m,x=.int m/\0<=m/\m<=1000/\nx (ss.set j .Af)):Ws ss (Fd (EK (U9 K) [] E0 (BC (Cp i) (BC te Bj))) (Dj j)) nx R:=⟨λE D Z F H S hn B=>by
 obtain⟨v,e,⟨a,y,C⟩,st⟩:=S.ok i _ hi;subst y;refine⟨_,e,h.go E Z F H _ S λv x F1 H1 c r⟨m,z,t,OW,kk⟩=>?_⟩;subst z;cases r.inv;obtain⟨A,f,k,_⟩:=c.st.ok i _ hi;rw[e]at f;cases f;obtain⟨G,ea,g⟩:=jj K ns _ F1 H1 c.st.fh k;cases ea;refine⟨a,ns,m,rfl,g,t,OW,λp H2 d s n=>?_⟩;have q:=c.st.grow s;exact hn _ _ F1 H2 kk (q.st.setG ⟨p,rfl,c.st.Cw d,.inl (c.st.Gr d),n⟩ λl e b u _ w o=>by cases e;exact c.st.P6 w d o) c.ff⟩
end
section
variable{K:ZGX}
theorem lL{N:List Str}{vs:List V}{Q:VK}{X:XK}{t:TS}(h:N9 K vs H Q X)(hw:∀ns:List Int,ns.length<=63->Ws (.raw (MI K ns)::List.replicate (N.length - 1) .any) t (λ_=>False) (.is λp=>p=.bl true)):t { nx:=λ_ H'=>Q .AG H',rt:=Q } (L2.start N vs) H:=by
 obtain⟨a,ns,rfl,c,d,q⟩:=h;have S:Sg (E3 [] H H) [.raw (MI K ns)] [some (.ref a)] H H:=by
  have nn:∀{p:Prop}(a:Addr),a∈([]:List Addr)->p:=λa h=>absurd h Bb;refine⟨⟨AE.refl _,AE.refl _,λ_ _ _ e=>e,λ_ _ e=>.inl e,λa h=>nn a h,λa h=>nn a h,λa h=>nn a h,λa h=>nn a h,λa h=>nn a h,λa h=>nn a h⟩,rfl,λi s hi=>?_,λi j s u l Gm hi g b=>?_⟩
  .cases i with
   |zero=>cases hi;exact⟨_,rfl,⟨a,rfl,c⟩,jj K ns _⟩
   |succ i=>simp at hi
  .cases i with
   |zero=>cases hi;cases b
   |succ i=>simp at hi
 refine(hw ns d).go (aJ (E3 [] H H)) _ _ H H (S.grown _) (λ_ _ _ _ h=>h.elim) λv F' H' f ok=>?_;obtain⟨p,r,rfl⟩:=ok;cases r.inv;exact q H'
end
section
variable[Xw]
variable{K:ZGX}{k:PV->Prop}
theorem Wi.mono{k a:List PV->Prop}(h:Wi ss wi k)(i:∀xs,k xs->a xs):Wi ss wi a:=⟨λE Z F H R S q=>h.go E Z F H R S λJ xs F' H' m s kk=>q J xs F' H' m s (i xs kk)⟩
theorem Hf{tt:TT}{k:List PV->Prop}(c:α->PV)(f:α->Bool)(g:α->PV)
  (h:Wi ss wi λxs=>∃ns:List α,xs=ns.map c/\ns.length<=100000/\(∀x∈ns,Wt (DT js ss++[.is (c x)]) tt λb=>b=f x)/\(∀x∈ns,f x=true->Wp (DT js ss++[.is (c x)]) te λp=>p=g x)/\k ((ns.filter f).map g))
  (inj:∀x y,c x=c y->x=y) (nd:js.Nodup:=by decide) (np:Qv js ss=true:=by rfl):Wn ss (Kg wi js tt te) k:=by
 by_cases hα:Nonempty α
 .obtain⟨x0⟩:=hα;have inv:∀p:PV,∃x:α,∀y,c y=p->y=x:=λp=>by
   by_cases q:∃y,c y=p
   .obtain⟨y,a⟩:=q;exact⟨y,λz i=>inj _ _ (i.trans a.symm)⟩
   .exact⟨x0,λy a=>absurd ⟨y,a⟩ q⟩
  let d:PV->α:=λp=>Classical.choose (inv p)
  have hd:∀x,d (c x)=x:=λx=>(Classical.choose_spec (inv (c x)) x rfl).symm;refine LK (λp=>f (d p)) (λp=>g (d p)) (h.mono λxs⟨ns,e,i,h1,h2,kk⟩=>?_) nd np;subst e;refine⟨by rw[Ae];exact i,λx hx=>?_,λx hx j=>?_,?_⟩
  .obtain⟨y,a,rfl⟩:=List.mem_map.mp hx;rw[hd];exact h1 y a
  .obtain⟨y,a,rfl⟩:=List.mem_map.mp hx;rw[hd]at j ⊢;exact h2 y a j
  .have e:((ns.map c).filter λp=>f (d p)).map (λp=>g (d p))=(ns.filter f).map g:=by
    rw[kD,Il]
    congr 1
    .funext x;show g (d (c x))=g x;rw[hd]
    .congr 1;funext x;show f (d (c x))=f x;rw[hd]
   rw[e];exact kk
 .refine LK (λ_=>true) (λp=>p) (h.mono λxs⟨ns,e,i,h1,h2,kk⟩=>?_) nd np;have l:ns=[]:=by
   cases ns with
   |nil=>rfl
   |cons x r=>exact absurd ⟨x⟩ hα
  subst l;subst e;exact⟨by simp,λx hx=>absurd hx (by simp),λx hx=>absurd hx (by simp),kk⟩
theorem str_inj:∀x y:Str,PV.str x=PV.str y->x=y:=λ_ _ e=>by injection e
theorem wH(h:Wp ss ta λp=>∃x,p=.str x/\Wq ss tb λ_ ys=>∃ns:List Str,ys=ns.map PV.str/\k (.bl (decide (x∈ns)))):Wp ss (Bk (HW K false) ta tb) k:=Zw h
theorem tT(h:Wp ss ta λp=>∃x,p=.str x/\Wq ss tb λ_ ys=>∃ns:List Str,ys=ns.map PV.str/\k (.bl (!decide (x∈ns)))):Wp ss (Bk (HW K true) ta tb) k:=Zw h
theorem ZCj(h:Wq ss ta λtp xs=>∃ns:List Str,xs=ns.map PV.str/\Wq ss tb λC1 ys=>C1=tp/\∃a:List Str,ys=a.map PV.str/\k (.bl (decide (ns=a)))):Wp ss (Bk (O0 K false) ta tb) k:=fD h
theorem xM(h:Wq ss ta λtp xs=>∃ns:List Str,xs=ns.map PV.str/\Wq ss tb λC1 ys=>C1=tp/\∃a:List Str,ys=a.map PV.str/\k (.bl (!decide (ns=a)))):Wp ss (Bk (O0 K true) ta tb) k:=fD h
theorem Wq.mono{k a:Bool->List PV->Prop}(h:Wq ss te k)(i:∀b xs,k b xs->a b xs):Wq ss te a:=⟨λE Z F H Q S q=>h.go E Z F H Q S λv tp xs F' H' m s kk=>q v tp xs F' H' m s (i tp xs kk)⟩
theorem Wo.mono{t:TO}{k a:Option Int->Prop}(h:Wo ss t k)(i:∀o,k o->a o):Wo ss t a:=⟨λE Z F H Q S q=>h.go E Z F H Q S λo F' H' m kk=>q o F' H' m (i o kk)⟩
theorem bD{k:Bool->List PV->Prop}(h:Wq ss te λtp xs=>Wo ss tl λlo=>Wo ss th λhi=>k tp (EA xs lo hi)):Wz ss (Lq (Pz K) te tl th) k:=
 Nj (jP (h.mono λtp xs h=>h.mono λlo h=>h.mono λhi h=>by
  cases tp
  .exact⟨_,.inl ⟨rfl,h⟩⟩
  .exact⟨_,.inr ⟨rfl,h⟩⟩))
theorem uv{k:Bool->List PV->Prop}(h:Wq ss te λtp xs=>Wo ss tl λlo=>Wo ss th λhi=>k tp (EA xs lo hi)):Wq ss (Lq (Pz K) te tl th) k:=i8 (bD h)
theorem Pq(xs:List α)(g:Nat):EA xs none (some (g:Int))=xs.take g:=by
 unfold EA;rw[HT.JM,HT.Pk,Oa,SH];rcases Od g xs.length with h|h
 .rw[Ht h]
 .rw[Of h,Jk,Mh h]
theorem V1(xs:List α)(g:Nat):EA xs (some (g:Int)) none=xs.drop g:=by
 unfold EA;rw[HT.JM,HT.Pk];rcases Od g xs.length with h|h
 .rw[Ht h,Mh (by rw[D5];omega)]
 .rw[Of h,kA,ZF1 h];simp
theorem ZCP(g:α->Bool)(xs:List α):xs.map (λx=>PV.bl (g x))=(xs.map g).map PV.bl:=by rw[Il];rfl
end
end Fz
namespace Fz
open L2 Lw
section
variable[Xw]
variable{E:Ent0}{ss:List Slot}{Z:L2.St}{F H F' H':Hp}{K:ZGX}{js:List Nat}{ta tb te:TE}{k:PV->Prop}{nx:List Slot->Prop}{R:B6}{xs ys:List PV}
theorem dY(h:Wq ss ta λtp xs=>tp=false/\∃ns:List Str,xs=ns.map PV.str/\Wp ss tb λp=>∃x,p=.str x/\x∈ns/\k (.int (ns.idxOf x:Nat))):Wp ss (LN K "list" (dG K) ta (BC tb Bj)) k:=⟨λE Z F H Q S q=>
 h.go E Z F H _ S λv tp xs F1 H1 b sv⟨g,ns,e,h2⟩=>by
  subst e;subst g;obtain⟨l,vs,rfl,f,r⟩:=sv.seq b.st;refine⟨.inl ⟨rfl,_,AO.of f⟩,h2.go E Z F1 H1 _ b.st λm p2 F2 H2 a c⟨x,i,hx,kk⟩=>?_⟩;subst i;cases c.inv;obtain⟨n,EN,j,EM,d⟩:=(sv.mv a).seq a.st;cases j;rw[d.strs]at EM;exact⟨l,ns,x,rfl,rfl,AO.of EM,hx,q _ _ F2 H2 (b.trans a) (.int _) kk⟩⟩
theorem nr{α:Type}{wi:TI}{te:TE}{k:List PV->Prop}(c:α->PV)(g:α->PV)
  (h:Wi ss wi λxs=>∃ns:List α,xs=ns.map c/\ns.length<=100000/\(∀x∈ns,Wp (DT js ss++[.is (c x)]) te λp=>p=g x)/\k (ns.map g))
  (inj:∀x y,c x=c y->x=y) (nd:js.Nodup:=by decide) (np:Qv js ss=true:=by rfl):Wn ss (Kg wi js QX te) k:=
 Hf c (λ_=>true) g (h.mono λxs AM=>by obtain⟨ns,e,a,h1,kk⟩:=AM;exact⟨ns,e,a,λx hx=>IU rfl,λx hx _=>h1 x hx,by rw[List.filter_eq_self.mpr (λ_ _=>rfl)];exact kk⟩) inj nd np
theorem we{k:List PV->Prop}(h:Wq ss te λ_ xs=>k xs.reverse):Wn ss (Tt K (BC te Bj)) k:=⟨λE Z F H Q S q=>
 h.go E Z F H _ S λv tp xs F1 H1 b sv kk=>by
  obtain⟨l,vs,rfl,e,r⟩:=sv.seq b.st;refine⟨l,tp,vs,rfl,Ey.sq e,λa c=>?_⟩;have d:=b.st.make c (.lst vs.reverse);exact q a _ _ F1 _ (b.trans d) (b.st.Cw c) (b.none c) AU r.reverse kk⟩
theorem zM(h:Wq ss ta λtp xs=>tp=false/\Wq ss tb λC1 ys=>C1=false/\ys=[]/\k (.bl (decide (xs.length=0)))):Wp ss (Bk (bP K) ta tb) k:=⟨λE Z F H Q S q=>
 h.go E Z F H _ S λv tp xs F1 H1 b sv⟨g,h2⟩=>h2.go E Z F1 H1 _ b.st λi C1 ys F2 H2 a Kl⟨UU,f,kk⟩=>by
  subst g;subst UU;subst f;obtain⟨l,vs,rfl,d,r⟩:=(sv.mv a).seq a.st;obtain⟨l2,OD,rfl,CY,c⟩:=Kl.seq a.st;cases c;refine⟨l,l2,vs,rfl,rfl,AO.of d,AO.of CY,?_⟩;have e:decide (vs=[])=decide (xs.length=0):=by
   rw[<- r.length];cases vs <;> simp
  rw[e];exact q _ _ F2 H2 (b.trans a) (.bl _) kk⟩
end
theorem BR{c A B:Prop}[Decidable c](h:c)(a:A):if c then A else B:=by rw[o9 h];exact a
theorem ZCx{a b:List Str}(p:a.Perm b)(d:sortedS a=true)(c:sortedS b=true):a=b:=by
 refine List.Perm.eq_of_pairwise (le:=λa b=>¬ HS b a) (λx y _ _ h1 h2=>?_) (X6 d) (X6 c) p;rcases Q9 x y with z|z|z
 .exact absurd z h2
 .exact z
 .exact absurd z h1
end Fz
namespace Fz
open L2 Lw
section
variable[Xw]
variable{E:Ent0}{ss:List Slot}{Z:L2.St}{F H F' H':Hp}{K:ZGX}{js:List Nat}{ta tb tc te:TE}{k:PV->Prop}{nx:List Slot->Prop}{R:B6}{xs ys:List PV}
noncomputable def dP:Ag->PV
 | .put x i=>.tup [.str "put",.str x,.int i]
 | .take x=>.tup [.str "take",.str x]
 | .move x i=>.tup [.str "move",.str x,.int i]
 | .turn lo hi=>.tup [.str "turn",.int lo,.int hi]
theorem fc{d:Ag}{v:V}(r:Rep F v (dP d)):∃t,v=.ref t/\F t=some (.tup d.vals):=by
 cases d <;> (obtain⟨a,vs,rfl,h,b⟩:=r.inv;cases b.enc rfl;exact⟨a,rfl,h⟩)
theorem bY{k:List PV->Prop}(h:Wq ss ta λtp xs=>tp=false/\∃ns:List Str,xs=ns.map PV.str/\Wp ss tb λp=>∃d:Ag,p=dP d/\d.Ok 40 ns/\ns.length<=40/\ns.Nodup/\k ((d.done ns).map PV.str)):
  Wn ss (EK YL [] E0 (BC ta (BC tb Bj))) k:=⟨λE Z F H Q S q=>
 h.go E Z F H _ S λv tp xs F1 H1 c sv⟨e,ns,ex,h2⟩=>h2.go E Z F1 H1 _ c.st λx p2 F2 H2 b i⟨d,u,hd,m,nd,kk⟩=>by
  subst e;subst ex;subst u;obtain⟨l,vs,o,f,r⟩:=(sv.mv b).seq b.st;subst o;rw[r.strs]at f;obtain⟨t,e,n⟩:=fc i;subst e;refine⟨l,t,ns,d,rfl,f,b.st.fh _ _ n,hd,m,nd,λa H3 g s w=>?_⟩;have j:=b.st.grow s;exact q a _ _ F2 H3 (c.trans (b.trans j)) (b.st.Cw g) ((c.trans b).none g) w (KZ _) kk⟩
end
end Fz
namespace L2
section
variable{X:Cx}
theorem ZEG:BD X (compareOp .IsNot) (λx y H Q=>∃a b,x=.bl a/\y=.bl b/\Q (.bl (!(a == b))) H):=by
 intro Ze s Z H x y v u Q I d c h;obtain⟨a,b,rfl,rfl,q⟩:=h;cases d;cases c;refine wpAny_isNot_plain (by cases a <;> cases b <;> rfl) (By I q ?_)
 cases a <;> cases b <;> rfl
end
end L2
namespace Fz
open L2 Lw
section
variable[Xw]
variable{E:Ent0}{ss:List Slot}{Z:L2.St}{F H F' H':Hp}{K:ZGX}{js:List Nat}{ta tb tc te:TE}{k:PV->Prop}{nx:List Slot->Prop}{R:B6}{xs ys:List PV}{P:Program}{w:World}
theorem bo(h:Wp ss ta λp=>∃a,p=.bl a/\Wp ss tb λq=>∃b,q=.bl b/\k (.bl (!(a == b)))):Wp ss (Bk (λx y H Q=>∃a b,x=.bl a/\y=.bl b/\Q (.bl (!(a == b))) H) ta tb) k:=⟨λE Z F H Q S q=>
 h.go E Z F H _ S λv p F1 H1 c e AM=>by
  obtain⟨a,i,h2⟩:=AM;subst i;cases e.inv;exact h2.go E Z F1 H1 _ c.st λj p2 F2 H2 f d D9=>by
   obtain⟨b,g,kk⟩:=D9;subst g;cases d.inv;exact⟨a,b,rfl,rfl,q _ _ F2 H2 (c.trans f) (.bl _) kk⟩⟩
theorem zE{k:List PV->Prop}(h:Wq ss te λ_ xs=>∃ns:List Str,xs=ns.map PV.str/\ns.length<64/\∀ts:List Str,ts.length=(dd ns).length->(∀x,(dd ns).any (· == x)=true↔x∈ts)->sortedS ts=true->k (ts.map PV.str)):
  Wn ss (DB (WZ P w) (BC (DB (λxs H Q=>∃(p:Addr)(tp:Bool)(ss:List Str),xs=[.ref p]/\DH K tp H p (ss.map V.str)/\ss.length<4000/\∀l,H l=none->Q (.ref l) (upd H l (Ef P w l (λf=>(dd ss).any (· == f)) (dd ss).length))) (BC te Bj)) Bj)) k:=⟨λE Z F H Q S q=>
 h.go E Z F H _ S λv tp xs F1 H1 d sv AM=>by
  obtain⟨ns,e,m,kk⟩:=AM;subst e;obtain⟨l,vs,rfl,i,r⟩:=sv.seq d.st;rw[r.strs]at i;refine⟨l,tp,ns,rfl,Ey.sq i,by omega,λa s=>?_⟩;have c:=d.st.make s (Ef P w a (λf=>(dd ns).any (· == f)) (dd ns).length)
  refine⟨a,_,_,rfl,AU,FR (Ow ns) m,λb ts g CY o n=>?_⟩;have j:=c.st.make g (.lst (ts.map V.str));exact q b _ _ F1 _ (d.trans (c.trans j)) (c.st.Cw g) ((d.trans c).none g) AU (KZ ts) (kk ts CY o n)⟩
end
end Fz
namespace Fz
open L2 Lw
variable{E:Ent0}{ss:List Slot}{Z:L2.St}{F H:Hp}{ta tb te:TE}{k:PV->Prop}{nx:List Slot->Prop}{R:B6}{xs:List PV}
theorem oN{α:Type}(b:List α)(x:α)(j:Nat):(b.take j++x::b.drop j).Perm (x::b):=by
 have h:=List.perm_middle (a:=x) (l₁:=b.take j) (l₂:=b.drop j)
 rwa [LD]at h
theorem VV{a:List Str}{x:Str}(j:Nat)(h:a.Nodup)(hx:x∉a):(a.take j++x::a.drop j).Nodup:=(oN a x j).nodup_iff.mpr (List.nodup_cons.mpr ⟨hx,h⟩)
end Fz
namespace Lw
open L2
variable{c t:Addr}{r:Str}{g:Int}{ss:List Str}
def Fg(H:Hp)(t c:Addr)(r:Str)(g:Int)(ss:List Str):Prop:=H t=some (.tup [.str r,.int g,.ref c])/\H c=some (.tup (ss.map V.str))
theorem Fg.h{H:Hp}(h:Fg H t c r g ss):jX H t r g ss:=⟨c,h⟩
theorem Fg.same{H H':Hp}(s:AE H H')(h:Fg H t c r g ss):Fg H' t c r g ss:=⟨s _ _ h.1,s _ _ h.2⟩
def Sd:Sp:=λvs H Q _=>∃(a tl c e:Addr)(ns:List Str)(r:Str)(g:Nat)(ss:List Str)(d:Ag),vs=[.ref a,.ref tl,.ref c]/\H a=some (.lst (ns.map V.str))/\Fg H tl e r g ss/\H c=some (.tup d.vals)/\d.Ok 40 ns/\BK ns r g ss/\ns.length<=40/\
 ∀t' b H',H t'=none->(H b=none∨b=e)->AE H H'->Fg H' t' b r (d.gap ns g:Nat) (d.HZ r g ss)->Q (.ref t') H'
def cT(H H':Hp)(t' t:Addr)(ns:List Str)(r:Str)(g:Nat)(ss:List Str):Prop:=
 (Cg ns g ss=[]/\H' t'=some (.tup [.AG,.ref t]))∨∃x HP t2 c2,Cg ns g ss=x::HP/\H t2=none/\H c2=none/\H' t'=some (.tup [.str x,.ref t2])/\Fg H' t2 c2 r ((ns.idxOf x:Nat)+1) (wo ss x)
def X8:Sp:=λvs H Q _=>∃(a:Addr)(ns:List Str)(t:Addr)(r:Str)(g:Nat)(ss:List Str),vs=[.ref a,.ref t]/\H a=some (.lst (ns.map V.str))/\jX H t r g ss/\ss.length<64/\ns.length<=1000/\
 ∀t' H',H t'=none->AE H H'->cT H H' t' t ns r g ss->Q (.ref t') H'
end Lw
namespace Fz
open L2 Lw
variable{E:Ent0}{ss:List Slot}{Z:L2.St}{F F' F0 F1 H H' H0:Hp}{js m p:List Nat}{ta tb tc te ti:TE}{nx:List Slot->Prop}{R:B6}{k:List Nat->OV->Prop}{n t u x y:OV}{o:HO}{v:V}{r:Str}{g i j:Nat}{cs ns:List Str}{a b c:Addr}{ps xs ys:List PV}{A:Around}{EN vs ws:List V}{A5 Bg:List Value}{C1 tp:Bool}{q:PV}{tr:TA}{us:List OV}{pre:Pre}
noncomputable def Cz(r:Str)(g:Nat)(ss:List Str):PV:=.tup [.str r,.int g,.tup (ss.map .str)]
section
variable[Xw]
variable{K:ZGX}{k:PV->Prop}
theorem Mv.adopt(m:Mv E ss Z F H F1 H')(S:Sg E ss Z F H){t:Addr}(c:H t=Option.none)(e:H' t=some o):Mv E ss Z F H (upd F1 t o) H':=by
 have b:AE F1 (upd F1 t o):=λa u q=>by
  by_cases z:a=t
  .subst z;have w:=m.st.fh _ _ q;rw[e]at w;rw[AU];exact w
  .rw[Az z];exact q
 refine S.step (m.ff.trans b) (λa u q=>?_) m.hh (λa u q=>?_) λi l hi d=>m.st.Gv hi d
 .by_cases z:a=t
  .subst z;rw[AU]at q;rw[<- q];exact e
  .rw[Az z]at q;exact m.st.fh a u q
 .by_cases z:a=t
  .subst z;exact .inr c
  .rw[Az z]at q;exact m.nn a u q
theorem bX(h:Rep F v (Cz r g cs)):∃t c,v=.ref t/\Fg F t c r g cs:=by
 obtain⟨_,_,rfl,e,q⟩:=h.inv;obtain⟨_,_,rfl,a,q⟩:=q.inv;obtain⟨_,_,rfl,b,q⟩:=q.inv;obtain⟨_,_,rfl,c,q⟩:=q.inv;cases q;cases a;cases b;obtain⟨_,_,rfl,d,f⟩:=c.inv;rw[f.strs]at d;exact⟨_,_,rfl,e,d⟩
theorem Uv{t:Addr}(h:Fg F t c r g cs):Rep F (.ref t) (Cz r g cs):=.tup h.1 (.cons (.str _) (.cons (.int _) (.one (.tup h.2 (KZ cs)))))
theorem Mv.iS(m:Mv E ss Z F H F1 H')(S:Sg E ss Z F H){t j:Addr}(k:H t=Option.none)(d:H c=Option.none∨c=j)(l:F j=some o)(e:Fg H' t c r g cs):∃F2,Mv E ss Z F H F2 H'/\AE F1 F2/\Rep F2 (.ref t) (Cz r g cs):=by
 have b:∃F2,Mv E ss Z F H F2 H'/\AE F1 F2/\F2 c=some (.tup (cs.map V.str)):=by
  rcases d with d|rfl
  .refine⟨_,m.adopt S d e.2,λa u q=>?_,AU⟩
   by_cases z:a=c
   .subst z;have w:=m.st.fh _ _ q;rw[e.2]at w;rw[AU];exact w
   .rw[Az z];exact q
  .refine⟨F1,m,AE.refl _,?_⟩;have w:=m.ff _ _ l;have f:=m.st.fh _ _ w;rw[e.2]at f;rw[w,<- f]
 obtain⟨F2,i,s2,IZ⟩:=b;have h:AE F2 (upd F2 t (.tup [.str r,.int g,.ref c])):=λa u q=>by
  by_cases z:a=t
  .subst z;have w:=i.st.fh _ _ q;rw[e.1]at w;rw[AU];exact w
  .rw[Az z];exact q
 exact⟨_,i.adopt S k e.1,s2.trans h,Uv ⟨AU,h _ _ IZ⟩⟩
theorem Zr(h:Wq ss ta λtp xs=>tp=false/\∃ns:List Str,xs=ns.map PV.str/\Wp ss tb λp=>∃(r:Str)(g:Nat)(cs:List Str),p=Cz r g cs/\Wp ss tc λp2=>∃d:Ag,p2=dP d/\d.Ok 40 ns/\BK ns r g cs/\ns.length<=40/\k (Cz r (d.gap ns g) (d.HZ r g cs))):
  Wp ss (EK Sd [] E0 (BC ta (BC tb (BC tc Bj)))) k:=⟨λE Z F H Q S q=>
 h.go E Z F H _ S λv tp xs F1 H1 c sv⟨x,ns,ex,h2⟩=>h2.go E Z F1 H1 _ c.st λC p2 F2 H2 b n⟨r,g,cs,ep,w⟩=>w.go E Z F2 H2 _ b.st λB p3 F3 H3 a m⟨d,y,hd,gd,s,kk⟩=>by
  subst x;subst ex;subst ep;subst y;obtain⟨l,vs,rfl,f,i⟩:=(sv.mv (b.trans a)).seq a.st;rw[i.strs]at f;obtain⟨tl,A,rfl,e⟩:=bX (n.mono a.ff);obtain⟨t,rfl,u⟩:=fc m;refine⟨l,tl,t,A,ns,r,g,cs,d,rfl,f,e.same a.st.fh,a.st.fh _ _ u,hd,gd,s,λt' D H4 Hw Jz s4 z=>?_⟩;obtain⟨F4,o,_,j⟩:=(a.st.grow s4).iS a.st Hw Jz e.2 z;exact q _ _ F4 H4 (c.trans (b.trans (a.trans o))) j kk⟩
def Hu(ns:List Str)(r:Str)(g:Nat)(cs:List Str):PV:=match Cg ns g cs with
 | []=>.tup [.AG,Cz r g cs]
 |x::_=>.tup [.str x,Cz r (ns.idxOf x+1) (wo cs x)]
theorem Mv.pT(m:Mv E ss Z F H F1 H')(S:Sg E ss Z F H){t t':Addr}(f:H t'=Option.none)(j:Fg F t c r g cs)(e:cT H H' t' t ns r g cs):∃F2,Mv E ss Z F H F2 H'/\Rep F2 (.ref t') (Hu ns r g cs):=by
 rcases e with⟨h,e⟩|⟨x,HP,t2,c2,h,h2,n,e,l⟩
 .refine⟨_,m.adopt S f e,?_⟩;have b:=(m.adopt S f e).ff;unfold Hu;rw[h];exact .tup AU (.cons .AG (.one (Uv (j.same b))))
 .have d:Fg H' t2 c2 r ((ns.idxOf x+1:Nat):Int) (wo cs x):=l;obtain⟨F2,i,_,k⟩:=m.iS S h2 (.inl n) j.1 d;refine⟨_,i.adopt S f e,?_⟩;have b:AE F2 (upd F2 t' (.tup [.str x,.ref t2])):=λa u q=>by
   by_cases z:a=t'
   .subst z;have w:=i.st.fh _ _ q;rw[e]at w;rw[AU];exact w
   .rw[Az z];exact q
  unfold Hu;rw[h];exact .tup AU (.cons (.str _) (.one (k.mono b)))
theorem iu(h:Wq ss ta λtp xs=>tp=false/\∃ns:List Str,xs=ns.map PV.str/\Wp ss tb λp=>∃(r:Str)(g:Nat)(cs:List Str),p=Cz r g cs/\BK ns r g cs/\ns.length<=60/\k (Hu ns r g cs)):
  Wp ss (EK X8 [] E0 (BC ta (BC tb Bj))) k:=⟨λE Z F H Q S q=>
 h.go E Z F H _ S λv tp xs F1 H1 b sv⟨n,ns,ex,h2⟩=>h2.go E Z F1 H1 _ b.st λs p2 F2 H2 a j⟨r,g,cs,ep,gd,t,kk⟩=>by
  subst n;subst ex;subst ep;obtain⟨l,vs,rfl,e,f⟩:=(sv.mv a).seq a.st;rw[f.strs]at e;obtain⟨tl,u,rfl,c⟩:=bX j;have d:=gd.len;refine⟨l,ns,tl,r,g,cs,rfl,e,(c.same a.st.fh).h,by omega,by omega,λt' H4 Hw s4 o=>?_⟩;obtain⟨F4,m,i⟩:=(a.st.grow s4).pT a.st Hw c o;exact q _ _ F4 H4 (b.trans (a.trans m)) i kk⟩
theorem gi(hi:ss[i]?=some .Af)(h:Wq ss ta λtp xs=>tp=false/\∃ns:List Str,xs=ns.map PV.str/\ns.length<=40/\ns.Nodup/\∀(r:Str)(g:Nat)(cs:List Str),BK ns r g cs->cs.length<=40->k (Cz r g cs)):
  Wp ss (EK Y1 [] E0 (BC (Cp i) (BC ta Bj))) k:=⟨λE Z F H Q S q=>by
 obtain⟨p,e,_⟩:=S.ok i _ hi;refine⟨_,e,h.go E Z F H _ S λv tp xs F1 H1 a sv⟨J,ns,ex,B,nd,kk⟩=>?_⟩;subst J;subst ex;obtain⟨l,vs,I,hn,d,r⟩:=sv;subst I;rw[r.strs]at d;refine⟨p,l,ns,rfl,a.st.Gv hi e,d,λz=>hn i hi (z▸e),B,nd,λt c r g cs H3 C D s j f G=>?_⟩;obtain⟨x,b,w,u,o,m⟩:=G;obtain⟨n,rfl⟩:=Jh b;have A:=(a.st.WE hi e s).adopt a.st D f;have y:=A.adopt a.st C j;refine q _ _ _ H3 (a.trans y) (Uv (c:=c) ⟨AU,?_⟩) (kk r n cs ⟨x,b,w,u,o⟩ m)
 by_cases z:c=t
 .subst z;rw[AU];exact j.symm.trans f
 .rw[Az z,AU]⟩
end
mutual
def BO:PV->PV->Bool
 | .lst xs,.lst ys=>CF xs ys
 | .tup xs,.tup ys=>CF xs ys
 | .tup xs,.con _ ys=>CF xs ys
 | .con _ xs,.tup ys=>CF xs ys
 | .con _ xs,.con _ ys=>CF xs ys
 | .AG,.AG=>true
 | .bl a,.bl b=>a == b
 | .bl a,.int b=>(if a then 1 else 0) == b
 | .int a,.bl b=>a == (if b then 1 else 0)
 | .int a,.int b=>a == b
 | .str a,.str b=>a == b
 |_,_=>false
def CF:List PV->List PV->Bool
 | [],[]=>true
 |x::r,y::t=>BO x y && CF r t
 |_,_=>false
end
theorem JJ(x y:PV)(r t:List PV):CF (x::r) (y::t)=(BO x y && CF r t):=by rw[CF]
theorem Kz:∀(xs ys:List PV),xs.length≠ys.length->CF xs ys=false
 | [],[],h=>absurd rfl h
 | [],_::_,_=>by rw[CF];all_goals simp
 |_::_,[],_=>by rw[CF];all_goals simp
 |x::r,y::t,h=>by rw[JJ,Kz r t (by simpa using h),L9]
theorem T7:∀(xs ys:List PV),xs.length=ys.length->CF xs ys=(List.range xs.length).all λj=>BO (xs.getD j .AG) (ys.getD j .AG)
 | [],[],_=>by rw[CF];rfl
 |x::r,y::t,h=>by
  rw[JJ,T7 r t (by simpa using h),CG,List.range_succ_eq_map,S7,k8]
  rfl
def dat(K:ZGX):Nat->PV->Prop
 |_,.AG=>True
 |_,.bl _=>True
 |_,.int _=>True
 |_,.str _=>True
 |d+1,.lst xs=>∀x∈xs,dat K d x
 |d+1,.tup xs=>∀x∈xs,dat K d x
 |d+1,.con a xs=>(∀x∈xs,dat K d x)/\xs.all flat=true/\∀H,AN K H a (xs.map Fz.enc)
 |_,_=>False
inductive GW (K:ZGX) (H:Hp):V->PV->Bool->Addr->List V->List PV->Prop where
 |lst {a:Addr}{vs:List V}{xs:List PV}:AO K H a vs->Ad H vs xs->GW K H (.ref a) (.lst xs) false a vs xs
 |tup {a:Addr}{vs:List V}{xs:List PV}:AN K H a vs->Ad H vs xs->GW K H (.ref a) (.tup xs) true a vs xs
 |con {a:Addr}{vs:List V}{xs:List PV}:AN K H a vs->Ad H vs xs->GW K H (.ref a) (.con a xs) true a vs xs
theorem Fj{K:ZGX}:∀{d:Nat}{x:V}{p:PV},dat K d p->Rep H x p->(flat p=true/\x=Fz.enc p)∨∃d' tp a vs xs,d=d'+1/\GW K H x p tp a vs xs/\∀y∈xs,dat K d' y:=by
 intro d x p h r;cases r with
 |AG=>exact .inl ⟨rfl,rfl⟩
 |bl b=>exact .inl ⟨rfl,rfl⟩
 |int b=>exact .inl ⟨rfl,rfl⟩
 |str b=>exact .inl ⟨rfl,rfl⟩
 |lst e r=>cases d with
  |zero=>exact h.elim
  |succ d=>exact .inr ⟨d,_,_,_,_,rfl,.lst (AO.of e) r,h⟩
 |tup e r=>cases d with
  |zero=>exact h.elim
  |succ d=>exact .inr ⟨d,_,_,_,_,rfl,.tup (AN.of e) r,h⟩
 |con=>cases d with
  |zero=>exact h.elim
  |succ d=>obtain⟨h1,h2,c⟩:=h;exact .inr ⟨d,_,_,_,_,rfl,.con (c H) (Y0 h2),h1⟩
 |Du _ _ _=>cases d <;> exact h.elim
 |obj _ _ _ _=>cases d <;> exact h.elim
 |RD _=>cases d <;> exact h.elim
 |exc _ _ _ _=>cases d <;> exact h.elim
section
variable{X:Cx}{Ze:ZGY}{s:Shared}
theorem sV(d:Vals vs A5)(c:Vals ws Bg)(f:Ad H vs xs)(e:Ad H ws ys)
  (h:∀(x y:V)(p q:PV)(u v:Value),p∈xs->q∈ys->Rep H x p->Rep H y q->RelV x u->RelV y v->SeqAt.EqAt A s u v (BO p q)) :
  ∀j(h1:j<A5.toArray.size)(h2:j<Bg.toArray.size),SeqAt.EqAt A s A5.toArray[j] Bg.toArray[j] ((λj=>BO (xs.getD j .AG) (ys.getD j .AG)) j):=λj h1 h2=>by
 have l1:=d.length;have l2:=c.length;have D:=f.length;have C:=e.length;have B:j<A5.length:=by simpa using h1
 have z:j<Bg.length:=by simpa using h2
 have b:j<xs.length:=by omega
 have a:j<ys.length:=by omega
 obtain⟨x,hx,m⟩:=f.get (i:=j) (p:=xs[j]) (C4 b);obtain⟨y,r,l⟩:=e.get (i:=j) (p:=ys[j]) (C4 a);obtain⟨u,k,o⟩:=d.get hx;obtain⟨v,g,n⟩:=c.get r;rw[C4 B]at k;rw[C4 z]at g;have w:A5[j]=u:=Be k;have t:Bg[j]=v:=Be g;have q:=h x y _ _ u v (Ik b) (Ik a) m l o n;rw[<- w,<- t]at q;show SeqAt.EqAt A s _ _ (BO (xs.getD j .AG) (ys.getD j .AG));rw[Ob,C4 b,Ob,C4 a]
 simpa using q
theorem Q6{p:PV}{x:V}(h:GW X.K H x p tp a vs xs)(f:flat q=true):BO p q=false/\BO q p=false:=by
 cases h <;> cases q <;> first|exact Bool.noConfusion f|exact⟨rfl,rfl⟩
theorem T5{p:PV}{x y:V}(h:GW X.K H x p tp a vs xs)(h2:GW X.K H y q C1 b ws ys):BO p q=(if tp=C1 then CF xs ys else false):=by
 cases h <;> cases h2 <;> rfl
theorem RF{p:PV}(h:flat p=true)(h2:flat q=true):BO p q=Dg (Fz.enc p) (Fz.enc q):=by
 cases p <;> cases q <;> first|exact Bool.noConfusion h|exact Bool.noConfusion h2|rfl
theorem pq{p:PV}{u v:Value}(h:flat p=true)(h2:flat q=true)(b:RelV (Fz.enc p) u)(a:RelV (Fz.enc q) v):SeqAt.RcAt A s u v (BO p q)/\SeqAt.RcNeAt A s u v (!BO p q):=by
 cases p <;> first|exact Bool.noConfusion h|skip
 all_goals cases q <;> first|exact Bool.noConfusion h2|skip
 .cases b;cases a;exact⟨.none_none,.none_none⟩
 .cases b;cases a;exact⟨.none_bool _,.none_bool _⟩
 .cases b;obtain⟨t,rfl⟩:=a;exact⟨.none_int _ _,.none_int _ _⟩
 .cases b;obtain⟨t,rfl⟩:=a;exact⟨.none_str _ _,.none_str _ _⟩
 .cases b;cases a;exact⟨.bool_none _,.bool_none _⟩
 .cases b;cases a;exact⟨.bool_bool _ _,.bool_bool _ _⟩
 .cases b;obtain⟨t,rfl⟩:=a;exact⟨.bool_int _ _ _,.bool_int _ _ _⟩
 .cases b;obtain⟨t,rfl⟩:=a;exact⟨.bool_str _ _ _,.bool_str _ _ _⟩
 .obtain⟨t,rfl⟩:=b;cases a;exact⟨.int_none _ _,.int_none _ _⟩
 .obtain⟨t,rfl⟩:=b;cases a;exact⟨.int_bool _ _ _,.int_bool _ _ _⟩
 .obtain⟨t,rfl⟩:=b;obtain⟨t2,rfl⟩:=a;exact⟨.int_int _ _ _ _,.int_int _ _ _ _⟩
 .obtain⟨t,rfl⟩:=b;obtain⟨t2,rfl⟩:=a;exact⟨.int_str _ _ _ _,.int_str _ _ _ _⟩
 .obtain⟨t,rfl⟩:=b;cases a;exact⟨.str_none _ _,.str_none _ _⟩
 .obtain⟨t,rfl⟩:=b;cases a;exact⟨.str_bool _ _ _,.str_bool _ _ _⟩
 .obtain⟨t,rfl⟩:=b;obtain⟨t2,rfl⟩:=a;exact⟨.str_int _ _ _ _,.str_int _ _ _ _⟩
 .obtain⟨t,rfl⟩:=b;obtain⟨t2,rfl⟩:=a;exact⟨.str_str _ _ _ _,.str_str _ _ _ _⟩
def P5(h:Heap)(tp:Bool)(a:Addr)(A5:Array Value):Prop:=if tp then IsTup h a A5 else h.IsList a A5
theorem GW.GH(I:Inv X Ze Z H s){x:V}{p:PV}(h:GW X.K H x p tp a vs xs):∃A5:List Value,x=.ref a/\Vals vs A5/\P5 s.heap tp a A5.toArray/\Ad H vs xs:=by
 cases h with
 |lst h r=>obtain⟨A5,b,p1,_⟩:=I.list h;exact⟨A5,rfl,b,p1.isList,r⟩
 |tup h r=>obtain⟨A5,b,p1,_⟩:=I.tuple h;exact⟨A5,rfl,b,p1,r⟩
 |con h r=>obtain⟨A5,b,p1,_⟩:=I.tuple h;exact⟨A5,rfl,b,p1,r⟩
theorem RH{A5:Array Value}{v:Value}(h:P5 s.heap tp a A5)(f:flat q=true)(c:RelV (Fz.enc q) v)(b:A.units<cLine):
  (SeqAt.EqAt A s (.ref a) v false/\SeqAt.EqAt A s v (.ref a) false)/\(SeqAt.RcAt A s (.ref a) v false/\SeqAt.RcAt A s v (.ref a) false)/\(SeqAt.RcNeAt A s (.ref a) v true/\SeqAt.RcNeAt A s v (.ref a) true):=by
 cases tp with
 |false=>
  have h':s.heap.IsList a A5:=h;cases q <;> first|exact Bool.noConfusion f|skip
  .cases c;exact⟨⟨.list_none h' b,.none_list h' b⟩,⟨.list_none h' b,.none_list h' b⟩,⟨.list_none h' b,.none_list h' b⟩⟩
  .cases c;exact⟨⟨.list_bool _ h' b,.bool_list _ h' b⟩,⟨.list_bool _ h' b,.bool_list _ h' b⟩,⟨.list_bool _ h' b,.bool_list _ h' b⟩⟩
  .obtain⟨t,rfl⟩:=c;exact⟨⟨.list_int _ _ h' b,.int_list _ _ h' b⟩,⟨.list_int _ _ h' b,.int_list _ _ h' b⟩,⟨.list_int _ _ h' b,.int_list _ _ h' b⟩⟩
  .obtain⟨t,rfl⟩:=c;exact⟨⟨.list_str _ _ h' b,.str_list _ _ h' b⟩,⟨.list_str _ _ h' b,.str_list _ _ h' b⟩,⟨.list_str _ _ h' b,.str_list _ _ h' b⟩⟩
 |true=>
  have h':IsTup s.heap a A5:=h;cases q <;> first|exact Bool.noConfusion f|skip
  .cases c;exact⟨⟨.tuple_none h' b,.none_tuple h' b⟩,⟨.tuple_none h' b,.none_tuple h' b⟩,⟨.tuple_none h' b,.none_tuple h' b⟩⟩
  .cases c;exact⟨⟨.tuple_bool _ h' b,.bool_tuple _ h' b⟩,⟨.tuple_bool _ h' b,.bool_tuple _ h' b⟩,⟨.tuple_bool _ h' b,.bool_tuple _ h' b⟩⟩
  .obtain⟨t,rfl⟩:=c;exact⟨⟨.tuple_int _ _ h' b,.int_tuple _ _ h' b⟩,⟨.tuple_int _ _ h' b,.int_tuple _ _ h' b⟩,⟨.tuple_int _ _ h' b,.int_tuple _ _ h' b⟩⟩
  .obtain⟨t,rfl⟩:=c;exact⟨⟨.tuple_str _ _ h' b,.str_tuple _ _ h' b⟩,⟨.tuple_str _ _ h' b,.str_tuple _ _ h' b⟩,⟨.tuple_str _ _ h' b,.str_tuple _ _ h' b⟩⟩
theorem GW.inj(I:Inv X Ze Z H s){x y:V}{p q:PV}{tp C1:Bool}{a:Addr}{vs ws:List V}{xs ys:List PV}(h:GW X.K H x p tp a vs xs)(h2:GW X.K H y q C1 a ws ys):tp=C1/\vs=ws:=by
 have b:∀{vs ws:List V},AO X.K H a vs->AN X.K H a ws->False:=λ{vs ws}h1 h2=>by
  obtain⟨A5,_,p1,_⟩:=I.list h1;obtain⟨Bg,_,p2,_⟩:=I.tuple h2;obtain⟨o,n,e,c,_⟩:=p1;obtain⟨f,d,c2,_⟩:=p2;rw[e]at d;cases d;rw[c]at c2;exact absurd c2 (by decide)
 cases h with
 |lst h r=>cases h2 with
  |lst h2 _=>exact⟨rfl,I.ao h h2⟩
  |tup h2 _=>exact(b h h2).elim
  |con h2 _=>exact(b h h2).elim
 |tup h r=>cases h2 with
  |lst h2 _=>exact(b h2 h).elim
  |tup h2 _=>exact⟨rfl,I.Mo h h2⟩
  |con h2 _=>exact⟨rfl,I.Mo h h2⟩
 |con h r=>cases h2 with
  |lst h2 _=>exact(b h2 h).elim
  |tup h2 _=>exact⟨rfl,I.Mo h h2⟩
  |con h2 _=>exact⟨rfl,I.Mo h h2⟩
theorem Zl{p:PV}(h:flat p=true):Dg (Fz.enc p) (Fz.enc p)=true:=by cases p <;> first|exact Bool.noConfusion h|exact xF _|rfl
theorem mi(i:∀(x:V)(p q:PV),Rep H x p->Rep H x q->dat X.K d p->dat X.K d q->BO p q=true)(f:Ad H vs xs)(c:Ad H vs ys)(h1:∀x∈xs,dat X.K d x)(h2:∀y∈ys,dat X.K d y):CF xs ys=true:=by
 induction xs generalizing vs ys with
 |nil=>
  cases f.E4;cases ys with
  |nil=>rfl
  |cons y t=>obtain⟨v,ws,e,_⟩:=c.inv;cases e
 |cons x xs h=>
  obtain⟨v,ws,rfl,a,b⟩:=f.inv;cases ys with
  |nil=>have e:=c.E4;cases e
  |cons y t=>
   obtain⟨l,g,e,k,j⟩:=c.inv;cases e;rw[JJ,i _ _ _ a k (h1 _ BZ) (h2 _ BZ),h b j (λx hx=>h1 x (C5 _ hx)) (λx hx=>h2 x (C5 _ hx))];rfl
theorem ZBK(I:Inv X Ze Z H s):∀(d:Nat)(x:V)(p q:PV),Rep H x p->Rep H x q->dat X.K d p->dat X.K d q->BO p q=true:=λd=>by
 induction d with
 |zero=>
  intro x p q k h h1 h2;rcases Fj h1 k with⟨f1,j⟩|⟨d',_,_,_,_,e,_⟩
  .rcases Fj h2 h with⟨c,g⟩|⟨d',_,_,_,_,e,_⟩
   .rw[RF f1 c,<- j,g];exact Zl c
   .cases e
  .cases e
 |succ d o=>
  intro x p q k h h1 h2;rcases Fj h1 k with⟨f1,j⟩|⟨v,tp,a,vs,xs,e,i,k1⟩
  .rcases Fj h2 h with⟨c,g⟩|⟨u,C1,b,ws,ys,e,f,k2⟩
   .rw[RF f1 c,<- j,g];exact Zl c
   .obtain⟨_,ex,_⟩:=f.GH I;subst ex;cases p <;> first|(cases f1;done)|(cases j;done)
  .cases e;rcases Fj h2 h with⟨c,g⟩|⟨u,C1,b,ws,ys,e,f,k2⟩
   .obtain⟨_,ex,_⟩:=i.GH I;subst ex;cases q <;> first|(cases c;done)|(cases g;done)
   .cases e;obtain⟨_,ex,_,_,n⟩:=i.GH I;obtain⟨_,l,_,_,m⟩:=f.GH I;rw[ex]at l;cases l;obtain⟨t,r⟩:=i.inj I f;subst r;rw[T5 i f,o9 t];exact mi o n m k1 k2
theorem ZER(b:Vals vs A5)(a:Vals ws Bg)(d:Ad H vs xs)(c:Ad H ws ys):A5.toArray.size=xs.length/\Bg.toArray.size=ys.length:=by
 have l1:=b.length;have l2:=a.length;have f:=d.length;have e:=c.length;simp only[Bv];omega
theorem ZE(h1:P5 s.heap tp a A5.toArray)(h2:P5 s.heap C1 b Bg.toArray)(m:Vals vs A5)(l:Vals ws Bg)(o:Ad H vs xs)(n:Ad H ws ys)(c:A.units<cLine)
  (h:∀(x y:V)(p q:PV)(u v:Value),p∈xs->q∈ys->Rep H x p->Rep H y q->RelV x u->RelV y v->SeqAt.EqAt A.in1 s u v (BO p q)) :
  SeqAt.RcAt A s (.ref a) (.ref b) (if tp=C1 then CF xs ys else false)/\SeqAt.RcNeAt A s (.ref a) (.ref b) (!(if tp=C1 then CF xs ys else false)):=by
 obtain⟨i,k⟩:=ZER m l o n;have it:=sV (A:=A.in1) m l o n h;cases tp with
 |false=>cases C1 with
  |false=>
   rw[o9 rfl];have g:s.heap.IsList a A5.toArray:=h1;have f:s.heap.IsList b Bg.toArray:=h2
   by_cases d:xs.length=ys.length
   .rw[T7 xs ys d,<- i];exact⟨.lists g f (by omega) c it,.lists g f (by omega) c it⟩
   .rw[Kz xs ys d];have r:(A5.toArray.size != Bg.toArray.size)=true:=by simp only[bne_iff_ne,ne_eq];omega
    exact⟨.lists_lengths g f r c,.lists_lengths g f r c⟩
  |true=>rw[mL (by decide)];exact⟨.list_tuple h1 h2 c,.list_tuple h1 h2 c⟩
 |true=>cases C1 with
  |false=>rw[mL (by decide)];exact⟨.tuple_list h1 h2 c,.tuple_list h1 h2 c⟩
  |true=>
   rw[o9 rfl];have g:IsTup s.heap a A5.toArray:=h1;have f:IsTup s.heap b Bg.toArray:=h2;have e:((List.range (min A5.toArray.size Bg.toArray.size)).all (λj=>BO (xs.getD j .AG) (ys.getD j .AG)) && A5.toArray.size == Bg.toArray.size)=CF xs ys:=by
    by_cases d:xs.length=ys.length
    .rw[T7 xs ys d,i,k,<- d,kT,xF,OY]
    .rw[Kz xs ys d,i,k,show(xs.length == ys.length)=false from by simpa using d,L9]
   have k1:=SeqAt.RcAt.tuples (A:=A) (e:=λj=>BO (xs.getD j .AG) (ys.getD j .AG)) g f c it;have k2:=SeqAt.RcNeAt.tuples (A:=A) (e:=λj=>BO (xs.getD j .AG) (ys.getD j .AG)) g f c it;rw[e]at k1 k2;exact⟨k1,k2⟩
theorem nC(I:Inv X Ze Z H s):∀(d:Nat)(x y:V)(p q:PV),Rep H x p->Rep H y q->dat X.K d p->dat X.K d q->∀(A:Around)(u v:Value),RelV x u->RelV y v->A.units+d<cLine->SeqAt.EqAt A s u v (BO p q):=λd=>by
 induction d with
 |zero=>
  intro x y p q i h h1 h2 A u v f c F;rcases Fj h1 i with⟨f1,n⟩|⟨_,_,_,_,_,e,_⟩
  .rcases Fj h2 h with⟨g,l⟩|⟨_,_,_,_,_,e,_⟩
   .subst n;subst l;rw[RF f1 g];exact QL f c (Qe f1) (Qe g)
   .cases e
  .cases e
 |succ d E=>
  intro x y p q i h h1 h2 A u v f c F;rcases Fj h1 i with⟨f1,n⟩|⟨M,tp,a,vs,xs,e,m,k1⟩
  .rcases Fj h2 h with⟨g,l⟩|⟨L,C1,b,ws,ys,e,k,k2⟩
   .subst n;subst l;rw[RF f1 g];exact QL f c (Qe f1) (Qe g)
   .obtain⟨A5,o,_,j,_⟩:=k.GH I;subst n;subst o;cases(show v=Value.ref b from c);rw[(Q6 k f1).2];exact(RH j f1 f (by omega)).1.2
  .cases e;rcases Fj h2 h with⟨g,l⟩|⟨L,C1,b,ws,ys,e,k,k2⟩
   .obtain⟨A5,ex,_,j,_⟩:=m.GH I;subst l;subst ex;cases(show u=Value.ref a from f);rw[(Q6 m g).1];exact(RH j g c (by omega)).1.1
   .cases e;obtain⟨A5,ex,B,D,w⟩:=m.GH I;obtain⟨Bg,o,z,C,t⟩:=k.GH I;subst ex;subst o;cases(show u=Value.ref a from f);cases(show v=Value.ref b from c)
    by_cases r:a=b
    .subst r;rw[ZBK I (d+1) _ p q i h h1 h2];exact .same _
    .rw[T5 m k];refine SeqAt.EqAt.of_refs r (ZE D C B z w t (by omega) λx y p q u v J G i h f c=>?_).1;exact E x y p q i h (k1 p J) (k2 q G) A.in1 u v f c (by show A.units+1+d<cLine;omega)
theorem cC(I:Inv X Ze Z H s)(d:Nat)(x y:V)(p q:PV)(m:Rep H x p)(i:Rep H y q)(h1:dat X.K d p)(h2:dat X.K d q)(A:Around)(u v:Value)(f:RelV x u)(c:RelV y v)(L:A.units+d<cLine):SeqAt.RcAt A s u v (BO p q)/\SeqAt.RcNeAt A s u v (!BO p q):=by
 rcases Fj h1 m with⟨f1,o⟩|⟨r,tp,a,vs,xs,e,k,k1⟩
 .rcases Fj h2 i with⟨l,h⟩|⟨J,C1,b,ws,ys,e,g,k2⟩
  .subst o;subst h;exact pq f1 l f c
  .obtain⟨A5,n,_,j,_⟩:=g.GH I;subst o;subst n;cases(show v=Value.ref b from c);rw[(Q6 g f1).2];have z:=RH (A:=A) j f1 f (by omega);exact⟨z.2.1.2,z.2.2.2⟩
 .rcases Fj h2 i with⟨l,h⟩|⟨J,C1,b,ws,ys,h,g,k2⟩
  .obtain⟨A5,ex,_,j,_⟩:=k.GH I;subst h;subst ex;cases(show u=Value.ref a from f);rw[(Q6 k l).1];have z:=RH (A:=A) j l c (by omega);exact⟨z.2.1.1,z.2.2.1⟩
  .subst e;cases h;obtain⟨A5,ex,C,E,w⟩:=k.GH I;obtain⟨Bg,n,B,D,t⟩:=g.GH I;subst ex;subst n;cases(show u=Value.ref a from f);cases(show v=Value.ref b from c);rw[T5 k g];exact ZE E D C B w t (by omega) λx y p q u v G F m i f c=>nC I r x y p q m i (k1 p G) (k2 q F) A.in1 u v f c (by show A.units+1+r<cLine;omega)
def Qx(K:ZGX)(neg:Bool):R2:=λx y H Q=>∃p q,Rep H x p/\Rep H y q/\dat K 40 p/\dat K 40 q/\Q (.bl (if neg then !BO p q else BO p q)) H
theorem Kh(i:X.A.units+64<cLine):BD X (compareOp .Eq) (Qx X.K false):=by
 intro Ze s Z H x y v u Q I b a h;obtain⟨p,q,d,c,g,f,e⟩:=h;exact(cC I 40 x y p q d c g f X.A _ _ b a (by omega)).1 _ _ _ _ ⟨.bl (BO p q),H,I,rfl,e⟩
theorem LQ(i:X.A.units+64<cLine):BD X (compareOp .NotEq) (Qx X.K true):=by
 intro Ze s Z H x y v u Q I b a h;obtain⟨p,q,d,c,g,f,e⟩:=h;exact(cC I 40 x y p q d c g f X.A _ _ b a (by omega)).2 _ _ _ _ ⟨.bl (!BO p q),H,I,rfl,e⟩
end
section
variable[Xw]
variable{K:ZGX}{k:PV->Prop}
theorem JV(h:Wp ss ta λp=>Wp ss tb λq=>dat K 40 p/\dat K 40 q/\k (.bl (BO p q))):Wp ss (Bk (Qx K false) ta tb) k:=⟨λE Z F H Q S q=>
 h.go E Z F H _ S λv p F1 H1 b d h2=>h2.go E Z F1 H1 _ b.st λg p2 F2 H2 a c⟨f,e,kk⟩=>
  ⟨p,p2,(d.mono a.ff).mono a.st.fh,c.mono a.st.fh,f,e,q _ _ F2 H2 (b.trans a) (.bl _) kk⟩⟩
theorem KI(h:Wp ss ta λp=>Wp ss tb λq=>dat K 40 p/\dat K 40 q/\k (.bl (!BO p q))):Wp ss (Bk (Qx K true) ta tb) k:=⟨λE Z F H Q S q=>
 h.go E Z F H _ S λv p F1 H1 b d h2=>h2.go E Z F1 H1 _ b.st λg p2 F2 H2 a c⟨f,e,kk⟩=>
  ⟨p,p2,(d.mono a.ff).mono a.st.fh,c.mono a.st.fh,f,e,q _ _ F2 H2 (b.trans a) (.bl _) kk⟩⟩
end
noncomputable def OV.at(t:OV):List Nat->Option OV
 | []=>some t
 |j::p=>match t with
  | .nd _ _ xs=>(xs[j]?).bind λx=>OV.at x p
  | .tp xs=>(xs[j]?).bind λx=>OV.at x p
  | .fz _=>none
noncomputable def OV.put(t:OV)(l:List Nat)(n:OV):OV:=match l with
 | []=>n
 |j::p=>match t with
  | .nd k a xs=>match xs[j]? with
   |some x=>.nd k a (xs.set j (OV.put x p n))
   |none=>.nd k a xs
  | .tp xs=>match xs[j]? with
   |some x=>.tp (xs.set j (OV.put x p n))
   |none=>.tp xs
  | .fz q=>.fz q
theorem OV.MC:t.at []=some t:=by rw[OV.at]
theorem OV.N0{k:NK}{xs:List OV}:(OV.nd k a xs).at (j::p)=(xs[j]?).bind λx=>x.at p:=by rw[OV.at]
theorem OV.OU{xs:List OV}:(OV.tp xs).at (j::p)=(xs[j]?).bind λx=>x.at p:=by rw[OV.at]
theorem OV.eI:t.put [] n=n:=by rw[OV.put]
theorem OV.Ph{k:NK}{xs:List OV}(h:xs[j]?=some x):(OV.nd k a xs).put (j::p) n=.nd k a (xs.set j (x.put p n)):=by rw[OV.put,h]
theorem OV.R8{xs:List OV}(h:xs[j]?=some x):(OV.tp xs).put (j::p) n=.tp (xs.set j (x.put p n)):=by rw[OV.put,h]
theorem OV.RY{u w:OV}:∀{p:List Nat}{t:OV}{j:Nat},t.at p=some u->u.at [j]=some w->t.at (p++[j])=some w
 | [],t,j,h,h2=>by rw[OV.MC]at h;cases h;exact h2
 |i::p,.nd k a xs,j,h,h2=>by
  rw[OV.N0]at h;rw[S8,OV.N0];cases e:xs[i]? with
  |none=>rw[e]at h;cases h
  |some x=>rw[e]at h;exact OV.RY (t:=x) h h2
 |i::p,.tp xs,j,h,h2=>by
  rw[OV.OU]at h;rw[S8,OV.OU];cases e:xs[i]? with
  |none=>rw[e]at h;cases h
  |some x=>rw[e]at h;exact OV.RY (t:=x) h h2
 |i::p,.fz q,j,h,h2=>by rw[OV.at]at h;cases h
theorem MG:∀{xs:List OV}{j:Nat}{x:OV},xs[j]?=some x->∃l r,OV.Bd xs=l++x.addrs++r/\∀y:OV,OV.Bd (xs.set j y)=l++y.addrs++r
 |x::xs,0,z,h=>by
  simp at h;subst h;exact⟨[],OV.Bd xs,by rw[OV.D4];rfl,λy=>by rw[ZFE,OV.D4];rfl⟩
 |x::xs,j+1,z,h=>by
  obtain⟨l,r,b,a⟩:=MG (xs:=xs) (j:=j) (x:=z) (by simpa using h)
  refine⟨x.addrs++l,r,by rw[OV.D4,b];simp[C3],λy=>by rw[Z1,OV.D4,a];simp[C3]⟩
theorem OV.split{u:OV}:∀{p:List Nat}{t:OV},t.at p=some u->∃l r,t.addrs=l++u.addrs++r/\∀n:OV,(t.put p n).addrs=l++n.addrs++r
 | [],t,h=>by rw[OV.MC]at h;cases h;exact⟨[],[],by simp,λn=>by rw[OV.eI];simp⟩
 |j::p,.nd k a xs,h=>by
  rw[OV.N0]at h;cases e:xs[j]? with
  |none=>rw[e]at h;cases h
  |some x=>
   rw[e]at h;obtain⟨l,r,f,d⟩:=MG e;obtain⟨l2,b,f1,c⟩:=OV.split (t:=x) h;refine⟨a::(k.more++(l++l2)),b++r,by rw[OV.FD,f,f1];simp[C3],λn=>by rw[OV.Ph e,OV.FD,d,c];simp[C3]⟩
 |j::p,.tp xs,h=>by
  rw[OV.OU]at h;cases e:xs[j]? with
  |none=>rw[e]at h;cases h
  |some x=>
   rw[e]at h;obtain⟨l,r,f,d⟩:=MG e;obtain⟨l2,b,f1,c⟩:=OV.split (t:=x) h;refine⟨l++l2,b++r,by rw[OV.G0,f,f1];simp[C3],λn=>by rw[OV.R8 e,OV.G0,d,c];simp[C3]⟩
 |j::p,.fz q,h=>by rw[OV.at]at h;cases h
theorem Bl.get{F H:Hp}{vs:List V}{ts:List OV}{j:Nat}{t:OV}(r:Bl F H vs ts)(e:ts[j]?=some t):∃v,vs[j]?=some v/\BN F H v t:=by
 induction ts generalizing vs j with
 |nil=>cases e
 |cons q ps c=>
  obtain⟨v,ws,rfl,a,b⟩:=r.inv;cases j with
  |zero=>cases e;exact⟨_,rfl,a⟩
  |succ j=>exact c (vs:=ws) (j:=j) b e
theorem Bl.append{xs ys:List OV}(r:Bl F H vs xs)(s:Bl F H ws ys):Bl F H (vs++ws) (xs++ys):=by
 induction xs generalizing vs with
 |nil=>cases r.E4;exact s
 |cons p ps c=>obtain⟨v,us,rfl,a,b⟩:=r.inv;exact .cons a (c b)
theorem Bl.one(r:BN F H v t):Bl F H [v] [t]:=.cons r .nil
theorem ig(r:Ad F vs xs):Bl F H vs (xs.map .fz):=by
 induction xs generalizing vs with
 |nil=>cases r.E4;exact .nil
 |cons p ps c=>obtain⟨v,us,rfl,a,b⟩:=r.inv;exact .cons (.fz a) (c b)
theorem Bl.ra(r:Bl F H vs (xs.map .fz)):Ad F vs xs:=by
 induction xs generalizing vs with
 |nil=>cases r.E4;exact .nil
 |cons p ps c=>obtain⟨v,us,rfl,a,b⟩:=r.inv;exact .cons a.inv (c b)
theorem aw:∀(xs:List PV),OV.Bd (xs.map .fz)=[]
 | []=>by rw[Jj,OV.Bd]
 |x::r=>by rw[ES,OV.D4,OV.Ma,aw r];rfl
theorem Bl.swap{xs:List OV}(r:Bl F H vs xs)(h:xs[j]?=some x)(f:vs[j]?=some v)(e:∀l r,OV.Bd xs=l++x.addrs++r->(∀z:OV,OV.Bd (xs.set j z)=l++z.addrs++r)->∀b∈l++r,∀o,H b=some o->H' b=some o)(g:BN F H' v y):Bl F H' vs (xs.set j y):=by
 induction xs generalizing vs j with
 |nil=>cases h
 |cons p ps m=>
  obtain⟨u,us,rfl,a,b⟩:=r.inv;cases j with
  |zero=>
   cases h;cases f;refine .cons g (b.mono (AE.refl _) λc d o=>e [] (OV.Bd ps) (by rw[OV.D4];rfl) (λz=>by rw[ZFE,OV.D4];rfl) c d o)
  |succ j=>
   rw[Z1];obtain⟨l,q,s,n⟩:=MG (xs:=ps) (j:=j) h;refine .cons (a.mono (AE.refl _) λc d o=>e (p.addrs++l) q (by rw[OV.D4,s,C3,C3,C3]) (λz=>by rw[Z1,OV.D4,n,C3,C3,C3]) c (HF _ (HF _ d)) o) (m (vs:=us) (j:=j) b h f λk i GJ Ci c d o=>?_);refine e (p.addrs++k) i (by rw[OV.D4,GJ,C3,C3,C3]) (λz=>by rw[Z1,OV.D4,Ci,C3,C3,C3]) c ?_ o;rcases List.mem_append.mp d with hz|hz
   .exact HF _ (Ep _ hz)
   .exact Ep _ hz
theorem BN.at{F H:Hp}{u:OV}:∀{p:List Nat}{t:OV}{v:V},BN F H v t->t.at p=some u->∃w,BN F H w u/\∀(H':Hp)(n:OV),BN F H' w n->(∀l r,t.addrs=l++u.addrs++r->(∀n:OV,(t.put p n).addrs=l++n.addrs++r)->∀b∈l++r,∀o,H b=some o->H' b=some o)->BN F H' v (t.put p n)
 | [],t,v,h,e=>by rw[OV.MC]at e;cases e;exact⟨v,h,λH' n r _=>by rw[OV.eI];exact r⟩
 |j::p,.fz q,v,h,e=>by rw[OV.at]at e;cases e
 |j::p,.nd k a xs,_,.nd h sd ft r,e=>by
  rw[OV.N0]at e;cases ex:xs[j]? with
  |none=>rw[ex]at e;cases e
  |some x=>
   rw[ex]at e;obtain⟨E,Um,C⟩:=r.get ex;obtain⟨w,d,go⟩:=BN.at (t:=x) C e;refine⟨w,d,λH' n B y=>?_⟩;obtain⟨l2,A,f1,D⟩:=OV.split e;have i:∀l r,OV.Bd xs=l++x.addrs++r->(∀z:OV,OV.Bd (xs.set j z)=l++z.addrs++r)->∀b,b∈(a::(k.more++(l++l2)))++(A++r)->∀o,H b=some o->H' b=some o:=λl r s m b c o=>
    y (a::(k.more++(l++l2))) (A++r) (by rw[OV.FD,s,f1];simp[C3]) (λn=>by rw[OV.Ph ex,OV.FD,m,D];simp[C3]) b c o
   obtain⟨l,q,s,m⟩:=MG ex;rw[OV.Ph ex];refine .nd (i l q s m a (by simp) _ h) (NK.iY sd λb c=>i l q s m b (by simp[c])) ft ?_;refine r.swap ex Um (λg f GJ Ci b c o=>i g f GJ Ci b (by rcases List.mem_append.mp c with hz|hz <;> simp[hz]) o) ?_
   refine go H' n B λg f g1 g2 b c o=>?_;refine y (a::(k.more++(l++g))) (f++q) (by rw[OV.FD,s,g1];simp[C3]) (λn=>by rw[OV.Ph ex,OV.FD,m,g2];simp[C3]) b (by rcases List.mem_append.mp c with hz|hz <;> simp[hz]) o
 |j::p,.tp xs,_,.tp h r,e=>by
  rw[OV.OU]at e;cases ex:xs[j]? with
  |none=>rw[ex]at e;cases e
  |some x=>
   rw[ex]at e;obtain⟨E,Um,C⟩:=r.get ex;obtain⟨w,d,go⟩:=BN.at (t:=x) C e;refine⟨w,d,λH' n B y=>?_⟩;obtain⟨l2,A,f1,D⟩:=OV.split e;obtain⟨l,q,s,m⟩:=MG ex;rw[OV.R8 ex];refine .tp h (r.swap ex Um (λg f GJ Ci b c o=>?_) (go H' n B λg f g1 g2 b c o=>?_))
   .exact y (g++l2) (A++f) (by rw[OV.G0,GJ,f1];simp[C3]) (λn=>by rw[OV.R8 ex,OV.G0,Ci,D];simp[C3]) b (by rcases List.mem_append.mp c with hz|hz <;> simp[hz]) o
   .exact y (l++g) (f++q) (by rw[OV.G0,s,g1];simp[C3]) (λn=>by rw[OV.R8 ex,OV.G0,m,g2];simp[C3]) b (by rcases List.mem_append.mp c with hz|hz <;> simp[hz]) o
theorem ZEB{l u r n:List Addr}(h:(l++u++r).Nodup)(hn:n.Nodup)(hd:∀b∈n,b∈u∨b∉l++u++r):(l++n++r).Nodup:=by
 rw[Er]at h ⊢;obtain⟨h1,h2,f⟩:=h;rw[Er]at h1 ⊢;obtain⟨i,j,g⟩:=h1;refine⟨⟨i,hn,λa c b d e=>?_⟩,h2,λa c b d e=>?_⟩
 .subst e;rcases hd a d with z|z
  .exact g a c a z rfl
  .exact z (by simp[c])
 .subst e;rcases List.mem_append.mp c with c|c
  .exact f a (by simp[c]) a d rfl
  .rcases hd a c with z|z
   .exact f a (by simp[z]) a d rfl
   .exact z (by simp[d])
theorem Sg.pA(S:Sg E ss Z F H){k:NK}{xs:List OV}{ho:HO}{lt:Bool}(hi:ss[i]?=some (.ow lt t))(Ds:t.at p=some (.nd k a xs))(hn:BN F (upd H a ho) (.ref a) n)(nd:n.addrs.Nodup)
  (B:∀b∈n.addrs,b∈(OV.nd k a xs).addrs∨(F b=none/\E.H0 b=none/\∀(j:Nat)s,ss[j]?=some s->¬ C6 s Z[j]? b)):Sg E (ss.set i (.ow lt (t.put p n))) Z F (upd H a ho):=by
 obtain⟨v,e,r,SM,q⟩:=S.ok i _ hi;obtain⟨l,K,g,D⟩:=OV.split Ds;have f:a∈(OV.nd k a xs).addrs:=by rw[OV.FD];simp
 have u:∀b∈(OV.nd k a xs).addrs,b∈t.addrs:=λb c=>by rw[g];simp[c]
 have R:∀b∈n.addrs,b∈(OV.nd k a xs).addrs∨b∉t.addrs:=λb c=>(B b c).imp id λz m=>z.2.2 i _ hi m;obtain⟨w,x,go⟩:=r.at Ds;have M:w=.ref a:=by cases x;rfl
 subst M;have h:∀(j:Nat)s,(ss.set i .any)[j]?=some s->∀b,b∈t.addrs->¬ C6 s Z[j]? b:=λj s d b c m=>by
  by_cases z:j=i
  .subst z;rw[Fs (List.getElem?_eq_some_iff.mp hi).1]at d;cases d;cases m
  .rw[Fq (BP z)]at d;exact S.DS j i s _ b z d hi m c
 have Q:=(S.drop i).W7 (o:=ho) (q a (u a f)).1 ((q a (u a f)).2.imp id λz=>z.2) λj s d=>h j s d a (u a f);have A:=SM;rw[g,Er,Er]at A;obtain⟨⟨_,_,O⟩,_,N⟩:=A;have P:∀b,b∈l++K->b≠a:=λb c z=>by
  subst z;rcases List.mem_append.mp c with c|c
  .exact O b c b f rfl
  .exact N b (by simp[f]) b c rfl
 have L:BN F (upd H a ho) v (t.put p n):=go _ n hn λU T g1 g2 b c o J=>by
  rw[Az ?_];exact J;rintro rfl;have C:=SM;rw[g1,Er,Er]at C;obtain⟨⟨_,_,c1⟩,_,c2⟩:=C;rcases List.mem_append.mp c with c|c
  .exact c1 b c b f rfl
  .exact c2 b (by simp[f]) b c rfl
 have G:∀b∈(t.put p n).addrs,b∈t.addrs∨(F b=none/\E.H0 b=none/\∀(j:Nat)s,ss[j]?=some s->¬ C6 s Z[j]? b):=λb c=>by
  rw[D]at c;rcases List.mem_append.mp c with c|c
  .rcases List.mem_append.mp c with c|c
   .exact .inl (by rw[g];simp[c])
   .exact(B b c).imp (u b) id
  .exact .inl (by rw[g];simp[c])
 have I:=Q.setG (j:=i) (s:=.ow lt (t.put p n)) (v:=v) ⟨v,rfl,L,by rw[D];exact ZEB (g▸SM) nd λb c=>(R b c).imp id (by rw[g];exact id),λb c=>(G b c).elim (q b) λz=>⟨z.1,.inl z.2.1⟩⟩ λb c j s d y m=>by
  rcases G b c with z|z
  .exact h j s y b z m
  .rw[Fq (BP d)]at y;exact z.2.2 j s y m
 rw[Uy e,kO]at I;exact I
structure Wl [Xw] (ss:List Slot) (i:Nat) (t:OV) (te:TE) (k:List Nat->OV->Prop):Prop where
 hi:∃lt,ss[i]?=some (.ow lt t)
 go:∀(E:Ent)(Z:L2.St)(F H:Hp)(Q:VK),Sg E ss Z F H->(∀v p u F' H',Mv E ss Z F H F' H'->BN F' H' v u->t.at p=some u->k p u->Q v H')->te Z H Q
noncomputable def Fc:List Nat->List Slot->List Slot
 | [],ss=>ss
 |i::m,ss=>Fc m (ss.set i .any)
structure Wx [Xw] (ss:List Slot) (te:TE) (k:List Nat->OV->Prop):Prop where
 go:∀(E:Ent)(Z:L2.St)(F H:Hp)(Q:VK),Sg E ss Z F H->(∀v m u F' H',Mv E ss Z F H F' H'->BN F' H' v u->u.addrs.Nodup->(∀a∈u.addrs,F' a=none/\E.H0 a=none/\((∃i∈m,∃s,s≠Slot.Af/\ss[i]?=some s/\C6 s Z[i]? a)∨H a=none))->k m u->Q v H')->te Z H Q
structure QY [Xw] (ss:List Slot) (te:TA) (k:List Nat->List OV->Prop):Prop where
 go:∀(E:Ent)(Z:L2.St)(F H:Hp)(Q:List V->Hp->Prop),Sg E ss Z F H->(∀vs m us F' H',Mv E ss Z F H F' H'->Bl F' H' vs us->(OV.Bd us).Nodup->(∀a∈OV.Bd us,F' a=none/\E.H0 a=none/\((∃i∈m,∃s,s≠Slot.Af/\ss[i]?=some s/\C6 s Z[i]? a)∨H a=none))->k m us->Q vs H')->te Z H Q
section
variable[Xw]
variable{K:ZGX}{k:PV->Prop}
theorem OV.Rh(h:t.at p=some u):∀a∈u.addrs,a∈t.addrs:=λa b=>by
 obtain⟨l,r,e,_⟩:=OV.split h;rw[e];simp[b]
theorem BN.mv(r:BN F H v u)(S:Sg E ss Z F H)(hi:∃lt,ss[i]?=some (.ow lt t))(h:t.at p=some u)(m:Mv E ss Z F H F' H'):BN F' H' v u:=
 r.mono m.ff λa b o e=>m.hh a o (S.LR hi.choose_spec (OV.Rh h a b) (by simp)) e
theorem LZ{lt:Bool}{k:List Nat->OV->Prop}(hi:ss[i]?=some (.ow lt t))(a:k [] t):Wl ss i t (Cp i) k:=⟨⟨lt,hi⟩,λE Z F H Q S q=>by
 obtain⟨v,e,r,_,_⟩:=S.ok i _ hi;exact⟨v,e,q v [] t F H (.refl S) r OV.MC a⟩⟩
theorem tH{k:List Nat->OV->Prop}(h:Wl ss i t ta λp u=>∃a xs,u=.nd .lst a xs/\Wp ss tb λq=>∃(j:Int)(n:Nat)(w:OV),q=.int j/\G8 xs.length j=some n/\xs[n]?=some w/\k (p++[n]) w):Wl ss i t (Bk (NW K) ta tb) k:=⟨h.hi,λE Z F H Q S q=>
 h.go E Z F H _ S λv p u F1 H1 b m h1⟨a,xs,r,h2⟩=>h2.go E Z F1 H1 _ b.st λs p2 F2 H2 d l⟨j,n,w,e,hn,hw,kk⟩=>by
  subst e;cases l.inv;have g:=m.mv b.st h.hi h1 d;subst r;obtain⟨_,rfl,o,y,z,c⟩:=g.inv;obtain⟨x,hx,f⟩:=c.get hw;refine⟨a,_,j,x,rfl,rfl,AO.of o,?_,q x (p++[n]) w F2 H2 (b.trans d) f (OV.RY h1 (by rw[OV.N0,hw];exact OV.MC)) kk⟩;unfold L2.BU;rw[c.length,hn];exact hx⟩
theorem Pg{k:List Nat->OV->Prop}(h:Wl ss i t ta λp u=>∃xs,u=.tp xs/\Wp ss tb λq=>∃(j:Int)(n:Nat)(w:OV),q=.int j/\G8 xs.length j=some n/\xs[n]?=some w/\k (p++[n]) w):Wl ss i t (Bk (LV K) ta tb) k:=⟨h.hi,λE Z F H Q S q=>
 h.go E Z F H _ S λv p u F1 H1 b l h1⟨xs,o,h2⟩=>h2.go E Z F1 H1 _ b.st λr p2 F2 H2 a g⟨j,n,w,e,hn,hw,kk⟩=>by
  subst e;cases g.inv;have f:=l.mv b.st h.hi h1 a;subst o;obtain⟨_,_,rfl,m,c⟩:=f.inv;obtain⟨x,hx,d⟩:=c.get hw;refine⟨_,_,j,x,rfl,rfl,AN.of (a.st.fh _ _ m),?_,q x (p++[n]) w F2 H2 (b.trans a) d (OV.RY h1 (by rw[OV.OU,hw];exact OV.MC)) kk⟩;unfold L2.BU;rw[c.length,hn];exact hx⟩
theorem Xk{k:Bool->List PV->Prop}(h:Wl ss i t te λ_ u=>∃a ps,u=.nd .lst a (ps.map .fz)/\k false ps):Wq ss te k:=⟨λE Z F H Q S q=>
 h.go E Z F H _ S λv p u F1 H1 b d h1 AM=>by
  obtain⟨a,ps,f,kk⟩:=AM;subst f;have np:DY ss Z a:=b.st.LR h.hi.choose_spec (OV.Rh h1 a (by rw[OV.FD];simp)) (by simp);obtain⟨_,rfl,e,g,j,c⟩:=d.inv;exact q _ false ps F1 H1 b ⟨a,_,rfl,np,e,c.ra⟩ kk⟩
theorem je{k:List Nat->OV->Prop}(h:Wp ss te λp=>k [] (.fz p)):Wx ss te k:=⟨λE Z F H Q S q=>
 h.go E Z F H _ S λv p F1 H1 c r kk=>q v [] (.fz p) F1 H1 c (.fz r) (by rw[OV.Ma];exact LC) (λa b=>by rw[OV.Ma]at b;cases b) kk⟩
theorem Qa(a:Addr)(xs:List PV):(OV.nd .lst a (xs.map .fz)).addrs=[a]:=by rw[OV.FD,aw];rfl
theorem aZ{k:List Nat->OV->Prop}(h:Wn ss te λxs=>∀l,k [] (.nd .lst l (xs.map .fz))):Wx ss te k:=⟨λE Z F H Q S q=>
 h.go E Z F H _ S λl vs xs F1 H1 d f b Fm r kk=>q _ [] _ F1 H1 d (.nd (k:=.lst) Fm trivial trivial (ig r)) (by rw[Qa];simp) (λa c=>by
  rw[Qa]at c;have e:a=l:=by simpa using c
  subst e;exact⟨f,S.Gr b,.inr b⟩) (kk l)⟩
theorem uI{k:List Nat->OV->Prop}(hi:ss[i]?=some (.own xs))(h:∀l,k [i] (.nd .lst l (xs.map .fz))):Wx ss (Cp i) k:=⟨λE Z F H Q S q=>by
 obtain⟨l,vs,e,f,d,c,r⟩:=S.ok i _ hi;refine⟨_,e,q _ [i] _ F H (.refl S) (.nd (k:=.lst) c trivial trivial (ig r)) (by rw[Qa];simp) (λa b=>?_) (h l)⟩;rw[Qa]at b;have ea:a=l:=by simpa using b
 subst ea;exact⟨f,d,.inl ⟨i,by simp,_,by simp,hi,e⟩⟩⟩
theorem ZD1{k:List Nat->List OV->Prop}(h:k [] []):QY ss Bj k:=⟨λE Z F H Q S q=>q _ [] [] F H (.refl S) .nil (by rw[OV.IQ];exact LC) (λa b=>by rw[OV.IQ]at b;cases b) h⟩
theorem Wx.ZBW(S:Sg E ss Z F H)(h:(∃i∈m,∃s,s≠Slot.Af/\ss[i]?=some s/\C6 s Z[i]? a)∨H a=none):DY ss Z a:=by
 rcases h with⟨j,_,s,c,b,o⟩|z
 .exact S.LR b o c
 .exact S.OA z
theorem Mv.qV(m:Mv E ss Z F H F' H')(h:F a=Option.none)(h2:H a≠Option.none):F' a=Option.none:=by
 cases e:F' a with
 |none=>rfl
 |some o=>
  rcases m.nn a o e with z|z
  .rw[h]at z;cases z
  .exact absurd z h2
theorem XW{k:List Nat->List OV->Prop}(h:Wx ss te λm u=>QY ss tr λd us=>(∀i∈m,i∉d)/\k (m++d) (u::us)):QY ss (BC te tr) k:=⟨λE Z F H Q S q=>
 h.go E Z F H _ S λv m u F1 H1 p l Uh t h2=>h2.go E Z F1 H1 _ p.st λvs n us F2 H2 d B UB y AM=>by
  obtain⟨J,kk⟩:=AM;have np:∀a∈u.addrs,DY ss Z a:=λa c=>Wx.ZBW S (t a c).2.2;refine q (v::vs) (m++n) (u::us) F2 H2 (p.trans d) (.cons (l.mono d.ff λa c o e=>d.hh a o (np a c) e) B) ?_ (λa c=>?_) kk
  .rw[OV.D4,Er];refine⟨Uh,UB,λa c b I e=>?_⟩;subst e;rcases(y a I).2.2 with⟨C,A,s2,G,Gw,x⟩|z
   .rcases(t a c).2.2 with⟨j,g,s,K,D,o⟩|z
    .exact S.DS j C s s2 a (by rintro rfl;exact J j g A) D Gw o x
    .exact S.J8 Gw x z
   .exact l.there a c z
  .rw[OV.D4]at c;rcases List.mem_append.mp c with c|c
   .obtain⟨f,r,w⟩:=t a c;exact⟨d.qV f (l.there a c),r,w.imp (λD9=>by obtain⟨j,g,z⟩:=D9;exact⟨j,by simp[g],z⟩) id⟩
   .obtain⟨f,r,w⟩:=y a c;exact⟨f,r,w.imp (λWM=>by obtain⟨j,g,z⟩:=WM;exact⟨j,by simp[g],z⟩) p.none⟩⟩
theorem yg{k:List Nat->OV->Prop}(h:QY ss tr λm us=>us.length<=100000/\k m (.tp us)):Wx ss (Pt tr) k:=⟨λE Z F H Q S q=>
 h.go E Z F H _ S λvs m us F1 H1 i c Uh n AM=>by obtain⟨j,kk⟩:=AM;exact⟨small (by rw[c.length];exact j),λp d=>by
  have g:=i.st.alloc d (.tup vs);refine q _ m (.tp us) _ _ (i.trans g) (.tp AU (c.mono g.ff λa b o e=>by rw[Az (by rintro rfl;exact c.there _ b d)];exact e)) (by rw[OV.G0];exact Uh) (λa b=>?_) kk;rw[OV.G0]at b;obtain⟨f,l,w⟩:=n a b;exact⟨by rw[Az (by rintro rfl;exact c.there _ b d)];exact f,l,w⟩⟩⟩
theorem V3{j:Nat}{s:Slot}:∀{m:List Nat}{ss:List Slot},(Fc m ss)[j]?=some s->s=.any∨(ss[j]?=some s/\j∉m)
 | [],ss,h=>.inr ⟨h,by simp⟩
 |i::m,ss,h=>by
  rcases V3 (m:=m) (ss:=ss.set i .any) h with e|⟨e,hm⟩
  .exact .inl e
  .by_cases q:j=i
   .subst q;have a:j<ss.length:=by have:=(List.getElem?_eq_some_iff.mp e).1;simpa using this
    rw[Fs a]at e;exact .inl (Be e).symm
   .rw[Fq (BP q)]at e;exact .inr ⟨e,by simp[q,hm]⟩
theorem Sg.Fc{E:Ent0}{Z:L2.St}{F H:Hp}:∀(m:List Nat){ss:List Slot},Sg E ss Z F H->Sg E (Fz.Fc m ss) Z F H
 | [],_,S=>S
 |i::m,_,S=>Sg.Fc m (S.drop i)
theorem Sg.sM(S0:Sg E ss Z F0 H0)(S:Sg E ss Z F H)(r:BN F H v u)(nd:u.addrs.Nodup)(c:∀a∈u.addrs,F a=none/\E.H0 a=none/\((∃i∈m,∃s,s≠Slot.Af/\ss[i]?=some s/\C6 s Z[i]? a)∨H0 a=none)):
  Sg E ((Fz.Fc m ss).set j (.ow false u)) (Z.set j (some v)) F H:=by
 refine(S.Fc m).setG ⟨v,rfl,r,nd,λa b=>⟨(c a b).1,.inl (c a b).2.1⟩⟩ λa b i s Gm g o=>?_;rcases V3 g with e|⟨J4,hm⟩
 .subst e;cases o
 .rcases(c a b).2.2 with⟨f,Fx,s2,_,Gw,d⟩|z
  .exact S.DS i f s s2 a (by rintro rfl;exact hm Fx) J4 Gw o d
  .exact S0.J8 J4 o z
theorem uk(h:Wx ss te λm u=>nx ((Fz.Fc m ss).set j (.ow false u))):Ws ss (Fd te (Dj j)) nx R:=⟨λE D Z F H S hn c=>
 h.go E Z F H _ S λv m u F1 H1 a r nd b kk=>hn _ _ F1 H1 kk (Sg.sM S a.st r nd b) a.ff⟩
theorem BN.rep(ff:AE F F1):∀{v:V}{t:OV},BN F H v t->(∀a∈t.addrs,∀o,H a=some o->F1 a=some o)->Rep F1 v t.pv:=by
 intro v t r h;exact BN.rec (motive_1:=λv t _=>(∀a∈t.addrs,∀o,H a=some o->F1 a=some o)->Rep F1 v t.pv) (motive_2:=λvs ts _=>(∀a∈OV.Bd ts,∀o,H a=some o->F1 a=some o)->Ad F1 vs (OV.GS ts))
  (λ{v p}r _=>by rw[OV.pv];exact r.mono ff)
  (λ{a vs xs}e _ c h=>by rw[OV.pv];exact .tup (ff _ _ e) (c (by rw[OV.G0]at h;exact h)))
  (λ{k a vs xs}e j g _ c h=>by
   rw[OV.FD]at h;have f:=c λa b=>h a (by simp[b]);have d:=h a (by simp) _ e;cases k with
   |lst=>rw[OV.pv];exact .lst d f
   |Du ks=>rw[OV.pv];exact .Du d g f
   |obj C dx ns=>rw[OV.pv];exact .obj d (h dx (by simp[NK.more]) _ j) g f)
  (λ_=>by rw[OV.GS];exact .nil)
  (λ_ _ i l h=>by
   rw[OV.D4]at h;rw[OV.GS];exact .cons (i λa b=>h a (by simp[b])) (l λa b=>h a (by simp[b])))
  r h
variable{lt:Bool}
theorem MO:(OV.nd .lst a us).addrs=a::OV.Bd us:=by rw[OV.FD];rfl
theorem Tg:∀(us ws:List OV),OV.Bd (us++ws)=OV.Bd us++OV.Bd ws
 | [],ws=>by rw[Yz,OV.IQ,Yz]
 |u::us,ws=>by rw[S8,OV.D4,OV.D4,Tg us ws,C3]
theorem eh(u:OV):OV.Bd [u]=u.addrs:=by rw[OV.D4,OV.IQ,Hr]
theorem Sg.fv{J6:List OV}(S0:Sg E ss Z F0 H0)(S:Sg E ss Z F H)(hi:ss[i]?=some (.ow lt t))(Ds:t.at p=some (.nd .lst a us))
  (d:∀a∈u.addrs,F a=none/\E.H0 a=none/\((∃i∈m,∃s,s≠Slot.Af/\ss[i]?=some s/\C6 s Z[i]? a)∨H0 a=none)) (Na:i∉m)
  (K:Bl F H EN J6) (C:(OV.Bd J6).Nodup) (Rr:∀b∈OV.Bd J6,b∈OV.Bd us∨b∈u.addrs):Sg E ((Fz.Fc m ss).set i (.ow lt (t.put p (.nd .lst a J6)))) Z F (upd H a (.lst EN)):=by
 have N:(Fz.Fc m ss)[i]?=some (.ow lt t):=by
  have n:∀(m:List Nat)(ss:List Slot),ss[i]?=some (.ow lt t)->i∉m->(Fz.Fc m ss)[i]?=some (.ow lt t):=by
   intro m
   induction m with
   |nil=>intro ss h _;exact h
   |cons j m I=>
    intro ss h f;refine I _ ?_ λz=>f (by simp[z]);rw[Fq (by rintro rfl;exact f (by simp))];exact h
  exact n m ss hi Na
 obtain⟨v,e,r,nd,q⟩:=S.ok i _ hi;have D:∀b,b∈a::OV.Bd us->b∈t.addrs:=λb c=>OV.Rh Ds b (by rw[MO];exact c);have x:∀b∈u.addrs,b∉t.addrs:=λb c z=>by
  rcases(d b c).2.2 with⟨j,L,s,_,g,o⟩|w
  .exact S.DS j i s _ b (by rintro rfl;exact Na L) g hi o z
  .exact S0.J8 hi z w
 have B:(OV.nd .lst a us).addrs.Nodup:=by
  obtain⟨l,O,M,_⟩:=OV.split Ds;rw[M,Er,Er]at nd;exact nd.1.2.1
 rw[MO]at B;have A:∀b∈OV.Bd J6,b≠a:=λb c z=>by
  subst z;rcases Rr b c with w|w
  .exact(List.nodup_cons.mp B).1 w
  .exact x b w (D b (by simp))
 refine(S.Fc m).pA N Ds (.nd (k:=.lst) AU trivial trivial (K.mono (AE.refl _) λb c o ho=>by rw[Az (A b c)];exact ho)) (by rw[MO];exact List.nodup_cons.mpr ⟨λz=>A a z rfl,C⟩) λb c=>?_;rw[MO]at c ⊢;rcases List.mem_cons.mp c with w|w
 .exact .inl (by simp[w])
 .rcases Rr b w with z|z
  .exact .inl (by simp[z])
  .refine .inr ⟨(d b z).1,(d b z).2.1,λj s g o=>?_⟩;rcases V3 g with y|⟨J4,f⟩
   .subst y;cases o
   .rcases(d b z).2.2 with⟨J,Fx,s2,_,Gw,G⟩|y
    .exact S.DS j J s s2 b (by rintro rfl;exact f Fx) J4 Gw o G
    .exact S0.J8 J4 o y
theorem il(h:Wl ss i t ta λp u=>∃lt a us,ss[i]?=some (.ow lt t)/\u=.nd .lst a us/\us.length<=99999/\Wx ss te λm w=>i∉m/\nx ((Fc m ss).set i (.ow lt (t.put p (.nd .lst a (us++[w])))))):Ws ss (Kq (LN K "list" PB ta (BC te Bj))) nx R:=⟨λE D Z F H S hn hr=>
 h.go E Z F H _ S λv p u F1 H1 c M h1⟨lt,a,us,hi,W,O,hw⟩=>by
  subst W;cases M with
  |@nd k a' vs _ r I V g=>
   refine .inl ⟨rfl,_,AO.of r⟩ |> λn=>⟨n,hw.go E Z F1 H1 _ c.st λC m w F2 H2 d L UB A⟨Na,kk⟩=>?_⟩;have J:=(BN.nd (k:=.lst) r I V g).mv c.st h.hi h1 d;cases J with
   |@nd _ _ N _ WQ G U ZF=>
    refine⟨a,N,C,rfl,rfl,WQ,Vz (by rw[ZF.length];exact O),?_⟩;refine hn _ Z F2 _ kk (Sg.fv (u:=w) c.st d.st hi h1 A Na (ZF.append (.one L)) ?_ λb q=>?_) (c.ff.trans d.ff)
    .rw[Tg,eh,Er];obtain⟨Y,e0,σ,z,n⟩:=d.st.ok i _ hi;have B:(OV.nd .lst a us).addrs.Nodup:=by
      obtain⟨l,g,X,_⟩:=OV.split h1;rw[X,Er,Er]at z;exact z.1.2.1
     rw[MO]at B;refine⟨(List.nodup_cons.mp B).2,UB,λx hx y P e=>?_⟩;subst e;have f:x∈t.addrs:=OV.Rh h1 x (by rw[MO];simp[hx]);rcases(A x P).2.2 with⟨j,T,s,_,Q,o⟩|w
     .exact c.st.DS j i s _ x (by rintro rfl;exact Na T) Q hi o f
     .exact c.st.J8 hi f w
    .rw[Tg,eh]at q;exact List.mem_append.mp q⟩
theorem y4{k:OV->Prop}(h:Wx ss te λ_ u=>k u):Ws ss (M7 te) nx (.ow k):=⟨λE D Z F H S hn e=>
 h.go E Z F H _ S λv m u F1 H1 d r nd b kk=>e v F1 H1 d.st.toFin ⟨u,r,nd,λa c=>⟨(b a c).1,(b a c).2.1⟩,kk⟩⟩
theorem Vn{ta:TA}{k:List Nat->OV->Prop}(h:Wa ss ta λl=>∃c,pre l (.ow c)/\∀u,c u->k [] u):Wx ss (EK (Ah pre) [] E0 ta) k:=⟨λE Z F H Q S q=>
 h.go E Z F H _ S λvs l F1 H1 b a⟨c,i,kk⟩=>by
  rw[Hr];refine⟨l,.ow c,F1,[],i,b.st.O2 a,λv F' H' f⟨u,r,nd,d,g⟩=>?_⟩;exact q v [] u F' H' (b.trans (b.st.back (λ_ h=>absurd h Bb) f)) r nd (λa e=>⟨(d a e).1,S.Gr (b.none (d a e).2),.inr (b.none (d a e).2)⟩) (kk u g)⟩
end
def DO:List Slot->L2.St->List Addr
 | .own _::ss,some (.ref l)::Z=>l::DO ss Z
 | .ow _ t::ss,_::Z=>t.addrs++DO ss Z
 |_::ss,_::Z=>DO ss Z
 |_,_=>[]
theorem aM:∀{ss:List Slot}{Z:L2.St}{a:Addr},a∈DO ss Z->∃(i:Nat)(s:Slot),ss[i]?=some s/\s≠.Af/\C6 s Z[i]? a
 | [],Z,a,h=>absurd h Bb
 |s::ss,[],a,h=>by cases s <;> exact absurd h Bb
 |s::ss,o::Z,a,h=>by
  have up:a∈DO ss Z->∃(i:Nat)(s':Slot),(s::ss)[i]?=some s'/\s'≠.Af/\C6 s' (o::Z)[i]? a:=λh=>by
   obtain⟨i,s',h1,h2,b⟩:=aM h;exact⟨i+1,s',by simpa using h1,h2,by simpa using b⟩
  cases s with
  |own xs=>
   cases o with
   |none=>exact up h
   |some v=>
    cases v with
    |ref l=>
     have h:a∈l::DO ss Z:=h;rcases List.mem_cons.mp h with e|h
     .subst e;exact⟨0,_,rfl,by simp,rfl⟩
     .exact up h
    |_=>exact up h
  |ow lt t=>
   have h:a∈t.addrs++DO ss Z:=h;rcases List.mem_append.mp h with h|h
   .exact⟨0,_,rfl,by simp,h⟩
   .exact up h
  |_=>exact up h
theorem Tz:∀{ss:List Slot}{Z:L2.St}{i:Nat}{s:Slot}{a:Addr},ss.length=Z.length->ss[i]?=some s->s≠.Af->C6 s Z[i]? a->a∈DO ss Z
 | [],Z,i,s,a,_,h,_,_=>by simp at h
 |s0::ss,[],i,s,a,hl,_,_,_=>by simp at hl
 |s0::ss,o::Z,0,s,a,hl,h,hp,ho=>by
  simp at h;subst h;cases s0 with
  |own xs=>
   have e:o=some (.ref a):=by have:some o=some (some (V.ref a)):=ho;exact Be this
   subst e;exact BZ
  |ow lt t=>exact HF _ ho
  |Af=>exact absurd rfl hp
  |_=>cases ho
 |s0::ss,o::Z,i+1,s,a,hl,h,hp,ho=>by
  have q:=Tz (ss:=ss) (Z:=Z) (i:=i) (a:=a) (by simpa using hl) (by simpa using h) hp (by simpa using ho)
  cases s0 with
  |own xs=>cases o with
   |none=>exact q
   |some v=>cases v with
    |ref l=>exact C5 _ q
    |_=>exact q
  |ow lt t=>exact Ep _ q
  |_=>exact q
theorem BN.ZCD(r:BN F H v t):∀a∈t.addrs,∀vs,H a≠some (.tup vs):=
 BN.rec (motive_1:=λ_ t _=>∀a∈t.addrs,∀vs,H a≠some (.tup vs)) (motive_2:=λ_ ts _=>∀a∈OV.Bd ts,∀vs,H a≠some (.tup vs))
  (λ_ a c _=>by rw[OV.Ma]at c;cases c)
  (λ_ _ i a c vs=>by rw[OV.G0]at c;exact i a c vs)
  (λ{k}{b}{_}{_}h f _ _ i a c vs=>by
   rw[OV.FD,Cj,GY]at c;rcases c with rfl|c|c
   .rw[h];cases k <;> (intro z;cases z)
   .cases k with
    |obj C dx ns=>
     have e:a=dx:=List.mem_singleton.mp c;subst e;have d:H a=some (.own b):=f;rw[d];intro z;cases z
    |_=>exact absurd c Bb
   .exact i a c vs)
  (λa c _=>by rw[OV.IQ]at c;cases c)
  (λ_ _ i k a c ws=>by
   rw[OV.D4,GY]at c;rcases c with c|c
   .exact i a c ws
   .exact k a c ws)
  r
noncomputable def QH(F:Hp)(as:List Addr):Hp:=λa=>if a∈as then none else F a
theorem Sg.as(S:Sg E ss Z F H)(h:a∈DO ss Z):F a=none/\H a≠none/\(∀vs,H a≠some (.tup vs))/\DY ss Z a:=by
 obtain⟨i,s,b,c,ho⟩:=aM h;refine⟨S.ZBN b ho,S.J8 b ho,?_,S.LR b ho c⟩;have k:=S.ok i s b;cases s with
 |own xs=>obtain⟨l,vs,e,_,_,d,_⟩:=k;rw[show Z[i]?=some (some (.ref a))from ho]at e;cases e;rw[d];simp
 |ow lt t=>obtain⟨v,_,r,_⟩:=k;exact r.ZCD a ho
 |Af=>exact absurd rfl c
 |_=>cases ho
theorem Sg.JE(S:Sg E ss Z F H):AE F (Cn F H (DO ss Z))/\AE (Cn F H (DO ss Z)) H:=by
 refine⟨λa o e=>?_,λa o e=>?_⟩
 .unfold Cn;rw[mL (λq=>by rw[(S.as q).1]at e;cases e)];exact e
 .unfold Cn at e;split at e
  .exact e
  .exact S.fh a o e
theorem Sg.lx(S:Sg E ss Z F H)(f:Fin (E3 [] (Cn F H (DO ss Z)) H) F' H'):Mv E ss Z F H (QH F' (DO ss Z)) H'/\∀a∈DO ss Z,∀vs,F' a≠some (.tup vs):=by
 have kp:∀a o,H a=some o->H' a=some o:=λa o e=>f.keep a o ⟨Bb,Bb⟩ e;refine⟨S.step (λa o e=>?_) (λa o e=>?_) (λa o _ e=>kp a o e) (λa o e=>?_) (λi l hi e=>CC.keep (S.Gv hi e) λo e=>kp l o e),λa c vs e=>?_⟩
 .unfold QH;rw[mL (λq=>by rw[(S.as q).1]at e;cases e)];exact f.f0 a o (S.JE.1 a o e)
 .unfold QH at e;split at e
  .cases e
  .exact f.fh a o e
 .unfold QH at e;split at e
  .cases e
  .rename_i q;rcases f.fresh a o e with z|z
   .left
    have b:Cn F H (DO ss Z) a=some o:=z;unfold Cn at b;rw[mL q]at b;exact b
   .exact .inr z
 .obtain⟨o,ho⟩:=Option.ne_none_iff_exists'.mp (S.as c).2.1;have z:F' a=some o:=f.f0 a o (by show Cn F H (DO ss Z) a=some o;unfold Cn;rw[o9 c];exact ho);rw[z]at e;cases e;exact(S.as c).2.2.1 vs ho
section
variable[Xw]
variable{K:ZGX}{k:PV->Prop}{lt:Bool}
theorem gE(h:Wx ss te λm u=>m=[]/\k u.pv):Wp ss te k:=⟨λE Z F H Q S q=>
 h.go E Z F H _ S λv m u F1 H1 c r nd d AM=>by
  obtain⟨l,kk⟩:=AM;subst l;have g:∀a∈u.addrs,H a=none:=λa b=>by
   rcases(d a b).2.2 with⟨i,hi,_⟩|z
   .cases hi
   .exact z
  obtain⟨S1,f⟩:=c.st.lay u.addrs (λa b=>⟨(d a b).1,(d a b).2.1,r.there a b⟩) λa b i s j o=>S.J8 j o (g a b);refine q v u.pv _ H1 ⟨S1,c.ff.trans f,c.hh,λa o e=>?_⟩ (r.rep f λa b o ho=>by unfold Cn;rw[o9 b];exact ho) kk;unfold Cn at e;split at e
  .rename_i z;exact .inr (g a z)
  .exact c.nn a o e⟩
end
theorem Pa:∀{xs:List PV},(∀x∈xs,BO x x=true)->CF xs xs=true
 | [],_=>by rw[CF]
 |x::r,h=>by rw[JJ,h x (by simp),Pa (xs:=r) λy a=>h y (by simp[a])];rfl
theorem nO{K:ZGX}:∀(d:Nat){p:PV},dat K d p->BO p p=true:=by
 intro d
 induction d with
 |zero=>intro p h;cases p <;> first|exact h.elim|rfl|exact xF _
 |succ d b=>
  intro p h;cases p with
  |lst xs=>show CF xs xs=true;exact Pa λx hx=>b (h x hx)
  |tup xs=>show CF xs xs=true;exact Pa λx hx=>b (h x hx)
  |con a xs=>show CF xs xs=true;exact Pa λx hx=>b (h.1 x hx)
  |_=>first|exact h.elim|rfl|exact xF _
theorem dO:∀(xs:List PV),OV.GS (xs.map .fz)=xs
 | []=>by rw[Jj,OV.GS]
 |x::r=>by rw[ES,OV.GS,OV.pv,dO r]
end Fz
namespace L2
variable{M:Model}{A:Around}{E Q xe:Value->Shared->Prop}{s s':Shared}{Zf h':Heap}{env:Env}{l outer:List Env}{C S a b ea f fI:Addr}{dx fr tb:Option Addr}{o:HO}{vs:Array Value}{cd head u v:Value}{oI oe ox:Obj}{w:World}{mN mg:ZGZ}{N ps sn:List Str}{n name par qual x:Str}{scope:Scope}{H H':Hp}{e e0:Expr}{X:Cx}{HY r:Option Value}{E':St->XK}{Bf JK np p pos:Pos}{es:List Expr}{t:TA}{ab hdct:Bool}{prog:Program}{RU us:List Value}{od:Option Obj}{tk:Tok}{Ze pn:ZGY}{Z:St}{j k kk t':Nat}{ta te:TE}{fd:FuncData}{b0:Stmt}{ME:(St->XK)->TS}{th:TS}{sp:Sp}
structure Fl (h:Heap) (ea:Addr) (C:Value) (dx tb:Option Addr):Prop where
 obj:∃oe vs,h.get? ea=some oe/\oe.cls=C/\oe.dict=dx/\oe.data=.fields vs/\1<vs.size/\vs[1]?=some (tb.elim Value.none Value.ref)
 ent:∀T,tb=some T->T≠ea/\∃oT ts,h.get? T=some oT/\oT.data=.fields ts/\3<ts.size
section
variable{L:Addr}{C:Value}{Q:Unit->Shared->Prop}
theorem ZBT(o:Obj)(g:Array Value->Array Value):(o.mapFields g).dict=o.dict:=by
 obtain⟨c,d,dt,sl⟩:=o;cases dt <;> rfl
structure Kp (l:List Env) (ea:Addr) (tb:Option Addr) (h h':Heap):Prop where
 keep:∀b o,h.get? b=some o->b∉Bc l->b≠ea->tb≠some b->h'.get? b=some o
 slot:∀b o,h.get? b=some o->b∈Bc l->∃sl,h'.get? b=some { o with slots:=sl }
 size:h.objs.size<=h'.objs.size
theorem fW(d:s.heap.FunFrames Zf (env::outer)){o:Obj}(ho:s.heap.get? b=some o)(hd:o.data=.fields vs):b∉Bc (env::outer):=λc=>by
 obtain⟨_,u,a,hn⟩:=d.mem c;rw[ho]at a;cases a;exact hn vs hd
theorem hX{more:Bool}(JN:A.frames=some (env::outer))(f:s.heap.FunFrames Zf (env::outer))(r:env.frame=some L)
  (i:s.heap.get? ea=some oe) (t:oe.cls=C) (c:oe.dict=dx) (hd:oe.data=.fields vs) (a:1<vs.size)
  (h:∀h' T,Kp (env::outer) ea none s.heap h'->s.heap.objs.size<=T->Fl h' ea C dx (some T)->Q () { s with heap:=h' }) :
  wpAny M A (do
   let fr <- frameOf env
   let pl <- entryPlaceOf L more
   let b <- EntryCells.newEntry head fr Value.none (rawInt L) Value.none pl
   setField (.ref ea) 1 b) Q E s:=by
 have l:=fW f i hd;refine ko (wpAny_frameOf_fun JN f r λg so=>?_);refine ko (wpAny_entryPlaceOf λpl q=>?_);unfold EntryCells.newEntry newFields;refine ko (qm ?_ (q.sizeOk5 _ _ _ _ _));generalize u:([head,Value.ref L,Value.none,rawInt L,Value.none]++(if pl.isEmpty then List.replicate 6 Value.none else pl)).toArray=ts
 have p:3<ts.size:=by
  rw[<- u];simp only[Bv,Bi,CG,SD];omega
 have k:g.get? ea=some oe:=(so.2.1 ea l).trans i;have v:(g.push { cls:=.type "traceback", dict:=none,data:=.fields ts }).get? g.objs.size=some { cls:=.type "traceback", dict:=none,data:=.fields ts }:=BY g rfl;have j:=BE (h:=g) { cls:=.type "traceback", dict:=none,data:=.fields ts } k;have n:g.objs.size≠ea:=Im (B9 k);have m:=FT hd (·.setIfInBounds 1 (Value.ref g.objs.size))
 have x:=E7 (Obj.mapFields (·.setIfInBounds 1 (Value.ref g.objs.size))) j (LF m)
 have y:=(DN (g.push { cls:=.type "traceback", dict:=none,data:=.fields ts }) (Obj.mapFields (·.setIfInBounds 1 (Value.ref g.objs.size))) (BP n)).trans v
 refine vx j hd a (h _ g.objs.size ⟨λb o d Ly FI _=>?_,λb o d Ie=>?_,?_⟩ ?_ ⟨⟨_,_,x,?_,?_,m,?_,?_⟩,λT w=>?_⟩)
 .have e:g.get? b=some o:=(so.2.1 b Ly).trans d;rw[DN _ _ (BP FI)];exact BE _ e
 .obtain⟨sl,e⟩:=so.2.2 b o d;refine⟨sl,?_⟩;rw[DN _ _ (by rintro rfl;exact l Ie)];exact BE _ e
 .rw[Rz,E8,so.1];exact E9 _
 .rw[so.1];exact B4 _
 .rw[SJ];exact t
 .rw[ZBT];exact c
 .simpa using a
 .simp[a]
 .cases w;exact⟨n,_,_,y,rfl,p⟩
theorem Kp.refl{l:List Env}{ea:Addr}{tb:Option Addr}{h:Heap}:Kp l ea tb h h:=⟨λ_ _ a _ _ _=>a,λ_ o a _=>⟨o.slots,a⟩,B4 _⟩
theorem y0(JN:A.frames=some (env::outer))(e:s.heap.FunFrames Zf (env::outer))(f:env.frame=some L)(hx:Fl s.heap ea C dx tb)
  (h:∀h' T,Kp (env::outer) ea tb s.heap h'->s.heap.objs.size<=T∨tb=some T->Fl h' ea C dx (some T)->Q () { s with heap:=h' }) :
  wpAny M A (noteFrame (.ref ea) env) Q E s:=by
 obtain⟨oe,vs,g,m,hd,K0,j,h1⟩:=hx.obj;unfold noteFrame;simp only[f];refine ko (yU g K0 h1 ?_);cases tb with
 |none=>
  rw[mL (by decide)];exact hX JN e f g m hd K0 j λh' T k q=>h h' T k (.inl q)
 |some T=>
  obtain⟨Kc,oT,ts,c,EZ,i⟩:=hx.ent T rfl;show wpAny M A (do if(Value.ref T != Value.none)=true then _ else _) _ _ _
  rw[o9 (show(Value.ref T != Value.none)=true from by simp)];refine ko (yU c EZ (L8 i) ?_)
  by_cases l:(ts[3] == rawInt L)=true
  .rw[o9 l];exact mD (h s.heap T Kp.refl (.inr rfl) hx)
  rw[mL l];refine ko (vx c EZ i ?_);have d:∀b,b≠T->(s.heap.update T (Obj.mapFields (·.setIfInBounds 3 Value.none))).get? b=s.heap.get? b:=λb a=>DN _ _ (BP a)
  have nT:=fW e c EZ;refine hX (s:={ s with heap:=s.heap.update T (Obj.mapFields (·.setIfInBounds 3 Value.none)) }) JN (e.of_keeps λb o a hn=>⟨o,(d b (by rintro rfl;rw[c]at a;cases a;exact hn ts EZ)).trans a,rfl⟩) f ((d ea (BP Kc)).trans g) m hd K0 j λh' T' k hn x=>?_
  refine h h' T' ⟨λb o a Ly FI Fe=>k.keep b o ((d b (by rintro rfl;exact Fe rfl)).trans a) Ly FI (by simp),λb o a Ie=>k.slot b o ((d b (by rintro rfl;exact nT Ie)).trans a) Ie,?_⟩ (.inl ?_) x
  .have z:=k.size;rw[show(s.heap.update T (Obj.mapFields (·.setIfInBounds 3 Value.none))).objs.size=s.heap.objs.size from Rz ..]at z
   exact z
  .have z:=hn;rw[show(s.heap.update T (Obj.mapFields (·.setIfInBounds 3 Value.none))).objs.size=s.heap.objs.size from Rz ..]at z
   exact z
theorem Zm(x:Fl s.heap ea C dx tb)(j:∀b∈Bc l,∃o,s.heap.get? b=some o/\∀vs,o.data≠.fields vs)
  (h:∀h',Kp l ea tb s.heap h'->Fl h' ea C dx tb->Q () { s with heap:=h' }):wpAny M A (setFlight (.ref ea) fr) Q E s:=by
 obtain⟨oe,vs,g,k,hd,K0,i,h1⟩:=x.obj;unfold setFlight;refine ko (yU g K0 h1 ?_);cases tb with
 |none=>
  rw[mL (by decide)];exact mD (h s.heap Kp.refl x)
 |some T=>
  obtain⟨Kc,oT,ts,c,EZ,e⟩:=x.ent T rfl;rw[o9 (show((some T).elim Value.none Value.ref != Value.none)=true from by simp)];generalize (fr.elim Value.none λf=>rawInt f)=mk;have d:∀b,b≠T->(s.heap.update T (Obj.mapFields (·.setIfInBounds 3 mk))).get? b=s.heap.get? b:=λb a=>DN _ _ (BP a)
  have n:=E7 (Obj.mapFields (·.setIfInBounds 3 mk)) c (LF (FT EZ _))
  refine vx c EZ e (h _ ⟨λb o a _ _ Fe=>(d b (by rintro rfl;exact Fe rfl)).trans a,λb o a Ie=>⟨o.slots,(d b ?_).trans a⟩,by rw[Rz];exact B4 _⟩ ⟨⟨oe,vs,(d ea (BP Kc)).trans g,k,hd,K0,i,h1⟩,λT' m=>?_⟩)
  .rintro rfl;obtain⟨o',Cr,hn⟩:=j b Ie;rw[c]at Cr;cases Cr;exact hn ts EZ
  .cases m;exact⟨Kc,_,_,n,FT EZ _,by simpa using e⟩
theorem Kp.frames{h:Heap}(k:Kp l ea tb h h')(c:h.FunFrames Zf l):∀b∈Bc l,∃o,h'.get? b=some o/\∀vs,o.data≠.fields vs:=λb a=>by
 obtain⟨_,o,ho,hn⟩:=c.mem a;obtain⟨sl,e⟩:=k.slot b o ho a;exact⟨_,e,hn⟩
theorem Kp.trans{T:Addr}{h h1 h2:Heap}(k:Kp l ea tb h h1)(c:h.objs.size<=T∨tb=some T)(k2:Kp l ea (some T) h1 h2):Kp l ea tb h h2:=
 ⟨λb o a Ly FI Fe=>k2.keep b o (k.keep b o a Ly FI Fe) Ly FI (λz=>c.elim (λy=>absurd (B9 a) (Nat.not_lt.mpr (Be z▸y))) λy=>Fe (y.trans z)),
  λb o a Ie=>by
  obtain⟨sl,e⟩:=k.slot b o a Ie;obtain⟨GC,d⟩:=k2.slot b _ e Ie;exact⟨GC,d⟩,Bz k.size k2.size⟩
theorem bc(JN:A.frames=some (env::outer))(a:s.heap.FunFrames Zf (env::outer))(d:env.frame=some L)(hx:Fl s.heap ea C dx tb)
  (h:∀h' T,Kp (env::outer) ea tb s.heap h'->s.heap.objs.size<=T∨tb=some T->Fl h' ea C dx (some T)->Q () { s with heap:=h' }) :
  wpAny M A (noteFrame (.ref ea) env) (λ_ s'=>wpAny M A (setFlight (.ref ea) none) Q E s') E s:=
 y0 JN a d hx λh1 T k b x=>Zm x (k.frames a) λh2 k2 c=>h h2 T (k.trans b k2) b c
theorem vL(JN:A.frames=some (env::outer))(a:s.heap.FunFrames Zf (env::outer))(b:env.frame=some L)(hx:Fl s.heap ea C dx tb)
  (h:∀h' T,Kp (env::outer) ea tb s.heap h'->s.heap.objs.size<=T∨tb=some T->Fl h' ea C dx (some T)->Q () { s with heap:=h' }):wpAny M A (leaving env (.ref ea)) Q E s:=by
 unfold leaving;exact ko (bc JN a b hx h)
end
def GZ(P:Program)(w:World):Fb:=λouter H s E e s'=>∃(ea C:Addr)(dx tb:Option Addr)(H':Hp),e=.ref ea/\s'.os=s.os/\AllBare s'.gens/\Un (Bc outer) [] H H' s.heap s'.heap/\CD P w H' s'.heap/\
 Fl s'.heap ea (.ref C) dx tb/\(H' ea=none/\s.heap.get? ea=none)/\(∀T,tb=some T->H' T=none/\s.heap.get? T=none)/\E (.ref C) dx H'
def YZ(X:Cx)(E:XK)(e:Value)(s':Shared):Prop:=∃(Ze:ZGY)(Z:St)(H':Hp)(ea C:Addr)(dx tb:Option Addr),e=.ref ea/\Inv X Ze Z H' s'/\
 Fl s'.heap ea (.ref C) dx tb/\(H' ea=none/\X.s₀.heap.get? ea=none)/\(∀T,tb=some T->H' T=none/\X.s₀.heap.get? T=none)/\E (.ref C) dx H'
section
variable{P:Program}{K:ZGX}{E:XK}
theorem CD.iR{h:Heap}(ok:CD P w H' h)(k:∀b u,H' b≠none->h.get? b=some u->h'.get? b=some u):CD P w H' h':=λa o e=>
 (ok a o e).Jb (λb u c d=>k b u (by rcases c with rfl|c;(rw[e];simp);(rw[c];simp)) d) (λ_ z=>z) λ_ _ z=>z
theorem YZ.leave{e:Value}(r:YZ (Dz (GZ P w) P w K mg Zf N qual scope f cd A outer s H E) E e s'):(Dz (GZ P w) P w K mg Zf N qual scope f cd A outer s H E).xe e s':=by
 obtain⟨Ze,Z,H',ea,C,dx,tb,rfl,I,x,⟨u1,u2⟩,d,l⟩:=r;have fr:=I.ok.frames
 change s.heap.get? ea=none at u2
 have d:∀T,tb=some T->H' T=none/\s.heap.get? T=none:=d;refine vL (outer:=outer) (L:=s.heap.objs.size) fr I.stack rfl x λh' T kp g j=>?_;have k:∀b o,s.heap.get? b=some o->b≠s.heap.objs.size:=λb o a=>Bn (B9 a);have mem:∀b,b∈Bc (envOfC qual scope s.heap.objs.size f cd::outer)->b=s.heap.objs.size∨b∈Bc outer:=λb a=>by
  rcases List.mem_cons.mp (I.OO b a)with z|z
  .exact .inl z
  .exact .inr z
 have h:∀b o,s'.heap.get? b=some o->H' b≠none->h'.get? b=some o:=λb o a hn=>kp.keep b o a (λz=>hn (I.Q5 b z)) (λz=>hn (z▸u1)) λz=>hn (d b z).1;refine⟨ea,C,dx,some T,H',rfl,I.os,I.bare,⟨λb o a hn c _=>?_,λb o a hn c _=>?_,λb o a hn hx=>I.base.free b o a hn hx,λb o a hx=>?_,I.base.Gy,I.base.GB,I.base.Gn⟩,I.AW.iR λb u hn a=>h b u a hn,j,⟨u1,u2⟩,λT' m=>?_,l⟩
 .refine kp.keep b o (I.base.keep b o a hn c (by simp[Dz])) (λz=>(mem b z).elim (k b o a) c) (by rintro rfl;rw[u2]at a;cases a) λz=>?_;rw[(d b z).2]at a;cases a
 .obtain⟨sl,h1⟩:=I.base.slot b o a hn c (by simp[Dz]);have n:b∈Bc (envOfC qual scope s.heap.objs.size f cd::outer):=by
   show b∈List.filterMap _ (_::_);rw[S9];exact C5 _ c
  obtain⟨GC,h2⟩:=kp.slot b _ h1 n;exact⟨GC,h2⟩
 .obtain⟨i,h1⟩:=I.base.there b o a (by simp[Dz])
  by_cases c:b∈Bc (envOfC qual scope s.heap.objs.size f cd::outer)
  .obtain⟨GC,h2⟩:=kp.slot b _ h1 c;exact⟨_,h2⟩
  .exact⟨i,kp.keep b i h1 c (by rintro rfl;rw[u2]at a;cases a) λz=>by rw[(d b z).2]at a;cases a⟩
 .cases m;exact g.elim (λg=>⟨I.AW.fresh g,OZ (Bz I.sz g)⟩) (d T)
end
noncomputable abbrev jC:List Value:=[.type "ValueError",.type "Exception",.type "BaseException",.type "object"]
structure gy (h:Heap) (C:Addr) (HY:Option Value):Prop where
 obj:∃bm N nm q bs hdct sn sub ab col dd k0 k1 k2 k3 k5 mN,h.get? C=some (excClassObj nm q C N bs bm hdct sn sub ab col dd k0 k1 k2 k3 k5 "ValueError.__new__")/\h.Ns N mN/\mN "__init__"=HY/\OwnTail h jC bm
noncomputable def El(K:ZGX)(C:Addr)(HY:Option Value):Bool:=match K.lookup C with
 |some ⟨.type "type", _,.cls cd,sl⟩=>(match cd.mro,sl.toList with
  | .ref C'::bm,[_,_,_,_,some (.builtin n),_]=>C' == C && n == "ValueError.__new__" && !cd.hasDel && PySem.W.tailIn K jC bm && PySem.W.nsOkIn K cd.ns && PySem.W.nsIn K cd.ns "__init__" == some HY
  |_,_=>false)
 |_=>false
theorem OL{K:ZGX}{h:Heap}(X:K.In h)(q:El K C HY=true):gy h C HY:=by
 unfold El at q;split at q
 .rename_i dd cd sl ho;split at q
  .rename_i C' bm k0 k1 k2 k3 n k5 hm hs;simp only[CU,ZAV,ZEv]at q;obtain⟨⟨⟨⟨⟨rfl,rfl⟩,ZZ⟩,g⟩,AW⟩,Ew⟩:=q;obtain⟨nm,bs,f,ns,qn,hd,sn,sub,ab,col,j⟩:=cd;dsimp only at hm ZZ AW Ew;subst hm ZZ;obtain⟨l⟩:=sl;simp only at hs;subst hs;have G:h.Ns ns (h.nsMap ns):=.of_isNs (PySem.W.isNs_of_in X AW);refine⟨bm,ns,nm,qn,bs,hd,sn,sub,ab,col,dd,k0,k1,k2,k3,k5,_,X _ _ ho,G,?_,PySem.W.tail_of_in X g⟩;cases HY with
   |none=>exact PySem.W.ns_none_of X G Ew
   |some v=>
    obtain⟨o,es,ep,a,b,_,i⟩:=G;unfold PySem.W.nsIn at Ew;split at Ew
    .rename_i c d Bs n' sl q2;have z:=X _ _ q2;rw[a]at z;cases z;cases b;split at Ew
     .rename_i e he;rw[<- i];unfold nsFind findBy;rw[<- ZEr,he]
      simpa using Ew
     .split at Ew <;> cases Ew
    .cases Ew
  .cases q
 .cases q
theorem CO.there{P:Program}{h:Heap}(x:CO P w H h a o):∃u,h.get? a=some u:=by
 induction o with
 |lst xs=>obtain⟨_,_,_,_,e⟩:=x;exact⟨_,e⟩
 |tup xs=>obtain⟨_,_,_,⟨_,e,_⟩,_⟩:=x;exact⟨_,e⟩
 |dK C9=>obtain⟨_,_,_,_,_,_,_,e,_⟩:=x;exact⟨_,e⟩
 |dT C9=>obtain⟨_,_,_,_,_,_,_,e,_⟩:=x;exact⟨_,e⟩
 |set S n=>obtain⟨_,_,_,_,e,_⟩:=x;exact⟨_,e⟩
 |ins C dx fs=>obtain⟨_,_,_,e,_⟩:=x;exact⟨_,e⟩
 |own y=>exact x
 |xd fs=>obtain⟨_,⟨_,_,_,e,_⟩,_⟩:=x;exact⟨_,e⟩
 |met f y=>exact⟨_,x⟩
 |Rj lo hi=>obtain⟨_,_,_,e⟩:=x;exact⟨_,e⟩
 |Ec ob u _=>exact⟨_,x.1⟩
 |JO ps=>exact⟨_,x⟩
 |ext φ=>exact x.2.1
theorem CD.there{P:Program}{h:Heap}(x:CD P w H h)(e:H a=some o):∃u,h.get? a=some u:=(x a o e).there
section
variable{E:XK}
def WA(C:Addr)(E:St->XK)(t:TA):TS:=λ_ Z H=>t Z H λvs H1=>vs.length<=1000/\E Z (.ref C) none H1
def Goes(X:Cx)(E:St->XK):Prop:=∀(Ze:ZGY)(Z:St)(H':Hp)(s':Shared)(ea C:Addr)(dx tb:Option Addr),Inv X Ze Z H' s'->Fl s'.heap ea (.ref C) dx tb->(H' ea=none/\X.s₀.heap.get? ea=none)->(∀T,tb=some T->H' T=none/\X.s₀.heap.get? T=none)->
 (∀p∈X.pn++Ze,p.1≠ea/\tb≠some p.1)->E Z (.ref C) dx H'->X.xe (.ref ea) s'
end
noncomputable abbrev IT(C t:Addr)(dx:Option Addr):Obj:={ cls:=.ref C,dict:=dx,data:=.fields #[.ref t,.none,.none,.none,.bool false,.none] }
section
variable{nm qn:Str}{N:Addr}{bs bm:List Value}{sub:List Value}{col:Option Bool}{dd:Option Addr}{k0 k1 k2 k3 k5:Option Value}{newId:String}
theorem sG{y:Sem Value}{Q:Flow->Shared->Prop}(e:bm.contains (.type "BaseException")=true)(hh:A.handled=none)
  (c:wpAny M A y (λv z=>∃ea t dx,v=.ref ea/\z.heap.get? C=some (excClassObj nm qn C N bs bm hdct sn sub ab col dd k0 k1 k2 k3 k5 newId)/\z.heap.get? ea=some (IT C t dx)/\E (.ref ea) z) E s) :
  wpAny M A (raiseStmt env (some y) none) Q E s:=by
 have h:(Value.ref C::bm).contains (.type "BaseException")=true:=by
  rw[ZEz,e,Bool.or_true]
 unfold raiseStmt;refine ko (rD c (λv z b=>?_) λ_ _ q=>q);obtain⟨ea,t,dx,rfl,a,oe,f⟩:=b;obtain⟨i,g,d,tk,os⟩:=z
 repeat (first
  |with_reducible refine ZAP oe ?_
  |with_reducible refine ZAP a ?_
  | (with_reducible refine wpAny_isSubtype_exc a ?_;rw[h])
  |wp_step)
 exact wpAny_raiseNew_none hh f
variable{h:Heap}{g:Array GenState}{d:Drawn}{t:Nat}{os:OsState}{B dE:String}
theorem ZBc(F:ExcBaseFacts B newId dE RU)(T:OwnTail h RU bm){Q:PySem.Fin->Shared->Prop}
  (a:h.get? C=some (excClassObj nm qn C N bs bm hdct sn sub ab col dd k0 k1 k2 k3 k5 newId)) (hn:h.Ns N mN) (hi:mN "__init__"=some (.ref fI)) (U5:h.get? fI=some oI) (O8:oI.cls=.type "function") (O4:us.length<=sizeLine)
  (m:∀h' ea,h.objs.size<=ea->Heap.MadeExcOf h h' ea (.ref C) us->wpAny (model prog w) A (call (.ref fI) (.ref ea::us)) (λr s'=>r=.none/\Q (.done (.ret (.ref ea))) s') E ⟨h',g,d,t,os⟩) :
  wpAny (model prog w) A (Builtin.«type.__call__» ⟨.ref C::us,[]⟩) Q E ⟨h,g,d,t,os⟩:=by
 repeat (first
  |with_reducible refine ZAP a ?_
  |with_reducible refine wpAny_madeBy_exc a ?_
  |wp_step)
 refine codeAny_call_builtin_code (Ym _ F.quiet) (wpAny_check_new_subT F T a ?_);refine codeAny_exc_new_subT F T a ?_ O4;show wpAny _ _ _ _ _ _;generalize i:({ cls:=.type "tuple", data:=.seq us.toArray }:Obj)=o1;generalize c:({ cls:=.ref C,data:=.fields #[.ref h.objs.size,.none,.none,.none,.bool false,.none] }:Obj)=o2;have up:∀{b:Addr}{o:Obj},h.get? b=some o->((h.push o1).push o2).get? b=some o:=λe=>BE _ (BE _ e);have g2:((h.push o1).push o2).get? (h.objs.size+1)=some o2:=by
  rw[<- E8 h o1];exact BY _ (by rw[<- c];rfl)
 have g1:((h.push o1).push o2).get? h.objs.size=some o1:=BE _ (BY h (by rw[<- i];rfl));have k:((h.push o1).push o2).Ns N mN:=hn.keeps λb o e=>up e;have f:=up a;have j:=up U5;have u:=T.keeps (h':=(h.push o1).push o2) λb o e=>up e;have s:(Value.ref C::bm).contains (.ref C)=true:=by simp
 have v:o2.cls=.ref C:=by rw[<- c]
 unfold isInstance;subst c
 repeat (first
  |with_reducible refine ZAP g2 ?_
  | (with_reducible refine wpAny_isSubtype_exc f ?_;rw[s])
  |wp_step)
 show wpAny _ _ (typeLookup (.ref C) _) _ _ _;refine wpAny_typeLookup_tail f k u F.mroIs F.init.lookup ?_;rw[hi];refine tL (ko ?_);unfold bindSpecial;refine ko (ZAA (T:="function") ⟨_,j,O8⟩ ?_);rw[o9 (by decide)];subst i;refine mD (ko (rD (m _ (h.objs.size+1) (E9 _) ⟨λb o n=>up n,OZ (E9 _),h.objs.size,g2,OZ (B4 _),g1⟩) (λr s' l=>?_) λ_ _ q=>q));obtain⟨rfl,p⟩:=l
 wp_walk
 exact p
theorem vY(F:ExcBaseFacts B newId dE RU)(T:OwnTail h RU bm)
  (a:h.get? C=some (excClassObj nm qn C N bs bm hdct sn sub ab col dd k0 k1 k2 k3 k5 newId)) (hn:h.Ns N mN) (hi:mN "__init__"=some (.ref fI)) (U5:h.get? fI=some oI) (O8:oI.cls=.type "function") (O4:us.length<=sizeLine)
  (b:∀h' ea,h.objs.size<=ea->Heap.MadeExcOf h h' ea (.ref C) us->wpAny (model prog w) (A.under (.builtin "type.__call__" ⟨.ref C::us,[]⟩)) (call (.ref fI) (.ref ea::us)) (λr s'=>r=.none/\Q (.ref ea) s') E ⟨h',g,d,t,os⟩) :
  wpAny (model prog w) A (call (.ref C) us) Q E ⟨h,g,d,t,os⟩:=by
 have f1:=tc_lookup;have c:=tc_bind (.ref C);have ty:(⟨h,g,d,t,os⟩:Shared).TypeIs (.ref C) "type" := ⟨_,a,rfl⟩;refine ZAg (ZBO ?_);show wpAny _ _ (callAny (.ref C) _) _ _ _
 repeat (any_goals (first
  |assumption
  |with_reducible refine ZAP a ?_
  |wp_step))
 refine⟨rfl,?_⟩;exact codeAny_call_builtin_at (Ym _ (by decide +kernel)) entry_typeCall (wpAny_check_type_call_sub a (ZBc F T a hn hi U5 O8 O4 b))
end
section
variable{K:ZGX}{x t:Addr}
noncomputable def Js:List Value->Bool
 | [.type a,.type b,.type c,.type d]=>a == "ValueError" && (b == "Exception" && (c == "BaseException" && d == "object"))
 | .ref _::r=>Js r
 |_=>false
theorem rN(self:Value):PySem.refuseLoop self "__setattr__" [.type "ValueError",.type "Exception",.type "BaseException",.type "object"]=pure ():=by
 first|rfl|kernel_rfl
theorem jO{l:List Value}(h:Js l=true):l=[.type "ValueError",.type "Exception",.type "BaseException",.type "object"]∨∃c r,l=.ref c::r/\Js r=true:=by
 unfold Js at h;split at h
 .simp only[CU,ZAV]at h;obtain⟨rfl,rfl,rfl,rfl⟩:=h;exact .inl rfl
 .exact .inr ⟨_,_,rfl,h⟩
 .cases h
theorem ZEO(self:Value):∀{l:List Value},Js l=true->PySem.refuseLoop self "__setattr__" l=pure ():=by
 intro l
 induction l with
 |nil=>intro h;cases h
 |cons x r a=>
  intro h;rcases jO h with e|⟨c,r',e,h'⟩
  .rw[e];exact rN self
  .cases e;rw[PySem.refuseLoop_ref];exact a h'
theorem ZDu:∀{l:List Value},Js l=true->l.contains (.type "object")=true:=by
 intro l
 induction l with
 |nil=>intro h;cases h
 |cons x r a=>
  intro h;rcases jO h with e|⟨c,r',e,h'⟩
  .rw[e];decide
  .cases e;rw[ZEz,a h',Bool.or_true]
def Ke(K:ZGX)(C:Addr):Bool:=(PySem.W.clsIn K C).any λcd=>Js cd.mro
section
open PySem.Builtin PySem.Builtin.ObjectAttr
theorem xu{R:Result->Shared->Prop}(X:K.In s.heap)(I:PySem.W.InstAt s.heap x ox C od)(l:Ke K C=true)(k:PySem.W.takerIn K C name=some r)
  (h:∀b,wpAny (model prog w) A.in1 (match r with|some a=>setByDescriptor a (.ref x) v|none=>storeInOwnDict (.ref x) (.ref C) (.str name tk) name v b)
   (λfin s'=>match fin with | .done f=>R (.ok f) s' | .again j=>j.quiet=true/\codeAny (model prog w) A j R s') (λe s'=>R (.error e) s') s) :
  codeAny (model prog w) A (.call (.builtin "object.__setattr__") ⟨[.ref x,.str name tk,v],[]⟩) R s:=by
 have d:=PySem.F.store_object;obtain⟨cd,i,ho⟩:=ZFV l;have ne:cd.mro.isEmpty=false:=by cases q:cd.mro with|nil=>rw[q]at ho;cases ho|cons _ _=>rfl
 have sub:PySem.W.Looks (model prog w) s.heap (isInstance (.ref x) (.type "object")) true:=I.type.andThen (PySem.W.looks_mroIn X (by unfold PySem.W.mroIn;rw[i,ZFO,mL (by rw[ne];decide),ZDu ho]));refine ZAd d.slot.plain d.entry (@PySem.W.check_slot (model prog w) _ _ s "object.__setattr__" "object" "__setattr__" (.ref x) [.str name tk,v] [] _ d.kind d.split sub (d.args (.ref x) (.str name tk) v) ?_);obtain⟨c,o,g⟩:=Option.bind_eq_some_iff.mp k;have m:PySem.W.Looks (model prog w) s.heap (mroOf (.ref C)) cd.mro:=(ZFa X i).andThen .now;have p:PySem.W.Looks (model prog w) s.heap (storeTaker? c) r:=by
  cases c with
  |none=>cases g;exact .now
  |some a=>
   obtain⟨b,n,rfl⟩:=Option.map_eq_some_iff.mp g;refine(PySem.W.looks_takesIn X n).andThen ?_;cases b <;> exact .now
 rw[PySem.W.osa_eq,PySem.refuse_eq];refine ko (ko (I.type.here (ko (m.here ?_))));rw[ZEO _ ho];refine mD (ko (I.type.here (ko ((PySem.W.looks_findIn X o).here (ko (p.here ?_))))));exact h _
end
theorem ZA9(h:Heap):(h.push { cls:=.type "dict", data:=.dict #[] }).Ns1 h.objs.size (λ_=>none):=by
 refine⟨_,#[],_,BY h rfl,rfl,?_⟩;refine⟨λe a=>?_,?_,λ_=>rfl⟩
 .simp at a
 .simp[UniqKeys]
theorem mF{Q:Unit->Shared->Prop}(X:K.In s.heap)(ho:s.heap.get? x=some (IT C t none))
  (m:PySem.W.findIn K (.ref C) "__setattr__"=some (some (.builtin "object.__setattr__"))) (n:Ke K C=true) (l:PySem.W.takerIn K C name=some none) (hh:PySem.W.hasDictIn K C=true)
  (h:∀h' d,s.heap.objs.size<=d->h'.get? x=some (IT C t (some d))->h'.Ns1 d (λy=>if y=name then some v else none)->(∀b o,b≠x->s.heap.get? b=some o->h'.get? b=some o)->s.heap.objs.size<=h'.objs.size->Q () { s with heap:=h',toks:=s.toks+2 }) :
  wpAny (model prog w) A (setAttr (.ref x) name v) Q E s:=by
 have J:PySem.W.InstAt s.heap x (IT C t none) C none:=⟨ho,rfl,rfl,trivial⟩;refine PySem.W.set_plain X J m (xu (s:={ s with toks:=s.toks+1 }) (r:=none) X J n l λb=>?_)
 obtain⟨cd,p,CT⟩:=ZFV hh;refine ko (mD (ko (ko (wpAny_loadPart ho (ko (PySem.W.Looks.here (s:={ s with toks:=s.toks+1 }) (ZFa X p) ?_))))))
 rw[CT,mL (by decide)];show wpAny _ _ (do
  let d <- alloc { cls:=Value.type "dict", data:=Data.dict #[] }
  update x λo=>{ o with dict:=some d }
  dictMade (Value.ref C) x d) _ _ _
 have i:x<s.heap.objs.size:=B9 ho;refine ko (wpAny_alloc (ko (wpAny_update (BE _ ho) ?_)));refine ko (mD (mD ?_));generalize a:((s.heap.push { cls:=Value.type "dict", data:=Data.dict #[] }).update x λo=>{ o with dict:=some s.heap.objs.size })=g
 have u:g.get? x=some (IT C t (some s.heap.objs.size)):=by
  rw[<- a];exact E7 _ (BE _ ho) rfl
 have z:∀b o,b≠x->s.heap.get? b=some o->g.get? b=some o:=λb o f e=>by
  rw[<- a,DN _ _ (BP f)];exact BE _ e
 have q:g.objs.size=s.heap.objs.size+1:=by rw[<- a,Rz,E8]
 have gd:g.Ns1 s.heap.objs.size (λ_=>none):=(ZA9 s.heap).at λo e=>by
  rw[<- a,DN _ _ (Bn i)];exact e
 refine ko (mD (ko ?_));refine wpAny_nsSet1 (s:=⟨g,s.gens,s.drawn,s.toks+1,s.os⟩) gd λh' J2 Gw=>?_;obtain⟨F,B,D,j,c,k⟩:=J2.count (PySem.Within.cons (ns:=[]) name v PySem.Within.nil);refine ko (wpAny_lookBehind j (by rw[c];exact pastItsLine_dict (Bz k (ZFN (CK _)))) ?_);exact mD (h h' s.heap.objs.size (B4 _) ((Gw.2 x (Bn i)).trans u) J2 (λb o f e=>(Gw.2 b (Bn (B9 e))).trans (z b o f e)) (by rw[Gw.1,q];exact E9 _))
end
def EC(ea C:Addr)(dx:Option Addr):HO:=.ext λh=>∃t,h.get? ea=some (IT C t dx)
theorem WY{P:Program}{h:Heap}{t:Addr}(e:h.get? ea=some (IT C t dx)):CO P w H h ea (EC ea C dx):=
 ⟨⟨t,e⟩,⟨_,e⟩,λ_ _⟨t',a⟩k=>⟨t',k _ a⟩⟩
theorem Inv.exc(I:Inv X Ze Z H s)(e:H ea=some (EC ea C dx)):∃t,s.heap.get? ea=some (IT C t dx):=(I.AW ea _ e).1
theorem Inv.ZAU{t:Addr}{dx':Option Addr}(I:Inv X Ze Z H s)(e:H ea=some (EC ea C dx))(k:∀b u,b≠ea->s.heap.get? b=some u->h'.get? b=some u)(a:h'.get? ea=some (IT C t dx')):
  Inv X Ze Z (upd H ea (EC ea C dx')) { s with heap:=h',toks:=t' }:=by
 have c:Nu (H ea):=by rw[e];trivial
 exact I.write c (.inl rfl) k ⟨_,a⟩ (WY a)
def PF:V->Prop
 | .str x=>(reprText x).length<=100000
 | .int i=>i.natAbs.log2<1920
 |_=>False
section
variable{p1 p2 p3:Pos}{k1 k2:Nat}{c1 c2:Str}
theorem wF{R:St->Hp->Prop}(d:PE X e te)(I:Inv X Ze Z H s)(h:te Z H λv H1=>PF v/\R Z H1)
  (b:∀y t s1 H1,y.length<=200000->Inv X Ze Z H1 s1->R Z H1->Q (.str y t) s1):wpAny (model X.prog X.w) X.A (eval (.FormattedValue e 114 none pos) X.env) Q X.xe s:=by
 refine wpAny_FormattedValue_repr (Aj (d Ze s Z H _ I h) λu s1⟨v,H1,I1,c,sv,a⟩=>?_);cases v with
 |str x=>
  obtain⟨t,rfl⟩:=c;have sz:(reprText x).length<=sizeLine:=Bz sv (by decide +kernel);refine wpAny_pyReprObj_str ?_ sz;refine wpAny_formatField_str ?_ ?_ sz
  .exact b _ _ _ H1 (Bz sv (by decide)) (I1.tok _) a
  .exact b _ _ _ H1 (Bz sv (by decide)) (I1.tok _) a
 |int i=>
  obtain⟨t,rfl⟩:=c;have l1:(Str.ofString (toString i)).length<=sizeLine:=int_text_fits sv;have f:i.natAbs.log2<1920:=sv;have l2:(Str.ofString (toString i)).length<=200000:=by
   have h1:i.natAbs<10 ^ 600:=by
    by_cases z:i.natAbs=0
    .rw[z];decide +kernel
    .exact Nat.lt_trans ((kR z).mp f) (by decide +kernel)
   have e:=int_text_length_le10 (k:=600) (by decide) h1;clear h1;rw[PySem.ofString_length];omega
  refine wpAny_pyReprObj_gives (typeIs_int _ i t) F.slot_int_repr F.entry_int_repr (F.args_int_repr_1 _) (gives_int_repr i t sv) ?_ rfl l1;refine wpAny_formatField_str ?_ ?_ l1
  .exact b _ _ _ H1 l2 (I1.tok _) a
  .exact b _ _ _ H1 l2 (I1.tok _) a
 |_=>exact sv.elim
def jm(te:TE):TE:=λZ H Q=>te Z H λv H1=>PF v/\∀y,Q (.str y) H1
theorem len_app(a b:Str):(a++b).length=a.length+b.length:=strLen_append a b
theorem Qq(b:PE X e te)(h1:c1.length<=1000):PE X (.JoinedStr [.Constant (.str c1) k1 p1,.FormattedValue e 114 none p2] pos) (jm te):=by
 intro Ze s Z H Q I h;have a:(Str.empty++c1).length<=1000:=by rw[len_app];show 0+_<=_;omega
 refine wpAny_JoinedStr (show wpAny _ _ (eval (.Constant (.str c1) k1 p1) X.env) _ _ s from λ_ _ _=>⟨c1,_,rfl,Bz a (by decide +kernel),?_⟩);refine wF (R:=λ_ H1=>∀y,Q (.str y) H1) b (I.tok _) h λy t s1 H1 d I1 c=>⟨y,t,rfl,?_,?_,?_⟩
 .rw[len_app];exact Bz (show _<=201000 by omega) (by decide +kernel)
 .rw[len_app];exact Bz (show _<=201000 by omega) (by decide +kernel)
 .exact⟨.str _,H1,I1.tok _,⟨_,rfl⟩,c _⟩
end
structure NS (K:ZGX) (S:Addr):Prop where
 ga:PySem.W.specialIn K (.ref S) "__getattribute__"=some (some (.builtin "type.__getattribute__"))
 rd:PySem.W.readsIn K S (.type "type")=true
 fd:PySem.W.findCls K (.ref S) (.type "type") "__init__"=some (.val (.builtin "ValueError.__init__"))
 hd:PySem.W.handedIn (.builtin "ValueError.__init__")=true
structure JL (K:ZGX) (C fI:Addr) (fld:Str):Prop where
 ex:El K C (some (.ref fI))=true
 sa:PySem.W.findIn K (.ref C) "__setattr__"=some (some (.builtin "object.__setattr__"))
 po:Ke K C=true
 tk:PySem.W.takerIn K C fld=some none
 hd:PySem.W.hasDictIn K C=true
 fn:PySem.W.isFn K (.ref fI)=true
 kp:PySem.W.keepIn K (.ref C)=true
theorem fZ{x:V}{xs:List V}(r:Vals (x::xs) us):∃u J6,us=u::J6/\RelV x u/\Vals xs J6:=by
 cases r with
 |cons a b=>exact⟨_,_,rfl,a,b⟩
theorem nW(h:H a=some o):upd H a o=H:=by
 funext b
 unfold upd;split
 .rename_i e;rw[e,h]
 .rfl
section
variable{fld:Str}
theorem yh{t:Addr}(I:Inv X Ze Z H s)(hx:H ea=some (EC ea C none))(q:El X.K C HY=true)
  (i:∀s',Inv X Ze Z H s'->Q .none s'):wpAny (model X.prog X.w) X.A (call (.builtin "ValueError.__init__") [.ref ea,u]) Q X.xe s:=by
 obtain⟨l,ho⟩:=I.exc hx;obtain⟨bm,N,nm,qn,bs,hdct,sn,sub,ab,col,dd,k0,k1,k2,k3,k5,mN,j,m,Ew,T⟩:=(OL I.CH q).obj;have F:=kZ;have n:H C=none:=by
  cases z:X.base.get? C with
  |some o=>exact(I.bs C o z).2
  |none=>
   obtain⟨_,_,_,_,_,_,_,_,_,_,_,_,_,_,_,_,_,c,_⟩:=(OL I.mod.Gj q).obj;rw[z]at c;cases c
 obtain⟨a,g,d,tk,os⟩:=s;refine ZAg (ZAd F.init.plain F.initEntry (wpAny_check_init_subT F T j ho rfl ?_))
 wp_walk
 refine i _ ?_;have f:=I.ZAU (h':=(a.push { cls:=Value.type "tuple", data:=Data.seq #[u] }).update ea (Obj.mapFields λx=>x.setIfInBounds 0 (Value.ref a.objs.size))) (t':=tk) (t:=a.objs.size) (dx':=none) hx (λb k h e=>by
  rw[DN _ _ (BP h)];exact BE _ e) (by
  rw[E7 _ (BE _ ho) rfl];rfl)
 rw[nW hx]at f;exact f
def iw(C:Addr)(t:TA):TE:=λZ H Q=>t Z H λvs H1=>∃ea v,vs=[.ref ea,v]/\H1 ea=some (EC ea C none)/\Q .AG H1
theorem PD{pl:Sem Bool}{apos:Pos}(sp:NS X.K S)(m:Gl X x)(l:X.mg x=some (.ref S))(q:El X.K C HY=true)(n:PA X (e::es) t)
  (BV:(x == ("__debug__":Str))=false:=by decide) (BQ:starEach (e::es) X.env=(false,eval e X.env)::starEach es X.env:=by rfl) (BF:(backTo pos (starEach es X.env)).any (·.1)=false:=by rfl)
  (ht:eval (.Call (.Attribute (.Name x p) "__init__" apos) (e::es) [] pos) X.env=(do
   let ov <- eval (.Name x p) X.env
   standAt apos.atName
   let (f,first) <- holding [ov] (getMethod ov "__init__" pl)
   callWith pos f first (backTo pos (starEach (e::es) X.env)) (backToKw pos (keywordEach [] X.env))):=by rfl) :
  PE X (.Call (.Attribute (.Name x p) "__init__" apos) (e::es) [] pos) (iw C t):=by
 intro Ze s Z H Q I h;refine PySem.W.methodCall_KW (pl:=pl) (K3 I m l ?_ BV) ht;refine PySem.W.method_cls I.CH sp.ga (PySem.W.cls_value I.CH sp.rd sp.fd sp.hd ?_);have a:=n pos Ze { s with toks:=s.toks+1 } Z H _ (I.tok _) h
 show wpAny _ _ (callWith pos (.builtin "ValueError.__init__") [] (backTo pos (starEach (e::es) X.env)) _) _ _ _;rw[BQ]at a ⊢;refine jv (by show(false || (backTo pos (starEach es X.env)).any (·.1))=false;rw[BF] <;> rfl) (jw ?_)
 refine Aj a λus s2⟨vs,H2,I2,k,ea,v,r,hx,o⟩=>?_;subst r;obtain⟨u1,c,rfl,g,j⟩:=fZ k;obtain⟨u2,b,rfl,d,i⟩:=fZ j;cases i;cases(show u1=Value.ref ea from g);exact yh (t:=ea) I2 hx q λs' I'=>⟨.AG,H2,I',rfl,o⟩
def Zv(C:Addr)(f:Str)(ta tv:TE):TS:=λD Z H=>tv Z H λy H1=>ta Z H1 λx H2=>∃ea,x=.ref ea/\H2 ea=some (EC ea C none)/\∀d,H2 d=none->D.nx Z (upd (upd H2 d (.xd [(f,y)])) ea (EC ea C (some d)))
theorem QQ{o value:Expr}{pos':Pos}{tv:TE}(c:JL X.K C fI fld)(E:PE X o ta)(w:PE X value tv)(B:swapsWith value (some (.Attribute o fld pos')) pos.line X.env=pure false):PS X (.Assign [.Attribute o fld pos'] value pos) (Zv C fld ta tv):=by
 intro Ze s Z H D I h;refine plainObj_wpAny_Assign_Attribute (Aj (w Ze s Z H _ I h) λu s1⟨y,H1,I1,p,q⟩=>Aj (E Ze s1 Z H1 _ I1 q) λv s2⟨x,H2,I2,r,ea,ex,hx,t⟩=>?_) B;subst ex;obtain rfl:v=Value.ref ea:=r;obtain⟨F,ho⟩:=I2.exc hx;refine mF I2.CH ho c.sa c.po c.tk c.hd λh' d hd l hn k G=>?_;have f:H2 d=none:=I2.AW.fresh hd;have J:d≠ea:=by rintro rfl;rw[hx]at f;cases f
 refine⟨Z,_,I2.un (t':=s2.toks+2) (h':=h') ⟨λb o e n _ _=>k b o (by rintro rfl;rw[hx]at n;cases n) e,λb o e n _ _=>⟨o.slots,k b o (by rintro rfl;rw[hx]at n;cases n) e⟩,λb o e n _=>?_,λb o e _=>?_,λb xs e=>?_,λb o' j e=>?_,λb ps e=>?_⟩ ?_,t d f⟩
 .rw[Az (by rintro rfl;rw[hx]at n;cases n),Az (by rintro rfl;exact absurd (B9 e) (Nat.not_lt.mpr hd))];exact n
 .by_cases z:b=ea
  .subst z;exact⟨_,l⟩
  .exact⟨o,k b o z e⟩
 .rw[Az (by rintro rfl;rw[hx]at e;cases e),Az (DU e f)];exact e
 .rw[Az (by rintro rfl;rw[hx]at e;cases e),Az (DU e f)];exact e
 .exact⟨#[],by rw[Az (by rintro rfl;rw[hx]at e;cases e),Az (DU e f),e];simp⟩
 .intro b o e
  by_cases z:b=ea
  .subst z;rw[AU]at e;cases e;exact WY l
  .rw[Az z]at e
   by_cases i:b=d
   .subst i;rw[AU]at e;cases e;refine⟨_,hn,λm=>?_⟩
    by_cases g:m=fld
    .subst g;rw[o9 rfl,List.lookup_cons_self];exact p
    .rw[mL g,Hs];rw[show(m == fld)=false from by simpa using g]
     exact trivial
   .rw[Az i]at e;refine(I2.AW b o e).Jb (λc j a A=>k c j ?_ A) (λc a=>?_) λc xs a=>?_
    .rcases a with rfl|a
     .exact z
     .rintro rfl;rw[hx]at a;cases a
    .rw[Az (by rintro rfl;rw[hx]at a;cases a),Az (DU a f)];exact a
    .rw[Az (by rintro rfl;rw[hx]at a;cases a),Az (DU a f)];exact a
end
def MQ(C:Addr)(fld:Str):Sp:=λvs H Q _=>∃(ea:Addr)(v:V),vs=[.ref ea,v]/\PF v/\H ea=some (EC ea C none)/\∀d,H d=none->Q .AG (upd (upd H d (.xd [(fld,v)])) ea (EC ea C (some d)))
def P8(C:Addr)(fld:Str)(E:St->XK)(t:TA):TS:=λ_ Z H=>t Z H λvs H1=>∃v,vs=[v]/\PF v/\∀d,H1 d=none->E Z (.ref C) (some d) (upd H1 d (.xd [(fld,v)]))
noncomputable def Ls(H:Hp)(a:Addr):Hp:=λb=>if b=a then none else H b
theorem QZ(h:b≠a):Ls H a b=H b:=mL h
theorem UI:Ls H a a=none:=o9 rfl
section
theorem Inv.forget(I:Inv X Ze Z H s){φ:Heap->Prop}(e:H a=some (.ext φ))(k:∀p∈X.pn++Ze,p.1≠a):Inv X Ze Z (Ls H a) s:=by
 have keep:∀b o,b≠a->H b=o->Ls H a b=o:=λb o h q=>by rw[QZ h];exact q
 have f:∀b,H b=none->Ls H a b=none:=λb q=>by
  by_cases z:b=a
  .subst z;exact UI
  .rw[QZ z];exact q
 refine⟨I.ok,I.os,I.bare,⟨I.base.keep,I.base.slot,λb o q n hx=>f b (I.base.free b o q n hx),I.base.there,λb xs q=>?_,λb o u q=>?_,λb ps q=>?_⟩,I.loc,I.cell,f _ I.free,λx c q=>f c (I.EL x c q),λp FZ=>?_,λb o q=>?_,I.len⟩
 .have z:=I.base.Gy b xs q;exact keep b _ (by rintro rfl;rw[e]at z;cases z) z
 .have z:=I.base.GB b o u q;exact keep b _ (by rintro rfl;rw[e]at z;cases z) z
 .obtain⟨m,z⟩:=I.base.Gn b ps q;exact⟨m,keep b _ (by rintro rfl;rw[e]at z;cases z) z⟩
 .obtain⟨h1,h2,j⟩:=I.pin p FZ;exact⟨h1,f _ h2,j⟩
 .have i:b≠a:=by rintro rfl;rw[UI]at q;cases q
  rw[QZ i]at q;refine(I.AW b o q).Jb (λc u _ g=>g) (λc d=>keep c _ (by rintro rfl;rw[e]at d;cases d) d) λc xs d=>keep c _ (by rintro rfl;rw[e]at d;cases d) d
variable{fld:Str}
end
section
variable{C:Value}
theorem Inv.dX(I:Inv X Ze Z H s)(BQ:X.stack=X.env::X.outer)(x:Fl s.heap ea C dx tb)(u1:H ea=none)(u2:X.s₀.heap.get? ea=none)(g:∀T,tb=some T->H T=none/\X.s₀.heap.get? T=none)
  (w:∀p∈X.pn++Ze,p.1≠ea/\tb≠some p.1)(kp:Kp (X.env::X.outer) ea tb s.heap h'):Inv X Ze Z H { s with heap:=h' }:=by
 obtain⟨oe,vs,L,_,_,F,_⟩:=x.obj;have mem:∀b,b∈Bc (X.env::X.outer)->b=X.env.locals∨b∈X.fs:=λb a=>by
  rw[<- BQ]at a;exact List.mem_cons.mp (I.OO b a)
 have E:∀b,b=X.env.locals∨b∈X.fs->b∈Bc (X.env::X.outer):=λb a=>by
  have d:X.env.frame=some X.env.locals:=by
   rcases I.ok.Ig with e|⟨_,d⟩
   .rw[e]at BQ;exact absurd (vF List.length BQ) (by simp)
   .exact d
  unfold Bc;rw[S9,d];rcases a with rfl|a
  .exact BZ
  .exact C5 _ a
 have f:∀b o,s.heap.get? b=some o->(∀vs,o.data≠.fields vs)->∃sl,h'.get? b=some { o with slots:=sl }:=λb o a hd=>by
  by_cases d:b∈Bc (X.env::X.outer)
  .exact kp.slot b o a d
  .refine⟨o.slots,kp.keep b o a d (by rintro rfl;rw[L]at a;cases a;exact hd _ F) λz=>?_⟩;obtain⟨_,oT,ts,M,EZ,_⟩:=x.ent b z;rw[M]at a;cases a;exact hd _ EZ
 have h:∀b o,s.heap.get? b=some o->H b≠none->h'.get? b=some o:=λb o a hn=>kp.keep b o a (λz=>hn (I.Q5 b (by rw[BQ];exact z))) (λz=>hn (z▸u1)) λz=>hn (g b z).1;have j:∀b o,X.s₀.heap.get? b=some o->b≠X.env.locals:=λb o a z=>absurd (B9 a) (Nat.not_lt.mpr (z▸I.ok.above));have D:∀c v,s.heap.IsCell c v->h'.IsCell c v:=λc v AM=>by
  obtain⟨o,ho,hd⟩:=AM;obtain⟨sl,h1⟩:=f c o ho (by rw[hd];intro vs z;cases z);exact⟨_,h1,hd⟩
 refine⟨I.ok,I.os,I.bare,⟨λb o a hn d hx=>?_,λb o a hn d hx=>?_,I.base.free,λb o a hx=>?_,I.base.Gy,I.base.GB,I.base.Gn⟩,?_,λy c q=>?_,I.free,I.EL,λp FZ=>?_,I.AW.iR λb u hn a=>h b u a hn,I.len⟩
 .exact kp.keep b o (I.base.keep b o a hn d hx) (λz=>(mem b z).elim (j b o a) d) (by rintro rfl;rw[u2]at a;cases a) λz=>by rw[(g b z).2]at a;cases a
 .obtain⟨sl,h1⟩:=I.base.slot b o a hn d hx;obtain⟨GC,h2⟩:=kp.slot b _ h1 (E b (.inr d));exact⟨GC,h2⟩
 .obtain⟨t,h1⟩:=I.base.there b o a hx
  by_cases d:b∈Bc (X.env::X.outer)
  .obtain⟨GC,h2⟩:=kp.slot b _ h1 d;exact⟨_,h2⟩
  .exact⟨t,kp.keep b t h1 d (by rintro rfl;rw[u2]at a;cases a) λz=>by rw[(g b z).2]at a;cases a⟩
 .obtain⟨m,⟨o,es,ep,ho,r⟩,K⟩:=I.loc;obtain⟨sl,h1⟩:=kp.slot _ _ ho (E _ (.inl rfl));refine⟨m,⟨_,es,ep,h1,r⟩,λi y v hi n J=>?_⟩;obtain⟨u,G,l⟩:=K i y v hi n J;refine⟨u,G,?_⟩;rcases l with l|⟨k,c,hc,ic⟩
  .exact .inl l
  .exact .inr ⟨k,c,hc,D c _ ic⟩
 .obtain⟨v,n⟩:=I.cell y c q;exact⟨v,D c v n⟩
 .obtain⟨h1,h2,B,A,N⟩:=I.pin p FZ;exact⟨kp.keep _ _ h1 (λz=>(mem _ z).elim B A) (w p FZ).1 (w p FZ).2,h2,B,A,N⟩
end
noncomputable abbrev Cx.Fy(X:Cx)(pn:ZGY)(xe:Value->Shared->Prop):Cx:={ X with pn:=pn,xe:=xe }
noncomputable abbrev Cx.Dk(X:Cx)(e:Value):Cx:={ X with A:=X.A.mark (some e),calm:=false,xe:=λ_ _=>False }
section
variable{dF:ZGY}{e:Value}
theorem Cx.Ok.Fy(ok:X.Ok):(X.Fy pn xe).Ok:=⟨ok.mod,ok.kind,ok.glob,ok.blt,ok.above,ok.inj,ok.has,ok.JG,ok.hd,ok.frames,ok.Ig,ok.KJ,ok.bs,ok.GO,ok.JF,ok.JH,ok.EW,ok.Hq⟩
theorem Cx.Ok.K7(ok:(X.Fy pn xe).Ok):X.Ok:=⟨ok.mod,ok.kind,ok.glob,ok.blt,ok.above,ok.inj,ok.has,ok.JG,ok.hd,ok.frames,ok.Ig,ok.KJ,ok.bs,ok.GO,ok.JF,ok.JH,ok.EW,ok.Hq⟩
theorem Cx.Ok.Dk(ok:X.Ok):(X.Dk e).Ok:=⟨ok.mod,ok.kind,ok.glob,ok.blt,ok.above,ok.inj,ok.has,ok.JG,λz=>(by cases z),ok.frames,ok.Ig,ok.KJ,ok.bs,ok.GO,ok.JF,ok.JH,ok.EW,ok.Hq⟩
theorem Inv.Fy(I:Inv X Ze Z H s):Inv (X.Fy (X.pn++Ze) xe) [] Z H s:=⟨I.ok.Fy,I.os,I.bare,I.base,I.loc,I.cell,I.free,I.EL,λp a=>I.pin p (by simpa using a),I.AW,I.len⟩
theorem Inv.K7(I:Inv (X.Fy (X.pn++Ze) xe) dF Z H s):Inv X Ze Z H s:=⟨I.ok.K7,I.os,I.bare,I.base,I.loc,I.cell,I.free,I.EL,λp a=>I.pin p (HF _ a),I.AW,I.len⟩
theorem Inv.Dk(I:Inv X Ze Z H s):Inv (X.Dk e) Ze Z H s:=⟨I.ok.Dk,I.os,I.bare,I.base,I.loc,I.cell,I.free,I.EL,I.pin,I.AW,I.len⟩
theorem Inv.RQ(ok:X.Ok)(I:Inv (X.Dk e) Ze Z H s):Inv X Ze Z H s:=⟨ok,I.os,I.bare,I.base,I.loc,I.cell,I.free,I.EL,I.pin,I.AW,I.len⟩
variable{body Dk:List Stmt}
end
def Mt(sp:Sp)(E:St->XK)(t:TA):TE:=λZ H Q=>t Z H λvs H1=>sp vs H1 Q (E Z)
def BS(P:Program)(w:World)(K:ZGX)(mg:ZGZ)(Zf:Heap)(x:Str)(k:Nat)(ps:List Str)(sp:Sp):Prop:=
 ∃f fd,D7 P w K mg Zf (GZ P w) k f fd ps sp/\Binds K fd ps []/\PySem.W.keepIn K (.ref f)=true/\mg x=some (.ref f)
section
variable{P:Program}{K:ZGX}{st:Stmt}
theorem BS.mk(F:AH K x qual st f fd)(b:Binds K fd ps [])(m:mg x=some (.ref f))(h:D7 P w K mg Zf (GZ P w) k f fd ps sp):BS P w K mg Zf x k ps sp:=⟨f,fd,h,b,F.kp,m⟩
variable{E:St->XK}
theorem Goes.kq(go:Goes X E)(i:∀b∈X.ex,∃p∈X.pn,p.1=b){e:Value}(I:Inv X Ze Z H s)(h:GZ X.prog X.w X.stack H s (E Z) e s'):X.xe e s':=by
 have Gr:∀a,s.heap.get? a=none->X.s₀.heap.get? a=none:=λa j=>by
  cases q:X.s₀.heap.get? a with
  |none=>rfl
  |some o=>
   by_cases hx:a∈X.ex
   .obtain⟨p,c,rfl⟩:=i a hx;have h1:=(I.pin p (HF _ c)).1;rw[j]at h1;cases h1
   .obtain⟨n,h1⟩:=I.base.there a o q hx;rw[j]at h1;cases h1
 obtain⟨ea,C,dx,tb,H',rfl,os,bare,un,AW,x,⟨u1,u2⟩,f,l⟩:=h;obtain⟨hh,g,d,t,KN⟩:=s';obtain rfl:KN=s.os:=os;have m:=I.call (h':=hh) (g':=g) (d':=d) (t':=t) (ch:=[]) un AW bare (λb z=>absurd z (by simp));refine go Ze Z H' _ ea C dx tb m x ⟨u1,Gr _ u2⟩ (λT k=>⟨(f T k).1,Gr _ (f T k).2⟩) (λp c=>⟨λz=>?_,λz=>?_⟩) l
 .have:=(I.pin p c).1;rw[z,u2]at this;cases this
 .have:=(I.pin p c).1;rw[(f _ z).2]at this;cases this
theorem rY(a:X.ex=[]):∀b∈X.ex,∃p∈X.pn,p.1=b:=λb c=>by rw[a]at c;cases c
theorem tq(h:BS X.prog X.w X.K X.mg X.base x k ps sp)(d:C2 j X.A)(i:k<=j)(go:Goes X E)(c:∀b∈X.ex,∃p∈X.pn,p.1=b)(n:PA X (e::es) t)(l:Gl X x:=by rfl)(BV:(x == ("__debug__":Str))=false:=by decide)
  (he:starEach (e::es) X.env=(false,eval e X.env)::starEach es X.env:=by rfl) (BF:(backTo pos (starEach es X.env)).any (·.1)=false:=by rfl) :
  PE X (.Call (.Name x p) (e::es) [] pos) (Mt sp E t):=by
 obtain⟨f,fd,F,b,kp,m⟩:=h;have F:=F.mono i;intro Ze s Z H Q I h;refine z5 (K3 I l m ?_ BV);refine kc (h₀:=X.base) I.ok.mod.Gj kp (Aj (n pos Ze s Z H _ I h) λus s1⟨vs,H1,I1,r,q⟩=>⟨I1.CH,?_⟩) he BF;have g:us.length=ps.length:=by rw[<- r.length];exact F.len _ _ _ _ q
 refine ZAg (ZAS (F.run X.A X.stack s1 H1 ⟨us,[]⟩ us vs Q (E Z) d I1.Ye (by have z:=b s1 us I1.CH (by rw[Hr];exact g);rw[Hr]at z;exact z) r q) λr s' a=>?_);cases r with
 |error e=>exact go.kq c I1 a
 |ok o=>
  cases o with
  |ret u=>exact I1.after a
  |next=>exact False.elim a
  |brk=>exact False.elim a
  |cont=>exact False.elim a
end
section
variable{P:Program}{K:ZGX}{E:XK}
theorem DP:Goes (Dz (GZ P w) P w K mg Zf N qual scope f cd A outer s H E) (λ_=>E):=λZe Z H' s' ea C dx tb I x u a _ b=>
 YZ.leave ⟨Ze,Z,H',ea,C,dx,tb,rfl,I,x,u,a,b⟩
theorem sU:PassesOwn (model P w) (Dz (GZ P w) P w K mg Zf N qual scope f cd A outer s H E).A (Dz (GZ P w) P w K mg Zf N qual scope f cd A outer s H E).env (Dz (GZ P w) P w K mg Zf N qual scope f cd A outer s H E).xe:=PassesOwn.leaving
end
theorem AH.Hb{P:Program}{K:ZGX}{st:Stmt}(F:AH K x qual st f fd)(S:Ay N ps (AS st))(len:∀vs H Q E,sp vs H Q E->vs.length=ps.length)
  (Kx:∀(AQ:Value)(A:Around)(outer:List Env)(s:Shared)(H:Hp)(vs:List V)(Q:VK)(E:XK),C2 k (A.deeper (envOfC qual (AS st) s.heap.objs.size f AQ))->sp vs H Q E->
   ∃t,GL (Dz (GZ P w) P w K mg Zf N qual (AS st) f AQ A outer s H E) (Iw st) t/\t { nx:=λ_ H'=>Q .AG H',rt:=Q } (start N vs) H):D7 P w K mg Zf (GZ P w) (k+1) f fd ps sp:=by
 obtain⟨e,od,kV,c,d,g,AQ,ct,G5,rfl,a,EX⟩:=F.ex;refine dU a EX S len λA outer s H vs Q E b Ea=>?_;obtain⟨t,h,q⟩:=Kx AQ A outer s H vs Q E b Ea;exact⟨t,h.h,q⟩
section
variable{i:Nat}{E:St->XK}{body Dk:List Stmt}{fld:Str}
theorem Ct(h:BS X.prog X.w X.K X.mg X.base x k ps sp)(c:C2 j X.A)(d:k<=j)(go:Goes X E)(a:X.ex=[])(b:QA X (e::es) t)(f:Gl X x:=by rfl)(BV:(x == ("__debug__":Str))=false:=by decide)
  (he:starEach (e::es) X.env=(false,eval e X.env)::starEach es X.env:=by rfl) (BF:(backTo pos (starEach es X.env)).any (·.1)=false:=by rfl):QE X (.Call (.Name x p) (e::es) [] pos) (Mt sp E t):=⟨by have b:=b.h;exact tq h c d go (rY a) b f BV he BF⟩
theorem fw(m:Gl X x)(a:X.mg x=some (.ref C))(q:El X.K C none=true)(n:X.calm=true)(d:X.ex=[])(go:Goes X E)(f:QA X (e0::es) t)
  (BV:(x == ("__debug__":Str))=false:=by decide) (he:starEach (e0::es) X.env=(false,eval e0 X.env)::starEach es X.env:=by rfl) (BF:(backTo Bf (starEach es X.env)).any (·.1)=false:=by rfl) :
  QS X (.Raise (some (.Call (.Name x np) (e0::es) [] Bf)) none pos) (WA C E t):=⟨by
 have f:=f.h;intro Ze s Z H D I h;have mk:∀h':Heap,X.K.In h'->gy h' C none:=λh' k=>OL k q;obtain⟨bm,N,nm,qn,bs,hdct,sn,sub,ab,col,dd,k0,k1,k2,k3,k5,mN,y,v,Ew,T⟩:=(OL (X:=I.mod.Gj) q).obj;refine wpAny_Raise_call_subT (C:=C) (nm:=nm) (q:=qn) (N:=N) (bs:=bs) (bm:=bm) (hdct:=hdct) (sn:=sn) (sub:=sub) (ab:=ab) (col:=col) (dd:=dd) (k0:=k0) (k1:=k1) (k2:=k2) (k3:=k3) (k5:=k5)
  kZ (mN:=mN) (T.hasType rfl) (I.ok.hd n) (by rw[he];show(false || (backTo Bf (starEach es X.env)).any (·.1))=false;rw[BF];rfl) Ew (K3 I m a ⟨rfl,?_⟩ BV)
 rw[he];have i:=f Bf Ze s Z H _ I h;rw[he]at i;refine jw (Aj i λus s2⟨vs,H2,I2,r,j,w⟩=>⟨rfl,?_,I2.bk _ _ y,v.keeps I2.bk,T.keeps I2.bk,λh' e a=>?_⟩)
 .rw[<- r.length];exact Bz j (by decide +kernel)
 .obtain⟨t',N4,Hw,_⟩:=a.there;have g:s2.heap.get? e=none:=a.new;have A:=I2.call (h':=h') (g':=s2.gens) (d':=s2.drawn) (t':=s2.toks) (ch:=[]) (Un.kept a.keeps) (I2.AW.kept a.keeps) I2.bare (λb z=>absurd z (by simp));refine go Ze Z H2 _ e C none none A ⟨⟨_,_,N4,rfl,rfl,rfl,by simp,rfl⟩,λT z=>by cases z⟩ ⟨?_,?_⟩ (λT z=>by cases z) (λp l=>⟨λz=>?_,by simp⟩) w
  .cases z:H2 e with
   |none=>rfl
   |some o=>obtain⟨u,c⟩:=I2.AW.there z;rw[g]at c;cases c
  .cases z:X.s₀.heap.get? e with
   |none=>rfl
   |some o=>obtain⟨u,c⟩:=I2.base.there e o z (by rw[d];simp);rw[g]at c;cases c
  .have:=(I2.pin p l).1;rw[z,g]at this;cases this⟩
theorem uo(c:JL X.K C fI fld)(hg:Gl X x)(σ:X.mg x=some (.ref C))(Fn:D7 X.prog X.w X.K X.mg X.base FK kk fI fd ["self", par] (MQ C fld))(hb:Binds X.K fd ["self", par] [])(V:C2 (kk+1) X.A)(n:X.calm=true)(hex:X.ex=[])(go:Goes X E)(q:QA X [e0] t)
  (BV:(x == ("__debug__":Str))=false:=by decide) (he:starEach [e0] X.env=(false,eval e0 X.env)::starEach [] X.env:=by rfl) (BF:(backTo Bf (starEach [] X.env)).any (·.1)=false:=by rfl) :
  QS X (.Raise (some (.Call (.Name x np) [e0] [] Bf)) none pos) (P8 C fld E t):=⟨by
 have q:=q.h;intro Ze s Z H D I h;obtain⟨bm,N,nm,qn,bs,hdct,sn,sub,ab,col,dd,k0,k1,k2,k3,k5,mN,G,hN,Ew,T⟩:=(OL I.mod.Gj c.ex).obj;rw[arm_exec_Raise];show wpAny _ _ (do standAt pos;raiseStmt X.env (some (do let v <- eval (.Call (.Name x np) [e0] [] Bf) X.env;standAt pos;pure v)) none) _ _ s
 refine ko (ZAW (sG (C:=C) (nm:=nm) (qn:=qn) (N:=N) (bs:=bs) (bm:=bm) (hdct:=hdct) (sn:=sn) (sub:=sub) (ab:=ab) (col:=col) (dd:=dd) (k0:=k0) (k1:=k1) (k2:=k2) (k3:=k3) (k5:=k5) (newId:="ValueError.__new__") (T.hasType rfl) (I.ok.hd n) (ko ?_)));refine z5 (K3 I hg σ ?_ BV);refine kc (h₀:=X.base) I.ok.mod.Gj c.kp (Aj (q Bf Ze s Z H _ I h) λus s1⟨vs,H1,I1,r,v,ev,sv,hE⟩=>⟨I1.CH,?_⟩) he BF;subst ev;obtain⟨u,rfl,Q⟩:=vals1 r;obtain⟨Y,g,d,tk,os⟩:=s1;have NC:∃oI,Y.get? fI=some oI/\oI.cls=.type "function" := by
  have z:=beq_iff_eq.mp c.fn;unfold PySem.W.typeIn at z;obtain⟨o,ho,n⟩:=Option.map_eq_some_iff.mp z;exact⟨o,I1.CH _ _ ho,n⟩
 obtain⟨oI,U,PZ⟩:=NC;refine vY kZ (T.keeps I1.bk) (I1.bk _ _ G) (hN.keeps I1.bk) Ew U PZ (by show 1<=sizeLine;decide +kernel) λh' ea NG T9=>?_;obtain⟨t',N4,_,_⟩:=T9.there;have L:H1 ea=none:=I1.AW.fresh NG;have B:Inv X Ze Z (upd H1 ea (EC ea C none)) ⟨h',g,d,tk,os⟩:=I1.laid (t':=tk) T9.keeps NG (WY N4);have S:MQ C fld ([.ref ea,v]++[]) (upd H1 ea (EC ea C none)) (λw H3=>w=.AG/\∃d,H1 d=none/\d≠ea/\H3=upd (upd (upd H1 ea (EC ea C none)) d (.xd [(fld,v)])) ea (EC ea C (some d))) E0:=
  ⟨ea,v,rfl,sv,AU,λd hd=>by
   have j:d≠ea:=by rintro rfl;rw[AU]at hd;cases hd
   rw[Az j]at hd;exact⟨rfl,d,hd,j,rfl⟩⟩
 refine ZAg (ZAS (Fn.run _ X.stack _ _ ⟨[.ref ea,u],[]⟩ [.ref ea,u] [.ref ea,v] _ E0 (V.make C [u] []) (B.Ye.make C [u] []) (hb _ [.ref ea,u] B.CH rfl) (.cons rfl (.cons Q .nil)) S) λR s' i=>?_);cases R with
 |error e=>exact False.elim i
 |ok fl=>
  cases fl with
  |ret O=>
   obtain⟨w3,H3,I3,l,ew,f,m,j,eH⟩:=B.after i;subst ew;subst eH;cases(show O=Value.none from l);refine⟨rfl,ko (ZAW (mD ?_))⟩;obtain⟨P,F⟩:=I3.exc (C:=C) (dx:=some f) AU;refine⟨ea,P,some f,rfl,I3.bk _ _ G,F,?_⟩;have J:∀p∈X.pn++Ze,p.1≠ea:=λp FZ z=>by
    have:=B9 (I1.pin p FZ).1;rw[z]at this;exact absurd this (Nat.not_lt.mpr NG)
   have M:=I3.forget (a:=ea) AU J;have y:Ls (upd (upd (upd H1 ea (EC ea C none)) f (.xd [(fld,v)])) ea (EC ea C (some f))) ea=upd H1 f (.xd [(fld,v)]):=by
    funext b
    by_cases z:b=ea
    .subst z;rw[UI,Az (BP j),L]
    .rw[QZ z,Az z]
     by_cases k:b=f
     .subst k;rw[AU,AU]
     .rw[Az k,Az k,Az z]
   rw[y]at M;refine go Ze Z _ s' ea C (some f) none M ⟨⟨_,_,F,rfl,rfl,rfl,by simp,rfl⟩,λT z=>by cases z⟩ ⟨by rw[Az (BP j)];exact L,?_⟩ (λT z=>by cases z) (λp FZ=>⟨J p FZ,by simp⟩) (hE f m);exact OZ (Bz I1.sz NG)
  |next=>exact False.elim i
  |brk=>exact False.elim i
  |cont=>exact False.elim i⟩
end
section
variable{K:ZGX}{x:Addr}{fill expr:Bool}
variable{f:Str}
def cS(K:ZGX):List V->Hp->VK->Prop:=λxs H Q=>LH K xs H Q∨∃(a:Addr)(n:String)(o:Obj)(b:Bool),xs=[.ref a,.ty n]/\K.lookup a=some o/\o.cls=.type "tuple" /\ PySem.W.kitOne K (.type "tuple") (.type n)=some b/\Q (.bl b) H
theorem gW:Cc X (.builtin "isinstance") (cS X.K):=by
 intro Ze s Z H xs us Q I r h;rcases h with h|⟨a,n,o,b,rfl,hk,hc,e,q⟩
 .exact ML Ze s Z H xs us Q I r h
 .obtain⟨u,c,rfl,f,d⟩:=vals2 r;cases f;cases d;exact HG ZFZ I.CH ⟨o,I.CH a o hk,hc⟩ e (λz=>nomatch z) λtk=>⟨.bl b,H,I.tok tk,rfl,q⟩
end
end L2
namespace Fz
open L2 Lw
variable{a:Addr}{xs:List PV}{E:Ent0}{ss:List Slot}{Z:L2.St}{F F' H H':Hp}{ta tb tc te:TE}{k:PV->Prop}{nx:List Slot->Prop}{R:B6}
structure Co (K:ZGX) (a:Addr) (xs:List PV):Prop where
 Ic:xs.all flat=true
 sq:∀H,AN K H a (xs.map Fz.enc)
 ob:∃o:Obj,K.lookup a=some o/\o.cls=.type "tuple"
theorem Co.of{K:ZGX}{vs:List V}(h:∀H,AN K H a vs)(e:xs.map Fz.enc=vs)(f:xs.all flat=true):Co K a xs:=by
 subst e;refine⟨f,h,?_⟩;rcases h (λ_=>none)with h|⟨o,A5,n,h1,h2,_⟩
 .rcases h with h|⟨_,h⟩
  .cases h
  .cases h
 .exact⟨o,h1,h2⟩
theorem Co.dat{K:ZGX}{d:Nat}(h:Co K a xs)(hd:∀x∈xs,dat K d x):dat K (d+1) (.con a xs):=⟨hd,h.Ic,h.sq⟩
section
variable[Xw]
variable{K:ZGX}{v:V}{tp:Bool}
theorem Iv(xs:List PV)(b:k (.con a xs)):Wp ss (tC (.ref a)) k:=⟨λE Z F H Q S q=>q _ _ F H (.refl S) .con b⟩
theorem ZEp{k:List PV->Prop}(h:Wp ss te λp=>∃a xs,p=.con a xs/\Co K a xs/\k xs):Wi ss (R1 K te) k:=⟨λE Z F H R S q=>
 h.go E Z F H _ S λv p F1 H1 d r AM=>by
  obtain⟨a,xs,e,b,kk⟩:=AM;subst e;cases r.inv;refine⟨true,a,xs.map Fz.enc,rfl,b.sq H1,q _ xs F1 H1 d ⟨λss Z F H i s S hi=>⟨b.sq H,by rw[Ae];exact hi⟩,λss Z F H s S=>⟨b.sq H,by rw[Ae];exact B4 _⟩,λss Z F H i x H' s S hi y=>?_⟩ kk⟩;obtain⟨e,hx⟩:=y;subst e;obtain⟨p,f,c⟩:=(Y0 (F:=F) b.Ic).get' hx;exact⟨p,F,f,.refl S,c⟩⟩
theorem XU{n:String}(h:Wp ss te λp=>(∃b,PySem.W.kitOne K (JI p) (.type n)=some b/\k (.bl b))∨∃a xs b,p=.con a xs/\Co K a xs/\PySem.W.kitOne K (.type "tuple") (.type n)=some b/\k (.bl b)):Wp ss (DB (cS K) (BC te (BC (tC (.ty n)) Bj))) k:=⟨λE Z F H Q S q=>
 h.go E Z F H _ S λv p F1 H1 d r h=>by
  rcases h with⟨b,c,kk⟩|⟨a,xs,b,e,f,c,kk⟩
  .exact .inl ⟨v,n,_,b,rfl,r.jS d.st.fh c,c,q _ _ F1 H1 d (.bl _) kk⟩
  .subst e;cases r.inv;obtain⟨o,h1,h2⟩:=f.ob;exact .inr ⟨a,n,o,b,rfl,h1,h2,c,q _ _ F1 H1 d (.bl _) kk⟩⟩
end
theorem ZBa{α:Type}(xs:List α){i j:Nat}(hi:i<=j)(a:j<=xs.length):EA xs (some (i:Int)) (some (j:Int))=(xs.drop i).take (j - i):=by
 unfold EA;rw[HT.JM,HT.JM,Ht a,Ht (Bz hi a)]
theorem R4(ns:List Str)(x:Str):(ns.filter λy=>!alike (.str y) (.str x))=wo ns x:=by
 unfold wo alike;rfl
section
variable[Xw]
variable{F1:Hp}{K:ZGX}{js:List Nat}{ti:TE}
def BL:Option Str->PV
 |none=>.AG
 |some x=>.str x
theorem Tq(ns:List Str)(r:Str)(g:Nat)(cs:List Str):Hu ns r g cs=.tup [BL (CI ns g cs),Cz r (Hz ns g cs) (Iy ns g cs)]:=by
 unfold Hu Hz Iy CI;cases Cg ns g cs with
 |nil=>rfl
 |cons x t=>rfl
end
end Fz
namespace Fz
open L2 Lw
variable{E:Ent0}{AV ss:List Slot}{Z σ':L2.St}{F F' H H':Hp}{te:TE}{k:PV->Prop}{v:V}{nx:List Slot->Prop}{R:B6}{j n:Nat}{vs:List V}{Q:VK}{X:XK}
abbrev EE:=List Slot->B6->(Ex->Prop)->Prop
def C7(pre:EE):Sp:=λvs H Q X=>∃(ss:List Slot)(R:B6)(D:Ex->Prop)(F:Hp)(A:List Addr),pre ss R D/\Sg (E3 A F H) ss (vs.map some) F H/\(∀v F' H',Fin (E3 A F H) F' H'->R.ok (E3 A F H) F' H' v->Q v H')/\
 ∀(x:Ex)(C:Value)(dx:Option Addr)F' H',Fin (E3 A F H) F' H'->D x->x.at F' C dx->X C dx H'
@[reducible] def fE (X:XK) (D:Ex->Prop):Xw:=⟨λ_=>X,λ_=>True,D⟩
@[reducible] def M6 (E:Ent0) (J:List Slot->Prop) (D:Ex->Prop):Xw:=⟨λZ C dx H=>∃ss F x,J ss/\Sg E ss Z F H/\D x/\x.at F C dx,J,D⟩
def pR:PV->Prop
 | .str x=>(reprText x).length<=100000
 | .int i=>i.natAbs.log2<1920
 |_=>False
section
variable[Xw]
variable{pre:EE}{t:TA}{K:ZGX}{C S:Addr}{fld:Str}
theorem Eb(h:Wa ss t λl=>∃c D,pre l (.is c) D/\Xw.J ss/\(∀x,D x->Xw.D x)/\∀p,c p->k p):Wp ss (Mt (C7 pre) Xw.e t) k:=⟨λE Z F H Q S q=>
 h.go E Z F H _ S λvs l F1 H1 b a⟨c,D,g,i,j,kk⟩=>by
  refine⟨l,.is c,D,F1,[],g,b.st.O2 a,λv F' H' f⟨p,r,kp⟩=>?_,λx C dx F' H' f d Ds=>?_⟩
  .exact q v p F' H' (b.trans (b.st.back (λ_ h=>absurd h Bb) f)) r (kk p kp)
  .exact E.hx ss Z F' H' x C dx i (b.st.back (λ_ h=>absurd h Bb) f).st (j x d) Ds⟩
theorem cn(h:We ss t λps=>ps.length<=1000/\Xw.J ss/\Xw.D ⟨C,[],[]⟩):Ws ss (WA C Xw.e t) nx R:=⟨λE D Z F H S hn f=>
 h.go E Z F H _ S λvs ps F1 H1 a rs AM=>by obtain⟨b,c,d⟩:=AM;exact⟨by rw[rs.length];exact b,E.hx ss Z F1 H1 ⟨C,[],[]⟩ (.ref C) none c a.st d ⟨rfl,.inl ⟨rfl,rfl,rfl⟩⟩⟩⟩
theorem Gz(h:Wp ss te λp=>pR p/\Xw.J ss/\Xw.D ⟨C,[fld],[p]⟩):Ws ss (P8 C fld Xw.e (BC te Bj)) nx R:=⟨λE D Z F H S hn g=>
 h.go E Z F H _ S λv p F1 H1 b r AM=>by
  obtain⟨sp,c,f⟩:=AM;refine⟨v,rfl,?_,λd hd=>?_⟩
  .cases r <;> first|exact sp|exact sp.elim
  .have a:=b.st.alloc hd (.xd [(fld,v)]);exact E.hx ss Z _ _ ⟨C,[fld],[p]⟩ (.ref C) (some d) c a.st f ⟨rfl,.inr ⟨d,[v],rfl,AU,rfl,.cons (r.mono a.ff) .nil⟩⟩⟩
end
section
variable{pre:EE}
theorem Hg{N:List Str}{t:TS}(h:C7 pre vs H Q X)(g:∀ss R D,pre ss R D->ss.length=n)
  (hw:∀ss R D,pre ss R D->let _i:Xw:=fE X D;Ws (ss++List.replicate (N.length - n) .any) t (λ_=>∃k,R=.is k/\k .AG) R):t { nx:=λ_ H'=>Q .AG H',rt:=Q } (L2.start N vs) H:=by
 obtain⟨ss,R,D,F,A,a,S,q,b⟩:=h;have e:vs.length=n:=by have:=S.len;rw[Ae]at this;rw[<- this];exact g ss R D a
 unfold L2.start;rw[e];letI:Xw:=fE X D;refine(hw ss R D a).go ⟨E3 A F H,λAV σ' F' H' x C dx _ S' d Ds=>b x C dx F' H' S'.toFin d Ds⟩ _ _ F H (S.grown _) (λAV σ' F' H'⟨k,e,c⟩S' _=>?_) λv F' H' f ok=>q v F' H' f ok;subst e;exact q .AG F' H' S'.toFin ⟨.AG,.AG,c⟩
theorem Hn(b:∀ss R D,pre ss R D->ss.length=n)(h:C7 pre vs H Q X):vs.length=n:=by
 obtain⟨ss,R,D,F,A,a,S,q⟩:=h;have:=S.len;rw[Ae]at this;rw[<- this];exact b ss R D a
noncomputable abbrev Ent0.at(E:Ent0)(F:Hp):Ent0:=⟨E.A,F,E.H0,E.B⟩
theorem Fin.un(S:Fin E F H)(f:Fin (E.at F) F' H'):Fin E F' H':=⟨f.fh,S.f0.trans f.f0,f.keep,λa o e=>(f.fresh a o e).elim (λe=>S.fresh a o e) .inr,f.HH,f.Lz,f.a0,f.bF,f.bH,f.b0⟩
theorem Ok.un{G:Hp}{s:Slot}{o:Option (Option V)}:Ok (E.at G) F H s o↔Ok E F H s o:=by
 cases s with
 |sq tp xs=>cases tp <;> exact Iff.rfl
 |_=>exact Iff.rfl
theorem Sg.un(S:Sg E ss Z F H)(S':Sg (E.at F) AV σ' F' H'):Sg E AV σ' F' H':=⟨S.toFin.un S'.toFin,S'.len,λi s hi=>Ok.un.mp (S'.ok i s hi),S'.DS⟩
theorem Sg.ql(S:Sg E ss Z F H):Sg (E.at F) ss Z F H:=⟨⟨S.fh,AE.refl _,S.keep,λ_ _ e=>.inl e,S.HH,S.Lz,S.a0,S.bF,S.bH,S.b0⟩,S.len,λi s hi=>Ok.un.mpr (S.ok i s hi),S.DS⟩
theorem B6.un{G:Hp}(h:R.ok (E.at G) F H v):R.ok E F H v:=by
 cases R <;> exact h
end
end Fz
namespace L2
variable{C S:Addr}{X:Cx}{x:Str}{np pos:Pos}
noncomputable def Rg(s:Stmt):Stmt:=match s with
 | .ClassDef _ _ _ (d::_) ..=>d
 |s=>s
def Gx(P:Program)(w:World)(K:ZGX)(mg:ZGZ)(Zf:Heap)(C:Addr)(fld:Str):Prop:=
 ∃(fI:Addr)(fd:FuncData)(par:Str),JL K C fI fld/\D7 P w K mg Zf FK 1 fI fd ["self", par] (MQ C fld)/\Binds K fd ["self", par] []
theorem Rf{fld:Str}{a b:Str}:∀vs H Q E,MQ C fld vs H Q E->vs.length=[a,b].length:=λvs H Q E h=>by obtain⟨ea,v,rfl,_⟩:=h;rfl
theorem Qf{fld:Str}{vs:List V}{H:Hp}{Q:VK}{E:XK}{N:List Str}(a:N.length=2)(h:MQ C fld vs H Q E):
  Km (Kq (iw C (BC (Cp 0) (BC (jm (Cp 1)) Bj)))) (Km (Zv C fld (Cp 0) (Cp 1)) Pb) { nx:=λ_ H'=>Q .AG H',rt:=Q } (start N vs) H:=by
 obtain⟨ea,v,rfl,sv,hx,q⟩:=h;have e0:(start N [V.ref ea,v])=[some (.ref ea),some v]:=by
  unfold start;simp[a]
 rw[e0];refine⟨_,rfl,_,rfl,sv,λy=>⟨ea,_,rfl,hx,?_⟩⟩;refine⟨_,rfl,_,rfl,ea,rfl,hx,λd hd=>q d hd⟩
theorem Gb:Goes X (λ_=>E0):=λ_ _ _ _ _ _ _ _ _ _ _ _ _ h=>h.elim
section
variable{fld:Str}{E:St->XK}{Bf:Pos}{e0:Expr}{t:TA}{j:Nat}
theorem K9(c:Gx X.prog X.w X.K X.mg X.base C fld)(f:Gl X x)(d:X.mg x=some (.ref C))(b:C2 j X.A)(e:2<=j)(g:X.calm=true)(a:X.ex=[])(go:Goes X E)(i:QA X [e0] t)
  (BV:(x == ("__debug__":Str))=false:=by decide) (he:starEach [e0] X.env=(false,eval e0 X.env)::starEach [] X.env:=by rfl) (BF:(backTo Bf (starEach [] X.env)).any (·.1)=false:=by rfl) :
  QS X (.Raise (some (.Call (.Name x np) [e0] [] Bf)) none pos) (P8 C fld E t):=by
 obtain⟨fI,fd,par,k,Fn,h⟩:=c;exact uo k f d Fn h (b.mono e) g a go i BV he BF
end
def So(K:ZGX)(S:Addr)(tb:(St->XK)->TS)(th:TS):TS:=λD Z H=>∃E1:St->XK,tb E1 D Z H/\
 ∀ σ1 C dx ea H1,E1 σ1 (.ref C) dx H1->H1 ea=none->PySem.W.exmOne K (.ref C) (.ref S)=some true/\th D σ1 H1
section
variable{body Dk:List Stmt}{b0:Stmt}{JK:Pos}{ME:(St->XK)->TS}{th:TS}
theorem wU(BQ:X.stack=X.env::X.outer)(N:X.ex=[])(M:Gl X x)(J:X.mg x=some (.ref S))
  (j:∀(pn:ZGY)(xe:Value->Shared->Prop)(E1:St->XK),Goes (X.Fy pn xe) E1->GL (X.Fy pn xe) body (ME E1))
  (hh:∀e,GL (X.Dk e) (b0::Dk) th) (BV:(x == ("__debug__":Str))=false:=by decide) :
  QS X (.Try body [.ExceptHandler (some (.Name x np)) none (b0::Dk) JK] [] [] pos) (So X.K S ME th):=⟨by
 have j:=λpn xe E1 g=>(j pn xe E1 g).h;have hh:=λe=>(hh e).h;intro Ze s Z H D I h;obtain⟨E1,h1,h2⟩:=h;have B:X.env.frame=some X.env.locals:=by
  rcases I.ok.Ig with e|⟨_,B⟩
  .rw[e]at BQ;exact absurd (vF List.length BQ) (by simp)
  .exact B
 refine wpAny_Try_except ?_;refine rD (j (X.pn++Ze) _ E1 ?_ [] s Z H D I.Fy h1) (λf s1 q=>?_) (λe s1 q=>q)
 .intro dF σ1 H1 s1 ea C dx tb I1 E ⟨u1,u2⟩ k i Q;have c:Inv X Ze σ1 H1 s1:=I1.K7;have u2:X.s₀.heap.get? ea=none:=u2;have k:∀T,tb=some T->H1 T=none/\X.s₀.heap.get? T=none:=k;have i:∀p∈X.pn++Ze,p.1≠ea/\tb≠some p.1:=λp q=>i p (HF _ q);refine bc (outer:=X.outer) (L:=X.env.locals) (by rw[<- BQ];exact c.ok.frames) (Zf:=X.base) (by rw[<- BQ];exact c.stack) B E λh' T kp a n=>?_;have m:=c.dX BQ E u1 u2 k i kp;obtain⟨LY,Kb⟩:=h2 σ1 C dx ea H1 Q u1;refine wpAny_handleBy_cons ?_ (λz=>by cases z);refine codeAny_handlers_test ?_;refine K3 (X:=X.Dk (.ref ea)) m.Dk M J ?_ BV;obtain⟨oe,vs,O,P,hd,K0,hz,h3⟩:=n.obj;have V:PySem.W.Looks (model X.prog X.w) h' (typeOf (.ref ea)) (.ref C):=by
   rw[<- P];exact(PySem.W.Looks.ld O).andThen .now
  refine(PySem.W.exm_one (K:=X.K) m.CH V LY).here ?_;refine codeAny_handlers_suite ?_;have R:∀b∈Bc (X.env::X.outer),∃o,h'.get? b=some o/\∀vs,o.data≠.fields vs:=λb j=>by
   have st:=m.stack;rw[BQ]at st;obtain⟨_,o,ho,hn⟩:=st.mem j;exact⟨o,ho,hn⟩
  refine Zm (s:={ s1 with heap:=h' }) (l:=X.env::X.outer) n R λh4 G σ=>?_
  have t:∀T',some T=some T'->H1 T'=none/\X.s₀.heap.get? T'=none:=λT' U=>by
   cases U;exact a.elim (λa=>⟨c.AW.fresh a,OZ (Bz c.sz a)⟩) (k T)
  have A:∀p∈X.pn++Ze,p.1≠ea/\some T≠some p.1:=λp q=>⟨(i p q).1,λz=>a.elim (λa=>by
   have F:=B9 (c.pin p q).1;rw[<- Be z]at F;exact absurd F (Nat.not_lt.mpr a)) λy=>(i p q).2 (y.trans z)⟩
  have Y:=m.dX BQ n u1 u2 t A G;refine rD (hh (.ref ea) Ze _ _ _ D Y.Dk Kb) (λf s7 q=>?_) (λ_ _ z=>z.elim);cases f with
  |next=>
   obtain⟨σ7,H7,I7,d⟩:=q;exact⟨_,_,I7.RQ I.ok,d⟩
  |brk=>
   obtain⟨σ7,H7,I7,d⟩:=q;exact⟨_,_,I7.RQ I.ok,d⟩
  |cont=>
   obtain⟨σ7,H7,I7,d⟩:=q;exact⟨_,_,I7.RQ I.ok,d⟩
  |ret u=>
   obtain⟨v,σ7,H7,I7,r,d⟩:=q;exact⟨v,_,_,I7.RQ I.ok,r,d⟩
 .cases f with
  |next=>
   obtain⟨σ7,H7,I7,d⟩:=q;exact ZAT ⟨_,_,I7.K7,d⟩
  |brk=>
   obtain⟨σ7,H7,I7,d⟩:=q;exact⟨_,_,I7.K7,d⟩
  |cont=>
   obtain⟨σ7,H7,I7,d⟩:=q;exact⟨_,_,I7.K7,d⟩
  |ret u=>
   obtain⟨v,σ7,H7,I7,r,d⟩:=q;exact⟨v,_,_,I7.K7,r,d⟩⟩
end
end L2
namespace Fz
open L2 Lw
variable{ss:List Slot}{ta tc te ti:TE}{k:PV->Prop}{a acc:List (Option Str)}{cs ns:List Str}{neg tp:Bool}{r x:Str}{F:Hp}{nx:List Slot->Prop}{R:B6}{S:Addr}{xs:List PV}{i j m n:Nat}{d':Ag}{e:Ex}{g:Int}{α:Type}
section
variable[Xw]
variable{K:ZGX}{a:Addr}
theorem og(c:Co K a (ns.map .str))(h:Wp ss ta λp=>∃x,p=.str x/\k (.bl (if neg then !decide (x∈ns)else decide (x∈ns)))):Wp ss (Bk (HW K neg) ta (tC (.ref a))) k:=⟨λE Z F H Q S q=>
 h.go E Z F H _ S λv p F1 H1 d b AM=>by
  obtain⟨x,e,kk⟩:=AM;subst e;cases b.inv;have sq:=c.sq H1;rw[Y3]at sq;refine⟨a,ns.map V.str,rfl,.inr sq,rfl,II ns,?_⟩;rw[Pw];exact q _ _ F1 H1 d (.bl _) kk⟩
end
noncomputable def NN(r:Str):Bool:=decide (r∈([("none":Str), "ahead","all"]))
theorem qG(h:x.length<=100)(hx:∀c∈x.cps.toList,c<16 ^ 8):(reprText x).length<=100000:=by
 have:=PySem.StrLaws.reprText_len x hx;omega
theorem yN(h:Nm x):(reprText x).length<=100000:=qG (Bz h.2.1 (by decide)) λc a=>FR (h.2.2 c a).2 (by decide)
noncomputable def KD(ns ts:List Str):Bool:=if decide (Up ts)=true then(ts.map λx=>decide (x∈ns)).all id else false
def Xj:Pre:=λl R=>∃(tp:Bool)(ns ts:List Str),l=[.sq tp (ns.map .str),.is (.tup (ts.map .str))]/\ts.length<64/\R=.is λp=>p=.bl (KD ns ts)
def JZ:PV->Bool
 | .AG=>true
 |_=>false
theorem Rep.JZ{v:V}{p:PV}(r:Rep F v p):decide (v=.AG)=JZ p:=by
 cases r <;> rfl
section
variable[Xw]
variable{tb:TE}
theorem Pj(h:Wp ss ta λp=>Wp ss tb λq=>q=.AG/\k (.bl (JZ p))):Wp ss (Bk (λx y H Q=>y=.AG/\Q (.bl (decide (x=.AG))) H) ta tb) k:=⟨λE Z F H Q S q=>
 h.go E Z F H _ S λv p F1 H1 a c h2=>h2.go E Z F1 H1 _ a.st λf p2 F2 H2 d b AM=>by
  obtain⟨e,kk⟩:=AM;subst e;cases b.inv;refine⟨rfl,?_⟩;rw[c.JZ];exact q _ _ F2 H2 (a.trans d) (.bl _) kk⟩
theorem ZBF(h:Wp ss ta λp=>Wp ss tb λq=>q=.AG/\k (.bl (!JZ p))):Wp ss (Bk (λx y H Q=>y=.AG/\Q (.bl (!decide (x=.AG))) H) ta tb) k:=⟨λE Z F H Q S q=>
 h.go E Z F H _ S λv p F1 H1 a c h2=>h2.go E Z F1 H1 _ a.st λf p2 F2 H2 d b AM=>by
  obtain⟨e,kk⟩:=AM;subst e;cases b.inv;refine⟨rfl,?_⟩;rw[c.JZ];exact q _ _ F2 H2 (a.trans d) (.bl _) kk⟩
variable{K:ZGX}{t u:TE}{pre:EE}{tA:TA}
theorem ZAl(h:Wp ss t k):Wp ss (Ue t u) k:=⟨λE Z F H Q S q=>.inl (h.go E Z F H Q S q)⟩
theorem ZB4(h:Wp ss u k):Wp ss (Ue t u) k:=⟨λE Z F H Q S q=>.inr (h.go E Z F H Q S q)⟩
theorem mh(h:Wq ss ta λtp xs=>tp=true/\∃ns:List Str,xs=ns.map PV.str/\Wp ss tb λp=>∃x,p=.str x/\x∈ns/\k (.int (ns.idxOf x:Nat))):Wp ss (LN K "tuple" (eG K) ta (BC tb Bj)) k:=⟨λE Z F H Q S q=>
 h.go E Z F H _ S λv tp xs F1 H1 b sv⟨g,ns,e,h2⟩=>by
  subst e;subst g;obtain⟨l,vs,rfl,f,r⟩:=sv.seq b.st;refine⟨.inr (.inr (.inr (.inr ⟨rfl,_,f⟩))),h2.go E Z F1 H1 _ b.st λm p2 F2 H2 a c⟨x,i,hx,kk⟩=>?_⟩;subst i;cases c.inv;obtain⟨n,EN,j,EM,d⟩:=(sv.mv a).seq a.st;cases j;rw[d.strs]at EM;exact⟨l,ns,x,rfl,rfl,AN.of EM,hx,q _ _ F2 H2 (b.trans a) (.int _) kk⟩⟩
theorem Zs(h:Wp ss te λp=>∃x,p=.str x/\x.length<=1000/\k (.bl (isNm x))):Wp ss (EK NF [] E0 (BC te Bj)) k:=⟨λE Z F H Q S q=>
 h.go E Z F H _ S λv p F1 H1 a r AM=>by
  obtain⟨x,e,hx,kk⟩:=AM;subst e;cases r.inv;exact⟨x,rfl,hx,λH3 s=>q _ _ F1 H3 (a.trans (a.st.grow s)) (.bl _) kk⟩⟩
theorem dH(h:Wp ss ta λp=>∃x,p=.str x/\Wp ss tb λq=>∃y,q=.str y/\x.length+y.length<=100000/\k (.str (x++y))):Wp ss (Bk (λx y H Q=>∃i j,x=.str i/\y=.str j/\i.length+j.length<=sizeLine/\Q (.str (i++j)) H) ta tb) k:=⟨λE Z F H Q S q=>
 h.go E Z F H _ S λv p F1 H1 a c⟨x,e,h2⟩=>h2.go E Z F1 H1 _ a.st λl p2 F2 H2 d b⟨y,g,f,kk⟩=>by
  subst e;subst g;cases c.inv;cases b.inv;exact⟨x,y,rfl,rfl,Bz f (by decide +kernel),q _ _ F2 H2 (a.trans d) (.str _) kk⟩⟩
theorem J3{k:List PV->Prop}(h:Wa ss tA λl=>∃c D,pre l (.new c) D/\Xw.J ss/\(∀x,D x->Xw.D x)/\∀xs,c xs->k xs):Wn ss (Mt (C7 pre) Xw.e tA) k:=⟨λE Z F H Q S q=>
 h.go E Z F H _ S λvs l F1 H1 b a⟨c,D,i,m,n,kk⟩=>by
  refine⟨l,.new c,D,F1,[],i,b.st.O2 a,λv F' H' f⟨l,vs,xs,e,o,j,EM,r,g⟩=>?_,λx C dx F' H' f d Ds=>?_⟩
  .subst e;exact q l vs xs F' H' (b.trans (b.st.back (λ_ h=>absurd h Bb) f)) o (b.none j) EM r (kk xs g)
  .exact E.hx ss Z F' H' x C dx m (b.st.back (λ_ h=>absurd h Bb) f).st (n x d) Ds⟩
end
section
variable[Xw]
variable{K:ZGX}{tb:(L2.St->XK)->TS}{th:TS}
theorem xE(J:List Slot->Prop)(Dx:Ex->Prop)(i:∀E:Ent0,@Ws (M6 E J Dx) ss (tb (M6 E J Dx).e) nx R)
  (hh:∀OP x,J OP->Dx x->PySem.W.exmOne K (.ref x.C) (.ref S)=some true/\Ws OP th nx R):Ws ss (So K S tb th) nx R:=⟨λE D Z F H S0 hn b=>by
 refine⟨(M6 (E.toEnt0.at F) J Dx).e,@Ws.go (M6 (E.toEnt0.at F) J Dx) _ _ _ _ (i (E.toEnt0.at F)) (@Ent.mk (M6 (E.toEnt0.at F) J Dx) (E.toEnt0.at F) λss Z F H x C dx a S d Ds=>⟨ss,F,x,a,S,d,Ds⟩) D Z F H S0.ql (λAV σ' F' H' n S' ff=>hn AV σ' F' H' n (S0.un S') ff) (λv F' H' f ok=>b v F' H' (S0.toFin.un f) (B6.un ok)),λσ1 C dx ea H1 h NG=>?_⟩;obtain⟨OP,F1,x,a,S1,j,k,Ds⟩:=h;obtain⟨Nx,hw⟩:=hh OP x a j;cases k;have c:=S0.un S1;exact⟨Nx,hw.go E D _ _ _ c (λEh σ2 F3 H3 g S2 ff=>hn _ _ F3 H3 g S2 (S1.f0.trans ff)) λv F' H' f ok=>b v F' H' f ok⟩⟩
end
inductive AX where
 |put (x:Str) (i:Int)|take (x:Str)|move (x:Str) (i:Int)|turn (lo hi:Int)
variable{d:AX}
def aP:AX->PV
 | .put x i=>.tup [.str "put",.str x,.int i]
 | .take x=>.tup [.str "take",.str x]
 | .move x i=>.tup [.str "move",.str x,.int i]
 | .turn lo hi=>.tup [.str "turn",.int lo,.int hi]
structure BH where
 noName:Addr
 there:Addr
 gone:Addr
 Jc:Addr
 full:Addr
variable{c:BH}
noncomputable def Io(C:Addr)(nm:Str):Ex:=⟨C,["name"],[.str nm]⟩
noncomputable def ID(C:Addr)(i:Int):Ex:=⟨C,["at"],[.int i]⟩
def Sq(C:Addr):Ex:=⟨C,[],[]⟩
def inR(i:Int)(lo hi:Int):Prop:=lo<=i/\i<=hi
instance {i lo hi:Int}:Decidable (inR i lo hi):=by unfold inR;infer_instance
def AX.Ap(c:BH)(ns:List Str):AX->Option Ex
 | .put x i=>if isNm x=false then some (Io c.noName x)else if x∈ns then some (Io c.there x)else if ¬ inR i 0 ns.length then some (ID c.Jc i)else if 40<=ns.length then some (Sq c.full)else none
 | .take x=>if x∉ns then some (Io c.gone x)else none
 | .move x i=>if x∉ns then some (Io c.gone x)else if ¬ inR i 0 (ns.length - 1)then some (ID c.Jc i)else none
 | .turn lo hi=>if ¬ inR lo 0 ns.length then some (ID c.Jc lo)else if ¬ inR hi lo ns.length then some (ID c.Jc hi)else none
def FN(x:Str):Prop:=(reprText x).length<=100000/\x.length<=1000
def HB(i:Int):Prop:=i.natAbs.log2<1920
def AX.say:AX->Prop
 | .put x i=>FN x/\HB i
 | .take x=>FN x
 | .move x i=>FN x/\HB i
 | .turn lo hi=>HB lo/\HB hi
def AX.Is(d:AX)(ns:List Str)(d':Ag):Prop:=aP d=dP d'/\d'.Ok 40 ns
theorem kl{c:Nat}(h:KP c=true):97<=c/\c<=122:=by
 refine ZEx λhn=>?_;have e:∀i,i<26->HR.cps.extract i (i+1)=#[97+i]:=by decide +kernel
 have a:∀i,i+(Str.length ⟨#[c]⟩)<=HR.length->Builtin.Str.subAt HR ⟨#[c]⟩ i=false:=λi hi=>by
  have d:i+1<=26:=hi;show(HR.cps.extract i (i+1) == #[c])=false;rw[e i (by omega)];cases b:(#[97+i] == #[c])with
  |false=>rfl
  |true=>
   have q:=eq_of_beq b;simp at q;exact absurd ⟨by omega,by omega⟩ hn
 unfold KP at h;rw[PySem.W.occ_nil_of_no _ _ 1 a]at h;exact absurd h (by decide)
theorem sD(h:isNm x=true):Nm x:=by
 unfold isNm at h;simp only[CU,oE,Fo]at h;obtain⟨h1,h2,b⟩:=h;exact⟨by omega,by omega,λc a=>kl (b c a)⟩
theorem AX.good(h:d.Ap c ns=none):∃d':Ag,d.Is ns d':=by
 cases d with
 |put x i=>
  simp only[AX.Ap]at h;split at h
  .cases h
  .next h1=>
   split at h
   .cases h
   .next h2=>
    split at h
    .cases h
    .next h3=>
     split at h
     .cases h
     .next h4=>
      have f:inR i 0 ns.length:=Decidable.not_not.mp h3;obtain⟨a,b⟩:=f;obtain⟨n,rfl⟩:=Jh a;refine⟨.put x n,rfl,sD (by cases e:isNm x <;> simp_all),h2,by omega,by omega⟩
 |take x=>
  simp only[AX.Ap]at h;split at h
  .cases h
  .next h1=>exact⟨.take x,rfl,(Decidable.not_not.mp h1:x∈ns)⟩
 |move x i=>
  simp only[AX.Ap]at h;split at h
  .cases h
  .next h1=>
   split at h
   .cases h
   .next h3=>
    have f:inR i 0 (ns.length - 1):=Decidable.not_not.mp h3;obtain⟨a,b⟩:=f;obtain⟨n,rfl⟩:=Jh a;exact⟨.move x n,rfl,Decidable.not_not.mp h1,by omega⟩
 |turn lo hi=>
  simp only[AX.Ap]at h;split at h
  .cases h
  .next h1=>
   split at h
   .cases h
   .next h3=>
    have j:inR lo 0 ns.length:=Decidable.not_not.mp h1;have f:inR hi lo ns.length:=Decidable.not_not.mp h3;obtain⟨a,b⟩:=j;obtain⟨g,k⟩:=f;obtain⟨n,rfl⟩:=Jh a;obtain⟨m,rfl⟩:=Jh (Int.le_trans a g);exact⟨.turn n m,rfl,by omega,by omega⟩
noncomputable def Gg:Ag->AX
 | .put x i=>.put x i
 | .take x=>.take x
 | .move x i=>.move x i
 | .turn lo hi=>.turn lo hi
theorem bK{d:Ag}(h:d.Ok 40 ns):(Gg d).Ap c ns=none:=by
 cases d with
 |put x i=>
  obtain⟨h1,h2,b,a⟩:=h;simp only[Gg,AX.Ap];rw[mL (by rw[ZCQ h1];decide),mL h2,mL (Decidable.not_not.mpr ⟨by omega,by omega⟩),mL (by omega)]
 |take x=>simp only[Gg,AX.Ap];rw[mL (Decidable.not_not.mpr (show x∈ns from h))]
 |move x i=>
  obtain⟨h1,h2⟩:=h;simp only[Gg,AX.Ap];rw[mL (Decidable.not_not.mpr h1),mL (Decidable.not_not.mpr ⟨by omega,by omega⟩)]
 |turn lo hi=>
  obtain⟨h1,h2⟩:=h;simp only[Gg,AX.Ap];rw[mL (Decidable.not_not.mpr ⟨by omega,by omega⟩),mL (Decidable.not_not.mpr ⟨by omega,by omega⟩)]
theorem NA:¬ Str.ofString "put"=Str.ofString "move" := by decide +kernel
theorem ZB8{i:Int}(h:i.natAbs<2 ^ 1000):HB i:=by
 unfold HB
 by_cases z:i.natAbs=0
 .rw[z];decide
 .have:=(kR z).mpr h;omega
theorem UA(h:i<=1000000):HB i:=ZB8 (by
 have:(1000000:Nat)<2 ^ 1000:=by decide +kernel
 show Int.natAbs (i:Int)<_;rw[Int.natAbs_natCast];omega)
theorem NO(h:Nm x):FN x:=⟨yN h,by have:=h.2.1;omega⟩
theorem AX.Vc(h:d.say)(e:d.Is ns d'):∀x,d'=.take x∨(∃i,d'=.move x i)->FN x:=by
 rintro x(rfl|⟨i,rfl⟩)
 .have q:=e.1;cases d with
  |take y=>simp[aP,dP]at q;subst q;exact h
  |_=>simp[aP,dP]at q
 .have q:=e.1;cases d with
  |move y j=>simp[aP,dP]at q;rw[<- q.1];exact h.1
  |put y j=>simp[aP,dP]at q;exact absurd q.1 NA
  |_=>simp[aP,dP]at q
def Kk(C:Addr):EE:=λl R D=>∃(tp:Bool)(ns:List Str)(x:Str),l=[.sq tp (ns.map .str),.is (.str x)]/\FN x/\(R=.is λp=>x∈ns/\p=.int (ns.idxOf x:Nat))/\D=λe=>x∉ns/\e=Io C x
def Xl(c:BH):EE:=λl R D=>∃(tp:Bool)(ns:List Str)(x:Str)(i:Int),l=[.sq tp (ns.map .str),.is (.str x),.is (.int i)]/\(FN x/\HB i)/\(R=.is λp=>(AX.put x i).Ap c ns=none)/\D=λe=>(AX.put x i).Ap c ns=some e
def Xc(c:BH):EE:=λl R D=>∃(tp:Bool)(ns:List Str)(x:Str)(i:Int),l=[.sq tp (ns.map .str),.is (.str x),.is (.int i)]/\(FN x/\HB i)/\(R=.is λp=>(AX.move x i).Ap c ns=none)/\D=λe=>(AX.move x i).Ap c ns=some e
def Ti(c:BH):EE:=λl R D=>∃(tp:Bool)(ns:List Str)(lo hi:Int),l=[.sq tp (ns.map .str),.is (.int lo),.is (.int hi)]/\(HB lo/\HB hi)/\(R=.is λp=>(AX.turn lo hi).Ap c ns=none)/\D=λe=>(AX.turn lo hi).Ap c ns=some e
def WL(c:BH):EE:=λl R D=>∃(tp:Bool)(ns:List Str)(d:AX),l=[.sq tp (ns.map .str),.is (aP d)]/\d.say/\(R=.is λp=>d.Ap c ns=none)/\D=λe=>d.Ap c ns=some e
def Wh:Pre:=λl R=>∃(g i:Nat),l=[.is (.int g),.is (.int i)]/\R=.is λp=>p=.int (Cd i g:Nat)
def XT:Pre:=λl R=>∃(g i:Nat),l=[.is (.int g),.is (.int i)]/\R=.is λp=>p=.int (FA i g:Nat)
def UO:Pre:=λl R=>∃(tp:Bool)(ns:List Str)(g:Int),l=[.sq tp (ns.map .str),.is (.int g)]/\R=.is λp=>p=.bl (decide (inR g 0 ns.length))
def YB:Pre:=λl R=>∃(tp:Bool)(ns:List Str)(g:Nat)(d:Ag),l=[.sq tp (ns.map .str),.is (.int g),.is (dP d)]/\d.Ok 40 ns/\(∀x,d=.take x∨(∃i,d=.move x i)->FN x)/\R=.is λp=>p=.int (d.gap ns g:Nat)
def Xg(c:BH):EE:=λl R D=>∃(tp:Bool)(ns:List Str)(d:AX),l=[.sq tp (ns.map .str),.is (aP d)]/\d.say/\ns.length<=40/\(R=.new λxs=>∃d':Ag,d.Is ns d'/\xs=(d'.done ns).map .str)/\D=λe=>d.Ap c ns=some e
def Ww:Pre:=λl R=>∃(tp:Bool)(ns:List Str)(x:Str)(i:Nat),l=[.sq tp (ns.map .str),.is (.str x),.is (.int i)]/\ns.length<=1000/\R=.new λxs=>xs=(ins ns x i).map .str
def YY:Pre:=λl R=>∃(tp:Bool)(ns:List Str)(x:Str),l=[.sq tp (ns.map .str),.is (.str x)]/\ns.length<=1000/\R=.new λxs=>xs=(wo ns x).map .str
def Vv:Pre:=λl R=>∃(tp:Bool)(ns:List Str)(lo hi:Nat),l=[.sq tp (ns.map .str),.is (.int lo),.is (.int hi)]/\ns.length<=1000/\lo<=hi/\hi<=ns.length/\R=.new λxs=>xs=(C0 ns lo hi).map .str
theorem ZB2{k:Nat}(h:k<ns.length):∃x,x∈ns/\L2.BU (ns.map PV.str) (k:Int)=some (.str x):=
 ⟨ns[k],Ik h,IA (by rw[Bt,C4 h];rfl)⟩
def Lm(c:BH)(e:Ex)(j:Nat)(v:PV):Prop:=(j=0/\∃x,v=.str x/\e=Io c.noName x)∨(j=1/\∃x,v=.str x/\e=Io c.there x)∨(j=2/\∃x,v=.str x/\e=Io c.gone x)∨(j=3/\∃i,v=.int i/\e=ID c.Jc i)∨(j=9/\v=.AG/\e=Sq c.full)
def uK(c:BH)(ns:List Str)(d:AX)(p:PV):Prop:=(d.Ap c ns=none/\p=.AG)∨∃e j v,d.Ap c ns=some e/\Lm c e j v/\p=.tup [.int (j:Nat),v]
theorem qY(h:d.Ap c ns=some e):∃j v,Lm c e j v:=by
 cases d with
 |put x i=>
  simp only[AX.Ap]at h;split at h
  .cases h;exact⟨0,_,.inl ⟨rfl,x,rfl,rfl⟩⟩
  .split at h
   .cases h;exact⟨1,_,.inr (.inl ⟨rfl,x,rfl,rfl⟩)⟩
   .split at h
    .cases h;exact⟨3,_,.inr (.inr (.inr (.inl ⟨rfl,i,rfl,rfl⟩)))⟩
    .split at h
     .cases h;exact⟨9,_,.inr (.inr (.inr (.inr ⟨rfl,rfl,rfl⟩)))⟩
     .cases h
 |take x=>
  simp only[AX.Ap]at h;split at h
  .cases h;exact⟨2,_,.inr (.inr (.inl ⟨rfl,x,rfl,rfl⟩))⟩
  .cases h
 |move x i=>
  simp only[AX.Ap]at h;split at h
  .cases h;exact⟨2,_,.inr (.inr (.inl ⟨rfl,x,rfl,rfl⟩))⟩
  .split at h
   .cases h;exact⟨3,_,.inr (.inr (.inr (.inl ⟨rfl,i,rfl,rfl⟩)))⟩
   .cases h
 |turn lo hi=>
  simp only[AX.Ap]at h;split at h
  .cases h;exact⟨3,_,.inr (.inr (.inr (.inl ⟨rfl,lo,rfl,rfl⟩)))⟩
  .split at h
   .cases h;exact⟨3,_,.inr (.inr (.inr (.inl ⟨rfl,hi,rfl,rfl⟩)))⟩
   .cases h
theorem is_none(h:d.Is ns d'):d.Ap c ns=none:=by
 obtain⟨e,hd⟩:=h;have:d=Gg d':=by
  cases d <;> cases d' <;> simp[aP,dP]at e <;> first|(exact absurd e.1 NA)|(exact absurd e.1.symm NA)|(obtain⟨a,b⟩:=e;subst a;subst b;rfl)|(subst e;rfl)
 rw[this];exact bK hd
theorem Is.ot(h:d.say)(e:d.Is ns d'):(∀x,d'=.take x->FN x)/\∀x i,d'=.move x i->FN x:=⟨λx q=>AX.Vc h e x (.inl q),λx i q=>AX.Vc h e x (.inr ⟨i,q⟩)⟩
def Uz(c:BH):Pre:=λl R=>∃(ns:List Str)(d:AX),l=[.sq false (ns.map .str),.is (aP d)]/\d.say/\R=.is (uK c ns d)
noncomputable def Em(r:Str)(g:Int)(cs:List Str):PV:=.tup [.str r,.int g,.tup (cs.map .str)]
def GQ(ns:List Str)(r:Str)(g:Int)(cs:List Str):Bool:=NN r && (decide (inR g 0 ns.length) && KD ns cs)
theorem uc(h:KD ns cs=true):Up cs/\∀x∈cs,x∈ns:=by
 unfold KD at h;split at h
 .next c=>
  refine⟨mP c,λx hx=>?_⟩;rw[Fo]at h;exact mP (h _ (List.mem_map.mpr ⟨x,hx,rfl⟩))
 .cases h
theorem wq(h:Up cs)(h2:∀x∈cs,x∈ns):KD ns cs=true:=by
 unfold KD;rw[o9 (mG h),Fo];intro b a;obtain⟨x,hx,rfl⟩:=List.mem_map.mp a;exact mG (h2 x hx)
theorem nR(h:GQ ns r g cs=true):∃n:Nat,g=n/\BK ns r n cs:=by
 unfold GQ at h;rw[CU,CU]at h;obtain⟨h1,h2,c⟩:=h;have h2:inR g 0 ns.length:=mP h2;obtain⟨a,b⟩:=h2;obtain⟨n,rfl⟩:=Jh a;obtain⟨u,v⟩:=uc c;exact⟨n,rfl,⟨mP h1,a,b,u,v⟩⟩
theorem Yb(h:BK ns r n cs):GQ ns r n cs=true:=by
 unfold GQ NN;rw[mG (show r∈([("none":Str), "ahead","all"])from h.rule),mG (show inR n 0 ns.length from⟨h.g0,h.g1⟩),wq h.up h.sub];rfl
section
variable[Xw]
variable{K:ZGX}{tb:TE}
theorem vG{k:List PV->Prop}(h:Wp ss ta λp=>∃cs:List Str,p=.tup (cs.map .str)/\Wp ss tb λq=>∃ys:List Str,q=.tup (ys.map .str)/\ys≠[]/\(cs++ys).length<64/\∀BW:List Str,BW.Perm (cs++ys)->sortedS BW=true->k (BW.map PV.str)):Wn ss (DB (Ui K) (BC (Bk (fq K) ta tb) Bj)) k:=⟨λE Z F H Q S q=>
 h.go E Z F H _ S λv p F1 H1 i r⟨cs,e,h2⟩=>h2.go E Z F1 H1 _ i.st λA p2 F2 H2 d o⟨ys,y,u,j,kk⟩=>by
  subst e;subst y;cases r with
  |@tup a vs _ f1 s1=>
   cases o with
   |@tup b ws _ m s2=>
    rw[s1.strs]at f1;rw[s2.strs]at m;rw[Bi]at j;refine⟨a,b,_,_,rfl,rfl,AN.of (d.st.fh _ _ (d.ff _ _ f1)),AN.of (d.st.fh _ _ m),λz=>u (by simpa using z),small (by rw[Ae,Ae];omega),λc H3 s l=>?_⟩
    have f:=d.st.grow s;rw[<- D6]at l;refine⟨c,true,cs++ys,rfl,l,by rw[Bi];exact j,λa BW g x w=>?_⟩;have t:=f.st.make g (.lst (BW.map V.str));have n:=i.trans (d.trans f);exact q a _ _ F2 _ (n.trans t) (f.st.Cw g) (n.none g) AU (KZ BW) (kk BW x w)⟩
end
def UD(C:Addr)(ns:List Str)(r:Str)(g:Int)(cs:List Str)(e:Ex):Prop:=GQ ns r g cs=false/\e=Sq C
def YM:Pre:=λl R=>∃(tp:Bool)(ns:List Str)(r:Str)(g:Int)(cs:List Str),l=[.sq tp (ns.map .str),.is (Em r g cs)]/\cs.length<64/\R=.is λp=>p=.bl (GQ ns r g cs)
def RX(C:Addr):EE:=λl R D=>∃(tp:Bool)(ns:List Str)(r:Str)(g:Int)(cs:List Str),l=[.sq tp (ns.map .str),.is (Em r g cs)]/\cs.length<64/\(R=.is λp=>GQ ns r g cs=true)/\D=UD C ns r g cs
def QP:Pre:=λl R=>∃(tp:Bool)(ns:List Str)(r:Str)(g:Int)(cs:List Str),l=[.sq tp (ns.map .str),.is (Em r g cs)]/\ns.length<=1000/\R=.new λxs=>xs=(ns.filter (DR cs)).map .str
def XS(C:Addr):EE:=λl R D=>∃(tp:Bool)(ns:List Str)(r:Str)(g:Int)(cs:List Str),l=[.sq tp (ns.map .str),.is (Em r g cs)]/\cs.length<64/\ns.length<=1000/\(R=.new λxs=>∃n:Nat,g=n/\BK ns r n cs/\xs=(Cg ns n cs).map .str)/\D=UD C ns r g cs
def P0:Pre:=λl R=>∃(cs:List Str)(x:Str),l=[.is (.tup (cs.map .str)),.is (.str x)]/\cs.length<=1000/\R=.is λp=>p=.tup ((wo cs x).map .str)
def Ut:Pre:=λl R=>∃(tp:Bool)(ns:List Str)(r:Str)(g:Nat)(cs:List Str)(x:Str),l=[.sq tp (ns.map .str),.is (Em r g cs),.is (.str x)]/\cs.length<=1000/\FN x/\x∈ns/\R=.is λp=>p=Cz r (ns.idxOf x+1) (wo cs x)
def VG(C:Addr):EE:=λl R D=>∃(tp:Bool)(ns:List Str)(r:Str)(g:Int)(cs:List Str),l=[.sq tp (ns.map .str),.is (Em r g cs)]/\cs.length<64/\ns.length<=1000/\(∀x∈ns,FN x)/\(R=.is λp=>∃n:Nat,g=n/\BK ns r n cs/\p=Hu ns r n cs)/\D=UD C ns r g cs
def VU:Pre:=λl R=>∃(r:Str)(g i:Nat)(xs:List PV),l=[.is (.tup (.str r :: .int g::xs)),.is (.int i)]/\R=.is λp=>p=.bl (Bp r g i)
def YC:Pre:=λl R=>∃(r:Str)(g:Nat)(cs:List Str)(d:Ag),l=[.is (Em r g cs),.is (dP d)]/\cs.length<=60/\Up cs/\(∀x i,d=.put x i->x∉cs)/\R=.is λp=>p=.tup ((d.HZ r g cs).map .str)
def Te:Pre:=λl R=>∃(tp:Bool)(ns:List Str)(r:Str)(g:Nat)(cs:List Str)(d:Ag),l=[.sq tp (ns.map .str),.is (Em r g cs),.is (dP d)]/\d.Ok 40 ns/\BK ns r g cs/\ns.length<=40/\(∀x,d=.take x∨(∃i,d=.move x i)->FN x)/\R=.is λp=>p=Cz r (d.gap ns g) (d.HZ r g cs)
theorem BK.step{g:Nat}(h:BK ns r g cs):BK ns r (Hz ns g cs:Nat) (Iy ns g cs):=by
 unfold Hz Iy;cases e:CI ns g cs with
 |none=>exact h
 |some x=>
  have c:x∈Cg ns g cs:=by
   unfold CI at e;exact ZFC (by rw[e];rfl)
  obtain⟨a,d⟩:=J5.mp c;have:=List.idxOf_lt_length_iff.mpr a;exact⟨h.rule,by show(0:Int)<=((ns.idxOf x+1:Nat):Int);omega,by show((ns.idxOf x+1:Nat):Int)<=_;omega,RN x h.up,λy b=>h.sub y (De.mp b).1⟩
theorem uU(h:Up cs)(n:Nat):Up (cs.take n):=List.Pairwise.sublist (ZFF n cs) h
structure BX (m:Nat) (ns:List Str):Prop where
 len:ns.length<=m
 nm:∀x∈ns,Nm x
 nd:ns.Nodup
theorem BX.done{d:Ag}(h:BX m ns)(ok:d.Ok m ns):BX m (d.done ns):=by
 obtain⟨a,b,c⟩:=Ag.step ok h.nd h.nm h.len;exact⟨c,b,a⟩
structure Lp where
 r:Str
 g:Nat
 cs:List Str
def Lp.P(l:Lp):PV:=Cz l.r l.g l.cs
def Lp.led(ns:List Str)(d:Ag)(l:Lp):Lp:=⟨l.r,d.gap ns l.g,d.HZ l.r l.g l.cs⟩
def Lp.AZ(ns:List Str)(l:Lp):Lp:=⟨l.r,Hz ns l.g l.cs,Iy ns l.g l.cs⟩
def Lp.Good(ns:List Str)(l:Lp):Prop:=BK ns l.r l.g l.cs
theorem az{k:Nat}(h:k<3):∃r:Str,r∈IH/\L2.BU [PV.str "none",.str "ahead",.str "all"] (k:Int)=some (.str r):=by
 have:k=0∨k=1∨k=2:=by omega
 rcases this with rfl|rfl|rfl
 .exact⟨_,by decide,rfl⟩
 .exact⟨_,by decide,rfl⟩
 .exact⟨_,by decide,rfl⟩
inductive Et where
 |AZ|Am (d:AX)
noncomputable def etP:Et->PV
 | .AZ=>.tup [.str "step"]
 | .Am d=>aP d
def Et.say:Et->Prop
 | .AZ=>True
 | .Am d=>d.say
noncomputable def toD:AX->Ag
 | .put x i=>.put x i.toNat
 | .take x=>.take x
 | .move x i=>.move x i.toNat
 | .turn a b=>.turn a.toNat b.toNat
theorem ZAq(h:d.Is ns d'):toD d=d':=by
 obtain⟨e,hd⟩:=h;have:d=Gg d':=by
  cases d <;> cases d' <;> simp[aP,dP]at e <;> first|(exact absurd e.1 NA)|(exact absurd e.1.symm NA)|(obtain⟨a,b⟩:=e;subst a;subst b;rfl)|(subst e;rfl)
 subst this;cases d' <;> simp[Gg,toD]
def tell(c:BH):List Str->Lp->List Et->Option (List (Option Str))
 |_,_,[]=>some []
 |ns,l,.AZ::t=>(tell c ns (l.AZ ns) t).map (CI ns l.g l.cs :: ·)
 |ns,l,.Am d::t=>match d.Ap c ns with
  |some _=>none
  |none=>tell c ((toD d).done ns) (l.led ns (toD d)) t
def Jo:Et->Bool
 | .AZ=>true
 |_=>false
theorem Kf{c:BH}:∀{es:List Et}{ns:List Str}{l:Lp}{a:List (Option Str)},tell c ns l es=some a->a.length=(es.filter Jo).length
 | [],ns,l,a,h=>by cases h;rfl
 | .AZ::t,ns,l,a,h=>by
  rw[tell]at h;cases e:tell c ns (l.AZ ns) t with
  |none=>rw[e]at h;cases h
  |some b=>
   rw[e]at h;cases h;rw[CG,Kf e];rfl
 | .Am d::t,ns,l,a,h=>by
  rw[tell]at h;cases e:d.Ap c ns with
  |some x=>rw[e]at h;cases h
  |none=>rw[e]at h;rw[Kf h];rfl
theorem fi{es:List Et}{l:Lp}(h:tell c ns l es=some a)(d:es.getLast?=some .AZ):a≠[]:=λz=>by
 have:=Kf h;rw[z]at this;have b:Et.AZ∈es.filter Jo:=List.mem_filter.mpr ⟨List.mem_of_getLast? d,rfl⟩;rw[List.length_eq_zero_iff.mp this.symm]at b;cases b
structure TI (c:BH) (Hj:List Str) (l0:Lp) (es:List Et) (i:Nat) (ns:List Str) (l:Lp) (acc:List (Option Str)):Prop where
 eq:tell c Hj l0 es=(tell c ns l (es.drop i)).map (acc++·)
 row:BX 40 ns
 gd:l.Good ns
 len:acc.length<=i
section
variable{Hj:List Str}{l0 l:Lp}{es:List Et}
theorem TI.zero(r:BX 40 ns)(g:l.Good ns):TI c ns l es 0 ns l []:=⟨by rw[Oa];cases tell c ns l es <;> rfl,r,g,B4 _⟩
theorem U4{es:List α}{e:α}(h:es[i]?=some e):es.drop i=e::es.drop (i+1):=by
 obtain⟨hi,rfl⟩:=List.getElem?_eq_some_iff.mp h;exact Yo hi
theorem TI.AZ(h:TI c Hj l0 es i ns l acc)(a:es[i]?=some .AZ):TI c Hj l0 es (i+1) ns (l.AZ ns) (acc++[CI ns l.g l.cs]):=by
 refine⟨?_,h.row,(ir h.gd).1,by rw[Bi];have:=h.len;show _+1<=_;omega⟩;rw[h.eq,U4 a,tell];cases tell c ns (l.AZ ns) (es.drop (i+1))with
 |none=>rfl
 |some b=>simp
theorem TI.bad(h:TI c Hj l0 es i ns l acc)(a:es[i]?=some (.Am d))(hd:d.Ap c ns=some e):tell c Hj l0 es=none:=by
 rw[h.eq,U4 a,tell,hd];rfl
theorem TI.Am(h:TI c Hj l0 es i ns l acc)(a:es[i]?=some (.Am d))(hd:d.Is ns d'):TI c Hj l0 es (i+1) (d'.done ns) (l.led ns d') acc:=by
 refine⟨?_,h.row.done hd.2,BK.led h.gd hd.2 h.row.nd,by have:=h.len;omega⟩;rw[h.eq,U4 a,tell,is_none hd,ZAq hd]
theorem TI.fin(h:TI c Hj l0 es es.length ns l acc):tell c Hj l0 es=some acc:=by
 rw[h.eq,kA,tell];show some (acc++[])=_;rw[Hr]
end
theorem Tb:∀(a b:List (Option Str)),CF (a.map BL) (b.map BL)=decide (a=b)
 | [],[]=>by rw[Jj,CF];rfl
 | [],_::_=>by rw[Jj,Kz _ _ (by simp)];simp
 |_::_,[]=>by rw[Jj,Kz _ _ (by simp)];simp
 |x::r,y::t=>by
  rw[ES,ES,JJ,Tb r t];have e:BO (BL x) (BL y)=decide (x=y):=by
   cases x with
   |none=>cases y with
    |none=>simp[BL,BO]
    |some y=>simp[BL,BO]
   |some x=>cases y with
    |none=>simp[BL,BO]
    |some y=>
     simp only[BL,BO];rw[Eo];simp
  rw[e,Eo];simp
theorem MB(a b:List (Option Str)):BO (.lst (a.map BL)) (.lst (b.map BL))=decide (a=b):=by rw[BO,Tb]
theorem c7(a b d c:List (Option Str)):BO (.tup [.lst (a.map BL),.lst (b.map BL)]) (.tup [.lst (d.map BL),.lst (c.map BL)])=decide (a=d/\b=c):=by
 rw[BO,JJ,JJ,MB,MB,CF,OY,Eo];simp
theorem X5(K:ZGX)(n:Nat)(o:Option Str):dat K n (BL o):=by cases o <;> cases n <;> trivial
theorem Ga(K:ZGX)(n:Nat)(a:List (Option Str)):dat K (n+1) (.lst (a.map BL)):=λx hx=>by obtain⟨o,_,rfl⟩:=List.mem_map.mp hx;exact X5 K n o
theorem Ou(K:ZGX)(a b:List (Option Str)):dat K 40 (.tup [.lst (a.map BL),.lst (b.map BL)]):=λx hx=>by
 simp only[Cj,Bb,ZA1]at hx;rcases hx with rfl|rfl <;> exact Ga K 38 _
theorem RA(K:ZGX)(n:Nat)(e:Et):dat K (n+1) (etP e):=by
 cases e with
 |AZ=>intro x hx;rw[List.mem_singleton.mp hx];cases n <;> trivial
 |Am d=>cases d <;> (intro x hx;simp only[Cj,Bb,ZA1]at hx;rcases hx with rfl|rfl|rfl <;> cases n <;> trivial)
theorem Q2(xs:List α):EA xs none (some (-1))=xs.dropLast:=by
 unfold EA;rw[List.dropLast_eq_take];show(xs.drop 0).take ((-1+(xs.length:Int)).toNat - 0)=_;rw[Oa,SH]
 congr 1;omega
theorem Qt{xs:List α}{x:α}(h:xs.getLast?=some x):L2.BU xs (-1)=some x:=by
 obtain⟨a,rfl⟩:=List.getLast?_eq_some_iff.mp h;exact zq a x
theorem R5{β:Type}(f:α->β)(xs:List α):(xs.map f).dropLast=xs.dropLast.map f:=by rw[List.map_dropLast]
theorem mC{a b:List α}{x y:α}(d:a.getLast?=some x)(c:b.getLast?=some y)(h:a.dropLast=b.dropLast):x≠y↔a≠b:=by
 obtain⟨f,rfl⟩:=List.getLast?_eq_some_iff.mp d;obtain⟨e,rfl⟩:=List.getLast?_eq_some_iff.mp c;rw[ZF0,ZF0]at h;subst h;simp
theorem OM{a e d:Str}{g1 g2 f:Int}{c1 c2 c:List Str}(h1:BK ns a g1 c1)(h2:BK ns e g2 c2)(b:BK ns d f c):BK ns a g2 c:=⟨h1.rule,h2.g0,h2.g1,b.up,b.sub⟩
theorem om{ts ys:List Str}(h:BK ns r g cs)(hx:x∈ns)(c:ys=wo cs x∨(x∉cs/\ys=wo cs x++[x]))(d:ts.Perm ys)(st:sortedS ts=true):BK ns r g ts:=by
 have hn:ys.Nodup/\∀y∈ys,y∈ns:=by
  have f:(wo cs x).Nodup:=NZ (RN x h.up);rcases c with rfl|⟨_,rfl⟩
  .exact⟨f,λy c=>h.sub y (De.mp c).1⟩
  .refine⟨List.nodup_append.mpr ⟨f,kN _ x,λa j b i e=>?_⟩,λy c=>?_⟩
   .rw[List.mem_singleton.mp i]at e;exact(De.mp j).2 e
   .rcases List.mem_append.mp c with c|c
    .exact h.sub y (De.mp c).1
    .rw[List.mem_singleton.mp c];exact hx
 exact⟨h.rule,h.g0,h.g1,QU st (d.nodup_iff.mpr hn.1),λy c=>hn.2 y (d.mem_iff.mp c)⟩
def W2(s:Slot)(tp:Bool)(ns:List Str):Prop:=s=.sq tp (ns.map .str)∨(tp=false/\(s=.is (.lst (ns.map .str))∨s=.own (ns.map .str)))
section
variable[Xw]
theorem I0{s:Slot}{k:Bool->List PV->Prop}(hi:ss[i]?=some s)(h:W2 s tp ns)(kk:k tp (ns.map .str)):Wq ss (Cp i) k:=by
 rcases h with rfl|⟨rfl,rfl|rfl⟩
 .exact B7 hi kk
 .exact Hl hi kk
 .exact FJ hi kk
end
noncomputable def R6(K:ZGX)(S:Addr)(c:BH):Bool:=PySem.W.exmOne K (.ref c.noName) (.ref S) == some true && (PySem.W.exmOne K (.ref c.there) (.ref S) == some true && (PySem.W.exmOne K (.ref c.gone) (.ref S) == some true && (PySem.W.exmOne K (.ref c.Jc) (.ref S) == some true && PySem.W.exmOne K (.ref c.full) (.ref S) == some true)))
theorem ZBY{K:ZGX}(h:R6 K S c=true){v:PV}(g:Lm c e j v):PySem.W.exmOne K (.ref e.C) (.ref S)=some true:=by
 unfold R6 at h;simp only[CU,ZAV]at h;obtain⟨x0,f,d,b,a⟩:=h;rcases g with⟨_,x,_,rfl⟩|⟨_,x,_,rfl⟩|⟨_,x,_,rfl⟩|⟨_,i,_,rfl⟩|⟨_,_,rfl⟩
 .exact x0
 .exact f
 .exact d
 .exact b
 .exact a
def Parts(c:BH)(ns:List Str)(l1 l2:Lp)(es:List Et)(a b:List (Option Str)):Prop:=
 es.length<=100/\es.getLast?=some .AZ/\tell c ns l1 es=some a/\tell c ns l2 es=some b/\a.dropLast=b.dropLast/\a≠b
noncomputable def Ml(a b:List (Option Str)):PV:=.tup [.lst (a.map BL),.lst (b.map BL)]
def TrR(c:BH)(ns:List Str)(l1 l2:Lp)(es:List Et)(p:PV):Prop:=
 (tell c ns l1 es=none/\tell c ns l2 es=none/\p=.AG)∨∃a b,tell c ns l1 es=some a/\tell c ns l2 es=some b/\a.length<=es.length/\b.length<=es.length/\p=Ml a b
def ZJ(c:BH)(ns:List Str)(l1 l2:Lp)(es:List Et)(p:PV):Prop:=(p=.AG/\∀a b,¬ Parts c ns l1 l2 es a b)∨∃a b,Parts c ns l1 l2 es a b/\p=Ml a b
structure Lu (ns:List Str) (l1 l2:Lp) (es:List Et):Prop where
 row:BX 40 ns
 g1:l1.Good ns
 g2:l2.Good ns
 say:∀e∈es,e.say
 len:es.length<=300
def XD:Pre:=λl R=>∃(ns:List Str),l=[.Af,.sq false (ns.map .str)]/\BX 40 ns/\R=.is λp=>∃l1 l2:Lp,p=.tup [l1.P,l2.P]/\l1.Good ns/\l2.Good ns
def P2:Pre:=λl R=>∃(tp:Bool)(ns:List Str)(l1 l2:Lp),l=[.sq tp (ns.map .str),.is l1.P,.is l2.P]/\BX 37 ns/\l1.Good ns/\l2.Good ns/\R=.is λ_=>True
def Wm:Pre:=λl R=>∃(a b:List (Option Str)),l=[.is (.lst (a.map BL)),.is (.lst (b.map BL))]/\a≠[]/\b≠[]/\R=.is λp=>p=.bl (decide (a.dropLast=b.dropLast/\a≠b))
end Fz
set_option maxHeartbeats 200000
namespace L2
section
variable{prog:Program}{w:World}{A:Around}{E:Value->Shared->Prop}{s:Shared}
theorem PK{v:Value}{Q:Bool->Shared->Prop}(a:s.TypeIs v "set")(h:Q true s):wpAny (model prog w) A (Builtin.Frozenset.isAnySet v) Q E s:=by
 unfold Builtin.Frozenset.isAnySet;refine ko (xi (b:=true) a (by rw[sF];kernel_rfl) ?_);exact mD h
theorem yc{a:Addr}{o:Obj}{es:Array (Int×Value)}{ep:Nat}{t:SetTable}{Q:Array (Int×Value)->Shared->Prop}(ho:s.heap.get? a=some o)(hd:o.data=.set es ep t)(c:t.fits es.size=true)(Dw:t.led=!CB w)(Jq:CB w=false->(!t.plain && decide (es.size > 1))=false)
  (h:∀Bs:Array (Int×Value),Bs.toList.Perm es.toList->Q Bs s):wpAny (model prog w) A (setWalk a) Q E s:=by
 unfold setWalk setsByText;refine ko (qg ho hd c ?_);dsimp only;refine ko (ko (wL (mD ?_)));show wpAny _ _ (if CB w=true then _ else _) _ _ _
 cases b:CB w with
 |true=>
  rw[o9 rfl];exact ko (wL (mD (h _ (Rq _ _))))
 |false=>
  rw[mL (by decide)];show wpAny _ _ (if(!t.plain && decide (es.size > 1))=true then _ else _) _ _ _
  rw[mL (by rw[Jq b];decide)];refine ko (m:=_) ?_
  wp_delta
  rw[Dw,b];exact mD (mD (h es (Ij _)))
end
end L2
set_option maxHeartbeats 4000000
set_option maxHeartbeats 400000
namespace L2
variable{ep i j mask n:Nat}{owner:Array (Option Nat)}{xs:List (Option Nat)}{α:Type}{prog:Program}{w:World}{A:Around}{E:Value->Shared->Prop}{s:Shared}{a r:Addr}{f:Str->Bool}{Q:Unit->Shared->Prop}{o so:Obj}{t:SetTable}
noncomputable def lp(mask:Nat)(p:Nat×Nat):Nat×Nat:=SetTable.leap mask p.1 p.2
def Dv(mask:Nat):Nat->Nat×Nat->Nat×Nat
 | 0,p=>p
 |t+1,p=>Dv mask t (lp mask p)
theorem Ql(mask a b:Nat)(p:Nat×Nat):Dv mask (a+b) p=Dv mask b (Dv mask a p):=by
 induction a generalizing p with
 |zero=>rw[kU];rfl
 |succ a c=>rw[show a+1+b=(a+b)+1 by omega];exact c _
theorem V9(mask t:Nat)(p:Nat×Nat):(Dv mask t p).2=p.2 / 32 ^ t:=by
 induction t generalizing p with
 |zero=>simp[Dv]
 |succ t a=>
  show(Dv mask t (lp mask p)).2=_;rw[a];show p.2 / 32 / 32 ^ t=_;rw[Nat.div_div_eq_div_mul,Nat.pow_succ,Nat.mul_comm]
theorem ZDi(t:Nat){p:Nat×Nat}(h:p.1<=mask):(Dv mask t p).1<=mask:=by
 induction t generalizing p with
 |zero=>exact h
 |succ t a=>exact a (SG (Z3 _ (Z4 _)))
theorem ZB7(a i p:Nat)(h:SetTable.layClean.free mask owner a i p=none):∀t<a,(owner.getD (Dv mask t (i,p)).1 (some 0)).isNone=false:=by
 induction a generalizing i p with
 |zero=>intro t d;omega
 |succ a c=>
  intro t d;unfold SetTable.layClean.free at h;cases b:(List.range (SetTable.runEnd mask i+1 - i)).find? λk=>(owner.getD (i+k) (some 0)).isNone with
  |some k=>rw[b]at h;cases h
  |none=>
   rw[b]at h;cases t with
   |zero=>
    have q:=List.find?_eq_none.mp b 0 (by rw[List.mem_range];unfold SetTable.runEnd;split <;> omega)
    exact Bool.eq_false_iff.mpr (by simpa[Dv]using q)
   |succ t=>exact c _ _ h t (by omega)
def good(mask:Nat):Bool:=(Dv mask (mask+1) (0,0)).1 == 0 && (List.range (mask+1)).all λj=>(List.range (mask+1)).any λt=>(Dv mask t (0,0)).1 == j
theorem hZ:[7,15,31,63,127].all good=true:=by decide +kernel
theorem ZB9(c:good mask=true)(hi:i<=mask)(d:j<=mask):∃t,t<=mask/\(Dv mask t (i,0)).1=j:=by
 unfold good at c;rw[CU,ZAV,Fo]at c;obtain⟨h,h1⟩:=c;have at':∀j,j<=mask->∃t,t<=mask/\(Dv mask t (0,0))=(j,0):=λj d=>by
  have q:=h1 j (List.mem_range.mpr (by omega));rw[k9]at q;obtain⟨t,g,e⟩:=q;rw[List.mem_range]at g;rw[ZAV]at e;exact⟨t,by omega,Z5 e (by rw[V9];simp)⟩
 obtain⟨a,l,ea⟩:=at' i hi;obtain⟨b,k,f⟩:=at' j d
 by_cases m:a<=b
 .refine⟨b - a,by omega,?_⟩;rw[<- ea,<- Ql,show a+(b - a)=b by omega,f]
 .refine⟨b+(mask+1) - a,by omega,?_⟩;have e0:Dv mask (mask+1) (0,0)=(0,0):=Z5 h (by rw[V9];simp);rw[<- ea,<- Ql,show a+(b+(mask+1) - a)=(mask+1)+b by omega,Ql,e0,f]
theorem pC(h:Int):SetTable.bits h<2 ^ 64:=by
 unfold SetTable.bits;have h1:=Jg h (show(2 ^ 64:Int)≠0 by decide);have h2:=Jf h (show(0:Int)<2 ^ 64 by decide);omega
theorem uW(d:good mask=true){p:Nat}(hi:i<=mask)(b:p<2 ^ 64)(c:j<=mask)(hn:owner.getD j (some 0)=none):∃k,SetTable.layClean.free mask owner (SetTable.turns mask) i p=some k:=by
 cases h:SetTable.layClean.free mask owner (SetTable.turns mask) i p with
 |some k=>exact⟨k,rfl⟩
 |none=>
  have a:Dv mask 13 (i,p)=((Dv mask 13 (i,p)).1,0):=Z5 rfl (by
   rw[V9];exact Nat.div_eq_of_lt (DD b (by decide)))
  obtain⟨t,f,e⟩:=ZB9 d (ZDi 13 (p:=(i,p)) hi) c;have q:=ZB7 _ _ _ h (13+t) (by unfold SetTable.turns;omega);rw[Ql,a,e,hn]at q;cases q
theorem nc(a i p k:Nat)(h:SetTable.layClean.free mask owner a i p=some k):owner.getD k (some 0)=none:=by
 induction a generalizing i p with
 |zero=>cases h
 |succ a c=>
  unfold SetTable.layClean.free at h;cases b:(List.range (SetTable.runEnd mask i+1 - i)).find? λk=>(owner.getD (i+k) (some 0)).isNone with
  |some d=>
   rw[b]at h;cases h;have q:=List.find?_some b
   simpa using q
  |none=>rw[b]at h;exact c _ _ h
theorem ZBU{v:Nat}(h:xs[j]?=some none):((xs.set j (some v)).filterMap id).Perm (v::xs.filterMap id):=by
 induction xs generalizing j with
 |nil=>cases h
 |cons x xs a=>
  cases j with
  |zero=>
   cases h;exact Ij _
  |succ j=>
   have q:=a (j:=j) (by simpa using h)
   cases x with
   |none=>exact q
   |some y=>exact(q.cons y).trans (List.Perm.swap _ _ _)
theorem o4(h:(xs.filterMap id).length<xs.length):∃j:Nat,xs[j]?=some none:=by
 induction xs with
 |nil=>simp at h
 |cons x xs a=>
  cases x with
  |none=>exact⟨0,rfl⟩
  |some y=>
   obtain⟨j,b⟩:=a (by simpa using h)
   exact⟨j+1,by simpa using b⟩
theorem vR(t:good mask=true)(b:Array Int)(r:b.size<=mask):∃owner,SetTable.layClean mask b=some owner/\owner.size=mask+1/\(owner.toList.filterMap id).Perm (List.range b.size):=by
 have f:∀(l:List Int)(owner:Array (Option Nat))(k:Nat),owner.size=mask+1->(owner.toList.filterMap id).Perm (List.range k)->k+l.length<=mask->
   ∃Uc,l.foldl (λacc h=>do
    let (owner,k) <- acc
    let j <- SetTable.layClean.free mask owner (SetTable.turns mask) (SetTable.bits h % (mask+1)) (SetTable.bits h)
    pure (owner.setIfInBounds j (some k),k+1)) (some (owner,k))=some (Uc,k+l.length)/\Uc.size=mask+1/\(Uc.toList.filterMap id).Perm (List.range (k+l.length)):=by
  intro l
  induction l with
  |nil=>intro owner k h1 h2 _;exact⟨owner,rfl,h1,h2⟩
  |cons h l g=>
   intro owner k h1 h2 u;rw[CG]at u;obtain⟨j,m⟩:=o4 (xs:=owner.toList) (by rw[h2.length_eq,SE,Dm];omega);have s:j<owner.size:=by have:=(List.getElem?_eq_some_iff.mp m).1;simpa using this
   have q:owner.getD j (some 0)=none:=by
    rw[OX]at m;rw[jt,m];rfl
   obtain⟨c,o⟩:=uW (owner:=owner) t (i:=SetTable.bits h % (mask+1)) (p:=SetTable.bits h) (SG (Z3 _ (Z4 _))) (pC h) (show j<=mask by omega) q;have a:=nc _ _ _ _ o;have w:owner.toList[c]?=some none:=by
    rw[OX];rw[jt]at a;cases e:owner[c]? with
    |none=>rw[e]at a;cases a
    |some y=>rw[e]at a;exact vF some a
   obtain⟨o',v,s',d⟩:=g (owner.setIfInBounds c (some k)) (k+1) (by simpa using h1) (by
    rw[Array.toList_setIfInBounds];refine(ZBU w).trans ?_;rw[List.range_succ];exact(h2.cons k).trans (List.perm_append_singleton k _).symm) (by omega)
   refine⟨o',?_,s',by rw[CG,show k+(l.length+1)=k+1+l.length by omega];exact d⟩;rw[Md,CG,show k+(l.length+1)=k+1+l.length by omega,<- v]
   congr 1
   show(some (owner,k)).bind _=_;simp only[ZFO,o];rfl
 obtain⟨o',e,s',d⟩:=f b.toList (Array.replicate (mask+1) none) 0 (by simp) (by
  rw[Array.toList_replicate];have:∀n,(List.replicate n (none:Option Nat)).filterMap id=[]:=λn=>by induction n with
   |zero=>rfl
   |succ n g=>rw[List.replicate_succ];exact g
  rw[this];exact Ij _) (by simpa using r)
 refine⟨o',?_,s',by simpa using d⟩
 unfold SetTable.layClean;rw[<- Array.foldl_toList,e];rfl
theorem jJ(f:good mask=true)(g mv:Nat)(ld pl:Bool)(b:Array Int)(d:b.size<=mask):∃t a,SetTable.laid mask g mv ld pl b=some (t,a)/\t.led=ld/\t.plain=pl/\t.mask=mask/\t.dummies=#[]/\t.place.size=b.size/\a.toList.Perm (List.range b.size):=by
 obtain⟨owner,e,s,p⟩:=vR f b d;have c:((List.range (mask+1)).filterMap λj=>(owner.getD j none).map λx=>(j,x)).map (·.2)=owner.toList.filterMap id:=by
  rw[List.map_filterMap];have h:owner.toList=(List.range (mask+1)).map λj=>owner.getD j none:=by
   refine kB (by simp[s]) λn h1 h2=>?_;simp at h1;simp[jt,h1]
  rw[h,ZF2]
  congr 1
  funext j
  show Option.map _ (Option.map _ (owner.getD j none))=owner.getD j none;cases owner.getD j none <;> rfl
 refine⟨_,_,by unfold SetTable.laid;rw[e];rfl,rfl,rfl,rfl,rfl,?_,?_⟩
 .have q:=vF List.length c;rw[Ae]at q;rw[Bv,Ae];exact q.trans (by rw[p.length_eq,SE])
 .show(List.map _ _).Perm _;rw[c];exact p
theorem N7[DecidableEq α]{l:List α}:∀{m:List α},l.Nodup->(∀k∈l,k∈m)->l.length<=m.length:=by
 induction l with
 |nil=>intro m _ _;exact CK _
 |cons x r c=>
  intro m hn a;obtain⟨h1,h2⟩:=List.nodup_cons.mp hn;have hx:=a x BZ;have:=c (m:=m.erase x) h2 λk b=>(Yx (λe:k=x=>h1 (e▸b))).mpr (a k (C5 _ b));rw[Me hx]at this;have:=kI hx;rw[CG];omega
theorem cM[DecidableEq α]{ds A B:List α}{k:α}(nd:ds.Nodup)(b:∀x∈ds,x∈A++k::B)(a:(A++k::B).length<=ds.length):k∉A++B:=by
 intro c;have q:=N7 (m:=A++B) nd λx hx=>by
  rcases List.mem_append.mp (b x hx)with h|h
  .exact List.mem_append.mpr (.inl h)
  .rcases List.mem_cons.mp h with rfl|h
   .exact c
   .exact List.mem_append.mpr (.inr h)
 simp only[Bi,CG]at a q;omega
theorem BJ.typeIs(h:BJ prog w s.heap a f n):s.TypeIs (.ref a) "set" := by
 obtain⟨o,_,_,_,ho,b,_⟩:=h;exact⟨o,ho,b.1⟩
theorem tN{Q:Bool->Shared->Prop}(l:List Addr)(d:∀a∈l,∃f n,BJ prog w s.heap a f n)(h:Q true s):wpAny (model prog w) A (setsQuiet l) Q E s:=by
 unfold setsQuiet;refine ko ?_;refine wpAny_forIn_list _ (λrest r s'=>s'=s/\r=(none,())/\∀a∈rest,∃f n,BJ prog w s.heap a f n) _ ?_ ?_ _ _ ⟨rfl,rfl,d⟩
 .rintro a rest r s'⟨rfl,rfl,c⟩;obtain⟨f,n,o,es,ep,t,ho,j,hd,CZ,Cq,m,i,hn,Dw,BF⟩:=c a BZ;refine ko (ZA8 ho hd i ?_);refine ko (ZFG _ (λrest r s2=>s2=s'/\r=(none,())/\∀e∈rest,∃k,(PySem.strKind prog w).is k e.2=true) _ ?_ ?_ _ _ ⟨rfl,rfl,CZ.keys⟩)
  .rintro⟨hh,x⟩ZFq r s2⟨rfl,rfl,Lc⟩;obtain⟨k,g⟩:=Lc _ BZ;obtain⟨tk,rfl⟩:=Mk g;exact mD ⟨rfl,rfl,λe b=>Lc e (C5 _ b)⟩
  .rintro r s2⟨rfl,rfl,_⟩;exact mD ⟨rfl,rfl,λe b=>c e (C5 _ b)⟩
 .rintro r s'⟨rfl,rfl,_⟩;exact mD h
theorem qM{es:Array (Int×Value)}{Q:Array (Int×Value)->Shared->Prop}{g:Str->Bool}{m:Nat}(k:BJ prog w s.heap a f n)(i:BJ prog w s.heap r g m)
  (ho:s.heap.get? a=some o) (hd:o.data=.set es ep t)
  (h:∀(Bs:Array (Int×Value))(h':Heap),Bs.toList.Perm es.toList->Heap.SameBut r s.heap h'->BJ prog w h' r g m->Q Bs { s with heap:=h' }):wpAny (model prog w) A (setWalkUnseen a [r] (some r)) Q E s:=by
 have e:=k;obtain⟨o',Bs,Ip,t',Cr,y,CT,CZ,Cq,C,j,hn,Dw,BF⟩:=k;rw[ho]at Cr;cases Cr;rw[hd]at CT;cases CT;unfold setWalkUnseen setsByText;refine ko (qg ho hd j ?_);dsimp only;refine ko (ko (wL (mD ?_)));show wpAny _ _ (if(CB w || (t.led && t.plain) || decide (es.size<=1))=true then _ else _) _ _ _
 by_cases d:(CB w || (t.led && t.plain) || decide (es.size<=1))=true
 .rw[o9 d];refine yc ho hd j Dw (λFe=>?_) λBs l=>h Bs s.heap l (Ry r s.heap) i;rw[Fe]at d Dw;cases u:t.plain with
  |true=>rfl
  |false=>
   rw[u]at d;simp only[L9,Bool.or_false,Bool.false_or,oE]at d;simp only[Bool.not_false,Yl,ZBD];omega
 .rw[mL d];refine ko (tN _ (λx hx=>?_) ?_)
  .simp only[Cj,Bb,ZA1]at hx;rcases hx with rfl|rfl
   .exact⟨_,_,e⟩
   .exact⟨_,_,i⟩
  rw[mL (by decide)];refine ko (ZAR ?_);obtain⟨p,GI,q,t2,DJ,c,b,YK,YH,RO,N2,J2,Xm,U6⟩:=i;refine ko (qg DJ b N2 ?_);dsimp only;have v:t.led=true:=by
   rw[Dw];cases B:CB w with
   |false=>rfl
   |true=>rw[B]at d;simp at d
  split
  .refine ko (ZA2 DJ b ?_ (ZA4 RO));refine mD (h es _ (Ij _) (HE s.heap r _) ⟨_,GI,_,_,K6 DJ b GI _,c,rfl,YK,YH,RO,N2,J2,?_,λz=>?_⟩)
   .show(t2.led && t.led)=!CB w;rw[v,Xm,OY]
   .show(t2.plain && t.plain)=false;rw[U6 z,Yk]
  .exact mD (h es s.heap (Ij _) (Ry r s.heap) ⟨p,GI,q,t2,DJ,c,b,YK,YH,RO,N2,J2,Xm,U6⟩)
def kv:Value->Str
 | .str k _=>k
 |_=>default
theorem OJ{es:List (Int×Value)}(CZ:ElemsOf (PySem.strKind prog w) es)(k:Str):(∃e∈es,(PySem.strKind prog w).is k e.2=true)↔k∈es.map (kv ·.2):=by
 rw[List.mem_map];constructor
 .rintro⟨e,a,b⟩;obtain⟨t,c⟩:=Mk b;exact⟨e,a,by rw[c];rfl⟩
 .rintro⟨e,a,rfl⟩;obtain⟨⟨k,b,_⟩,_⟩:=CZ e a;obtain⟨t,c⟩:=Mk b;refine⟨e,a,?_⟩;rw[c];exact Z9 prog w _ t
theorem BJ.cut{ds:List Str}{k:Str}{tk:Tok}{Q:Bool->Shared->Prop}(nd:ds.Nodup)(L:BJ prog w s.heap a (λk=>decide (k∈ds)) ds.length)
  (M:k∉ds->Q false s)
  (h1:k∈ds->∀h',Heap.SameBut a s.heap h'->BJ prog w h' a (λu=>decide (u∈ds.erase k)) (ds.erase k).length->Q true { s with heap:=h' }) :
  wpAny (model prog w) A (setDiscardHashed a (.str k tk) ((PySem.strKind prog w).hash k)) Q E s:=by
 obtain⟨o,es,ep,t,ho,n,hd,CZ,Cq,K,b,hn,Dw,BF⟩:=L;have R:(PySem.strKind prog w).is k (.str k tk)=true:=Z9 prog w k tk;have P:(Value.str k tk).scannable=true:=rfl;have f:∀k,k∈ds↔k∈es.toList.map (kv ·.2):=λk=>by rw[<- OJ CZ,<- Cq k,oE]
 unfold setDiscardHashed setFind setFindIn;refine ko (ko (qg ho hd b ?_));dsimp only;rw[byScan_of P K CZ];simp only[↓reduceIte];refine ko (ZAR ?_);refine ko (wpAny_setScan_of R ho hd b CZ ?_);cases v:List.findIdx? (λe=>(PySem.strKind prog w).is k e.2) es.toList with
 |none=>
  dsimp only;refine mD ?_;dsimp only;refine mD (M λd=>?_);obtain⟨e,q,l⟩:=(OJ CZ k).mpr ((f k).mp d);have:=List.findIdx?_eq_none_iff.mp v e q;rw[l]at this;exact Bool.noConfusion this
 |some j=>
  dsimp only;refine mD ?_;dsimp only;obtain⟨m,Rt,_⟩:=List.findIdx?_eq_some_iff_getElem.mp v;have d:k∈ds:=(f k).mpr ((OJ CZ k).mp ⟨_,Ik m,Rt⟩);refine ko (qg ho hd b ?_);dsimp only;have U:j<es.size:=by simpa using m
  rw[kU];have r:(SetTable.eraseAt es j).toList=es.toList.take j++es.toList.drop (j+1):=by
   unfold SetTable.eraseAt;rw[Array.toList_append,ZEs,ZEs];simp;exact Mh (by simp)
  have N:(SetTable.eraseAt es j).size=es.size - 1:=by
   rw[<- Dm,r];simp;omega
  have sp:es.toList=es.toList.take j++es.toList[j]::es.toList.drop (j+1):=by
   rw[<- Yo m,LD]
  have I:kv es.toList[j].2=k:=by
   obtain⟨t,O⟩:=Mk Rt;rw[O];rfl
  have i:es.toList.map (kv ·.2)=(es.toList.take j).map (kv ·.2)++k::(es.toList.drop (j+1)).map (kv ·.2):=by
   conv=>lhs;rw[sp]
   rw[D6,ES,I]
  have H:=cM (k:=k) (A:=(es.toList.take j).map (kv ·.2)) (B:=(es.toList.drop (j+1)).map (kv ·.2)) nd (λx hx=>by rw[<- i];exact(f x).mp hx) (by rw[<- i,Ae,Dm,hn];exact B4 _)
  have D:(SetTable.eraseAt es j).size<scanBound:=by omega
  refine ko (ZA2 ho hd ?_ (ZA4 D));refine ko (wpAny_point ?_);have G:t.place.size=es.size:=Uu b;have F:t.fill<=t.mask:=by
   unfold SetTable.fits at b;rw[CU,oE]at b;exact b.2
  have y:t.place[j]?=some (t.place[j]'(by omega)):=L8 _;have g:t.drop j={ t with place:=SetTable.eraseAt t.place j,dummies:=SetTable.insertAt t.dummies (SetTable.below t.dummies (t.place[j]'(by omega))) (t.place[j]'(by omega)) }:=by
   unfold SetTable.drop;rw[y]
  have J:∀(xs:Array Nat)(p x:Nat),(SetTable.insertAt xs p x).size<=xs.size+1:=λxs p x=>by
   unfold SetTable.insertAt;simp;omega
  have pz:∀(xs:Array Nat)(p:Nat),p<xs.size->(SetTable.eraseAt xs p).size=xs.size - 1:=λxs p y=>by
   unfold SetTable.eraseAt;simp;omega
  have C:ElemsOf (PySem.strKind prog w) (SetTable.eraseAt es j).toList:=by
   rw[r];intro e q;refine CZ e ?_;rw[sp];rcases List.mem_append.mp q with h|h
   .exact List.mem_append.mpr (.inl h)
   .exact List.mem_append.mpr (.inr (C5 _ h))
  refine mD (h1 d _ (HE s.heap a _) ⟨_,SetTable.eraseAt es j,_,_,K6 ho hd _ _,n,rfl,?_,λu=>?_,D,?_,?_,?_,λz=>?_⟩)
  .exact C
  .rw[OJ C,r,D6,oE,nd.mem_erase_iff,f,i];constructor
   .rintro⟨Ai,c⟩;rcases List.mem_append.mp c with h|h
    .exact List.mem_append.mpr (.inl h)
    .rcases List.mem_cons.mp h with h|h
     .exact absurd h Ai
     .exact List.mem_append.mpr (.inr h)
   .intro c;refine⟨λe=>H (e▸c),?_⟩;rcases List.mem_append.mp c with h|h
    .exact List.mem_append.mpr (.inl h)
    .exact List.mem_append.mpr (.inr (C5 _ h))
  .rw[g];unfold SetTable.fits SetTable.fill;rw[CU,ZAV,oE];have T:=pz t.place j (by omega);have S:=J t.dummies (SetTable.below t.dummies (t.place[j]'(by omega))) (t.place[j]'(by omega));unfold SetTable.fill at F;refine⟨by show(SetTable.eraseAt t.place j).size=_;omega,?_⟩;show(SetTable.eraseAt t.place j).size+(SetTable.insertAt _ _ _).size<=t.mask;omega
  .rw[N,Me d,hn]
  .rw[g];exact Dw
  .rw[g];exact BF (by omega)
noncomputable def dw(n:Nat):Bool:=[7,15,31,63,127].contains (SetTable.sizeAbove ((0+n) * 2) - 1) && decide (n<=SetTable.sizeAbove ((0+n) * 2) - 1) && decide (SetTable.sizeAbove ((0+n) * 2)<=128)
theorem yL:(List.range 64).all dw=true:=by decide +kernel
section
structure Ub (w:World) (h:Heap) (r:Addr) (n:Nat) (so:Obj) (ep:Nat) (t:SetTable):Prop where
 at':h.get? r=some so
 ex:so.ExactSet
 dt:so.data=.set #[] ep t
 pl:t.place=#[]
 dm:t.dummies=#[]
 ld:t.led=!CB w
 gd:good t.mask=true
 rm:n<=t.mask
theorem Ub.fits{h:Heap}(x:Ub w h r n so ep t):t.fits (#[]:Array (Int×Value)).size=true:=by
 unfold SetTable.fits SetTable.fill;rw[x.pl,x.dm];simp
theorem ZAt(b:s.heap.get? r=some so)(hx:so.ExactSet)(hd:so.data=.set #[] 0 (.fresh 0 0 (!CB w)))(k:n<64)
  (h:∀h' g ep t,Heap.SameBut r s.heap h'->Ub w h' r n g ep t->Q () { s with heap:=h' }):wpAny (model prog w) A (setRoomFor r n) Q E s:=by
 have d:(SetTable.fresh 0 0 (!CB w)).fits (#[]:Array (Int×Value)).size=true:=rfl;unfold setRoomFor;refine ko (qg b hd d ?_);dsimp only;have f:(SetTable.fresh 0 0 (!CB w)).roomFor n=if(0+n) * 5>=7 * 3 then some ((0+n) * 2)else none:=rfl
 rw[f]
 by_cases hn:(0+n) * 5>=7 * 3
 .rw[o9 hn];dsimp only;have q:=List.all_eq_true.mp yL n (List.mem_range.mpr k);unfold dw at q;rw[CU,CU,oE,oE]at q;obtain⟨⟨c,j⟩,z⟩:=q;replace c:=List.all_eq_true.mp hZ _ (List.contains_iff_mem.mp c);unfold setRelay;refine ko (qg b hd d ?_);dsimp only;have i:¬ SetTable.sizeAbove ((0+n) * 2) > sizeLine:=by
   have:128<=sizeLine:=by decide +kernel
   omega
  rw[mL i];obtain⟨t,a,y,x,B,e,v,u,p⟩:=jJ c 0 ((SetTable.fresh 0 0 (!CB w)).movedTo (SetTable.sizeAbove ((0+n) * 2) - 1)) (!CB w) true #[] (CK _);have o:(SetTable.fresh 0 0 (!CB w)).relaid ((#[]:Array (Int×Value)).map (·.1)) ((0+n) * 2)=some (t,a):=by
   have l:(#[]:Array (Int×Value)).map (·.1)=#[]:=by simp
   rw[l];unfold SetTable.relaid;exact y
  refine ko ?_
  wp_delta
  rw[o];dsimp only;have m:a=#[]:=by
   have:=p.length_eq;simp at this;exact this
  subst m;rw[mL (by simp)];refine mD ?_;dsimp only;refine ZA2 b hd ?_ (CK _);exact h _ _ _ t (HE s.heap r _) ⟨K6 b hd _ _,hx,rfl,ZEq u,v,x,by rw[e];exact c,by rw[e];exact j⟩
 .rw[mL hn];dsimp only;exact mD (h s.heap so 0 _ (Ry r s.heap) ⟨b,hx,hd,rfl,rfl,rfl,List.all_eq_true.mp hZ 7 (by simp),by show n<=7;omega⟩)
theorem mK{b:Addr}{g:Sem Unit}(Ai:r≠b)(m:s.heap.get? r=some so)(hx:so.ExactSet)(hd:so.data=.set #[] 0 (.fresh 0 0 (!CB w)))
  (G:BJ prog w s.heap b f n) (N:n<64) (h:∀h',Heap.SameBut r s.heap h'->BJ prog w h' r f n->Q () { s with heap:=h' }):wpAny (model prog w) A (setMerge r b g) Q E s:=by
 obtain⟨o,es,ep,t,ho,F,D,CZ,Cq,d,p,hn,Dw,BF⟩:=G;unfold setMerge;rw[mL (by simpa using Ai)]
 refine ko (qg ho D p ?_);dsimp only
 by_cases j:es.isEmpty=true
 .rw[o9 j];have e0:es=#[]:=by simpa using j
  subst e0;exact mD (h s.heap (Ry r s.heap) ⟨so,#[],0,_,m,hx,hd,CZ,Cq,d,rfl,hn,rfl,λz=>by simp at z⟩)
 .rw[mL j];have JK:0<es.size:=by
   rcases ZFH es.size with z|z
   .exact absurd (by simpa using ZEq z) j
   .exact z
  refine ko (ZAt m hx hd (n:=es.size) (by omega) λh1 C H t1 HL B=>?_);refine ko (qg (s:={ s with heap:=h1 }) B.at' B.dt B.fits ?_)
  dsimp only;have y:¬ (t1.fill != 0)=true:=by unfold SetTable.fill;rw[B.pl,B.dm];simp
  by_cases u:(t1.mask == t.mask && t.dummies.isEmpty)=true
  .have e:t1.road t=.slotForSlot:=by unfold SetTable.road;rw[mL y,o9 u]
   rw[e];dsimp only;refine ZA2 (s:={ s with heap:=h1 }) B.at' B.dt ?_ (ZA4 d)
   refine h _ (HL.trans (HE h1 r _)) ⟨_,es,_,_,K6 B.at' B.dt _ _,B.ex,rfl,CZ,Cq,d,p,hn,?_,λz=>?_⟩
   .show(t1.led && t.led)=!CB w;rw[B.ld,Dw,Bool.and_self]
   .show(t1.plain && t.plain)=false;rw[BF z,L9]
  .have e:t1.road t=.clean:=by unfold SetTable.road;rw[mL y,mL u]
   rw[e];dsimp only;obtain⟨t',a,M,L,K,J,I,x,v⟩:=jJ B.gd t1.finger t1.moves (t1.led && t.led) (t1.plain && t.plain) (es.map (·.1)) (by rw[Array.size_map];exact B.rm)
   rw[Array.size_map]at x v;refine ko ?_
   wp_delta
   rw[M];dsimp only;have i:(a.filterMap (es[·]?)).toList.Perm es.toList:=by
    rw[Array.toList_filterMap];exact(v.filterMap _).trans (by rw[filterMap_getElem?_range])
   have c:(a.filterMap (es[·]?)).size=es.size:=by rw[<- Dm,i.length_eq,Dm]
   rw[mL (by rw[c];simp)];refine mD ?_;dsimp only;refine ZA2 (s:={ s with heap:=h1 }) B.at' B.dt ?_ (ZA4 (by rw[c];exact d))
   refine h _ (HL.trans (HE h1 r _)) ⟨_,_,_,_,K6 B.at' B.dt _ _,B.ex,rfl,CZ.perm i,λk=>(Cq k).trans ⟨λ⟨e,l,q⟩=>⟨e,i.mem_iff.mpr l,q⟩,λ⟨e,l,q⟩=>⟨e,i.mem_iff.mp l,q⟩⟩,by rw[c];exact d,?_,c.trans hn,?_,λ_=>?_⟩
   .unfold SetTable.fits SetTable.fill;rw[I,x,c,J];have:=B.rm;simp;omega
   .rw[L,B.ld,Dw,Bool.and_self]
   .rw[K,BF JK,L9]
theorem ZEM:entryFor table "set.__xor__"=some Builtin.«frozenset.__xor__»:=
 ZAj (id' := "frozenset.__xor__") (by kernel_rfl) (by first|rfl|decide +kernel|(unfold String.splitOn;simp +decide [String.splitOnAux])) (by decide +kernel) (by kernel_rfl)
theorem kz{N:String}{fs d:List Str}(Ai:r≠a)(U:fs.Nodup)(T:d.Nodup)(hz:fs.length+d.length+1<scanBound)
  (C:BJ prog w s.heap a (λk=>decide (k∈fs)) fs.length) (Y:BJ prog w s.heap r (λk=>decide (k∈d)) d.length)
  (h:∀(h':Heap)(ds:List Str),ds.Nodup->(∀k,k∈ds↔¬ (k∈fs↔k∈d))->Heap.SameBut r s.heap h'->BJ prog w h' r (λk=>decide (k∈ds)) ds.length->Q () { s with heap:=h' }) :
  wpAny (model prog w) A (Builtin.Frozenset.symmetricDifferenceUpdate N r (.ref a)) Q E s:=by
 unfold Builtin.Frozenset.symmetricDifferenceUpdate;rw[mL (by simpa using BP Ai)]
 dsimp only;refine ko (ZAA C.typeIs ?_);rw[mL (by decide)];refine ko (PK C.typeIs ?_);rw[o9 rfl];refine ko (mD ?_);refine ko (sj (a:=a) rfl ?_);have NU:=C;obtain⟨o,es,ep,t,ho,X,hd,CZ,Cq,hb,M,hn,Dw,BF⟩:=NU;refine ko (ZAO ho hd M ?_);refine tL ?_;refine ko (qM C Y ho hd λBs h1 m HL Py=>?_);have H:Bs.toList.length=es.size:=by rw[m.length_eq,Dm]
 have Gj:∀k,k∈fs↔k∈Bs.toList.map (kv ·.2):=λk=>by
  have RS:ElemsOf (PySem.strKind prog w) Bs.toList:=CZ.perm m;rw[<- OJ RS,<- oE (p:=k∈fs),Cq k];exact⟨λ⟨e,i,q⟩=>⟨e,m.mem_iff.mpr i,q⟩,λ⟨e,i,q⟩=>⟨e,m.mem_iff.mp i,q⟩⟩
 refine ko (ZFG _ (λrest _ s2=>∃(h2:Heap)(ds:List Str)(f:List Str),s2={ s with heap:=h2 }/\Heap.SameBut r s.heap h2/\ds.Nodup/\BJ prog w h2 r (λk=>decide (k∈ds)) ds.length/\ds.length+rest.length<=d.length+fs.length/\
   Bs.toList.map (kv ·.2)=f++rest.map (kv ·.2)/\(∀k,k∈ds↔¬ (k∈f↔k∈d))/\∀e∈rest,e∈es.toList) _ ?_ ?_ _ _ ⟨h1,d,[],rfl,HL,T,Py,by rw[H,hn];exact B4 _,rfl,λk=>by simp,λe i=>m.mem_iff.mp i⟩)
 .rintro⟨V,x⟩rest u s2⟨h2,ds,f,rfl,v,nd,RP,L,l,j,D⟩;obtain⟨⟨k,W,hh⟩,Mb⟩:=CZ _ (D _ BZ);obtain⟨tk,rfl⟩:=Mk W;have S:V=(PySem.strKind prog w).hash k:=hh;subst S;rw[CG]at L;have P:∀c,Heap.SameBut r s.heap c->c.get? a=some o:=λc QF=>by rw[QF.2 a (BP Ai)];exact ho
  have O:k∉f:=λKO=>by
   refine cM (A:=f) (B:=rest.map (kv ·.2)) (k:=k) U (λx hx=>?_) ?_ (List.mem_append.mpr (.inl KO))
   .have q:=(Gj x).mp hx;rw[l]at q;exact q
   .have q:=vF List.length l;rw[Ae,H,hn]at q;exact Z2 q.symm
  have g:∀(c:Heap)(Ky:List Str),Heap.SameBut r s.heap c->Ky.Nodup->BJ prog w c r (λk=>decide (k∈Ky)) Ky.length->Ky.length+rest.length<=d.length+fs.length->(∀b,b∈Ky↔¬ (b∈f++[k]↔b∈d))->
    wpAny (model prog w) A (do Builtin.Frozenset.unchanged N a ep;pure (ForInStep.yield PUnit.unit)) (λR s'=>match R with | .yield σ=>(∃(h2:Heap)(ds:List Str)(f:List Str),s'={ s with heap:=h2 }/\Heap.SameBut r s.heap h2/\ds.Nodup/\BJ prog w h2 r (λk=>decide (k∈ds)) ds.length/\ds.length+rest.length<=d.length+fs.length/\Bs.toList.map (kv ·.2)=f++rest.map (kv ·.2)/\(∀k,k∈ds↔¬ (k∈f↔k∈d))/\∀e∈rest,e∈es.toList) | .done σ=>False) E { s with heap:=c }:=by
   intro c Ky QF F G EM p1;unfold Builtin.Frozenset.unchanged;refine ko (ko (ZAO (s:={ s with heap:=c }) (P c QF) hd M ?_))
   rw[mL (by simp)];refine mD ?_;exact mD ⟨c,Ky,f++[k],rfl,QF,F,G,EM,by rw[l,C3];rfl,p1,λe i=>D e (C5 _ i)⟩
  have mk:∀b:Str,b∈f++[k]↔b∈f∨b=k:=λb=>by rw[GY,Yy]
  have J:=j k;dsimp only;refine ko (tL ?_);refine ko (BJ.cut (s:={ s with heap:=h2 }) nd RP (λMW=>?_) λMW c Xv Yj=>?_)
  .rw[o9 (by decide)];refine ko (BJ.put (s:={ s with heap:=h2 }) RP (by omega) λc Xv Yj=>?_)
   refine mD ?_;refine rD (g c (ds++[k]) (v.trans Xv) ?_ (Yj.congr (λb=>?_) ?_) ?_ λb=>?_) (λr s' z=>?_) λ_ _ z=>z
   .rw[Er];exact⟨nd,List.nodup_cons.mpr ⟨by simp,LC⟩,λx hx y I=>by
     rw[Yy]at I;subst I;exact λe=>MW (e▸hx)⟩
   .by_cases e:b=k
    .subst e;simp
    .simp[e]
   .simp[MW]
   .rw[Bi];simp only[CG,SD];omega
   .rw[mk,GY,Yy]
    by_cases e:b=k
    .subst e;have:b∉d:=λn=>MW (J.mpr λz=>O (z.mpr n));simp[this]
    .simp only[e,ZA1];exact j b
   .cases r with
    |yield _=>exact z
    |done _=>exact z.elim
  .rw[mL (by decide)];refine mD ?_;have K:=Me MW;refine rD (g c (ds.erase k) (v.trans Xv) (nd.erase k) Yj (by omega) λb=>?_) (λr s' z=>?_) λ_ _ z=>z
   .rw[mk,nd.mem_erase_iff]
    by_cases e:b=k
    .subst e;have n:b∈d:=jy λn=>J.mp MW ⟨λz=>absurd z O,λz=>absurd z n⟩;simp[n]
    .simp only[e,ZA1,not_false_eq_true,true_and,ne_eq];exact j b
   .cases r with
    |yield _=>exact z
    |done _=>exact z.elim
 .rintro u s2⟨h2,ds,f,rfl,v,nd,RP,L,l,j,D⟩;refine mD (h h2 ds nd (λk=>?_) v RP);rw[j k,Gj k,l];simp
variable{X:Cx}
def eP(P:Program)(w:World):V->V->Hp->VK->Prop:=λx y H Q=>∃(p q:Addr)(fs a:List Str),x=.ref p/\y=.ref q/\p≠q/\fs.Nodup/\a.Nodup/\fs.length<64/\a.length<64/\H p=some (Ef P w p (λk=>decide (k∈fs)) fs.length)/\H q=some (Ef P w q (λk=>decide (k∈a)) a.length)/\
 ∀(l:Addr)(ds:List Str),H l=none->ds.Nodup->(∀k,k∈ds↔¬ (k∈fs↔k∈a))->Q (.ref l) (upd H l (Ef P w l (λk=>decide (k∈ds)) ds.length))
theorem ZCR:BD X (binaryOp .BitXor) (eP X.prog X.w):=by
 intro Ze s Z H x y v u Q I E D h;obtain⟨p,q,fs,r,rfl,rfl,N,L,K,S,A,O,M,h⟩:=h;cases E;cases D;have c:BJ X.prog X.w s.heap p _ fs.length:=(I.AW p _ O).1;have f:BJ X.prog X.w s.heap q _ r.length:=(I.AW q _ M).1;refine wpAny_binaryOp_same (T:="set") (op:=.BitXor) c.typeIs f.typeIs F.fills_set_xor F.slot_set_xor (sC F.slot_set_xor c.typeIs ZEM ?_ (F.args_set_xor_2 _ _));unfold Builtin.«frozenset.__xor__»
 wp_delta
 refine ko (sj (a:=(Value.ref p,Value.ref q)) rfl ?_);dsimp only;rw[mL (by decide)];dsimp only;refine ko (ko (PK c.typeIs ?_));refine PK f.typeIs ?_;rw[mL (by decide)];refine ko (sj (a:=p) rfl ?_);refine ko ?_
 wp_delta
 refine ko ?_;unfold Builtin.Frozenset.baseOf;refine ko (xi (b:=true) c.typeIs (by rw[sF];kernel_rfl) ?_);refine mD ?_;rw[o9 rfl];unfold Builtin.Frozenset.newFrom newSet setsByText;refine ko (ko (ko (ko (wL (mD ?_)))));dsimp only;refine qm ?_;show wpAny _ _ _ _ _ { s with heap:=s.heap.push { cls:=.type "set", data:=.set #[] 0 (.fresh 0 0 (!CB X.w)) } }
 generalize k:({ cls:=.type "set", data:=.set #[] 0 (.fresh 0 0 (!CB X.w)) }:Obj)=so;have G:(s.heap.push so).get? s.heap.objs.size=some so:=BY _ (by rw[<- k];rfl);have d:∀b o,s.heap.get? b=some o->(s.heap.push so).get? b=some o:=λb o e=>BE _ e;have l:BJ X.prog X.w (s.heap.push so) p _ fs.length:=c.keep λo e=>d _ _ e;have j:BJ X.prog X.w (s.heap.push so) q _ r.length:=f.keep λo e=>d _ _ e;have t:p<s.heap.objs.size:=by obtain⟨o,_,_,_,ho,_⟩:=c;exact B9 ho
 have J:q<s.heap.objs.size:=by obtain⟨o,_,_,_,ho,_⟩:=f;exact B9 ho
 refine ko (sj (a:=s.heap.objs.size) rfl ?_);refine ko (tL ?_);unfold Builtin.Frozenset.updateFrom;refine ko (PK (s:={ s with heap:=s.heap.push so }) j.typeIs ?_)
 rw[o9 rfl];refine ko (sj (a:=q) rfl ?_);unfold Builtin.Frozenset.merge;have i:=j;obtain⟨U,GI,V,t2,DJ,m,g,YK,YH,RO,N2,J2,Xm,U6⟩:=i;refine ko (ZAO (s:={ s with heap:=s.heap.push so }) DJ g N2 ?_)
 refine mK (s:={ s with heap:=s.heap.push so }) (Im J) G (by rw[<- k];exact⟨rfl,rfl,rfl⟩) (by rw[<- k]) j A λh1 HL C=>?_
 refine mD ?_;have R:BJ X.prog X.w h1 p _ fs.length:=l.keep λo e=>by rw[HL.2 p (Bn t)];exact e
 refine ko (sj (a:=s.heap.objs.size) rfl ?_);refine ko (tL ?_);refine kz (s:={ s with heap:=h1 }) (Im t) L K (by unfold scanBound;omega) R C λh2 ds nd P B Py=>?_
 refine mD ?_;refine mD ⟨_,rfl,(λz=>nomatch z),?_⟩;have kp:∀b o,s.heap.get? b=some o->h2.get? b=some o:=λb o e=>by
  have n:=Bn (B9 e);rw[B.2 b n];show h1.get? b=_;rw[HL.2 b n];exact d _ _ e
 refine⟨.ref s.heap.objs.size,_,I.laid (t':=s.toks) kp (B4 _) (show CO X.prog X.w _ h2 _ (Ef X.prog X.w s.heap.objs.size _ _)from⟨Py,?_,λh1 h2 l d=>l.keep d⟩),rfl,h _ ds (I.AW.fresh (B4 _)) nd P⟩;obtain⟨o,_,_,_,ho,_⟩:=Py;exact⟨o,ho⟩
end
end L2
set_option maxHeartbeats 4000000
namespace Fz
open L2 Lw
theorem yT{α:Type}[DecidableEq α]{l m:List α}(b:l.Nodup)(d:∀k∈l,k∈m)(c:m.length<=l.length):m.Nodup:=by
 induction m generalizing l with
 |nil=>exact LC
 |cons x r g=>
  by_cases hx:x∈r
  .have:=N7 b (λk a=>(List.mem_cons.mp (d k a)).elim (λe=>by rw[e];exact hx) id);rw[CG]at c;omega
  .refine List.nodup_cons.mpr ⟨hx,g (b.erase x) (λk a=>?_) ?_⟩
   .rcases List.mem_cons.mp (d k (List.mem_of_mem_erase a))with e|e
    .subst e;exact absurd a (List.Nodup.not_mem_erase b)
    .exact e
   .rw[CG]at c
    by_cases f:x∈l
    .rw[Me f];omega
    .rw[List.erase_of_not_mem f];omega
theorem iU(ns:List Str):(λa=>(dd ns).any (· == a))=λa=>decide (a∈dd ns):=by
 funext k
 rw[Eo,oE];simp
section
variable[Xw]
variable{E:Ent0}{ss:List Slot}{Z:L2.St}{F H F' H':Hp}{K:ZGX}{js:List Nat}{ta tb tc te:TE}{nx:List Slot->Prop}{R:B6}{xs ys:List PV}{P:Program}{w:World}
theorem qe{k : List PV -> Prop}(h : Wq ss ta λ_ xs => ∃ns : List Str, xs = ns.map PV.str /\ ns.length<64 /\ Wq ss tb λ_ ys => ∃c : List Str, ys = c.map PV.str /\ c.length<64 /\ ∃us : List Str, us.length<64 /\ (∀x ∈ns, x ∈us) /\ (∀x ∈c, x ∈us) /\
   ∀ts:List Str,ts.Nodup->(∀x,x∈ts↔¬ (x∈ns↔x∈c))->sortedS ts=true->k (ts.map PV.str)):
  Wn ss (DB (WZ P w) (BC (Bk (eP P w) (DB (λxs H Q=>∃(p:Addr)(tp:Bool)(ss:List Str),xs=[.ref p]/\DH K tp H p (ss.map V.str)/\ss.length<4000/\∀l,H l=none->Q (.ref l) (upd H l (Ef P w l (λd=>(dd ss).any (· == d)) (dd ss).length))) (BC ta Bj))
   (DB (λxs H Q=>∃(p:Addr)(tp:Bool)(ss:List Str),xs=[.ref p]/\DH K tp H p (ss.map V.str)/\ss.length<4000/\∀l,H l=none->Q (.ref l) (upd H l (Ef P w l (λd=>(dd ss).any (· == d)) (dd ss).length))) (BC tb Bj))) Bj)) k:=⟨λE Z F H Q S q=>
 h.go E Z F H _ S λv tp xs F1 H1 g sv⟨ns,e,L,h2⟩=>by
  subst e;obtain⟨l,vs,rfl,y,r⟩:=sv.seq g.st;rw[r.strs]at y;refine⟨l,tp,ns,rfl,Ey.sq y,by omega,λa A=>?_⟩;have m:=g.st.make A (Ef P w a (λd=>(dd ns).any (· == d)) (dd ns).length)
  refine h2.go E Z F1 _ _ m.st λU C1 ys F2 H2 f Kl⟨c,O,XC,us,W,u1,u2,kk⟩=>?_;subst O;obtain⟨l2,OD,rfl,CY,I⟩:=Kl.seq f.st;rw[I.strs]at CY;refine⟨l2,C1,c,rfl,Ey.sq CY,by omega,λt u=>?_⟩;have j:=f.st.make u (Ef P w t (λd=>(dd c).any (· == d)) (dd c).length)
  have np:DY ss Z a:=g.st.OA A;have g0:=f.hh a _ np (AU (H:=H1) (a:=a) (o:=Ef P w a (λd=>(dd ns).any (· == d)) (dd ns).length))
  have g1:=j.hh a _ np g0;have T:a≠t:=λe=>by subst e;rw[u]at g0;cases g0
  rw[iU ns]at g1;refine⟨a,t,dd ns,dd c,rfl,rfl,T,Vg ns,Vg c,FR (Ow ns) L,FR (Ow c) XC,g1,by rw[<- iU c];exact AU,λC ds WQ B n=>?_⟩;have i:=j.st.make WQ (Ef P w C (λk=>decide (k∈ds)) ds.length);have hd:∀x,x∈ds↔¬ (x∈ns↔x∈c):=λx=>by rw[n x,Y9,Y9]
  have X:ds.length<=us.length:=N7 B λx hx=>by
   by_cases h1:x∈ns
   .exact u1 x h1
   .by_cases h2:x∈c
    .exact u2 x h2
    .exact absurd ⟨λz=>absurd z h1,λz=>absurd z h2⟩ ((hd x).mp hx)
  refine⟨C,_,_,rfl,AU,by omega,λb ts s G N M=>?_⟩;have J:=i.st.make s (.lst (ts.map V.str));have D:∀x,x∈ts↔x∈ds:=λx=>(N x).symm.trans (by simp);have R:=g.trans (m.trans (f.trans (j.trans (i.trans J))));exact q b _ _ F2 _ R (i.st.Cw s) ((g.trans (m.trans (f.trans (j.trans i)))).none s) AU (KZ ts) (kk ts (yT B (λx hx=>(D x).mpr hx) (Z2 G)) (λx=>(D x).trans (hd x)) M)⟩
end
end Fz
set_option maxHeartbeats 400000
namespace Fz
open L2 Lw
variable{c:BH}{cs ns:List Str}{l l1 l2:Lp}{es t:List Et}{g hi i m:Nat}{f f1 r x y:Str}{a:List (Option Str)}
theorem Jd{d:Ag}(ok:d.Ok 40 ns):tell c ns l (.Am (Gg d)::t)=tell c (d.done ns) (l.led ns d) t:=by
 rw[tell,bK ok];have e:toD (Gg d)=d:=by cases d <;> simp[Gg,toD]
 rw[e]
theorem Hv:tell c ns l [.AZ]=some [CI ns l.g l.cs]:=by rw[tell,tell];rfl
theorem gq(h:CI ns g cs=some x):x∈ns/\x∈cs:=J5.mp (List.mem_of_head? h)
theorem vo:CI [x] g cs=if x∈cs then some x else none:=by
 by_cases h:x∈cs
 .rw[o9 h];cases e:CI [x] g cs with
  |none=>
   have q:=List.head?_eq_none_iff.mp e;have m:=(J5 (ns:=[x]) (g:=g) (ss:=cs) (x:=x)).mpr ⟨List.mem_singleton.mpr rfl,h⟩;rw[q]at m;cases m
  |some y=>rw[List.mem_singleton.mp (gq e).1]
 .rw[mL h];cases e:CI [x] g cs with
  |none=>rfl
  |some y=>
   have q:=gq e;rw[List.mem_singleton.mp q.1]at q;exact absurd q.2 h
theorem cX(h:ns[g]?=some x)(hx:x∈cs):CI ns g cs=some x:=by
 unfold CI Cg;obtain⟨a,rfl⟩:=List.getElem?_eq_some_iff.mp h;rw[Yo a,Yq,o9 (show DR cs ns[g]=true from mG hx)];rfl
theorem bN(h:y∈ns.drop g)(a:y∈cs):∃z,CI ns g cs=some z/\z∈ns.drop g:=by
 unfold CI Cg;have m:y∈(ns.drop g).filter (DR cs):=List.mem_filter.mpr ⟨h,mG a⟩;cases e:(ns.drop g).filter (DR cs)with
 |nil=>rw[e]at m;cases m
 |cons z r=>exact⟨z,rfl,(List.mem_filter.mp (e▸BZ)).1⟩
theorem bp(nd:ns.Nodup)(h:ns[i]?=some x)(hi:i<g):x∉ns.drop g:=by
 intro b;obtain⟨j,a⟩:=List.mem_iff_getElem?.mp b;rw[Yr]at a;obtain⟨h1,d⟩:=List.getElem?_eq_some_iff.mp h;obtain⟨h2,c⟩:=List.getElem?_eq_some_iff.mp a;have:=(kH (h₀:=h1) (h₁:=h2) nd).mp (d.trans c.symm);omega
theorem ZEL{l:List Str}(nd:l.Nodup)(h:∀y,y∈l↔y=x):l=[x]:=by
 cases l with
 |nil=>exact absurd ((h x).mpr rfl) (by simp)
 |cons a r=>
  have ea:=(h a).mp BZ;subst ea;cases r with
  |nil=>rfl
  |cons b r=>
   have c:=(h b).mp (C5 _ BZ);subst c;simp at nd
def D8(xs:List Str):List Et:=xs.map λx=>.Am (.take x)
theorem cK{c:BH}:∀(xs:List Str){ns:List Str}{l:Lp}(t:List Et),BX 40 ns->l.Good ns->xs.Nodup->(∀x∈xs,x∈ns)->∃a:Lp,BX 40 (xs.foldl wo ns)/\(∀y,y∈xs.foldl wo ns↔y∈ns/\y∉xs)/\(∀y,y∈a.cs↔y∈l.cs/\y∉xs)/\tell c ns l (D8 xs++t)=tell c (xs.foldl wo ns) a t
 | [],ns,l,t,ro,g,_,_=>⟨l,ro,λy=>by simp,λy=>by simp,rfl⟩
 |x::r,ns,l,t,ro,g,nd,hs=>by
  obtain⟨h1,h2⟩:=List.nodup_cons.mp nd;have ok:(Ag.take x).Ok 40 ns:=hs x BZ;obtain⟨a,j,i,h,f⟩:=cK (c:=c) r (ns:=wo ns x) (l:=l.led ns (.take x)) t (ro.done ok) (BK.led g ok ro.nd) h2 (λy b=>De.mpr ⟨hs y (C5 _ b),λe=>h1 (e▸b)⟩);refine⟨a,j,λy=>?_,λy=>?_,?_⟩
  .rw[Md,i y,De,Cj];exact⟨λ⟨⟨p,q⟩,s⟩=>⟨p,λz=>z.elim q s⟩,λ⟨p,q⟩=>⟨⟨p,λz=>q (.inl z)⟩,λz=>q (.inr z)⟩⟩
  .rw[h y];show y∈wo l.cs x/\_↔_;rw[De,Cj];exact⟨λ⟨⟨p,q⟩,s⟩=>⟨p,λz=>z.elim q s⟩,λ⟨p,q⟩=>⟨⟨p,λz=>q (.inl z)⟩,λz=>q (.inr z)⟩⟩
  .rw[Md,<- f];exact Jd (d:=.take x) ok
theorem XI{xs:List Str}(a:BX 40 ns)(g:l.Good ns)(nd:xs.Nodup)(d:∀x∈xs,x∈ns)(hx:∀y,y∈ns/\y∉xs↔y=x):tell c ns l (D8 xs++[.AZ])=some [if x∈l.cs then some x else none]:=by
 obtain⟨m,k,j,i,f⟩:=cK (c:=c) xs [.AZ] a g nd d;have e:xs.foldl wo ns=[x]:=ZEL k.nd λy=>(j y).trans (hx y);rw[f,e,Hv,vo];have q:=i x;have b:=(hx x).mpr rfl
 by_cases h:x∈l.cs
 .rw[o9 h,o9 (q.mpr ⟨h,b.2⟩)]
 .rw[mL h,mL λz=>h (q.mp z).1]
theorem T6{α:Type}(a:List α)(x:α):(a++[x]).getLast?=some x:=by simp
theorem dS{p q:Prop}[Decidable p][Decidable q](h:¬ (p↔q)):[if p then some x else none]≠[if q then some x else none]:=by
 by_cases b:p <;> by_cases a:q
 .exact absurd ⟨λ_=>a,λ_=>b⟩ h
 .rw[o9 b,mL a];simp
 .rw[mL b,o9 a];simp
 .exact absurd ⟨λz=>absurd z b,λz=>absurd z a⟩ h
theorem BX.le{n:Nat}(h:BX m ns)(a:m<=n):BX n ns:=⟨Bz h.len a,h.nm,h.nd⟩
theorem gH(xs:List Str):(D8 xs).length=xs.length:=Ae _
theorem xP(d:BX 37 ns)(g1:l1.Good ns)(g2:l2.Good ns)(hx:x∈ns)(h:¬ (x∈l1.cs↔x∈l2.cs)):∃a b,Parts c ns l1 l2 (D8 (wo ns x)++[.AZ]) a b:=by
 have g:∀y,y∈ns/\y∉wo ns x↔y=x:=λy=>by
  rw[De];refine⟨λ⟨p,q⟩=>jy λz=>q ⟨p,z⟩,λe=>?_⟩;subst e;exact⟨hx,λz=>z.2 rfl⟩
 have i:(wo ns x).length<=ns.length:=GX _ _;have:=d.len;exact⟨_,_,by rw[Bi,gH];show _+1<=_;omega,T6 _ _,XI (d.le (by decide)) g1 (Q3 d.nd) (λy f=>(De.mp f).1) g,XI (d.le (by decide)) g2 (Q3 d.nd) (λy f=>(De.mp f).1) g,rfl,dS h⟩
theorem Uj(ns:List Str)(x:Str):ins ns x ns.length=ns++[x]:=by unfold ins;rw[Jk,kA]
theorem join_none(g i:Nat):Bp "none" g i=false:=rfl
theorem Rc(g i:Nat):Bp "all" g i=true:=rfl
theorem OE(g i:Nat):Bp "ahead" g i=decide (g<=i):=by
 show decide ((g:Int)<=(i:Int))=_;rw[Eo,oE,oE];omega
theorem Lx(h:r∈IH):r="none" ∨r="ahead" ∨r="all" := by
 unfold IH at h
 simpa using h
theorem XG(a:BX 39 ns)(g:l.Good ns)(hn:Nm f)(b:f∉ns)(hi:i<=ns.length):tell c ns l (.Am (.put f i)::D8 ns++[.AZ])=some [if Bp l.r l.g i=true then some f else none]:=by
 have m:=a.len;have ok:(Ag.put f i).Ok 40 ns:=⟨hn,b,hi,by omega⟩;have e:=Jd (c:=c) (l:=l) (d:=.put f i) (t:=D8 ns++[.AZ]) ok;refine e.trans ?_;have k:f∉l.cs:=λz=>b (g.sub f z);rw[XI (x:=f) (l:=l.led ns (.put f i)) ((a.le (by decide)).done ok) (BK.led g ok a.nd) a.nd (λy j=>Jt.mpr (.inr j)) (λy=>by
  show y∈ins ns f i/\_↔_;rw[Jt];refine⟨λ⟨p,q⟩=>p.elim id λz=>absurd z q,λe=>⟨.inl e,λz=>b (e▸z)⟩⟩)]
 show some [if f∈(if Bp l.r l.g i=true then Bx l.cs f else l.cs)then some f else none]=_
 by_cases h:Bp l.r l.g i=true
 .rw[o9 h,o9 h,o9 (IE.mpr (.inl rfl))]
 .rw[mL h,mL h,mL k]
theorem se(d:BX 37 ns)(g1:l1.Good ns)(g2:l2.Good ns)(hn:Nm f)(j:f∉ns)(i:l1.r≠l2.r)(k:l1.r="none" ∨l2.r="none"):∃a b,Parts c ns l1 l2 (.Am (.put f ns.length)::D8 ns++[.AZ]) a b:=by
 have m:=d.len;have h:∀{l:Lp},l.Good ns->(Bp l.r l.g ns.length=true↔l.r ≠"none"):=λ{l}g=>by
  rcases Lx g.rule with e|e|e
  .rw[e,join_none];simp
  .rw[e,OE];have:=g.g1;simp only[oE];exact⟨λ_=>by decide,λ_=>by omega⟩
  .rw[e,Rc];exact⟨λ_=>by decide,λ_=>rfl⟩
 refine⟨_,_,by rw[Bi,CG,gH];show _+1<=_;omega,T6 _ _,XG (d.le (by decide)) g1 hn j (B4 _),XG (d.le (by decide)) g2 hn j (B4 _),rfl,dS ?_⟩;rw[h g1,h g2];rcases k with e|e
 .rw[e];exact λz=>(z.mpr λw=>i (e.trans w.symm)) rfl
 .rw[e];exact λz=>(z.mp λw=>i (w.trans e.symm)) rfl
theorem Ii(b:BX 37 ns)(g:l.Good ns)(hn:Nm f)(k:f∉ns)(m:l.r ≠"none"):(l.led ns (.put f ns.length))=⟨l.r,l.g,Bx l.cs f⟩/\Lp.Good (ns++[f]) ⟨l.r,l.g,Bx l.cs f⟩/\tell c ns l (.Am (.put f ns.length)::t)=tell c (ns++[f]) ⟨l.r,l.g,Bx l.cs f⟩ t:=by
 have n:=b.len;have o:=g.g1;have ok:(Ag.put f ns.length).Ok 40 ns:=⟨hn,k,B4 _,by omega⟩;have j:Bp l.r l.g ns.length=true:=by
  rcases Lx g.rule with e|e|e
  .exact absurd e m
  .rw[e,OE];exact mG (by omega)
  .rw[e,Rc]
 have a:l.led ns (.put f ns.length)=⟨l.r,l.g,Bx l.cs f⟩:=by
  show(⟨l.r,Cd ns.length l.g,if Bp l.r l.g ns.length=true then Bx l.cs f else l.cs⟩:Lp)=_
  rw[o9 j];unfold Cd;rw[mL (by omega)]
 have q:=BK.led g ok b.nd;have i:Ag.done ns (.put f ns.length)=ns++[f]:=Uj ns f;have h:Lp.Good (Ag.done ns (.put f ns.length)) (l.led ns (.put f ns.length)):=q;rw[a,i]at h;refine⟨a,h,?_⟩;have e:=Jd (c:=c) (l:=l) (d:=.put f ns.length) (t:=t) ok;rw[a,i]at e;exact e
theorem row_end(c:BX m ns)(hn:Nm f)(d:f∉ns):BX (m+1) (ns++[f]):=⟨by rw[Bi];exact ZFN c.len,λx hx=>(List.mem_append.mp hx).elim (c.nm x) λz=>by rw[List.mem_singleton.mp z];exact hn,by
 rw[Er];exact⟨c.nd,kN _ f,λa h b g e=>by rw[List.mem_singleton.mp g]at e;exact d (e▸h)⟩⟩
theorem rb{b:List (Option Str)}(e:tell c ns l1 [.Am (.put f ns.length),.AZ]=some a)(d:tell c ns l2 [.Am (.put f ns.length),.AZ]=some b)(h:a≠b):Parts c ns l1 l2 [.Am (.put f ns.length),.AZ] a b:=by
 have i:=Kf e;have g:=Kf d;refine⟨by show 2<=100;decide,rfl,e,d,?_,h⟩;obtain⟨x,rfl⟩:=List.length_eq_one_iff.mp (show a.length=1 from i);obtain⟨y,rfl⟩:=List.length_eq_one_iff.mp (show b.length=1 from g);rfl
theorem oK(d:BX 37 ns)(g1:l1.Good ns)(g2:l2.Good ns)(D:l1.cs=l2.cs)(j:l1.r≠l2.r)(h1:l1.r ≠"none")(h2:l2.r ≠"none")(hn:Nm f)(h:f∉ns)(MH:Nm f1)(Yc:f1∉ns)(JC:f1≠f)
  (n:tell c ns l1 [.Am (.put f ns.length),.AZ]=some a) (m:tell c ns l2 [.Am (.put f ns.length),.AZ]=some a):∃a b,Parts c ns l1 l2 (.Am (.put f ns.length) :: .AZ :: .Am (.put f1 0)::D8 (ns++[f])++[.AZ]) a b:=by
 obtain⟨_,p1,_⟩:=Ii (c:=c) (t:=[]) d g1 hn h h1;obtain⟨_,p2,_⟩:=Ii (c:=c) (t:=[]) d g2 hn h h2;have u:=row_end d hn h;have C:f1∉ns++[f]:=λz=>(List.mem_append.mp z).elim Yc λw=>JC (List.mem_singleton.mp w);rw[(Ii d g1 hn h h1).2.2,Hv]at n;rw[(Ii d g2 hn h h2).2.2,Hv]at m;cases n;have A:CI (ns++[f]) l2.g (Bx l2.cs f)=CI (ns++[f]) l1.g (Bx l1.cs f):=by injection m with z;injection z
 have s:∃y,CI (ns++[f]) l1.g (Bx l1.cs f)=some y:=by
  have g0:=p1.g1;have k:f∈Cg (ns++[f]) l1.g (Bx l1.cs f):=J5.mpr ⟨List.mem_append.mpr (.inr (List.mem_singleton.mpr rfl)),IE.mpr (.inl rfl)⟩;unfold CI;cases e:Cg (ns++[f]) l1.g (Bx l1.cs f)with
  |nil=>rw[e]at k;cases k
  |cons z r=>exact⟨z,rfl⟩
 obtain⟨y,o⟩:=s;have go:∀{l:Lp},l.Good ns->l.r ≠"none" -> CI (ns++[f]) l.g (Bx l.cs f)=some y->tell c ns l (.Am (.put f ns.length) :: .AZ :: .Am (.put f1 0)::D8 (ns++[f])++[.AZ])=some [some y,if l.r="all" then some f1 else none]:=λ{l}g Ai e=>by
  obtain⟨_,p,q⟩:=Ii (c:=c) (t:=.AZ :: .Am (.put f1 0)::D8 (ns++[f])++[.AZ]) d g hn h Ai;refine q.trans ?_;have st:=(ir p).1;show tell c (ns++[f]) _ (.AZ::(.Am (.put f1 0)::D8 (ns++[f])++[.AZ]))=_;rw[tell];have x:=XG (c:=c) (l:=Lp.AZ (ns++[f]) ⟨l.r,l.g,Bx l.cs f⟩) (i:=0) (u.le (by decide)) st MH C (CK _);have v:tell c (ns++[f]) (Lp.AZ (ns++[f]) ⟨l.r,l.g,Bx l.cs f⟩) (.Am (.put f1 0)::D8 (ns++[f])++[.AZ])=_:=x;rw[v];have B:(Lp.AZ (ns++[f]) ⟨l.r,l.g,Bx l.cs f⟩).g=(ns++[f]).idxOf y+1:=by
   show Hz _ _ _=_;unfold Hz;rw[show CI (ns++[f]) l.g (Bx l.cs f)=some y from e]
  show some ([CI (ns++[f]) l.g (Bx l.cs f)]++[if Bp l.r _ 0=true then some f1 else none])=_
  rw[B,e];rcases Lx g.rule with z|z|z
  .exact absurd z Ai
  .rw[z,OE,mL (by simp),mL (by decide)];rfl
  .rw[z,Rc,o9 rfl,o9 rfl];rfl
 refine⟨_,_,?_,T6 _ _,go g1 h1 o,go g2 h2 (A.trans o),rfl,?_⟩
 .have:=d.len;simp[D8];omega
 .intro z;injection z with _ z
  injection z with z _
  rcases Lx g1.rule with e1|e1|e1 <;> rcases Lx g2.rule with e2|e2|e2
  .exact h1 e1
  .exact h1 e1
  .exact h1 e1
  .exact h2 e2
  .exact j (e1.trans e2.symm)
  .rw[e1,e2,mL (by decide),o9 rfl]at z;cases z
  .exact h2 e2
  .rw[e1,e2,o9 rfl,mL (by decide)]at z;cases z
  .exact j (e1.trans e2.symm)
theorem b5{lo hi:Lp}{z:Str}(d:es.length<=100)(f:es.getLast?=some .AZ)(h:(l1=lo/\l2=hi)∨(l1=hi/\l2=lo))(a:tell c ns lo es=some [some x])(b:tell c ns hi es=some [some z])(hx:z≠x):∃a b,Parts c ns l1 l2 es a b:=by
 rcases h with⟨rfl,rfl⟩|⟨rfl,rfl⟩
 .exact⟨_,_,d,f,a,b,rfl,λe=>hx (by injection e with e;injection e with e;exact e.symm)⟩
 .exact⟨_,_,d,f,b,a,rfl,λe=>hx (by injection e with e;injection e with e)⟩
theorem ZDv(h:i<=ns.length):(ins ns x i)[i]?=some x:=by
 unfold ins;rw[Ji (by rw[Bu];omega),Bu,Ht h,Nat.sub_self];rfl
theorem ZK:(ins ns x i).length=ns.length+1:=by
 unfold ins;rw[Bi,CG,Bu,D5];omega
theorem ZD4{lo hi:Lp}(m:BX 37 ns)(p:lo.Good ns)(C:hi.Good ns)(Aa:lo.g<hi.g)(A:lo.r=hi.r)(Ai:lo.r ≠"none")(h:(l1=lo/\l2=hi)∨(l1=hi/\l2=lo))(hn:Nm f)(B:f∉ns)(MH:Nm f1)(Yc:f1∉ns)(JC:f1≠f):
  ∃a b,Parts c ns l1 l2 [.Am (.put f lo.g),.Am (.put f1 (ns.length+1:Nat)),.AZ] a b:=by
 have K:=m.len;have M:=p.g1;have L:=C.g1;have s:(Ag.put f lo.g).Ok 40 ns:=⟨hn,B,by omega,by omega⟩;have H:BX 40 (ins ns f lo.g):=(m.le (by decide)).done s;have v:(ins ns f lo.g).length=ns.length+1:=ZK;have G:f1∉ins ns f lo.g:=λz=>(Jt.mp z).elim JC Yc;have u:(Ag.put f1 (ns.length+1)).Ok 40 (ins ns f lo.g):=⟨MH,G,by omega,by omega⟩;have q:Ag.done (ins ns f lo.g) (.put f1 (ns.length+1))=ins ns f lo.g++[f1]:=by
  show ins _ _ _=_;rw[<- v,Uj]
 have I:BX 40 (ins ns f lo.g++[f1]):=q▸H.done u;have tl:∀l:Lp,tell c ns l [.Am (.put f lo.g),.Am (.put f1 (ns.length+1:Nat)),.AZ]=some [CI (ins ns f lo.g++[f1]) ((l.led ns (.put f lo.g)).led (ins ns f lo.g) (.put f1 (ns.length+1))).g ((l.led ns (.put f lo.g)).led (ins ns f lo.g) (.put f1 (ns.length+1))).cs]:=λl=>by
  have e:=Jd (c:=c) (l:=l) (d:=.put f lo.g) (t:=[.Am (.put f1 (ns.length+1:Nat)),.AZ]) s;refine e.trans ?_;have D:=Jd (c:=c) (l:=l.led ns (.put f lo.g)) (d:=.put f1 (ns.length+1)) (t:=[.AZ]) u;refine D.trans ?_;rw[q,Hv]
 have o:(ins ns f lo.g++[f1])[lo.g]?=some f:=by rw[Fp (by omega)];exact ZDv (by omega)
 have n:∀g i:Nat,g<=i->Bp lo.r g i=true:=λg i x=>by
  rcases Lx p.rule with e|e|e
  .exact absurd e Ai
  .rw[e,OE];exact mG x
  .rw[e,Rc]
 have F:CI (ins ns f lo.g++[f1]) ((lo.led ns (.put f lo.g)).led (ins ns f lo.g) (.put f1 (ns.length+1))).g ((lo.led ns (.put f lo.g)).led (ins ns f lo.g) (.put f1 (ns.length+1))).cs=some f:=by
  have k:((lo.led ns (.put f lo.g)).led (ins ns f lo.g) (.put f1 (ns.length+1))).g=lo.g:=by
   show Cd (ns.length+1) (Cd lo.g lo.g)=lo.g;unfold Cd;rw[mL (by omega:¬ lo.g<lo.g),mL (by omega)]
  rw[k];refine cX o ?_;show f∈(if Bp lo.r _ _=true then Bx (if Bp lo.r lo.g lo.g=true then Bx lo.cs f else lo.cs) f1 else(if Bp lo.r lo.g lo.g=true then Bx lo.cs f else lo.cs))
  have:f∈(if Bp lo.r lo.g lo.g=true then Bx lo.cs f else lo.cs):=by rw[o9 (n _ _ (B4 _))];exact IE.mpr (.inl rfl)
  split
  .exact IE.mpr (.inr this)
  .exact this
 have E:∃z,CI (ins ns f lo.g++[f1]) ((hi.led ns (.put f lo.g)).led (ins ns f lo.g) (.put f1 (ns.length+1))).g ((hi.led ns (.put f lo.g)).led (ins ns f lo.g) (.put f1 (ns.length+1))).cs=some z/\z≠f:=by
  have k:((hi.led ns (.put f lo.g)).led (ins ns f lo.g) (.put f1 (ns.length+1))).g=hi.g+1:=by
   show Cd (ns.length+1) (Cd lo.g hi.g)=hi.g+1;unfold Cd;rw[o9 Aa,mL (by omega)]
  have J:f1∈((hi.led ns (.put f lo.g)).led (ins ns f lo.g) (.put f1 (ns.length+1))).cs:=by
   show f1∈(if Bp hi.r (Cd lo.g hi.g) (ns.length+1)=true then Bx _ f1 else _)
   rw[<- A,o9 (n _ _ (by unfold Cd;rw[o9 Aa];omega))];exact IE.mpr (.inl rfl)
  rw[k];obtain⟨z,j,IX⟩:=bN (ns:=ins ns f lo.g++[f1]) (g:=hi.g+1) (y:=f1) (by
   rw[List.drop_append_of_le_length (by omega)];exact List.mem_append.mpr (.inr (List.mem_singleton.mpr rfl))) J
  exact⟨z,j,λe=>bp I.nd o (by omega:lo.g<hi.g+1) (e▸IX)⟩
 obtain⟨z,j,w⟩:=E;exact b5 (by show 3<=100;decide) rfl h ((tl lo).trans (by rw[F])) ((tl hi).trans (by rw[j])) w
theorem gu{lo:Nat}(h1:lo<=i)(h2:i<hi)(a:hi<=ns.length):(C0 ns lo hi)[i]?=ns[lo+hi - 1 - i]?:=by
 unfold C0;have l1:(ns.take lo).length=lo:=by rw[Bu];omega
 have l2:((ns.drop lo).take (hi - lo)).reverse.length=hi - lo:=by rw[Mf,Bu,D5];omega
 rw[Fp (by rw[Bi,l1,l2];omega),Ji (by omega),l1,ZF6 (by rw[Bu,D5];omega),kG (by rw[Bu,D5];omega),Yr]
 congr 1
 rw[Bu,D5];omega
theorem nU{lo:Nat}(h1:lo<=hi)(h2:hi<=i)(a:hi<=ns.length):(C0 ns lo hi)[i]?=ns[i]?:=by
 unfold C0;rw[Ji (by rw[Bi,Mf,Bu,Bu,D5];omega),Yr]
 congr 1
 rw[Bi,Mf,Bu,Bu,D5];omega
theorem ZDU{lo:Nat}(h:i<lo)(a:lo<=ns.length):(C0 ns lo hi)[i]?=ns[i]?:=by
 unfold C0;rw[Fp (by rw[Bi,Bu];omega),Fp (by rw[Bu];omega),kG h]
theorem uD{lo hi:Lp}{x0 i:Str}{e k:Nat}(m:BX 37 ns)(L:lo.Good ns)(M:hi.Good ns)(Aa:lo.g<hi.g)(x:lo.r="none")(E:hi.r="none")(K:lo.cs=hi.cs)(h:(l1=lo/\l2=hi)∨(l1=hi/\l2=lo))(hn:Nm f)(q:f∉ns)
  (J:ns[e]?=some x0) (p:ns[k]?=some i) (H:e<k) (G:x0∈lo.cs) (F:i∈lo.cs) :
  ∃a b,Parts c ns l1 l2 [.Am (.put f ns.length),.Am (.turn k (ns.length+1:Nat)),.Am (.turn (min e lo.g:Nat) (max e lo.g+1:Nat)),.AZ] a b:=by
 have V:=m.len;have Y:=L.g1;have X:=M.g1;have I:=(List.getElem?_eq_some_iff.mp p).1;have S:(Ag.put f ns.length).Ok 40 ns:=⟨hn,q,B4 _,by omega⟩;have P:Ag.done ns (.put f ns.length)=ns++[f]:=Uj ns f;have Q:BX 40 (ns++[f]):=(row_end m hn q).le (by decide);have v:(ns++[f]).length=ns.length+1:=by simp
 have u:(Ag.turn k (ns.length+1)).Ok 40 (ns++[f]):=⟨by omega,by omega⟩;have R:BX 40 (C0 (ns++[f]) k (ns.length+1)):=Q.done u;have U:(C0 (ns++[f]) k (ns.length+1)).length=ns.length+1:=(TV (by omega) (by omega)).trans v;have n:(Ag.turn (min e lo.g) (max e lo.g+1)).Ok 40 (C0 (ns++[f]) k (ns.length+1)):=⟨by omega,by omega⟩;have j:BX 40 (C0 (C0 (ns++[f]) k (ns.length+1)) (min e lo.g) (max e lo.g+1)):=R.done n;have tl:∀l:Lp,l.r="none" -> l.g<=ns.length->tell c ns l [.Am (.put f ns.length),.Am (.turn k (ns.length+1:Nat)),.Am (.turn (min e lo.g:Nat) (max e lo.g+1:Nat)),.AZ]=some [CI (C0 (C0 (ns++[f]) k (ns.length+1)) (min e lo.g) (max e lo.g+1)) l.g l.cs]:=λl o W=>by
  have C:=Jd (c:=c) (l:=l) (d:=.put f ns.length) (t:=[.Am (.turn k (ns.length+1:Nat)),.Am (.turn (min e lo.g:Nat) (max e lo.g+1:Nat)),.AZ]) S;refine C.trans ?_;have O:l.led ns (.put f ns.length)=l:=by
   show(⟨l.r,Cd ns.length l.g,if Bp l.r l.g ns.length=true then Bx l.cs f else l.cs⟩:Lp)=l
   rw[o,join_none,mL (by decide),<- o];unfold Cd;rw[mL (by omega)]
  rw[O,P];have B:=Jd (c:=c) (l:=l) (d:=.turn k (ns.length+1)) (t:=[.Am (.turn (min e lo.g:Nat) (max e lo.g+1:Nat)),.AZ]) u;refine B.trans ?_;have A:=Jd (c:=c) (l:=l) (d:=.turn (min e lo.g) (max e lo.g+1)) (t:=[.AZ]) n;exact A.trans Hv
 have s:(C0 (C0 (ns++[f]) k (ns.length+1)) (min e lo.g) (max e lo.g+1))[lo.g]?=some x0:=by
  rw[gu (by omega) (by omega) (by omega),show min e lo.g+(max e lo.g+1) - 1 - lo.g=e by omega,ZDU H (by omega),Fp (by omega)];exact J
 have T:(C0 (C0 (ns++[f]) k (ns.length+1)) (min e lo.g) (max e lo.g+1))[ns.length]?=some i:=by
  rw[nU (by omega) (by omega) (by omega),gu (by omega) (by omega) (by omega),show k+(ns.length+1) - 1 - ns.length=k by omega,Fp (by omega)];exact p
 obtain⟨z,N,IX⟩:=bN (ns:=C0 (C0 (ns++[f]) k (ns.length+1)) (min e lo.g) (max e lo.g+1)) (g:=hi.g) (cs:=hi.cs) (y:=i) (List.mem_iff_getElem?.mpr ⟨ns.length - hi.g,by rw[Yr,show hi.g+(ns.length - hi.g)=ns.length by omega];exact T⟩) (K▸F);have D:z≠x0:=λw=>bp j.nd s Aa (w▸IX);exact b5 (by show 4<=100;decide) rfl h ((tl lo x (by omega)).trans (by rw[cX s G])) ((tl hi E (by omega)).trans (by rw[N])) D
end Fz
set_option maxHeartbeats 4000000
namespace Fz
open L2 Lw
@[reducible] def xwM (X:XK) (t:OV) (D:Ex->Prop):Xw:=⟨λ_=>X,λss=>ss[0]?=some (.ow true t),D⟩
end Fz
namespace Fz
open L2 Lw
def N8(z:Str):List PV:=z.cps.toList.map λc=>PV.str ⟨#[c]⟩
section
variable[Xw]
variable{E:Ent0}{ss:List Slot}{Z:L2.St}{F H F' H':Hp}{K:ZGX}{i:Nat}{t:OV}{ta tb tc te:TE}{nx:List Slot->Prop}{R:B6}
theorem jH{k:List PV->Prop}(h:Wp ss te λp=>∃z,p=.str z/\k (N8 z)):Wi ss (Vf te) k:=⟨λE Z F H R S q=>
 h.go E Z F H _ S λv p F1 H1 b r AM=>by
  obtain⟨z,e,kk⟩:=AM;subst e;cases r.inv;have a:(N8 z).length=z.cps.size:=by unfold N8;rw[Ae,Dm]
  refine⟨z,rfl,q _ (N8 z) F1 H1 b ⟨λss Z F H i s S hi=>?_,λss Z F H s S=>?_,λss Z F H i x H' s S hi y=>?_⟩ kk⟩
  .rw[a]at hi;exact hi
  .exact a
  .obtain⟨e,c,d,ex⟩:=y;subst e;subst ex;refine⟨.str ⟨#[c]⟩,F,?_,.refl S,.str _⟩;unfold N8;rw[Bt,OX,d];rfl⟩
end
end Fz
set_option maxHeartbeats 400000
namespace Fz
open L2 Lw
variable{q:Option Addr}{ns r xs:List Str}{c:BH}{l1 l2:Lp}{b es:List Et}{α:Type}
def C8(q:Option Addr):Et->PV
 | .AZ=>match q with
  |none=>.tup [.str "step"]
  |some a=>.con a [.str "step"]
 | .Am d=>aP d
def DX(K:ZGX)(q:Option Addr):Prop:=∀a,q=some a->Co K a [.str "step"]
theorem dZ(q:Option Addr)(e:Et):BO (C8 q e) (.tup [.str "step"])=Jo e:=by
 cases e with
 |AZ=>cases q <;> simp[C8,BO,CF,Jo]
 |Am d=>cases d <;> (unfold C8 aP;rw[BO,Kz _ _ (by simp)];rfl)
theorem fB(q:Option Addr)(e:Et)(a:Addr):BO (C8 q e) (.con a [.str "step"])=Jo e:=by
 cases e with
 |AZ=>cases q <;> simp[C8,BO,CF,Jo]
 |Am d=>cases d <;> (unfold C8 aP;rw[BO,Kz _ _ (by simp)];rfl)
theorem NH{K:ZGX}(b:DX K q)(n:Nat)(e:Et):dat K (n+1) (C8 q e):=by
 cases e with
 |AZ=>
  cases q with
  |none=>exact RA K n .AZ
  |some a=>exact(b a rfl).dat (λx hx=>by rw[List.mem_singleton.mp hx];cases n <;> trivial)
 |Am d=>exact RA K n (.Am d)
theorem qA{K:ZGX}(a:DX K q)(n:Nat)(es:List Et):dat K (n+2) (.lst (es.map (C8 q))):=λx hx=>by obtain⟨o,_,rfl⟩:=List.mem_map.mp hx;exact NH a n o
def VF(K:ZGX)(c:BH):Pre:=λl R=>∃(q:Option Addr)(ns:List Str)(l1 l2:Lp)(es:List Et),DX K q/\l=[.sq false (ns.map .str),.is l1.P,.is l2.P,.sq false (es.map (C8 q))]/\Lu ns l1 l2 es/\R=.is (TrR c ns l1 l2 es)
def W8(K:ZGX)(c:BH):Pre:=λl R=>∃(q:Option Addr)(ns:List Str)(l1 l2:Lp)(es:List Et),DX K q/\l=[.sq false (ns.map .str),.is l1.P,.is l2.P,.sq false (es.map (C8 q))]/\Lu ns l1 l2 es/\R=.is (ZJ c ns l1 l2 es)
def Np(K:ZGX)(c:BH):EE:=λl R D=>∃(q:Option Addr)(tp:Bool)(ns:List Str)(l1:Lp)(es:List Et),DX K q/\l=[.sq tp (ns.map .str),.is l1.P,.sq false (es.map (C8 q))]/\Lu ns l1 l1 es/\(R=.new λxs=>∃a,tell c ns l1 es=some a/\a.length<=es.length/\xs=a.map BL)/\D=λe=>tell c ns l1 es=none/\∃j v,Lm c e j v
def VQ(K:ZGX)(c:BH):Pre:=λl R=>∃(q:Option Addr)(tp:Bool)(ns:List Str)(l1 l2:Lp)(es:List Et)(a b:List (Option Str)),DX K q/\l=[.sq tp (ns.map .str),.is l1.P,.is l2.P,.sq false (es.map (C8 q)),.is (.lst (a.map BL)),.is (.lst (b.map BL))]/\Lu ns l1 l2 es/\ns.length<=37/\R=.is λp=>∃t:Bool,p=.bl t/\(t=true↔Parts c ns l1 l2 es a b)
noncomputable def ZB1:List Str:=["aa","ba","ca","da","ea","fa","ga","ha","ia","ja","ka","la","ma","na","oa","pa","qa","ra","sa","ta","ua","va","wa","xa","ya","za"]
noncomputable def uX:List Str:=["ab","bb","cb","db","eb","fb","gb","hb","ib","jb","kb","lb","mb","nb","ob","pb","qb","rb","sb","tb","ub","vb","wb","xb","yb","zb"]
def IJ:List Str:=ZB1++uX
theorem Qs:IJ.Nodup/\IJ.all (λx=>decide (Nm x))=true/\IJ.length=52:=by decide +kernel
def Bc(ns:List Str):List Str:=IJ.filter λx=>!decide (x∈ns)
theorem b7{x:Str}(h:x∈Bc ns):Nm x/\x∉ns:=by
 obtain⟨h1,h2⟩:=List.mem_filter.mp h;exact⟨mP (List.all_eq_true.mp Qs.2.1 x h1),by simpa using h2⟩
theorem bV{α:Type}(p:α->Bool):∀l:List α,(l.filter p).length+(l.filter λx=>!p x).length=l.length
 | []=>rfl
 |x::r=>by
  have:=bV p r;rw[Yq,Yq];cases p x
  .simp only[Bool.not_false,ZAm,CG,ZEu,ZB3];omega
  .simp only[Bool.not_true,ZAm,CG,ZEu,ZB3];omega
theorem Ol(g:ns.length<=37):∃f f1 r,Bc ns=f::f1::r/\Nm f/\f∉ns/\Nm f1/\f1∉ns/\f1≠f:=by
 have nd:(Bc ns).Nodup:=Qs.1.filter _;have i:(IJ.filter λx=>decide (x∈ns)).length<=ns.length:=N7 (Qs.1.filter _) λx hx=>by simpa using(List.mem_filter.mp hx).2
 have h:=bV (λx=>decide (x∈ns)) IJ;have d:=Qs.2.2;have a:(Bc ns).length>=2:=by
  have:(Bc ns).length=(IJ.filter λx=>!decide (x∈ns)).length:=rfl;omega
 cases e:Bc ns with
 |nil=>rw[e]at a;simp at a
 |cons f r=>
  cases r with
  |nil=>rw[e]at a;simp at a
  |cons f1 r=>
   have c:=b7 (ns:=ns) (x:=f) (by rw[e];exact BZ);have b:=b7 (ns:=ns) (x:=f1) (by rw[e];exact C5 _ BZ);rw[e]at nd;exact⟨f,f1,r,rfl,c.1,c.2,b.1,b.2,λz=>(List.nodup_cons.mp nd).1 (by rw[z];exact BZ)⟩
def EG(l1 l2:Lp):Prop:=(l1.r=l2.r/\l1.cs=l2.cs)/\(l1.g=l2.g∨(l1.r="none" /\ l1.cs.length<=1))
instance (l1 l2:Lp):Decidable (EG l1 l2):=by unfold EG;infer_instance
def Nf(ns cs:List Str)(gap:Nat)(f:Str):List Et:=match ns.filter (DR cs)with
 |x0::x1::_=>[.Am (.put f ns.length),.Am (.turn (ns.idxOf x1) (ns.length+1:Nat)),.Am (.turn (min (ns.idxOf x0) gap:Nat) (max (ns.idxOf x0) gap+1:Nat)),.AZ]
 |_=>[]
def Nb(c:BH)(ns:List Str)(l1 l2:Lp)(f f1:Str):List Et:=
 if l1.r="none" ∨l2.r="none" then .Am (.put f ns.length)::D8 ns++[.AZ]else
 if tell c ns l1 [.Am (.put f ns.length),.AZ]≠tell c ns l2 [.Am (.put f ns.length),.AZ]then[.Am (.put f ns.length),.AZ]else
 .Am (.put f ns.length) :: .AZ :: .Am (.put f1 0)::D8 (ns++[f])++[.AZ]
def Nv(ns:List Str)(l1 l2:Lp)(f f1:Str):List Et:=
 if l1.r="none" then Nf ns l1.cs (min l1.g l2.g) f else[.Am (.put f (min l1.g l2.g:Nat)),.Am (.put f1 (ns.length+1:Nat)),.AZ]
def iA(ns:List Str)(l1 l2:Lp)(es:List Et):Prop:=∃x r,(x::r).Nodup/\sortedS (x::r)=true/\(∀y,y∈x::r↔¬ (y∈l1.cs↔y∈l2.cs))/\es=D8 (wo ns x)++[.AZ]
def Tr(c:BH)(ns:List Str)(l1 l2:Lp)(es:List Et):Prop:=(l1.cs≠l2.cs/\iA ns l1 l2 es)∨(l1.cs=l2.cs/\∃f f1 r,Bc ns=f::f1::r/\es=if l1.r=l2.r then Nv ns l1 l2 f f1 else Nb c ns l1 l2 f f1)
theorem Tr.one{Bs:List Et}(h:Tr c ns l1 l2 es)(h':Tr c ns l1 l2 Bs):es=Bs:=by
 rcases h with⟨a,x,r,l,s1,n,rfl⟩|⟨a,f,f1,r,e,rfl⟩ <;> rcases h' with⟨b,i,d,k,s2,m,rfl⟩|⟨b,o,Y8,d,g,rfl⟩
 .have j:(x::r).Perm (i::d):=(List.perm_ext_iff_of_nodup l k).mpr λy=>(n y).trans (m y).symm;have:=ZCx j s1 s2;injection this with z _
  rw[z]
 .exact absurd b a
 .exact absurd a b
 .rw[e]at g;injection g with z1 z2
  injection z2 with z2 _
  rw[z1,z2]
theorem bj{cs:List Str}(up:Up cs)(c:∀x∈cs,x∈ns)(h:2<=cs.length):∃x0 a r,ns.filter (DR cs)=x0::a::r:=by
 have b:cs.length<=(ns.filter (DR cs)).length:=N7 (NZ up) λx hx=>List.mem_filter.mpr ⟨c x hx,mG hx⟩;cases e:ns.filter (DR cs)with
 |nil=>rw[e,SD]at b;omega
 |cons x0 r=>cases r with
  |nil=>rw[e,ZFA]at b;omega
  |cons a r=>exact⟨x0,a,r,rfl⟩
theorem WJ{p:Str->Bool}{x0 a:Str}(nd:ns.Nodup)(h:ns.filter p=x0::a::r):x0∈ns/\a∈ns/\p x0=true/\p a=true/\ns.idxOf x0<ns.idxOf a:=by
 have b:=List.mem_filter.mp (show x0∈ns.filter p by rw[h];exact BZ);have c:=List.mem_filter.mp (show a∈ns.filter p by rw[h];exact C5 _ BZ);refine⟨b.1,c.1,b.2,c.2,?_⟩;have sub:[x0,a].Sublist ns:=(List.Sublist.trans (by rw[h];exact List.Sublist.cons_cons _ (List.Sublist.cons_cons _ (ZFD r))) List.filter_sublist);clear h
 induction ns with
 |nil=>cases b.1
 |cons y t k=>
  obtain⟨j,i⟩:=List.nodup_cons.mp nd
  by_cases e:y=x0
  .subst e;have m:y≠a:=λz=>by
    have:=sub.nodup nd;rw[z]at this;simp at this
   rw[List.idxOf_cons_self,Yv,show(y == a)=false from by simpa using m];exact Z4 _
  .have d:[x0,a].Sublist t:=by
    cases sub with
    |cons _ s=>exact s
    |cons_cons _ s=>exact absurd rfl e
   have g:x0∈t:=d.subset BZ;have f:a∈t:=d.subset (C5 _ BZ);have l:y≠a:=λz=>j (z▸f);rw[Yv,Yv,show(y == a)=false from by simpa using l,show(y == x0)=false from by simpa using e]
   have:=k i ⟨g,b.2⟩ ⟨f,c.2⟩ d;exact Nat.succ_lt_succ this
theorem Tr.parts(d:BX 37 ns)(g1:l1.Good ns)(g2:l2.Good ns)(q:¬ EG l1 l2)(h:Tr c ns l1 l2 es):∃a b,Parts c ns l1 l2 es a b:=by
 have F:=d.len;rcases h with⟨k,x,r,o,s1,l,rfl⟩|⟨k,f,f1,r,e,rfl⟩
 .have hx:=(l x).mp BZ;have C:x∈ns:=by
   by_cases h1:x∈l1.cs
   .exact g1.sub x h1
   .by_cases h2:x∈l2.cs
    .exact g2.sub x h2
    .exact absurd ⟨λz=>absurd z h1,λz=>absurd z h2⟩ hx
  exact xP d g1 g2 C hx
 .obtain⟨M,Y8,K,y,n0,j,o,l,JC⟩:=Ol F;rw[e]at y;injection y with z1 z2
  injection z2 with z2 _
  subst z1;subst z2
  by_cases i:l1.r=l2.r
  .rw[o9 i];unfold Nv;have L:l1.g≠l2.g:=λz=>q ⟨⟨i,k⟩,.inl z⟩;have go:∃lo hi:Lp,((l1=lo/\l2=hi)∨(l1=hi/\l2=lo))/\lo.Good ns/\hi.Good ns/\lo.g<hi.g/\lo.r=l1.r/\hi.r=l1.r/\lo.cs=l1.cs/\hi.cs=l1.cs/\min l1.g l2.g=lo.g:=by
    by_cases G:l1.g<l2.g
    .exact⟨l1,l2,.inl ⟨rfl,rfl⟩,g1,g2,G,rfl,i.symm,rfl,k.symm,by omega⟩
    .exact⟨l2,l1,.inr ⟨rfl,rfl⟩,g2,g1,by omega,i.symm,rfl,k.symm,rfl,by omega⟩
   obtain⟨lo,hi,hh,u,v,Aa,n,p,cl,ch,H⟩:=go;rw[H]
   by_cases hn:l1.r="none"
   .rw[o9 hn];have h2:2<=l1.cs.length:=ZFJ λz=>q ⟨⟨i,k⟩,.inr ⟨hn,z⟩⟩;obtain⟨x0,B,J,w⟩:=bj g1.up g1.sub h2;obtain⟨i0,E,D,p1,A⟩:=WJ d.nd w;unfold Nf;rw[w];have at':∀x∈ns,ns[ns.idxOf x]?=some x:=λx hx=>by
     have s:=List.idxOf_lt_length_iff.mpr hx;rw[C4 s,Ys s]
    exact uD d u v Aa (n.trans hn) (p.trans hn) (cl.trans ch.symm) hh n0 j (at' x0 i0) (at' B E) A (by rw[cl];exact mP D) (by rw[cl];exact mP p1)
   .rw[mL hn];exact ZD4 d u v Aa (n.trans p.symm) (by rw[n];exact hn) hh n0 j o l JC
  .rw[mL i];unfold Nb
   by_cases hn:l1.r="none" ∨l2.r="none"
   .rw[o9 hn];exact se d g1 g2 n0 j i hn
   .rw[mL hn];have h1:l1.r ≠"none" := λz=>hn (.inl z);have h2:l2.r ≠"none" := λz=>hn (.inr z);have t1:=(Ii (c:=c) (t:=[.AZ]) d g1 n0 j h1).2.2.trans Hv;have t2:=(Ii (c:=c) (t:=[.AZ]) d g2 n0 j h2).2.2.trans Hv
    by_cases m:tell c ns l1 [.Am (.put f ns.length),.AZ]≠tell c ns l2 [.Am (.put f ns.length),.AZ]
    .rw[o9 m];exact⟨_,_,rb t1 t2 λz=>m (by rw[t1,t2,z])⟩
    .rw[mL m];have I:=Classical.not_not.mp m;exact oK d g1 g2 k i h1 h2 n0 j o l JC t1 (I▸t1)
theorem Vx(h:∀x∈xs,Nm x):∀e∈D8 xs,e.say:=λe a=>by
 obtain⟨x,hx,rfl⟩:=List.mem_map.mp a;exact NO (h x hx)
theorem Sz{a:List Et}(h1:∀e∈a,e.say)(h2:∀e∈b,e.say):∀e∈a++b,e.say:=λe c=>(List.mem_append.mp c).elim (h1 e) (h2 e)
theorem GD{a:Et}(h1:a.say)(h2:∀e∈b,e.say):∀e∈a::b,e.say:=λe c=>(List.mem_cons.mp c).elim (λz=>z▸h1) (h2 e)
theorem fo:∀e∈([]:List Et),e.say:=λe a=>by cases a
theorem Jp:∀e∈[Et.AZ],e.say:=GD trivial fo
theorem Ir{f:Str}{i:Nat}(h:Nm f)(hi:i<=1000000):Et.say (.Am (.put f i)):=⟨NO h,UA hi⟩
theorem fe{i j:Nat}(hi:i<=1000000)(a:j<=1000000):Et.say (.Am (.turn i j)):=⟨UA hi,UA a⟩
theorem Tr.say(b:BX 37 ns)(g1:l1.Good ns)(g2:l2.Good ns)(h:Tr c ns l1 l2 es):∀e∈es,e.say:=by
 have m:=b.len;have v:=g1.g1;have u:=g2.g1;rcases h with⟨o,x,r,d,s1,j,rfl⟩|⟨o,f,f1,r,e,rfl⟩
 .exact Sz (Vx λy n=>b.nm y (De.mp n).1) Jp
 .obtain⟨t,Y8,p,g,n0,k,d,j,JC⟩:=Ol m;rw[e]at g;injection g with z1 z2
  injection z2 with z2 _
  subst z1;subst z2;split
  .unfold Nv;split
   .unfold Nf;split
    .next x0 x1 _ ef=>
     obtain⟨i0,l,_⟩:=WJ b.nd ef;have s:=List.idxOf_lt_length_iff.mpr i0;have q:=List.idxOf_lt_length_iff.mpr l;exact GD (Ir n0 (by omega)) (GD (fe (by omega) (by omega)) (GD (fe (by omega) (by omega)) Jp))
    .exact fo
   .exact GD (Ir n0 (by omega)) (GD (Ir d (by omega)) Jp)
  .unfold Nb;split
   .exact Sz (GD (Ir n0 (by omega)) (Vx b.nm)) Jp
   .split
    .exact GD (Ir n0 (by omega)) Jp
    .exact Sz (GD (Ir n0 (by omega)) (GD (a:=.AZ) trivial (GD (Ir (i:=0) d (by omega)) (Vx (row_end b n0 k).nm)))) Jp
theorem Tr.ok(d:BX 37 ns)(g1:l1.Good ns)(g2:l2.Good ns)(e:¬ EG l1 l2)(h:Tr c ns l1 l2 es):Lu ns l1 l2 es:=by
 obtain⟨a,b,f⟩:=h.parts d g1 g2 e;exact⟨d.le (by decide),g1,g2,h.say d g1 g2,by have:=f.1;omega⟩
theorem MN(x:α)(r:List α):L2.BU (x::r) 0=some x:=L2.IA (j:=0) rfl
theorem SW(x y:α)(r:List α):L2.BU (x::y::r) 1=some y:=L2.IA (j:=1) rfl
theorem FG{ss:List Slot}[Xw]{te:TE}{k:Bool->List PV->Prop}(h:Wn ss te (k false)):Wq ss te k:=FY (EF ⟨λE Z F H Q S q=>h.go E Z F H Q S λl vs xs F' H' m b a EM r kk=>q l vs xs F' H' m b a EM r ⟨xs,.inl ⟨rfl,kk⟩⟩⟩)
def MM:Pre:=λl R=>∃(ns:List Str)(l1 l2:Lp),l=[.is l1.P,.is l2.P]/\l1.Good ns/\l2.Good ns/\ns.length<=40/\R=.is λp=>p=.bl (decide (EG l1 l2))
def QB:Pre:=λl R=>∃(tp:Bool)(xs:List Str),l=[.sq tp (xs.map .str)]/\xs.length<=40/\R=.new λys=>ys=xs.map λx=>.tup [.str "take",.str x]
def QC:Pre:=λl R=>∃(tp:Bool)(ns:List Str),l=[.sq tp (ns.map .str)]/\BX 37 ns/\R=.new λys=>ys=(Bc ns).map .str
def Yf(K:ZGX)(k:Addr):Pre:=λl R=>∃(tp:Bool)(ns:List Str)(l1 l2:Lp),l=[.sq tp (ns.map .str),.is l1.P,.is l2.P]/\BX 37 ns/\l1.Good ns/\l2.Good ns/\l1.cs≠l2.cs/\R=.new λys=>DX K (some k)/\∃es,iA ns l1 l2 es/\ys=es.map (C8 (some k))
def Si(K:ZGX)(k:Addr):Pre:=λl R=>∃(tp:Bool)(ns:List Str)(l1:Lp)(g:Nat)(f:Str),l=[.sq tp (ns.map .str),.is l1.P,.is (.int g),.is (.str f)]/\BX 37 ns/\l1.Good ns/\g<=ns.length/\2<=l1.cs.length/\R=.new λys=>DX K (some k)/\ys=(Nf ns l1.cs g f).map (C8 (some k))
def XN(K:ZGX)(k:Addr):Pre:=λl R=>∃(tp:Bool)(ns:List Str)(l1 l2:Lp)(f f1:Str)(r:List Str),l=[.sq tp (ns.map .str),.is l1.P,.is l2.P]/\BX 37 ns/\l1.Good ns/\l2.Good ns/\l1.cs=l2.cs/\l1.r=l2.r/\¬ EG l1 l2/\Bc ns=f::f1::r/\R=.new λys=>DX K (some k)/\ys=(Nv ns l1 l2 f f1).map (C8 (some k))
def VX(K:ZGX)(k:Addr)(c:BH):Pre:=λl R=>∃(tp:Bool)(ns:List Str)(l1 l2:Lp)(f f1:Str)(r:List Str),l=[.sq tp (ns.map .str),.is l1.P,.is l2.P]/\BX 37 ns/\l1.Good ns/\l2.Good ns/\l1.cs=l2.cs/\l1.r≠l2.r/\Bc ns=f::f1::r/\R=.new λys=>DX K (some k)/\ys=(Nb c ns l1 l2 f f1).map (C8 (some k))
def VZ(K:ZGX)(k:Addr)(c:BH):Pre:=λl R=>∃(tp:Bool)(ns:List Str)(l1 l2:Lp),l=[.sq tp (ns.map .str),.is l1.P,.is l2.P]/\BX 37 ns/\l1.Good ns/\l2.Good ns/\¬ EG l1 l2/\R=.new λys=>DX K (some k)/\∃es,Tr c ns l1 l2 es/\ys=es.map (C8 (some k))
noncomputable def MU(k:Addr)(es:List Et)(a b:List (Option Str))(x y z:Addr):OV:=.tp [.nd .lst x ((es.map (C8 (some k))).map .fz),.nd .lst y ((a.map BL).map .fz),.nd .lst z ((b.map BL).map .fz)]
def Wc(K:ZGX)(k:Addr)(c:BH):Pre:=λl R=>∃(tp:Bool)(ns:List Str)(l1 l2:Lp),l=[.sq tp (ns.map .str),.is l1.P,.is l2.P]/\BX 37 ns/\l1.Good ns/\l2.Good ns/\
 ((EG l1 l2/\R=.is λp=>p=.AG)∨(¬ EG l1 l2/\R=.ow λu=>DX K (some k)/\∃es a b x y z,Tr c ns l1 l2 es/\Parts c ns l1 l2 es a b/\u=MU k es a b x y z))
end Fz
set_option maxHeartbeats 4000000
namespace L2
variable{X:Cx}{e i o:Expr}{te to:TE}{pos pos':Pos}{x:Str}{r:List V->Hp->VK->Prop}{op:CmpOp}{Ze:ZGY}{H:Hp}{s:Shared}
section
variable{a b:Expr}{es:List Expr}{ta tb:TE}{t:TA}{p:Pos}
theorem BA{id:String}(c:Cc X (.builtin id) r)(a:X.mg x=none)(d:QA X (e::es) t)(b:Gl X x:=by rfl)(hv:bootBuiltins x=some (.builtin id):=by decide +kernel)(hn:x ≠"__name__" := by decide)(BV:(x == ("__debug__":Str))=false:=by decide)
  (he:starEach (e::es) X.env=(false,eval e X.env)::starEach es X.env:=by rfl) (BF:(backTo pos (starEach es X.env)).any (·.1)=false:=by rfl):QE X (.Call (.Name x p) (e::es) [] pos) (DB r t):=rS c b a hv d hn BV he BF
theorem D3{T:String}(c:Cc X (.type T) r)(a:X.mg x=none)(d:QA X (e::es) t)(b:Gl X x:=by rfl)(hv:bootBuiltins x=some (.type T):=by decide +kernel)(hn:x ≠"__name__" := by decide)(BV:(x == ("__debug__":Str))=false:=by decide)
  (he:starEach (e::es) X.env=(false,eval e X.env)::starEach es X.env:=by rfl) (BF:(backTo pos (starEach es X.env)).any (·.1)=false:=by rfl):QE X (.Call (.Name x p) (e::es) [] pos) (DB r t):=mq c b a hv d hn BV he BF
theorem A6{r:R2}(d:Gs X r)(f:QE X a ta)(e:QE X b tb)(c:Sl b:=by exact λ_ _=>rfl):QE X (.Subscript a b pos) (Bk r ta tb):=sR d f e c
theorem Ac{j k:Nat}{ps:List Str}{sp:Sp}(h:A7 X.prog X.w X.K X.mg X.base x k ps sp)(a:C2 j X.A)(c:QA X (e::es) t)(b:k<=j:=by decide)(hg:Gl X x:=by rfl)(BV:(x == ("__debug__":Str))=false:=by decide)
  (he:starEach (e::es) X.env=(false,eval e X.env)::starEach es X.env:=by rfl) (BF:(backTo pos (starEach es X.env)).any (·.1)=false:=by rfl):QE X (.Call (.Name x p) (e::es) [] pos) (EK sp [] E0 t):=lu h a b c hg BV he BF
theorem Ck{r:R2}(ho:BD X (compareOp op) r)(e:QE X a ta)(d:QE X b tb)(c:behindInMarks op b=false:=by first|exact fj _|with_unfolding_all rfl):QE X (.Compare a [op] [b] pos) (Bk r ta tb):=ZB0 ho e d c
theorem Ab{r:R2}(ho:BD X (compareOp op) r)(e:QE X a ta)(d:QE X b tb)(c:behindInMarks op b=false:=by first|exact fj _|with_unfolding_all rfl):QT X (.Compare a [op] [b] pos) (MY (Bk r ta tb)):=ZCM ho e d c
theorem Ao(i:Nat)(b:X.N.Nodup)(a:QE X e te)(hi:X.N[i]?=some x:=by rfl)(hx:Loc X.env.scope x:=by first|exact Or.inl rfl|exact Or.inr rfl)(hs:swapsWith e (some (.Name x pos')) pos.line X.env=pure false:=by rfl)(hf:X.fn x=true∨X.env.scope.names.lookup x=some .local:=by first|exact .inl rfl|exact .inr rfl|assumption):
  QS X (.Assign [.Name x pos'] e pos) (Fd te (Dj i)):=v7 b hi hx a hs hf
theorem DF(i:Nat)(a:X.N.Nodup)(hi:X.N[i]?=some x:=by rfl)(hx:Loc X.env.scope x:=by first|exact Or.inl rfl|exact Or.inr rfl)(hf:X.fn x=true∨X.env.scope.names.lookup x=some .local:=by first|exact .inl rfl|exact .inr rfl|assumption):QG X (.Name x pos) (Dj i):=y8 a hi hx hf
end
open AutoSeq1 (wpAny_loadPart')
end L2
namespace L2
theorem vq{X:Cx}:IY X "list.clear" Wf:=ZCd
end L2
namespace Fz
open L2 Lw
variable{ss:List Slot}
section
variable[Xw]
variable{K:ZGX}{ta tb tc te ti t1 t2:TE}{u1 u2:TT}{nx:List Slot->Prop}{R:B6}{xs ps:List PV}{i j:Nat}{t:OV}{lt:Bool}{a:Addr}{js:List Nat}
theorem zN(h:Wl ss i t ta λp u=>∃lt a us,ss[i]?=some (.ow lt t)/\u=.nd .lst a us/\nx (ss.set i (.ow lt (t.put p (.nd .lst a []))))):Ws ss (Kq (Uo K "list" Wf ta)) nx R:=⟨λE D Z F H S hn l=>
 h.go E Z F H _ S λv p u F1 H1 d f Ds AM=>by
  obtain⟨lt,a,us,hi,g,kk⟩:=AM;subst g;obtain⟨vs,rfl,e,j,n,k⟩:=f.inv;refine⟨.inl ⟨rfl,_,AO.of e⟩,a,vs,rfl,rfl,e,hn _ Z F1 _ kk (Sg.fv (m:=[]) (u:=.fz .AG) d.st d.st hi Ds (λb c=>by rw[OV.Ma]at c;cases c) (by simp) .nil (by rw[OV.IQ];exact LC) λb c=>by rw[OV.IQ]at c;cases c) d.ff⟩⟩
end
noncomputable def Px:Slot->Slot
 | .own xs=>.is (.lst xs)
 | .ow _ t=>.is t.pv
 | .Af=>.any
 |s=>s
section
variable{E:Ent0}{Z:L2.St}{F H F' H':Hp}
theorem Sg.lC(S:Sg E ss Z F H):Sg (E3 [] (Cn F H (DO ss Z)) H) (ss.map Px) Z (Cn F H (DO ss Z)) H:=by
 have nn:∀{p:Prop}(a:Addr),a∈([]:List Addr)->p:=λa h=>absurd h Bb;refine⟨⟨S.JE.2,AE.refl _,λ_ _ _ e=>e,λ_ _ e=>.inl e,λa h=>nn a h,λa h=>nn a h,λa h=>nn a h,λa h=>nn a h,λa h=>nn a h,λa h=>nn a h⟩,by rw[Ae,S.len],λi s hi=>?_,λi j s u l Gm hi x d w=>?_⟩
 .rw[Bt]at hi;cases e:ss[i]? with
  |none=>rw[e]at hi;cases hi
  |some s0=>
   rw[e]at hi;have es:Px s0=s:=Be hi;subst es;have k:=S.ok i s0 e;cases s0 with
   |any=>trivial
   |is p=>obtain⟨v,b,r⟩:=k;exact⟨v,b,r.mono S.JE.1⟩
   |own xs=>
    obtain⟨l,vs,b,_,_,n,r⟩:=k;refine⟨_,b,.lst ?_ (r.mono S.JE.1)⟩;unfold Cn;rw[o9 (Tz S.len e (by simp) b)];exact n
   |Af=>trivial
   |sq tp xs=>
    cases tp with
    |true=>obtain⟨v,b,r⟩:=k;exact⟨v,b,r.mono S.JE.1⟩
    |false=>
     obtain⟨l,vs,b,m,q,r⟩:=k;exact⟨l,vs,b,⟨Bb,Bb⟩,S.keep l _ m q,r.mono S.JE.1⟩
   |raw P=>obtain⟨v,b,f,c⟩:=k;exact⟨v,b,c _ _ S.JE.1 f,c⟩
   |ow lt t=>
    obtain⟨v,b,r,_,_⟩:=k;refine⟨v,b,r.rep S.JE.1 λa g o ho=>?_⟩;unfold Cn;rw[o9 (Tz S.len e (by simp) g)];exact ho
 .rw[Bt]at hi;cases e:ss[i]? with
  |none=>rw[e]at hi;cases hi
  |some s0=>
   rw[e]at hi;have es:Px s0=s:=Be hi;subst es;cases s0 <;> cases d
variable{te:TE}{c:TT}
def rz(E:Ent0)(F H:Hp)(as:List Addr):@Ent ae:=@Ent.mk ae (E3 [] (Cn F H as) H) λ_ _ _ _ _ _ _ _ _ d _=>d.elim
theorem SV{k:Bool->Prop}(h:Wt (ss.map Px) c k):Wt ss c k:=⟨λE Z F H Q S q=>by
 refine h.go (rz E F H (DO ss Z)) Z _ H Q S.lC λb F' H' m kk=>?_;exact q b _ H' (S.lx m.st.toFin).1 kk⟩
end
end Fz
set_option maxHeartbeats 400000
namespace Fz
open L2 Lw
noncomputable def Gq(k:Addr)(es:List Et)(a b:List (Option Str)):PV:=.tup [.lst (es.map (C8 (some k))),.lst (a.map BL),.lst (b.map BL)]
theorem N5{k:Addr}{es:List Et}{a b:List (Option Str)}{x y z:Addr}:(MU k es a b x y z).pv=Gq k es a b:=by
 unfold MU Gq;simp only[OV.pv,OV.GS,dO]
def Ua:Pre:=λl R=>∃(p:PV)(b:Bool),l=[.is p]/\((∃i,p=.int i/\b=true)∨(∃x,p=.str x/\b=false))/\R=.is λr=>r=.bl b
def Vs(K:ZGX):Pre:=λl R=>∃(k:Addr)(es:List Et)(a b:List (Option Str)),l=[.is (Gq k es a b)]/\DX K (some k)/\(es.length<=1000/\a.length<=1000/\b.length<=1000)/\R=.is λp=>p=.bl true
def WN(K:ZGX)(k:Addr)(c:BH):Pre:=λl R=>∃(ns:List Str)(l1 l2:Lp),l=[.is (.lst (ns.map .str)),.is l1.P,.is l2.P]/\BX 37 ns/\l1.Good ns/\l2.Good ns/\R=.is λp=>p=.bl true
def u3(x:PV):Prop:=(∃i,x=.int i)∨∃s,x=.str s
theorem uB(d:AX):∃xs,aP d=.tup xs/\xs.length<=10/\∀x∈xs,u3 x:=by
 cases d with
 |put x i=>exact⟨[.str "put",.str x,.int i],rfl,by simp,λy c=>by
   simp only[Cj,Bb,ZA1]at c;rcases c with rfl|rfl|rfl
   .exact .inr ⟨_,rfl⟩
   .exact .inr ⟨_,rfl⟩
   .exact .inl ⟨_,rfl⟩⟩
 |take x=>exact⟨[.str "take",.str x],rfl,by simp,λy c=>by
   simp only[Cj,Bb,ZA1]at c;rcases c with rfl|rfl
   .exact .inr ⟨_,rfl⟩
   .exact .inr ⟨_,rfl⟩⟩
 |move x i=>exact⟨[.str "move",.str x,.int i],rfl,by simp,λy c=>by
   simp only[Cj,Bb,ZA1]at c;rcases c with rfl|rfl|rfl
   .exact .inr ⟨_,rfl⟩
   .exact .inr ⟨_,rfl⟩
   .exact .inl ⟨_,rfl⟩⟩
 |turn a b=>exact⟨[.str "turn",.int a,.int b],rfl,by simp,λy c=>by
   simp only[Cj,Bb,ZA1]at c;rcases c with rfl|rfl|rfl
   .exact .inr ⟨_,rfl⟩
   .exact .inl ⟨_,rfl⟩
   .exact .inl ⟨_,rfl⟩⟩
theorem all_true{xs:List PV}:∃bs:List Bool,((xs.filter λ_=>true).map λ_=>PV.bl true)=bs.map PV.bl/\bs.all id=true:=
 ⟨xs.map λ_=>true,by rw[List.filter_eq_self.mpr (λ_ _=>rfl),Il];rfl,by rw[k8,Fo];intro _ _;rfl⟩
theorem OI{K:ZGX}{k:Addr}(c:DX K (some k))(es:List Et)(a b:List (Option Str)):dat K 40 (Gq k es a b):=λx hx=>by
 simp only[Cj,Bb,ZA1]at hx;rcases hx with rfl|rfl|rfl
 .exact qA c 37 es
 .exact Ga K 38 a
 .exact Ga K 38 b
end Fz
set_option maxHeartbeats 8000000
namespace Pf
open L2 Lw
variable{w:World}{mg:ZGZ}{AB AD AI AJ AK As C CJ HM Iq Qc Qu RL Ra S f:Addr}{fd nP tI wQ xb:FuncData}{α:Type}{Ng V4 Wu Xa YQ yI:Tok}{l:PySem.W.OpenLaw}{ZDZ wD:Option Addr}{ZDo pQ:Array (Option Value)}
abbrev St:=L2.St
noncomputable def top(i:Nat):Stmt:=PySem.Challenge.pw_stirround_k52_whole_twins_or_parted.main.body.getD i (.Pass ⟨0,0,0,0⟩)
abbrev YJ:Stmt:=top 58
abbrev SS:Stmt:=top 59
abbrev YE:Stmt:=top 60
abbrev TF:Stmt:=top 61
abbrev VN:Stmt:=top 62
abbrev TH:Stmt:=top 63
abbrev UW:Stmt:=top 68
abbrev RZ:Stmt:=top 72
abbrev Ur:Stmt:=top 17
abbrev PU:Stmt:=top 35
abbrev XE:Stmt:=top 29
abbrev VE:Stmt:=top 34
abbrev VM:Stmt:=top 47
abbrev Yg:Stmt:=top 46
abbrev MZ:Stmt:=top 56
abbrev PJ:Stmt:=top 36
abbrev Wb:Stmt:=top 14
abbrev YV:Stmt:=top 54
abbrev YD:Stmt:=top 53
abbrev RE:Stmt:=top 55
abbrev Pl:Stmt:=top 51
abbrev VP:Stmt:=top 31
abbrev Qr:Stmt:=top 38
abbrev VY:Stmt:=top 33
abbrev TC:Stmt:=top 30
abbrev Ot:Stmt:=top 12
abbrev VA:Stmt:=top 19
abbrev XM:Stmt:=top 20
abbrev YX:Stmt:=top 21
abbrev Vh:Stmt:=top 18
abbrev Xr:Stmt:=top 24
abbrev Ta:Stmt:=top 22
abbrev RG:Stmt:=top 23
abbrev U8:Stmt:=top 15
abbrev TL:Stmt:=top 25
abbrev XH:Stmt:=top 26
abbrev Xi:Stmt:=top 16
abbrev SU:Stmt:=top 39
abbrev Vt:Stmt:=top 37
abbrev XR:Stmt:=top 32
abbrev UK:Stmt:=top 48
abbrev Xp:Stmt:=top 52
abbrev Ve:Stmt:=top 50
abbrev Sb:Stmt:=top 44
abbrev V5:Stmt:=top 73
abbrev XX:Stmt:=top 69
abbrev LJ:Stmt:=top 76
abbrev Mm:Stmt:=top 67
abbrev TU:Stmt:=top 65
abbrev P9:Stmt:=top 66
abbrev Q7:Stmt:=top 64
abbrev Pr:Stmt:=top 70
abbrev Xd:Stmt:=top 71
abbrev Xu:Stmt:=top 74
abbrev Xq:Stmt:=top 75
abbrev VD:Stmt:=top 49
abbrev WT:Stmt:=top 45
abbrev Xo:Stmt:=top 77
abbrev MK:Stmt:=top 78
variable{P:Program}{K:ZGX}{Zf:Heap}
def gm{us:List α}(h:us.length=1):∃a,us=[a]:=by
 rcases us with _|⟨a,_|⟨b,us⟩⟩
 .cases h
 .exact⟨a,rfl⟩
 .cases h
def ln2{us:List α}(h:us.length=2):∃a b,us=[a,b]:=by
 rcases us with _|⟨a,us⟩
 .cases h
 .obtain⟨b,rfl⟩:=gm (SI h);exact⟨a,b,rfl⟩
def d7{us:List α}(h:us.length=3):∃a b c,us=[a,b,c]:=by
 rcases us with _|⟨a,us⟩
 .cases h
 .obtain⟨b,c,rfl⟩:=ln2 (SI h);exact⟨a,b,c,rfl⟩
def jG{us:List α}(h:us.length=4):∃a b c d,us=[a,b,c,d]:=by
 rcases us with _|⟨a,us⟩
 .cases h
 .obtain⟨b,c,d,rfl⟩:=d7 (SI h);exact⟨a,b,c,d,rfl⟩
def eZ{us:List α}(h:us.length=5):∃a b c d e,us=[a,b,c,d,e]:=by
 rcases us with _|⟨a,us⟩
 .cases h
 .obtain⟨b,c,d,e,rfl⟩:=jG (SI h);exact⟨a,b,c,d,e,rfl⟩
def ln6{us:List α}(h:us.length=6):∃a b c d e f,us=[a,b,c,d,e,f]:=by
 rcases us with _|⟨a,us⟩
 .cases h
 .obtain⟨b,c,d,e,f,rfl⟩:=eZ (SI h);exact⟨a,b,c,d,e,f,rfl⟩
local macro_rules | `(tactic| walk_at "bD1")=>`(tactic| (intro _ _ _ _ _ _ us hl;obtain⟨_,e⟩:=gm hl;subst e;rfl))
local macro_rules | `(tactic| walk_at "bD2")=>`(tactic| (intro _ _ _ _ _ _ us hl;obtain⟨_,_,e⟩:=ln2 hl;subst e;rfl))
local macro_rules | `(tactic| walk_at "bD3")=>`(tactic| (intro _ _ _ _ _ _ us hl;obtain⟨_,_,_,e⟩:=d7 hl;subst e;rfl))
local macro_rules | `(tactic| walk_at "bD4")=>`(tactic| (intro _ _ _ _ _ _ us hl;obtain⟨_,_,_,_,e⟩:=jG hl;subst e;rfl))
local macro_rules | `(tactic| walk_at "bD5")=>`(tactic| (intro _ _ _ _ _ _ us hl;obtain⟨_,_,_,_,_,e⟩:=eZ hl;subst e;rfl))
local macro_rules | `(tactic| walk_at "bD6")=>`(tactic| (intro _ _ _ _ _ _ us hl;obtain⟨_,_,_,_,_,_,e⟩:=ln6 hl;subst e;rfl))
abbrev nS(K:ZGX)(x:Str)(v:Value):Prop:=PySem.W.nsIn K mainGlobals x=some (some v)
abbrev nN(K:ZGX)(x:Str):Prop:=PySem.W.nsIn K mainGlobals x=some none
abbrev SQ:Stmt:=Rg (top 4)
local macro_rules | `(tactic| walk_at "z1")=>`(tactic| exact⟨rfl,rfl,rfl,by decide +kernel,rfl,by decide +kernel,by decide +kernel⟩)
local macro_rules | `(tactic| walk_at "z2")=>`(tactic| exact⟨rfl,by decide +kernel,by decide +kernel,rfl,rfl,by decide +kernel,by decide +kernel,by decide +kernel,by decide +kernel⟩)
def ZAk:Ay ["self","name"] ["self","name"] (AS SQ):=by walk_at "z1"
def lS(F:AH K "__init__" "Gone.__init__" SQ f fd)(b:Binds K fd ["self","name"] [])(c:JL K C f "name")(a:NS K S)(L7:mg "StirError"=some (.ref S)):Gx P w K mg Zf C "name" := by
 refine⟨f,fd, "name", c,F.ok (k:=0) ZAk Rf (λAQ A outer s H vs Q E d h=>?_),b⟩;refine⟨_,?_,Qf (N:=["self","name"]) rfl h⟩;exact Ih (NY (PD (S:=S) a (by rfl) L7 c.ex (IW (pv 0) (IW (Qq (pv 1) (by decide)) OR)))) (Ih (QQ c (pv 0) (pv 1) rfl) NJ)
abbrev Uw:Stmt:=Rg (top 2)
def ZEi:Ay ["self","name"] ["self","name"] (AS Uw):=by walk_at "z1"
def yV(F:AH K "__init__" "NoName.__init__" Uw f fd)(b:Binds K fd ["self","name"] [])(c:JL K C f "name")(a:NS K S)(L7:mg "StirError"=some (.ref S)):Gx P w K mg Zf C "name" := by
 refine⟨f,fd, "name", c,F.ok (k:=0) ZEi Rf (λAQ A outer s H vs Q E d h=>?_),b⟩;refine⟨_,?_,Qf (N:=["self","name"]) rfl h⟩;exact Ih (NY (PD (S:=S) a (by rfl) L7 c.ex (IW (pv 0) (IW (Qq (pv 1) (by decide)) OR)))) (Ih (QQ c (pv 0) (pv 1) rfl) NJ)
abbrev Ud:Stmt:=Rg (top 5)
def ZDW:Ay ["self","at"] ["self","at"] (AS Ud):=by walk_at "z1"
def za(F:AH K "__init__" "NoPlace.__init__" Ud f fd)(b:Binds K fd ["self","at"] [])(c:JL K C f "at")(a:NS K S)(L7:mg "StirError"=some (.ref S)):Gx P w K mg Zf C "at" := by
 refine⟨f,fd, "at", c,F.ok (k:=0) ZDW Rf (λAQ A outer s H vs Q E d h=>?_),b⟩;refine⟨_,?_,Qf (N:=["self","at"]) rfl h⟩;exact Ih (NY (PD (S:=S) a (by rfl) L7 c.ex (IW (pv 0) (IW (Qq (pv 1) (by decide)) OR)))) (Ih (QQ c (pv 0) (pv 1) rfl) NJ)
abbrev U7:Stmt:=Rg (top 3)
def lK:Ay ["self","name"] ["self","name"] (AS U7):=by walk_at "z1"
def ky(F:AH K "__init__" "There.__init__" U7 f fd)(b:Binds K fd ["self","name"] [])(c:JL K C f "name")(a:NS K S)(L7:mg "StirError"=some (.ref S)):Gx P w K mg Zf C "name" := by
 refine⟨f,fd, "name", c,F.ok (k:=0) lK Rf (λAQ A outer s H vs Q E d h=>?_),b⟩;refine⟨_,?_,Qf (N:=["self","name"]) rfl h⟩;exact Ih (NY (PD (S:=S) a (by rfl) L7 c.ex (IW (pv 0) (IW (Qq (pv 1) (by decide)) OR)))) (Ih (QQ c (pv 0) (pv 1) rfl) NJ)
open Fz
def ZWM(t:String):Lean.MacroM (Lean.TSyntax `tactic):=do
 let g:Lean.TSyntax `tactic←`(tactic| fail)
 let k←`(tactic| case wk=>rfl)
 let n (s:String):=`(tactic| walk_at $(Lean.quote s):str)
 (t.splitOn " ").foldrM (λs r=>do
  let l:=((s.drop 1).toString.splitOn "/").map λx=>Lean.mkIdent (`Fz++x.toName)
  let h:Lean.Ident:=l.getLast!
  let c:=s.front
  let w:=(h.getId.getString!.toLower.replace "o" "e").replace "i" "e"
  let z←if c=='j' then `($h ?wj ?wk ?_)else if c=='k'||c=='K' then `($h ?wk ?_)else `($h ?_)
  let z←l.dropLast.foldrM (λ(f:Lean.Ident)(z:Lean.Term)=>`($f ($z))) z
  let p←if c=='e' then `(tactic| show ∃_,_=$h _/\_)else if c=='s' then `(tactic| show $h _ _ _)else `(tactic| refine' $z)
  let p←if c=='K'||c=='R'||c=='j' then pure p else `(tactic| with_reducible $p:tactic)
  let q←if c=='e' then `(tactic| refine⟨_,rfl,?_⟩)else if c=='s' then n w else if c=='n' then n "wn" else if c=='p' then n "wp" else if c=='k'||c=='K' then pure k else if c=='j' then `(tactic| ((case wj=>rfl);$k:tactic))else `(tactic| skip)
  `(tactic| first|($p:tactic;$q:tactic) | $r:tactic)) g
local macro_rules | `(tactic| walk_at "wp")=>ZWM "kAF rDp rFE rGu rEn rZEa rkg rQw rrL rIb rMc rjZ rGe rNT rni rG9 rZEI rwH rtT rFW rjP rZCj rxM rJV rKI kZAJ rbo rdY rzM KzO KZEl KOm KTK"
local macro_rules | `(tactic| walk_at "wn")=>ZWM "rIL rPH rZDl rZBG RzE rwe rbY KWv jZAu"
local macro_rules | `(tactic| walk_at "wq")=>do
 let z←ZWM "kXk/LZ kXk/Pg/LZ kXk/tH/LZ kFJ kB7 kHl kZCy ruv"
 `(tactic| first | $z:tactic|(refine FY (EF ?_);walk_at "wn")|(refine FY ?_;walk_at "wp"))
local macro_rules | `(tactic| walk_at "wz")=>`(tactic| first
 | ((with_reducible refine' bZ ?wk ?_);(case wk=>rfl))
 | (with_reducible refine' bD ?_)
 | (refine Nj (EF ?_);walk_at "wn")
 | (refine Nj ?_;walk_at "wp"))
local macro_rules | `(tactic| walk_at "wt")=>ZWM "rCf rDn rIU rD2 raC rHU"
local macro_rules | `(tactic| walk_at "we")=>ZWM "rBm rCs rZDH rmH rvB rWd"
local macro_rules | `(tactic| walk_at "w")=>do
 let z←ZWM "rB2 rGN rCM rAn kOq kzD nFL pEI kWH nEO pBa"
 let z1←ZWM "eOV.tp eOV.fz"
 let z2←ZWM "sWn sWq sWz sWt sWe sWo sWi"
 let z3←ZWM "ePV.int ePV.str ePV.bl"
 `(tactic| first | $z1:tactic|((with_reducible show ∃_ _,_=OV.nd NK.lst _ _/\_);refine⟨_,_,rfl,?_⟩)|((with_reducible show ∃_ _ _,_=PV.int _/\_/\_/\_);refine⟨_,_,_,rfl,rfl,rfl,?_⟩)|((with_reducible show Wp _ _ _);first|walk_at "wp" | (refine EF ?_;walk_at "wn")) | $z2:tactic|((with_reducible show Ws _ _ _ _);$z:tactic) | $z3:tactic|((with_reducible show(_:Bool)=_/\_);refine⟨rfl,?_⟩)|((with_reducible show ∃_ _,_=PV.int _/\L2.BU _ _=some _/\_);refine⟨_,_,rfl,rfl,?_⟩)|((with_reducible show ∃_,(_=PV.lst _/\_)∨(_=PV.tup _/\_));first|refine⟨_,.inl ⟨rfl,?_⟩⟩|refine⟨_,.inr ⟨rfl,?_⟩⟩)|((with_reducible show ∃_,_=List.map _ _/\_);first|refine⟨_,rfl,?_⟩|refine⟨[],rfl,?_⟩|refine⟨_,ZCP _ _,?_⟩))
local macro_rules | `(tactic| walk_at "ww")=>`(tactic| repeat walk_at "w")
def Ni:Ay ["script","k","cell","rest_here"] ["script","k"] (AS YJ):=by walk_at "z1"
variable(Aw:mg "len"=none)(NV:A7 P w K mg Zf "_law_letters" 1 ["number"] (gQ))(Ca:A7 P w K mg Zf "_law_take" 1 ["pot","many"] (LX))(Sh:A7 P w K mg Zf "_law_name" 2 ["pot","names"] (fS K))(Lr:mg "range"=none)(Wy:A7 P w K mg Zf "_law_names" 3 ["pot","many"] (iF))(Dc:mg "sorted"=none)(CQ:mg "tuple"=none)(Q0:A7 P w K mg Zf "_law_some_loop" 2 ["pot","row"] (Y1))(FF:mg "all"=none)(Ce:mg "list"=none)(Kj:mg "set"=none)(Sj:A7 P w K mg Zf "is_coming" 1 ["row","coming"] (Ah Xj))(XB:A7 P w K mg Zf "is_gap" 1 ["row","gap"] (Ah UO))(Uk:mg "RULES"=some (.ref Iq))(VB:∀H,AN K H Iq [.str "none",.str "ahead",.str "all"])(WG:A7 P w K mg Zf "is_loop" 2 ["row","thing"] (Ah YM))(XZ:mg "NoLoop"=some (.ref CJ))(U0:El K CJ none=true)(Ka:BS P w K mg Zf "check_loop" 3 ["row","loop"] (C7 (RX CJ)))(VJ:mg "MOST_THINGS_TRIED"=some (.int 37 Xa))(K8:mg "LETTERS"=some (.str "abcdefghijklmnopqrstuvwxyz" Ng))(YG:mg "Gone"=some (.ref AB))(UQ:Gx P w K mg Zf AB "name")(Dq:BS P w K mg Zf "place_of" 3 ["row","name"] (C7 (Kk AB)))(L5:A7 P w K mg Zf "things_to_come" 1 ["things","loop"] (Ah QP))(Y7:mg "max"=none)(LL:mg "min"=none)(DG:mg "STEP"=some (.ref As))(DZ:∀H,AN K H As [.str "step"])(La:A7 P w K mg Zf "fresh_names" 1 ["row"] (Ah QC))(To:A7 P w K mg Zf "trial_by_turns" 4 ["row","loop","gap","fresh"] (Ah (Si K As)))(KL:A7 P w K mg Zf "takes_of" 1 ["things"] (Ah QB))(LU:A7 P w K mg Zf "coming_without" 1 ["coming","gone"] (Ah P0))(TB:A7 P w K mg Zf "loop_telling" 4 ["row","loop","name"] (Ah Ut))(V7:BS P w K mg Zf "rest" 4 ["row","loop"] (C7 (XS CJ)))(WB:mg "MOST_LETTERS"=some (.int 8 YQ))(Sw:A7 P w K mg Zf "is_name" 1 ["text"] (NF))(V8:mg "MOST_THINGS"=some (.int 40 Wu))(Tj:mg "Full"=some (.ref AK))(SX:El K AK none=true)(U2:mg "NoName"=some (.ref AI))(US:Gx P w K mg Zf AI "name")(HN:mg "NoPlace"=some (.ref AD))(He:Gx P w K mg Zf AD "at")(Su:mg "There"=some (.ref AJ))(YN:Gx P w K mg Zf AJ "name")(XF:BS P w K mg Zf "check_move" 4 ["row","name","at"] (C7 (Xc ⟨AI,AJ,AB,AD,AK⟩)))(Sa:BS P w K mg Zf "check_put" 3 ["row","name","at"] (C7 (Xl ⟨AI,AJ,AB,AD,AK⟩)))(SO:BS P w K mg Zf "check_turn" 3 ["row","low","high"] (C7 (Ti ⟨AI,AJ,AB,AD,AK⟩)))(Lg:mg "reversed"=none)(YO:BS P w K mg Zf "check_deed" 5 ["row","deed"] (C7 (WL ⟨AI,AJ,AB,AD,AK⟩)))(Sk:A7 P w K mg Zf "row_turned" 1 ["row","low","high"] (Ah Vv))(P1:A7 P w K mg Zf "row_with" 1 ["row","name","at"] (Ah Ww))(Qk:A7 P w K mg Zf "row_without" 1 ["row","name"] (Ah YY))(PM:A7 P w K mg Zf "gap_behind_put" 1 ["gap","at"] (Ah Wh))(Qg:A7 P w K mg Zf "gap_behind_take" 1 ["gap","place"] (Ah XT))(Ul:A7 P w K mg Zf "joins" 1 ["loop","at"] (Ah VU))(YS:A7 P w K mg Zf "coming_behind" 2 ["loop","deed"] (Ah YC))(Vq:A7 P w K mg Zf "gap_led" 4 ["row","gap","deed"] (Ah YB))(TN:BS P w K mg Zf "done" 6 ["row","deed"] (C7 (Xg ⟨AI,AJ,AB,AD,AK⟩)))(WW:A7 P w K mg Zf "loop_led" 5 ["row","loop","deed"] (Ah Te))(XQ:BS P w K mg Zf "step" 5 ["row","loop"] (C7 (VG CJ)))(GF:BS P w K mg Zf "told_in" 7 ["row","loop","trial"] (C7 (Np K ⟨AI,AJ,AB,AD,AK⟩)))(V6:A7 P w K mg Zf "trial_by_coming" 3 ["row","one","other"] (Ah (Yf K As)))(YA:A7 P w K mg Zf "trial_by_gap" 5 ["row","one","other"] (Ah (XN K As)))(UL:A7 P w K mg Zf "trial_by_rule" 8 ["row","one","other"] (Ah (VX K As ⟨AI,AJ,AB,AD,AK⟩)))(Tu:A7 P w K mg Zf "are_twins" 1 ["one","other"] (Ah MM))(MT:A7 P w K mg Zf "check_pair" 4 ["row","one","other"] (Ah P2))(WC:A7 P w K mg Zf "trial_of" 9 ["row","one","other"] (Ah (VZ K As ⟨AI,AJ,AB,AD,AK⟩)))(Vk:mg "bool"=none)(Ju:mg "int"=none)(Gp:mg "isinstance"=none)(Xx:A7 P w K mg Zf "_law_whole" 1 ["found"] (Ah Ua))(Pm:mg "str"=none)(V0:A7 P w K mg Zf "_law_gap" 1 ["row","gap","deed"] (fA))(WI:A7 P w K mg Zf "_law_is_name" 1 ["text"] (NF))(Td:A7 P w K mg Zf "_law_done" 1 ["row","deed"] (YL))(UY:A7 P w K mg Zf "_law_due" 2 ["row","deed"] (Ah (Uz ⟨AI,AJ,AB,AD,AK⟩)))(RB:A7 P w K mg Zf "_law_led" 2 ["row","loop","deed"] (Sd))(Qm:A7 P w K mg Zf "_law_step" 1 ["row","loop"] (X8))(Vi:A7 P w K mg Zf "_law_done_trial" 3 ["row","one","other","trial"] (Ah (VF K ⟨AI,AJ,AB,AD,AK⟩)))(X9:A7 P w K mg Zf "part_at_last" 1 ["ones","others"] (Ah Wm))(TX:mg "MOST_ENTRIES"=some (.int 100 V4))(Jr:mg "StirError"=some (.ref HM))(xo:R6 K HM ⟨AI,AJ,AB,AD,AK⟩=true)(Wj:A7 P w K mg Zf "_law_formed_trial" 2 ["found"] (Ah (Vs K)))(Ts:A7 P w K mg Zf "_law_parts" 4 ["row","one","other","trial"] (Ah (W8 K ⟨AI,AJ,AB,AD,AK⟩)))(Vm:A7 P w K mg Zf "_law_twins" 1 ["one","other"] (Ah MM))(NL:A7 P w K mg Zf "parted" 10 ["row","one","other"] (Ah (Wc K As ⟨AI,AJ,AB,AD,AK⟩)))(Y5:A7 P w K mg Zf "trial_judged" 8 ["row","one","other","trial","ones","others"] (Ah (VQ K ⟨AI,AJ,AB,AD,AK⟩)))(Wk:A7 P w K mg Zf "_law_pair" 3 ["pot","row"] (Ah XD))(VT:A7 P w K mg Zf "_law_pot" 1 ["script","k"] (U9 K))(OF:A7 P w K mg Zf "_law_right" 11 ["row","one","other"] (Ah (WN K As ⟨AI,AJ,AB,AD,AK⟩)))(Ux:A7 P w K mg Zf "_law_row" 4 ["pot","most"] (TQ))
def wz(F:AH K "_law_pot" "_law_pot" YJ f fd)(m:mg "_law_pot"=some (.ref f)):
  A7 P w K mg Zf "_law_pot" 1 ["script","k"] (U9 K):=by
 refine A7.mk F (F.binds (by walk_at "bD2")) m (F.BI (k:=0) Ni (λvs H Q E h=>?_) (λAQ A outer s H vs Q E t h=>?_))
 .obtain⟨a,ns,k,rfl,b,k0,k1,q⟩:=h;rfl
 obtain⟨a,ns,k,rfl,b,k0,k1,q⟩:=h;refine⟨_,(AA rfl (Ao 2 Ni.nd A4)
   (AA rfl (CS (Ak (Ab Hy (qv 1) (BA My Aw (A0 (qv 0) A3))) (A9 rfl (Ao 2 Ni.nd (B3 JX (A6 CL (qv 0) (qv 1)) (B3 L0 (B3 L0 (B3 L0 (B3 Lf A4 A4) (B3 Lf A4 A4)) (B3 Lf A4 A4)) (B3 Lf A4 A4))))) Ar))
   (AA rfl (Ao 3 Ni.nd A4)
   (AA rfl (CS (Ak (Ab NX (qv 2) (B3 Lf A4 A4)) (A9 rfl (Ao 3 Ni.nd (qv 2))) Ar))
   (A9 rfl (AR (DL (A0 (qv 3) (A0 (B3 JX (B3 L0 (B3 ET (B3 ET (B3 JX (qv 2) A4) (B3 L0 A4 (qv 1))) A4) A4) A4) A3))))))))),?_⟩
 have i:(ns.map V.int).length=ns.length:=Ae _;refine⟨λσ' H'=>∃c:Int,σ'=[some (.ref a),some (.int k),some (.int c),none]/\H=H'/\0<=c/\c<10 ^ 256,?_,?_⟩
 .refine⟨_,rfl,_,rfl,a,_,rfl,.inl b,_,_,rfl,rfl,_,rfl,?_⟩;refine AY (λc=>?_) (λc=>?_)
  .have r:k<(((ns.map V.int).length:Nat):Int):=mP c;rw[i]at r;have j:k.toNat<ns.length:=by omega
   have g:BU (ns.map V.int) k=some (.int ns[k.toNat]):=Mz k0 (by rw[Bt,C4 j] <;> rfl)
   refine⟨_,rfl,_,rfl,a,_,_,_,rfl,rfl,b,g,_,_,rfl,rfl,⟨by decide,by decide,by decide +kernel⟩,_,_,rfl,rfl,⟨by decide,by decide,by decide +kernel⟩,_,_,rfl,rfl,⟨by decide +kernel,by decide +kernel⟩,_,_,rfl,rfl,⟨by decide,by decide,by decide +kernel⟩,_,_,rfl,rfl,⟨by decide +kernel,by decide +kernel⟩,
    _,_,rfl,rfl,⟨by decide,by decide,by decide +kernel⟩,_,_,rfl,rfl,⟨by decide +kernel,by decide +kernel⟩,_,_,rfl,rfl,(by show(0:Int)<_;decide +kernel),?_⟩
   exact⟨_,rfl,rfl,Jg _ (by decide +kernel),Jf _ (by decide +kernel)⟩
  .exact⟨0,rfl,rfl,by decide,by decide +kernel⟩
 rintro σ' H'⟨c,rfl,rfl,o,c1⟩;refine⟨λσ' H'=>∃d:Int,σ'=[some (.ref a),some (.int k),some (.int c),some (.int d)]/\H=H'/\0<=d/\d<10 ^ 256,?_,?_⟩
 .refine⟨_,rfl,_,_,rfl,rfl,⟨by decide,by decide,by decide +kernel⟩,_,_,rfl,rfl,_,rfl,?_⟩;refine AY (λ_=>?_) (λ_=>?_)
  .exact⟨_,rfl,c,rfl,rfl,o,c1⟩
  .exact⟨0,rfl,rfl,by decide,by decide +kernel⟩
 rintro σ' H'⟨d,rfl,rfl,n,l⟩;have e0:0<=c % 2147483629:=Jg _ (by decide);have u:c % 2147483629<2147483629:=Jf _ (by decide);refine⟨_,rfl,_,rfl,_,_,rfl,rfl,(by show(0:Int)<2147483629;decide),_,rfl,_,_,rfl,rfl,⟨by decide +kernel,Lv (by omega) (by omega)⟩,_,_,rfl,rfl,_,_,rfl,rfl,_,_,rfl,rfl,⟨Lv (by omega) (by omega),by decide +kernel⟩,_,_,rfl,rfl,(by show(0:Int)<2147483647;decide),?_⟩;refine⟨(by show 2<=sizeLine;decide),λp e=>?_⟩;exact q p _ e (B8 e _) ⟨d,_,AU,n,l,Jg _ (by decide),Jf _ (by decide)⟩
def jV:Ay ["pot","many","found"] ["pot","many"] (AS SS):=by walk_at "z1"
def xU(F:AH K "_law_take" "_law_take" SS f fd)(m:mg "_law_take"=some (.ref f)):
  A7 P w K mg Zf "_law_take" 1 ["pot","many"] (LX):=by
 refine A7.mk F (F.binds (by walk_at "bD2")) m (F.BI (k:=0) jV (λvs H Q E h=>?_) (λAQ A outer s H vs Q E t h=>?_))
 .obtain⟨p,m,rfl,⟨a,b,d,a0,g,b0,n⟩,e,o,q⟩:=h;rfl
 obtain⟨p,m,rfl,⟨a,b,d,a0,g,b0,n⟩,e,o,q⟩:=h;refine⟨_,(AA rfl (Ak (Ab Og (A6 CL (qv 0) A4) A4) (AA rfl (Ao 2 jV.nd (B3 JX (A6 CL (qv 0) A4) (qv 1)))
   (AA rfl (Je (B3 Yi (A6 CL (qv 0) A4) (qv 1)) (dz (qv 0) A4 set_list))
   (A9 rfl (AR (qv 2))))) Ar)
   (AA rfl (Je (B3 JX (B3 ET (B3 L0 (A6 CL (qv 0) A4) A4) A4) A4) (dz (qv 0) A4 set_list))
   (A9 rfl (AR (B3 JX (B3 Yi (B3 JX (B3 L0 (A6 CL (qv 0) A4) (A6 CL (qv 0) A4)) A4) A4) (qv 1)))))),?_⟩
 refine⟨_,rfl,p,_,_,_,rfl,rfl,AO.of d,rfl,_,_,rfl,rfl,_,rfl,?_⟩;refine AY (λc=>?_) (λc=>?_)
 .have u:0<a:=mP c;refine⟨_,rfl,p,_,_,_,rfl,rfl,AO.of d,rfl,_,rfl,_,_,rfl,rfl,e,?_⟩;refine⟨_,rfl,p,_,_,_,rfl,rfl,AO.of d,rfl,_,rfl,_,_,rfl,rfl,⟨e,Lv (by omega) (by omega)⟩,?_⟩;refine⟨_,rfl,p,_,_,_,rfl,rfl,d,rfl,?_⟩;refine⟨_,rfl,?_⟩;refine q _ _ (Jg _ (by omega)) (Jf _ e) ⟨⟨a / m,b,AU,Int.ediv_nonneg a0 (by omega),ZEy (Int.ediv_le_self _ a0) g,b0,n⟩,G4.upd⟩
 .refine⟨_,rfl,p,_,_,_,rfl,rfl,AO.of d,rfl,_,_,rfl,rfl,⟨Lv (by omega) (by omega),by decide +kernel⟩,_,_,rfl,rfl,_,_,rfl,rfl,(by show(0:Int)<2147483647;decide),?_⟩;refine⟨_,rfl,p,_,_,_,rfl,rfl,d,rfl,?_⟩;have j:0<=(b * 69621+12345) % 2147483647:=Jg _ (by decide);have l:(b * 69621+12345) % 2147483647<2147483647:=Jf _ (by decide);generalize r:(b * 69621+12345) % 2147483647=b' at j l;have i:(upd H p (.lst [.int a,.int ((b * 69621+12345) % 2147483647)])) p=some (.lst [.int a,.int b']):=by rw[AU,r]
  refine⟨_,rfl,p,_,_,_,rfl,rfl,AO.of i,rfl,_,rfl,p,_,_,_,rfl,rfl,AO.of i,rfl,_,_,rfl,rfl,⟨Lv (by omega) (by omega),Lv (by omega) (by omega)⟩,_,_,rfl,rfl,(by show(0:Int)<2147483629;decide),?_⟩;refine⟨_,_,rfl,rfl,⟨(by show(0:Int)<64;decide),by decide +kernel⟩,_,rfl,_,_,rfl,rfl,e,?_⟩;exact q _ _ (Jg _ (by omega)) (Jf _ e) ⟨⟨a,b',i,a0,g,j,l⟩,G4.upd⟩
def Qp:Ay ["number","word"] ["number"] (AS YE):=by walk_at "z1"
def rQ(F:AH K "_law_letters" "_law_letters" YE f fd)(m:mg "_law_letters"=some (.ref f)):
  A7 P w K mg Zf "_law_letters" 1 ["number"] (gQ):=by
 refine A7.mk F (F.binds (by walk_at "bD1")) m (F.BI (k:=0) Qp (λvs H Q E h=>?_) (λAQ A outer s H vs Q E u h=>?_))
 .obtain⟨r,rfl,j,o,q⟩:=h;rfl
 obtain⟨r,rfl,j,o,q⟩:=h;refine⟨_,(AA rfl (Ao 1 Qp.nd B1)
   (AA rfl (CS (aR Mj (Ez (Ab Bh (qv 1) B1) (Ho (Ab Og (qv 0) A4))).pt (AA rfl (Ao 1 Qp.nd (B3 PX (qv 1) (A6 tF B1 (B3 JX (qv 0) A4))))
   (A9 rfl (Ao 0 Qp.nd (B3 Yi (qv 0) A4))))))
   (A9 rfl (AR (qv 1))))),?_⟩
 obtain⟨n,rfl⟩:=Jh j;have hn:n<26 ^ 8:=by omega
 rw[S6]at q;refine⟨λσ' H'=>∃v,σ'=[some v,some (.str (Cv (MA.lets n)))]/\H=H',?_,?_⟩
 .refine⟨λm σ' H'=>∃(k:Nat)(pre:List Nat),σ'=[some (.int k),some (.str (Cv pre))]/\H=H'/\((pre=[]/\k=n/\m=n+2)∨(pre≠[]/\m=k+1/\(0<k->pre++MA.lets k=MA.lets n)/\(k=0->pre=MA.lets n))),⟨n+2,n,[],rfl,rfl,.inl ⟨rfl,rfl,rfl⟩⟩,?_⟩;rintro m σ' H'⟨k,pre,rfl,rfl,l⟩;refine⟨_,rfl,rfl,_,rfl,?_⟩;refine AY (λc=>UN ?_) (λc=>⟨_,rfl,_,_,rfl,rfl,_,rfl,?_⟩)
  .have e:pre=[]:=cq.mp (mP c);obtain⟨_,b,p⟩|⟨h,_⟩:=l
   .have d:pre++MA.lets k=MA.lets n:=by rw[e,b];rfl
    have a:pre.length+1<=8:=by
     have h1:=vF List.length d;rw[Bi]at h1;have h2:=MA.RI 7 n hn;have t:=MA.XY k;omega
    refine⟨λσ' H'=>σ'=[some (.int ((k:Int) / 26)),some (.str (Cv pre++⟨#[97+((k:Int) % 26).toNat]⟩))]/\H=H',?_,?_⟩
    .rintro σ' H'⟨rfl,rfl⟩;have nx:=jK d;have i:((k:Int) % 26).toNat=k % 26:=by omega
     have g:(k:Int) / 26=((k / 26:Nat):Int):=by omega
     exact⟨k / 26+1,by omega,k / 26,pre++[97+k % 26],by rw[i,g,eQ],rfl,.inr ⟨by simp,rfl,nx.1,nx.2⟩⟩
    .refine⟨_,rfl,_,rfl,_,_,rfl,rfl,(by show(0:Int)<26;decide),_,_,_,rfl,rfl,(by decide +kernel),eK (Jg _ (by decide)) (Jf _ (by decide)),_,_,rfl,rfl,?_,?_⟩
     .rw[RM];exact small (show pre.length+1<=_ by omega)
     .exact⟨_,rfl,_,_,rfl,rfl,⟨(by show(0:Int)<26;decide),by decide +kernel⟩,rfl,rfl⟩
   .exact absurd e h
  .have e:pre≠[]:=λh=>c (mG (cq.mpr h));obtain⟨h,_⟩|⟨_,p,h1,h2⟩:=l
   .exact absurd h e
   refine AY (λc2=>?_) (λc2=>?_)
   .have b:0<k:=by have:(0:Int)<k:=mP c2;omega
    have d:=h1 b;have a:pre.length+1<=8:=by
     have h1:=vF List.length d;rw[Bi]at h1;have h2:=MA.RI 7 n hn;have t:=MA.XY k;omega
    refine⟨λσ' H'=>σ'=[some (.int ((k:Int) / 26)),some (.str (Cv pre++⟨#[97+((k:Int) % 26).toNat]⟩))]/\H=H',?_,?_⟩
    .rintro σ' H'⟨rfl,rfl⟩;have nx:=jK d;have i:((k:Int) % 26).toNat=k % 26:=by omega
     have g:(k:Int) / 26=((k / 26:Nat):Int):=by omega
     exact⟨k / 26+1,by omega,k / 26,pre++[97+k % 26],by rw[i,g,eQ],rfl,.inr ⟨by simp,rfl,nx.1,nx.2⟩⟩
    .refine⟨_,rfl,_,rfl,_,_,rfl,rfl,(by show(0:Int)<26;decide),_,_,_,rfl,rfl,(by decide +kernel),eK (Jg _ (by decide)) (Jf _ (by decide)),_,_,rfl,rfl,?_,?_⟩
     .rw[RM];exact small (show pre.length+1<=_ by omega)
     .exact⟨_,rfl,_,_,rfl,rfl,⟨(by show(0:Int)<26;decide),by decide +kernel⟩,rfl,rfl⟩
   .have b:k=0:=by
     have:¬ (0:Int)<k:=λz=>c2 (mG z);omega
    exact⟨_,by rw[h2 b],rfl⟩
 .rintro σ' H'⟨v,rfl,rfl⟩;exact⟨_,rfl,q _ (AE.refl _)⟩
def G1:Ay ["pot","names","some","way","name","number"] ["pot","names"] (AS TF):=by walk_at "z1"
def xa(F:AH K "_law_name" "_law_name" TF f fd)(m:mg "_law_name"=some (.ref f)):
  A7 P w K mg Zf "_law_name" 2 ["pot","names"] (fS K):=by
 refine A7.mk F (F.binds (by walk_at "bD2")) m (F.BI (k:=1) G1 (λvs H Q E h=>?_) (λAQ A outer s H vs Q E g h=>?_))
 .obtain⟨p,q,ns,rfl,W,B,Ai,Y,hL,K1⟩:=h;rfl
 obtain⟨p,q,ns,rfl,W,B,Ai,Y,hL,K1⟩:=h;refine⟨_,(AA rfl (Ao 2 G1.nd (BB (A0 B1 (A0 B1 (A0 B1 (A0 B1 (A0 B1 (A0 B1 (A0 B1 (A0 B1 (A0 B1 (A0 B1 (A0 B1 (A0 B1 (A0 B1 A3)))))))))))))))
   (AA rfl (Ao 3 G1.nd (Ac Ca g (A0 (qv 0) (A0 A4 A3))))
   (AA rfl (Ao 4 G1.nd (A6 A8 (qv 2) (Ac Ca g (A0 (qv 0) (A0 A4 A3)))))
   (AA rfl (CS (Ak (Ab Bh (qv 3) A4) (A9 rfl (Ao 4 G1.nd (Ac NV g (A0 (Ac Ca g (A0 (qv 0) (A0 (B3 Uq (B3 Lf A4 A4) A4) A3))) A3)))) Ar))
   (AA rfl (CS (Ak (K2 (Ab Bh (qv 3) A4) (KW (Ab (LI g.HJ) (qv 1) (DL A3)))).pt (AA rfl (Ao 4 G1.nd (A6 CL (qv 1) (Ac Ca g (A0 (qv 0) (A0 (BA My Aw (A0 (qv 1) A3)) A3)))))
   (A9 rfl (Ao 4 G1.nd (DE cu (B3 PX (qv 4) (Ac NV g (A0 (Ac Ca g (A0 (qv 0) (A0 A4 A3))) A3))) Dh (Cy A4))))) Ar))
   (AA rfl (CS (Ak (K2 (Ab Bh (qv 3) A4) (KW (Ab (LI g.HJ) (qv 1) (DL A3)))).pt (AA rfl (Ao 4 G1.nd (A6 CL (qv 1) (Ac Ca g (A0 (qv 0) (A0 (BA My Aw (A0 (qv 1) A3)) A3)))))
   (A9 rfl (Ao 4 G1.nd (DE cu (qv 4) Dh (Cy (B3 ET A4 (Ac Ca g (A0 (qv 0) (A0 (BA T4 Aw (A0 (qv 4) A3)) A3))))))))) Ar))
   (AA rfl (Ao 5 G1.nd A4)
   (AA rfl (CS (aR Mj (Ab Hm (qv 4) (qv 1)) (AA rfl (Ao 4 G1.nd (Ac NV g (A0 (qv 5) A3)))
   (A9 rfl (Ao 5 G1.nd (B3 ET (qv 5) A4))))))
   (A9 rfl (AR (qv 4))))))))))),?_⟩
 have I:(ns.map V.str).length=ns.length:=Ae _;have B:AO K H q (ns.map V.str):=AO.of B;refine⟨(by show 13<=sizeLine;decide +kernel),λo Zd=>?_⟩;have Ea:o≠p:=by
  obtain⟨_,_,e,_⟩:=W;exact(DU e Zd).symm
 have g0:BM p H (upd H o (.tup PC)):=BM.of W (B8 Zd _);refine⟨_,rfl,p,4,rfl,g0.Af,by decide,by decide,λd H1 w0 w1 s1=>?_⟩;refine⟨_,rfl,_,rfl,p,13,rfl,s1.Af,by decide,by decide,λi H2 i0 u s2=>?_⟩;have h2:H2 o=some (.tup PC):=s2.at' (s1.at' AU Ea) Ea;obtain⟨x,hx,nx⟩:=ZB5 i0 u;refine⟨o,_,_,_,rfl,rfl,AN.of h2,hx,?_⟩;have g2:=g0.trans (s1.trans s2);refine⟨λσ' H'=>∃x,σ'=[some (.ref p),some (.ref q),some (.ref o),some (.int d),some (.str x),none]/\Nm x/\BM p H H',?_,?_⟩
 .refine⟨_,rfl,rfl,_,rfl,?_⟩;refine AY (λc=>?_) (λc=>?_)
  .refine⟨_,rfl,_,_,rfl,rfl,⟨by decide,by decide,by decide +kernel⟩,_,_,rfl,rfl,p,_,rfl,g2.Af,l9,ZAv,λr H3 G N σ=>?_⟩;have L:r<26 ^ 8:=Int.lt_trans N ZCv;exact⟨r,rfl,G,L,λH4 s4=>⟨_,rfl,Vy (iD G L),(g2.trans σ).trans (BM.of σ.Af s4)⟩⟩
  .exact⟨x,rfl,nx,g2⟩
 clear h2 hx nx s2 g2 i0 u;rintro σ' H3⟨y,rfl,t,l⟩;refine⟨λσ' H'=>∃x,σ'=[some (.ref p),some (.ref q),some (.ref o),some (.int d),some (.str x),none]/\Nm x/\BM p H H',?_,?_⟩
 .refine⟨_,rfl,rfl,_,rfl,?_⟩;refine AY (λc=>?_) (λc=>DK ⟨y,rfl,t,l⟩);refine⟨_,rfl,(by show 0<=sizeLine;decide),λe X=>?_⟩;have b:=l.trans (BM.of l.Af (B8 X (.lst [])));have M:=b.Nq B Ai;refine⟨q,e,_,[],rfl,rfl,.inl ⟨M,AO.of AU⟩,II ns,rfl,_,rfl,?_⟩;rw[Sr];refine AY (λc2=>?_) (λc2=>⟨y,rfl,t,b⟩);have JK:0<ns.length:=by
   cases ns with
   |nil=>simp at c2
   |cons a r=>simp
  refine⟨_,rfl,_,rfl,_,rfl,q,_,rfl,.inl M,p,_,rfl,b.Af,(by rw[I];omega),(by rw[I];omega),λi H5 i0 u S=>?_⟩;rw[I]at u;have D:=b.trans S;obtain⟨z,U,W3,_⟩:=UM i0 u;have C:=Y z W3;refine⟨q,_,_,_,rfl,rfl,D.Nq B Ai,U,?_⟩;refine⟨_,rfl,_,rfl,p,26,rfl,D.Af,by decide,by decide,λr H6 G N R=>?_⟩;have O:=D.trans R;have L:r<26 ^ 8:=Int.lt_trans N nX;refine⟨r,rfl,G,L,λH7 s7=>?_⟩;have O:=O.trans (BM.of O.Af s7);have nl:=Vy (n:=r.toNat) (iD G L);have hlen:z.length+(Cv (MA.lets r.toNat)).length<=16:=by have:=C.2.1;have:=nl.2.1;omega
  refine⟨_,_,rfl,rfl,small (by omega),?_⟩;refine⟨_,rfl,_,rfl,small (by rw[ck];omega),?_⟩;refine⟨_,rfl,fk (by decide) (by decide) (by rw[ck];have:=C.1;omega) (λc J=>?_),O⟩;rw[aI]at J;rcases List.mem_append.mp J with J|J
  .exact C.2.2 c J
  .exact nl.2.2 c J
 clear t l;rintro σ' H3⟨y,rfl,t,l⟩;refine⟨λσ' H'=>∃x,σ'=[some (.ref p),some (.ref q),some (.ref o),some (.int d),some (.str x),none]/\Nm x/\BM p H H',?_,?_⟩
 .refine⟨_,rfl,rfl,_,rfl,?_⟩;refine AY (λc=>?_) (λc=>DK ⟨y,rfl,t,l⟩);refine⟨_,rfl,(by show 0<=sizeLine;decide),λe X=>?_⟩;have b:=l.trans (BM.of l.Af (B8 X (.lst [])));have M:=b.Nq B Ai;refine⟨q,e,_,[],rfl,rfl,.inl ⟨M,AO.of AU⟩,II ns,rfl,_,rfl,?_⟩;rw[Sr];refine AY (λc2=>?_) (λc2=>⟨y,rfl,t,b⟩);have JK:0<ns.length:=by
   cases ns with
   |nil=>simp at c2
   |cons a r=>simp
  refine⟨_,rfl,_,rfl,_,rfl,q,_,rfl,.inl M,p,_,rfl,b.Af,(by rw[I];omega),(by rw[I];omega),λi H5 i0 u S=>?_⟩;rw[I]at u;have D:=b.trans S;obtain⟨z,U,W3,_⟩:=UM i0 u;have C:=Y z W3;refine⟨q,_,_,_,rfl,rfl,D.Nq B Ai,U,?_⟩;have T:=C.1;have nz2:=C.2.1;refine⟨_,rfl,_,rfl,_,rfl,_,rfl,small (by omega),p,_,rfl,D.Af,(by omega),(by omega),λr H6 G N R=>?_⟩;refine⟨_,_,rfl,rfl,_,rfl,_,rfl,small (by omega),?_⟩;exact⟨_,rfl,fk (by omega) (by omega) T C.2.2,D.trans R⟩
 clear t l;rintro σ' H3⟨y,rfl,t,l⟩;refine⟨λσ' H'=>∃x v,σ'=[some (.ref p),some (.ref q),some (.ref o),some (.int d),some (.str x),some v]/\Nm x/\x∉ns/\BM p H H',?_,?_⟩
 .refine⟨λm σ' H'=>∃(k:Nat)(x:Str),σ'=[some (.ref p),some (.ref q),some (.ref o),some (.int d),some (.str x),some (.int k)]/\BM p H H'/\Nm x/\m=ns.length+1 - k/\k<=ns.length+1/\(0<k->x=Cv (MA.lets (k - 1)))/\(∀j,j+1<k->Cv (MA.lets j)∈ns),
   ⟨ns.length+1,0,y,rfl,l,t,rfl,CK _,λh=>absurd h (by decide),λj h=>absurd h (by omega)⟩,?_⟩
  rintro m σ' H'⟨k,x,rfl,b,nx,rfl,hk,hx,hj⟩;refine⟨_,rfl,_,rfl,q,_,rfl,.inl (b.Nq B Ai),rfl,II ns,_,rfl,?_⟩;rw[mL (by decide),Pw];refine AY (λc=>?_) (λc=>⟨x,_,rfl,nx,λz=>c (mG z),b⟩);have GU:x∈ns:=mP c;have M1:∀j,j<k->Cv (MA.lets j)∈ns:=λj M4=>by
   by_cases e:j+1<k
   .exact hj j e
   .have e2:j=k - 1:=by omega
    rw[e2,<- hx (by omega)];exact GU
  have RV:=pP M1;refine⟨λσ' H'=>σ'=[some (.ref p),some (.ref q),some (.ref o),some (.int d),some (.str (Cv (MA.lets k))),some (.int ((k:Int)+1))]/\BM p H H',?_,?_⟩
  .rintro σ' H'⟨rfl,b⟩;exact⟨ns.length+1 - (k+1),by omega,k+1,Cv (MA.lets k),rfl,b,Vy (FR (Bz RV hL) xD),rfl,by omega,λ_=>rfl,λj M4=>M1 j (by omega)⟩
  .refine⟨_,rfl,k,rfl,by omega,?_,λH4 s4=>?_⟩
   .have:(k:Int)<=1000:=by omega
    exact ZEy this uH
   .rw[S6];exact⟨_,rfl,_,_,rfl,rfl,rfl,b.trans (BM.of b.Af s4)⟩
 rintro σ' H'⟨x,v,rfl,nx,hx,b⟩;exact⟨_,rfl,K1 x H' nx hx b⟩
def WV:Ay ["pot","many","names","k"] ["pot","many"] (AS VN):=by walk_at "z1"
def ZAi(F:AH K "_law_names" "_law_names" VN f fd)(m:mg "_law_names"=some (.ref f)):
  A7 P w K mg Zf "_law_names" 3 ["pot","many"] (iF):=by
 refine A7.mk F (F.binds (by walk_at "bD2")) m (F.BI (k:=2) WV (λvs H Q E h=>?_) (λAQ A outer s H vs Q E u h=>?_))
 .obtain⟨p,m,rfl,j,r,o,q⟩:=h;rfl
 obtain⟨p,m,rfl,j,r,o,q⟩:=h;refine⟨_,(AA rfl (Ao 2 WV.nd (DL A3))
   (AA rfl (CS (LS Mj rfl (gJ rfl Lr (A0 (qv 1) A3)) (DF 3 WV.nd) (A9 rfl (D1 (FQ Ft Jm Jn IC (qv 2) (A0 (Ac Sh u (A0 (qv 0) (A0 (qv 2) A3))) A3))))))
   (A9 rfl (AR (qv 2))))),?_⟩
 refine⟨(by show 0<=sizeLine;decide),λl c=>?_⟩;have d:=j.ne c;refine⟨λσ' H'=>∃(ns:List Str)(v:Option V),σ'=[some (.ref p),some (.int m),some (.ref l),v]/\BM p H H'/\H' l=some (.lst (ns.map V.str))/\(ns.length:Int)=m/\(∀x∈ns,Nm x)/\ns.Nodup,?_,?_⟩
 .refine⟨_,rfl,m,rfl,by omega,by omega,pM (n:=m.toNat) (λi σ' H'=>∃(ns:List Str)(v:Option V),σ'=[some (.ref p),some (.int m),some (.ref l),v]/\BM p H H'/\H' l=some (.lst (ns.map V.str))/\ns.length=i/\(∀x∈ns,Nm x)/\ns.Nodup) ?_ ?_ ?_⟩
  .exact⟨[],none,rfl,(BM.of j (AE.refl H)).upd c d,AU,rfl,λx hx=>absurd hx (by simp),by simp⟩
  .rintro i σ' H' hi⟨ns,v,rfl,g,e,a,b,nd⟩;refine⟨_,rfl,.inl ⟨rfl,_,AO.of e⟩,_,rfl,_,rfl,p,l,ns,rfl,g.Af,e,d,b,by omega,λx H2 nx hx s2=>?_⟩;refine⟨l,_,_,rfl,rfl,s2.at' e d,FR (m:=100) (by rw[Ae];omega) (by decide +kernel),?_⟩;refine⟨ns++[x],_,rfl,(g.trans s2).upd c d,by rw[AU,D6];rfl,by rw[Bi];simp[a],λy t=>?_,Sx nd hx⟩;rcases List.mem_append.mp t with h|h
   .exact b y h
   .have:y=x:=by simpa using h
    rw[this];exact nx
  .rintro σ' H'⟨ns,v,rfl,g,e,a,b,nd⟩;exact⟨ns,v,rfl,g,e,by omega,b,nd⟩
 rintro σ' H'⟨ns,v,rfl,g,e,a,b,nd⟩;exact⟨_,rfl,q l H' ns c g e a b nd⟩
def SR:Ay ["pot","most","many"] ["pot","most"] (AS TH):=by walk_at "z1"
def mZ(F:AH K "_law_row" "_law_row" TH f fd)(m:mg "_law_row"=some (.ref f)):
  A7 P w K mg Zf "_law_row" 4 ["pot","most"] (TQ):=by
 refine A7.mk F (F.binds (by walk_at "bD2")) m (F.BI (k:=3) SR (λvs H Q E h=>?_) (λAQ A outer s H vs Q E b h=>?_))
 .obtain⟨p,m,rfl,i,c,u,q⟩:=h;rfl
 obtain⟨p,m,rfl,i,c,u,q⟩:=h;refine⟨_,(AA rfl (Ao 2 SR.nd (Ac Ca b (A0 (qv 0) (A0 (B3 ET (qv 1) A4) A3))))
   (AA rfl (CS (Ak (Ab Bh (Ac Ca b (A0 (qv 0) (A0 A4 A3))) A4) (A9 rfl (Ao 2 SR.nd (A6 A8 (BB (A0 A4 (A0 A4 (A0 (qv 1) A3)))) (Ac Ca b (A0 (qv 0) (A0 A4 A3)))))) Ar))
   (A9 rfl (AR (Ac Wy b (A0 (qv 0) (A0 (qv 2) A3))))))),?_⟩
 refine⟨_,rfl,_,rfl,_,_,rfl,rfl,p,_,rfl,i,by omega,by omega,λa H1 n0 I s1=>?_⟩;refine⟨λσ' H'=>∃k:Int,σ'=[some (.ref p),some (.int m),some (.int k)]/\0<=k/\k<=m/\BM p H H',?_,?_⟩
 .refine⟨_,rfl,p,8,rfl,s1.Af,by decide,by decide,λr H2 G D s2=>?_⟩;have g2:=s1.trans s2;refine⟨rfl,_,rfl,?_⟩;refine AY (λ_=>?_) (λ_=>⟨a,rfl,n0,by omega,g2⟩);refine⟨_,rfl,(by show 3<=sizeLine;decide +kernel),λt d=>?_⟩;have C:=g2.Af.ne d;have o:=g2.trans (BM.of g2.Af (B8 d (.tup [.int 0,.int 1,.int m])));refine⟨_,rfl,p,3,rfl,o.Af,by decide,by decide,λj H4 x v s4=>?_⟩;obtain⟨k,z,k0,k1⟩:=lG x v c;exact⟨t,_,_,_,rfl,rfl,AN.of (s4.at' AU C),z,k,rfl,k0,k1,o.trans s4⟩
 rintro σ' H'⟨k,rfl,k0,k1,g⟩;refine⟨_,rfl,_,rfl,p,k,rfl,g.Af,k0,by omega,λl H' ns y s e n B nd=>?_⟩;exact q l H' ns (g.none y) (g.trans s) e (by omega) B nd
def O9:Ay ["pot","row","coming","share","name","rule"] ["pot","row"] (AS UW):=by walk_at "z1"
def vf(F:AH K "_law_some_loop" "_law_some_loop" UW f fd)(m:mg "_law_some_loop"=some (.ref f)):
  A7 P w K mg Zf "_law_some_loop" 2 ["pot","row"] (Y1):=by
 refine A7.mk F (F.binds (by walk_at "bD2")) m (F.BI (k:=1) O9 (λvs H Q E h=>?_) (λAQ A outer s H vs Q E o h=>?_))
 .obtain⟨p,q,ns,rfl,C,b,Ai,R,nd,K1⟩:=h;rfl
 obtain⟨p,q,ns,rfl,C,b,Ai,R,nd,K1⟩:=h;refine⟨_,(AA rfl (Ao 2 O9.nd (DL A3))
   (AA rfl (Ao 3 O9.nd (B3 ET A4 (Ac Ca o (A0 (qv 0) (A0 A4 A3)))))
   (AA rfl (CS (LS Mj rfl (DW (qv 1)) (DF 4 O9.nd) (A9 rfl (Ak (Ab Hy (Ac Ca o (A0 (qv 0) (A0 A4 A3))) (qv 3)) (A9 rfl (D1 (FQ Ft Jm Jn IC (qv 2) (A0 (qv 4) A3)))) Ar))))
   (AA rfl (Ao 5 O9.nd (A6 A8 (BB (A0 B1 (A0 B1 (A0 B1 A3)))) (Ac Ca o (A0 (qv 0) (A0 A4 A3)))))
   (A9 rfl (AR (BB (A0 (qv 5) (A0 (Ac Ca o (A0 (qv 0) (A0 (B3 ET (BA My Aw (A0 (qv 1) A3)) A4) A3))) (A0 (D3 JR CQ (A0 (BA RT Dc (A0 (qv 2) A3)) A3)) A3)))))))))),?_⟩
 have u:=Fw ns;refine⟨(by show 0<=sizeLine;decide),λl LO=>?_⟩;have n:=C.ne LO;have hlq:l≠q:=(DU b LO).symm;have g0:BM p H (upd H l (.lst [])):=BM.of C (B8 LO _);refine⟨_,rfl,p,4,rfl,g0.Af,by decide,by decide,λJ H1 _ _ s1=>⟨_,_,rfl,rfl,?_⟩⟩;have g1:=g0.trans s1;refine⟨λσ' H'=>∃(cs:List Str)(v:Option V),σ'=[some (.ref p),some (.ref q),some (.ref l),some (.int (1+J)),v,none]/\BM p H H'/\H' l=some (.lst (cs.map V.str))/\cs.Sublist ns,?_,?_⟩
 .refine⟨_,rfl,false,q,_,rfl,AO.of (g1.at' b Ai),yn (λi σ' H'=>∃(cs:List Str)(v:Option V),σ'=[some (.ref p),some (.ref q),some (.ref l),some (.int (1+J)),v,none]/\BM p H H'/\H' l=some (.lst (cs.map V.str))/\cs.Sublist (ns.take i)) ?_ ?_ ?_ ?_⟩
  .exact⟨[],none,rfl,g1,s1.at' AU n,ZFD _⟩
  .rintro i σ' H' _⟨cs,v,rfl,g,e,a⟩;exact AO.of (g.at' b Ai)
  .rintro i x σ' H' hx⟨cs,v,rfl,g,e,a⟩;obtain⟨y,rfl,S⟩:=zo hx;have hi:i<ns.length:=(List.getElem?_eq_some_iff.mp S).1;have Y:ns.take (i+1)=ns.take i++[y]:=by
    rw[List.take_succ,S];rfl
   have I:cs.length<=40:=by
    have h1:=a.length_le;rw[Bu]at h1;omega
   refine⟨_,rfl,p,4,rfl,g.Af,by decide,by decide,λr H2 r0 r1 s2=>⟨_,rfl,_,_,rfl,rfl,_,rfl,?_⟩⟩;have d:=s2.at' e n;refine AY (λc=>?_) (λc=>?_)
   .refine⟨_,rfl,.inl ⟨rfl,_,AO.of d⟩,_,rfl,l,_,_,rfl,rfl,d,FR (m:=40) (by rw[Ae];exact I) (by decide +kernel),?_⟩;exact⟨cs++[y],_,rfl,(g.trans s2).upd LO n,by rw[AU,D6];rfl,by rw[Y];exact a.append (List.Sublist.refl _)⟩
   .exact⟨cs,_,rfl,g.trans s2,d,by rw[Y];exact a.trans (List.sublist_append_left _ _)⟩
  .rintro σ' H'⟨cs,v,rfl,g,e,a⟩;rw[u,Jk]at a;exact⟨cs,v,rfl,g,e,a⟩
 rintro σ' H2⟨cs,v,rfl,g2,d,a⟩;refine⟨(by show 3<=sizeLine;decide),λt1 QV=>?_⟩;have D:=g2.Af.ne QV;have O:=B8 QV (.tup (IH.map V.str));have X:=g2.trans (BM.of g2.Af O);refine⟨_,rfl,p,3,rfl,X.Af,by decide,by decide,λj H4 j0 j1 s4=>?_⟩;obtain⟨r,Tv,Lc⟩:=az j0 j1;refine⟨t1,_,_,_,rfl,rfl,AN.of (s4.at' AU D),Tv,?_⟩;have G:=X.trans s4;have q4:=G.at' b Ai;refine⟨_,rfl,_,rfl,_,rfl,q,_,rfl,.inl (AO.of q4),_,_,rfl,rfl,p,_,rfl,G.Af,(by rw[u];omega),(by rw[u];omega),λW H5 p0 p1 L=>?_⟩;rw[u]at p1;have z:=G.trans L;have e5:=L.at' (s4.at' (O _ _ d) n) n;have I:cs.length<=40:=Bz a.length_le R;refine⟨_,rfl,l,false,cs,rfl,AO.of e5,by omega,λl2 ts CY MF BQ=>?_⟩;have B:=B8 CY (.lst (ts.map V.str));refine⟨l2,_,rfl,.inl ⟨AO.of AU,λc U=>?_⟩⟩;have N:=B8 U (.tup (ts.map V.str));refine⟨(by show 3<=sizeLine;decide),λt T=>?_⟩;have M:=B8 T (.tup [.str r,.int W,.ref c]);have g8:=z.trans (BM.of z.Af (B.trans (N.trans M)));have σ:ts.Nodup:=MF.nodup_iff.mpr (nd.sublist a);refine K1 t c r W ts _ (z.none (AE.none (B.trans N) T)) (z.none (AE.none B U)) g8 AU (M _ _ AU) ⟨Lc,p0,by omega,QU BQ σ,λx hx=>a.subset (MF.mem_iff.mp hx),by rw[MF.length_eq];exact I⟩
def FV:Ay ["pot","row","one","other","way","name","coming"] ["pot","row"] (AS RZ):=by walk_at "z1"
noncomputable abbrev Sc(l):=Scope.mk .function l false false []
def zK:=Sc [(".0",.local),("some",.local),("name",.free)]
def ZDd:CV ["pot","row","one","other","way","name","coming"] (AS RZ) zK "some" ["name"] [5]:=by walk_at "z2"
def Zh : ∀ss R,XD ss R->ss.length=2:=by rintro _ _⟨ns,rfl,_,rfl⟩;rfl
def wC(F:AH K "_law_pair" "_law_pair" RZ f fd)(m:mg "_law_pair"=some (.ref f)):
  A7 P w K mg Zf "_law_pair" 3 ["pot","row"] (Ah XD):=by
 refine A7.mk F (F.binds (by walk_at "bD2")) m (F.BI (k:=2) FV (λvs H Q E h=>Fz.Bq Zh h) (λAQ A outer s H vs Q E l h=>?_))
 refine⟨_,(AA rfl (Ao 2 FV.nd (Ac Q0 l (A0 (qv 0) (A0 (qv 1) A3))))
   (AA rfl (Ao 3 FV.nd (Ac Q0 l (A0 (qv 0) (A0 (qv 1) A3))))
   (AA rfl (Ao 4 FV.nd (Ac Ca l (A0 (qv 0) (A0 A4 A3))))
   (AA rfl (CS (Ak (Ab Bh (qv 4) A4) (A9 rfl (Ao 3 FV.nd (BB (A0 (A6 A8 (qv 3) A4) (A0 (A6 A8 (qv 2) A4) (A0 (A6 A8 (qv 2) A4) A3)))))) Ar))
   (AA rfl (CS (Ak (Ab Bh (qv 4) A4) (A9 rfl (Ao 3 FV.nd (BB (A0 (A6 A8 (qv 2) A4) (A0 (A6 A8 (qv 3) A4) (A0 (A6 A8 (qv 2) A4) A3)))))) Ar))
   (AA rfl (CS (Ak (Ab Bh (qv 4) A4) (A9 rfl (Ao 3 FV.nd (BB (A0 (A6 A8 (qv 2) A4) (A0 (A6 A8 (qv 2) A4) (A0 (A6 A8 (qv 3) A4) A3)))))) Ar))
   (AA rfl (CS (Ak (Ab Bh (qv 4) A4) (A9 rfl (Ao 3 FV.nd (BB (A0 (A6 A8 (qv 3) A4) (A0 (A6 A8 (qv 3) A4) (A0 (A6 A8 (qv 2) A4) A3)))))) Ar))
   (AA rfl (CS (Ak (K2 (Ab Bh (qv 4) A4) (KW (Ab (LI l.HJ) (qv 1) (DL A3)))).pt (AA rfl (Ao 5 FV.nd (A6 CL (qv 1) (Ac Ca l (A0 (qv 0) (A0 (BA D0 Aw (A0 (qv 1) A3)) A3)))))
   (AA rfl (cH (i:=6) FV.nd rfl (Or.inl rfl) rfl ZDd (DW (A6 A8 (qv 2) A4)) (λ_ _ _ _=>by exact(HV (Ab GG (qv 1) (qv 0)))) (λ_ _ _ _=>by exact(qv 1)))
   (AA rfl (CS (Ak (Ab R7 (qv 5) (A6 A8 (qv 2) A4)) (A9 rfl (D1 (FQ Ft Jm Jn IC (qv 6) (A0 (qv 5) A3)))) Ar))
   (A9 rfl (Ao 3 FV.nd (BB (A0 (A6 A8 (qv 2) A4) (A0 (A6 A8 (qv 2) A4) (A0 (D3 JR CQ (A0 (BA RT Dc (A0 (qv 6) A3)) A3)) A3))))))))) Ar))
   (AA rfl (CS (Ak (Ab Bh (qv 4) A4) (AA rfl (Ao 2 FV.nd (BB (A0 (A6 A8 (qv 2) A4) (A0 (A6 A8 (qv 2) A4) (A0 (DE Fz.JD (A6 A8 (qv 2) A4) Dh (Cy (Ac Ca l (A0 (qv 0) (A0 A4 A3))))) A3)))))
   (A9 rfl (Ao 3 FV.nd (BB (A0 (A6 A8 (qv 2) A4) (A0 (A6 A8 (qv 3) A4) (A0 (A6 A8 (qv 2) A4) A3))))))) Ar))
   (A9 rfl (AR (BB (A0 (qv 2) (A0 (qv 3) A3)))))))))))))),?_⟩
 refine Fz.Bo h Zh ?_;rintro _ _⟨ns,rfl,p,rfl⟩;show Ws [_,_,.any,.any,.any,.any,.any] _ _ _;have B:=p.len;refine B2 (EI (gi rfl (B7 rfl ⟨rfl,ns,rfl,B,p.nd,λn g1 c1 ZD I=>?_⟩)));refine B2 (EI (gi rfl (B7 rfl ⟨rfl,ns,rfl,B,p.nd,λq g2 c2 v IZ=>?_⟩)))
 walk_at "ww"
 refine⟨by decide,by decide,λw S R=>?_⟩;obtain⟨k1,G,a⟩:∃k1:Lp,Cz n g1 c1=k1.P/\k1.Good ns:=⟨⟨n,g1,c1⟩,rfl,ZD⟩;obtain⟨k2,D,e⟩:∃k2:Lp,Cz q g2 c2=k2.P/\k2.Good ns:=⟨⟨q,g2,c2⟩,rfl,v⟩;rw[G,D];clear G D ZD v I IZ n g1 c1 q g2 c2;obtain⟨d,N⟩:∃d:Slot,d=.any:=⟨_,rfl⟩;obtain⟨b,M⟩:∃b:Slot,b=.any:=⟨_,rfl⟩;clear N M;refine Jy (λAV=>∃(l1 l2:Lp)(d b:Slot),AV=[.Af,.sq false (ns.map .str),.is l1.P,.is l2.P,.is (.int w),d,b]/\l1.Good ns/\l2.Good ns) ?_ ?_
 .refine GN ?_
  walk_at "ww"
  refine AY (λc=>?_) (λc=>An ⟨k1,k2,_,_,rfl,a,e⟩);unfold Lp.P Cz
  walk_at "ww"
  exact⟨by simp,k1,⟨k2.r,k1.g,k1.cs⟩,_,_,rfl,a,OM e a a⟩
 clear a e k1 k2 d b;rintro _⟨k1,k2,d,b,rfl,a,e⟩;refine Jy (λAV=>∃(l1 l2:Lp)(d b:Slot),AV=[.Af,.sq false (ns.map .str),.is l1.P,.is l2.P,.is (.int w),d,b]/\l1.Good ns/\l2.Good ns) ?_ ?_
 .refine GN ?_
  walk_at "ww"
  refine AY (λc=>?_) (λc=>An ⟨k1,k2,_,_,rfl,a,e⟩);unfold Lp.P Cz
  walk_at "ww"
  exact⟨by simp,k1,⟨k1.r,k2.g,k1.cs⟩,_,_,rfl,a,OM a e a⟩
 clear a e k1 k2 d b;rintro _⟨k1,k2,d,b,rfl,a,e⟩;refine Jy (λAV=>∃(l1 l2:Lp)(d b:Slot),AV=[.Af,.sq false (ns.map .str),.is l1.P,.is l2.P,.is (.int w),d,b]/\l1.Good ns/\l2.Good ns) ?_ ?_
 .refine GN ?_
  walk_at "ww"
  refine AY (λc=>?_) (λc=>An ⟨k1,k2,_,_,rfl,a,e⟩);unfold Lp.P Cz
  walk_at "ww"
  exact⟨by simp,k1,⟨k1.r,k1.g,k2.cs⟩,_,_,rfl,a,OM a a e⟩
 clear a e k1 k2 d b;rintro _⟨k1,k2,d,b,rfl,a,e⟩;refine Jy (λAV=>∃(l1 l2:Lp)(d b:Slot),AV=[.Af,.sq false (ns.map .str),.is l1.P,.is l2.P,.is (.int w),d,b]/\l1.Good ns/\l2.Good ns) ?_ ?_
 .refine GN ?_
  walk_at "ww"
  refine AY (λc=>?_) (λc=>An ⟨k1,k2,_,_,rfl,a,e⟩);unfold Lp.P Cz
  walk_at "ww"
  exact⟨by simp,k1,⟨k2.r,k2.g,k1.cs⟩,_,_,rfl,a,OM e e a⟩
 clear a e k1 k2 d b;rintro _⟨k1,k2,d,b,rfl,a,e⟩;refine Jy (λAV=>∃(l1 l2:Lp)(d b:Slot),AV=[.Af,.sq false (ns.map .str),.is l1.P,.is l2.P,.is (.int w),d,b]/\l1.Good ns/\l2.Good ns) ?_ ?_
 .refine GN (CM (aC (Cf (Qw ?_))))
  walk_at "ww"
  refine AY (λc=>?_) (λc=>DK (An ⟨k1,k2,_,_,rfl,a,e⟩));unfold Lp.P Cz
  walk_at "ww"
  have cl:=BK.len a;refine⟨by simp,_,.inl ⟨rfl,rfl,[],rfl,_,rfl,AY (λc2=>?_) (λc2=>An ⟨k1,k2,_,_,rfl,a,e⟩)⟩⟩;have T:0<ns.length:=List.length_pos_iff.mpr (λz=>by rw[z]at c2;cases c2)
  walk_at "ww"
  rw[Ae];refine⟨by omega,by omega,λr t n=>?_⟩;obtain⟨j,rfl⟩:=Jh t;obtain⟨x,hx,ex⟩:=ZB2 (ns:=ns) (k:=j) (by omega);refine⟨_,_,rfl,ex,?_⟩;refine B2 (FL (Hf PV.str (λy=>!alike (.str y) (.str x)) PV.str ?_ str_inj))
  walk_at "ww"
  refine⟨by omega,λy o=>by walk_at "ww"; rfl,λy o _=>by walk_at "ww"; rfl,?_⟩
  rw[R4];refine Jy (λAV=>∃ys:List Str,AV=[.Af,.sq false (ns.map .str),.is k1.P,.is k2.P,.is (.int w),.is (.str x),.own (ys.map .str)]/\(ys=wo k1.cs x∨(x∉k1.cs/\ys=wo k1.cs x++[x]))) ?_ ?_
  .refine GN ?_
   walk_at "ww"
   refine AY (λu=>?_) (λu=>An ⟨_,rfl,.inl rfl⟩)
   walk_at "ww"
   have J:(wo k1.cs x).length<=k1.cs.length:=GX _ _;refine⟨by rw[Ae];omega,wo k1.cs x++[x],by rw[D6];rfl,.inr ⟨λz=>?_,rfl⟩⟩;rw[mG z]at u;cases u
  rintro _⟨ys,rfl,o⟩;have O:ys.length<=41:=by
   have J:(wo k1.cs x).length<=k1.cs.length:=GX _ _;rcases o with rfl|⟨_,rfl⟩
   .omega
   .rw[Bi];show _+1<=_;omega
  unfold Lp.P Cz
  walk_at "ww"
  refine⟨by omega,λts L st=>?_⟩
  walk_at "ww"
  exact⟨by simp,k1,⟨k1.r,k1.g,ts⟩,_,_,rfl,a,om a hx o L st⟩
 clear a e k1 k2 d b;rintro _⟨k1,k2,d,b,rfl,a,e⟩;refine Jy (λAV=>∃(l1 l2:Lp)(d b:Slot),AV=[.Af,.sq false (ns.map .str),.is l1.P,.is l2.P,.is (.int w),d,b]/\l1.Good ns/\l2.Good ns) ?_ ?_
 .refine GN ?_
  walk_at "ww"
  refine AY (λc=>?_) (λc=>An ⟨k1,k2,_,_,rfl,a,e⟩);unfold Lp.P Cz
  walk_at "ww"
  refine⟨by decide,by decide,λr t n=>?_⟩;obtain⟨j,rfl⟩:=Jh t;refine⟨_,rfl,Cs ⟨by simp,?_⟩⟩;rw[Pq,<- LA];have C:BK ns k1.r k1.g (k1.cs.take j):=⟨a.rule,a.g0,a.g1,uU a.up j,λx hx=>a.sub x (kL hx)⟩;unfold gM;refine EI ?_
  walk_at "ww"
  exact⟨by simp,⟨k1.r,k1.g,k1.cs.take j⟩,⟨k1.r,k2.g,k1.cs.take j⟩,_,_,rfl,C,OM a e C⟩
 clear a e k1 k2 d b;rintro _⟨k1,k2,d,b,rfl,a,e⟩;exact Ba (FW (Bm (AF rfl (Bm (AF rfl (Cs ⟨by simp,k1,k2,rfl,a,e⟩))))))
def qP:Ay ["row","gap"] ["row","gap"] (AS Ur):=by walk_at "z1"
def eU : ∀ss R,UO ss R->ss.length=2:=by rintro _ _⟨tp,ns,g,rfl,rfl⟩;rfl
def rB(F:AH K "is_gap" "is_gap" Ur f fd)(m:mg "is_gap"=some (.ref f)):
  A7 P w K mg Zf "is_gap" 1 ["row","gap"] (Ah UO):=by
 refine A7.mk F (F.binds (by walk_at "bD2")) m (F.BI (k:=0) qP (λvs H Q E h=>Fz.Bq eU h) (λAQ A outer s H vs Q E a h=>?_))
 refine⟨_,(A9 rfl (AR (UH Cm Cm A4 (qv 1) (BA D0 Aw (A0 (qv 0) A3))))),?_⟩;refine Fz.Bo h eU ?_;rintro _ _⟨tp,ns,g,rfl,rfl⟩;show Ws [_,_] _ _ _;refine Ba (Ge ?_)
 walk_at "ww"
 refine AY (λc=>?_) (λc=>?_)
 .walk_at "ww"
  rw[Ae];have h:=mP c;cases e:decide (g<=(ns.length:Int))with
  |true=>rw[mG (show inR g 0 ns.length from⟨h,mP e⟩)]
  |false=>rw[p6 (λz:inR g 0 ns.length=>of_decide_eq_false e z.2)]
 .rw[p6 (λz:inR g 0 ns.length=>c (mG z.1))]
def lJ:Ay ["row","coming"] ["row","coming"] (AS PU):=by walk_at "z1"
def ZCr:=Sc [(".0",.local),("name",.local),("row",.free)]
def sZ:CV ["row","coming"] (AS PU) ZCr "name" ["row"] [0]:=by walk_at "z2"
def ji : ∀ss R,Xj ss R->ss.length=2:=by rintro _ _⟨tp,ns,ts,rfl,a,rfl⟩;rfl
def yJ(F:AH K "is_coming" "is_coming" PU f fd)(m:mg "is_coming"=some (.ref f)):
  A7 P w K mg Zf "is_coming" 1 ["row","coming"] (Ah Xj):=by
 refine A7.mk F (F.binds (by walk_at "bD2")) m (F.BI (k:=0) lJ (λvs H Q E h=>Fz.Bq ji h) (λAQ A outer s H vs Q E d h=>?_))
 refine⟨_,(A9 rfl (AR (GK (Ck (VH d.HJ) (D3 IM Ce (A0 (qv 1) A3)) (BA (gS rfl) Dc (A0 (D3 (YU rfl) Kj (A0 (qv 1) A3)) A3))) (ED (BA (M3 rfl) FF (A0 (E2 rfl sZ (DW (qv 1)) (λ_ _ _ _=>by exact IG) (λ_ _ _ _=>by exact(Ck (show BD _ (compareOp .In) (HW K false)from Hm) (qv 1) (qv 0)))) A3)))))),?_⟩;refine Fz.Bo h ji ?_;rintro _ _⟨tp,ns,ts,rfl,a,rfl⟩;show Ws [_,_] _ _ _
 walk_at "ww"
 refine⟨a,λus i g b=>?_⟩
 walk_at "ww"
 unfold KD;have e:decide (ts=us)=decide (Up ts):=by rw[Eo,zF,zF];exact lq i g b
 rw[e];refine AY (λc=>?_) (λc=>by rw[mL c])
 walk_at "wp"
 refine FY (EF (nr PV.str (λx=>.bl (decide (x∈ns))) ?_ str_inj))
 walk_at "ww"
 refine⟨by omega,λx hx=>by walk_at "ww"; rfl,?_⟩
 walk_at "ww"
 rw[o9 c]
def vi:Ay ["row","thing"] ["row","thing"] (AS XE):=by walk_at "z1"
def ZS : ∀ss R,YM ss R->ss.length=2:=by rintro _ _⟨tp,ns,r,g,cs,rfl,_,rfl⟩;rfl
def zA(F:AH K "is_loop" "is_loop" XE f fd)(m:mg "is_loop"=some (.ref f)):
  A7 P w K mg Zf "is_loop" 2 ["row","thing"] (Ah YM):=by
 refine A7.mk F (F.binds (by walk_at "bD2")) m (F.BI (k:=1) vi (λvs H Q E h=>Fz.Bq ZS h) (λAQ A outer s H vs Q E a h=>?_))
 refine⟨_,(A9 rfl (AR (GK (Ck Hm (A6 A8 (qv 1) A4) (EJ (v:=.ref Iq) (by rfl) Uk rfl)) (GK (Ac XB a (A0 (qv 0) (A0 (A6 A8 (qv 1) A4) A3))) (ED (Ac Sj a (A0 (qv 0) (A0 (A6 A8 (qv 1) A4) A3)))))))),?_⟩;refine Fz.Bo h ZS ?_;rintro _ _⟨tp,ns,r,g,cs,rfl,b,rfl⟩;have C:Co K Iq ([("none":Str), "ahead","all"].map .str):=Co.of VB rfl rfl;unfold Em;show Ws [_,_] _ _ _;refine Ba (Ib (og (neg:=false) C ?_))
 walk_at "ww"
 refine AY (λc=>?_) (λc=>?_)
 .refine Ib (wp_call (B0 (B7 rfl (AL ?_))))
  walk_at "ww"
  refine Al ⟨_,⟨tp,ns,g,rfl,rfl⟩,?_⟩;rintro _ rfl;refine⟨_,rfl,AY (λc2=>?_) (λc2=>?_)⟩
  .refine wp_call (B0 (B7 rfl (AL ?_)))
   walk_at "ww"
   refine Al ⟨_,⟨tp,ns,cs,rfl,b,rfl⟩,?_⟩;rintro _ rfl;unfold GQ;rw[show NN r=true from c,c2];rfl
  .unfold GQ;rw[show decide (inR g 0 ns.length)=false from by cases e:decide (inR g 0 ns.length) <;> simp_all,Yk,L9]
 .unfold GQ;rw[show NN r=false from by cases e:NN r <;> first|rfl|exact absurd e c];rfl
def ZCs:Ay ["row","loop"] ["row","loop"] (AS VE):=by walk_at "z1"
def iG:∀ss R D,(RX CJ) ss R D->ss.length=2:=by rintro _ _ _⟨tp,ns,r,g,cs,rfl,_,rfl,rfl⟩;rfl
def ZCc(F:AH K "check_loop" "check_loop" VE f fd)(m:mg "check_loop"=some (.ref f)):
  BS P w K mg Zf "check_loop" 3 ["row","loop"] (C7 (RX CJ)):=by
 refine BS.mk F (F.binds (by walk_at "bD2")) m (F.Hb (k:=2) ZCs (λvs H Q E h=>Fz.Hn iG h) (λAQ A outer s H vs Q E b h=>?_))
 refine⟨_,(A9 rfl (Ak (DM (FP (Ac WG b (A0 (qv 0) (A0 (qv 1) A3))))) (A9 rfl (fw (by rfl) XZ U0 rfl rfl DP (A0 B1 A3))) Ar)),?_⟩;refine Fz.Hg h iG ?_;rintro _ _ _⟨tp,ns,r,g,cs,rfl,a,rfl,rfl⟩;intro i0;show Ws [_,_] _ _ _;refine CM (D2 (Dn (wp_call (B0 (B7 rfl (AL (AF rfl (Al ⟨_,⟨tp,ns,r,g,cs,rfl,a,rfl⟩,?_⟩))))))));rintro _ rfl;refine⟨_,rfl,AY (λc=>?_) (λc=>?_)⟩
 .refine cn ?_
  walk_at "ww"
  exact⟨by simp,trivial,by cases e:GQ ns r g cs <;> simp_all,rfl⟩
 .exact An ⟨_,rfl,by cases e:GQ ns r g cs <;> simp_all⟩
def ZAG:Ay ["row","one","other"] ["row","one","other"] (AS VM):=by walk_at "z1"
def aS : ∀ss R,P2 ss R->ss.length=3:=by rintro _ _⟨tp,ns,l1,l2,rfl,_,_,_,rfl⟩;rfl
def ZBe(F:AH K "check_pair" "check_pair" VM f fd)(m:mg "check_pair"=some (.ref f)):
  A7 P w K mg Zf "check_pair" 4 ["row","one","other"] (Ah P2):=by
 refine A7.mk F (F.binds (by walk_at "bD3")) m (F.BI (k:=3) ZAG (λvs H Q E h=>Fz.Bq aS h) (λAQ A outer s H vs Q E a h=>?_))
 refine⟨_,(AA rfl (D1 (Ct Ka a (by decide) Gb rfl (A0 (qv 0) (A0 (qv 1) A3))))
   (AA rfl (D1 (Ct Ka a (by decide) Gb rfl (A0 (qv 0) (A0 (qv 2) A3))))
   (A9 rfl (Ak (Ab Og (BA D0 Aw (A0 (qv 0) A3)) (EJ (v:=.int 37) (by rfl) VJ ⟨_,rfl⟩)) (A9 rfl ZBC) Ar)))),?_⟩
 refine Fz.Bo h aS ?_;rintro _ _⟨tp,ns,l1,l2,rfl,b,g1,g2,rfl⟩;show Ws [_,_,_] _ _ _;have d:=BK.len g1;have i:=BK.len g2;have c:=b.len;refine B2 (Gi ?_);refine Eb ?_;refine B0 (B7 rfl (AL (AF rfl (Al ⟨_,_,⟨tp,ns,l1.r,l1.g,l1.cs,rfl,by omega,rfl,rfl⟩,trivial,λe h=>?_,λ_ _=>?_⟩))))
 .have q:=Yb g1;rw[h.1]at q;cases q
 refine B2 (Gi ?_);refine Eb ?_;refine B0 (B7 rfl (AL (AF rfl (Al ⟨_,_,⟨tp,ns,l2.r,l2.g,l2.cs,rfl,by omega,rfl,rfl⟩,trivial,λe h=>?_,λ_ _=>?_⟩))))
 .have q:=Yb g2;rw[h.1]at q;cases q
 walk_at "ww"
 refine BG (by rw[Ae];simp;omega) (An ⟨_,rfl,trivial⟩)
def z7:Ay ["one","other"] ["one","other"] (AS Yg):=by walk_at "z1"
def j7 : ∀ss R,MM ss R->ss.length=2:=by rintro _ _⟨ns,l1,l2,rfl,_,_,_,rfl⟩;rfl
def pX(F:AH K "are_twins" "are_twins" Yg f fd)(m:mg "are_twins"=some (.ref f)):
  A7 P w K mg Zf "are_twins" 1 ["one","other"] (Ah MM):=by
 refine A7.mk F (F.binds (by walk_at "bD2")) m (F.BI (k:=0) z7 (λvs H Q E h=>Fz.Bq j7 h) (λAQ A outer s H vs Q E q h=>?_))
 refine⟨_,(AA rfl (Ak (Ez (Ab GG (A6 A8 (qv 0) A4) (A6 A8 (qv 1) A4)) (Ho (Ab (LI q.HJ) (A6 A8 (qv 0) A4) (A6 A8 (qv 1) A4)))).pt (A9 rfl (AR G3)) Ar)
   (A9 rfl (AR (Nn (Ck Bh (A6 A8 (qv 0) A4) (A6 A8 (qv 1) A4)) (ED (GK (Ck Bh (A6 A8 (qv 0) A4) B1) (ED (Ck Cm (BA D0 Aw (A0 (A6 A8 (qv 0) A4) A3)) A4)))))))),?_⟩
 refine Fz.Bo h j7 ?_;rintro _ _⟨ns,⟨a,g1,c1⟩,⟨b,g2,c2⟩,rfl,p,o,x,rfl⟩;have v:c1.length<=ns.length:=BK.len p;have u:c2.length<=ns.length:=BK.len o;show Ws [.is (.tup [.str a,.int g1,.tup (c1.map .str)]),.is (.tup [.str b,.int g2,.tup (c2.map .str)])] _ _ _;have n:¬ (a=b/\c1=c2)->PV.bl false=.bl (decide (EG ⟨a,g1,c1⟩ ⟨b,g2,c2⟩)):=λh=>by rw[p6 (λz=>h z.1)]
 walk_at "ww"
 refine AY (λc=>BR rfl (Ba (Gu (n λz=>?_)))) (λc=>?_)
 .rw[z.1]at c;simp[alike]at c
 have r:a=b:=by simpa[alike]using c
 subst r
 walk_at "ww"
 refine AY (λg=>Ba (Gu (n λz=>?_))) (λg=>An ?_)
 .rw[z.2]at g;simp at g
 have t:c1=c2:=by simpa using g
 subst t
 walk_at "ww"
 refine AY (λl=>?_) (λl=>?_)
 .have d:g1=g2:=Int.ofNat_inj.mp (by simpa[alike]using l)
  rw[mG (show EG ⟨a,g1,c1⟩ ⟨a,g2,c1⟩from⟨⟨rfl,rfl⟩,.inl d⟩)]
 have d:g1≠g2:=λe=>l (by rw[e];simp[alike])
 walk_at "ww"
 refine AY (λj=>?_) (λj=>?_)
 .have i:a="none" := by simpa[alike]using j
  walk_at "ww"
  rw[Ae]
  congr 1
  rw[Eo,oE,oE];exact⟨λz=>⟨⟨rfl,rfl⟩,.inr ⟨i,by show c1.length<=1;omega⟩⟩,λz=>z.2.elim (λw=>absurd w d) λw=>by have:c1.length<=1:=w.2;omega⟩
 .have i:a ≠"none" := by simpa[alike]using j
  rw[p6 (λz:EG ⟨a,g1,c1⟩ ⟨a,g2,c1⟩=>z.2.elim (λw=>d w) λw=>i w.1)]
def ZA:Ay ["row","names"] ["row"] (AS MZ):=by walk_at "z1"
def sg:=Sc [(".0",.local),("letter",.local)]
def ZCb:CV ["row","names"] (AS MZ) sg "letter" [] []:=by walk_at "z2"
def zu:=Sc [(".0",.local),("letter",.local)]
def vh:CV ["row","names"] (AS MZ) zu "letter" [] []:=by walk_at "z2"
def tO:=Sc [(".0",.local),("name",.local),("row",.free)]
def uC:CV ["row","names"] (AS MZ) tO "name" ["row"] [0]:=by walk_at "z2"
def d4 : ∀ss R,QC ss R->ss.length=1:=by rintro _ _⟨tp,ns,rfl,_,rfl⟩;rfl
def ZDf(F:AH K "fresh_names" "fresh_names" MZ f fd)(m:mg "fresh_names"=some (.ref f)):
  A7 P w K mg Zf "fresh_names" 1 ["row"] (Ah QC):=by
 refine A7.mk F (F.binds (by walk_at "bD1")) m (F.BI (k:=0) ZA (λvs H Q E h=>Fz.Bq d4 h) (λAQ A outer s H vs Q E g h=>?_))
 refine⟨_,(AA rfl (Ao 1 ZA.nd (B3 EH (E2 rfl ZCb (Qd (EJ (v:=.str "abcdefghijklmnopqrstuvwxyz") (by rfl) K8 ⟨_,rfl⟩)) (λ_ _ _ _=>by exact IG) (λ_ _ _ _=>by exact(B3 PX (qv 0) B1))) (E2 rfl vh (Qd (EJ (v:=.str "abcdefghijklmnopqrstuvwxyz") (by rfl) K8 ⟨_,rfl⟩)) (λ_ _ _ _=>by exact IG) (λ_ _ _ _=>by exact(B3 PX (qv 0) B1)))))
   (A9 rfl (AR (E2 rfl uC (DW (qv 1)) (λ_ _ _ _=>by exact(HV (Ab (show BD _ (compareOp .NotIn) (HW K true)from R7) (qv 1) (qv 0)))) (λ_ _ _ _=>by exact(qv 1)))))),?_⟩
 refine Fz.Bo h d4 ?_;rintro _ _⟨tp,ns,rfl,a,rfl⟩;have d:=a.len;show Ws [_,.any] _ _ _
 walk_at "ww"
 refine FY (EF (Hf (λc:Nat=>PV.str ⟨#[c]⟩) (λ_=>true) (λc=>.str (⟨#[c]⟩ ++ "a")) (jH (FE ⟨_,rfl,(Str.ofString "abcdefghijklmnopqrstuvwxyz").cps.toList,rfl,by decide +kernel,λc _=>IU rfl,λc _ _=>dH (AF rfl ⟨_,rfl,FE ⟨_,rfl,show(2:Nat)<=100000 from by decide,rfl⟩⟩),_,.inl ⟨rfl,rfl,?_⟩⟩)) (λx y e=>by cases e;rfl)));refine FY (EF (Hf (λc:Nat=>PV.str ⟨#[c]⟩) (λ_=>true) (λc=>.str (⟨#[c]⟩ ++ "b")) (jH (FE ⟨_,rfl,(Str.ofString "abcdefghijklmnopqrstuvwxyz").cps.toList,rfl,by decide +kernel,λc _=>IU rfl,λc _ _=>dH (AF rfl ⟨_,rfl,FE ⟨_,rfl,show(2:Nat)<=100000 from by decide,rfl⟩⟩),_,.inl ⟨rfl,rfl,?_⟩⟩)) (λx y e=>by cases e;rfl)));have b:(((Str.ofString "abcdefghijklmnopqrstuvwxyz").cps.toList.filter (λ_=>true)).map λc=>PV.str (⟨#[c]⟩ ++ "a"))++(((Str.ofString "abcdefghijklmnopqrstuvwxyz").cps.toList.filter (λ_=>true)).map λc=>PV.str (⟨#[c]⟩ ++ "b"))=IJ.map .str:=by rfl
 rw[b];refine⟨by rw[Ae,Ae];decide +kernel,?_⟩;refine Nz 1 rfl ?_;refine EO (Hf PV.str (λx=>!decide (x∈ns)) PV.str (Wd (Nj (AF rfl ⟨_,.inl ⟨rfl,IJ,rfl,by decide +kernel,λx hx=>?_,λx hx _=>AF rfl rfl,rfl⟩⟩))) str_inj)
 walk_at "ww"
 rfl
def ZC7:Ay ["things","loop"] ["things","loop"] (AS PJ):=by walk_at "z1"
def ZC6:=Sc [(".0",.local),("name",.local),("loop",.free)]
def ZC0:CV ["things","loop"] (AS PJ) ZC6 "name" ["loop"] [1]:=by walk_at "z2"
def gO : ∀ss R,QP ss R->ss.length=2:=by rintro _ _⟨tp,ns,r,g,cs,rfl,_,rfl⟩;rfl
def p8(F:AH K "things_to_come" "things_to_come" PJ f fd)(m:mg "things_to_come"=some (.ref f)):
  A7 P w K mg Zf "things_to_come" 1 ["things","loop"] (Ah QP):=by
 refine A7.mk F (F.binds (by walk_at "bD2")) m (F.BI (k:=0) ZC7 (λvs H Q E h=>Fz.Bq gO h) (λAQ A outer s H vs Q E c h=>?_))
 refine⟨_,(A9 rfl (AR (E2 rfl ZC0 (DW (qv 0)) (λ_ _ _ _=>by exact(HV (Ab (show BD _ (compareOp .In) (HW K false)from Hm) (qv 1) (A6 (show Gs _ (LV K)from A8) (qv 0) A4)))) (λ_ _ _ _=>by exact(qv 1))))),?_⟩;refine Fz.Bo h gO ?_;rintro _ _⟨tp,ns,r,g,cs,rfl,b,rfl⟩;unfold Em;show Ws [_,_] _ _ _;refine EO (Hf PV.str (DR cs) PV.str ?_ str_inj)
 walk_at "ww"
 exact⟨by omega,λy a=>by walk_at "ww"; rfl,λy a _=>by walk_at "ww"; rfl,rfl⟩
def ZAX:Ay ["row","name"] ["row","name"] (AS Wb):=by walk_at "z1"
def hG:∀ss R D,(Kk AB) ss R D->ss.length=2:=by rintro _ _ _⟨tp,ns,x,rfl,_,rfl,rfl⟩;rfl
def ZEF(F:AH K "place_of" "place_of" Wb f fd)(m:mg "place_of"=some (.ref f)):
  BS P w K mg Zf "place_of" 3 ["row","name"] (C7 (Kk AB)):=by
 refine BS.mk F (F.binds (by walk_at "bD2")) m (F.Hb (k:=2) ZAX (λvs H Q E h=>Fz.Hn hG h) (λAQ A outer s H vs Q E b h=>?_))
 refine⟨_,(AA rfl (Ak (Ab R7 (qv 1) (qv 0)) (A9 rfl (K9 UQ (by rfl) YG b (by decide) rfl rfl DP (A0 (qv 1) A3))) Ar)
   (A9 rfl (AR (ZBf (FQ Ft Z8 kb Wr (qv 0) (A0 (qv 1) A3)) (FQ PySem.F.plainAttrs_tuple ZFU PySem.F.type_tuple_index vS (qv 0) (A0 (qv 1) A3)))))),?_⟩
 refine Fz.Hg h hG ?_;rintro _ _ _⟨tp,ns,x,rfl,a,rfl,rfl⟩;intro i;show Ws [_,_] _ _ _
 walk_at "ww"
 refine AY (λc=>?_) (λc=>?_)
 .refine Gz (AF rfl ⟨a.1,trivial,?_,rfl⟩);intro h;rw[mG h]at c;cases c
 .have hx:x∈ns:=by
   cases e:decide (x∈ns)with
   |true=>exact mP e
   |false=>exact absurd (by rw[e];rfl) c
  refine An ?_;cases tp with
  |false=>
   refine Ba (ZAl (dY ?_))
   walk_at "ww"
   exact⟨hx,hx,rfl⟩
  |true=>
   refine Ba (ZB4 (mh ?_))
   walk_at "ww"
   exact⟨hx,hx,rfl⟩
def Ll:Ay ["row","loop","gap","fresh","coming","early","late","to_end","to_gap"] ["row","loop","gap","fresh"] (AS YV):=by walk_at "z1"
def ar : ∀ss R,(Si K As) ss R->ss.length=4:=by rintro _ _⟨tp,ns,l1,g,f,rfl,_,_,_,_,rfl⟩;rfl
def mB(F:AH K "trial_by_turns" "trial_by_turns" YV f fd)(m:mg "trial_by_turns"=some (.ref f)):
  A7 P w K mg Zf "trial_by_turns" 4 ["row","loop","gap","fresh"] (Ah (Si K As)):=by
 refine A7.mk F (F.binds (by walk_at "bD4")) m (F.BI (k:=3) Ll (λvs H Q E h=>Fz.Bq ar h) (λAQ A outer s H vs Q E i h=>?_))
 refine⟨_,(AA rfl (Ao 4 Ll.nd (Ac L5 i (A0 (qv 0) (A0 (qv 1) A3))))
   (AA rfl (Ao 5 Ll.nd (Ct Dq i (by decide) Gb rfl (A0 (qv 0) (A0 (A6 CL (qv 4) A4) A3))))
   (AA rfl (Ao 6 Ll.nd (Ct Dq i (by decide) Gb rfl (A0 (qv 0) (A0 (A6 CL (qv 4) A4) A3))))
   (AA rfl (Ao 7 Ll.nd (BB (A0 B1 (A0 (qv 6) (A0 (B3 ET (BA D0 Aw (A0 (qv 0) A3)) A4) A3)))))
   (AA rfl (Ao 8 Ll.nd (BB (A0 B1 (A0 (BA (eE rfl) LL (A0 (qv 5) (A0 (qv 2) A3))) (A0 (B3 ET (BA (qf rfl) Y7 (A0 (qv 5) (A0 (qv 2) A3))) A4) A3)))))
   (A9 rfl (AR (DL (A0 (BB (A0 B1 (A0 (qv 3) (A0 (BA D0 Aw (A0 (qv 0) A3)) A3)))) (A0 (qv 7) (A0 (qv 8) (A0 (EJ (v:=.ref As) (by rfl) DG rfl) A3)))))))))))),?_⟩
 refine Fz.Bo h ar ?_;rintro _ _⟨tp,ns,⟨n,g1,c1⟩,g,f,rfl,c,o,y,h2,rfl⟩;have x:=c.len;have C:Co K As [.str "step"]:=Co.of DZ rfl rfl;have p:DX K (some As):=λa e=>by cases e;exact C
 show Ws [_,.is (Em n g1 c1),_,_,.any,.any,.any,.any,.any] _ _ _;refine B2 (FL (Dd (B0 (B7 rfl (AL (AF rfl (Al ⟨_,⟨tp,ns,n,g1,c1,rfl,by omega,rfl⟩,?_⟩)))))));rintro _ rfl;obtain⟨x0,b,l,j⟩:=bj o.up o.sub h2;obtain⟨i0,d,t,p1,Aa⟩:=WJ c.nd j;have n0:=List.idxOf_lt_length_iff.mpr i0;have u:=List.idxOf_lt_length_iff.mpr d;rw[show List.filter (DR c1) ns=x0::b::l from j];refine B2 (EI (Eb (B0 (B7 rfl (AL (G9 (FJ rfl ⟨rfl,Dp ⟨_,_,rfl,MN _ _,Al ⟨_,_,⟨tp,ns,x0,rfl,NO (c.nm x0 i0),rfl,rfl⟩,trivial,λe h=>absurd i0 h.1,?_⟩⟩⟩)))))));rintro _⟨_,rfl⟩;refine B2 (EI (Eb (B0 (B7 rfl (AL (G9 (FJ rfl ⟨rfl,Dp ⟨_,_,rfl,SW _ _ _,Al ⟨_,_,⟨tp,ns,b,rfl,NO (c.nm b d),rfl,rfl⟩,trivial,λe h=>absurd d h.1,?_⟩⟩⟩)))))));rintro _⟨_,rfl⟩
 walk_at "ww"
 refine⟨by simp,?_⟩
 walk_at "ww"
 refine⟨by simp,?_⟩
 walk_at "ww"
 refine⟨by simp,Bm (AF rfl (Bm (AF rfl (Bm (Iv [.str "step"] (Cs ⟨by simp,p,?_⟩))))))⟩;have r:(if(g:Int)<(ns.idxOf x0:Nat)then(g:Int)else(ns.idxOf x0:Nat))=((min (ns.idxOf x0) g:Nat):Int):=by split <;> omega
 have q:(if(g:Int) > (ns.idxOf x0:Nat)then(g:Int)else(ns.idxOf x0:Nat))=((max (ns.idxOf x0) g:Nat):Int):=by split <;> omega
 rw[r,q,Ae];unfold Nf;rw[show List.filter (DR c1) ns=x0::b::l from j];rfl
def TY:Ay ["row","one","other","gap","fresh"] ["row","one","other"] (AS YD):=by walk_at "z1"
def cY : ∀ss R,(XN K As) ss R->ss.length=3:=by rintro _ _⟨tp,ns,l1,l2,f,f1,r,rfl,_,_,_,_,_,_,_,rfl⟩;rfl
def sT(F:AH K "trial_by_gap" "trial_by_gap" YD f fd)(m:mg "trial_by_gap"=some (.ref f)):
  A7 P w K mg Zf "trial_by_gap" 5 ["row","one","other"] (Ah (XN K As)):=by
 refine A7.mk F (F.binds (by walk_at "bD3")) m (F.BI (k:=4) TY (λvs H Q E h=>Fz.Bq cY h) (λAQ A outer s H vs Q E d h=>?_))
 refine⟨_,(AA rfl (Ao 3 TY.nd (BA (eE rfl) LL (A0 (A6 A8 (qv 1) A4) (A0 (A6 A8 (qv 2) A4) A3))))
   (AA rfl (Ao 4 TY.nd (Ac La d (A0 (qv 0) A3)))
   (AA rfl (Ak (Ab Bh (A6 A8 (qv 1) A4) B1) (A9 rfl (AR (Ac To d (A0 (qv 0) (A0 (qv 1) (A0 (qv 3) (A0 (A6 CL (qv 4) A4) A3))))))) Ar)
   (A9 rfl (AR (DL (A0 (BB (A0 B1 (A0 (A6 CL (qv 4) A4) (A0 (qv 3) A3)))) (A0 (BB (A0 B1 (A0 (A6 CL (qv 4) A4) (A0 (B3 ET (BA D0 Aw (A0 (qv 0) A3)) A4) A3)))) (A0 (EJ (v:=.ref As) (by rfl) DG rfl) A3))))))))),?_⟩
 refine Fz.Bo h cY ?_;rintro _ _⟨tp,ns,⟨b,g1,c1⟩,⟨o,g2,c2⟩,f,f1,r,rfl,i,n,p,l,d,q,t,rfl⟩;have x:=i.len;have B:(g1:Int)<=ns.length:=n.g1;have y:(g2:Int)<=ns.length:=p.g1;have l:c1=c2:=l;have d:b=o:=d;subst l;subst d;show Ws [_,.is (.tup [.str b,.int g1,.tup (c1.map .str)]),.is (.tup [.str b,.int g2,.tup (c1.map .str)]),.any,.any] _ _ _;have u:(if(g2:Int)<(g1:Int)then(g2:Int)else(g1:Int))=((min g1 g2:Nat):Int):=by split <;> omega
 walk_at "ww"
 rw[u];refine FL (Dd (B0 (B7 rfl (Al ⟨_,⟨tp,ns,rfl,i,rfl⟩,?_⟩))));rintro _ rfl;rw[t];unfold Nv
 walk_at "ww"
 refine AY (λc=>?_) (λc=>An ?_)
 .have g:b="none" := by simpa[alike]using c
  have h2:2<=c1.length:=ZFJ λz=>q ⟨⟨rfl,rfl⟩,.inr ⟨g,z⟩⟩;refine EO (Dd (B0 (B7 rfl (AL (AF rfl (AL (AF rfl (AL (G9 (FJ rfl ⟨rfl,Dp ⟨_,_,rfl,MN _ _,Al ⟨_,⟨tp,ns,⟨b,g1,c1⟩,min g1 g2,f,rfl,i,n,by omega,h2,rfl⟩,?_⟩⟩⟩))))))))));rintro _⟨j,rfl⟩;rw[o9 g];exact⟨j,rfl⟩
 .have g:b ≠"none" := by simpa[alike]using c
  rw[mL g];have C:Co K As [.str "step"]:=Co.of DZ rfl rfl;have j:DX K (some As):=λa e=>by cases e;exact C
  refine EO (IL (Bm (FW (Bm (FE (Bm (G9 (FJ rfl ⟨rfl,Dp ⟨_,_,rfl,MN _ _,?_⟩⟩))))))));refine Bm (AF rfl (Cs ⟨by simp,?_⟩));refine Bm (FW (Bm (FE (Bm (G9 (FJ rfl ⟨rfl,Dp ⟨_,_,rfl,SW _ _ _,?_⟩⟩))))))
  walk_at "ww"
  refine⟨by simp,Bm (Iv [.str "step"] (Cs ⟨by simp,j,?_⟩))⟩;rw[Ae];rfl
def ZCF:Ay ["things"] ["things"] (AS RE):=by walk_at "z1"
def nv:=Sc [(".0",.local),("thing",.local)]
def sX:CV ["things"] (AS RE) nv "thing" [] []:=by walk_at "z2"
def cj : ∀ss R,QB ss R->ss.length=1:=by rintro _ _⟨tp,xs,rfl,_,rfl⟩;rfl
def yO(F:AH K "takes_of" "takes_of" RE f fd)(m:mg "takes_of"=some (.ref f)):
  A7 P w K mg Zf "takes_of" 1 ["things"] (Ah QB):=by
 refine A7.mk F (F.binds (by walk_at "bD1")) m (F.BI (k:=0) ZCF (λvs H Q E h=>Fz.Bq cj h) (λAQ A outer s H vs Q E b h=>?_))
 refine⟨_,(A9 rfl (AR (E2 rfl sX (DW (qv 0)) (λ_ _ _ _=>by exact IG) (λ_ _ _ _=>by exact(BB (A0 B1 (A0 (qv 0) A3))))))),?_⟩;refine Fz.Bo h cj ?_;rintro _ _⟨tp,xs,rfl,a,rfl⟩;show Ws [_] _ _ _;refine EO (Hf PV.str (λ_=>true) (λx=>.tup [.str "take",.str x]) ?_ str_inj)
 walk_at "ww"
 exact⟨by omega,λx _=>IU rfl,λx _ _=>FW (Bm (FE (Bm (AF rfl (Cs ⟨by simp,rfl⟩))))),by rw[List.filter_eq_self.mpr (λ_ _=>rfl)]⟩
def gI:Ay ["row","one","other","unlike"] ["row","one","other"] (AS Pl):=by walk_at "z1"
def xQ:=Sc [(".0",.local),("thing",.local),("unlike",.free)]
def zB:CV ["row","one","other","unlike"] (AS Pl) xQ "thing" ["unlike"] [3]:=by walk_at "z2"
def ba : ∀ss R,(Yf K As) ss R->ss.length=3:=by rintro _ _⟨tp,ns,l1,l2,rfl,_,_,_,_,rfl⟩;rfl
def lR(F:AH K "trial_by_coming" "trial_by_coming" Pl f fd)(m:mg "trial_by_coming"=some (.ref f)):
  A7 P w K mg Zf "trial_by_coming" 3 ["row","one","other"] (Ah (Yf K As)):=by
 refine A7.mk F (F.binds (by walk_at "bD3")) m (F.BI (k:=2) gI (λvs H Q E h=>Fz.Bq ba h) (λAQ A outer s H vs Q E o h=>?_))
 refine⟨_,(AA rfl (Ao 3 gI.nd (BA (gS rfl) Dc (A0 (B3 ZCR (D3 (YU rfl) Kj (A0 (A6 A8 (qv 1) A4) A3)) (D3 (YU rfl) Kj (A0 (A6 A8 (qv 2) A4) A3))) A3)))
   (A9 rfl (AR (B3 EH (Ac KL o (A0 (E2 rfl zB (DW (qv 0)) (λ_ _ _ _=>by exact(HV (Ab GG (qv 1) (A6 (show Gs _ (NW K)from CL) (qv 0) A4)))) (λ_ _ _ _=>by exact(qv 1))) A3)) (DL (A0 (EJ (v:=.ref As) (by rfl) DG rfl) A3)))))),?_⟩
 refine Fz.Bo h ba ?_;rintro _ _⟨tp,ns,⟨j,g1,c1⟩,⟨i,g2,c2⟩,rfl,g,c,b,q,rfl⟩;have D:=g.len;have u:c1.length<=ns.length:=BK.len c;have t:c2.length<=ns.length:=BK.len b;show Ws [_,.is (.tup [.str j,.int g1,.tup (c1.map .str)]),.is (.tup [.str i,.int g2,.tup (c2.map .str)]),.any] _ _ _;refine B2 (FL (qe ?_))
 walk_at "ww"
 refine⟨by omega,?_⟩
 walk_at "ww"
 refine⟨by omega,ns,by omega,c.sub,b.sub,λts nd d n=>?_⟩;obtain⟨x,r,rfl⟩:∃x r,ts=x::r:=by
  cases ts with
  |cons x r=>exact⟨x,r,rfl⟩
  |nil=>exact absurd (RJ c.up b.up λy=>jy λz=>absurd ((d y).mpr z) Bb) q
 have C:Co K As [.str "step"]:=Co.of DZ rfl rfl;have p:DX K (some As):=λa e=>by cases e;exact C
 refine EO (PH (FG (Dd (B0 (FG (Hf PV.str (λy=>!alike (.str y) (.str x)) PV.str ?_ str_inj))))))
 walk_at "ww"
 refine⟨by omega,λy l=>by walk_at "ww"; exact⟨_,_,rfl,MN _ _,rfl,_,rfl,rfl⟩,λy l _=>AF rfl rfl,?_⟩
 rw[R4];have B:(wo ns x).length<=ns.length:=GX _ _;refine Al ⟨_,⟨false,wo ns x,rfl,by omega,rfl⟩,?_⟩;rintro _ rfl;refine⟨rfl,FG (IL (Bm (Iv [.str "step"] (Cs ⟨by simp,rfl,by rw[Ae];simp;omega,p,D8 (wo ns x)++[.AZ],⟨x,r,nd,n,d,rfl⟩,?_⟩))))⟩;unfold D8;rw[D6,Il];rfl
def aK:Ay ["row","loop","gap"] ["row","loop"] (AS VP):=by walk_at "z1"
def Zq:∀ss R D,(XS CJ) ss R D->ss.length=2:=by rintro _ _ _⟨tp,ns,r,g,cs,rfl,_,_,rfl,rfl⟩;rfl
def nY(F:AH K "rest" "rest" VP f fd)(m:mg "rest"=some (.ref f)):
  BS P w K mg Zf "rest" 4 ["row","loop"] (C7 (XS CJ)):=by
 refine BS.mk F (F.binds (by walk_at "bD2")) m (F.Hb (k:=3) aK (λvs H Q E h=>Fz.Hn Zq h) (λAQ A outer s H vs Q E a h=>?_))
 refine⟨_,(AA rfl (D1 (Ct Ka a (by decide) DP rfl (A0 (qv 0) (A0 (qv 1) A3))))
   (AA rfl (Ao 2 aK.nd (A6 A8 (qv 1) A4))
   (A9 rfl (AR (B3 EH (Ac L5 a (A0 (DE Fz.JD (qv 0) (Cy (qv 2)) Dh) (A0 (qv 1) A3))) (Ac L5 a (A0 (DE Fz.JD (qv 0) Dh (Cy (qv 2))) (A0 (qv 1) A3)))))))),?_⟩
 refine Fz.Hg h Zq ?_;rintro _ _ _⟨tp,ns,r,g,cs,rfl,b,c,rfl,rfl⟩;intro i0;show Ws [_,_,.any] _ _ _;refine B2 (Gi ?_);refine Eb ?_;refine B0 (B7 rfl (AL (AF rfl (Al ⟨_,_,⟨tp,ns,r,g,cs,rfl,b,rfl,rfl⟩,trivial,λe h=>h,?_⟩))));intro _ KH;obtain⟨n,rfl,gd⟩:=nR KH;have d:=gd.g1;refine B2 (EI ?_);unfold Em
 walk_at "ww"
 refine FY (EF (Dd (B0 ?_)))
 walk_at "ww"
 rw[V1,<- Mg];refine AL (AF rfl (Al ⟨_,⟨tp,ns.drop n,r,n,cs,rfl,by rw[D5];omega,rfl⟩,?_⟩));rintro _ rfl;refine⟨_,.inl ⟨rfl,rfl,FY (EF (Dd (B0 ?_)))⟩⟩
 walk_at "ww"
 rw[Pq,<- LA];refine AL (AF rfl (Al ⟨_,⟨tp,ns.take n,r,n,cs,rfl,by rw[Bu];omega,rfl⟩,?_⟩));rintro _ rfl;have l1:((ns.drop n).filter (DR cs)).length<=(ns.drop n).length:=GX _ _;have l2:((ns.take n).filter (DR cs)).length<=(ns.take n).length:=GX _ _;rw[D5]at l1;rw[Bu]at l2;refine⟨_,.inl ⟨rfl,rfl,by rw[Ae,Ae];omega,n,rfl,gd,?_⟩⟩;unfold Cg;rw[D6]
def ZAb:Ay ["coming","gone"] ["coming","gone"] (AS Qr):=by walk_at "z1"
def wJ:=Sc [(".0",.local),("name",.local),("gone",.free)]
def vP:CV ["coming","gone"] (AS Qr) wJ "name" ["gone"] [1]:=by walk_at "z2"
def cA : ∀ss R,P0 ss R->ss.length=2:=by rintro _ _⟨cs,x,rfl,_,rfl⟩;rfl
def x5(F:AH K "coming_without" "coming_without" Qr f fd)(m:mg "coming_without"=some (.ref f)):
  A7 P w K mg Zf "coming_without" 1 ["coming","gone"] (Ah P0):=by
 refine A7.mk F (F.binds (by walk_at "bD2")) m (F.BI (k:=0) ZAb (λvs H Q E h=>Fz.Bq cA h) (λAQ A outer s H vs Q E c h=>?_))
 refine⟨_,(A9 rfl (AR (D3 JR CQ (A0 (E2 rfl vP (DW (qv 0)) (λ_ _ _ _=>by exact(HV (Ab GG (qv 1) (qv 0)))) (λ_ _ _ _=>by exact(qv 1))) A3)))),?_⟩;refine Fz.Bo h cA ?_;rintro _ _⟨cs,x,rfl,b,rfl⟩;show Ws [_,_] _ _ _;refine Ba (TK rfl (FY (EF (Hf PV.str (λy=>!alike (.str y) (.str x)) PV.str ?_ str_inj))))
 walk_at "ww"
 refine⟨by omega,λy a=>by walk_at "ww"; rfl,λy a _=>by walk_at "ww"; rfl,?_⟩
 rw[R4];exact⟨_,.inl ⟨rfl,rfl⟩⟩
def si:Ay ["row","loop","name"] ["row","loop","name"] (AS VY):=by walk_at "z1"
def bS : ∀ss R,Ut ss R->ss.length=3:=by rintro _ _⟨tp,ns,r,g,cs,x,rfl,_,_,_,rfl⟩;rfl
def yj(F:AH K "loop_telling" "loop_telling" VY f fd)(m:mg "loop_telling"=some (.ref f)):
  A7 P w K mg Zf "loop_telling" 4 ["row","loop","name"] (Ah Ut):=by
 refine A7.mk F (F.binds (by walk_at "bD3")) m (F.BI (k:=3) si (λvs H Q E h=>Fz.Bq bS h) (λAQ A outer s H vs Q E a h=>?_))
 refine⟨_,(A9 rfl (AR (BB (A0 (A6 A8 (qv 1) A4) (A0 (B3 ET (Ct Dq a (by decide) Gb rfl (A0 (qv 0) (A0 (qv 2) A3))) A4) (A0 (Ac LU a (A0 (A6 A8 (qv 1) A4) (A0 (qv 2) A3))) A3)))))),?_⟩;refine Fz.Bo h bS ?_;rintro _ _⟨tp,ns,r,g,cs,x,rfl,c,b,hx,rfl⟩;unfold Em;show Ws [_,_,_] _ _ _
 walk_at "ww"
 refine Eb ?_;refine B0 (B7 rfl (AL (AF rfl (Al ⟨_,_,⟨tp,ns,x,rfl,b,rfl,rfl⟩,trivial,λe h=>absurd hx h.1,?_⟩))));rintro _⟨_,rfl⟩
 walk_at "ww"
 refine wp_call (AL ?_)
 walk_at "ww"
 refine AL (AF rfl (Al ⟨_,⟨cs,x,rfl,c,rfl⟩,?_⟩));rintro _ rfl
 walk_at "ww"
 exact⟨by simp,rfl⟩
def cQ:Ay ["row","loop","order"] ["row","loop"] (AS TC):=by walk_at "z1"
def ie:∀ss R D,(VG CJ) ss R D->ss.length=2:=by rintro _ _ _⟨tp,ns,r,g,cs,rfl,_,_,_,rfl,rfl⟩;rfl
def qN(F:AH K "step" "step" TC f fd)(m:mg "step"=some (.ref f)):
  BS P w K mg Zf "step" 5 ["row","loop"] (C7 (VG CJ)):=by
 refine BS.mk F (F.binds (by walk_at "bD2")) m (F.Hb (k:=4) cQ (λvs H Q E h=>Fz.Hn ie h) (λAQ A outer s H vs Q E a h=>?_))
 refine⟨_,(AA rfl (Ao 2 cQ.nd (Ct V7 a (by decide) DP rfl (A0 (qv 0) (A0 (qv 1) A3))))
   (AA rfl (Ak (Ab (hV a.HJ) (qv 2) (DL A3)) (A9 rfl (AR (BB (A0 FO (A0 (qv 1) A3))))) Ar)
   (A9 rfl (AR (BB (A0 (A6 CL (qv 2) A4) (A0 (Ac TB a (A0 (qv 0) (A0 (qv 1) (A0 (A6 CL (qv 2) A4) A3)))) A3))))))),?_⟩
 refine Fz.Hg h ie ?_;rintro _ _ _⟨tp,ns,r,g,cs,rfl,d,b,c,rfl,rfl⟩;intro i0;show Ws [_,_,.any] _ _ _;refine B2 (FL ?_);refine J3 ?_;refine B0 (B7 rfl (AL (AF rfl (Al ⟨_,_,⟨tp,ns,r,g,cs,rfl,d,b,rfl,rfl⟩,trivial,λe h=>h,?_⟩))));rintro _⟨n,rfl,gd,rfl⟩
 walk_at "ww"
 refine⟨by simp,?_⟩
 walk_at "ww"
 rw[Ae];refine⟨rfl,_,rfl,?_⟩;cases e:Cg ns n cs with
 |nil=>
  refine BR rfl ?_
  walk_at "ww"
  refine⟨by simp,n,rfl,gd,?_⟩;unfold Hu;rw[e];rfl
 |cons x t=>
  have hx:=J5.mp (by rw[e];exact BZ:x∈Cg ns n cs);refine BG (by simp) (An ?_)
  walk_at "ww"
  refine⟨0,.str x,rfl,IA (j:=0) rfl,?_⟩;refine Bm (wp_call (B0 (B7 rfl (AL (AF rfl (AL ?_))))))
  walk_at "ww"
  refine⟨0,.str x,rfl,IA (j:=0) rfl,?_⟩;refine Al ⟨_,⟨tp,ns,r,n,cs,x,rfl,by omega,c x hx.1,hx.1,rfl⟩,?_⟩;rintro _ rfl
  walk_at "ww"
  refine⟨by simp,n,rfl,gd,?_⟩;unfold Hu;rw[e]
def uY:Ay ["text"] ["text"] (AS Ot):=by walk_at "z1"
def p4:=Sc [(".0",.local),("sign",.local),("LETTERS",.globalImplicit)]
def ZC1:CV ["text"] (AS Ot) p4 "sign" [] []:=by walk_at "z2"
def mQ(F:AH K "is_name" "is_name" Ot f fd)(m:mg "is_name"=some (.ref f)):
  A7 P w K mg Zf "is_name" 1 ["text"] (NF):=by
 refine A7.mk F (F.binds (by walk_at "bD1")) m (F.BI (k:=0) uY (λvs H Q E h=>?_) (λAQ A outer s H vs Q E d h=>?_))
 .obtain⟨x,rfl,hx,q⟩:=h;rfl
 obtain⟨x,rfl,hx,q⟩:=h;refine⟨_,(A9 rfl (AR (GK (UH Cm Cm A4 (BA T4 Aw (A0 (qv 0) A3)) (EJ (v:=.int 8) (by rfl) WB ⟨_,rfl⟩)) (ED (BA (M3 rfl) FF (A0 (E2 rfl ZC1 (Qd (qv 0)) (λ_ _ _ _=>by exact IG) (λ_ _ _ _=>by exact(Ck d6 (qv 0) (EJ (v:=.str "abcdefghijklmnopqrstuvwxyz") (by rfl) K8 ⟨_,rfl⟩)))) A3)))))),?_⟩;refine⟨_,rfl,_,rfl,small (by omega),_,_,rfl,rfl,_,rfl,?_⟩;refine AY (λc=>?_) (λc=>⟨_,rfl,DK ?_⟩)
 .refine⟨_,_,rfl,rfl,_,rfl,?_⟩;refine AY (λc2=>?_) (λc2=>?_)
  .refine⟨_,rfl,x,rfl,λacc B5=>fL (λ_=>true) SY B5 (by rw[<- Dm,<- HD];exact small (by omega)) (λi v H' Q' _ _ h=>h H' (AE.refl _)) (λi v H' Q' b _ _ h=>?_) (λH' s1 a=>?_)⟩
   .obtain⟨g,rfl⟩:=signs_get b;exact⟨_,rfl,_,_,rfl,rfl,h H' (AE.refl _)⟩
   .rw[ia]at a;refine⟨acc,_,rfl,AO.of a,?_⟩;rw[all_map];have e:isNm x=x.cps.toList.all KP:=by unfold isNm;rw[c,c2];rfl
    rw[<- e];exact q H' s1
  .have e:isNm x=false:=by unfold isNm;rw[Bool.eq_false_iff.mpr c2];simp
   rw[<- e];exact q H (AE.refl _)
 .have e:isNm x=false:=by unfold isNm;rw[Bool.eq_false_iff.mpr c];simp
  rw[<- e];exact q H (AE.refl _)
def sA:Ay ["row","name","at"] ["row","name","at"] (AS VA):=by walk_at "z1"
def dJ:∀ss R D,(Xl ⟨AI,AJ,AB,AD,AK⟩) ss R D->ss.length=3:=by rintro _ _ _⟨tp,ns,x,i,rfl,_,rfl,rfl⟩;rfl
def ZDK(F:AH K "check_put" "check_put" VA f fd)(m:mg "check_put"=some (.ref f)):
  BS P w K mg Zf "check_put" 3 ["row","name","at"] (C7 (Xl ⟨AI,AJ,AB,AD,AK⟩)):=by
 refine BS.mk F (F.binds (by walk_at "bD3")) m (F.Hb (k:=2) sA (λvs H Q E h=>Fz.Hn dJ h) (λAQ A outer s H vs Q E a h=>?_))
 refine⟨_,(AA rfl (Ak (DM (FP (Ac Sw a (A0 (qv 1) A3)))) (A9 rfl (K9 US (by rfl) U2 a (by decide) rfl rfl DP (A0 (qv 1) A3))) Ar)
   (AA rfl (Ak (Ab Hm (qv 1) (qv 0)) (A9 rfl (K9 YN (by rfl) Su a (by decide) rfl rfl DP (A0 (qv 1) A3))) Ar)
   (AA rfl (Ak (DM (Hx Cm Cm A4 (qv 2) (BA D0 Aw (A0 (qv 0) A3)))) (A9 rfl (K9 He (by rfl) HN a (by decide) rfl rfl DP (A0 (qv 2) A3))) Ar)
   (A9 rfl (Ak (Ab NX (BA D0 Aw (A0 (qv 0) A3)) (EJ (v:=.int 40) (by rfl) V8 ⟨_,rfl⟩)) (A9 rfl (fw (by rfl) Tj SX rfl rfl DP (A0 B1 A3))) Ar))))),?_⟩
 refine Fz.Hg h dJ ?_;rintro _ _ _⟨tp,ns,x,i,rfl,⟨b,hi⟩,rfl,rfl⟩;intro i0;show Ws [_,_,_] _ _ _;refine B2 (CM (D2 (Dn (Zs (AF rfl ⟨x,rfl,b.2,_,rfl,?_⟩)))));refine AY (λc=>?_) (λc=>?_)
 .refine Gz (AF rfl ⟨b.1,trivial,?_⟩);show AX.Ap _ _ _=_;simp only[AX.Ap];rw[o9 (by cases e:isNm x <;> simp_all)];rfl
 have h1:¬ isNm x=false:=by cases e:isNm x <;> simp_all
 refine An ?_
 walk_at "ww"
 refine AY (λc=>?_) (λc=>?_)
 .refine Gz (AF rfl ⟨b.1,trivial,?_⟩);show AX.Ap _ _ _=_;simp only[AX.Ap];rw[mL h1,o9 (mP c)];rfl
 have h2:x∉ns:=λz=>c (mG z);refine An ?_;have bad:¬ inR i 0 ns.length->AX.Ap ⟨AI,AJ,AB,AD,AK⟩ ns (.put x i)=some ⟨AD,["at"],[.int i]⟩:=λz=>by
  simp only[AX.Ap];rw[mL h1,mL h2,o9 z];rfl
 refine B2 (CM (D2 (Cf (Ge ?_))))
 walk_at "ww"
 refine AY (λc=>?_) (λc=>?_)
 .walk_at "ww"
  rw[Ae];refine AY (λc2=>?_) (λc2=>?_)
  .refine Gz (AF rfl ⟨hi,trivial,bad λz=>?_⟩);rw[mG z.2]at c2;cases c2
  .have g:inR i 0 ns.length:=⟨mP c,by
    cases e:decide (i<=(ns.length:Int))with
    |true=>exact mP e
    |false=>exact absurd (by rw[e];rfl) c2⟩
   refine An ?_
   walk_at "ww"
   rw[Ae];refine AY (λd=>?_) (λd=>?_)
   .refine cn ?_
    walk_at "ww"
    refine⟨by simp,trivial,?_⟩;show AX.Ap _ _ _=_;simp only[AX.Ap];have q:=mP d;rw[mL h1,mL h2,mL (Decidable.not_not.mpr g),o9 (by omega)];rfl
   .refine An ⟨_,rfl,?_⟩;show AX.Ap _ _ _=_;simp only[AX.Ap];have q:¬ (40:Int)<=ns.length:=λz=>d (mG z);rw[mL h1,mL h2,mL (Decidable.not_not.mpr g),mL (by omega)]
 .refine⟨false,rfl,BR rfl ?_⟩;refine Gz (AF rfl ⟨hi,trivial,bad λz=>c (mG z.1)⟩)
def mS:Ay ["row","name","at"] ["row","name","at"] (AS XM):=by walk_at "z1"
def fu:∀ss R D,(Xc ⟨AI,AJ,AB,AD,AK⟩) ss R D->ss.length=3:=by rintro _ _ _⟨tp,ns,x,i,rfl,_,rfl,rfl⟩;rfl
def ZAK(F:AH K "check_move" "check_move" XM f fd)(m:mg "check_move"=some (.ref f)):
  BS P w K mg Zf "check_move" 4 ["row","name","at"] (C7 (Xc ⟨AI,AJ,AB,AD,AK⟩)):=by
 refine BS.mk F (F.binds (by walk_at "bD3")) m (F.Hb (k:=3) mS (λvs H Q E h=>Fz.Hn fu h) (λAQ A outer s H vs Q E a h=>?_))
 refine⟨_,(AA rfl (D1 (Ct Dq a (by decide) DP rfl (A0 (qv 0) (A0 (qv 1) A3))))
   (A9 rfl (Ak (DM (Hx Cm Hy A4 (qv 2) (BA D0 Aw (A0 (qv 0) A3)))) (A9 rfl (K9 He (by rfl) HN a (by decide) rfl rfl DP (A0 (qv 2) A3))) Ar))),?_⟩
 refine Fz.Hg h fu ?_;rintro _ _ _⟨tp,ns,x,i,rfl,⟨b,hi⟩,rfl,rfl⟩;intro i0;show Ws [_,_,_] _ _ _;refine B2 (Gi ?_);refine Eb ?_;refine B0 (B7 rfl (AL (AF rfl (Al ⟨_,_,⟨tp,ns,x,rfl,b,rfl,rfl⟩,trivial,?_,?_⟩))))
 .rintro e⟨hx,rfl⟩;show AX.Ap _ _ _=_;simp only[AX.Ap];rw[o9 hx]
 rintro _⟨hx,_⟩;have bad:¬ inR i 0 (ns.length - 1)->AX.Ap ⟨AI,AJ,AB,AD,AK⟩ ns (.move x i)=some ⟨AD,["at"],[.int i]⟩:=λz=>by
  simp only[AX.Ap];rw[mL (Decidable.not_not.mpr hx),o9 z];rfl
 refine CM (D2 (Cf (Ge ?_)))
 walk_at "ww"
 refine AY (λc=>?_) (λc=>?_)
 .walk_at "ww"
  rw[Ae];refine AY (λc2=>?_) (λc2=>?_)
  .refine Gz (AF rfl ⟨hi,trivial,bad λz=>?_⟩);have:=z.2;rw[mG (by omega)]at c2;cases c2
  .have d:i<(ns.length:Int):=by
    cases e:decide (i<(ns.length:Int))with
    |true=>exact mP e
    |false=>exact absurd (by rw[e];rfl) c2
   refine An ⟨_,rfl,?_⟩;show AX.Ap _ _ _=_;simp only[AX.Ap];rw[mL (Decidable.not_not.mpr hx),mL (Decidable.not_not.mpr ⟨mP c,by omega⟩)]
 .refine⟨false,rfl,BR rfl ?_⟩;refine Gz (AF rfl ⟨hi,trivial,bad λz=>c (mG z.1)⟩)
def rM:Ay ["row","low","high"] ["row","low","high"] (AS YX):=by walk_at "z1"
def jb:∀ss R D,(Ti ⟨AI,AJ,AB,AD,AK⟩) ss R D->ss.length=3:=by rintro _ _ _⟨tp,ns,lo,hi,rfl,_,rfl,rfl⟩;rfl
def xw(F:AH K "check_turn" "check_turn" YX f fd)(m:mg "check_turn"=some (.ref f)):
  BS P w K mg Zf "check_turn" 3 ["row","low","high"] (C7 (Ti ⟨AI,AJ,AB,AD,AK⟩)):=by
 refine BS.mk F (F.binds (by walk_at "bD3")) m (F.Hb (k:=2) rM (λvs H Q E h=>Fz.Hn jb h) (λAQ A outer s H vs Q E g h=>?_))
 refine⟨_,(AA rfl (Ak (DM (Hx Cm Cm A4 (qv 1) (BA D0 Aw (A0 (qv 0) A3)))) (A9 rfl (K9 He (by rfl) HN g (by decide) rfl rfl DP (A0 (qv 1) A3))) Ar)
   (A9 rfl (Ak (DM (Hx Cm Cm (qv 1) (qv 2) (BA D0 Aw (A0 (qv 0) A3)))) (A9 rfl (K9 He (by rfl) HN g (by decide) rfl rfl DP (A0 (qv 2) A3))) Ar))),?_⟩
 refine Fz.Hg h jb ?_;rintro _ _ _⟨tp,ns,lo,hi,rfl,⟨i,hh⟩,rfl,rfl⟩;intro i0;show Ws [_,_,_] _ _ _;have bad:¬ inR lo 0 ns.length->AX.Ap ⟨AI,AJ,AB,AD,AK⟩ ns (.turn lo hi)=some ⟨AD,["at"],[.int lo]⟩:=λz=>by
  simp only[AX.Ap];rw[o9 z];rfl
 have j:inR lo 0 ns.length->¬ inR hi lo ns.length->AX.Ap ⟨AI,AJ,AB,AD,AK⟩ ns (.turn lo hi)=some ⟨AD,["at"],[.int hi]⟩:=λy z=>by
  simp only[AX.Ap];rw[mL (Decidable.not_not.mpr y),o9 z];rfl
 refine B2 (CM (D2 (Cf (Ge ?_))))
 walk_at "ww"
 refine AY (λc=>?_) (λc=>?_)
 .walk_at "ww"
  rw[Ae];refine AY (λc2=>?_) (λc2=>?_)
  .refine Gz (AF rfl ⟨i,trivial,bad λz=>?_⟩);rw[mG z.2]at c2;cases c2
  .have b:inR lo 0 ns.length:=⟨mP c,by
    cases e:decide (lo<=(ns.length:Int))with
    |true=>exact mP e
    |false=>exact absurd (by rw[e];rfl) c2⟩
   refine An ?_;refine CM (D2 (Cf (Ge ?_)))
   walk_at "ww"
   refine AY (λd=>?_) (λd=>?_)
   .walk_at "ww"
    rw[Ae];refine AY (λa=>?_) (λa=>?_)
    .refine Gz (AF rfl ⟨hh,trivial,j b λz=>?_⟩);rw[mG z.2]at a;cases a
    .have l:inR hi lo ns.length:=⟨mP d,by
      cases e:decide (hi<=(ns.length:Int))with
      |true=>exact mP e
      |false=>exact absurd (by rw[e];rfl) a⟩
     refine An ⟨_,rfl,?_⟩;show AX.Ap _ _ _=_;simp only[AX.Ap];rw[mL (Decidable.not_not.mpr b),mL (Decidable.not_not.mpr l)]
   .refine⟨false,rfl,BR rfl ?_⟩;refine Gz (AF rfl ⟨hh,trivial,j b λz=>d (mG z.1)⟩)
 .refine⟨false,rfl,BR rfl ?_⟩;refine Gz (AF rfl ⟨i,trivial,bad λz=>c (mG z.1)⟩)
def uL:Ay ["row","deed"] ["row","deed"] (AS Vh):=by walk_at "z1"
def c8:∀ss R D,(WL ⟨AI,AJ,AB,AD,AK⟩) ss R D->ss.length=2:=by rintro _ _ _⟨tp,ns,d,rfl,_,rfl,rfl⟩;rfl
def wt(F:AH K "check_deed" "check_deed" Vh f fd)(m:mg "check_deed"=some (.ref f)):
  BS P w K mg Zf "check_deed" 5 ["row","deed"] (C7 (WL ⟨AI,AJ,AB,AD,AK⟩)):=by
 refine BS.mk F (F.binds (by walk_at "bD2")) m (F.Hb (k:=4) uL (λvs H Q E h=>Fz.Hn c8 h) (λAQ A outer s H vs Q E c h=>?_))
 refine⟨_,(A9 rfl (Ak (Ab Bh (A6 A8 (qv 1) A4) B1) (A9 rfl (D1 (Ct Sa c (by decide) DP rfl (A0 (qv 0) (A0 (A6 A8 (qv 1) A4) (A0 (A6 A8 (qv 1) A4) A3)))))) (A9 rfl (Ak (Ab Bh (A6 A8 (qv 1) A4) B1) (A9 rfl (D1 (Ct Dq c (by decide) DP rfl (A0 (qv 0) (A0 (A6 A8 (qv 1) A4) A3))))) (A9 rfl (Ak (Ab Bh (A6 A8 (qv 1) A4) B1) (A9 rfl (D1 (Ct XF c (by decide) DP rfl (A0 (qv 0) (A0 (A6 A8 (qv 1) A4) (A0 (A6 A8 (qv 1) A4) A3)))))) (A9 rfl (D1 (Ct SO c (by decide) DP rfl (A0 (qv 0) (A0 (A6 A8 (qv 1) A4) (A0 (A6 A8 (qv 1) A4) A3)))))))))))),?_⟩;refine Fz.Hg h c8 ?_;rintro _ _ _⟨tp,ns,d,rfl,b,rfl,rfl⟩;intro i0;show Ws [_,_] _ _ _;cases d with
 |put x i=>
  unfold aP
  walk_at "ww"
  refine BR (by decide +kernel) ?_;refine Gi ?_;refine Eb ?_;refine B0 (B7 rfl (AL ?_))
  walk_at "ww"
  refine AL ?_
  walk_at "ww"
  exact Al ⟨_,_,⟨tp,ns,_,_,rfl,b,rfl,rfl⟩,trivial,λe h=>h,λp a=>⟨_,rfl,a⟩⟩
 |take x=>
  unfold aP
  walk_at "ww"
  refine BG (by decide +kernel) ?_
  walk_at "ww"
  refine BR (by decide +kernel) ?_;refine Gi ?_;refine Eb ?_;refine B0 (B7 rfl (AL ?_))
  walk_at "ww"
  refine Al ⟨_,_,⟨tp,ns,x,rfl,b,rfl,rfl⟩,trivial,?_,?_⟩
  .rintro e⟨hx,rfl⟩;show AX.Ap _ _ _=_;simp only[AX.Ap];rw[o9 hx]
  .rintro p⟨hx,_⟩;refine⟨_,rfl,?_⟩;show AX.Ap _ _ _=_;simp only[AX.Ap];rw[mL (Decidable.not_not.mpr hx)]
 |move x i=>
  unfold aP
  walk_at "ww"
  refine BG (by decide +kernel) ?_
  walk_at "ww"
  refine BG (by decide +kernel) ?_
  walk_at "ww"
  refine BR (by decide +kernel) ?_;refine Gi ?_;refine Eb ?_;refine B0 (B7 rfl (AL ?_))
  walk_at "ww"
  refine AL ?_
  walk_at "ww"
  exact Al ⟨_,_,⟨tp,ns,_,_,rfl,b,rfl,rfl⟩,trivial,λe h=>h,λp a=>⟨_,rfl,a⟩⟩
 |turn lo hi=>
  unfold aP
  walk_at "ww"
  refine BG (by decide +kernel) ?_
  walk_at "ww"
  refine BG (by decide +kernel) ?_
  walk_at "ww"
  refine BG (by decide +kernel) ?_;refine Gi ?_;refine Eb ?_;refine B0 (B7 rfl (AL ?_))
  walk_at "ww"
  refine AL ?_
  walk_at "ww"
  exact Al ⟨_,_,⟨tp,ns,_,_,rfl,b,rfl,rfl⟩,trivial,λe h=>h,λp a=>⟨_,rfl,a⟩⟩
def sP:Ay ["row","low","high"] ["row","low","high"] (AS Xr):=by walk_at "z1"
def cG : ∀ss R,Vv ss R->ss.length=3:=by rintro _ _⟨tp,ns,lo,hi,rfl,_,_,_,rfl⟩;rfl
def ZC9(F:AH K "row_turned" "row_turned" Xr f fd)(m:mg "row_turned"=some (.ref f)):
  A7 P w K mg Zf "row_turned" 1 ["row","low","high"] (Ah Vv):=by
 refine A7.mk F (F.binds (by walk_at "bD3")) m (F.BI (k:=0) sP (λvs H Q E h=>Fz.Bq cG h) (λAQ A outer s H vs Q E b h=>?_))
 refine⟨_,(A9 rfl (AR (B3 EH (B3 EH (D3 IM Ce (A0 (DE Fz.JD (qv 0) Dh (Cy (qv 1))) A3)) (jA rfl rfl Ce rfl Lg (A0 (DE Fz.JD (qv 0) (Cy (qv 1)) (Cy (qv 2))) A3))) (D3 IM Ce (A0 (DE Fz.JD (qv 0) (Cy (qv 2)) Dh) A3))))),?_⟩;refine Fz.Bo h cG ?_;rintro _ _⟨tp,ns,lo,hi,rfl,a,h1,h2,rfl⟩;show Ws [_,_,_] _ _ _
 walk_at "ww"
 rw[Pq,ZBa _ h1 (by simpa using h2)]
 refine⟨by simp;omega,?_⟩
 walk_at "ww"
 rw[V1];refine⟨by simp;omega,?_⟩;unfold C0;simp only[D6,LA,Mg,ZFB]
def sO:Ay ["row","name","at"] ["row","name","at"] (AS Ta):=by walk_at "z1"
def da : ∀ss R,Ww ss R->ss.length=3:=by rintro _ _⟨tp,ns,x,i,rfl,_,rfl⟩;rfl
def vg(F:AH K "row_with" "row_with" Ta f fd)(m:mg "row_with"=some (.ref f)):
  A7 P w K mg Zf "row_with" 1 ["row","name","at"] (Ah Ww):=by
 refine A7.mk F (F.binds (by walk_at "bD3")) m (F.BI (k:=0) sO (λvs H Q E h=>Fz.Bq da h) (λAQ A outer s H vs Q E b h=>?_))
 refine⟨_,(A9 rfl (AR (B3 EH (B3 EH (D3 IM Ce (A0 (DE Fz.JD (qv 0) Dh (Cy (qv 2))) A3)) (DL (A0 (qv 1) A3))) (D3 IM Ce (A0 (DE Fz.JD (qv 0) (Cy (qv 2)) Dh) A3))))),?_⟩;refine Fz.Bo h da ?_;rintro _ _⟨tp,ns,x,i,rfl,a,rfl⟩;show Ws [_,_,_] _ _ _
 walk_at "ww"
 rw[Pq];refine⟨by simp,?_⟩
 walk_at "ww"
 refine⟨by simp;omega,?_⟩
 walk_at "ww"
 rw[V1];refine⟨by simp;omega,?_⟩;unfold ins;simp only[D6,LA,ES,Mg,C3,List.singleton_append]
def sE:Ay ["row","name"] ["row","name"] (AS RG):=by walk_at "z1"
def oR:=Sc [(".0",.local),("thing",.local),("name",.free)]
def lH:CV ["row","name"] (AS RG) oR "thing" ["name"] [1]:=by walk_at "z2"
def Zx : ∀ss R,YY ss R->ss.length=2:=by rintro _ _⟨tp,ns,x,rfl,_,rfl⟩;rfl
def ZCB(F:AH K "row_without" "row_without" RG f fd)(m:mg "row_without"=some (.ref f)):
  A7 P w K mg Zf "row_without" 1 ["row","name"] (Ah YY):=by
 refine A7.mk F (F.binds (by walk_at "bD2")) m (F.BI (k:=0) sE (λvs H Q E h=>Fz.Bq Zx h) (λAQ A outer s H vs Q E c h=>?_))
 refine⟨_,(A9 rfl (AR (E2 rfl lH (DW (qv 0)) (λ_ _ _ _=>by exact(HV (Ab GG (qv 1) (qv 0)))) (λ_ _ _ _=>by exact(qv 1))))),?_⟩;refine Fz.Bo h Zx ?_;rintro _ _⟨tp,ns,x,rfl,b,rfl⟩;show Ws [_,_] _ _ _;refine EO (Hf PV.str (λy=>!alike (.str y) (.str x)) PV.str ?_ str_inj)
 walk_at "ww"
 refine⟨by omega,λy a=>by walk_at "ww"; rfl,λy a _=>by walk_at "ww"; rfl,?_⟩
 rw[R4]
def o8:Ay ["row","deed"] ["row","deed"] (AS U8):=by walk_at "z1"
def cv:∀ss R D,(Xg ⟨AI,AJ,AB,AD,AK⟩) ss R D->ss.length=2:=by rintro _ _ _⟨tp,ns,d,rfl,_,_,rfl,rfl⟩;rfl
def uR(F:AH K "done" "done" U8 f fd)(m:mg "done"=some (.ref f)):
  BS P w K mg Zf "done" 6 ["row","deed"] (C7 (Xg ⟨AI,AJ,AB,AD,AK⟩)):=by
 refine BS.mk F (F.binds (by walk_at "bD2")) m (F.Hb (k:=5) o8 (λvs H Q E h=>Fz.Hn cv h) (λAQ A outer s H vs Q E a h=>?_))
 refine⟨_,(AA rfl (D1 (Ct YO a (by decide) DP rfl (A0 (qv 0) (A0 (qv 1) A3))))
   (AA rfl (Ak (Ab Bh (A6 A8 (qv 1) A4) B1) (A9 rfl (AR (Ac P1 a (A0 (qv 0) (A0 (A6 A8 (qv 1) A4) (A0 (A6 A8 (qv 1) A4) A3)))))) Ar)
   (AA rfl (Ak (Ab Bh (A6 A8 (qv 1) A4) B1) (A9 rfl (AR (Ac Qk a (A0 (qv 0) (A0 (A6 A8 (qv 1) A4) A3))))) Ar)
   (AA rfl (Ak (Ab Bh (A6 A8 (qv 1) A4) B1) (A9 rfl (AR (Ac P1 a (A0 (Ac Qk a (A0 (qv 0) (A0 (A6 A8 (qv 1) A4) A3))) (A0 (A6 A8 (qv 1) A4) (A0 (A6 A8 (qv 1) A4) A3)))))) Ar)
   (A9 rfl (AR (Ac Sk a (A0 (qv 0) (A0 (A6 A8 (qv 1) A4) (A0 (A6 A8 (qv 1) A4) A3)))))))))),?_⟩
 refine Fz.Hg h cv ?_;rintro _ _ _⟨tp,ns,d,rfl,b,c,rfl,rfl⟩;intro i0;show Ws [_,_] _ _ _;refine B2 (Gi ?_);refine Eb ?_;refine B0 (B7 rfl (AL (AF rfl (Al ⟨_,_,⟨tp,ns,d,rfl,b,rfl,rfl⟩,trivial,λe h=>h,?_⟩))));intro _ hd;obtain⟨d',CT⟩:=AX.good hd;have hx:=Is.ot b CT;have ok:=CT.2;rw[CT.1];cases d' with
 |put x i=>
  unfold dP
  walk_at "ww"
  refine BR (by decide +kernel) ?_;refine EO (Dd (B0 (B7 rfl (AL ?_))))
  walk_at "ww"
  refine AL ?_
  walk_at "ww"
  exact Al ⟨_,⟨tp,ns,x,i,rfl,by omega,rfl⟩,λxs h=>⟨_,CT,h⟩⟩
 |take x=>
  unfold dP
  walk_at "ww"
  refine BG (by decide +kernel) ?_;refine An ?_
  walk_at "ww"
  refine BR (by decide +kernel) ?_;refine EO (Dd (B0 (B7 rfl (AL ?_))))
  walk_at "ww"
  exact Al ⟨_,⟨tp,ns,x,rfl,by omega,rfl⟩,λxs h=>⟨_,CT,h⟩⟩
 |move x i=>
  unfold dP
  walk_at "ww"
  refine BG (by decide +kernel) ?_;refine An ?_
  walk_at "ww"
  refine BG (by decide +kernel) ?_;refine An ?_
  walk_at "ww"
  refine BR (by decide +kernel) ?_;refine EO (Dd (B0 (FY (EF (Dd (B0 (B7 rfl (AL ?_))))))))
  walk_at "ww"
  refine Al ⟨_,⟨tp,ns,x,rfl,by omega,rfl⟩,?_⟩;rintro _ rfl;refine⟨_,.inl ⟨rfl,AL ?_⟩⟩
  walk_at "ww"
  refine AL ?_
  walk_at "ww"
  have g:(wo ns x).length<=ns.length:=GX _ _;exact Al ⟨_,⟨false,wo ns x,x,i,rfl,by omega,rfl⟩,λxs h=>⟨_,CT,h⟩⟩
 |turn lo hi=>
  unfold dP
  walk_at "ww"
  refine BG (by decide +kernel) ?_;refine An ?_
  walk_at "ww"
  refine BG (by decide +kernel) ?_;refine An ?_
  walk_at "ww"
  refine BG (by decide +kernel) ?_;refine An ?_;refine EO (Dd (B0 (B7 rfl (AL ?_))))
  walk_at "ww"
  refine AL ?_
  walk_at "ww"
  exact Al ⟨_,⟨tp,ns,lo,hi,rfl,by omega,ok.1,ok.2,rfl⟩,λxs h=>⟨_,CT,h⟩⟩
def pK:Ay ["gap","at"] ["gap","at"] (AS TL):=by walk_at "z1"
def aq : ∀ss R,Wh ss R->ss.length=2:=by rintro _ _⟨g,i,rfl,rfl⟩;rfl
def wX(F:AH K "gap_behind_put" "gap_behind_put" TL f fd)(m:mg "gap_behind_put"=some (.ref f)):
  A7 P w K mg Zf "gap_behind_put" 1 ["gap","at"] (Ah Wh):=by
 refine A7.mk F (F.binds (by walk_at "bD2")) m (F.BI (k:=0) pK (λvs H Q E h=>Fz.Bq aq h) (λAQ A outer s H vs Q E a h=>?_))
 refine⟨_,(AA rfl (Ak (Ab Hy (qv 1) (qv 0)) (A9 rfl (AR (B3 ET (qv 0) A4))) Ar)
   (A9 rfl (AR (qv 0)))),?_⟩
 refine Fz.Bo h aq ?_;rintro _ _⟨g,i,rfl,rfl⟩;show Ws [_,_] _ _ _
 walk_at "ww"
 refine AY (λc=>?_) (λc=>?_)
 .have h:i<g:=by have:=mP c;omega
  walk_at "ww"
  unfold Cd;rw[o9 h];rfl
 .have h:¬ i<g:=λz=>c (mG (by omega));refine An ?_
  walk_at "ww"
  unfold Cd;rw[mL h]
def uw:Ay ["gap","place"] ["gap","place"] (AS XH):=by walk_at "z1"
def ZU : ∀ss R,XT ss R->ss.length=2:=by rintro _ _⟨g,i,rfl,rfl⟩;rfl
def ZCk(F:AH K "gap_behind_take" "gap_behind_take" XH f fd)(m:mg "gap_behind_take"=some (.ref f)):
  A7 P w K mg Zf "gap_behind_take" 1 ["gap","place"] (Ah XT):=by
 refine A7.mk F (F.binds (by walk_at "bD2")) m (F.BI (k:=0) uw (λvs H Q E h=>Fz.Bq ZU h) (λAQ A outer s H vs Q E a h=>?_))
 refine⟨_,(AA rfl (Ak (Ab Hy (qv 1) (qv 0)) (A9 rfl (AR (B3 Uq (qv 0) A4))) Ar)
   (A9 rfl (AR (qv 0)))),?_⟩
 refine Fz.Bo h ZU ?_;rintro _ _⟨g,i,rfl,rfl⟩;show Ws [_,_] _ _ _
 walk_at "ww"
 refine AY (λc=>?_) (λc=>?_)
 .have h:i<g:=by have:=mP c;omega
  walk_at "ww"
  unfold FA;rw[o9 h];show PV.int _=PV.int _
  congr 1;omega
 .have h:¬ i<g:=λz=>c (mG (by omega));refine An ?_
  walk_at "ww"
  unfold FA;rw[mL h]
def ZAp:Ay ["row","gap","deed"] ["row","gap","deed"] (AS Xi):=by walk_at "z1"
def gD : ∀ss R,YB ss R->ss.length=3:=by rintro _ _⟨tp,ns,g,d,rfl,_,_,rfl⟩;rfl
def ZDJ(F:AH K "gap_led" "gap_led" Xi f fd)(m:mg "gap_led"=some (.ref f)):
  A7 P w K mg Zf "gap_led" 4 ["row","gap","deed"] (Ah YB):=by
 refine A7.mk F (F.binds (by walk_at "bD3")) m (F.BI (k:=3) ZAp (λvs H Q E h=>Fz.Bq gD h) (λAQ A outer s H vs Q E a h=>?_))
 refine⟨_,(AA rfl (Ak (Ab Bh (A6 A8 (qv 2) A4) B1) (A9 rfl (AR (Ac PM a (A0 (qv 1) (A0 (A6 A8 (qv 2) A4) A3))))) Ar)
   (AA rfl (Ak (Ab Bh (A6 A8 (qv 2) A4) B1) (A9 rfl (AR (Ac Qg a (A0 (qv 1) (A0 (Ct Dq a (by decide) Gb rfl (A0 (qv 0) (A0 (A6 A8 (qv 2) A4) A3))) A3))))) Ar)
   (AA rfl (Ak (Ab Bh (A6 A8 (qv 2) A4) B1) (A9 rfl (AR (Ac PM a (A0 (Ac Qg a (A0 (qv 1) (A0 (Ct Dq a (by decide) Gb rfl (A0 (qv 0) (A0 (A6 A8 (qv 2) A4) A3))) A3))) (A0 (A6 A8 (qv 2) A4) A3))))) Ar)
   (A9 rfl (AR (qv 1)))))),?_⟩
 refine Fz.Bo h gD ?_;rintro _ _⟨tp,ns,g,d,rfl,hd,b,rfl⟩;show Ws [_,_,_] _ _ _;cases d with
 |put x i=>
  unfold dP
  walk_at "ww"
  refine BR (by decide +kernel) ?_;refine Ba (wp_call (AL (AF rfl (AL ?_))))
  walk_at "ww"
  exact Al ⟨_,⟨g,i,rfl,rfl⟩,λ_ h=>h⟩
 |take x=>
  unfold dP
  walk_at "ww"
  refine BG (by decide +kernel) ?_;refine An ?_
  walk_at "ww"
  refine BR (by decide +kernel) ?_;refine Ba (wp_call (AL (AF rfl (AL ?_))));refine Eb ?_;refine B0 (B7 rfl (AL ?_))
  walk_at "ww"
  refine Al ⟨_,_,⟨tp,ns,x,rfl,b x (.inl rfl),rfl,rfl⟩,trivial,λe h=>absurd (show x∈ns from hd) h.1,?_⟩;rintro _⟨_,rfl⟩;exact Al ⟨_,⟨g,_,rfl,rfl⟩,λ_ h=>h⟩
 |move x i=>
  unfold dP
  walk_at "ww"
  refine BG (by decide +kernel) ?_;refine An ?_
  walk_at "ww"
  refine BG (by decide +kernel) ?_;refine An ?_
  walk_at "ww"
  refine BR (by decide +kernel) ?_;refine Ba (wp_call (AL (wp_call (AL (AF rfl (AL ?_))))));refine Eb ?_;refine B0 (B7 rfl (AL ?_))
  walk_at "ww"
  refine Al ⟨_,_,⟨tp,ns,x,rfl,b x (.inr ⟨i,rfl⟩),rfl,rfl⟩,trivial,λe h=>absurd hd.1 h.1,?_⟩;rintro _⟨_,rfl⟩;refine Al ⟨_,⟨g,_,rfl,rfl⟩,?_⟩;rintro _ rfl;refine AL ?_
  walk_at "ww"
  exact Al ⟨_,⟨_,i,rfl,rfl⟩,λ_ h=>h⟩
 |turn lo hi=>
  unfold dP
  walk_at "ww"
  refine BG (by decide +kernel) ?_;refine An ?_
  walk_at "ww"
  refine BG (by decide +kernel) ?_;refine An ?_
  walk_at "ww"
  refine BG (by decide +kernel) ?_;refine An ?_;exact Ba (AF rfl rfl)
def lW:Ay ["loop","at"] ["loop","at"] (AS SU):=by walk_at "z1"
def gU : ∀ss R,VU ss R->ss.length=2:=by rintro _ _⟨r,g,i,xs,rfl,rfl⟩;rfl
def vK(F:AH K "joins" "joins" SU f fd)(m:mg "joins"=some (.ref f)):
  A7 P w K mg Zf "joins" 1 ["loop","at"] (Ah VU):=by
 refine A7.mk F (F.binds (by walk_at "bD2")) m (F.BI (k:=0) lW (λvs H Q E h=>Fz.Bq gU h) (λAQ A outer s H vs Q E a h=>?_))
 refine⟨_,(A9 rfl (AR (Nn (Ck Bh (A6 A8 (qv 0) A4) B1) (ED (GK (Ck Bh (A6 A8 (qv 0) A4) B1) (ED (Ck NX (qv 1) (A6 A8 (qv 0) A4)))))))),?_⟩;refine Fz.Bo h gU ?_;rintro _ _⟨r,g,i,xs,rfl,rfl⟩;show Ws [_,_] _ _ _;refine Ba (Mc (Qw ?_))
 walk_at "ww"
 refine⟨0,.str r,rfl,IA (j:=0) rfl,?_⟩
 walk_at "ww"
 unfold Bp;have q:∀z:Str,alike (.str r) (.str z)=decide (V.str r=V.str z):=λz=>by
  show decide (r=z)=_;rw[Eo,zF,zF];exact⟨λh=>by rw[h],λh=>by injection h⟩
 rw[q];refine AY (λc=>by rw[o9 c]) (λc=>?_);rw[mL c];refine Ib (Qw ?_)
 walk_at "ww"
 refine⟨0,.str r,rfl,IA (j:=0) rfl,?_⟩
 walk_at "ww"
 rw[q];refine AY (λc=>?_) (λc=>by rw[mL c]);rw[o9 c]
 walk_at "ww"
 refine⟨1,.int g,rfl,IA (j:=1) rfl,?_⟩
 walk_at "ww"
 rfl
def tQ:Ay ["loop","deed"] ["loop","deed"] (AS Vt):=by walk_at "z1"
def Zp : ∀ss R,YC ss R->ss.length=2:=by rintro _ _⟨r,g,cs,d,rfl,_,_,_,rfl⟩;rfl
def pk(F:AH K "coming_behind" "coming_behind" Vt f fd)(m:mg "coming_behind"=some (.ref f)):
  A7 P w K mg Zf "coming_behind" 2 ["loop","deed"] (Ah YC):=by
 refine A7.mk F (F.binds (by walk_at "bD2")) m (F.BI (k:=1) tQ (λvs H Q E h=>Fz.Bq Zp h) (λAQ A outer s H vs Q E a h=>?_))
 refine⟨_,(AA rfl (Ak (Ab Bh (A6 A8 (qv 1) A4) B1) (A9 rfl (AR (Ac LU a (A0 (A6 A8 (qv 0) A4) (A0 (A6 A8 (qv 1) A4) A3))))) Ar)
   (AA rfl (Ak (K2 (Ab Bh (A6 A8 (qv 1) A4) B1) (KW (FP (Ac Ul a (A0 (qv 0) (A0 (A6 A8 (qv 1) A4) A3)))))).pt (A9 rfl (AR (D3 JR CQ (A0 (BA RT Dc (A0 (B3 eA (A6 A8 (qv 0) A4) (BB (A0 (A6 A8 (qv 1) A4) A3))) A3)) A3)))) Ar)
   (A9 rfl (AR (A6 A8 (qv 0) A4))))),?_⟩
 refine Fz.Bo h Zp ?_;rintro _ _⟨r,g,cs,d,rfl,j,up,hx,rfl⟩;show Ws [_,_] _ _ _;unfold Em;cases d with
 |take x=>
  unfold dP
  walk_at "ww"
  refine BR (by decide +kernel) ?_;refine Ba (wp_call (AL ?_))
  walk_at "ww"
  refine AL ?_
  walk_at "ww"
  exact Al ⟨_,⟨cs,x,rfl,by omega,rfl⟩,λ_ h=>h⟩
 |put x i=>
  unfold dP
  walk_at "ww"
  refine BG (by decide +kernel) ?_;refine An ?_
  walk_at "ww"
  refine BR (by decide +kernel) ?_;refine Dn (wp_call (AL (AF rfl (AL ?_))))
  walk_at "ww"
  refine Al ⟨_,⟨r,g,i,_,rfl,rfl⟩,?_⟩;rintro _ rfl;refine⟨_,rfl,AY (λc=>?_) (λc=>?_)⟩
  .refine Ba (TK rfl (FY (EF (vG ?_))))
   walk_at "ww"
   refine⟨cs,rfl,?_⟩
   walk_at "ww"
   refine⟨by simp,[x],rfl,by simp,by simp;omega,λts b st=>?_⟩;refine⟨_,.inl ⟨rfl,?_⟩⟩;rw[Xs b st up (hx x i rfl),WX c]
  .refine An ?_
   walk_at "ww"
   rw[UR (by cases e:Bp r g i <;> simp_all)]
 |move x i=>
  unfold dP
  walk_at "ww"
  refine BG (by decide +kernel) ?_;refine An ?_
  walk_at "ww"
  refine BG (by decide +kernel) (DK (An ?_))
  walk_at "ww"
  rfl
 |turn lo hi=>
  unfold dP
  walk_at "ww"
  refine BG (by decide +kernel) ?_;refine An ?_
  walk_at "ww"
  refine BG (by decide +kernel) (DK (An ?_))
  walk_at "ww"
  rfl
def tR:Ay ["row","loop","deed"] ["row","loop","deed"] (AS XR):=by walk_at "z1"
def jY : ∀ss R,Te ss R->ss.length=3:=by rintro _ _⟨tp,ns,r,g,cs,d,rfl,_,_,_,_,rfl⟩;rfl
def oO(F:AH K "loop_led" "loop_led" XR f fd)(m:mg "loop_led"=some (.ref f)):
  A7 P w K mg Zf "loop_led" 5 ["row","loop","deed"] (Ah Te):=by
 refine A7.mk F (F.binds (by walk_at "bD3")) m (F.BI (k:=4) tR (λvs H Q E h=>Fz.Bq jY h) (λAQ A outer s H vs Q E a h=>?_))
 refine⟨_,(A9 rfl (AR (BB (A0 (A6 A8 (qv 1) A4) (A0 (Ac Vq a (A0 (qv 0) (A0 (A6 A8 (qv 1) A4) (A0 (qv 2) A3)))) (A0 (Ac YS a (A0 (qv 1) (A0 (qv 2) A3))) A3)))))),?_⟩;refine Fz.Bo h jY ?_;rintro _ _⟨tp,ns,r,g,cs,d,rfl,hd,gd,c,b,rfl⟩;show Ws [_,_,_] _ _ _;unfold Em;have e:=gd.len
 walk_at "ww"
 refine wp_call (B0 (B7 rfl (AL ?_)))
 walk_at "ww"
 refine AL (AF rfl (Al ⟨_,⟨tp,ns,g,d,rfl,hd,b,rfl⟩,?_⟩));rintro _ rfl
 walk_at "ww"
 refine wp_call (AL (AF rfl (AL (AF rfl (Al ⟨_,⟨r,g,cs,d,rfl,by omega,gd.up,Xe gd hd,rfl⟩,?_⟩)))));rintro _ rfl
 walk_at "ww"
 exact⟨by simp,rfl⟩
def J7:Ay ["row","loop","trial","told","entry","answer","behind"] ["row","loop","trial"] (AS UK):=by walk_at "z1"
def cg:∀ss R D,(Np K ⟨AI,AJ,AB,AD,AK⟩) ss R D->ss.length=3:=by rintro _ _ _⟨a,tp,ns,l1,es,_,rfl,_,rfl,rfl⟩;rfl
def xA(F:AH K "told_in" "told_in" UK f fd)(m:mg "told_in"=some (.ref f)):
  BS P w K mg Zf "told_in" 7 ["row","loop","trial"] (C7 (Np K ⟨AI,AJ,AB,AD,AK⟩)):=by
 refine BS.mk F (F.binds (by walk_at "bD3")) m (F.Hb (k:=6) J7 (λvs H Q E h=>Fz.Hn cg h) (λAQ A outer s H vs Q E j h=>?_))
 refine⟨_,(AA rfl (Ao 3 J7.nd (DL A3))
   (AA rfl (CS (LS sU rfl (DW (qv 2)) (DF 4 J7.nd) (A9 rfl (Ak (Ab (Fz.Kh j.units) (qv 4) (EJ (v:=.ref As) (by rfl) DG rfl)) (AA rfl (Ao 5 J7.nd (Ct XQ j (by decide) DP rfl (A0 (qv 0) (A0 (qv 1) A3))))
   (AA rfl (D1 (FQ Ft Jm Jn IC (qv 3) (A0 (A6 A8 (qv 5) A4) A3)))
   (A9 rfl (Ao 1 J7.nd (A6 A8 (qv 5) A4))))) (AA rfl (Ao 6 J7.nd (Ct TN j (by decide) DP rfl (A0 (qv 0) (A0 (qv 4) A3))))
   (AA rfl (Ao 1 J7.nd (Ac WW j (A0 (qv 0) (A0 (qv 1) (A0 (qv 4) A3)))))
   (A9 rfl (Ao 0 J7.nd (qv 6)))))))))
   (A9 rfl (AR (qv 3))))),?_⟩
 refine Fz.Hg h cg ?_;rintro _ _ _⟨u,tp,ns,l1,es,B,rfl,ok,rfl,rfl⟩;intro i0;have C:Co K As [.str "step"]:=Co.of DZ rfl rfl;have I:dat K 40 (.con As [.str "step"]):=C.dat (d:=39) (λx hx=>by rw[List.mem_singleton.mp hx];trivial);show Ws [_,_,_,.any,.any,.any,.any] _ _ _;refine B2 (FL (IL (Cs ⟨by simp,?_⟩)));refine B2 (GN (Qi (λ_ i AV=>∃(Ks:Bool)(BW:List Str)(a:Lp)(acc:List (Option Str))(s0 s4 o l:Slot),W2 s0 Ks BW/\TI ⟨AI,AJ,AB,AD,AK⟩ ns l1 es i BW a acc/\AV=[s0,.is a.P,.sq false (es.map (C8 u)),.own (acc.map BL),s4,o,l]) ?_))
 walk_at "ww"
 refine⟨⟨tp,ns,l1,[],_,_,_,_,.inl rfl,TI.zero ok.row ok.g1,rfl⟩,?_,?_⟩
 .rintro i p AV c⟨Ks,BW,a,acc,s0,s4,o,l,Es,ti,rfl⟩;rw[Bt]at c;cases b:es[i]? with
  |none=>rw[b]at c;cases c
  |some e=>
  rw[b]at c;cases c;have J:=BK.len ti.gd;have y:=ti.row.len;refine RW ?_;refine CM (Cf (JV (AF rfl (Iv [.str "step"] ⟨NH B 39 e,I,_,rfl,?_⟩))));rw[fB];cases e with
  |AZ=>
   refine BR rfl ?_;refine B2 (EI ?_);refine Eb ?_;refine B0 (I0 rfl Es (AL (AF rfl (Al ⟨_,_,⟨Ks,BW,a.r,a.g,a.cs,rfl,by omega,by omega,λx hx=>NO (ti.row.nm x hx),rfl,rfl⟩,trivial,λe h=>?_,?_⟩))))
   .have q:=Yb ti.gd;rw[h.1]at q;cases q
   rintro _⟨n,hn,_,rfl⟩;cases Int.ofNat.inj hn;rw[Tq]
   walk_at "ww"
   refine⟨by rw[Ae];have:=ti.len;have:=ok.len;have:=(List.getElem?_eq_some_iff.mp b).1;omega,?_⟩
   walk_at "ww"
   exact⟨Ks,BW,_,_,s0,_,_,_,Es,ti.AZ b,by rw[D6];rfl⟩
  |Am d=>
   refine BG (λz=>by cases z) ?_;have t:d.say:=ok.say (.Am d) (LB b);refine B2 (FL (J3 ?_));refine B0 (I0 rfl Es (AL (AF rfl (Al ⟨_,_,⟨Ks,BW,d,rfl,t,by omega,rfl,rfl⟩,trivial,λe h=>⟨ti.bad b h,qY h⟩,?_⟩))));rintro _⟨d',CT,rfl⟩;have G:C8 u (.Am d)=dP d':=CT.1;refine B2 (EI (wp_call (B0 (I0 rfl Es (AL (AF rfl (AL (AF rfl ?_))))))));rw[G];refine Al ⟨_,⟨Ks,BW,a.r,a.g,a.cs,d',rfl,CT.2,ti.gd,y,AX.Vc t CT,rfl⟩,?_⟩;rintro _ rfl;refine Nz 6 rfl ?_;refine EI (AF rfl ?_);exact⟨false,_,a.led BW d',acc,_,_,_,_,.inr ⟨rfl,.inl rfl⟩,ti.Am b CT,rfl⟩
 .rintro AV⟨Ks,BW,a,acc,s0,s4,o,l,Es,ti,rfl⟩;rw[Ae]at ti;have D:=ti.len;exact WH rfl ⟨acc,ti.fin,D,rfl⟩
def Tf:Ay ["row","one","other","fresh","ahead"] ["row","one","other"] (AS Xp):=by walk_at "z1"
def dq:∀ss R,(VX K As ⟨AI,AJ,AB,AD,AK⟩) ss R->ss.length=3:=by rintro _ _⟨tp,ns,l1,l2,f,f1,r,rfl,_,_,_,_,_,_,rfl⟩;rfl
def oS(F:AH K "trial_by_rule" "trial_by_rule" Xp f fd)(m:mg "trial_by_rule"=some (.ref f)):
  A7 P w K mg Zf "trial_by_rule" 8 ["row","one","other"] (Ah (VX K As ⟨AI,AJ,AB,AD,AK⟩)):=by
 refine A7.mk F (F.binds (by walk_at "bD3")) m (F.BI (k:=7) Tf (λvs H Q E h=>Fz.Bq dq h) (λAQ A outer s H vs Q E b h=>?_))
 refine⟨_,(AA rfl (Ao 3 Tf.nd (Ac La b (A0 (qv 0) A3)))
   (AA rfl (Ao 4 Tf.nd (DL (A0 (BB (A0 B1 (A0 (A6 CL (qv 3) A4) (A0 (BA D0 Aw (A0 (qv 0) A3)) A3)))) A3)))
   (AA rfl (Ak (Ab Hm B1 (BB (A0 (A6 A8 (qv 1) A4) (A0 (A6 A8 (qv 2) A4) A3)))) (A9 rfl (AR (B3 EH (B3 EH (qv 4) (Ac KL b (A0 (qv 0) A3))) (DL (A0 (EJ (v:=.ref As) (by rfl) DG rfl) A3))))) Ar)
   (AA rfl (D1 (FQ Ft Jm Jn IC (qv 4) (A0 (EJ (v:=.ref As) (by rfl) DG rfl) A3)))
   (AA rfl (Ak (Ab (Fz.LQ b.units) (Ct GF b (by decide) Gb rfl (A0 (qv 0) (A0 (qv 1) (A0 (qv 4) A3)))) (Ct GF b (by decide) Gb rfl (A0 (qv 0) (A0 (qv 2) (A0 (qv 4) A3))))) (A9 rfl (AR (qv 4))) Ar)
   (A9 rfl (AR (B3 EH (B3 EH (B3 EH (qv 4) (DL (A0 (BB (A0 B1 (A0 (A6 CL (qv 3) A4) (A0 A4 A3)))) A3))) (Ac KL b (A0 (qv 0) A3))) (DL (A0 (BB (A0 B1 (A0 (A6 CL (qv 3) A4) A3))) (A0 (EJ (v:=.ref As) (by rfl) DG rfl) A3))))))))))),?_⟩
 refine Fz.Bo h dq ?_;rintro _ _⟨tp,ns,⟨i,g1,c1⟩,⟨d,g2,c2⟩,f,f1,r,rfl,j,x,u,p,b,B,rfl⟩;have J:=j.len;have p:c1=c2:=p;have b:i≠d:=b;subst p;have C:Co K As [.str "step"]:=Co.of DZ rfl rfl;have n:DX K (some As):=λa e=>by cases e;exact C
 obtain⟨R,Y8,M,D,n0,y,N,O,JC⟩:=Ol J;rw[B]at D;injection D with z1 z2
 injection z2 with z2 _
 subst z1;subst z2;show Ws [_,.is (.tup [.str i,.int g1,.tup (c1.map .str)]),.is (.tup [.str d,.int g2,.tup (c1.map .str)]),.any,.any] _ _ _;refine B2 (FL (Dd (B0 (B7 rfl (Al ⟨_,⟨tp,ns,rfl,j,rfl⟩,?_⟩)))));rintro _ rfl;rw[B];refine B2 (FL (IL (Bm (FW (Bm (FE (Bm (G9 (FJ rfl ⟨rfl,Dp ⟨_,_,rfl,MN _ _,?_⟩⟩)))))))))
 walk_at "ww"
 refine⟨by simp,Cs ⟨by simp,?_⟩⟩;rw[Ae];unfold Nb
 walk_at "ww"
 refine⟨by simp,_,.inr ⟨rfl,[i,d],rfl,_,rfl,AY (λc=>?_) (λc=>An ?_)⟩⟩
 .have hn:i="none" ∨d="none" := by
   have:=mP c;simp only[Cj,Bb,ZA1]at this;exact this.elim (λz=>.inl z.symm) λz=>.inr z.symm
  rw[o9 hn];refine EO (PH (FG (PH (FJ rfl ⟨rfl,FG (Dd (B0 (B7 rfl (Al ⟨_,⟨tp,ns,rfl,by omega,rfl⟩,?_⟩))))⟩))));rintro _ rfl;refine⟨rfl,by simp;omega,rfl,FG (IL (Bm (Iv [.str "step"] (Cs ⟨by simp,rfl,by simp;omega,n,?_⟩))))⟩;unfold D8;simp only[D6,ES,Il,S8,Yz,Jj];rfl
 have h1:i ≠"none" := λz=>c (mG (by rw[z];simp));have h2:d ≠"none" := λz=>c (mG (by rw[z];simp));rw[mL (show ¬ (i="none" ∨d="none")from λz=>z.elim h1 h2)];have t1:=(Ii (c:={ noName:=AI,there:=AJ,gone:=AB,Jc:=AD,full:=AK }) (t:=[.AZ]) j x n0 y h1).2.2.trans Hv;have t2:=(Ii (c:={ noName:=AI,there:=AJ,gone:=AB,Jc:=AD,full:=AK }) (t:=[.AZ]) j u n0 y h2).2.2.trans Hv;have ok:∀{l:Lp},l.Good ns->Lu ns l l [.Am (.put f ns.length),.AZ]:=λg=>⟨j.le (by decide),g,g,GD (Ir n0 (by omega)) Jp,by show 2<=300;decide⟩;refine B2 (Oq rfl (Iv [.str "step"] ⟨by simp,?_⟩));refine B2 (CM (Cf (KI (EF (J3 ?_)))));refine B0 (B7 rfl (AL (AF rfl (B0 (FJ rfl (Al ⟨_,_,⟨some As,tp,ns,⟨i,g1,c1⟩,[.Am (.put f ns.length),.AZ],n,rfl,ok x,rfl,rfl⟩,trivial,λe h=>?_,?_⟩))))))
 .rw[t1]at h;cases h.1
 rintro _⟨I,u1,_,rfl⟩;refine EF (J3 ?_);refine B0 (B7 rfl (AL (AF rfl (B0 (FJ rfl (Al ⟨_,_,⟨some As,tp,ns,⟨d,g2,c1⟩,[.Am (.put f ns.length),.AZ],n,rfl,ok u,rfl,rfl⟩,trivial,λe h=>?_,?_⟩))))))
 .rw[t2]at h;cases h.1
 rintro _⟨G,u2,_,rfl⟩;refine⟨Ga K 39 _,Ga K 39 _,_,rfl,?_⟩;rw[MB,u1,u2];refine AY (λq=>?_) (λq=>An ?_)
 .have L:I≠G:=by simpa using q
  rw[o9 (λz=>L (Be z))];exact WH rfl ⟨n,rfl⟩
 have o:I=G:=by simpa using q
 rw[mL (λz=>z (by rw[o]))]
 walk_at "ww"
 refine⟨_,_,rfl,SW _ _ _,Bm (Dp (Cs ⟨by simp,Cs ⟨by simp,_,.inl ⟨rfl,rfl,by simp,?_⟩⟩⟩))⟩
 walk_at "ww"
 refine FG (Dd (B0 (B7 rfl (Al ⟨_,⟨tp,ns,rfl,by omega,rfl⟩,?_⟩))));rintro _ rfl;refine⟨rfl,by simp;omega,_,.inl ⟨rfl,rfl,?_⟩⟩;refine FG (IL (Bm (FW (Bm (FE (Bm (G9 (FJ rfl ⟨rfl,Dp ⟨_,_,rfl,MN _ _,Cs ⟨by simp,Bm (Iv [.str "step"] (Cs ⟨by simp,rfl,by simp;omega,n,?_⟩))⟩⟩⟩))))))));unfold D8;simp only[D6,ES,Il,S8,Yz,C3,Jj];rfl
def oV:Ay ["row","one","other"] ["row","one","other"] (AS Ve):=by walk_at "z1"
def i4:∀ss R,(VZ K As ⟨AI,AJ,AB,AD,AK⟩) ss R->ss.length=3:=by rintro _ _⟨tp,ns,l1,l2,rfl,_,_,_,_,rfl⟩;rfl
def ya(F:AH K "trial_of" "trial_of" Ve f fd)(m:mg "trial_of"=some (.ref f)):
  A7 P w K mg Zf "trial_of" 9 ["row","one","other"] (Ah (VZ K As ⟨AI,AJ,AB,AD,AK⟩)):=by
 refine A7.mk F (F.binds (by walk_at "bD3")) m (F.BI (k:=8) oV (λvs H Q E h=>Fz.Bq i4 h) (λAQ A outer s H vs Q E a h=>?_))
 refine⟨_,(AA rfl (Ak (Ab (LI a.HJ) (A6 A8 (qv 1) A4) (A6 A8 (qv 2) A4)) (A9 rfl (AR (Ac V6 a (A0 (qv 0) (A0 (qv 1) (A0 (qv 2) A3)))))) Ar)
   (AA rfl (Ak (Ab GG (A6 A8 (qv 1) A4) (A6 A8 (qv 2) A4)) (A9 rfl (AR (Ac UL a (A0 (qv 0) (A0 (qv 1) (A0 (qv 2) A3)))))) Ar)
   (A9 rfl (AR (Ac YA a (A0 (qv 0) (A0 (qv 1) (A0 (qv 2) A3)))))))),?_⟩
 refine Fz.Bo h i4 ?_;rintro _ _⟨tp,ns,⟨d,g1,c1⟩,⟨b,g2,c2⟩,rfl,i,l,j,o,rfl⟩;have p:=i.len;have u:c1.length<=ns.length:=BK.len l;have t:c2.length<=ns.length:=BK.len j;obtain⟨f,f1,r,n,_⟩:=Ol p;show Ws [_,.is (.tup [.str d,.int g1,.tup (c1.map .str)]),.is (.tup [.str b,.int g2,.tup (c2.map .str)])] _ _ _
 walk_at "ww"
 refine AY (λc=>?_) (λc=>An ?_)
 .have e:c1≠c2:=by simpa using c
  refine EO (Dd (B0 (B7 rfl (AL (AF rfl (AL (AF rfl (Al ⟨_,⟨tp,ns,⟨d,g1,c1⟩,⟨b,g2,c2⟩,rfl,i,l,j,e,rfl⟩,?_⟩))))))));rintro _⟨g,es,q,rfl⟩;exact⟨g,es,.inl ⟨e,q⟩,rfl⟩
 have e:c1=c2:=by simpa using c
 walk_at "ww"
 refine AY (λc=>?_) (λc=>An ?_)
 .have a:d≠b:=by simpa[alike]using c
  refine EO (Dd (B0 (B7 rfl (AL (AF rfl (AL (AF rfl (Al ⟨_,⟨tp,ns,⟨d,g1,c1⟩,⟨b,g2,c2⟩,f,f1,r,rfl,i,l,j,e,a,n,rfl⟩,?_⟩))))))));rintro _⟨g,rfl⟩;exact⟨g,_,.inr ⟨e,f,f1,r,n,rfl⟩,by rw[mL (show ¬ d=b from a)]⟩
 have a:d=b:=by simpa[alike]using c
 refine EO (Dd (B0 (B7 rfl (AL (AF rfl (AL (AF rfl (Al ⟨_,⟨tp,ns,⟨d,g1,c1⟩,⟨b,g2,c2⟩,f,f1,r,rfl,i,l,j,e,a,o,n,rfl⟩,?_⟩))))))));rintro _⟨g,rfl⟩;exact⟨g,_,.inr ⟨e,f,f1,r,n,rfl⟩,by rw[o9 (show d=b from a)]⟩
def iW:Ay ["row","one","other","trial"] ["row","one","other"] (AS Sb):=by walk_at "z1"
def aB:∀ss R,(Wc K As ⟨AI,AJ,AB,AD,AK⟩) ss R->ss.length=3:=by rintro _ _⟨tp,ns,l1,l2,rfl,_,_,_,_⟩;rfl
def ZDY(F:AH K "parted" "parted" Sb f fd)(m:mg "parted"=some (.ref f)):
  A7 P w K mg Zf "parted" 10 ["row","one","other"] (Ah (Wc K As ⟨AI,AJ,AB,AD,AK⟩)):=by
 refine A7.mk F (F.binds (by walk_at "bD3")) m (F.BI (k:=9) iW (λvs H Q E h=>Fz.Bq aB h) (λAQ A outer s H vs Q E i h=>?_))
 refine⟨_,(AA rfl (D1 (Ac MT i (A0 (qv 0) (A0 (qv 1) (A0 (qv 2) A3)))))
   (AA rfl (Ak (FP (Ac Tu i (A0 (qv 1) (A0 (qv 2) A3)))) (A9 rfl (AR FO)) Ar)
   (AA rfl (Ao 3 iW.nd (Ac WC i (A0 (qv 0) (A0 (qv 1) (A0 (qv 2) A3)))))
   (A9 rfl (AR (BB (A0 (qv 3) (A0 (Ct GF i (by decide) Gb rfl (A0 (qv 0) (A0 (qv 1) (A0 (qv 3) A3)))) (A0 (Ct GF i (by decide) Gb rfl (A0 (qv 0) (A0 (qv 2) (A0 (qv 3) A3)))) A3))))))))),?_⟩
 refine Fz.Bo h aB ?_;rintro _ _⟨tp,ns,l1,l2,rfl,c,g,d,o⟩;have p:=c.len;show Ws [_,_,_,.any] _ _ _;refine B2 (Gi (wp_call (B0 (B7 rfl (AL (AF rfl (AL (AF rfl (Al ⟨_,⟨tp,ns,l1,l2,rfl,c,g,d,rfl⟩,?_⟩)))))))));intro _ _;refine B2 (CM (Dn (wp_call (AL (AF rfl (AL (AF rfl (Al ⟨_,⟨ns,l1,l2,rfl,g,d,by omega,rfl⟩,?_⟩))))))));rintro _ rfl;rcases o with⟨n,rfl⟩|⟨j,rfl⟩
 .rw[mG n];exact⟨_,rfl,BR rfl (Ba (En rfl))⟩
 rw[p6 j];refine⟨_,rfl,BG (by decide) (An ?_)⟩;refine B2 (FL (Dd (B0 (B7 rfl (AL (AF rfl (AL (AF rfl (Al ⟨_,⟨tp,ns,l1,l2,rfl,c,g,d,j,rfl⟩,?_⟩)))))))));rintro _⟨l,es,tr,rfl⟩;have ok:=tr.ok c g d j;obtain⟨a,b,pt⟩:=tr.parts c g d j;refine y4 (yg (XW (uI rfl λx=>XW (aZ (J3 ?_)))));refine B0 (B7 rfl (AL (AF rfl (B0 (FJ rfl (Al ⟨_,_,⟨some As,tp,ns,l1,es,l,rfl,⟨ok.row,ok.g1,ok.g1,ok.say,ok.len⟩,rfl,rfl⟩,trivial,λe h=>?_,?_⟩))))))
 .rw[pt.2.2.1]at h;cases h.1
 rintro _⟨r,t1,_,rfl⟩y;rw[pt.2.2.1]at t1;cases t1;refine XW (aZ (J3 ?_));refine B0 (B7 rfl (AL (AF rfl (B0 (FJ rfl (Al ⟨_,_,⟨some As,tp,ns,l2,es,l,rfl,⟨ok.row,ok.g2,ok.g2,ok.say,ok.len⟩,rfl,rfl⟩,trivial,λe h=>?_,?_⟩))))))
 .rw[pt.2.2.2.1]at h;cases h.1
 rintro _⟨q,t2,_,rfl⟩z;rw[pt.2.2.2.1]at t2;cases t2;exact ZD1 ⟨by simp,by simp,by simp,by simp,l,es,a,b,x,y,z,tr,pt,rfl⟩
def vw:Ay ["one","other"] ["one","other"] (AS V5):=by walk_at "z1"
def eF : ∀ss R,MM ss R->ss.length=2:=by rintro _ _⟨ns,l1,l2,rfl,_,_,_,rfl⟩;rfl
def yk(F:AH K "_law_twins" "_law_twins" V5 f fd)(m:mg "_law_twins"=some (.ref f)):
  A7 P w K mg Zf "_law_twins" 1 ["one","other"] (Ah MM):=by
 refine A7.mk F (F.binds (by walk_at "bD2")) m (F.BI (k:=0) vw (λvs H Q E h=>Fz.Bq eF h) (λAQ A outer s H vs Q E q h=>?_))
 refine⟨_,(AA rfl (Ak (Ez (Ab GG (A6 A8 (qv 0) A4) (A6 A8 (qv 1) A4)) (Ho (Ab (LI q.HJ) (A6 A8 (qv 0) A4) (A6 A8 (qv 1) A4)))).pt (A9 rfl (AR G3)) Ar)
   (A9 rfl (AR (Nn (Ck Bh (A6 A8 (qv 0) A4) (A6 A8 (qv 1) A4)) (ED (GK (Ck Bh (A6 A8 (qv 0) A4) B1) (ED (Ck Hy (BA D0 Aw (A0 (A6 A8 (qv 0) A4) A3)) A4)))))))),?_⟩
 refine Fz.Bo h eF ?_;rintro _ _⟨ns,⟨a,g1,c1⟩,⟨b,g2,c2⟩,rfl,p,o,x,rfl⟩;have v:c1.length<=ns.length:=BK.len p;have u:c2.length<=ns.length:=BK.len o;show Ws [.is (.tup [.str a,.int g1,.tup (c1.map .str)]),.is (.tup [.str b,.int g2,.tup (c2.map .str)])] _ _ _;have n:¬ (a=b/\c1=c2)->PV.bl false=.bl (decide (EG ⟨a,g1,c1⟩ ⟨b,g2,c2⟩)):=λh=>by rw[p6 (λz=>h z.1)]
 walk_at "ww"
 refine AY (λc=>BR rfl (Ba (Gu (n λz=>?_)))) (λc=>?_)
 .rw[z.1]at c;simp[alike]at c
 have r:a=b:=by simpa[alike]using c
 subst r
 walk_at "ww"
 refine AY (λg=>Ba (Gu (n λz=>?_))) (λg=>An ?_)
 .rw[z.2]at g;simp at g
 have t:c1=c2:=by simpa using g
 subst t
 walk_at "ww"
 refine AY (λl=>?_) (λl=>?_)
 .have d:g1=g2:=Int.ofNat_inj.mp (by simpa[alike]using l)
  rw[mG (show EG ⟨a,g1,c1⟩ ⟨a,g2,c1⟩from⟨⟨rfl,rfl⟩,.inl d⟩)]
 have d:g1≠g2:=λe=>l (by rw[e];simp[alike])
 walk_at "ww"
 refine AY (λj=>?_) (λj=>?_)
 .have i:a="none" := by simpa[alike]using j
  walk_at "ww"
  rw[Ae]
  congr 1
  rw[Eo,oE,oE];exact⟨λz=>⟨⟨rfl,rfl⟩,.inr ⟨i,by show c1.length<=1;omega⟩⟩,λz=>z.2.elim (λw=>absurd w d) λw=>by have:c1.length<=1:=w.2;omega⟩
 .have i:a ≠"none" := by simpa[alike]using j
  rw[p6 (λz:EG ⟨a,g1,c1⟩ ⟨a,g2,c1⟩=>z.2.elim (λw=>d w) λw=>i w.1)]
def nE:Ay ["found"] ["found"] (AS XX):=by walk_at "z1"
def cI : ∀ss R,Ua ss R->ss.length=1:=by rintro _ _⟨p,b,rfl,h,rfl⟩;rfl
def ZE7(F:AH K "_law_whole" "_law_whole" XX f fd)(m:mg "_law_whole"=some (.ref f)):
  A7 P w K mg Zf "_law_whole" 1 ["found"] (Ah Ua):=by
 refine A7.mk F (F.binds (by walk_at "bD1")) m (F.BI (k:=0) nE (λvs H Q E h=>Fz.Bq cI h) (λAQ A outer s H vs Q E a h=>?_))
 refine⟨_,(A9 rfl (AR (GK (BA ML Gp (A0 (qv 0) (A0 (K4 "int" Ju) A3))) (ED (rO (BA ML Gp (A0 (qv 0) (A0 (K4 "bool" Vk) A3)))))))),?_⟩;refine Fz.Bo h cI ?_;rintro _ _⟨p,b,rfl,h,rfl⟩;show Ws [_] _ _ _;rcases h with⟨i,rfl,rfl⟩|⟨x,rfl,rfl⟩
 .refine Ba (Ib (KC (AF rfl ⟨true,JW _ _,_,rfl,UN ?_⟩)));exact jZ (KC (AF rfl ⟨false,ZBJ _,_,rfl,rfl⟩))
 .refine Ba (Ib (KC (AF rfl ⟨false,rfl,false,rfl,BG (by decide) rfl⟩)))
def gY:Ay ["found","entry"] ["found"] (AS LJ):=by walk_at "z1"
def tP:=Sc [(".0",.local),("part",.local),("isinstance",.globalImplicit),("list",.globalImplicit)]
def xr:CV ["found","entry"] (AS LJ) tP "part" [] []:=by walk_at "z2"
def yQ:=Sc [(".0",.local),("part",.local),("_law_whole",.globalImplicit),("isinstance",.globalImplicit),("str",.globalImplicit)]
def lZ:CV ["found","entry"] (AS LJ) yQ "part" [] []:=by walk_at "z2"
def pb:=Sc [(".0",.local),("name",.local),("isinstance",.globalImplicit),("str",.globalImplicit)]
def q8:CV ["found","entry"] (AS LJ) pb "name" [] []:=by walk_at "z2"
def dr : ∀ss R,(Vs K) ss R->ss.length=1:=by rintro _ _⟨c,es,a,b,rfl,_,_,rfl⟩;rfl
def qH(F:AH K "_law_formed_trial" "_law_formed_trial" LJ f fd)(m:mg "_law_formed_trial"=some (.ref f)):
  A7 P w K mg Zf "_law_formed_trial" 2 ["found"] (Ah (Vs K)):=by
 refine A7.mk F (F.binds (by walk_at "bD1")) m (F.BI (k:=1) gY (λvs H Q E h=>Fz.Bq dr h) (λAQ A outer s H vs Q E q h=>?_))
 refine⟨_,(AA rfl (Ak (Ez (DM (FP (BA gW Gp (A0 (qv 0) (A0 (K4 "tuple" CQ) A3))))) (Ez (Ab GG (BA D0 Aw (A0 (qv 0) A3)) A4) (Ho (DM (FP (BA (M3 rfl) FF (A0 (E2 rfl xr (DW (qv 0)) (λ_ _ _ _=>by exact IG) (λ_ _ _ _=>by exact(BA (show Cc _ (.builtin "isinstance") (LH K)from ML) Gp (A0 (qv 0) (A0 (K4 "list" Ce) A3))))) A3))))))).pt (A9 rfl (AR G3)) Ar)
   (AA rfl (CS (LS Mj rfl (DW (A6 A8 (qv 0) A4)) (DF 1 gY.nd) (A9 rfl (Ak (Ez (DM (FP (BA gW Gp (A0 (qv 1) (A0 (K4 "tuple" CQ) A3))))) (Ho (DM (FP (BA (M3 rfl) FF (A0 (E2 rfl lZ (DW (qv 1)) (λ_ _ _ _=>by exact IG) (λ_ _ _ _=>by exact(Nn (Ac Xx q (A0 (qv 0) A3)) (ED (BA (show Cc _ (.builtin "isinstance") (LH K)from ML) Gp (A0 (qv 0) (A0 (K4 "str" Pm) A3))))))) A3)))))).pt (A9 rfl (AR G3)) Ar))))
   (A9 rfl (AR (BA (M3 rfl) FF (A0 (E2 rfl q8 (DW (B3 EH (A6 A8 (qv 0) A4) (A6 A8 (qv 0) A4))) (λ_ _ _ _=>by exact IG) (λ_ _ _ _=>by exact(Nn (Ck Ss (qv 0) FO) (ED (BA (show Cc _ (.builtin "isinstance") (LH K)from ML) Gp (A0 (qv 0) (A0 (K4 "str" Pm) A3))))))) A3)))))),?_⟩
 refine Fz.Bo h dr ?_;rintro _ _⟨c,es,a,b,rfl,l,r,rfl⟩;show Ws [.is (Gq c es a b),.any] _ _ _;unfold Gq;refine B2 (CM (HU (D2 (Dn (XU (AF rfl (.inl ⟨true,JW _ _,true,rfl,DK ?_⟩)))))))
 walk_at "ww"
 refine BG (by simp[alike]) ?_;refine D2 (Dn (Om rfl (FG (LK (λ_=>true) (λ_=>.bl true) ?_))))
 walk_at "ww"
 refine⟨by simp,λx _=>IU rfl,λx hx _=>?_,rfl,[true,true,true],rfl,true,rfl,DK (An ?_)⟩
 .simp only[Cj,Bb,ZA1]at hx;rcases hx with rfl|rfl|rfl <;> exact KC (AF rfl ⟨true,JW _ _,rfl⟩)
 refine B2 (GN (Qi (λ_ _ AV=>∃s1:Slot,AV=[.is (PV.tup [PV.lst (es.map (C8 (some c))),PV.lst (a.map BL),PV.lst (b.map BL)]),s1]) ?_))
 walk_at "ww"
 refine⟨⟨_,rfl⟩,?_,?_⟩
 .rintro i p AV n⟨s1,rfl⟩;rw[Bt]at n;obtain⟨e,u,rfl⟩:=Option.map_eq_some_iff.mp n;refine RW ?_;refine CM (HU (D2 (Dn ?_)));cases e with
  |AZ=>
   refine XU (AF rfl (.inr ⟨c,[.str "step"],true,rfl,l c rfl,JW _ _,true,rfl,DK ?_⟩));obtain⟨bs,j,g⟩:=all_true (xs:=[PV.str "step"]);refine D2 (Dn (Om rfl (FG (LK (λ_=>true) (λ_=>.bl true) (ZEp (AF rfl ⟨_,_,rfl,l c rfl,by simp,λx _=>IU rfl,λx hx _=>?_,rfl,bs,j,_,rfl,?_⟩))))))
   .rw[List.mem_singleton.mp hx];refine Mc (wp_call (AL (AF rfl (Al ⟨_,⟨_,false,rfl,.inr ⟨_,rfl,rfl⟩,rfl⟩,?_⟩))));rintro _ rfl;exact⟨_,rfl,BG (by decide) (KC (AF rfl ⟨true,JW _ _,rfl⟩))⟩
   .rw[g];exact DK (An ⟨_,rfl⟩)
  |Am d=>
   obtain⟨xs,ex,Xb,Ro⟩:=uB d;rw[show C8 (some c) (.Am d)=.tup xs from ex];refine XU (AF rfl (.inl ⟨true,JW _ _,true,rfl,DK ?_⟩));obtain⟨bs,j,g⟩:=all_true (xs:=xs);refine D2 (Dn (Om rfl (FG (LK (λ_=>true) (λ_=>.bl true) (Wd (Nj (AF rfl ⟨_,.inr ⟨rfl,by omega,λx _=>IU rfl,λx hx _=>?_,rfl,bs,j,_,rfl,?_⟩⟩)))))))
   .rcases Ro x hx with⟨i,rfl⟩|⟨t,rfl⟩
    .refine Mc (wp_call (AL (AF rfl (Al ⟨_,⟨_,true,rfl,.inl ⟨_,rfl,rfl⟩,rfl⟩,?_⟩))));rintro _ rfl;exact⟨_,rfl,BR rfl rfl⟩
    .refine Mc (wp_call (AL (AF rfl (Al ⟨_,⟨_,false,rfl,.inr ⟨_,rfl,rfl⟩,rfl⟩,?_⟩))));rintro _ rfl;exact⟨_,rfl,BG (by decide) (KC (AF rfl ⟨true,JW _ _,rfl⟩))⟩
   .rw[g];exact DK (An ⟨_,rfl⟩)
 .rintro AV⟨s1,rfl⟩
  walk_at "ww"
  refine FG (LK (λ_=>true) (λ_=>.bl true) ?_)
  walk_at "ww"
  obtain⟨bs,j,g⟩:=all_true (xs:=a.map BL++b.map BL);refine⟨by rw[Ae,Ae];omega,_,.inl ⟨rfl,by rw[Bi,Ae,Ae];omega,λx _=>IU rfl,λx hx _=>?_,rfl,bs,j,by rw[g]⟩⟩;obtain⟨o,rfl⟩:∃o,x=BL o:=by
   rcases List.mem_append.mp hx with h|h
   .obtain⟨o,_,rfl⟩:=List.mem_map.mp h;exact⟨o,rfl⟩
   .obtain⟨o,_,rfl⟩:=List.mem_map.mp h;exact⟨o,rfl⟩
  refine Mc (Pj (AF rfl (En ⟨rfl,_,rfl,?_⟩)));cases o with
  |none=>exact BR rfl rfl
  |some t=>exact BG (by simp[BL,JZ]) (KC (AF rfl ⟨true,JW _ _,rfl⟩))
def MX:Ay ["row","loop","rule","gap","coming","found","left"] ["row","loop"] (AS Mm):=by walk_at "z1"
def ZCV:=Sc [(".0",.local),("name",.local),("coming",.free)]
def uG:CV ["row","loop","rule","gap","coming","found","left"] (AS Mm) ZCV "name" ["coming"] [4]:=by walk_at "z2"
def oq:=Sc [(".0",.local),("name",.local),("found",.free)]
def pO:CV ["row","loop","rule","gap","coming","found","left"] (AS Mm) oq "name" ["found"] [5]:=by walk_at "z2"
def xH(F:AH K "_law_step" "_law_step" Mm f fd)(m:mg "_law_step"=some (.ref f)):
  A7 P w K mg Zf "_law_step" 1 ["row","loop"] (X8):=by
 refine A7.mk F (F.binds (by walk_at "bD2")) m (F.BI (k:=0) MX (λvs H Q E h=>?_) (λAQ A outer s H vs Q E hr h=>?_))
 .obtain⟨a,ns,t,r,g,ss,rfl,l,⟨c,O,C⟩,Gh,hz,q⟩:=h;rfl
 obtain⟨a,ns,t,r,g,ss,rfl,l,⟨c,O,C⟩,Gh,hz,q⟩:=h;refine⟨_,(AA rfl (Je (qv 1) (LM rfl (Eu (DF 2 MX.nd) (Eu (DF 3 MX.nd) (Eu (DF 4 MX.nd) MP)))))
   (AA rfl (Ao 5 MX.nd (E2 rfl uG (DW (B3 EH (DE HQ (qv 0) (Cy (qv 3)) Dh) (DE HQ (qv 0) Dh (Cy (qv 3))))) (λ_ _ _ _=>by exact(HV (Ab (show BD _ (compareOp .In) (HW K false)from Hm) (qv 1) (qv 0)))) (λ_ _ _ _=>by exact(qv 1))))
   (AA rfl (Ak (Ab (VH hr.HJ) (qv 5) (DL A3)) (A9 rfl (AR (BB (A0 FO (A0 (qv 1) A3))))) Ar)
   (AA rfl (Ao 6 MX.nd (D3 JR CQ (A0 (E2 rfl pO (DW (qv 4)) (λ_ _ _ _=>by exact(HV (Ab GG (qv 1) (A6 (show Gs _ (NW K)from CL) (qv 0) A4)))) (λ_ _ _ _=>by exact(qv 1))) A3)))
   (A9 rfl (AR (BB (A0 (A6 CL (qv 5) A4) (A0 (BB (A0 (qv 2) (A0 (B3 ET (FQ Ft Z8 kb Wr (qv 0) (A0 (A6 CL (qv 5) A4) A3)) A4) (A0 (qv 6) A3)))) A3))))))))),?_⟩
 have hl:=Fw ns;have nJ:=Fw ss;refine⟨_,rfl,t,_,rfl,AN.of O,rfl,_,_,rfl,_,_,rfl,_,_,rfl,rfl,?_⟩;refine⟨_,rfl,_,rfl,_,rfl,a,_,rfl,AO.of l,λl1 Fm=>?_⟩;have L:=B8 Fm (.lst (CN (ns.map V.str) (some (g:Int)) none));refine⟨_,rfl,_,rfl,_,rfl,a,_,rfl,AO.of (L _ _ l),λl2 CY=>?_⟩;have J:=B8 CY (.lst (CN (ns.map V.str) none (some (g:Int))));have X:=J _ _ (AU (H:=H) (a:=l1) (o:=.lst (CN (ns.map V.str) (some (g:Int)) none)));have W:=AU (H:=upd H l1 (.lst (CN (ns.map V.str) (some (g:Int)) none))) (a:=l2) (o:=.lst (CN (ns.map V.str) none (some (g:Int))));have k2:=L.trans J;generalize upd (upd H l1 (.lst (CN (ns.map V.str) (some (g:Int)) none))) l2 (.lst (CN (ns.map V.str) none (some (g:Int))))=H2 at *;rw[jf]at X;rw[dD]at W;refine⟨l1,l2,_,_,rfl,rfl,X,W,small (by rw[D5,Bu];omega),λB m8=>?_⟩;have n3:=B8 m8 (.lst ((ns.map V.str).drop g++(ns.map V.str).take g));have k3:=k2.trans n3;have R:DH K false (upd H2 B (.lst ((ns.map V.str).drop g++(ns.map V.str).take g))) B ((ns.drop g++ns.take g).map V.str):=AO.of (by rw[AU,D6,Mg,LA]);refine⟨false,B,_,rfl,R,λacc B5=>L6 (λv=>Fi v (ss.map V.str)) (λv=>v) R B5 (small (by rw[Fw,Bi,D5,Bu];omega)) (λi v H' Q' j s4 h=>?_) (λi v H' Q' j _ s4 h=>?_) (λH4 s4 U=>?_)⟩
 .obtain⟨x,rfl,_⟩:=Ki j;exact⟨_,rfl,_,rfl,c,_,rfl,.inr (AN.of (s4 _ _ (k3 _ _ C))),rfl,II ss,_,rfl,h _ (AE.refl _)⟩
 .exact⟨_,rfl,h _ (AE.refl _)⟩
 rw[vC,vQ]at U;have k4:=k3.trans s4;refine⟨_,rfl,(by show 0<=sizeLine;decide),λM yE=>?_⟩;have I:=B8 yE (.lst []);have k5:=k4.trans I;have p:=I _ _ U;refine⟨acc,M,_,[],rfl,rfl,.inl ⟨AO.of p,AO.of AU⟩,II _,rfl,_,rfl,?_⟩;show if G7 ((Cg ns g ss).map V.str) []=true then _ else _
 rw[Sr];refine AY (λc1=>?_) (λc1=>?_)
 .have n:Cg ns g ss=[]:=by simpa using c1
  refine⟨_,rfl,(by show 2<=sizeLine;decide),λt' Hw=>?_⟩;exact q t' _ (AE.none k5 Hw) (k5.trans (B8 Hw _)) (.inl ⟨n,AU⟩)
 .obtain⟨x,HP,n⟩:∃x HP,Cg ns g ss=x::HP:=by
   cases h:Cg ns g ss with
   |nil=>rw[h]at c1;simp at c1
   |cons x HP=>exact⟨x,HP,rfl⟩
  have hx:x∈ns/\x∈ss:=J5.mp (by rw[n];exact BZ);rw[n]at p;generalize upd H4 M (.lst [])=H5 at *;have N:DH K true H5 c (ss.map V.str):=AN.of (k5 _ _ C);refine⟨_,rfl,true,c,_,rfl,N,λZAB ZDm=>L6 (Hi (.str x)) (λv=>v) N ZDm (by rw[nJ];exact small (by omega)) (λi v H' Q' j b h=>?_) (λi v H' Q' j _ b h=>?_) (λH6 b T=>?_)⟩
  .obtain⟨y,rfl,_⟩:=Ki j;exact⟨_,rfl,_,rfl,acc,_,_,_,rfl,rfl,AO.of (b _ _ p),Th,rfl,_,rfl,h _ (AE.refl _)⟩
  .exact⟨_,rfl,h _ (AE.refl _)⟩
  rw[Nh]at T;refine⟨ZAB,_,rfl,.inl ⟨AO.of T,λd σ=>?_⟩⟩;have G:=B8 σ (.tup ((wo ss x).map V.str));have e:=k5.trans (b.trans G);have f7:H d=none:=AE.none (k5.trans b) σ;have S:=G _ _ (b _ _ p);have u7:=AU (H:=H6) (a:=d) (o:=.tup ((wo ss x).map V.str));generalize upd H6 d (.tup ((wo ss x).map V.str))=H7 at *;refine⟨_,rfl,acc,_,_,_,rfl,rfl,AO.of S,Th,_,rfl,_,rfl,.inl ⟨rfl,_,AO.of (e _ _ l)⟩,_,rfl,acc,_,_,_,rfl,rfl,AO.of S,Th,a,ns,x,rfl,rfl,AO.of (e _ _ l),hx.1,_,_,rfl,rfl,_,rfl,?_⟩;refine⟨(by show 3<=sizeLine;decide),λD Za=>?_⟩;have z:=B8 Za (.tup [.str r,.int ((ns.idxOf x:Nat)+1),.ref d]);refine⟨(by show 2<=sizeLine;decide),λt9 Y=>?_⟩;have u:=B8 Y (.tup [.str x,.ref D]);exact q t9 _ (AE.none (e.trans z) Y) (e.trans (z.trans u)) (.inr ⟨x,HP,D,d,n,AE.none e Za,f7,AU,u _ _ AU,u _ _ (z _ _ u7)⟩)
def X1:Ay ["row","gap","deed"] ["row","gap","deed"] (AS TU):=by walk_at "z1"
def ZA0(F:AH K "_law_gap" "_law_gap" TU f fd)(m:mg "_law_gap"=some (.ref f)):
  A7 P w K mg Zf "_law_gap" 1 ["row","gap","deed"] (fA):=by
 refine A7.mk F (F.binds (by walk_at "bD3")) m (F.BI (k:=0) X1 (λvs H Q E h=>?_) (λAQ A outer s H vs Q E u h=>?_))
 .obtain⟨a,t,ns,g,d,rfl,n,e,ok,q⟩:=h;rfl
 obtain⟨a,t,ns,g,d,rfl,n,e,ok,q⟩:=h;refine⟨_,(AA rfl (CS (Ak (Ab Hm (A6 A8 (qv 2) A4) (BB (A0 B1 (A0 B1 A3)))) (A9 rfl (Ao 1 X1.nd (B3 Uq (qv 1) (D3 jQ Ju (A0 (Ck Hy (FQ Ft Z8 kb Wr (qv 0) (A0 (A6 A8 (qv 2) A4) A3)) (qv 1)) A3))))) Ar))
   (AA rfl (CS (Ak (Ab Hm (A6 A8 (qv 2) A4) (BB (A0 B1 (A0 B1 A3)))) (A9 rfl (Ao 1 X1.nd (B3 ET (qv 1) (D3 jQ Ju (A0 (Ck Hy (A6 A8 (qv 2) A4) (qv 1)) A3))))) Ar))
   (A9 rfl (AR (qv 1))))),?_⟩
 refine⟨λσ' H'=>σ'=[some (.ref a),some (.int (d.OK ns g:Nat)),some (.ref t)]/\AE H H',?_,?_⟩
 .refine⟨_,rfl,t,_,_,_,rfl,rfl,AN.of e,Q4 d,(by show 2<=sizeLine;decide),λt1 QV=>?_⟩;have b:=B8 QV (.tup [.str "take",.str "move"]);refine⟨t1,_,rfl,.inr (AN.of AU),rfl,rfl,_,rfl,?_⟩;show if Fi (.str d.kind) [.str "take",.str "move"]=true then _ else _
  refine AY (λc=>?_) (λc=>?_)
  .obtain⟨x,Nx,Tn,p⟩:=uS g ok c;refine⟨_,rfl,_,rfl,.inl ⟨rfl,_,AO.of (b _ _ n)⟩,_,rfl,t,_,_,_,rfl,rfl,AN.of (b _ _ e),Nx,a,ns,x,rfl,rfl,AO.of (b _ _ n),Tn,_,rfl,_,_,rfl,rfl,.inr ⟨_,rfl,_,_,rfl,rfl,?_,b⟩⟩;rw[p,<- xR];rfl
  .refine⟨?_,b⟩;rw[tW g c];rfl
 rintro σ' H1⟨rfl,s1⟩;have o:=s1 _ _ e;refine⟨λσ' H'=>σ'=[some (.ref a),some (.int (d.gap ns g:Nat)),some (.ref t)]/\AE H H',?_,?_⟩
 .refine⟨_,rfl,t,_,_,_,rfl,rfl,AN.of o,Q4 d,(by show 2<=sizeLine;decide),λt2 r=>?_⟩;have j:=B8 r (.tup [.str "put",.str "move"]);refine⟨t2,_,rfl,.inr (AN.of AU),rfl,rfl,_,rfl,?_⟩;show if Fi (.str d.kind) [.str "put",.str "move"]=true then _ else _
  refine AY (λc=>?_) (λc=>?_)
  .obtain⟨i,l,Fx⟩:=ZAs (ns:=ns) g c;refine⟨_,rfl,_,rfl,t,_,_,_,rfl,rfl,AN.of (j _ _ o),l,_,rfl,_,_,rfl,rfl,.inr ⟨_,rfl,_,_,rfl,rfl,?_,s1.trans j⟩⟩;rw[Fx,<- ZEn];rfl
  .refine⟨?_,s1.trans j⟩;rw[ZD9 g c]
 rintro σ' H2⟨rfl,s2⟩;exact⟨_,rfl,q _ s2⟩
def MR:Ay ["row","loop","deed","rule","gap","coming"] ["row","loop","deed"] (AS P9):=by walk_at "z1"
def rE:=Sc [(".0",.local),("name",.local),("deed",.free)]
def ZCU:CV ["row","loop","deed","rule","gap","coming"] (AS P9) rE "name" ["deed"] [2]:=by walk_at "z2"
def ZCg(F:AH K "_law_led" "_law_led" P9 f fd)(m:mg "_law_led"=some (.ref f)):
  A7 P w K mg Zf "_law_led" 2 ["row","loop","deed"] (Sd):=by
 refine A7.mk F (F.binds (by walk_at "bD3")) m (F.BI (k:=1) MR (λvs H Q E h=>?_) (λAQ A outer s H vs Q E hr h=>?_))
 .obtain⟨a,tl,t,c,ns,r,g,ss,d,rfl,Y,⟨σ,I⟩,e,ok,gd,hz,q⟩:=h;rfl
 obtain⟨a,tl,t,c,ns,r,g,ss,d,rfl,Y,⟨σ,I⟩,e,ok,gd,hz,q⟩:=h;refine⟨_,(AA rfl (Je (qv 1) (LM rfl (Eu (DF 3 MR.nd) (Eu (DF 4 MR.nd) (Eu (DF 5 MR.nd) MP)))))
   (AA rfl (CS (Ak (Ab Bh (A6 A8 (qv 2) A4) B1) (A9 rfl (Ao 5 MR.nd (D3 JR CQ (A0 (E2 rfl ZCU (DW (qv 5)) (λ_ _ _ _=>by exact(HV (Ab GG (qv 1) (A6 (show Gs _ (LV K)from A8) (qv 0) A4)))) (λ_ _ _ _=>by exact(qv 1))) A3)))) Ar))
   (AA rfl (CS (Ak (K2 (Ab Bh (A6 A8 (qv 2) A4) B1) (KW (Ez (Ab Bh (qv 3) B1) (Ho (K2 (Ab Bh (qv 3) B1) (KW (Ab NX (A6 A8 (qv 2) A4) (qv 4)))).pt)).pt)).pt (A9 rfl (Ao 5 MR.nd (D3 JR CQ (A0 (BA RT Dc (A0 (B3 eA (qv 5) (BB (A0 (A6 A8 (qv 2) A4) A3))) A3)) A3)))) Ar))
   (A9 rfl (AR (BB (A0 (qv 3) (A0 (Ac V0 hr (A0 (qv 0) (A0 (qv 4) (A0 (qv 2) A3)))) (A0 (qv 5) A3))))))))),?_⟩
 have X:=gd.len;refine⟨_,rfl,tl,_,rfl,AN.of σ,rfl,_,_,rfl,_,_,rfl,_,_,rfl,rfl,?_⟩;refine⟨λσ' H'=>∃b:Addr,σ'=[some (.ref a),some (.ref tl),some (.ref t),some (.str r),some (.int g),some (.ref b)]/\AE H H'/\(H b=none∨b=c)/\H' b=some (.tup ((d.Pe ss).map V.str)),?_,?_⟩
 .refine⟨_,rfl,t,_,_,_,rfl,rfl,AN.of e,Q4 d,rfl,_,rfl,?_⟩;refine AY (λj=>?_) (λj=>⟨c,rfl,AE.refl _,.inr rfl,by rw[pW j];exact I⟩);obtain⟨x,Nx,Tn⟩:=mV (r:=r) (g:=g) (ss:=ss) j;have ZX:DH K true H c (ss.map V.str):=AN.of I;refine⟨_,rfl,true,c,_,rfl,ZX,λacc B5=>L6 (Hi (.str x)) (λv=>v) ZX B5 (by rw[Fw];exact small (by omega)) (λi v H' Q' W s4 h=>?_) (λi v H' Q' W _ s4 h=>?_) (λH4 s4 e4=>?_)⟩
  .obtain⟨y,rfl,_⟩:=Ki W;exact⟨_,rfl,_,rfl,t,_,_,_,rfl,rfl,AN.of (s4 _ _ e),Nx,rfl,_,rfl,h _ (AE.refl _)⟩
  .exact⟨_,rfl,h _ (AE.refl _)⟩
  rw[Nh,<- Tn]at e4;exact⟨acc,_,rfl,.inl ⟨AO.of e4,λt5 U=>⟨t5,rfl,s4.trans (B8 U _),.inl (AE.none s4 U),AU⟩⟩⟩
 rintro σ' H1⟨c1,rfl,s1,f1,o⟩;refine⟨λσ' H'=>∃b:Addr,σ'=[some (.ref a),some (.ref tl),some (.ref t),some (.str r),some (.int g),some (.ref b)]/\AE H H'/\(H b=none∨b=c)/\H' b=some (.tup ((d.HZ r g ss).map V.str)),?_,?_⟩
 .refine⟨_,rfl,t,_,_,_,rfl,rfl,AN.of (s1 _ _ e),Q4 d,rfl,_,rfl,?_⟩;refine AY (λN=>?_) (λN=>DK ⟨c1,rfl,s1,f1,by rw[mY N];exact o⟩);obtain⟨x,i,rfl⟩:=tV N;replace o:H1 c1=some (.tup (ss.map V.str)):=o;refine⟨_,rfl,rfl,_,rfl,?_⟩;refine AY (λj=>?_) (λj=>?_)
  .have n:Bp r g i=true:=by unfold Bp;rw[o9 j]
   refine UN ?_;refine⟨_,rfl,_,rfl,t,_,_,_,rfl,rfl,AN.of (s1 _ _ e),rfl,(by show 1<=sizeLine;decide),λB U3=>?_⟩;have l:=B8 U3 (.tup [.str x]);refine⟨c1,B,_,_,rfl,rfl,AN.of (l _ _ o),AN.of AU,by simp,small (by rw[Fw];simp;omega),λu H7 p J=>?_⟩;have R:AN K H7 u ((ss++[x]).map V.str):=by rw[D6];exact J
   refine⟨u,true,ss++[x],rfl,R,by rw[Bi];simp;omega,λC ts Vb G D=>?_⟩;have z:=B8 Vb (.lst (ts.map V.str));refine⟨C,_,rfl,.inl ⟨AO.of AU,λO O3=>?_⟩⟩;exact⟨O,rfl,s1.trans (l.trans (p.trans (z.trans (B8 O3 _)))),.inl (AE.none (s1.trans (l.trans (p.trans z))) O3),by rw[AU,Xs G D gd.up (Xe gd ok x i rfl),WX n]⟩
  .refine⟨_,rfl,rfl,_,rfl,?_⟩;refine AY (λM=>?_) (λM=>?_)
   .refine⟨_,rfl,t,_,_,_,rfl,rfl,AN.of (s1 _ _ e),rfl,_,rfl,_,_,rfl,rfl,_,rfl,?_⟩;have M4:Bp r g i=decide ((g:Int)<=(i:Int)):=by unfold Bp;rw[mL j,o9 M]
    refine AY (λL=>?_) (λL=>?_)
    .have n:Bp r g i=true:=M4.trans L;refine⟨_,rfl,_,rfl,t,_,_,_,rfl,rfl,AN.of (s1 _ _ e),rfl,(by show 1<=sizeLine;decide),λB U3=>?_⟩;have l:=B8 U3 (.tup [.str x]);refine⟨c1,B,_,_,rfl,rfl,AN.of (l _ _ o),AN.of AU,by simp,small (by rw[Fw];simp;omega),λu H7 p J=>?_⟩;have R:AN K H7 u ((ss++[x]).map V.str):=by rw[D6];exact J
     refine⟨u,true,ss++[x],rfl,R,by rw[Bi];simp;omega,λC ts Vb G D=>?_⟩;have z:=B8 Vb (.lst (ts.map V.str));refine⟨C,_,rfl,.inl ⟨AO.of AU,λO O3=>?_⟩⟩;exact⟨O,rfl,s1.trans (l.trans (p.trans (z.trans (B8 O3 _)))),.inl (AE.none (s1.trans (l.trans (p.trans z))) O3),by rw[AU,Xs G D gd.up (Xe gd ok x i rfl),WX n]⟩
    .have n:Bp r g i=false:=M4.trans (Bool.eq_false_iff.mpr L);exact⟨c1,rfl,s1,f1,by rw[UR n];exact o⟩
   .have n:Bp r g i=false:=by unfold Bp;rw[mL j,mL M]
    exact DK ⟨c1,rfl,s1,f1,by rw[UR n];exact o⟩
 rintro σ' H2⟨c2,rfl,s2,f2,e2⟩;refine⟨_,rfl,_,rfl,_,rfl,_,rfl,a,t,ns,g,d,rfl,s2 _ _ Y,s2 _ _ e,ok,λH3 S=>?_⟩;refine⟨_,rfl,(by show 3<=sizeLine;decide),λt4 ah=>?_⟩;have k3:=s2.trans S;have T:=B8 ah (.tup [.str r,.int (d.gap ns g:Nat),.ref c2]);exact q t4 c2 _ (AE.none k3 ah) f2 (k3.trans T) ⟨AU,T _ _ (S _ _ e2)⟩
def Oy:Ay ["row","deed","made","low","high"] ["row","deed"] (AS Q7):=by walk_at "z1"
def r8:=Sc [(".0",.local),("name",.local),("deed",.free)]
def ZDS:CV ["row","deed","made","low","high"] (AS Q7) r8 "name" ["deed"] [1]:=by walk_at "z2"
def uM(F:AH K "_law_done" "_law_done" Q7 f fd)(m:mg "_law_done"=some (.ref f)):
  A7 P w K mg Zf "_law_done" 1 ["row","deed"] (YL):=by
 refine A7.mk F (F.binds (by walk_at "bD2")) m (F.BI (k:=0) Oy (λvs H Q E h=>?_) (λAQ A outer s H vs Q E hr h=>?_))
 .obtain⟨a,t,ns,d,rfl,r,g,hd,z,nd,q⟩:=h;rfl
 obtain⟨a,t,ns,d,rfl,r,g,hd,z,nd,q⟩:=h;refine⟨_,(AA rfl (cH (i:=2) Oy.nd rfl (Or.inl rfl) rfl ZDS (DW (qv 0)) (λ_ _ _ _=>by exact(HV (Ab GG (qv 1) (A6 (show Gs _ (LV K)from A8) (qv 0) A4)))) (λ_ _ _ _=>by exact(qv 1)))
   (AA rfl (Ak (Ab Bh (A6 A8 (qv 1) A4) B1) (AA rfl (Je (DE dk (qv 1) (Cy A4) Dh) (LM rfl (Eu (DF 3 Oy.nd) (Eu (DF 4 Oy.nd) MP))))
   (A9 rfl (AR (B3 EH (B3 EH (DE HQ (qv 0) Dh (Cy (qv 3))) (jA rfl rfl Ce rfl Lg (A0 (DE HQ (qv 0) (Cy (qv 3)) (Cy (qv 4))) A3))) (DE HQ (qv 0) (Cy (qv 4)) Dh))))) Ar)
   (AA rfl (CS (Ak (Ab GG (A6 A8 (qv 1) A4) B1) (A9 rfl (D1 (FQ Ft ZFT PySem.F.type_list_insert yD (qv 2) (A0 (A6 A8 (qv 1) A4) (A0 (A6 A8 (qv 1) A4) A3))))) Ar))
   (A9 rfl (AR (qv 2)))))),?_⟩
 have o:=Fw ns;have C:∀n:Nat,n<=2001->n<=sizeLine:=λn h=>Bz h (by decide +kernel);have l:DH K false H a (ns.map V.str):=AO.of r;cases d with
 |put x i=>
  obtain⟨h1,h2,h3,h4⟩:=hd;have u:(wo ns x).length<=ns.length:=GX _ _;refine⟨_,rfl,false,a,_,rfl,l,λacc B5=>L6 (Hi (.str x)) (λv=>v) l B5 (by rw[o];exact small (by omega)) (λi v H' Q' e s1 h=>?_) (λi v H' Q' e _ s1 h=>?_) (λH' s1 c=>?_)⟩
  .obtain⟨y,rfl,B⟩:=Ki e;exact⟨_,rfl,_,rfl,t,_,_,_,rfl,rfl,AN.of (s1 _ _ g),rfl,rfl,_,rfl,h H' (AE.refl _)⟩
  .exact⟨_,rfl,h H' (AE.refl _)⟩
  have b:=s1 _ _ g;rw[Nh]at c;refine⟨_,rfl,t,_,_,_,rfl,rfl,AN.of b,rfl,rfl,_,rfl,BG (by decide +kernel) ?_⟩;refine⟨λσ' H'=>σ'=[some (.ref a),some (.ref t),some (.ref acc),none,none]/\AE H H'/\H' acc=some (.lst ((ins (wo ns x) x i).map V.str)),?_,?_⟩
  .refine⟨_,rfl,t,_,_,_,rfl,rfl,AN.of b,rfl,rfl,_,rfl,YI (by decide +kernel) ?_⟩;refine⟨_,rfl,.inl ⟨rfl,_,AO.of c⟩,_,rfl,t,_,_,_,rfl,rfl,AN.of b,rfl,_,rfl,t,_,_,_,rfl,rfl,AN.of b,rfl,acc,_,_,_,rfl,rfl,c,by omega,by rw[Fw];rw[M0 h2];omega,by rw[Fw];exact FR u (FR z (by decide +kernel)),?_⟩;refine⟨rfl,cw s1 B5,?_⟩;rw[AU];unfold ins;simp only[D6,LA,ES,Mg,S6]
  .rintro σ' H2⟨rfl,s2,j⟩;exact⟨_,rfl,q acc H2 B5 s2 (by rw[M0 h2]at j;exact j)⟩
 |take x=>
  have u:(wo ns x).length<=ns.length:=GX _ _;refine⟨_,rfl,false,a,_,rfl,l,λacc B5=>L6 (Hi (.str x)) (λv=>v) l B5 (by rw[o];exact small (by omega)) (λi v H' Q' e s1 h=>?_) (λi v H' Q' e _ s1 h=>?_) (λH' s1 c=>?_)⟩
  .obtain⟨y,rfl,B⟩:=Ki e;exact⟨_,rfl,_,rfl,t,_,_,_,rfl,rfl,AN.of (s1 _ _ g),rfl,rfl,_,rfl,h H' (AE.refl _)⟩
  .exact⟨_,rfl,h H' (AE.refl _)⟩
  have b:=s1 _ _ g;rw[Nh]at c;refine⟨_,rfl,t,_,_,_,rfl,rfl,AN.of b,rfl,rfl,_,rfl,BG (by decide +kernel) ?_⟩;refine⟨λσ' H'=>σ'=[some (.ref a),some (.ref t),some (.ref acc),none,none]/\AE H H'/\H' acc=some (.lst ((wo ns x).map V.str)),?_,?_⟩
  .refine⟨_,rfl,t,_,_,_,rfl,rfl,AN.of b,rfl,rfl,_,rfl,BG (by decide +kernel) ?_⟩;exact⟨rfl,s1,c⟩
  .rintro σ' H2⟨rfl,s2,j⟩;exact⟨_,rfl,q acc H2 B5 s2 j⟩
 |move x i=>
  obtain⟨h1,h2⟩:=hd;have u:(wo ns x).length<=ns.length:=GX _ _;have ZGV:=Nl h1 nd;refine⟨_,rfl,false,a,_,rfl,l,λacc B5=>L6 (Hi (.str x)) (λv=>v) l B5 (by rw[o];exact small (by omega)) (λi v H' Q' e s1 h=>?_) (λi v H' Q' e _ s1 h=>?_) (λH' s1 c=>?_)⟩
  .obtain⟨y,rfl,B⟩:=Ki e;exact⟨_,rfl,_,rfl,t,_,_,_,rfl,rfl,AN.of (s1 _ _ g),rfl,rfl,_,rfl,h H' (AE.refl _)⟩
  .exact⟨_,rfl,h H' (AE.refl _)⟩
  have b:=s1 _ _ g;rw[Nh]at c;refine⟨_,rfl,t,_,_,_,rfl,rfl,AN.of b,rfl,rfl,_,rfl,BG (by decide +kernel) ?_⟩;refine⟨λσ' H'=>σ'=[some (.ref a),some (.ref t),some (.ref acc),none,none]/\AE H H'/\H' acc=some (.lst ((ins (wo ns x) x i).map V.str)),?_,?_⟩
  .refine⟨_,rfl,t,_,_,_,rfl,rfl,AN.of b,rfl,rfl,_,rfl,YI (by decide +kernel) ?_⟩;refine⟨_,rfl,.inl ⟨rfl,_,AO.of c⟩,_,rfl,t,_,_,_,rfl,rfl,AN.of b,rfl,_,rfl,t,_,_,_,rfl,rfl,AN.of b,rfl,acc,_,_,_,rfl,rfl,c,by omega,by rw[Fw];omega,by rw[Fw];exact FR u (FR z (by decide +kernel)),?_⟩;refine⟨rfl,cw s1 B5,?_⟩;rw[AU];unfold ins;simp only[D6,LA,ES,Mg,S6]
  .rintro σ' H2⟨rfl,s2,j⟩;exact⟨_,rfl,q acc H2 B5 s2 j⟩
 |turn lo hi=>
  obtain⟨h1,h2⟩:=hd;refine⟨_,rfl,false,a,_,rfl,l,λacc B5=>L6 (Hi (.int lo)) (λv=>v) l B5 (by rw[o];exact small (by omega)) (λi v H' Q' e s1 h=>?_) (λi v H' Q' e _ s1 h=>?_) (λH' s1 c=>?_)⟩
  .obtain⟨y,rfl,B⟩:=Ki e;exact⟨_,rfl,_,rfl,t,_,_,_,rfl,rfl,AN.of (s1 _ _ g),rfl,rfl,_,rfl,h H' (AE.refl _)⟩
  .exact⟨_,rfl,h H' (AE.refl _)⟩
  have b:=s1 _ _ g;rw[ZD0]at c;refine⟨_,rfl,t,_,_,_,rfl,rfl,AN.of b,rfl,rfl,_,rfl,YI (by decide +kernel) ?_⟩;refine⟨_,rfl,_,rfl,t,_,rfl,AN.of b,(λh=>absurd h.1 (show ¬ HT.Ax 3 0 (some 1)=0 by decide)),λp n=>?_⟩;have Y:=B8 n (.tup (CN (Ag.turn lo hi).vals (some 1) none));refine⟨p,_,rfl,AN.of AU,rfl,_,_,rfl,_,_,rfl,rfl,?_⟩;have s2:=s1.trans Y;have j:=s2 _ _ r;refine⟨_,rfl,_,rfl,_,rfl,a,_,rfl,AO.of j,λl3 X=>?_⟩;rw[dD];have R:=B8 X (.lst ((ns.map V.str).take lo));have M:=s2.trans R;refine⟨_,rfl,_,rfl,_,rfl,_,rfl,_,rfl,a,_,rfl,AO.of (M _ _ r),λl4 W=>?_⟩;rw[ZBH _ h1 (by rw[o];exact h2)];have I:=B8 W (.lst (((ns.map V.str).drop lo).take (hi - lo)));refine⟨l4,false,_,rfl,AO.of AU,λl5 U=>?_⟩;have G:=B8 U (.lst (((ns.map V.str).drop lo).take (hi - lo)).reverse);refine⟨l3,l5,_,_,rfl,rfl,G _ _ (I _ _ AU),AU,C _ (by simp only[Bu,Mf,D5];omega),λl6 T=>?_⟩;have O:=B8 T (.lst ((ns.map V.str).take lo++(((ns.map V.str).drop lo).take (hi - lo)).reverse));have L:=M.trans (I.trans (G.trans O));refine⟨_,rfl,_,rfl,_,rfl,a,_,rfl,AO.of (L _ _ r),λl7 S=>?_⟩;rw[jf];have D:=B8 S (.lst ((ns.map V.str).drop hi));refine⟨l6,l7,_,_,rfl,rfl,D _ _ AU,AU,C _ (by simp only[Bi,Bu,D5,Mf];omega),λσ N=>?_⟩;have J:=L.trans D;refine q σ _ (AE.none J N) (J.trans (B8 N _)) ?_;rw[AU];show some (HO.lst _)=some (HO.lst ((C0 ns lo hi).map V.str));unfold C0;simp only[D6,LA,Mg,ZFB,C3]
def nA:Ay ["text"] ["text"] (AS Pr):=by walk_at "z1"
def xG:=Sc [(".0",.local),("sign",.local)]
def r9:CV ["text"] (AS Pr) xG "sign" [] []:=by walk_at "z2"
def xx(F:AH K "_law_is_name" "_law_is_name" Pr f fd)(m:mg "_law_is_name"=some (.ref f)):
  A7 P w K mg Zf "_law_is_name" 1 ["text"] (NF):=by
 refine A7.mk F (F.binds (by walk_at "bD1")) m (F.BI (k:=0) nA (λvs H Q E h=>?_) (λAQ A outer s H vs Q E d h=>?_))
 .obtain⟨x,rfl,hx,q⟩:=h;rfl
 obtain⟨x,rfl,hx,q⟩:=h;refine⟨_,(A9 rfl (AR (GK (UH Cm Cm A4 (BA T4 Aw (A0 (qv 0) A3)) A4) (ED (BA (M3 rfl) FF (A0 (E2 rfl r9 (Qd (qv 0)) (λ_ _ _ _=>by exact IG) (λ_ _ _ _=>by exact(Ck d6 (qv 0) B1))) A3)))))),?_⟩;refine⟨_,rfl,_,rfl,small (by omega),_,_,rfl,rfl,_,rfl,?_⟩;refine AY (λc=>?_) (λc=>⟨_,rfl,DK ?_⟩)
 .refine⟨_,_,rfl,rfl,_,rfl,?_⟩;refine AY (λc2=>?_) (λc2=>?_)
  .refine⟨_,rfl,x,rfl,λacc B5=>fL (λ_=>true) SY B5 (by rw[<- Dm,<- HD];exact small (by omega)) (λi v H' Q' _ _ h=>h H' (AE.refl _)) (λi v H' Q' b _ _ h=>?_) (λH' s1 a=>?_)⟩
   .obtain⟨g,rfl⟩:=signs_get b;exact⟨_,rfl,_,_,rfl,rfl,h H' (AE.refl _)⟩
   .rw[ia]at a;refine⟨acc,_,rfl,AO.of a,?_⟩;rw[all_map];have e:isNm x=x.cps.toList.all KP:=by unfold isNm;rw[c,c2];rfl
    rw[<- e];exact q H' s1
  .have e:isNm x=false:=by unfold isNm;rw[Bool.eq_false_iff.mpr c2];simp
   rw[<- e];exact q H (AE.refl _)
 .have e:isNm x=false:=by unfold isNm;rw[Bool.eq_false_iff.mpr c];simp
  rw[<- e];exact q H (AE.refl _)
def ZDD:Ay ["row","deed"] ["row","deed"] (AS Xd):=by walk_at "z1"
def gG:∀ss R,(Uz ⟨AI,AJ,AB,AD,AK⟩) ss R->ss.length=2:=by rintro _ _⟨ns,d,rfl,_,rfl⟩;rfl
def p5(F:AH K "_law_due" "_law_due" Xd f fd)(m:mg "_law_due"=some (.ref f)):
  A7 P w K mg Zf "_law_due" 2 ["row","deed"] (Ah (Uz ⟨AI,AJ,AB,AD,AK⟩)):=by
 refine A7.mk F (F.binds (by walk_at "bD2")) m (F.BI (k:=1) ZDD (λvs H Q E h=>Fz.Bq gG h) (λAQ A outer s H vs Q E o h=>?_))
 refine⟨_,(AA rfl (Ak (Ab Bh (A6 A8 (qv 1) A4) B1) (AA rfl (Ak (DM (FP (Ac WI o (A0 (A6 A8 (qv 1) A4) A3)))) (A9 rfl (AR (BB (A0 A4 (A0 (A6 A8 (qv 1) A4) A3))))) Ar)
   (AA rfl (Ak (Ab Hm (A6 A8 (qv 1) A4) (qv 0)) (A9 rfl (AR (BB (A0 A4 (A0 (A6 A8 (qv 1) A4) A3))))) Ar)
   (AA rfl (Ak (DM (Hx Cm Cm A4 (A6 A8 (qv 1) A4) (BA D0 Aw (A0 (qv 0) A3)))) (A9 rfl (AR (BB (A0 A4 (A0 (A6 A8 (qv 1) A4) A3))))) Ar)
   (AA rfl (Ak (Ab NX (BA D0 Aw (A0 (qv 0) A3)) A4) (A9 rfl (AR (BB (A0 A4 (A0 FO A3))))) Ar)
   (A9 rfl (AR FO)))))) Ar)
   (AA rfl (Ak (Ab Bh (A6 A8 (qv 1) A4) B1) (AA rfl (Ak (DM (Hx Cm Cm A4 (A6 A8 (qv 1) A4) (BA D0 Aw (A0 (qv 0) A3)))) (A9 rfl (AR (BB (A0 A4 (A0 (A6 A8 (qv 1) A4) A3))))) Ar)
   (AA rfl (Ak (DM (Hx Cm Cm (A6 A8 (qv 1) A4) (A6 A8 (qv 1) A4) (BA D0 Aw (A0 (qv 0) A3)))) (A9 rfl (AR (BB (A0 A4 (A0 (A6 A8 (qv 1) A4) A3))))) Ar)
   (A9 rfl (AR FO)))) Ar)
   (AA rfl (Ak (Ab R7 (A6 A8 (qv 1) A4) (qv 0)) (A9 rfl (AR (BB (A0 A4 (A0 (A6 A8 (qv 1) A4) A3))))) Ar)
   (AA rfl (Ak (K2 (Ab Bh (A6 A8 (qv 1) A4) B1) (KW (DM (Hx Cm Hy A4 (A6 A8 (qv 1) A4) (BA D0 Aw (A0 (qv 0) A3)))))).pt (A9 rfl (AR (BB (A0 A4 (A0 (A6 A8 (qv 1) A4) A3))))) Ar)
   (A9 rfl (AR FO)))))),?_⟩
 refine Fz.Bo h gG ?_;rintro _ _⟨ns,d,rfl,n,rfl⟩;show Ws [_,_] _ _ _;cases d with
 |put x i=>
  unfold aP
  walk_at "ww"
  refine BR (by decide +kernel) ?_;refine B2 (CM (D2 (Dn (Zs ?_))))
  walk_at "ww"
  refine⟨n.1.2,?_⟩
  walk_at "ww"
  refine AY (λc1=>?_) (λc1=>?_)
  .walk_at "ww"
   refine⟨by simp,.inr ⟨_,0,_,?_,.inl ⟨rfl,x,rfl,rfl⟩,rfl⟩⟩;simp only[AX.Ap];rw[o9 (by cases e:isNm x <;> simp_all)]
  have h1:¬ isNm x=false:=by cases e:isNm x <;> simp_all
  refine An ?_
  walk_at "ww"
  refine AY (λc2=>?_) (λc2=>?_)
  .walk_at "ww"
   refine⟨by simp,.inr ⟨_,1,_,?_,.inr (.inl ⟨rfl,x,rfl,rfl⟩),rfl⟩⟩;simp only[AX.Ap];rw[mL h1,o9 (mP c2)]
  have h2:x∉ns:=λz=>c2 (mG z);have bad:¬ inR i 0 ns.length->AX.Ap ⟨AI,AJ,AB,AD,AK⟩ ns (.put x i)=some (ID AD i):=λz=>by
   simp only[AX.Ap];rw[mL h1,mL h2,o9 z]
  refine An ?_;refine B2 (CM (D2 (Cf (Ge ?_))))
  walk_at "ww"
  refine AY (λb=>?_) (λb=>?_)
  .walk_at "ww"
   rw[Ae];refine AY (λa=>?_) (λa=>?_)
   .walk_at "ww"
    refine⟨by simp,.inr ⟨_,3,_,bad λz=>?_,.inr (.inr (.inr (.inl ⟨rfl,i,rfl,rfl⟩))),rfl⟩⟩;rw[mG z.2]at a;cases a
   have g:inR i 0 ns.length:=⟨mP b,by
    cases e:decide (i<=(ns.length:Int))with
    |true=>exact mP e
    |false=>exact absurd (by rw[e];rfl) a⟩
   refine An ?_
   walk_at "ww"
   rw[Ae];refine AY (λj=>?_) (λj=>?_)
   .walk_at "ww"
    refine⟨by simp,.inr ⟨_,9,_,?_,.inr (.inr (.inr (.inr ⟨rfl,rfl,rfl⟩))),rfl⟩⟩;have q:=mP j;simp only[AX.Ap];rw[mL h1,mL h2,mL (Decidable.not_not.mpr g),o9 (by omega)]
   .have q:¬ (40:Int)<=ns.length:=λz=>j (mG z);refine An ?_
    walk_at "ww"
    refine .inl ⟨?_,rfl⟩;simp only[AX.Ap];rw[mL h1,mL h2,mL (Decidable.not_not.mpr g),mL (by omega)]
  .refine⟨false,rfl,BR rfl ?_⟩
   walk_at "ww"
   exact⟨by simp,.inr ⟨_,3,_,bad λz=>b (mG z.1),.inr (.inr (.inr (.inl ⟨rfl,i,rfl,rfl⟩))),rfl⟩⟩
 |turn lo hi=>
  unfold aP;have bad:¬ inR lo 0 ns.length->AX.Ap ⟨AI,AJ,AB,AD,AK⟩ ns (.turn lo hi)=some (ID AD lo):=λz=>by
   simp only[AX.Ap];rw[o9 z]
  have l:inR lo 0 ns.length->¬ inR hi lo ns.length->AX.Ap ⟨AI,AJ,AB,AD,AK⟩ ns (.turn lo hi)=some (ID AD hi):=λy z=>by
   simp only[AX.Ap];rw[mL (Decidable.not_not.mpr y),o9 z]
  walk_at "ww"
  refine BG (by decide +kernel) ?_;refine An ?_
  walk_at "ww"
  refine BR (by decide +kernel) ?_;refine B2 (CM (D2 (Cf (Ge ?_))))
  walk_at "ww"
  refine AY (λc=>?_) (λc=>?_)
  .walk_at "ww"
   rw[Ae];refine AY (λc2=>?_) (λc2=>?_)
   .walk_at "ww"
    refine⟨by simp,.inr ⟨_,3,_,bad λz=>?_,.inr (.inr (.inr (.inl ⟨rfl,lo,rfl,rfl⟩))),rfl⟩⟩;rw[mG z.2]at c2;cases c2
   .have g:inR lo 0 ns.length:=⟨mP c,by
     cases e:decide (lo<=(ns.length:Int))with
     |true=>exact mP e
     |false=>exact absurd (by rw[e];rfl) c2⟩
    refine An ?_;refine B2 (CM (D2 (Cf (Ge ?_))))
    walk_at "ww"
    refine AY (λb=>?_) (λb=>?_)
    .walk_at "ww"
     rw[Ae];refine AY (λa=>?_) (λa=>?_)
     .walk_at "ww"
      refine⟨by simp,.inr ⟨_,3,_,l g λz=>?_,.inr (.inr (.inr (.inl ⟨rfl,hi,rfl,rfl⟩))),rfl⟩⟩;rw[mG z.2]at a;cases a
     .have p:inR hi lo ns.length:=⟨mP b,by
       cases e:decide (hi<=(ns.length:Int))with
       |true=>exact mP e
       |false=>exact absurd (by rw[e];rfl) a⟩
      refine An ?_
      walk_at "ww"
      refine .inl ⟨?_,rfl⟩;simp only[AX.Ap];rw[mL (Decidable.not_not.mpr g),mL (Decidable.not_not.mpr p)]
    .refine⟨false,rfl,BR rfl ?_⟩
     walk_at "ww"
     exact⟨by simp,.inr ⟨_,3,_,l g λz=>b (mG z.1),.inr (.inr (.inr (.inl ⟨rfl,hi,rfl,rfl⟩))),rfl⟩⟩
  .refine⟨false,rfl,BR rfl ?_⟩
   walk_at "ww"
   exact⟨by simp,.inr ⟨_,3,_,bad λz=>c (mG z.1),.inr (.inr (.inr (.inl ⟨rfl,lo,rfl,rfl⟩))),rfl⟩⟩
 |take x=>
  unfold aP
  walk_at "ww"
  refine BG (by decide +kernel) ?_;refine An ?_
  walk_at "ww"
  refine BG (by decide +kernel) ?_;refine An ?_
  walk_at "ww"
  refine AY (λc=>?_) (λc=>?_)
  .walk_at "ww"
   refine⟨by simp,.inr ⟨_,2,_,?_,.inr (.inr (.inl ⟨rfl,x,rfl,rfl⟩)),rfl⟩⟩;simp only[AX.Ap];rw[o9 (λz=>by rw[mG z]at c;cases c)]
  have hx:x∈ns:=by
   cases e:decide (x∈ns)with
   |true=>exact mP e
   |false=>exact absurd (by rw[e];rfl) c
  refine An ?_
  walk_at "ww"
  refine BG (by decide +kernel) (DK (An ?_))
  walk_at "ww"
  refine .inl ⟨?_,rfl⟩;simp only[AX.Ap];rw[mL (Decidable.not_not.mpr hx)]
 |move x i=>
  unfold aP
  walk_at "ww"
  refine BG (by decide +kernel) ?_;refine An ?_
  walk_at "ww"
  refine BG (by decide +kernel) ?_;refine An ?_
  walk_at "ww"
  refine AY (λc=>?_) (λc=>?_)
  .walk_at "ww"
   refine⟨by simp,.inr ⟨_,2,_,?_,.inr (.inr (.inl ⟨rfl,x,rfl,rfl⟩)),rfl⟩⟩;simp only[AX.Ap];rw[o9 (λz=>by rw[mG z]at c;cases c)]
  have hx:x∈ns:=by
   cases e:decide (x∈ns)with
   |true=>exact mP e
   |false=>exact absurd (by rw[e];rfl) c
  have bad:¬ inR i 0 (ns.length - 1)->AX.Ap ⟨AI,AJ,AB,AD,AK⟩ ns (.move x i)=some (ID AD i):=λz=>by
   simp only[AX.Ap];rw[mL (Decidable.not_not.mpr hx),o9 z]
  refine An ?_
  walk_at "ww"
  refine BR (by decide +kernel) ?_;refine D2 (Cf (Ge ?_))
  walk_at "ww"
  refine AY (λb=>?_) (λb=>?_)
  .walk_at "ww"
   rw[Ae];refine AY (λa=>?_) (λa=>?_)
   .walk_at "ww"
    refine⟨by simp,.inr ⟨_,3,_,bad λz=>?_,.inr (.inr (.inr (.inl ⟨rfl,i,rfl,rfl⟩))),rfl⟩⟩;have:=z.2;rw[mG (by omega)]at a;cases a
   have g:i<(ns.length:Int):=by
    cases e:decide (i<(ns.length:Int))with
    |true=>exact mP e
    |false=>exact absurd (by rw[e];rfl) a
   refine An ?_
   walk_at "ww"
   refine .inl ⟨?_,rfl⟩;simp only[AX.Ap];rw[mL (Decidable.not_not.mpr hx),mL (Decidable.not_not.mpr ⟨mP b,by omega⟩)]
  .refine⟨false,rfl,BR rfl ?_⟩
   walk_at "ww"
   exact⟨by simp,.inr ⟨_,3,_,bad λz=>b (mG z.1),.inr (.inr (.inr (.inl ⟨rfl,i,rfl,rfl⟩))),rfl⟩⟩
def HC:Ay ["row","one","other","trial","ones","others","entry","name"] ["row","one","other","trial"] (AS Xu):=by walk_at "z1"
def bM:∀ss R,(VF K ⟨AI,AJ,AB,AD,AK⟩) ss R->ss.length=4:=by rintro _ _⟨a,ns,l1,l2,es,_,rfl,_,rfl⟩;rfl
def qW(F:AH K "_law_done_trial" "_law_done_trial" Xu f fd)(m:mg "_law_done_trial"=some (.ref f)):
  A7 P w K mg Zf "_law_done_trial" 3 ["row","one","other","trial"] (Ah (VF K ⟨AI,AJ,AB,AD,AK⟩)):=by
 refine A7.mk F (F.binds (by walk_at "bD4")) m (F.BI (k:=2) HC (λvs H Q E h=>Fz.Bq bM h) (λAQ A outer s H vs Q E l h=>?_))
 refine⟨_,(AA rfl (Ao 4 HC.nd (DL A3))
   (AA rfl (Ao 5 HC.nd (DL A3))
   (AA rfl (CS (LS Mj rfl (DW (qv 3)) (DF 6 HC.nd) (A9 rfl (Ak (Ab (Fz.Kh l.units) (qv 6) (BB (A0 B1 A3))) (AA rfl (Je (Ac Qm l (A0 (qv 0) (A0 (qv 1) A3))) (LM rfl (Eu (DF 7 HC.nd) (Eu (DF 1 HC.nd) MP))))
   (AA rfl (D1 (FQ Ft Jm Jn IC (qv 4) (A0 (qv 7) A3)))
   (AA rfl (Je (Ac Qm l (A0 (qv 0) (A0 (qv 2) A3))) (LM rfl (Eu (DF 7 HC.nd) (Eu (DF 2 HC.nd) MP))))
   (A9 rfl (D1 (FQ Ft Jm Jn IC (qv 5) (A0 (qv 7) A3))))))) (AA rfl (Ak (Ab zW (Ac UY l (A0 (qv 0) (A0 (qv 6) A3))) FO) (A9 rfl (AR FO)) Ar)
   (AA rfl (Ao 1 HC.nd (Ac RB l (A0 (qv 0) (A0 (qv 1) (A0 (qv 6) A3)))))
   (AA rfl (Ao 2 HC.nd (Ac RB l (A0 (qv 0) (A0 (qv 2) (A0 (qv 6) A3)))))
   (A9 rfl (Ao 0 HC.nd (Ac Td l (A0 (qv 0) (A0 (qv 6) A3))))))))))))
   (A9 rfl (AR (BB (A0 (qv 4) (A0 (qv 5) A3)))))))),?_⟩
 refine Fz.Bo h bM ?_;rintro _ _⟨u,ns,l1,l2,es,y,rfl,ok,rfl⟩;show Ws [_,_,_,_,.any,.any,.any,.any] _ _ _;refine B2 (FL (IL (Cs ⟨by simp,?_⟩)));refine B2 (FL (IL (Cs ⟨by simp,?_⟩)));refine B2 (GN (Qi (λ_ i AV=>∃(BW:List Str)(k1 k2:Lp)(a b:List (Option Str))(s0 q o:Slot),W2 s0 false BW/\TI ⟨AI,AJ,AB,AD,AK⟩ ns l1 es i BW k1 a/\TI ⟨AI,AJ,AB,AD,AK⟩ ns l2 es i BW k2 b/\AV=[s0,.is k1.P,.is k2.P,.sq false (es.map (C8 u)),.own (a.map BL),.own (b.map BL),q,o]) ?_))
 walk_at "ww"
 refine⟨⟨ns,l1,l2,[],[],_,_,_,.inl rfl,TI.zero ok.row ok.g1,TI.zero ok.row ok.g2,rfl⟩,?_,?_⟩
 .rintro i p AV n⟨BW,k1,k2,a,b,s0,q,o,Es,t1,t2,rfl⟩;rw[Bt]at n;cases c:es[i]? with
  |none=>rw[c]at n;cases n
  |some e=>
  rw[c]at n;cases n;have t:=t1.row.len;have h1:=t1.len;have h2:=t2.len;have G:=ok.len;have D:=(List.getElem?_eq_some_iff.mp c).1;refine RW ?_;refine CM (Cf (JV (AF rfl (FW (Bm (FE (Cs ⟨by simp,NH y 39 e,RA K 39 .AZ,_,rfl,?_⟩)))))));rw[dZ];cases e with
  |AZ=>
   refine BR rfl ?_;refine B2 (Y6 (iu (I0 rfl Es ⟨rfl,BW,rfl,AF rfl ⟨k1.r,k1.g,k1.cs,rfl,t1.gd,by omega,?_⟩⟩)));rw[Tq];refine WO ⟨_,_,rfl,?_⟩;refine B2 (Oq rfl (AF rfl ⟨by rw[Ae];omega,?_⟩));refine B2 (Y6 (iu (I0 rfl Es ⟨rfl,BW,rfl,AF rfl ⟨k2.r,k2.g,k2.cs,rfl,t2.gd,by omega,?_⟩⟩)));rw[Tq];refine WO ⟨_,_,rfl,?_⟩;refine Oq rfl (AF rfl ⟨by rw[Ae];omega,?_⟩);exact⟨BW,_,_,_,_,s0,_,_,Es,t1.AZ c,t2.AZ c,by rw[D6,D6];rfl⟩
  |Am d=>
   refine BG (λz=>by cases z) ?_;have x:d.say:=ok.say (.Am d) (LB c);refine B2 (CM (Cf (ZBF (wp_call (B0 (I0 rfl Es (AL (AF rfl (Al ⟨_,⟨BW,d,rfl,x,rfl⟩,?_⟩)))))))));rintro _(⟨hd,rfl⟩|⟨e,j,v,hd,C,rfl⟩)
   .refine En ⟨rfl,_,rfl,BG (by decide) (An ?_)⟩;obtain⟨d',CT⟩:=AX.good hd;have B:C8 u (.Am d)=dP d':=CT.1;rw[B];refine B2 (EI (Zr (I0 rfl Es ⟨rfl,BW,rfl,AF rfl ⟨k1.r,k1.g,k1.cs,rfl,AF rfl ⟨d',rfl,CT.2,t1.gd,t,?_⟩⟩⟩)));refine B2 (EI (Zr (I0 rfl Es ⟨rfl,BW,rfl,AF rfl ⟨k2.r,k2.g,k2.cs,rfl,AF rfl ⟨d',rfl,CT.2,t2.gd,t,?_⟩⟩⟩)));refine FL (bY (I0 rfl Es ⟨rfl,BW,rfl,AF rfl ⟨d',rfl,CT.2,t,t1.row.nd,?_⟩⟩));exact⟨_,k1.led BW d',k2.led BW d',a,b,_,_,_,.inr ⟨rfl,.inr rfl⟩,t1.Am c CT,t2.Am c CT,rfl⟩
   .refine En ⟨rfl,_,rfl,BR rfl ?_⟩;exact Ba (En (.inl ⟨t1.bad c hd,t2.bad c hd,rfl⟩))
 .rintro AV⟨BW,k1,k2,a,b,s0,q,o,Es,t1,t2,rfl⟩;rw[Ae]at t1 t2;have h1:=t1.len;have h2:=t2.len;refine Nz 4 rfl (Nz 5 rfl ?_);exact Ba (FW (Bm (AF rfl (Bm (AF rfl (Cs ⟨by simp,.inr ⟨a,b,t1.fin,t2.fin,h1,h2,rfl⟩⟩))))))
def jk:Ay ["row","one","other","trial","found"] ["row","one","other","trial"] (AS Xq):=by walk_at "z1"
def iZ:∀ss R,(W8 K ⟨AI,AJ,AB,AD,AK⟩) ss R->ss.length=4:=by rintro _ _⟨a,ns,l1,l2,es,_,rfl,_,rfl⟩;rfl
def zb(F:AH K "_law_parts" "_law_parts" Xq f fd)(m:mg "_law_parts"=some (.ref f)):
  A7 P w K mg Zf "_law_parts" 4 ["row","one","other","trial"] (Ah (W8 K ⟨AI,AJ,AB,AD,AK⟩)):=by
 refine A7.mk F (F.binds (by walk_at "bD4")) m (F.BI (k:=3) jk (λvs H Q E h=>Fz.Bq iZ h) (λAQ A outer s H vs Q E j h=>?_))
 refine⟨_,(AA rfl (Ak (Ez (Ab (hV j.HJ) (qv 3) (DL A3)) (Ez (Ab Og (BA D0 Aw (A0 (qv 3) A3)) A4) (Ho (Ab (Fz.LQ j.units) (A6 CL (qv 3) (JU JT A4)) (BB (A0 B1 A3)))))).pt (A9 rfl (AR FO)) Ar)
   (AA rfl (Ao 4 jk.nd (Ac Vi j (A0 (qv 0) (A0 (qv 1) (A0 (qv 2) (A0 (qv 3) A3))))))
   (AA rfl (Ak (Ez (Ab Ss (qv 4) FO) (Ez (Ab (Fz.LQ j.units) (DE HQ (A6 A8 (qv 4) A4) Dh (Cy (JU JT A4))) (DE HQ (A6 A8 (qv 4) A4) Dh (Cy (JU JT A4)))) (Ho (Ab (Fz.Kh j.units) (A6 A8 (qv 4) A4) (A6 A8 (qv 4) A4))))).pt (A9 rfl (AR FO)) Ar)
   (A9 rfl (AR (qv 4)))))),?_⟩
 refine Fz.Bo h iZ ?_;rintro _ _⟨n,ns,l1,l2,es,t,rfl,ok,rfl⟩;show Ws [_,_,_,_,.any] _ _ _;have p:¬ (es.length<=100/\es.getLast?=some .AZ)->ZJ ⟨AI,AJ,AB,AD,AK⟩ ns l1 l2 es .AG:=λz=>.inl ⟨rfl,λa b q=>z ⟨q.1,q.2.1⟩⟩
 walk_at "ww"
 rw[Ae];refine⟨by simp,_,.inl ⟨rfl,rfl,rfl,_,rfl,AY (λc=>BR rfl (Ba (En (p λz=>?_)))) (λc=>?_)⟩⟩
 .have e:es=[]:=List.length_eq_zero_iff.mp (mP c);rw[e]at z;cases z.2
 have u:es≠[]:=λz=>c (by rw[z];rfl);obtain⟨x,hx⟩:∃x,es.getLast?=some x:=⟨es.getLast u,Yt u⟩;have v:L2.BU (es.map (C8 n)) (-1)=some (C8 n x):=Qt (by rw[Yu,hx];rfl);refine HU (Cf ?_)
 walk_at "ww"
 rw[Ae];refine AY (λc2=>BR rfl (Ba (En (p λz=>?_)))) (λc2=>?_)
 .have:=z.1;have:=mP c2;omega
 have C:es.length<=100:=ZEx λz=>c2 (mG (by omega));refine Cf (KI (G9 (B7 rfl ⟨rfl,NT (Dp ⟨_,rfl,_,_,rfl,v,?_⟩)⟩)));refine FW (Bm (FE (Cs ⟨by simp,NH t 39 x,RA K 39 .AZ,_,rfl,?_⟩)));rw[dZ];cases x with
 |Am d=>exact BR rfl (Ba (En (p λz=>by rw[z.2]at hx;cases hx)))
 |AZ=>
 refine BG (λz=>by cases z) (An ?_);refine B2 (EI (wp_call (B0 (B7 rfl (AL (AF rfl (AL (AF rfl (B0 (B7 rfl (Al ⟨_,⟨n,ns,l1,l2,es,t,rfl,ok,rfl⟩,?_⟩)))))))))));rintro _(⟨t1,t2,rfl⟩|⟨a,b,t1,t2,G,D,rfl⟩)
 .refine B2 (CM (HU (Cf (Pj (AF rfl (En ⟨rfl,_,rfl,BR rfl (BR rfl (Ba (En (.inl ⟨rfl,λa b q=>?_⟩))))⟩))))));rw[q.2.2.1]at t1;cases t1
 .refine B2 (CM (HU (Cf (Pj (AF rfl (En ⟨rfl,_,rfl,BG (by simp[Ml,JZ]) ?_⟩))))));unfold Ml;refine HU (Cf (KI ?_))
  walk_at "ww"
  rw[Q2,R5]
  walk_at "ww"
  rw[Q2,R5,MB];refine⟨Ga K 39 _,Ga K 39 _,_,rfl,AY (λl=>BR rfl (Ba (En (.inl ⟨rfl,λB y q=>?_⟩)))) (λl=>?_)⟩
  .obtain⟨_,_,i,g,o,_⟩:=q;rw[t1]at i;rw[t2]at g;cases i;cases g;rw[mG o]at l;cases l
  have hd:a.dropLast=b.dropLast:=by
   cases e:decide (a.dropLast=b.dropLast)with
   |true=>exact mP e
   |false=>exact absurd (by rw[e];rfl) l
  refine Cf (JV ?_)
  walk_at "ww"
  rw[MB];refine⟨Ga K 39 _,Ga K 39 _,_,rfl,AY (λr=>Ba (En (.inl ⟨rfl,λB y q=>?_⟩))) (λr=>An ?_)⟩
  .obtain⟨_,_,i,g,_,o⟩:=q;rw[t1]at i;rw[t2]at g;cases i;cases g;exact o (mP r)
  exact Ba (AF rfl (.inr ⟨a,b,⟨C,hx,t1,t2,hd,λz=>r (mG z)⟩,rfl⟩))
def ZEX:Ay ["ones","others"] ["ones","others"] (AS VD):=by walk_at "z1"
def cE : ∀ss R,Wm ss R->ss.length=2:=by rintro _ _⟨a,b,rfl,_,_,rfl⟩;rfl
def yR(F:AH K "part_at_last" "part_at_last" VD f fd)(m:mg "part_at_last"=some (.ref f)):
  A7 P w K mg Zf "part_at_last" 1 ["ones","others"] (Ah Wm):=by
 refine A7.mk F (F.binds (by walk_at "bD2")) m (F.BI (k:=0) ZEX (λvs H Q E h=>Fz.Bq cE h) (λAQ A outer s H vs Q E g h=>?_))
 refine⟨_,(A9 rfl (AR (GK (Ck (Fz.Kh g.units) (DE HQ (qv 0) Dh (Cy (JU JT A4))) (DE HQ (qv 1) Dh (Cy (JU JT A4)))) (ED (Ck (Fz.LQ g.units) (A6 CL (qv 0) (JU JT A4)) (A6 CL (qv 1) (JU JT A4))))))),?_⟩;refine Fz.Bo h cE ?_;rintro _ _⟨a,b,rfl,j,i,rfl⟩;show Ws [_,_] _ _ _;obtain⟨x,hx⟩:∃x,a.getLast?=some x:=⟨a.getLast j,Yt j⟩;obtain⟨y,d⟩:∃y,b.getLast?=some y:=⟨b.getLast i,Yt i⟩;refine Ba (Ib (JV ?_))
 walk_at "ww"
 rw[Q2,R5]
 walk_at "ww"
 rw[Q2,R5,MB];refine⟨Ga K 39 _,Ga K 39 _,_,rfl,AY (λc=>?_) (λc=>?_)⟩
 .have e:=mP c;have n:L2.BU (a.map BL) (-1)=some (BL x):=Qt (by rw[Yu,hx];rfl);have l:L2.BU (b.map BL) (-1)=some (BL y):=Qt (by rw[Yu,d];rfl);refine KI (G9 (Hl rfl ⟨rfl,NT (Dp ⟨_,rfl,_,_,rfl,n,?_⟩)⟩));refine G9 (Hl rfl ⟨rfl,NT (Dp ⟨_,rfl,_,_,rfl,l,X5 K 40 x,X5 K 40 y,?_⟩)⟩);have q:=Tb [x] [y];rw[ES,ES,Jj,JJ,CF,OY]at q;rw[q];have w:=mC hx d e
  congr 1
  rw[Eo,ZEv,ZBD,zF];simp only[List.cons.injEq,and_true];exact⟨λz=>⟨e,w.mp z⟩,λz=>w.mpr z.2⟩
 .rw[p6 (λz=>c (mG z.1))]
def ai:Ay ["row","one","other","trial","ones","others","told"] ["row","one","other","trial","ones","others"] (AS WT):=by walk_at "z1"
def br:∀ss R,(VQ K ⟨AI,AJ,AB,AD,AK⟩) ss R->ss.length=6:=by rintro _ _⟨c,tp,ns,l1,l2,es,a,b,_,rfl,_,_,rfl⟩;rfl
def mX(F:AH K "trial_judged" "trial_judged" WT f fd)(m:mg "trial_judged"=some (.ref f)):
  A7 P w K mg Zf "trial_judged" 8 ["row","one","other","trial","ones","others"] (Ah (VQ K ⟨AI,AJ,AB,AD,AK⟩)):=by
 refine A7.mk F (F.binds (by walk_at "bD6")) m (F.BI (k:=7) ai (λvs H Q E h=>Fz.Bq br h) (λAQ A outer s H vs Q E i h=>?_))
 refine⟨_,(AA rfl (D1 (Ac MT i (A0 (qv 0) (A0 (qv 1) (A0 (qv 2) A3)))))
   (AA rfl (Ak (Ez (DM (Hx Cm Cm A4 (BA D0 Aw (A0 (qv 3) A3)) (EJ (v:=.int 100) (by rfl) TX ⟨_,rfl⟩))) (Ho (Ab (Fz.LQ i.units) (A6 CL (qv 3) (JU JT A4)) (EJ (v:=.ref As) (by rfl) DG rfl)))).pt (A9 rfl (AR G3)) Ar)
   (AA rfl (wU rfl rfl (by rfl) Jr (λ_ _ _ g1=>by exact(A9 rfl (Ao 6 ai.nd (BB (A0 (Ct GF i (by decide) g1 rfl (A0 (qv 0) (A0 (qv 1) (A0 (qv 3) A3)))) (A0 (Ct GF i (by decide) g1 rfl (A0 (qv 0) (A0 (qv 2) (A0 (qv 3) A3)))) A3)))))) (λ_=>by exact(A9 rfl (AR G3))))
   (A9 rfl (AR (GK (Ck (Fz.Kh i.units) (qv 6) (BB (A0 (qv 4) (A0 (qv 5) A3)))) (ED (Ac X9 i (A0 (qv 4) (A0 (qv 5) A3)))))))))),?_⟩
 refine Fz.Bo h br ?_;rintro _ _⟨g,tp,ns,l1,l2,es,a,b,n,rfl,ok,y,rfl⟩;have C:Co K As [.str "step"]:=Co.of DZ rfl rfl;have M:dat K 40 (.con As [.str "step"]):=C.dat (d:=39) (λx hx=>by rw[List.mem_singleton.mp hx];trivial);show Ws [_,_,_,_,_,_,.any] _ _ _;refine B2 (Gi (wp_call (B0 (B7 rfl (AL (AF rfl (AL (AF rfl (Al ⟨_,⟨tp,ns,l1,l2,rfl,⟨y,ok.row.nm,ok.row.nd⟩,ok.g1,ok.g2,rfl⟩,?_⟩)))))))));intro _ _;refine B2 (CM (HU (D2 (Cf (Ge ?_)))))
 walk_at "ww"
 rw[Ae];have l:¬ (es.length<=100/\es.getLast?=some .AZ)->∃t:Bool,PV.bl false=.bl t/\(t=true↔Parts ⟨AI,AJ,AB,AD,AK⟩ ns l1 l2 es a b):=λz=>⟨false,rfl,λq=>(by cases q),λq=>absurd ⟨q.1,q.2.1⟩ z⟩;refine AY (λc=>?_) (λc=>⟨false,rfl,BR rfl (BR rfl (Ba (Gu (l λz=>?_))))⟩)
 .refine Dp ⟨_,rfl,_,rfl,AY (λc2=>BR rfl (Ba (Gu (l λz=>?_)))) (λc2=>?_)⟩
  .have:=z.1;rw[mG (by omega)]at c2;cases c2
  have R:es.length<=100:=by
   cases e:decide ((es.length:Int)<=100)with
   |true=>have:=mP e;omega
   |false=>exact absurd (by rw[e];rfl) c2
  have u:es≠[]:=λz=>by rw[z]at c;cases c
  obtain⟨x,hx⟩:∃x,es.getLast?=some x:=⟨es.getLast u,Yt u⟩;have G:L2.BU (es.map (C8 g)) (-1)=some (C8 g x):=Qt (by rw[Yu,hx];rfl);refine Cf (KI (G9 (B7 rfl ⟨rfl,NT (Dp ⟨_,rfl,_,_,rfl,G,?_⟩)⟩)));refine Iv [.str "step"] ⟨NH n 39 x,M,_,rfl,?_⟩;rw[fB];cases x with
  |Am d=>exact BR rfl (Ba (Gu (l λz=>by rw[z.2]at hx;cases hx)))
  |AZ=>
   refine BG (λz=>by cases z) (An ?_);refine B2 (xE (λAV=>AV=[.sq tp (ns.map .str),.is l1.P,.is l2.P,.sq false (es.map (C8 g)),.is (.lst (a.map BL)),.is (.lst (b.map BL)),.any]) (λx=>(tell ⟨AI,AJ,AB,AD,AK⟩ ns l1 es=none∨tell ⟨AI,AJ,AB,AD,AK⟩ ns l2 es=none)/\∃j v,Lm ⟨AI,AJ,AB,AD,AK⟩ x j v) (λE=>?_) (λOP x J L=>?_))
   .letI:Xw:=M6 E (λAV=>AV=[.sq tp (ns.map .str),.is l1.P,.is l2.P,.sq false (es.map (C8 g)),.is (.lst (a.map BL)),.is (.lst (b.map BL)),.any]) (λx=>(tell ⟨AI,AJ,AB,AD,AK⟩ ns l1 es=none∨tell ⟨AI,AJ,AB,AD,AK⟩ ns l2 es=none)/\∃j v,Lm ⟨AI,AJ,AB,AD,AK⟩ x j v);refine EI (FW (Bm (EF (J3 ?_))));refine B0 (B7 rfl (AL (AF rfl (B0 (B7 rfl (Al ⟨_,_,⟨g,tp,ns,l1,es,n,rfl,⟨ok.row,ok.g1,ok.g1,ok.say,ok.len⟩,rfl,rfl⟩,rfl,λe h=>⟨.inl h.1,h.2⟩,?_⟩))))));rintro _⟨O,t1,T,rfl⟩;refine Bm (EF (J3 ?_));refine B0 (B7 rfl (AL (AF rfl (B0 (B7 rfl (Al ⟨_,_,⟨g,tp,ns,l2,es,n,rfl,⟨ok.row,ok.g2,ok.g2,ok.say,ok.len⟩,rfl,rfl⟩,rfl,λe h=>⟨.inr h.1,h.2⟩,?_⟩))))));rintro _⟨N,t2,S,rfl⟩;refine Cs ⟨by simp,?_⟩;clear this;show Ws _ _ _ _;refine Ba (Ib (JV (AF rfl (FW (Bm (AF rfl (Bm (AF rfl (Cs ⟨by simp,Ou K _ _,Ou K _ _,?_⟩)))))))));rw[c7];refine⟨_,rfl,AY (λo=>?_) (λo=>⟨false,rfl,λq=>(by cases q),λq=>?_⟩)⟩
    .obtain⟨rfl,rfl⟩:=mP o;have D:=fi t1 hx;have B:=fi t2 hx;refine wp_call (AL (AF rfl (AL (AF rfl (Al ⟨_,⟨O,N,rfl,D,B,rfl⟩,?_⟩)))));rintro _ rfl;refine⟨_,rfl,?_⟩;rw[zF];exact⟨λq=>⟨R,hx,t1,t2,q.1,q.2⟩,λq=>⟨q.2.2.2.2.1,q.2.2.2.2.2⟩⟩
    .obtain⟨_,_,r,p,_⟩:=q;rw[t1]at r;rw[t2]at p;cases r;cases p;exact(o (mG ⟨rfl,rfl⟩)).elim
   .subst J;obtain⟨hn,j,v,I⟩:=L;refine⟨ZBY xo I,?_⟩;refine Ba (Gu ⟨false,rfl,λq=>(by cases q),λq=>?_⟩);rcases hn with hn|hn
    .rw[q.2.2.1]at hn;cases hn
    .rw[q.2.2.2.1]at hn;cases hn
 .have:es≠[]:=λe=>by rw[e]at z;cases z.2
  have:=List.length_pos_iff.mpr this;exact c (mG (by omega))
def QJ:Ay ["row","one","other","found","kept","again"] ["row","one","other"] (AS Xo):=by walk_at "z1"
def af:∀ss R,(WN K As ⟨AI,AJ,AB,AD,AK⟩) ss R->ss.length=3:=by rintro _ _⟨ns,l1,l2,rfl,_,_,_,rfl⟩;rfl
def ZBm(F:AH K "_law_right" "_law_right" Xo f fd)(m:mg "_law_right"=some (.ref f)):
  A7 P w K mg Zf "_law_right" 11 ["row","one","other"] (Ah (WN K As ⟨AI,AJ,AB,AD,AK⟩)):=by
 refine A7.mk F (F.binds (by walk_at "bD3")) m (F.BI (k:=10) QJ (λvs H Q E h=>Fz.Bq af h) (λAQ A outer s H vs Q E c h=>?_))
 refine⟨_,(AA rfl (Ao 3 QJ.nd (Ac NL c (A0 (D3 IM Ce (A0 (qv 0) A3)) (A0 (qv 1) (A0 (qv 2) A3)))))
   (AA rfl (Ak (FP (Ac Vm c (A0 (qv 1) (A0 (qv 2) A3)))) (A9 rfl (AR (Ck Ss (qv 3) FO))) Ar)
   (AA rfl (Ak (DM (FP (Ac Wj c (A0 (qv 3) A3)))) (A9 rfl (AR G3)) Ar)
   (AA rfl (Ak (Ab (Fz.LQ c.units) (Ac Ts c (A0 (qv 0) (A0 (qv 1) (A0 (qv 2) (A0 (A6 A8 (qv 3) A4) A3))))) (BB (A0 (A6 A8 (qv 3) A4) (A0 (A6 A8 (qv 3) A4) A3)))) (A9 rfl (AR G3)) Ar)
   (AA rfl (Ak (Ab ZEG (Ac Y5 c (A0 (qv 0) (A0 (qv 1) (A0 (qv 2) (A0 (A6 A8 (qv 3) A4) (A0 (A6 A8 (qv 3) A4) (A0 (A6 A8 (qv 3) A4) A3))))))) G3) (A9 rfl (AR G3)) Ar)
   (AA rfl (Ao 4 QJ.nd (BB (A0 (D3 IM Ce (A0 (A6 A8 (qv 3) A4) A3)) (A0 (D3 IM Ce (A0 (A6 A8 (qv 3) A4) A3)) (A0 (D3 IM Ce (A0 (A6 A8 (qv 3) A4) A3)) A3)))))
   (AA rfl (Ao 5 QJ.nd (Ac NL c (A0 (D3 JR CQ (A0 (qv 0) A3)) (A0 (qv 1) (A0 (qv 2) A3)))))
   (AA rfl (D1 (FQ Ft Jm Jn IC (A6 A8 (qv 3) A4) (A0 (BB (A0 B1 A3)) A3)))
   (AA rfl (D1 (ZBQ Ft PySem.F.slot_list_clear PySem.F.type_list_clear vq (A6 A8 (qv 3) A4)))
   (AA rfl (D1 (FQ Ft Jm Jn IC (A6 A8 (qv 3) A4) (A0 B1 A3)))
   (A9 rfl (AR (GK (Ck (Fz.Kh c.units) (qv 5) (qv 4)) (ED (Ck (Fz.Kh c.units) (Ac NL c (A0 (qv 0) (A0 (qv 1) (A0 (qv 2) A3)))) (qv 4)))))))))))))))),?_⟩
 refine Fz.Bo h af ?_;rintro _ _⟨ns,l1,l2,rfl,l,j,g,rfl⟩;have D:=l.len;show Ws [_,_,_,.any,.any,.any] _ _ _
 by_cases e:EG l1 l2
 .refine B2 (EI (wp_call (B0 (FG (Wv rfl (Hl rfl ?_))))));refine AL (AF rfl (AL (AF rfl (Al ⟨_,⟨false,ns,l1,l2,rfl,l,j,g,.inl ⟨e,rfl⟩⟩,?_⟩))));rintro _ rfl;refine B2 (CM (Dn (wp_call (AL (AF rfl (AL (AF rfl (Al ⟨_,⟨ns,l1,l2,rfl,j,g,by omega,rfl⟩,?_⟩))))))));rintro _ rfl;rw[mG e];exact⟨_,rfl,BR rfl (Ba (Pj (AF rfl (En ⟨rfl,rfl⟩))))⟩
 refine B2 (uk (Vn (B0 (FG (Wv rfl (Hl rfl ?_))))));refine AL (AF rfl (AL (AF rfl (Al ⟨_,⟨false,ns,l1,l2,rfl,l,j,g,.inr ⟨e,rfl⟩⟩,?_⟩))));rintro _⟨d,es,a,b,x,y,z,tr,pt,rfl⟩;have ok:=tr.ok l j g e;have M:=pt.1;have L:=Kf pt.2.2.1;have J:=Kf pt.2.2.2.1;have I:(es.filter Jo).length<=es.length:=GX _ _;refine B2 (CM (Dn (wp_call (AL (AF rfl (AL (AF rfl (Al ⟨_,⟨ns,l1,l2,rfl,j,g,by omega,rfl⟩,?_⟩))))))));rintro _ rfl;rw[p6 e];refine⟨_,rfl,BG (by decide) (An ?_)⟩;refine B2 (CM (SV (D2 (Dn (wp_call (AL (AF (i:=3) (by rw[<- N5 (x:=x) (y:=y) (z:=z)];rfl) (Al ⟨_,⟨As,es,a,b,rfl,d,⟨by omega,by omega,by omega⟩,rfl⟩,?_⟩))))))));rintro _ rfl;refine⟨_,rfl,DK (An ?_)⟩;refine B2 (CM (SV ?_));show Wt [.is (.lst (ns.map .str)),.is l1.P,.is l2.P,.is (MU As es a b x y z).pv,.any,.any] _ _;rw[N5];unfold Gq;refine Cf (KI (wp_call (B0 (Hl rfl (AL (AF rfl (AL (AF rfl (B0 ?_)))))))))
 walk_at "ww"
 refine Al ⟨_,⟨some As,ns,l1,l2,es,d,rfl,ok,rfl⟩,?_⟩;rintro _(⟨_,h⟩|⟨o,n,h',rfl⟩)
 .exact absurd pt (h a b)
 obtain rfl:o=a:=Be (h'.2.2.1.symm.trans pt.2.2.1);obtain rfl:n=b:=Be (h'.2.2.2.1.symm.trans pt.2.2.2.1);unfold Ml
 walk_at "ww"
 rw[c7,mG (⟨rfl,rfl⟩:o=o/\n=n)];refine⟨by simp,Ou K _ _,Ou K _ _,_,rfl,BG (by decide) (An ?_)⟩;refine B2 (CM (SV ?_));show Wt [.is (.lst (ns.map .str)),.is l1.P,.is l2.P,.is (MU As es o n x y z).pv,.any,.any] _ _;rw[N5];unfold Gq;refine Cf (bo (wp_call (B0 (Hl rfl (AL (AF rfl (AL (AF rfl (B0 ?_)))))))))
 walk_at "ww"
 refine AL ?_
 walk_at "ww"
 refine AL ?_
 walk_at "ww"
 refine Al ⟨_,⟨some As,false,ns,l1,l2,es,o,n,d,rfl,ok,D,rfl⟩,?_⟩;rintro _⟨t,rfl,G⟩;obtain rfl:t=true:=G.mpr pt;refine⟨_,rfl,Gu ⟨_,rfl,_,rfl,BG (by decide) (An ?_)⟩⟩
 walk_at "ww"
 refine⟨by simp,?_⟩;refine B2 (EI (gE (Vn (B0 ?_))))
 walk_at "ww"
 refine AL (AF rfl (AL (AF rfl (Al ⟨_,⟨true,ns,l1,l2,rfl,l,j,g,.inr ⟨e,rfl⟩⟩,?_⟩))));rintro _⟨_,GI,q,p,X,V,T,B,u,rfl⟩;obtain rfl:=B.one tr;obtain rfl:q=o:=Be (u.2.2.1.symm.trans pt.2.2.1);obtain rfl:p=n:=Be (u.2.2.2.1.symm.trans pt.2.2.2.1);refine⟨rfl,?_⟩;rw[N5];unfold Gq MU;refine B2 (il (Pg (LZ rfl ⟨_,rfl,Dp ⟨0,0,_,rfl,rfl,rfl,false,x,_,rfl,rfl,by rw[Ae,Ae];omega,je (FW (Bm (FE (Cs ⟨by simp,by simp,?_⟩))))⟩⟩)));refine B2 (zN (Pg (LZ rfl ⟨_,rfl,Dp ⟨1,1,_,rfl,rfl,rfl,false,y,_,rfl,rfl,?_⟩⟩)));refine B2 (il (Pg (LZ rfl ⟨_,rfl,Dp ⟨2,2,_,rfl,rfl,rfl,false,z,_,rfl,rfl,by rw[Ae,Ae];omega,je (FE ⟨by simp,?_⟩)⟩⟩)));refine Ba (Ib (JV (AF rfl (AF rfl ⟨OI d GI q p,OI d GI q p,?_⟩))));have r:=nO 40 (OI d GI q p);unfold Gq at r;rw[r];refine⟨_,rfl,BR rfl ?_⟩;refine JV (gE (Vn (B0 (Hl rfl (AL (AF rfl (AL (AF rfl (Al ⟨_,⟨false,ns,l1,l2,rfl,l,j,g,.inr ⟨e,rfl⟩⟩,?_⟩)))))))));rintro _⟨_,N,R,O,W,U,S,C,v,rfl⟩;obtain rfl:=C.one tr;obtain rfl:R=q:=Be (v.2.2.1.symm.trans pt.2.2.1);obtain rfl:O=p:=Be (v.2.2.2.1.symm.trans pt.2.2.2.1);refine⟨rfl,?_⟩;rw[N5];refine AF rfl ⟨OI d _ _ _,OI d _ _ _,?_⟩;unfold Gq;rw[r]
def Ld:Ay ["script","k","pot","row","one","other"] ["script"] (AS MK):=by walk_at "z1"
def vI(F:AH K "law" "law" MK f fd)(m:mg "law"=some (.ref f)):
  D7 P w K mg Zf FK 12 f fd ["script"] (N9 K):=by
 refine(F.BI (k:=11) Ld (λvs H Q E h=>by obtain⟨a,ns,rfl,_⟩:=h;rfl) (λAQ A outer s H vs Q E b h=>?_));refine⟨_,(AA rfl (CS (LS Mj rfl (gJ rfl Lr (A0 A4 A3)) (DF 1 Ld.nd) (AA rfl (Ao 2 Ld.nd (Ac VT b (A0 (qv 0) (A0 (qv 1) A3))))
   (AA rfl (Ao 3 Ld.nd (Ac Ux b (A0 (qv 2) (A0 A4 A3))))
   (AA rfl (Je (Ac Wk b (A0 (qv 2) (A0 (qv 3) A3))) (LM rfl (Eu (DF 4 Ld.nd) (Eu (DF 5 Ld.nd) MP))))
   (A9 rfl (Ak (Ez (DM (FP (Ac OF b (A0 (qv 3) (A0 (qv 4) (A0 (qv 5) A3)))))) (Ez (DM (FP (Ac OF b (A0 (qv 3) (A0 (qv 5) (A0 (qv 4) A3)))))) (Ho (DM (FP (Ac OF b (A0 (qv 3) (A0 (qv 4) (A0 (qv 4) A3))))))))).pt (A9 rfl (AR G3)) Ar)))))))
   (A9 rfl (AR G3))),?_⟩
 refine Fz.lL h ?_;intro sc q;show Ws [_,.any,.any,.any,.any,.any] _ _ _;refine B2 (GN (Qi (λ_ _ AV=>∃(s1 s2 g s4 e:Slot),AV=[.raw (MI K sc),s1,s2,g,s4,e]) ?_))
 walk_at "ww"
 refine⟨by decide,by decide,⟨_,_,_,_,_,rfl⟩,?_,?_⟩
 .rintro kk p AV l⟨s1,s2,g,s4,e,rfl⟩;obtain⟨j,rfl⟩:=ZEZ l;have j:kk<3:=j;refine RW ?_
  walk_at "ww"
  refine⟨by omega,by omega,?_⟩
  walk_at "ww"
  refine⟨by decide,by decide,λns o n nd=>?_⟩;have c:BX 37 ns:=⟨by omega,n,nd⟩;refine Nz 3 rfl ?_;refine B2 (Y6 (xf rfl (B0 (Hl rfl (Al ⟨_,⟨ns,rfl,c.le (by decide),rfl⟩,?_⟩)))));rintro _⟨l1,l2,rfl,d,i⟩;refine WO ⟨_,_,rfl,?_⟩;refine CM (HU (D2 (Dn (wp_call (AL (AF rfl (AL (AF rfl (AL (AF rfl (Al ⟨_,⟨ns,l1,l2,rfl,c,d,i,rfl⟩,?_⟩)))))))))));rintro _ rfl;refine⟨_,rfl,DK ?_⟩;refine HU (D2 (Dn (wp_call (AL (AF rfl (AL (AF rfl (AL (AF rfl (Al ⟨_,⟨ns,l2,l1,rfl,c,i,d,rfl⟩,?_⟩))))))))));rintro _ rfl;refine⟨_,rfl,DK ?_⟩;refine D2 (Dn (wp_call (AL (AF rfl (AL (AF rfl (AL (AF rfl (Al ⟨_,⟨ns,l1,l1,rfl,c,d,d,rfl⟩,?_⟩)))))))));rintro _ rfl;refine⟨_,rfl,DK (An ⟨_,_,_,_,_,rfl⟩)⟩
 .rintro AV⟨s1,s2,g,s4,e,rfl⟩;exact Ba (Gu rfl)
def all_mk{h:Heap}{fa f1 f2 f3 f4 f5 f6 f7 f8 f9 gP fK fG de dy bB eV gr dg jL ij i3 fQ b6 cU bJ ib iH b8 Zy ak jg bx fP ZM aN gj j3 iT eX bW Zg aA jE fF jD aT i9 fU Zz cD ZL gZ eM gC gk jd ZI bQ aj:Addr}{g1 g2 g3 g4 g5 g6 g7 g8 g9 rZ mU g12 mr oY xy pB g17 g18 yu lQ wA yr g23 qo oJ g26 wb my z8 u6 g31 g32 lN g34 g35 rF g37 wM vm uq g41 g42 g43 lF g45 g46 xq yd ph z4 xN g52 g53 g54 g55 nZ pI lA rg:FuncData}(X:K.In h)(G:h.Ns mainGlobals mg)(qI:mg "law"=some (.ref fa))
  
  (a1:nS K "_law_pot" (.ref f1)) (F1:AH K "_law_pot" "_law_pot" YJ f1 g1)
  (a2:nS K "_law_take" (.ref f2)) (F2:AH K "_law_take" "_law_take" SS f2 g2)
  (a3:nS K "_law_letters" (.ref f3)) (F3:AH K "_law_letters" "_law_letters" YE f3 g3)
  (a4:nS K "_law_name" (.ref f4)) (F4:AH K "_law_name" "_law_name" TF f4 g4)
  (a5:nS K "_law_names" (.ref f5)) (F5:AH K "_law_names" "_law_names" VN f5 g5)
  (a6:nS K "_law_row" (.ref f6)) (F6:AH K "_law_row" "_law_row" TH f6 g6)
  (a7:nS K "_law_some_loop" (.ref f7)) (F7:AH K "_law_some_loop" "_law_some_loop" UW f7 g7)
  (a8:nS K "_law_pair" (.ref f8)) (F8:AH K "_law_pair" "_law_pair" RZ f8 g8)
  (a9:nS K "is_gap" (.ref f9)) (F9:AH K "is_gap" "is_gap" Ur f9 g9)
  (ye:nS K "is_coming" (.ref gP)) (F10:AH K "is_coming" "is_coming" PU gP rZ)
  (zS:nS K "is_loop" (.ref fK)) (vA:AH K "is_loop" "is_loop" XE fK mU)
  (xB:nS K "check_loop" (.ref fG)) (xl:AH K "check_loop" "check_loop" VE fG g12)
  (a13:nS K "check_pair" (.ref de)) (sI:AH K "check_pair" "check_pair" VM de mr)
  (xk:nS K "are_twins" (.ref dy)) (F14:AH K "are_twins" "are_twins" Yg dy oY)
  (uZ:nS K "fresh_names" (.ref bB)) (zZ:AH K "fresh_names" "fresh_names" MZ bB xy)
  (rC:nS K "things_to_come" (.ref eV)) (qL:AH K "things_to_come" "things_to_come" PJ eV pB)
  (a17:nS K "place_of" (.ref gr)) (F17:AH K "place_of" "place_of" Wb gr g17)
  (nI:nS K "trial_by_turns" (.ref dg)) (rq:AH K "trial_by_turns" "trial_by_turns" YV dg g18)
  (a19:nS K "trial_by_gap" (.ref jL)) (u5:AH K "trial_by_gap" "trial_by_gap" YD jL yu)
  (nQ:nS K "takes_of" (.ref ij)) (xh:AH K "takes_of" "takes_of" RE ij lQ)
  (a21:nS K "trial_by_coming" (.ref i3)) (F21:AH K "trial_by_coming" "trial_by_coming" Pl i3 wA)
  (a22:nS K "rest" (.ref fQ)) (sJ:AH K "rest" "rest" VP fQ yr)
  (mW:nS K "coming_without" (.ref b6)) (lD:AH K "coming_without" "coming_without" Qr b6 g23)
  (a24:nS K "loop_telling" (.ref cU)) (ua:AH K "loop_telling" "loop_telling" VY cU qo)
  (a25:nS K "step" (.ref bJ)) (F25:AH K "step" "step" TC bJ oJ)
  (y6:nS K "is_name" (.ref ib)) (wO:AH K "is_name" "is_name" Ot ib g26)
  (a27:nS K "check_put" (.ref iH)) (qT:AH K "check_put" "check_put" VA iH wb)
  (mR:nS K "check_move" (.ref b8)) (xJ:AH K "check_move" "check_move" XM b8 my)
  (kd:nS K "check_turn" (.ref Zy)) (z9:AH K "check_turn" "check_turn" YX Zy z8)
  (oZ:nS K "check_deed" (.ref ak)) (F30:AH K "check_deed" "check_deed" Vh ak u6)
  (mT:nS K "row_turned" (.ref jg)) (mf:AH K "row_turned" "row_turned" Xr jg g31)
  (rH:nS K "row_with" (.ref bx)) (F32:AH K "row_with" "row_with" Ta bx g32)
  (a33:nS K "row_without" (.ref fP)) (ue:AH K "row_without" "row_without" RG fP lN)
  (a34:nS K "done" (.ref ZM)) (F34:AH K "done" "done" U8 ZM g34)
  (vH:nS K "gap_behind_put" (.ref aN)) (oh:AH K "gap_behind_put" "gap_behind_put" TL aN g35)
  (nB:nS K "gap_behind_take" (.ref gj)) (o5:AH K "gap_behind_take" "gap_behind_take" XH gj rF)
  (a37:nS K "gap_led" (.ref j3)) (oW:AH K "gap_led" "gap_led" Xi j3 g37)
  (wx:nS K "joins" (.ref iT)) (zV:AH K "joins" "joins" SU iT wM)
  (zx:nS K "coming_behind" (.ref eX)) (F39:AH K "coming_behind" "coming_behind" Vt eX vm)
  (zC:nS K "loop_led" (.ref bW)) (sN:AH K "loop_led" "loop_led" XR bW uq)
  (lM:nS K "told_in" (.ref Zg)) (lB:AH K "told_in" "told_in" UK Zg g41)
  (mE:nS K "trial_by_rule" (.ref aA)) (mm:AH K "trial_by_rule" "trial_by_rule" Xp aA g42)
  (rR:nS K "trial_of" (.ref jE)) (rG:AH K "trial_of" "trial_of" Ve jE g43)
  (xV:nS K "parted" (.ref fF)) (F44:AH K "parted" "parted" Sb fF lF)
  (a45:nS K "_law_twins" (.ref jD)) (mz:AH K "_law_twins" "_law_twins" V5 jD g45)
  (a46:nS K "_law_whole" (.ref aT)) (F46:AH K "_law_whole" "_law_whole" XX aT g46)
  (um:nS K "_law_formed_trial" (.ref i9)) (F47:AH K "_law_formed_trial" "_law_formed_trial" LJ i9 xq)
  (tK:nS K "_law_step" (.ref fU)) (nM:AH K "_law_step" "_law_step" Mm fU yd)
  (pU:nS K "_law_gap" (.ref Zz)) (xS:AH K "_law_gap" "_law_gap" TU Zz ph)
  (zR:nS K "_law_led" (.ref cD)) (pJ:AH K "_law_led" "_law_led" P9 cD z4)
  (pV:nS K "_law_done" (.ref ZL)) (vO:AH K "_law_done" "_law_done" Q7 ZL xN)
  (zm:nS K "_law_is_name" (.ref gZ)) (F52:AH K "_law_is_name" "_law_is_name" Pr gZ g52)
  (a53:nS K "_law_due" (.ref eM)) (F53:AH K "_law_due" "_law_due" Xd eM g53)
  (ym:nS K "_law_done_trial" (.ref gC)) (uh:AH K "_law_done_trial" "_law_done_trial" Xu gC g54)
  (pd:nS K "_law_parts" (.ref gk)) (F55:AH K "_law_parts" "_law_parts" Xq gk g55)
  (tY:nS K "part_at_last" (.ref jd)) (F56:AH K "part_at_last" "part_at_last" VD jd nZ)
  (a57:nS K "trial_judged" (.ref ZI)) (xj:AH K "trial_judged" "trial_judged" WT ZI pI)
  (a58:nS K "_law_right" (.ref bQ)) (F58:AH K "_law_right" "_law_right" Xo bQ lA)
  (j4:nS K "law" (.ref aj)) (bw:AH K "law" "law" MK aj rg)
  (tM:nN K "all")
  (u9:nN K "bool")
  (ZEE:nN K "int")
  (zy:nN K "isinstance")
  (sH:nN K "len")
  (ZCK:nN K "list")
  (yY:nN K "max")
  (ZD8:nN K "min")
  (ze:nN K "range")
  (rV:nN K "reversed")
  (ZAz:nN K "set")
  (nG:nN K "sorted")
  (rP:nN K "str")
  (yb:nN K "tuple")
  (rT:nS K "LETTERS" (.str "abcdefghijklmnopqrstuvwxyz" Ng))
  (pY:nS K "MOST_ENTRIES" (.int 100 V4))
  (ZA7:nS K "MOST_LETTERS" (.int 8 YQ))
  (zJ:nS K "MOST_THINGS" (.int 40 Wu))
  (ZCl:nS K "MOST_THINGS_TRIED" (.int 37 Xa))
  (zY:nS K "RULES" (.ref Iq))
  {ZD2:Nat}{yA mn qD:Tok}(zT:K.lookup Iq=some ⟨.type "tuple", wD,.seq #[.str "none" yA,.str "ahead" mn,.str "all" qD] ZD2,ZDo⟩)
  (vp:nS K "STEP" (.ref As))
  {lI:Nat}(ZDF:K.lookup As=some ⟨.type "tuple", ZDZ,.seq #[.str "step" yI] lI,pQ⟩)
  (ZDk:nS K "Full" (.ref AK))
  (wu:nS K "Gone" (.ref AB))
  (tE:nS K "NoLoop" (.ref CJ))
  (ZDa:nS K "NoName" (.ref AI))
  (rk:nS K "NoPlace" (.ref AD))
  (pF:nS K "StirError" (.ref HM))
  (vn:nS K "There" (.ref AJ))
  (Rv:PySem.W.specialIn K (.ref HM) "__getattribute__"=some (some (.builtin "type.__getattribute__")))
  (Qz:PySem.W.readsIn K HM (.type "type")=true)
  (Pu:PySem.W.findCls K (.ref HM) (.type "type") "__init__"=some (.val (.builtin "ValueError.__init__")))
  (SX:El K AK none=true)
  (ZFn:PySem.W.findIn K (.ref AB) "__init__"=some (some (.ref Qu))) (eL:AH K "__init__" "Gone.__init__" SQ Qu tI)
  (sS:El K AB (some (.ref Qu))=true)
  (mx:PySem.W.findIn K (.ref AB) "__setattr__"=some (some (.builtin "object.__setattr__")))
  (lh:Ke K AB=true)
  (ZCq:PySem.W.takerIn K AB "name"=some none)
  (yS:PySem.W.hasDictIn K AB=true)
  (ZCA:PySem.W.isFn K (.ref Qu)=true)
  (rA:PySem.W.keepIn K (.ref AB)=true)
  (U0:El K CJ none=true)
  (ZGU:PySem.W.findIn K (.ref AI) "__init__"=some (some (.ref RL))) (cz:AH K "__init__" "NoName.__init__" Uw RL xb)
  (ZDb:El K AI (some (.ref RL))=true)
  (lO:PySem.W.findIn K (.ref AI) "__setattr__"=some (some (.builtin "object.__setattr__")))
  (ZAr:Ke K AI=true)
  (uN:PySem.W.takerIn K AI "name"=some none)
  (wV:PySem.W.hasDictIn K AI=true)
  (ZDe:PySem.W.isFn K (.ref RL)=true)
  (ZBX:PySem.W.keepIn K (.ref AI)=true)
  (ZG6:PySem.W.findIn K (.ref AD) "__init__"=some (some (.ref Qc))) (iL:AH K "__init__" "NoPlace.__init__" Ud Qc nP)
  (ZDc:El K AD (some (.ref Qc))=true)
  (ZE4:PySem.W.findIn K (.ref AD) "__setattr__"=some (some (.builtin "object.__setattr__")))
  (ZD5:Ke K AD=true)
  (ZCa:PySem.W.takerIn K AD "at"=some none)
  (zX:PySem.W.hasDictIn K AD=true)
  (ZCS:PySem.W.isFn K (.ref Qc)=true)
  (ZBw:PySem.W.keepIn K (.ref AD)=true)
  (ZG9:PySem.W.findIn K (.ref AJ) "__init__"=some (some (.ref Ra))) (aY:AH K "__init__" "There.__init__" U7 Ra wQ)
  (zP:El K AJ (some (.ref Ra))=true)
  (ZBt:PySem.W.findIn K (.ref AJ) "__setattr__"=some (some (.builtin "object.__setattr__")))
  (qr:Ke K AJ=true)
  (wm:PySem.W.takerIn K AJ "name"=some none)
  (ZDE:PySem.W.hasDictIn K AJ=true)
  (lX:PySem.W.isFn K (.ref Ra)=true)
  (y9:PySem.W.keepIn K (.ref AJ)=true)
  (xo:R6 K HM ⟨AI,AJ,AB,AD,AK⟩=true)
  : ∃fd:FuncData,(∀(s:Shared)(v:Value),BindsTo s fd ⟨[v],[]⟩ [("script", v)])/\∀Zf:Heap,K.In Zf->Zf.Ns mainGlobals mg->D7 l.prog w K mg Zf FK 12 fa fd ["script"] (N9 K):=by
 have e:=qI.symm.trans (Aq X G j4);cases e;have FF:=Fu X G tM;have Vk:=Fu X G u9;have Ju:=Fu X G ZEE;have Gp:=Fu X G zy;have Aw:=Fu X G sH;have Ce:=Fu X G ZCK;have Y7:=Fu X G yY;have LL:=Fu X G ZD8;have Lr:=Fu X G ze;have Lg:=Fu X G rV;have Kj:=Fu X G ZAz;have Dc:=Fu X G nG;have Pm:=Fu X G rP;have CQ:=Fu X G yb;have K8:=Aq X G rT;have TX:=Aq X G pY;have WB:=Aq X G ZA7;have V8:=Aq X G zJ;have VJ:=Aq X G ZCl;have Uk:=Aq X G zY;have VB:∀H,AN K H Iq [.str "none",.str "ahead",.str "all"]:=λH=>.inr ⟨_,_,_,zT,rfl,rfl,(by show 3<=sizeLine;decide +kernel),(.cons ⟨_,rfl⟩ (.cons ⟨_,rfl⟩ (.cons ⟨_,rfl⟩ .nil)))⟩;have DG:=Aq X G vp;have DZ:∀H,AN K H As [.str "step"]:=λH=>.inr ⟨_,_,_,ZDF,rfl,rfl,(by show 1<=sizeLine;decide +kernel),(.cons ⟨_,rfl⟩ .nil)⟩;have Tj:=Aq X G ZDk;have YG:=Aq X G wu;have XZ:=Aq X G tE;have U2:=Aq X G ZDa;have HN:=Aq X G rk;have Jr:=Aq X G pF;have Su:=Aq X G vn;obtain⟨_,_,kV,dc,pm,an,cd,ct,_,rfl,_,_⟩:=id bw.ex;refine⟨PySem.W.fnOf "law" "law" (OS MK) (Iw MK) (AS MK) .none kV dc pm an cd ct,λs v=>.of_eq rfl,λZf _ _=>?_⟩;have UQ:=lS (P:=l.prog) (w:=w) (Zf:=Zf) eL (eL.binds (ps:=["self","name"]) (by walk_at "bD2")) ⟨sS,mx,lh,ZCq,yS,ZCA,rA⟩ ⟨Rv,Qz,Pu,rfl⟩ Jr
 have US:=yV (P:=l.prog) (w:=w) (Zf:=Zf) cz (cz.binds (ps:=["self","name"]) (by walk_at "bD2")) ⟨ZDb,lO,ZAr,uN,wV,ZDe,ZBX⟩ ⟨Rv,Qz,Pu,rfl⟩ Jr
 have He:=za (P:=l.prog) (w:=w) (Zf:=Zf) iL (iL.binds (ps:=["self","at"]) (by walk_at "bD2")) ⟨ZDc,ZE4,ZD5,ZCa,zX,ZCS,ZBw⟩ ⟨Rv,Qz,Pu,rfl⟩ Jr
 have YN:=ky (P:=l.prog) (w:=w) (Zf:=Zf) aY (aY.binds (ps:=["self","name"]) (by walk_at "bD2")) ⟨zP,ZBt,qr,wm,ZDE,lX,y9⟩ ⟨Rv,Qz,Pu,rfl⟩ Jr
 have VT:=wz (P:=l.prog) (w:=w) (Zf:=Zf) Aw F1 (Aq X G a1);have Ca:=xU (P:=l.prog) (w:=w) (Zf:=Zf) F2 (Aq X G a2);have NV:=rQ (P:=l.prog) (w:=w) (Zf:=Zf) F3 (Aq X G a3);have Sh:=xa Aw NV Ca F4 (Aq X G a4);have Wy:=ZAi Sh Lr F5 (Aq X G a5);have Ux:=mZ Ca Wy F6 (Aq X G a6);have Q0:=vf Aw Ca Dc CQ F7 (Aq X G a7);have Wk:=wC Aw Ca Dc CQ Q0 F8 (Aq X G a8);have XB:=rB (P:=l.prog) (w:=w) (Zf:=Zf) Aw F9 (Aq X G a9);have Sj:=yJ (P:=l.prog) (w:=w) (Zf:=Zf) Dc FF Ce Kj F10 (Aq X G ye);have WG:=zA Sj XB Uk VB vA (Aq X G zS);have Ka:=ZCc (CJ:=CJ) WG XZ U0 xl (Aq X G xB);have MT:=ZBe Aw Ka VJ sI (Aq X G a13);have Tu:=pX (P:=l.prog) (w:=w) (Zf:=Zf) Aw F14 (Aq X G xk);have La:=ZDf (P:=l.prog) (w:=w) (Zf:=Zf) K8 zZ (Aq X G uZ);have L5:=p8 (P:=l.prog) (w:=w) (Zf:=Zf) qL (Aq X G rC);have Dq:=ZEF (AB:=AB) YG UQ F17 (Aq X G a17);have To:=mB (AB:=AB) Aw Dq L5 Y7 LL DG DZ rq (Aq X G nI);have YA:=sT Aw LL DG DZ La To u5 (Aq X G a19);have KL:=yO (P:=l.prog) (w:=w) (Zf:=Zf) xh (Aq X G nQ);have V6:=lR Dc Kj DG DZ KL F21 (Aq X G a21);have V7:=nY (CJ:=CJ) Ka L5 sJ (Aq X G a22);have LU:=x5 (P:=l.prog) (w:=w) (Zf:=Zf) CQ lD (Aq X G mW);have TB:=yj Dq LU ua (Aq X G a24);have XQ:=qN (CJ:=CJ) TB V7 F25 (Aq X G a25);have Sw:=mQ (P:=l.prog) (w:=w) (Zf:=Zf) Aw FF K8 WB wO (Aq X G y6);have Sa:=ZDK (AK:=AK) (AB:=AB) (AI:=AI) (AD:=AD) (AJ:=AJ) Aw Sw V8 Tj SX U2 US HN He Su YN qT (Aq X G a27);have XF:=ZAK (AK:=AK) (AB:=AB) (AI:=AI) (AD:=AD) (AJ:=AJ) Aw Dq HN He xJ (Aq X G mR);have SO:=xw (AK:=AK) (AB:=AB) (AI:=AI) (AD:=AD) (AJ:=AJ) Aw HN He z9 (Aq X G kd);have YO:=wt (AK:=AK) (AB:=AB) (AI:=AI) (AD:=AD) (AJ:=AJ) Dq XF Sa SO F30 (Aq X G oZ);have Sk:=ZC9 (P:=l.prog) (w:=w) (Zf:=Zf) Ce Lg mf (Aq X G mT);have P1:=vg (P:=l.prog) (w:=w) (Zf:=Zf) Ce F32 (Aq X G rH);have Qk:=ZCB (P:=l.prog) (w:=w) (Zf:=Zf) ue (Aq X G a33);have TN:=uR (AK:=AK) (AB:=AB) (AI:=AI) (AD:=AD) (AJ:=AJ) YO Sk P1 Qk F34 (Aq X G a34);have PM:=wX (P:=l.prog) (w:=w) (Zf:=Zf) oh (Aq X G vH);have Qg:=ZCk (P:=l.prog) (w:=w) (Zf:=Zf) o5 (Aq X G nB);have Vq:=ZDJ Dq PM Qg oW (Aq X G a37);have Ul:=vK (P:=l.prog) (w:=w) (Zf:=Zf) zV (Aq X G wx);have YS:=pk Dc CQ LU Ul F39 (Aq X G zx);have WW:=oO YS Vq sN (Aq X G zC)
 have GF:=xA (AK:=AK) (AB:=AB) (CJ:=CJ) (AI:=AI) (AD:=AD) (AJ:=AJ) DG DZ TN WW XQ lB (Aq X G lM);have UL:=oS (AK:=AK) (AB:=AB) (AI:=AI) (AD:=AD) (AJ:=AJ) Aw DG DZ La KL GF mm (Aq X G mE);have WC:=ya (AK:=AK) (AB:=AB) (AI:=AI) (AD:=AD) (AJ:=AJ) V6 YA UL rG (Aq X G rR);have NL:=ZDY (AK:=AK) (AB:=AB) (AI:=AI) (AD:=AD) (AJ:=AJ) GF Tu MT WC F44 (Aq X G xV);have Vm:=yk (P:=l.prog) (w:=w) (Zf:=Zf) Aw mz (Aq X G a45);have Xx:=ZE7 (P:=l.prog) (w:=w) (Zf:=Zf) Vk Ju Gp F46 (Aq X G a46);have Wj:=qH Aw CQ FF Ce Gp Xx Pm F47 (Aq X G um);have Qm:=xH (P:=l.prog) (w:=w) (Zf:=Zf) CQ nM (Aq X G tK);have V0:=ZA0 (P:=l.prog) (w:=w) (Zf:=Zf) Ju xS (Aq X G pU);have RB:=ZCg Dc CQ V0 pJ (Aq X G zR);have Td:=uM (P:=l.prog) (w:=w) (Zf:=Zf) Ce Lg vO (Aq X G pV);have WI:=xx (P:=l.prog) (w:=w) (Zf:=Zf) Aw FF F52 (Aq X G zm);have UY:=p5 (AK:=AK) (AB:=AB) (AI:=AI) (AD:=AD) (AJ:=AJ) Aw WI F53 (Aq X G a53);have Vi:=qW (AK:=AK) (AB:=AB) (AI:=AI) (AD:=AD) (AJ:=AJ) Td UY RB Qm uh (Aq X G ym);have Ts:=zb (AK:=AK) (AB:=AB) (AI:=AI) (AD:=AD) (AJ:=AJ) Aw Vi F55 (Aq X G pd);have X9:=yR (P:=l.prog) (w:=w) (Zf:=Zf) F56 (Aq X G tY);have Y5:=mX (AK:=AK) (AB:=AB) (AI:=AI) (AD:=AD) (HM:=HM) (AJ:=AJ) Aw DG DZ GF MT X9 TX Jr xo xj (Aq X G a57);have OF:=ZBm (AK:=AK) (AB:=AB) (AI:=AI) (AD:=AD) (AJ:=AJ) CQ Ce Wj Ts Vm NL Y5 F58 (Aq X G a58);exact vI Lr Wk VT OF Ux bw (Aq X G j4)
def walk{q:Program}{loose:List Str}{XP:(ZGZ)->Heap->Prop}{YP:World->Heap->Prop}{d:DefRec}{K:Params->ZGX}(hn:l.most=some 63)(Nk:d.params.defaults=[])
  (hY:∀(w:World)(h:Heap),YP w h->(K w.params).In h)
  (F:∀(w:World)(mg:ZGZ)(fa:Addr)(h:Heap),(K w.params).In h->h.Ns mainGlobals mg->mg d.name=some (.ref fa)->
   ∃fd:FuncData,(∀(s:Shared)(u:Value),BindsTo s fd ⟨[u],[]⟩ [("script", u)])/\∀Zf:Heap,(K w.params).In Zf->Zf.Ns mainGlobals mg->D7 l.prog w (K w.params) mg Zf FK 12 fa fd ["script"] (N9 (K w.params))) :
  PySem.W.WalkO q loose XP YP l.row.toRowW d [] (λf vs=>PySem.call f vs):=
 L2.xI (n:=63) (k:=12) (x:="script") (CX:=λ_=>FK) (sp:=λw=>N9 (K w.params)) hn (by decide) Nk ⟨rfl,by decide,by decide⟩ hY F (λ_ _ a ns hl _ hS=>⟨a,ns,rfl,hS,hl,λ_=>rfl⟩) λ_ _ _ _ _ z=>z
end Pf
open PySem.W
local macro_rules | `(tactic| walk_at "kF")=>`(tactic| (refine' L2.ZAc ?_ ?_ ?_;all_goals try k_is;all_goals k_is))
set_option maxRecDepth 100000 in
set_option maxHeartbeats 0 in
theorem PySem.Challenge.cw_stirround_k52_whole_twins_or_parted_holds : PySem.Challenge.rw_stirround_k52_whole_twins_or_parted.Holds := by
 w_on;o_law;k_head;(case hw=>w_witness2)
 k_fill
 refine Pf.walk (l:=PySem.Challenge.rw_stirround_k52_whole_twins_or_parted) rfl rfl (λw h Y=>PySem.W.kIn_of Y) ?F
 case F=>
  intro w mg fa h KX G OQ;refine' Pf.all_mk KX G OQ ?_ ?_ ?_ ?_ ?_ ?_ ?_ ?_ ?_ ?_ ?_ ?_ ?_ ?_ ?_ ?_ ?_ ?_ ?_ ?_ ?_ ?_ ?_ ?_ ?_ ?_ ?_ ?_ ?_ ?_ ?_ ?_ ?_ ?_ ?_ ?_ ?_ ?_ ?_ ?_ ?_ ?_ ?_ ?_ ?_ ?_ ?_ ?_ ?_ ?_ ?_ ?_ ?_ ?_ ?_ ?_ ?_ ?_ ?_ ?_ ?_ ?_ ?_ ?_ ?_ ?_ ?_ ?_ ?_ ?_ ?_ ?_ ?_ ?_ ?_ ?_ ?_ ?_ ?_ ?_ ?_ ?_ ?_ ?_ ?_ ?_ ?_ ?_ ?_ ?_ ?_ ?_ ?_ ?_ ?_ ?_ ?_ ?_ ?_ ?_ ?_ ?_ ?_ ?_ ?_ ?_ ?_ ?_ ?_ ?_ ?_ ?_ ?_ ?_ ?_ ?_ ?_ ?_ ?_ ?_ ?_ ?_ ?_ ?_ ?_ ?_ ?_ ?_ ?_ ?_ ?_ ?_ ?_ ?_ ?_ ?_ ?_ ?_ ?_ ?_ ?_ ?_ ?_ ?_ ?_ ?_ ?_ ?_ ?_ ?_ ?_ ?_ ?_ ?_ ?_ ?_ ?_ ?_ ?_ ?_ ?_ ?_ ?_ ?_ ?_ ?_ ?_ ?_ ?_ ?_ ?_ ?_ ?_ ?_ ?_ ?_ ?_ ?_ ?_ ?_ ?_ ?_ ?_ ?_ ?_ ?_ ?_ ?_ ?_ ?_
  any_goals first|k_is|(show _=_;k_is)|kernel_rfl|walk_at "kF"
#print axioms PySem.Challenge.cw_stirround_k52_whole_twins_or_parted_holds
