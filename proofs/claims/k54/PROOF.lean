import PyProof.Rows.All
import Wide.All
import OpenK.AllK
import PySem.Challenge.RW_stirround_k54_trials_refused
set_option genSizeOf false
set_option linter.all false
set_option compiler.extract_closed false
set_option bootstrap.genMatcherCode false
noncomputable section
def jW:=@PySem.wpAny_bind
def kA:=@PySem.wpAny_pure
def lA:=@if_neg
def lD:=@decide_eq_true
def lO:=@if_pos
def lY:=@of_decide_eq_true
def m9:=@decide_eq_true_eq
def mB:=@decide_eq_false
def mX:=@PySem.builtinLookup_eq_fast
def mn:=@PySem.wpAny_setState_of
def nU:=@PySem.wpAny_newObj_type
def nY:=@PySem.wpAny_mono
def oK:=@PySem.wpAny_holding
def oV:=@PySem.wpAny_of_eq
def pH:=@PySem.wpAny_call_entry
def pO:=@PySem.isSubtype_type
def pW:=@PySem.wpAny_callSpecial?_slot
def qd:=@PySem.typeLookup_type
def qz:=@congrArg
def rH:=@PySem.wpAny_setField
def rL:=@PySem.wpAny_askSetting
def sM:=@PySem.wpAny_truthy_bool
def sT:=@PySem.wpAny_isInstance
def sf:=@PySem.wpAny_field
def t4:=@beq_self_eq_true
def tT:=@PySem.wpAny_Call_Name_kw
def u4:=@PySem.wpAny_attempt
def uO:=@PySem.wpAny_storeSet_of
def ue:=@PySem.fits_of_scanBound
def vN:=@PySem.wpAny_specialOf
def wB:=@PySem.codeAny_builtin
def xA:=@PySem.wpAny_setEntries_of
def xB:=@PySem.wpAny_typeOf
def xq:=@decide_eq_true_iff
def y4:=@PySem.wpAny_passesOwn
def yd:=@beq_iff_eq
def yk:=@or_false
def yu:=@PySem.wpAny_updateSeq
def zk:=@PySem.wpAny_execs_nil
def ZA0:=@PySem.plainId_quiet
def ZA3:=@PySem.wpAny_setEpoch_of
def ZA7:=@PySem.wpAny_loadPart_at
def ZA8:=@PySem.wpAny_rule
def ZAL:=@PySem.codeAny_call_builtin
def ZAO:=@PySem.codeAny_mono
def ZAR:=@PySem.wpAny_call
def ZAb:=@PySem.call_meets
def ZAi:=@PySem.wpAny_pyIter_list
def ZAn:=@PySem.wpAny_standAt
def ZAo:=@PySem.signature?_of
def ZAt:=@PySem.codeAny_extend_loopS
def ZAy:=@PySem.wpAny_ite_split
def ZB7:=@PySem.wpAny_fieldsOf
def ZB8:=@PySem.entryFor_alias
def ZBG:=@if_true
def ZBJ:=@PySem.wpAny_pyIter_slot
def ZBN:=@if_false
def ZBP:=@PySem.noFill_tuple_add
def ZBQ:=@PySem.entryFor_of_tree
def ZBT:=@decide_eq_false_iff_not
def ZBY:=@PySem.wpAny_load
def ZBb:=@PySem.codeAny_of_tree
def ZBi:=@PySem.wpAny_runValue
def ZBk:=@PySem.isSubtype_stop
def Ag:=@PySem.W.mg_of
def Aw:=@List.length_map
def Az:=@Nat.le_refl
def B7:=@PySem.Heap.lt_size
def BC:=@PySem.Heap.get?_push_of_some
def BJ:=@Ne.symm
def BR:=@PySem.Heap.get?_push_size
def BY:=@Nat.ne_of_lt
def Bb:=@List.getElem?_eq_getElem
def Bc:=@List.mem_cons_self
def Bh:=@List.length_append
def Bi:=@List.size_toArray
def Bp:=@List.getElem?_map
def Bq:=@Nat.le_trans
def Bx:=@List.length_take
def By:=@List.mem_cons_of_mem
def C5:=@List.length_cons
def CG:=@Bool.and_eq_true
def CH:=@Option.some.inj
def CJ:=@Nat.zero_le
def Cb:=@List.not_mem_nil
def Co:=@Bool.false_ne_true
def Cu:=@Nat.lt_of_lt_of_le
def DE:=@PySem.Heap.get?_update_other
def Dg:=@List.mem_cons
def EC:=@Array.length_toList
def ED:=@PySem.Heap.get?_update_self
def EE:=@PySem.Heap.size_push
def EF:=@List.length_drop
def EG:=@List.map_append
def EH:=@Nat.le_succ
def Eb:=@Bool.eq_iff_iff
def Ec:=@List.all_eq_true
def FF:=@List.getElem?_set_ne
def Fc:=@List.getElem?_set_self
def Fd:=@PySem.Obj.data_mapFields
def G7:=@List.getElem?_append_left
def G8:=@List.map_cons
def Gj:=@List.map_map
def Gk:=@PySem.W.mg_none_of
def HK:=@PySem.Heap.SameBut.update
def HL:=@List.mem_append_right
def HM:=@Nat.lt_of_le_of_lt
def HN:=@PySem.F.plainAttrs_list
def HP:=@PySem.W.kia_one
def Hw:=@List.getElem_mem
def Hx:=@List.lookup_cons
def Ie:=@Int.eq_ofNat_of_zero_le
def Ig:=@List.Perm.refl
def Ih:=@List.mem_append
def Ii:=@Nat.ne_of_gt
def Jf:=@Bool.and_false
def Jg:=@Int.emod_lt_of_pos
def Jh:=@Int.emod_nonneg
def Ji:=@List.append_nil
def Jj:=@List.getD_eq_getElem?_getD
def Jk:=@List.getElem?_append_right
def Jl:=@List.length_filter_le
def Jm:=@List.replicate_succ
def Jn:=@Nat.lt_succ_of_lt
def Kx:=@Array.getElem?_eq_getElem
def Ky:=@Bool.true_and
def Kz:=@List.foldl_cons
def L4:=@List.length_reverse
def L5:=@List.mem_append_left
def L6:=@List.mem_of_getElem?
def L7:=@List.take_append_drop
def L8:=@List.take_length
def L9:=@PySem.Obj.isFreed_of_fields
def LA:=@PySem.mem_of_lookup
def MN:=@PySem.Heap.get?_none_of_le
def MO:=@List.append_assoc
def MP:=@List.flatten_cons
def MQ:=@List.getElem?_eq_none
def MR:=@List.length_erase_of_mem
def MS:=@List.length_set
def MT:=@List.map_nil
def MU:=@Nat.le_of_lt
def MV:=@Nat.lt_irrefl
def MW:=@Nat.min_eq_left
def MX:=@PySem.Value.isStrOf_shape
def OJ:=@Array.getElem?_toList
def OK:=@List.all_cons
def OL:=@List.any_eq_true
def OM:=@List.map_take
def ON:=@Nat.lt_succ_self
def OO:=@PySem.PassesOwn.never
def OP:=@PySem.F.slot_list_append
def OQ:=@PySem.F.type_list_append
def RI:=@PySem.Around.under_plainId
def RJ:=@Bool.and_true
def RK:=@Classical.byContradiction
def RL:=@PySem.Heap.SameBut.refl
def RM:=@PySem.Heap.size_after_update
def RN:=@Int.toNat_natCast
def RO:=@List.drop_zero
def RP:=@List.filterMap_cons
def RQ:=@List.length_nil
def RS:=@List.length_range
def RT:=@List.nodup_nil
def RU:=@List.take_of_length_le
def RV:=@Nat.le_of_lt_succ
def RW:=@Nat.succ.inj
def RX:=@PySem.Obj.cls_mapFields
def RY:=@Option.map_some
def Y4:=@PySem.Around.in1_handled
def Y5:=@Bool.false_and
def Y6:=@PySem.Code.quiet_builtin
def Y7:=@List.cons_lt_cons_iff
def Y8:=@List.drop_eq_getElem_cons
def Y9:=@List.filter_cons
def YA:=@List.getElem?_drop
def YB:=@List.getElem_idxOf
def YC:=@List.idxOf_cons
def YD:=@List.map_drop
def YE:=@List.mem_erase_of_ne
def YF:=@List.mem_of_mem_take
def YG:=@List.mem_singleton
def YH:=@List.nodup_append
def YI:=@List.reverse_cons
def YJ:=@Nat.le_of_eq
def YK:=@Nat.le_total
def YL:=@Nat.min_eq_right
def YM:=@Nat.mod_lt
def YN:=@Nat.sub_zero
def YO:=@Nat.succ_pos
def YQ:=@Option.bind_some
def YR:=@Prod.ext
def YS:=@PyProof.Rows.callWith_type1
def YT:=@PyProof.Rows.slot_tuple_getitem
def YU:=@PySem.F.slot_list_insert
def YV:=@PySem.strKind_is
def iJ:=@Array.getD_eq_getD_getElem?
def iK:=@Array.getElem?_eq_none
def iL:=@PySem.Calls.callWith_builtin
def iM:=@PySem.Calls.evalArgs_plain
def iN:=@PySem.Calls.spliced_nil
def iO:=@PySem.F.plain_extend_loop
def iP:=@Int.toNat_of_nonneg
def iQ:=@List.drop_length
def iR:=@List.ext_getElem
def iS:=@List.ext_getElem?
def iT:=@List.filter_append
def iU:=@List.forIn_nil
def iV:=@List.getElem?_range
def iW:=@List.getElem?_replicate
def iX:=@List.getElem?_take_of_lt
def iY:=@List.getElem_inj
def iZ:=@List.getLast?_eq_some_getLast
def ia:=@List.getLast?_map
def ib:=@List.length_pos_of_mem
def ie:=@List.length_singleton
def ig:=@List.mem_filter
def ij:=@List.nil_append
def ik:=@List.of_mem_zip
def il:=@List.pairwise_singleton
def iq:=@List.take_sublist
def ir:=@List.take_succ_eq_append_getElem
def iu:=@Nat.le_succ_of_le
def iw:=@Nat.log2_lt
def ix:=@Nat.min_self
def iy:=@Nat.mul_comm
def j3:=@Nat.zero_add
def j4:=@PyProof.Rows.F.plain_set_update_loop
def j5:=@PySem.F.args_tuple_add_2
def j6:=@PySem.F.entry_tuple_add
def j7:=@PySem.F.excBase_ValueError
def j8:=@PySem.F.slot_tuple_add
def j9:=@PySem.F.type_list_insert
def jA:=@PySem.W.callWith_K
def jB:=@PySem.W.looks_findIn
def ZCc:=@Array.eq_empty_of_size_eq_zero
def ZCd:=@Array.find?_toList
def ZCe:=@Array.toList_extract
def ZCf:=@Array.toList_push
def ZCg:=@Bool.false_eq_true
def ZCh:=@Bool.not_eq_true'
def ZCi:=@PySem.Calls.Name_function_global
def ZCj:=@Decidable.byContradiction
def ZCk:=@Int.lt_of_le_of_lt
def ZCl:=@List.cons_append
def ZCm:=@List.contains_cons
def ZCn:=@List.countP_cons
def ZCo:=@List.dropLast_concat
def ZCp:=@List.dropLast_eq_take
def ZCq:=@List.filterMap_map
def ZCr:=@List.getElem?_reverse
def ZCs:=@List.getElem?_toArray
def ZCt:=@List.length_eraseIdx_of_lt
def ZCu:=@List.length_replicate
def ZCv:=@List.map_reverse
def ZCw:=@List.mem_of_mem_head?
def ZCx:=@List.nil_sublist
def ZCy:=@List.toList_toArray
def ZCz:=@PySem.MeetsSeq2.wpAny_forIn_array
def ZD0:=@Nat.eq_zero_or_pos
def ZD1:=@Nat.le_of_not_lt
def ZD2:=@Nat.lt_of_not_le
def ZD3:=@Nat.lt_trichotomy
def ZD4:=@Nat.min_le_right
def ZD5:=@Nat.not_lt_of_le
def ZD6:=@Nat.succ_le_succ
def ZD7:=@Option.getD_none
def ZD8:=@Option.getD_some
def ZD9:=@PyProof.Rows.F.entry_set_update_loop
def ZDA:=@PySem.F.plain_set_new
def ZDB:=@PySem.F.slot_list_index
def ZDC:=@PySem.F.slot_tuple_index
def ZDD:=@PySem.W.Looks.ld
def ZDE:=@PySem.W.any_some
def ZDF:=@PySem.W.cellsFrom_some
def ZDG:=@PySem.W.kitx_dict
def ZDH:=@PySem.W.kitx_list
def ZDI:=@PySem.W.looks_clsIn
def ZDJ:=@PySem.W.looks_mroIn
def ZDK:=@PySem.SeqAt.eq_list_lengthsAt
open PySem PySem.Spec PyProof.Rows
abbrev ZE7:=PySem.W.Frag
abbrev ZE8:=(List (Addr×Obj))
abbrev ZE9:=(Str->Option Value)
namespace PySem.W.Fast
def t:=Nat
def tw12067040689735268353:=t
def tw16796888482346521559:=t
def tw2339726051063769962:=t
def tw8722359739862306454:=t
def tw13420661766615752852:=t
def tw15035172876485401752:=t
def tw8543921695105026875:=t
def tw17550605321215314951:=t
def tw14161841303961590622:=t
def tw16551470986420234443:=t
def tw9363395839867941603:=t
def tw14119455929739557466:=t
def tw9568626415033851555:=t
def tw4159652599048437115:=t
def tw8984436218519649102:=t
def tw158884234017403785:=t
def tw13015926869996878994:=t
def tw10108695818658346301:=t
def tw16699721539672935319:=t
def tw3157731503209752977:=t
def tw7083669301583754339:=t
def tw2722194094648552365:=t
def tw17401787273884333256:=t
def tw2513610520870172841:=t
def tw13399435309860367175:=t
def tw12588565126885928179:=t
def tw5501852888792640791:=t
def tw12723616726355179453:=t
def tw9388458981260348771:=t
def tw15678387343704160361:=t
def tw3178860995975000636:=t
def tw16422756708142393612:=t
def tw5026702623760038517:=t
def tw5088927799726722637:=t
def tw10201768547491345563:=t
def tw14304388129465764008:=t
def tw9896706040227194693:=t
def tw7953236951052457668:=t
def tw7598889090327457397:=t
def tw13515780485099955437:=t
def tw12971312291987481263:=t
def tw7547144487686811595:=t
def tw7256266309025896576:=t
def tw15289861496909388624:=t
def tw6393671734045761247:=t
def tw4418239946035599593:=t
def tw913014316435612466:=t
def tw11955409941840425835:=t
def tw6620178222123688536:=t
def tw1486438810006328954:=t
def tw8456261574817493762:=t
def tw10071921002829387554:=t
def tw9815284754790800959:=t
def tw16841636135893198700:=t
def tw6867366006192541844:=t
def tw5291471475210512541:=t
def tw9883175495423614819:=t
def tw17818986036459772019:=t
def tw13741512167143757311:=t
def tw6082276344812315434:=t
def tw1356455756388089397:=t
def tw9093350799515709359:=t
def tw18308699208613645087:=t
def tw8690938009290098827:=t
def tw1987192635182279511:=t
def tw3063455010683537600:=t
def tw13271007372459665992:=t
def tw3861682659624967509:=t
def tw8116022713344043535:=t
def tw11533380121845457582:=t
def tw14153469781090345984:=t
def tw15908650739404316219:=t
def tw4886074540507439060:=t
def tw867134954827180508:=t
def tw10704090857887595364:=t
def tw4631818464470971421:=t
def tw14248505792924415995:=t
def tw18073423644894928407:=t
def tw13365346916088859156:=t
def tw1241751835917297070:=t
def tw8378556625503418742:=t
def tw2182861167939966323:=t
def tw2096892798828412429:=t
def tw10723798037590826336:=t
def tw18399346962458952405:=t
def tw11506792497032603505:=t
def tw7098361303874226295:=t
def tw9842808992004664671:=t
def tw18331047675437580894:=t
def tw14264365104389407335:=t
def tw2292874314963348961:=t
def tw10455956882282133857:=t
def tw10387791719932499020:=t
def tw15877244570504697798:=t
def tw14783187670473985801:=t
def tw6725302820210502731:=t
def tw3604597709913347424:=t
def tw4301364421785908454:=t
def tw8365811349856443754:=t
def tw2254947404252852491:=t
def tw16445911849227425066:=t
def tw17395643280415510905:=t
def tw8688243930790051692:=t
def tw14469065765067729427:=t
def tw6987157733173827696:=t
def tw18238268831045813506:=t
def tw7353287275273140411:=t
def tw11249069477537343076:=t
def tw4637780388386054483:=t
def tw9295472480225692569:=t
def tw18112076931384136741:=t
def tw11950697196532751562:=t
def tw18046812397754163251:=t
def tw14133195152426836631:=t
def tw1336439911852642475:=t
def tw1188831524305779997:=t
def tw1491889576906377123:=t
def tw775211501086248287:=t
def tw3814463155026867156:=t
def tw11298775887617060097:=t
def tw10358532479399209782:=t
def tw10274832523005040454:=t
def tw17946934006242275379:=t
def tw15487696214422293887:=t
def tw1828667754325491058:=t
def tw17546829966131040880:=t
def tw10438817181300305170:=t
def tw9239015398836975564:=t
def tw16863401671366184936:=t
def tw15380305954534989388:=t
def tw3285001954700433387:=t
def tw9410800064925509564:=t
def tw14733942112334253949:=t
def tw2211659143173673728:=t
def tw7794278767962130090:=t
def tw12680846756868985518:=t
def tw12415105578658814480:=t
def tw5542883224726425207:=t
def tw16784041199103368014:=t
def tw10840653616796817334:=t
def tw9555592313658090027:=t
def tw7532285573827042938:=t
def tw17356991011824104660:=t
def tw11019480572173414015:=t
def tw16471216497784285731:=t
def tw15080893645303363891:=t
def tw586399257831809370:=t
def tw1567669417569528681:=t
def tw12912779761448110047:=t
def tw8837618852317743866:=t
def tw11477080787626194867:=t
def tw4909128063495085505:=t
def tw17198688106108600246:=t
def tw16281686452169000501:=t
def tw603800108631501205:=t
def tw2017960007166251859:=t
def tw13566854434893612673:=t
def tw13269901894457829078:=t
def tw14464620769831535634:=t
def tw967249675110192124:=t
def tw13474362379262910723:=t
def tw13270563454929478208:=t
def tw16359202764409323110:=t
def tw13061644984831153486:=t
def tw3072051144849862734:=t
def tw2703636199531859269:=t
def tw3588239425003382642:=t
def tw10280007115419627433:=t
def tw15248075291019266295:=t
def tw4092871088824858027:=t
def tw17329573444608404307:=t
def tw224657944133413398:=t
def tw3421053019768688379:=t
def tw3985724358661294596:=t
def tw13829927165659744059:=t
end PySem.W.Fast
set_option Elab.async false
set_option maxRecDepth 100000
namespace L2
variable{ds us:List Value}{α κ:Type}{C a b dx it:Addr}{w:World}{Zp h':Heap}{c cd u:Value}{name qual x:Str}{e tg:Expr}{Zf Zd:ZE8}{s s':Shared}{g':Array GenState}{i j k n t' tk:Nat}{d':Drawn}{ch fp:List Addr}{N ks ps:List Str}{M:Model}{A:Around}{E Q:Value->Shared->Prop}{ZDl pos pos':Pos}{es rest:List Expr}{f:Value->Value->Sem Value}{op:CmpOp}{mA mg:ZE9}{kw:List (Str×Value)}{fd:FuncData}{outer:List Env}{sc scope:Scope}
abbrev Key:=Sum Int Str
noncomputable def eR:Key->Value->Bool
 | .inl k,v=>Value.isInt k v
 | .inr x,v=>Value.isStrOf x v
noncomputable def ZAp(w:World):Key->Int
 | .inl k=>hashInt k
 | .inr x=>hashStr w x
theorem IJ:∀{k:Key}{v:Value},eR k v=true->(∃i t,k=Sum.inl i/\v=Value.int i t)∨(∃x t,k=Sum.inr x/\v=Value.str x t)
 | .inl i,v,h=>by
  obtain⟨t,e⟩:=Value.isInt_shape (k:=i) (v:=v) h;exact .inl ⟨i,t,rfl,e⟩
 | .inr x,v,h=>by
  obtain⟨t,e⟩:=MX (x:=x) (v:=v) h;exact .inr ⟨x,t,rfl,e⟩
theorem xV(a b:Int):decide ((Sum.inl a:Key)=Sum.inl b)=(a == b):=by
 by_cases e:a=b
 .subst e;simp
 .have h:¬ (Sum.inl a:Key)=Sum.inl b:=λq=>e (Sum.inl.inj q);rw[mB h];exact(beq_eq_false_iff_ne.mpr e).symm
theorem sI(a b:Str):decide ((Sum.inr a:Key)=Sum.inr b)=decide (a=b):=by
 by_cases e:a=b
 .subst e;simp
 .have h:¬ (Sum.inr a:Key)=Sum.inr b:=λq=>e (Sum.inr.inj q);rw[mB h,mB e]
theorem ZAJ(a:Int)(b:Str):decide ((Sum.inl a:Key)=Sum.inr b)=false:=mB (λq=>nomatch q)
theorem ZBa(a:Str)(b:Int):decide ((Sum.inr a:Key)=Sum.inl b)=false:=mB (λq=>nomatch q)
def eK(prog:Program)(w:World):PySem.KeyKind prog w Key where
 is:=eR
 hash:=ZAp w
 inj:=λv a b g d=>by
  rcases IJ g with⟨i,t,rfl,rfl⟩|⟨x,t,rfl,rfl⟩
  .rcases IJ d with⟨j,u,rfl,e⟩|⟨y,u,rfl,e⟩
   .injection e with e1 _;rw[e1]
   .exact nomatch e
  .rcases IJ d with⟨j,u,rfl,e⟩|⟨y,u,rfl,e⟩
   .exact nomatch e
   .injection e with e1 _;rw[e1]
 byValue:=λk v h=>by
  rcases IJ h with⟨i,t,rfl,rfl⟩|⟨x,t,rfl,rfl⟩ <;> rfl
 pyHash:=λc h=>by
  rcases IJ c with⟨i,t,rfl,rfl⟩|⟨x,t,rfl,rfl⟩
  .exact wpAny_pyHash_int h
  .exact wpAny_pyHash_str h
 eqBool:=λf c h=>by
  rcases IJ f with⟨i,t,rfl,rfl⟩|⟨x,t,rfl,rfl⟩
  .rcases IJ c with⟨j,u,rfl,rfl⟩|⟨y,u,rfl,rfl⟩
   .rw[xV]at h;exact wpAny_eqBool_int h
   .rw[ZAJ]at h;exact SeqAt.EqAt.int_str i t y u _ _ _ _ h
  .rcases IJ c with⟨j,u,rfl,rfl⟩|⟨y,u,rfl,rfl⟩
   .rw[ZBa]at h;exact SeqAt.EqAt.str_int x t j u _ _ _ _ h
   .rw[sI]at h;exact wpAny_eqBool_str h
 «strs»:=λk x t v h=>by
  rcases IJ h with⟨i,u,rfl,e⟩|⟨y,u,rfl,e⟩
  .exact nomatch e
  .injection e with e1 _
   subst e1;cases v <;> rfl
inductive V where
 |AB|bl (b:Bool)|int (i:Int)|str (x:Str)|Gx (b:Array UInt8)|JW (b:UInt64)|ref (a:Addr)|ty (n:String)
 deriving DecidableEq
variable{JE vs xs:List V}{v:V}
def RelV:V->Value->Prop
 | .AB,u=>u=Value.none
 | .bl b,u=>u=Value.bool b
 | .int i,u=>∃t,u=Value.int i t
 | .str x,u=>∃t,u=Value.str x t
 | .Gx b,u=>∃t,u=Value.bytes b t
 | .JW b,u=>∃t,u=Value.float b t
 | .ref a,u=>u=Value.ref a
 | .ty n,u=>u=Value.type n
abbrev Vals:List V->List Value->Prop:=Paired RelV
theorem Vals.length(r:Vals xs us):xs.length=us.length:=Paired.length r
theorem Vals.get:∀{xs:List V}{us:List Value}{i:Nat}{x:V},Vals xs us->xs[i]?=some x->∃u,us[i]?=some u/\RelV x u
 |_,_,_,_,.nil,e=>by simp at e
 |_,_,0,_,.cons r _,e=>by simp at e;subst e;exact⟨_,rfl,r⟩
 |_,_,i+1,x,.cons _ t,e=>by
  obtain⟨u,h1,h2⟩:=Vals.get (i:=i) (x:=x) t (by simpa using e)
  exact⟨u,by simpa using h1,h2⟩
theorem Vals.set{x:V}{u:Value}(r:RelV x u):∀{xs:List V}{us:List Value}(i:Nat),Vals xs us->Vals (xs.set i x) (us.set i u)
 |_,_,_,.nil=>.nil
 |_,_,0,.cons _ t=>.cons r t
 |_,_,i+1,.cons q t=>.cons q (Vals.set r i t)
theorem Vals.append:∀{xs ys:List V}{us ws:List Value},Vals xs us->Vals ys ws->Vals (xs++ys) (us++ws)
 |_,_,_,_,.nil,s=>s
 |_,_,_,_,.cons r t,s=>.cons r (Vals.append t s)
theorem Vals.take:∀{xs:List V}{us:List Value}(n:Nat),Vals xs us->Vals (xs.take n) (us.take n)
 |_,_,0,_=>.nil
 |_,_,_+1,.nil=>.nil
 |_,_,n+1,.cons r t=>.cons r (Vals.take n t)
theorem Vals.drop:∀{xs:List V}{us:List Value}(n:Nat),Vals xs us->Vals (xs.drop n) (us.drop n)
 |_,_,0,r=>r
 |_,_,_+1,.nil=>.nil
 |_,_,n+1,.cons _ t=>Vals.drop n t
def WJ:Option V->Option Value->Prop
 |some v,some u=>RelV v u
 |none,none=>True
 |_,_=>False
def KV:List (κ×V)->List (κ×Value)->Prop:=Paired λ(p:κ×V)(q:κ×Value)=>p.1=q.1/\RelV p.2 q.2
noncomputable def kV:Key->V
 | .inl i=>.int i
 | .inr x=>.str x
inductive HO where
 /-- a list -/
 |lst (xs:List V)
 /-- a tuple (never changes) -/
 |tup (xs:List V)
 /-- a dict vC keys are ints and texts;one vC keys are tuples of ints and texts (Gp empty one is both) -/
 |dK (CB:List (Key×V))|dT (CB:List (List Key×V))
 /-- a set of ints: A3 members,A3 size -/
 |set (S:Int->Bool) (n:Nat)
 /-- an instance of Gp class at C,A3 dict at dx,A3 attributes -/
 |ins (C dx:Addr) (fs:List (Str×V))
 /-- Gp dict of Gp instance at x -/
 |own (x:Addr)
 /-- Gp dict of an exception -/
 |xd (fs:List (Str×V))
 /-- a bound method,f of x -/
 |met (f x:Addr)
 /-- a range object lo,lo+1,.. below hi -/
 |P8 (lo hi:Int)
 /-- a tV ZDY is known to Gp object (Gp aL;a dict while a loop walks it): read,never written while it is so -/
 |FE (o:Obj) (u:HO)
 /-- a code ZDf table -/
 |JA (ps:Array Value)
 /-- any other tV,by lM is true of A3 one object (a def of ZDi own: ZBp a S n:=HO.ext λh=>..) -/
 |ext (φ:Heap->Prop)
variable{o o':HO}
abbrev Hp:=Addr->Option HO
variable{H H':Hp}
noncomputable def upd(H:Hp)(a:Addr)(o:HO):Hp:=λb=>if b=a then some o else H b
theorem AZ:upd H a o a=some o:=by unfold upd;rw[lO rfl]
theorem As(h:b≠a):upd H a o b=H b:=by unfold upd;rw[lA h]
theorem Dd(h:H a=some o)(h':H b=none):a≠b:=by
 intro e;subst e;rw[h]at h';cases h'
section
variable(P:Program)(w:World)
def CU(H:Hp)(h:Heap)(a:Addr):HO->Prop
 | .lst xs=>xs.length<=sizeLine/\∃(A3:List Value)(n:Nat),Vals xs A3/\h.get? a=some { cls:=.type "list", data:=.seq A3.toArray n }
 | .tup xs=>xs.length<=sizeLine/\∃A3:List Value,Vals xs A3/\(IsTup h a A3.toArray/\∀ob,h.get? a=some ob->ob.dict=none)
 | .dK CB=>CB.length<=sizeLine/\(a == sysModules)=false/\∃vs,KV CB vs/\h.DictOf (eK P w) a vs
 | .dT CB=>CB.length<=sizeLine/\(a == sysModules)=false/\∃xs:List (List Key×Addr×Value),
   Paired (λ(p:List Key×V)(q:List Key×Addr×Value)=>p.1=q.1/\H q.2.1=some (.tup (p.1.map kV))/\RelV p.2 q.2.2) CB xs/\
   ∃o es ep,h.get? a=some o/\o.ExactDict/\o.data=.dict es ep/\es.toList=xs.map (entryOfKey (tupleKind (eK P w)))/\(xs.map (·.1)).Nodup
 | .set S n=>h.SetOf (intKind P w) a S n
 | .ins C dx fs=>H dx=some (.own a)/\fs.length<=1000/\dx≠a/\h.get? a=some (PySem.W.instObj C dx)/\
   ∃mA,h.Ns1 dx mA/\(∀f,WJ (fs.lookup f) (mA f))/\PySem.Within mA (fs.map (·.1))
 | .own _=>∃o,h.get? a=some o
 | .xd fs=>∃mA,h.Ns1 a mA/\∀f,WJ (fs.lookup f) (mA f)
 | .P8 lo hi=>∃t u v,h.get? a=some { cls:=.type "range", data:=.fields #[.int lo t,.int hi u,.int 1 v] }
 | .FE o u=>h.get? a=some o/\CU H h a u
 | .JA ps=>h.get? a=some { cls:=.none,data:=.fields ps }
 | .met f x=>h.get? a=some (PySem.W.methodObj (.ref f) (.ref x))
 | .ext φ=>φ h/\(∃o,h.get? a=some o)/\∀h1 h2:Heap,φ h1->(∀o,h1.get? a=some o->h2.get? a=some o)->φ h2
def C4(H:Hp)(h:Heap):Prop:=∀a o,H a=some o->CU P w H h a o
end
section
variable{P:Program}{h:Heap}
theorem CU.lt(x:CU P w H h a o):a<h.objs.size:=by
 cases o with
 |lst xs=>obtain⟨_,_,_,_,e⟩:=x;exact B7 e
 |tup xs=>obtain⟨_,_,_,p⟩:=x;exact p.1.lt
 |dK CB=>obtain⟨_,_,_,_,o,_,_,e,_⟩:=x;exact B7 e
 |dT CB=>obtain⟨_,_,_,_,o,_,_,e,_⟩:=x;exact B7 e
 |set S n=>obtain⟨o,_,_,_,e,_⟩:=x;exact B7 e
 |ins C dx fs=>obtain⟨_,_,_,e,_⟩:=x;exact B7 e
 |own y=>obtain⟨_,e⟩:=x;exact B7 e
 |xd fs=>obtain⟨_,⟨_,_,_,e,_⟩,_⟩:=x;exact B7 e
 |P8 lo hi=>obtain⟨_,_,_,e⟩:=x;exact B7 e
 |FE ob u=>obtain⟨e,_⟩:=x;exact B7 e
 |JA ps=>exact B7 (show h.get? a=some _ from x)
 |met f y=>exact B7 (show h.get? a=some _ from x)
 |ext φ=>obtain⟨_,⟨_,e⟩,_⟩:=x;exact B7 e
theorem Paired.iH{α β:Type}{F G:α->β->Prop}:∀{l₁:List α}{l₂:List β},Paired F l₁ l₂->(∀a b,F a b->G a b)->Paired G l₁ l₂
 |_,_,.nil,_=>.nil
 |_,_,.cons r t,f=>.cons (f _ _ r) (Paired.iH t f)
theorem CU.Ho(x:CU P w H h a o)(k:∀b u,(b=a∨H b=some (.own a))->h.get? b=some u->h'.get? b=some u)
  (ho:∀b,H b=some (.own a)->H' b=some (.own a)) (j:∀b xs,H b=some (.tup xs)->H' b=some (.tup xs)):CU P w H' h' a o:=by
 induction o with
 |lst xs=>obtain⟨z,A3,n,r,e⟩:=x;exact⟨z,A3,n,r,k _ _ (.inl rfl) e⟩
 |tup xs=>obtain⟨z,A3,r,⟨ob,e,c⟩,m⟩:=x;exact⟨z,A3,r,⟨ob,k _ _ (.inl rfl) e,c⟩,λR7 g=>by rw[k _ _ (.inl rfl) e]at g;cases g;exact m _ e⟩
 |dK CB=>obtain⟨z,y,vs,r,ob,es,ep,e,c⟩:=x;exact⟨z,y,vs,r,ob,es,ep,k _ _ (.inl rfl) e,c⟩
 |dT CB=>
  obtain⟨z,y,xs,r,ob,es,ep,e,c⟩:=x;exact⟨z,y,xs,Paired.iH r λp q z=>⟨z.1,j _ _ z.2.1,z.2.2⟩,ob,es,ep,k _ _ (.inl rfl) e,c⟩
 |set S n=>obtain⟨ob,es,ep,t,e,c⟩:=x;exact⟨ob,es,ep,t,k _ _ (.inl rfl) e,c⟩
 |ins C dx fs=>
  obtain⟨d,z,ne,e,mA,⟨od,es,ep,l,c⟩,r⟩:=x;exact⟨ho _ d,z,ne,k _ _ (.inl rfl) e,mA,⟨od,es,ep,k _ _ (.inr d) l,c⟩,r⟩
 |own y=>obtain⟨ob,e⟩:=x;exact⟨ob,k _ _ (.inl rfl) e⟩
 |xd fs=>obtain⟨mA,⟨od,es,ep,e,c⟩,r⟩:=x;exact⟨mA,⟨od,es,ep,k _ _ (.inl rfl) e,c⟩,r⟩
 |P8 lo hi=>obtain⟨t,u,v,e⟩:=x;exact⟨t,u,v,k _ _ (.inl rfl) e⟩
 |FE ob u i=>obtain⟨e,q⟩:=x;exact⟨k _ _ (.inl rfl) e,i q⟩
 |JA ps=>
  have e:h.get? a=some { cls:=.none,data:=.fields ps }:=x;show h'.get? a=some { cls:=.none,data:=.fields ps };exact k a _ (.inl rfl) e
 |met f y=>
  have e:h.get? a=some (PySem.W.methodObj (.ref f) (.ref y)):=x;show h'.get? a=some (PySem.W.methodObj (.ref f) (.ref y));exact k a _ (.inl rfl) e
 |ext φ=>obtain⟨p,⟨o,e⟩,st⟩:=x;exact⟨st _ _ p λo q=>k _ _ (.inl rfl) q,⟨o,k _ _ (.inl rfl) e⟩,st⟩
theorem C4.lt(x:C4 P w H h)(e:H a=some o):a<h.objs.size:=(x a o e).lt
theorem C4.fresh(x:C4 P w H h)(e:h.objs.size<=a):H a=none:=by
 cases q:H a with
 |none=>rfl
 |some u=>exact absurd (Cu (x.lt q) e) (MV _)
theorem C4.kept(x:C4 P w H h)(k:∀b u,h.get? b=some u->h'.get? b=some u):C4 P w H h':=λa o e=>
 (x a o e).Ho (λb u _ q=>k b u q) (λ_ q=>q) λ_ _ q=>q
theorem C4.laid(x:C4 P w H h)(k:∀b u,h.get? b=some u->h'.get? b=some u)(g:h.objs.size<=a)(d:CU P w (upd H a o) h' a o):C4 P w (upd H a o) h':=λb u e=>by
 have hn:=x.fresh g
 by_cases f:b=a
 .subst f;rw[AZ]at e;cases e;exact d
 .rw[As f]at e;exact(x b u e).Ho (λc v _ q=>k c v q) (λc q=>by rw[As (Dd q hn)];exact q) λc xs q=>by rw[As (Dd q hn)];exact q
end
def Rd(H:Hp)(a:Addr)(u:HO):Prop:=H a=some u∨∃o,H a=some (.FE o u)
theorem Rd.ok{P:Program}{h:Heap}{u:HO}(r:Rd H a u)(x:C4 P w H h):CU P w H h a u:=by
 rcases r with r|⟨o,r⟩
 .exact x a u r
 .obtain⟨_,q⟩:=x a _ r;exact q
def O6:Option HO->Prop
 |some (.lst _)=>True
 |some (.dK _)=>True
 |some (.dT _)=>True
 |some (.set _ _)=>True
 |some (.ins _ _ _)=>True
 |some (.ext _)=>True
 |_=>False
section
variable{P:Program}{h:Heap}{x e:Addr}
theorem C4.write(ok:C4 P w H h)(a:O6 (H x))(l:e=x∨H e=some (.own x))(k:∀b u,b≠e->h.get? b=some u->h'.get? b=some u)(ME:∃u,h'.get? e=some u)
  (i:CU P w (upd H x o') h' x o'):C4 P w (upd H x o') h':=λb u q=>by
 have m:∀c y,H c=some (.own y)->c≠x:=λc y r z=>by subst z;rw[r]at a;exact a
 have n:∀c xs,H c=some (.tup xs)->c≠x:=λc xs r z=>by subst z;rw[r]at a;exact a
 by_cases f:b=x
 .subst f;rw[AZ]at q;cases q;exact i
 .rw[As f]at q
  by_cases g:b=e
  .have j:H b=some (.own x):=by
    rcases l with z|z
    .exact absurd (g.trans z) f
    .rw[g];exact z
   rw[q]at j;cases j;obtain⟨v,o⟩:=ME;exact⟨v,by rw[g];exact o⟩
  .refine(ok b u q).Ho (λc v d r=>k c v ?_ r) (λc r=>by rw[As (m c b r)];exact r) λc xs r=>by rw[As (n c xs r)];exact r
   rcases d with rfl|d
   .exact g
   .rintro rfl;rcases l with z|z
    .exact m c b d z
    .rw[d]at z;cases z;exact f rfl
end
structure Un (fs ex:List Addr) (H H':Hp) (h h':Heap):Prop where
 keep:∀b o,h.get? b=some o->H b=none->b∉fs->b∉ex->h'.get? b=some o
 slot:∀b o,h.get? b=some o->H b=none->b∈fs->b∉ex->∃sl,h'.get? b=some { o with slots:=sl }
 free:∀b o,h.get? b=some o->H b=none->b∉ex->H' b=none
 there:∀b o,h.get? b=some o->b∉ex->∃o',h'.get? b=some o'
 Fm:∀b xs,H b=some (.tup xs)->H' b=some (.tup xs)
 FY:∀b o u,H b=some (.FE o u)->H' b=some (.FE o u)
 Fo:∀b ps,H b=some (.JA ps)->∃more,H' b=some (.JA (ps++more))
section
variable{fs qJ ex ex':List Addr}{H1 H2:Hp}{h h1 h2:Heap}{x e:Addr}
theorem Un.any(u:Un fs ex H H1 h h1){ob:Obj}(q:h.get? b=some ob)(n:H b=none)(hx:b∉ex):∃sl,h1.get? b=some { ob with slots:=sl }:=by
 by_cases a:b∈fs
 .exact u.slot b ob q n a hx
 .exact⟨ob.slots,u.keep b ob q n a hx⟩
theorem Un.kept(k:∀b u,h.get? b=some u->h'.get? b=some u):Un fs ex H H h h':=
 ⟨λb ob q _ _ _=>k b ob q,λb ob q _ _ _=>⟨ob.slots,k b ob q⟩,λ_ _ _ n _=>n,λb ob q _=>⟨ob,k b ob q⟩,λ_ _ q=>q,λ_ _ _ q=>q,λ_ ps q=>⟨#[],by rw[q];simp⟩⟩
theorem Un.refl:Un fs ex H H h h:=Un.kept λ_ _ q=>q
theorem Un.laid(k:∀b u,h.get? b=some u->h'.get? b=some u)(c:h.objs.size<=a)(hn:H a=none):Un fs ex H (upd H a o) h h' where
 keep:=λb u q _ _ _=>k b u q
 slot:=λb u q _ _ _=>⟨u.slots,k b u q⟩
 free:=λb u q n _=>by rw[As (BY (Cu (B7 q) c))];exact n
 there:=λb u q _=>⟨u,k b u q⟩
 Fm:=λb xs q=>by rw[As (Dd q hn)];exact q
 FY:=λb u xs q=>by rw[As (Dd q hn)];exact q
 Fo:=λb ps q=>⟨#[],by rw[As (Dd q hn),q];simp⟩
theorem Un.write(a:O6 (H x))(g:e=x∨H e=some (.own x))(k:∀b u,b≠e->h.get? b=some u->h'.get? b=some u)(ME:∃u,h'.get? e=some u):Un fs ex H (upd H x o) h h':=by
 have hx:∀b,H b=none->b≠x:=λb n z=>by subst z;rw[n]at a;exact a
 have d:∀b,H b=none->b≠e:=λb n z=>by
  subst z;rcases g with r|r
  .exact hx b n r
  .rw[n]at r;cases r
 have c:∀b u,H b=some u->¬ O6 (some u)->b≠x:=λb u q nm z=>by subst z;rw[q]at a;exact nm a
 refine⟨λb u q n _ _=>k b u (d b n) q,λb u q n _ _=>⟨u.slots,k b u (d b n) q⟩,λb u q n _=>by rw[As (hx b n)];exact n,λb u q _=>?_,
  λb xs q=>by rw[As (c b _ q λz=>z)];exact q,λb u xs q=>by rw[As (c b _ q λz=>z)];exact q,λb ps q=>⟨#[],by rw[As (c b _ q λz=>z),q];simp⟩⟩
 by_cases f:b=e
 .subst f;exact ME
 .exact⟨u,k b u f q⟩
end
def PQ(h:Heap)(H:Hp):List Addr:=(List.range h.objs.size).filter λa=>(H a).isSome
def IU(h:Heap)(H:Hp):Heap:=PySem.W.hideAll h (PQ h H)
theorem xE(h:Heap)(H:Hp):(IU h H).objs.size=h.objs.size:=PySem.W.hideAll_size _ _
theorem rq{h:Heap}{o:Obj}(e:h.get? b=some o)(n:H b=none):(IU h H).get? b=some o:=
 PySem.W.hideAll_get _ e λa=>by
  have q:(H b).isSome=true:=(List.mem_filter.mp a).2;rw[n]at q;simp at q
theorem vw{h:Heap}{o:Obj}(e:(IU h H).get? b=some o):h.get? b=some o/\H b=none:=by
 have a:h.get? b=some o:=PySem.W.of_hideAll (PQ h H) e;refine⟨a,?_⟩;cases q:H b with
 |none=>rfl
 |some x=>
  have c:b∈PQ h H:=List.mem_filter.mpr ⟨List.mem_range.mpr (B7 a),by simp[q]⟩;have z:(IU h H).get? b=none:=PySem.W.hideAll_none (PQ h H) c;rw[z]at e;cases e
structure Mod (K:ZE7) (mg:ZE9) (Zp:Heap):Prop where
 Gs:K.In Zp
 glob:Zp.Ns mainGlobals mg
 blt:∃mb,Zp.Ns builtinsNs mb/\∀x:Str,x ≠"__name__" -> mb x=bootBuiltins x
 nolimit:Zp.NoLimit
structure Cx where
 prog:Program
 w:World
 K:ZE7
 mg:ZE9
 base:Heap
 A:Around
 N:List Str
 s₀:Shared
 H₀:Hp
 env:Env
 outer:List Env
 stack:List Env
 ex:List Addr
 fn:Str->Bool
 calm:Bool
 pn:ZE8
 xe:Value->Shared->Prop
variable{X:Cx}
def BV(l:List Env):List Addr:=l.filterMap (·.frame)
abbrev Cx.fs(X:Cx):List Addr:=BV X.outer
def Pa(sc:Scope)(x:Str):Prop:=sc.names.lookup x=some .local∨sc.names.lookup x=some .cell∨sc.names.lookup x=some .free
def Loc(sc:Scope)(x:Str):Prop:=sc.names.lookup x=some .local∨sc.names.lookup x=some .cell
def Look(env:Env)(h:Heap)(m:ZE9)(x:Str)(u:Value):Prop:=
 (env.kindOf x=some .local/\m x=some u)∨((env.kindOf x=some .cell∨env.kindOf x=some .free)/\∃c,env.cells.lookup x=some c/\h.IsCell c (some u))
structure Cx.Ok (X:Cx):Prop where
 mod:Mod X.K X.mg X.base
 kind:X.env.scope.kind=.function
 glob:X.env.globals=mainGlobals
 blt:X.env.builtins=builtinsNs
 above:X.s₀.heap.objs.size<=X.env.locals
 inj:∀x y c,X.env.cells.lookup x=some c->X.env.cells.lookup y=some c->x=y
 has:∀x,(X.env.kindOf x=some .cell∨X.env.kindOf x=some .free)->∃c,X.env.cells.lookup x=some c
 JN:∀x c,X.fn x=true->X.env.cells.lookup x=some c->X.s₀.heap.objs.size<=c
 hd:X.calm=true->X.A.handled=none
 frames:X.A.frames=some X.stack
 Hc:X.stack=X.outer∨(X.stack=X.env::X.outer/\X.env.frame=some X.env.locals)
 KR:∀b∈X.ex,b≠X.env.locals/\∀x c,X.env.cells.lookup x=some c->c≠b
 bs:∀b o,X.base.get? b=some o->X.s₀.heap.get? b=some o/\X.H₀ b=none
 GS:X.base.objs.size<=X.s₀.heap.objs.size
 JL:∀b o,X.base.get? b=some o->b∉X.ex
 J6:∀b∈X.ex,b∉X.fs
 FC:X.s₀.heap.FunFrames X.base X.outer
 Hg:∀b∈X.fs,X.H₀ b=none
structure Inv (X:Cx) (Zd:ZE8) (Z:List (Option V)) (H:Hp) (s:Shared):Prop where
 ok:X.Ok
 os:s.os=X.s₀.os
 bare:AllBare s.gens
 base:Un X.fs X.ex X.H₀ H X.s₀.heap s.heap
 loc:∃m,s.heap.Ns X.env.locals m/\∀(i:Nat)(x:Str)(v:V),X.N[i]?=some x->Z[i]?=some (some v)->Pa X.env.scope x->∃u,RelV v u/\Look X.env s.heap m x u
 cell:∀x c,X.env.cells.lookup x=some c->∃v,s.heap.IsCell c v
 free:H X.env.locals=none
 DZ:∀x c,X.env.cells.lookup x=some c->H c=none
 pin:∀p∈X.pn++Zd,s.heap.get? p.1=some p.2/\H p.1=none/\p.1≠X.env.locals/\p.1∉X.fs/\∀v,p.2.data≠.cell v
 AN:C4 X.prog X.w H s.heap
 len:Z.length=X.N.length
section
variable{Z:List (Option V)}
theorem Cx.Ok.nP(ok:X.Ok){o:Obj}(e:X.base.get? b=some o):b∉X.fs:=λa=>by
 have:=(ok.FC.mem a).1;rw[e]at this;cases this
theorem Inv.bs(I:Inv X Zd Z H s):∀b o,X.base.get? b=some o->s.heap.get? b=some o/\H b=none:=λb o e=>
 ⟨I.base.keep b o (I.ok.bs b o e).1 (I.ok.bs b o e).2 (I.ok.nP e) (I.ok.JL b o e),I.base.free b o (I.ok.bs b o e).1 (I.ok.bs b o e).2 (I.ok.JL b o e)⟩
theorem Inv.bk(I:Inv X Zd Z H s):∀b o,X.base.get? b=some o->s.heap.get? b=some o:=λb o e=>(I.bs b o e).1
theorem Inv.mod(I:Inv X Zd Z H s):Mod X.K X.mg X.base:=I.ok.mod
theorem Inv.C8(I:Inv X Zd Z H s):X.K.In s.heap:=I.ok.mod.Gs.keeps I.bk
theorem Inv.lt(I:Inv X Zd Z H s):X.env.locals<s.heap.objs.size:=let ⟨_,hn,_⟩:=I.loc;hn.lt
theorem Inv.sz(I:Inv X Zd Z H s):X.s₀.heap.objs.size<=s.heap.objs.size:=Bq I.ok.above (MU I.lt)
theorem Inv.xM(I:Inv X Zd Z H s)(h:s.heap.objs.size<=a):a∉X.fs:=λb=>by
 obtain⟨_,o,ho,_⟩:=I.ok.FC.mem b;exact absurd (Cu (B7 ho) (Bq I.sz h)) (MV _)
theorem Inv.G2(I:Inv X Zd Z H s):∀x c,X.env.cells.lookup x=some c->c≠X.env.locals:=λx c e z=>by
 obtain⟨v,o,ho,hd⟩:=I.cell x c e;obtain⟨m,⟨o',es,ep,Cf,DF,_⟩,_⟩:=I.loc;rw[z,Cf]at ho;cases ho;rw[DF]at hd;cases hd
theorem Inv.FC(I:Inv X Zd Z H s):s.heap.FunFrames X.base X.outer:=by
 have all:∀(l:List Env),(∀b∈BV l,b∈X.fs)->X.s₀.heap.FunFrames X.base l->s.heap.FunFrames X.base l:=by
  intro l
  induction l with
  |nil=>intro _ _;trivial
  |cons env r g=>
   intro f i;obtain⟨j,⟨L,o,a,hn,ho,hd⟩,h⟩:=i;have d:L∈X.fs:=f L (by unfold BV;rw[RP,a];exact Bc);obtain⟨sl,e⟩:=I.base.slot L o ho (I.ok.Hg L d) d λz=>I.ok.J6 L z d;exact⟨j,⟨L,_,a,hn,e,hd⟩,g (λb c=>f b (by unfold BV;rw[RP,a];exact By _ c)) h⟩
 exact all X.outer (λ_ c=>c) I.ok.FC
theorem Inv.stack(I:Inv X Zd Z H s):s.heap.FunFrames X.base X.stack:=by
 rcases I.ok.Hc with e|⟨e,hf⟩
 .rw[e];exact I.FC
 .rw[e];obtain⟨m,hn,_⟩:=I.loc;refine .cons (by rw[I.ok.kind];decide) hf hn ?_ I.FC;exact MN (Bq I.ok.GS I.ok.above)
theorem Inv.NH(I:Inv X Zd Z H s):∀b∈BV X.stack,b∈X.env.locals::X.fs:=λb a=>by
 rcases I.ok.Hc with e|⟨e,hf⟩
 .rw[e]at a;exact By _ a
 .rw[e]at a;unfold BV at a;rw[RP,hf]at a;exact a
theorem Inv.QN(I:Inv X Zd Z H s):∀b∈BV X.stack,H b=none:=λb a=>by
 rcases List.mem_cons.mp (I.NH b a)with e|a
 .rw[e];exact I.free
 .obtain⟨_,o,ho,_⟩:=I.ok.FC.mem a;exact I.base.free b o ho (I.ok.Hg b a) λz=>I.ok.J6 b z a
theorem Inv.step(I:Inv X Zd Z H s)
  (Hf:∀b∈ch,(b∈X.ex∨X.s₀.heap.objs.size<=b)/\b≠X.env.locals/\(∀x c,X.env.cells.lookup x=some c->c≠b)/\∀p∈X.pn++Zd,p.1≠b)
  (keep:∀b o,b≠X.env.locals->b∉X.fs->b∉ch->s.heap.get? b=some o->H b=none->h'.get? b=some o)
  (slot:∀b o,b≠X.env.locals->b∈X.fs->b∉ch->s.heap.get? b=some o->H b=none->∃sl,h'.get? b=some { o with slots:=sl }) (free:∀b o,b∉ch->s.heap.get? b=some o->H b=none->H' b=none)
  (there:∀b o,b∉ch->s.heap.get? b=some o->∃o',h'.get? b=some o')
  (Fm:∀b xs,H b=some (.tup xs)->H' b=some (.tup xs)) (FY:∀b o u,H b=some (.FE o u)->H' b=some (.FE o u)) (Fo:∀b ps,H b=some (.JA ps)->∃more,H' b=some (.JA (ps++more)))
  (ns:∀m,s.heap.Ns X.env.locals m->h'.Ns X.env.locals m) (AN:C4 X.prog X.w H' h') (hg:AllBare g') :
  Inv X Zd Z H' { s with heap:=h',gens:=g',drawn:=d',toks:=t' }:=by
 have C:∀b o,X.s₀.heap.get? b=some o->b≠X.env.locals:=λb o e=>BY (Cu (B7 e) I.ok.above);have t:∀b o,X.s₀.heap.get? b=some o->b∉X.ex->b∉ch:=λb o e hx g=>by
  rcases(Hf b g).1 with z|z
  .exact hx z
  .exact absurd (Cu (B7 e) z) (MV _)
 have a:∀x c,X.env.cells.lookup x=some c->∀v,s.heap.IsCell c v->h'.IsCell c v:=λx c e v AR=>by
  obtain⟨o,ho,hd⟩:=AR;have j:c∉ch:=λz=>(Hf c z).2.2.1 x c e rfl
  by_cases B:c∈X.fs
  .obtain⟨sl,q⟩:=slot c o (I.G2 x c e) B j ho (I.DZ x c e);exact⟨_,q,hd⟩
  .exact⟨o,keep c o (I.G2 x c e) B j ho (I.DZ x c e),hd⟩
 refine⟨I.ok,I.os,hg,⟨λb o e n g hx=>?_,λb o e n g hx=>?_,λb o e n hx=>?_,λb o e hx=>?_,λb xs e=>Fm b xs (I.base.Fm b xs e),λb o xs e=>FY b o xs (I.base.FY b o xs e),λb ps e=>?_⟩,?_,λx c e=>?_,?_,λx c e=>?_,λp A=>?_,AN,I.len⟩
 .exact keep b o (C b o e) g (t b o e hx) (I.base.keep b o e n g hx) (I.base.free b o e n hx)
 .obtain⟨sl,f⟩:=I.base.slot b o e n g hx;obtain⟨WT,h⟩:=slot b _ (C b o e) g (t b o e hx) f (I.base.free b o e n hx);exact⟨WT,h⟩
 .obtain⟨o',f⟩:=I.base.there b o e hx;exact free b o' (t b o e hx) f (I.base.free b o e n hx)
 .obtain⟨o',f⟩:=I.base.there b o e hx;exact there b o' (t b o e hx) f
 .obtain⟨E,f⟩:=I.base.Fo b ps e;obtain⟨D,h⟩:=Fo b _ f;exact⟨E++D,by rw[h,Array.append_assoc]⟩
 .obtain⟨m,hn,F⟩:=I.loc;refine⟨m,ns m hn,λi x v f h G=>?_⟩;obtain⟨u,r,l⟩:=F i x v f h G;refine⟨u,r,?_⟩;rcases l with l|⟨k,c,e,z⟩
  .exact .inl l
  .exact .inr ⟨k,c,e,a x c e _ z⟩
 .obtain⟨v,z⟩:=I.cell x c e;exact⟨v,a x c e v z⟩
 .obtain⟨m,⟨o,_,_,ho,_⟩,_⟩:=I.loc;exact free _ o (λz=>(Hf _ z).2.1 rfl) ho I.free
 .obtain⟨v,o,ho,hd⟩:=I.cell x c e;exact free c o (λz=>(Hf c z).2.2.1 x c e rfl) ho (I.DZ x c e)
 .obtain⟨e,n,ne,y,d⟩:=I.pin p A;have j:p.1∉ch:=λz=>(Hf p.1 z).2.2.2 p A rfl;exact⟨keep p.1 p.2 ne y j e n,free p.1 p.2 j e n,ne,y,d⟩
theorem Inv.un(I:Inv X Zd Z H s)(u:Un X.fs [] H H' s.heap h')(AN:C4 X.prog X.w H' h'):Inv X Zd Z H' { s with heap:=h',toks:=t' }:=by
 obtain⟨m,⟨o,es,ep,ho,r⟩,_⟩:=id I.loc;obtain⟨sl,f⟩:=u.any ho I.free (by simp);exact I.step (g':=s.gens) (d':=s.drawn) (ch:=[]) (λ_ z=>nomatch z) (λb o _ a _ e n=>u.keep b o e n a (by simp)) (λb o _ a _ e n=>u.slot b o e n a (by simp)) (λb o _ e n=>u.free b o e n (by simp)) (λb o _ e=>u.there b o e (by simp)) u.Fm u.FY u.Fo (λg d=>by
  obtain⟨o',Bv,J4,Cf,c⟩:=d;rw[ho]at Cf;cases Cf;exact⟨_,Bv,J4,f,c⟩) AN I.bare
theorem Inv.call(I:Inv X Zd Z H s)(u:Un (BV X.stack) ch H H' s.heap h')(AN:C4 X.prog X.w H' h')(h:AllBare g')
  (Hf:∀b∈ch,(b∈X.ex∨X.s₀.heap.objs.size<=b)/\b≠X.env.locals/\(∀x c,X.env.cells.lookup x=some c->c≠b)/\∀p∈X.pn++Zd,p.1≠b) :
  Inv X Zd Z H' { s with heap:=h',gens:=g',drawn:=d',toks:=t' }:=by
 obtain⟨m,⟨o,es,ep,ho,r⟩,_⟩:=id I.loc;obtain⟨sl,d⟩:=u.any ho I.free λz=>(Hf _ z).2.1 rfl;exact I.step (ch:=ch) Hf (λb o d i a e n=>u.keep b o e n (λz=>(List.mem_cons.mp (I.NH b z)).elim d i) a) (λb o _ _ a e n=>u.any e n a) (λb o a e n=>u.free b o e n a) (λb o a e=>u.there b o e a) u.Fm u.FY u.Fo (λj g=>by
  obtain⟨o',Bv,J4,Cf,f⟩:=g;rw[ho]at Cf;cases Cf;exact⟨_,Bv,J4,d,f⟩) AN h
theorem Inv.turned(I:Inv X Zd Z H s)(k:∀b o,b≠it->s.heap.get? b=some o->h'.get? b=some o)(hn:H it=none)(d:it≠X.env.locals)
  (h1:it∈X.ex∨X.s₀.heap.objs.size<=it) (h2:∀x c,X.env.cells.lookup x=some c->c≠it) (i:∀p∈X.pn++Zd,p.1≠it):Inv X Zd Z H { s with heap:=h',toks:=t' }:=by
 have f:∀b u,H b=some u->b≠it:=λb u e z=>by rw[z,hn]at e;cases e
 refine I.step (g':=s.gens) (d':=s.drawn) (ch:=[it]) (λb h=>?_) (λb o _ _ a e _=>k b o (λz=>a (by simp[z])) e) (λb o _ _ a e _=>⟨o.slots,k b o (λz=>a (by simp[z])) e⟩) (λ_ _ _ _ n=>n)
  (λb o a e=>⟨o,k b o (λz=>a (by simp[z])) e⟩) (λ_ _ e=>e) (λ_ _ _ e=>e) (λb ps e=>⟨#[],by rw[e];simp⟩) (λm g=>?_) (λb u e=>?_) I.bare
 .have e:b=it:=by simpa using h
  subst e;exact⟨h1,d,h2,i⟩
 .obtain⟨o,es,ep,ho,r⟩:=g;exact⟨o,es,ep,k _ o (BJ d) ho,r⟩
 .refine(I.AN b u e).Ho (λc v a q=>k c v ?_ q) (λ_ q=>q) λ_ _ q=>q;rcases a with z|z
  .rw[z];exact f b u e
  .exact f c _ z
theorem Inv.tok(I:Inv X Zd Z H s)(t:Nat):Inv X Zd Z H { s with toks:=t }:=I.un (h':=s.heap) (t':=t) Un.refl I.AN
theorem Inv.kept(I:Inv X Zd Z H s)(k:∀b u,s.heap.get? b=some u->h'.get? b=some u):Inv X Zd Z H { s with heap:=h',toks:=t' }:=I.un (Un.kept k) (I.AN.kept k)
theorem Inv.laid(I:Inv X Zd Z H s)(k:∀b u,s.heap.get? b=some u->h'.get? b=some u)(d:s.heap.objs.size<=a)(c:CU X.prog X.w (upd H a o) h' a o):
  Inv X Zd Z (upd H a o) { s with heap:=h',toks:=t' }:=I.un (Un.laid k d (I.AN.fresh d)) (I.AN.laid k d c)
theorem Inv.write{x e:Addr}(I:Inv X Zd Z H s)(c:O6 (H x))(d:e=x∨H e=some (.own x))(k:∀b u,b≠e->s.heap.get? b=some u->h'.get? b=some u)(ME:∃u,h'.get? e=some u)
  (a:CU X.prog X.w (upd H x o) h' x o):Inv X Zd Z (upd H x o) { s with heap:=h',toks:=t' }:=I.un (Un.write c d k ME) (I.AN.write c d k ME a)
theorem Inv.gu(I:Inv X Zd Z H s)(h:∀p∈Zf,s.heap.get? p.1=some p.2/\H p.1=none/\p.1≠X.env.locals/\p.1∉X.fs/\∀v,p.2.data≠.cell v):Inv X Zf Z H s:=
 ⟨I.ok,I.os,I.bare,I.base,I.loc,I.cell,I.free,I.DZ,λp a=>(List.mem_append.mp a).elim (λz=>I.pin p (L5 _ z)) (h p),I.AN,I.len⟩
theorem Rm(c:N.Nodup)(a:N[i]?=some x)(b:N[j]?=some x):i=j:=by
 obtain⟨h1,e⟩:=List.getElem?_eq_some_iff.mp a;obtain⟨h2,d⟩:=List.getElem?_eq_some_iff.mp b;exact(iY c).mp (e.trans d.symm)
theorem Sn{Q:Unit->Shared->Prop}(I:Inv X Zd Z H s)(V:X.N.Nodup)(hi:X.N[i]?=some x)(hx:Loc X.env.scope x)(r:RelV v u)
  (h:∀s',Inv X Zd (Z.set i (some v)) H s'->(∃a,Heap.SameBut a s.heap s'.heap/\(a=X.env.locals∨X.env.cells.lookup x=some a))->Q () s') (hf:X.fn x=true∨X.env.scope.names.lookup x=some .local:=by first|exact .inl rfl|exact .inr rfl|assumption):wpAny M A (storeName X.env x u) Q E s:=by
 obtain⟨m,hn,U⟩:=id I.loc;have X6:(X.env.scope.kind == .class || (X.env.scope.kind == .module && X.env.locals != X.env.globals))=false:=by rw[I.ok.kind];rfl
 have hiσ:i<Z.length:=by rw[I.len];exact(List.getElem?_eq_some_iff.mp hi).1
 have G2:=I.G2;have g:∀{a:Addr}{h':Heap},(∃o,s.heap.get? a=some o/\H a=none)->Heap.SameBut a s.heap h'->C4 X.prog X.w H h':=λ{a h'}ha f b ob e=>by
  obtain⟨_,_,W⟩:=ha;refine(I.AN b ob e).Ho (λc F t q=>(f.2 c ?_).trans q) (λ_ q=>q) λ_ _ q=>q;rintro rfl;rcases t with rfl|t
  .rw[W]at e;cases e
  .rw[W]at t;cases t
 rcases hx with hk|hk
 .refine wpAny_storeName_local hk hn (λh' UI f=>?_) X6;obtain⟨oL,_,_,Lf,_⟩:=id hn;refine h _ ⟨I.ok,I.os,I.bare,⟨λb o e n D hx=>?_,λb o e n D hx=>?_,I.base.free,λb o e hx=>?_,I.base.Fm,I.base.FY,I.base.Fo⟩,⟨_,UI,λj y J l B R=>?_⟩,λy c e=>?_,I.free,I.DZ,λp P=>?_,g ⟨oL,Lf,I.free⟩ f,by simpa using I.len⟩ ⟨_,f,.inl rfl⟩
  .exact(f.2 b (BY (Cu (B7 e) I.ok.above))).trans (I.base.keep b o e n D hx)
  .obtain⟨sl,l⟩:=I.base.slot b o e n D hx;exact⟨sl,(f.2 b (BY (Cu (B7 e) I.ok.above))).trans l⟩
  .obtain⟨o',l⟩:=I.base.there b o e hx;exact⟨o',(f.2 b (BY (Cu (B7 e) I.ok.above))).trans l⟩
  .by_cases C:j=i
   .subst C;rw[hi]at l;cases l;rw[Fc hiσ]at B;cases B;exact⟨u,r,.inl ⟨hk,by simp⟩⟩
   .rw[FF (BJ C)]at B;obtain⟨K,L,q⟩:=U j y J l B R;refine⟨K,L,?_⟩;rcases q with⟨k,e⟩|⟨k,c,e,z⟩
    .refine .inl ⟨k,?_⟩;have:y≠x:=λe=>C (Rm V l (e▸hi));simp[this,e]
    .exact .inr ⟨k,c,e,z.sameBut f (G2 y c e)⟩
  .obtain⟨F,z⟩:=I.cell y c e;exact⟨F,z.sameBut f (G2 y c e)⟩
  .obtain⟨e,n,ne,O,d⟩:=I.pin p P;exact⟨(f.2 p.1 ne).trans e,n,ne,O,d⟩
 .have S:X.fn x=true:=by
   rcases hf with z|z
   .exact z
   .rw[z]at hk;cases hk
  obtain⟨c,t⟩:=I.ok.has x (.inl hk);obtain⟨F,z⟩:=I.cell x c t;refine wpAny_storeName_cell I.ok.kind hk t z (λh' JG f=>?_);obtain⟨T,PN,qM⟩:=id z;refine h { s with heap:=h' } ⟨I.ok,I.os,I.bare,⟨λb o e n D hx=>?_,λb o e n D hx=>?_,I.base.free,λb o e hx=>?_,I.base.Fm,I.base.FY,I.base.Fo⟩,⟨m,hn.sameBut f (BJ (G2 x c t)),λj y J l B R=>?_⟩,λy G e=>?_,I.free,I.DZ,λp P=>?_,g ⟨T,PN,I.DZ x c t⟩ f,by simpa using I.len⟩ ⟨c,f,.inr t⟩
  .exact(f.2 b (BY (Cu (B7 e) (I.ok.JN x c S t)))).trans (I.base.keep b o e n D hx)
  .obtain⟨sl,l⟩:=I.base.slot b o e n D hx;exact⟨sl,(f.2 b (BY (Cu (B7 e) (I.ok.JN x c S t)))).trans l⟩
  .obtain⟨o',l⟩:=I.base.there b o e hx;exact⟨o',(f.2 b (BY (Cu (B7 e) (I.ok.JN x c S t)))).trans l⟩
  .by_cases C:j=i
   .subst C;rw[hi]at l;cases l;rw[Fc hiσ]at B;cases B;exact⟨u,r,.inr ⟨.inl hk,c,t,JG⟩⟩
   .rw[FF (BJ C)]at B;obtain⟨K,L,q⟩:=U j y J l B R;refine⟨K,L,?_⟩;rcases q with q|⟨k,G,e,z'⟩
    .exact .inl q
    .refine .inr ⟨k,G,e,z'.sameBut f ?_⟩;rintro rfl;exact C (Rm V l (I.ok.inj _ _ _ e t▸hi))
  .by_cases Y:G=c
   .subst Y;exact⟨_,JG⟩
   .obtain⟨w2,σ⟩:=I.cell y G e;exact⟨w2,σ.sameBut f Y⟩
  .obtain⟨e,n,ne,O,d⟩:=I.pin p P;refine⟨(f.2 p.1 ?_).trans e,n,ne,O,d⟩;intro q;rw[q,PN]at e;have q':T=p.2:=CH e;exact d F (by rw[<- q'];exact qM)
theorem U5{Q:Unit->Shared->Prop}(I:Inv X Zd Z H s)(b:X.N.Nodup)(hi:X.N[i]?=some x)(hx:Loc X.env.scope x)(r:RelV v u)
  (h:∀s',Inv X Zd (Z.set i (some v)) H s'->Q () s') (a:X.fn x=true∨X.env.scope.names.lookup x=some .local:=by first|exact .inl rfl|exact .inr rfl|assumption):wpAny M A (storeName X.env x u) Q E s:=
 Sn I b hi hx r (λs' I' _=>h s' I') a
theorem Inv.sW(I:Inv X Zd Z H s)(ho:s'.os=s.os)(u:Un (BV X.stack) ch H H' s.heap s'.heap)(AN:C4 X.prog X.w H' s'.heap)(a:AllBare s'.gens)
  (Hf:∀b∈ch,(b∈X.ex∨X.s₀.heap.objs.size<=b)/\b≠X.env.locals/\(∀x c,X.env.cells.lookup x=some c->c≠b)/\∀p∈X.pn++Zd,p.1≠b):Inv X Zd Z H' s':=by
 obtain⟨h',g',d',t',o'⟩:=s';have e:o'=s.os:=ho;subst e;exact I.call (g':=g') (t':=t') (d':=d') u AN a Hf
end
abbrev XK:=Value->Option Addr->Hp->Prop
abbrev St:=List (Option V)
variable{Z:St}
abbrev VK:=V->Hp->Prop
abbrev TE:=St->Hp->VK->Prop
variable{ta tb tc te:TE}
abbrev TT:=St->Hp->(Bool->Hp->Prop)->Prop
abbrev TA:=St->Hp->(List V->Hp->Prop)->Prop
structure Ends where
 nx:St->Hp->Prop
 rt:VK
 bk:St->Hp->Prop:=λ_ _=>False
 ct:St->Hp->Prop:=λ_ _=>False
abbrev TS:=Ends->St->Hp->Prop
def EP(X:Cx)(Zd:ZE8)(Z:St)(Q:VK)(u:Value)(s':Shared):Prop:=∃v H',Inv X Zd Z H' s'/\RelV v u/\Q v H'
def TP(X:Cx)(Zd:ZE8)(Z:St)(Q:Bool->Hp->Prop)(b:Bool)(s':Shared):Prop:=∃H',Inv X Zd Z H' s'/\Q b H'
def AP(X:Cx)(Zd:ZE8)(Z:St)(Q:List V->Hp->Prop)(us:List Value)(s':Shared):Prop:=∃vs H',Inv X Zd Z H' s'/\Vals vs us/\Q vs H'
def SP(X:Cx)(Zd:ZE8)(D:Ends)(f:Flow)(s':Shared):Prop:=
 match f with
 | .next=>∃ σ' H',Inv X Zd σ' H' s'/\D.nx σ' H'
 | .brk=>∃ σ' H',Inv X Zd σ' H' s'/\D.bk σ' H'
 | .cont=>∃ σ' H',Inv X Zd σ' H' s'/\D.ct σ' H'
 | .ret u=>∃v σ' H',Inv X Zd σ' H' s'/\RelV v u/\D.rt v H'
def PE(X:Cx)(e:Expr)(t:TE):Prop:=
 ∀(Zd:ZE8)(s:Shared)(Z:St)(H:Hp)(Q:VK),Inv X Zd Z H s->t Z H Q->wpAny (model X.prog X.w) X.A (eval e X.env) (EP X Zd Z Q) X.xe s
def PT(X:Cx)(e:Expr)(t:TT):Prop:=
 ∀(Zd:ZE8)(s:Shared)(Z:St)(H:Hp)(Q:Bool->Hp->Prop),Inv X Zd Z H s->t Z H Q->wpAny (model X.prog X.w) X.A (isTrue e X.env (eval e X.env)) (TP X Zd Z Q) X.xe s
def PW(X:Cx)(e:Expr)(t:TT):Prop:=
 ∀(a:Sem Value)(Zd:ZE8)(s:Shared)(Z:St)(H:Hp)(Q:Bool->Hp->Prop),Inv X Zd Z H s->t Z H Q->wpAny (model X.prog X.w) X.A (isTrue e X.env a) (TP X Zd Z Q) X.xe s
theorem PW.pt{t:TT}(h:PW X e t):PT X e t:=h _
def PA(X:Cx)(es:List Expr)(t:TA):Prop:=
 ∀(pos:Pos)(Zd:ZE8)(s:Shared)(Z:St)(H:Hp)(Q:List V->Hp->Prop),Inv X Zd Z H s->t Z H Q->wpAny (model X.prog X.w) X.A (spliced (backTo pos (starEach es X.env))) (AP X Zd Z Q) X.xe s
def PS(X:Cx)(st:Stmt)(t:TS):Prop:=
 ∀(Zd:ZE8)(s:Shared)(Z:St)(H:Hp)(D:Ends),Inv X Zd Z H s->t D Z H->wpAny (model X.prog X.w) X.A (exec st X.env) (SP X Zd D) X.xe s
def D2(X:Cx)(st:List Stmt)(t:TS):Prop:=
 ∀(Zd:ZE8)(s:Shared)(Z:St)(H:Hp)(D:Ends),Inv X Zd Z H s->t D Z H->wpAny (model X.prog X.w) X.A (execs st X.env) (SP X Zd D) X.xe s
theorem Ae{t:Sem α}{Q Q':α->Shared->Prop}(h:wpAny M A t Q E s)(b:∀a s,Q a s->Q' a s):wpAny M A t Q' E s:=nY h b λ_ _ x=>x
section
def Cg(i:Nat):TE:=λZ H Q=>∃v,Z[i]?=some (some v)/\Q v H
def tC(v:V):TE:=λ_ H Q=>Q v H
theorem au(k:X.N[i]?=some x)(f:Pa X.env.scope x)(hd:(x == ("__debug__":Str))=false:=by decide)(Es:(x == ("__classdict__":Str))=false:=by decide):PE X (.Name x pos) (Cg i):=by
 intro Zd s Z H Q I h;obtain⟨v,e,h⟩:=h;obtain⟨m,hn,j⟩:=I.loc;obtain⟨u,r,l⟩:=j i x v k e f;have fin:EP X Zd Z Q u s:=⟨v,H,I,r,h⟩;rcases l with⟨a,g⟩|⟨a,c,b,d⟩
 .exact wpAny_Name (wpAny_loadName_local I.ok.kind a hn g fin) hd
 .rcases a with a|a
  .exact wpAny_Name (wpAny_loadName_cell I.ok.kind a b d fin) hd
  .exact wpAny_Name (wpAny_loadName_free I.ok.kind a b d fin Es) hd
def Gl(X:Cx)(x:Str):Prop:=X.env.kindOf x=some .globalImplicit
theorem JK(I:Inv X Zd Z H s)(b:Gl X x)(a:X.mg x=some u)(h:Q u s)
  (hd:(x == ("__debug__":Str))=false:=by decide):wpAny (model X.prog X.w) X.A (eval (.Name x pos) X.env) Q E s:=
 ZCi I.ok.kind b (Calls.loadGlobal_global (by rw[I.ok.glob];exact I.mod.glob.keeps I.bk) a h) hd
theorem LH(I:Inv X Zd Z H s)(c:Gl X x)(b:X.mg x=none)(a:bootBuiltins x=some u)(h:Q u s)
  (hn:x ≠"__name__" := by decide) (hd:(x == ("__debug__":Str))=false:=by decide):wpAny (model X.prog X.w) X.A (eval (.Name x pos) X.env) Q E s:=by
 obtain⟨mb,h1,h2⟩:=I.mod.blt;exact ZCi I.ok.kind c (Calls.loadGlobal_builtin (by rw[I.ok.glob];exact I.mod.glob.keeps I.bk) b (by rw[I.ok.blt];exact h1.keeps I.bk) ((h2 x hn).trans a) h) hd
theorem pS(c:Gl X x)(b:X.mg x=none)(a:bootBuiltins x=some u)(r:RelV v u)(hn:x ≠"__name__" := by decide)(hd:(x == ("__debug__":Str))=false:=by decide):PE X (.Name x pos) (tC v):=
 λ_ _ _ H _ I h=>LH I c b a ⟨v,H,I,r,h⟩ hn hd
variable{a b:Expr}
def tB(t:TE):TT:=λZ H Q=>t Z H λx H1=>∃c,x=.bl c/\Q c H1
variable{tA IV:TT}
def VR(t u:TT):TT:=λZ H Q=>t Z H λc H1=>if c=true then u Z H1 Q else Q false H1
def XO(t u:TT):TT:=λZ H Q=>t Z H λc H1=>if c=true then Q true H1 else u Z H1 Q
def XI(t:TT):TT:=λZ H Q=>t Z H λc H1=>Q (!c) H1
def VJ(ta tb:TE):TE:=λZ H Q=>ta Z H λx H1=>∃c,x=.bl c/\if c=true then tb Z H1 Q else Q (.bl false) H1
def WN(ta tb:TE):TE:=λZ H Q=>ta Z H λx H1=>∃c,x=.bl c/\if c=true then Q (.bl true) H1 else tb Z H1 Q
end
def AO(K:ZE7)(H:Hp)(a:Addr)(xs:List V):Prop:=
 Rd H a (.lst xs)∨
  ∃(o:Obj)(A3:Array Value)(n:Nat),K.lookup a=some o/\o.cls=.type "list" /\ o.dict=none/\o.data=.seq A3 n/\A3.size<=sizeLine/\Vals xs A3.toList
def Al(K:ZE7)(H:Hp)(a:Addr)(xs:List V):Prop:=
 Rd H a (.tup xs)∨
  ∃(o:Obj)(A3:Array Value)(n:Nat),K.lookup a=some o/\o.cls=.type "tuple" /\ o.data=.seq A3 n/\A3.size<=sizeLine/\Vals xs A3.toList
noncomputable def rk:Value->Option V
 | .none=>some .AB
 | .bool b=>some (.bl b)
 | .int i _=>some (.int i)
 | .str x _=>some (.str x)
 | .bytes b _=>some (.Gx b)
 | .float b _=>some (.JW b)
 | .ref a=>some (.ref a)
 | .type n=>some (.ty n)
 |_=>none
theorem RelV.abs{x:V}(r:RelV x u):rk u=some x:=by
 cases x with
 |AB=>cases r;rfl
 |bl _=>cases r;rfl
 |int _=>obtain⟨t,rfl⟩:=r;rfl
 |str _=>obtain⟨t,rfl⟩:=r;rfl
 |Gx _=>obtain⟨t,rfl⟩:=r;rfl
 |JW _=>obtain⟨t,rfl⟩:=r;rfl
 |ref _=>cases r;rfl
 |ty _=>cases r;rfl
theorem RelV.inj{x y:V}{u:Value}(r:RelV x u)(q:RelV y u):x=y:=CH (r.abs.symm.trans q.abs)
theorem Vals.inj:∀{xs ys:List V}{us:List Value},Vals xs us->Vals ys us->xs=ys
 |_,_,_,.nil,.nil=>rfl
 |_,_,_,.cons r t,.cons r' t'=>by rw[r.inj r',Vals.inj t t']
section
variable{ys:List V}
theorem AO.of{K:ZE7}(h:H a=some (.lst xs)):AO K H a xs:=.inl (.inl h)
theorem Al.of{K:ZE7}(h:H a=some (.tup xs)):Al K H a xs:=.inl (.inl h)
theorem Inv.list(I:Inv X Zd Z H s)(h:AO X.K H a xs):∃A3:List Value,Vals xs A3/\PlainL s.heap a A3.toArray/\xs.length<=sizeLine:=by
 rcases h with h|⟨o,A3,n,hk,hc,hd,hs,hz,r⟩
 .obtain⟨z,A3,n,r,e⟩:=h.ok I.AN;exact⟨A3,r,⟨_,n,e,rfl,rfl,rfl⟩,z⟩
 .refine⟨A3.toList,r,⟨o,n,I.C8 a o hk,hc,hd,by simpa using hs⟩,?_⟩
  have e:=r.length;simp only[EC]at e;omega
theorem Inv.tuple(I:Inv X Zd Z H s)(h:Al X.K H a xs):∃A3:List Value,Vals xs A3/\IsTup s.heap a A3.toArray/\xs.length<=sizeLine:=by
 rcases h with h|⟨o,A3,n,hk,hc,hs,hz,r⟩
 .obtain⟨z,A3,r,p⟩:=h.ok I.AN;exact⟨A3,r,p.1,z⟩
 .refine⟨A3.toList,r,⟨o,I.C8 a o hk,hc,n,by simpa using hs⟩,?_⟩
  have e:=r.length;simp only[EC]at e;omega
theorem Inv.fq(I:Inv X Zd Z H s)(h:AO X.K H a xs)(h':AO X.K H a ys):xs=ys:=by
 obtain⟨A3,r,⟨o,n,e,_,_,d⟩,_⟩:=I.list h;obtain⟨its',c,⟨o',f,b,_,_,d'⟩,_⟩:=I.list h';rw[e]at b;cases b;rw[d]at d';injection d' with d1 _
 have:A3=its':=by simpa using qz Array.toList d1
 subst this;exact r.inj c
theorem Inv.O2(I:Inv X Zd Z H s)(h:Al X.K H a xs)(h':Al X.K H a ys):xs=ys:=by
 obtain⟨A3,r,⟨o,e,_,n,d⟩,_⟩:=I.tuple h;obtain⟨its',c,⟨o',b,_,f,d'⟩,_⟩:=I.tuple h';rw[e]at b;cases b;rw[d]at d';injection d' with d1 _
 have:A3=its':=by simpa using qz Array.toList d1
 subst this;exact r.inj c
end
noncomputable abbrev Cx.HV(X:Cx)(E:Value->Shared->Prop):Cx:={ X with xe:=E }
noncomputable abbrev Cx.Ma(X:Cx):Cx:=X.HV λ_ _=>False
theorem Cx.Ok.HV(ok:X.Ok)(E:Value->Shared->Prop):(X.HV E).Ok:=
 ⟨ok.mod,ok.kind,ok.glob,ok.blt,ok.above,ok.inj,ok.has,ok.JN,ok.hd,ok.frames,ok.Hc,ok.KR,ok.bs,ok.GS,ok.JL,ok.J6,ok.FC,ok.Hg⟩
theorem Cx.Ok.J1(ok:(X.HV E).Ok):X.Ok:=
 ⟨ok.mod,ok.kind,ok.glob,ok.blt,ok.above,ok.inj,ok.has,ok.JN,ok.hd,ok.frames,ok.Hc,ok.KR,ok.bs,ok.GS,ok.JL,ok.J6,ok.FC,ok.Hg⟩
section
theorem Inv.HV(I:Inv X Zd Z H s)(E:Value->Shared->Prop):Inv (X.HV E) Zd Z H s:=⟨I.ok.HV E,I.os,I.bare,I.base,I.loc,I.cell,I.free,I.DZ,I.pin,I.AN,I.len⟩
theorem Inv.J1(I:Inv (X.HV E) Zd Z H s):Inv X Zd Z H s:=⟨I.ok.J1,I.os,I.bare,I.base,I.loc,I.cell,I.free,I.DZ,I.pin,I.AN,I.len⟩
theorem SP.J1{D:Ends}{f:Flow}(h:SP (X.HV E) Zd D f s'):SP X Zd D f s':=by
 cases f with
 |next=>obtain⟨σ',H',I,q⟩:=h;exact⟨σ',H',I.J1,q⟩
 |brk=>obtain⟨σ',H',I,q⟩:=h;exact⟨σ',H',I.J1,q⟩
 |cont=>obtain⟨σ',H',I,q⟩:=h;exact⟨σ',H',I.J1,q⟩
 |ret u=>obtain⟨v,σ',H',I,r,q⟩:=h;exact⟨v,σ',H',I.J1,r,q⟩
theorem D2.Ma{st:List Stmt}{t:TS}(h:D2 X.Ma st t):D2 X st t:=λZd s Z H D I hw=>
 nY (h Zd s Z H D (I.HV _) hw) (λ_ _ q=>q.J1) λ_ _ z=>False.elim z
variable{st:Stmt}{rest:List Stmt}{t u:TS}
def OZ:TS:=λD Z H=>D.nx Z H
def KD(t u:TS):TS:=λD Z H=>t { D with nx:=u D } Z H
theorem N6:D2 X [] OZ:=λ_ _ Z H _ I h=>zk ⟨Z,H,I,h⟩
theorem IG(h1:PS X st t)(h2:D2 X rest u):D2 X (st::rest) (KD t u):=by
 intro Zd s Z H D I h;refine wpAny_execs_cons (Ae (h1 Zd s Z H { D with nx:=u D } I h) λf s1 q=>?_)
 cases f with
 |next=>
  obtain⟨σ',H',I',q⟩:=q;exact h2 Zd s1 σ' H' D I' q
 |ret v=>exact q
 |brk=>exact q
 |cont=>exact q
theorem ZCA(h1:PS X st t):D2 X [st] t:=by
 intro Zd s Z H D I h;refine wpAny_execs_cons (Ae (h1 Zd s Z H D I h) λf s1 q=>?_);cases f with
 |next=>exact zk q
 |ret v=>exact q
 |brk=>exact q
 |cont=>exact q
theorem Inv.quiet(I:Inv X Zd Z H s):interactive X.env=false:=by simp[interactive,I.ok.kind]
def NR(te:TE):TS:=λD Z H=>te Z H λ_ H1=>D.nx Z H1
theorem NJ(c:PE X e te)(b:swapsWith e none pos.line X.env=pure false:=by rfl):PS X (.Expr e pos) (NR te):=by
 intro Zd s Z H D I h;exact wpAny_Expr_any (Ae (c Zd s Z H _ I h) λv s1 AR=>by obtain⟨x,H1,I1,d,a⟩:=AR;exact⟨Z,H1,I1,a⟩) I.quiet b
def Nt(te:TE):TS:=λD Z H=>te Z H D.rt
def Xf(c:TT)(t u:TS):TS:=λD Z H=>c Z H λb H1=>if b=true then t D Z H1 else u D Z H1
end
abbrev TG:=V->St->Hp->(St->Hp->Prop)->Prop
abbrev Hu:=List V->St->Hp->(St->Hp->Prop)->Prop
def PG(X:Cx)(a:Expr)(t:TG):Prop:=
 ∀(Zd:ZE8)(s:Shared)(Z:St)(H:Hp)(v:V)(u:Value)(Q:St->Hp->Prop),Inv X Zd Z H s->RelV v u->t v Z H Q->
  wpAny (model X.prog X.w) X.A (assign a X.env u) (λ_ s'=>∃ σ' H',Inv X Zd σ' H' s'/\Q σ' H') X.xe s
def Nd(X:Cx)(a:List Expr)(t:Hu):Prop:=
 ∀(Zd:ZE8)(s:Shared)(Z:St)(H:Hp)(vs:List V)(us:List Value)(Q:St->Hp->Prop),Inv X Zd Z H s->Vals vs us->t vs Z H Q->
  wpAny (model X.prog X.w) X.A (assignInOrder ((assignEach a X.env).map (·.2)) us) (λ_ s'=>∃ σ' H',Inv X Zd σ' H' s'/\Q σ' H') X.xe s
abbrev Pk:=V->V->V->Hp->(Hp->Prop)->Prop
def VD(X:Cx)(t:Pk):Prop:=
 ∀(Zd:ZE8)(s:Shared)(Z:St)(H:Hp)(o i v:V)(a b u:Value)(Q:Hp->Prop),Inv X Zd Z H s->RelV o a->RelV i b->RelV v u->t o i v H Q->
  wpAny (model X.prog X.w) X.A (setItem a b u) (λ_ s'=>∃H',Inv X Zd Z H' s'/\Q H') X.xe s
def EA(i:Nat):TG:=λv Z H Q=>Q (Z.set i (some v)) H
theorem iC(b:X.N.Nodup)(hi:X.N[i]?=some x)(hx:Loc X.env.scope x)(a:X.fn x=true∨X.env.scope.names.lookup x=some .local:=by first|exact .inl rfl|exact .inr rfl|assumption):PG X (.Name x pos) (EA i):=by
 intro Zd s Z H v u Q I r h;exact wpAny_assign_Name (U5 I b hi hx r (λs' I'=>⟨_,H,I',h⟩) a)
def Xy:Hu:=λvs Z H Q=>vs=[]/\Q Z H
def Qk(t:TG)(u:Hu):Hu:=λvs Z H Q=>∃v r,vs=v::r/\t v Z H λσ' H'=>u r σ' H' Q
def Uc(K:ZE7)(n:Nat)(t:Hu):TG:=λv Z H Q=>∃a xs,v=.ref a/\Al K H a xs/\xs.length=n/\t xs Z H Q
def cx(to ti:TE)(t:Pk):TG:=λv Z H Q=>to Z H λo H1=>ti Z H1 λi H2=>t o i v H2 λH3=>Q Z H3
def GD(te:TE)(g:TG):TS:=λD Z H=>te Z H λx H1=>g x Z H1 D.nx
theorem jb(f:X.N.Nodup)(hi:X.N[i]?=some x)(hx:Loc X.env.scope x)(d:PE X e te)(c:swapsWith e (some (.Name x pos')) pos.line X.env=pure false:=by rfl)(hf:X.fn x=true∨X.env.scope.names.lookup x=some .local:=by first|exact .inl rfl|exact .inr rfl|assumption):
  PS X (.Assign [.Name x pos'] e pos) (GD te (EA i)):=by
 intro Zd s Z H D I h;refine wpAny_Assign_Name (Ae (d Zd s Z H _ I h) λv s1⟨y,H1,I1,a,b⟩=>?_) c;exact U5 I1 f hi hx a (λs2 I2=>⟨_,H1,I2,b⟩) hf
def da(c:TT)(tb:TS):TS:=λD Z H=>∃W:Nat->St->Hp->Prop,(∃m,W m Z H)/\∀m Z H,W m Z H->
 c Z H λb H1=>if b=true then ∃N:St->Hp->Prop,(∀ σ' H',N σ' H'->∃a,a < m/\W a σ' H')/\tb { D with nx:=N,ct:=N,bk:=D.nx } Z H1 else D.nx Z H1
structure It where
 go:Nat->Hp->Prop
 FK:Nat->Hp->V->Hp->Prop
 stop:Nat->Hp->Prop
def FL(X:Cx)(Zd:ZE8)(H:Hp)(b:Addr):Prop:=
 H b=none/\b≠X.env.locals/\b∉X.fs/\(b∈X.ex∨X.s₀.heap.objs.size<=b)/\(∀x c,X.env.cells.lookup x=some c->c≠b)/\∀p∈X.pn++Zd,p.1≠b
theorem Inv.Qj(I:Inv X Zd Z H s)(a:s.heap.objs.size<=b)(hn:H' b=none):FL X Zd H' b:=by
 refine⟨hn,Ii (Cu I.lt a),I.xM a,.inr (Bq I.sz a),λx c e z=>?_,λp d z=>?_⟩
 .obtain⟨v,q⟩:=I.cell x c e;exact absurd (Cu q.lt (by rw[z];exact a)) (MV _)
 .exact absurd (Cu (B7 (I.pin p d).1) (by rw[z];exact a)) (MV _)
structure Turn (P:Program) (w:World) (K:ZE7) (tg:Expr) (J:It) (fp:List Addr) (it:Addr) (tn:Nat->Heap->Prop):Prop where
 mem:it∈fp
 obj:∀i h,tn i h->∀b∈fp,∃o,h.get? b=some o/\∀v,o.data≠.cell v
 keep:∀i h h',tn i h->(∀b∈fp,∀o,h.get? b=some o->h'.get? b=some o)->tn i h'
 item:∀(X:Cx),X.prog=P->X.w=w->X.K=K->X.calm=true->∀(i:Nat)(Zd:ZE8)(s:Shared)(Z:St)(H:Hp)(E:Value->Shared->Prop),Inv X Zd Z H s->(∀b∈fp,FL X Zd H b)->tn i s.heap->J.go i H->
  wpAny (model P w) X.A (pyNext (.ref it)) (λr s1=>∃u,r=some u/\
   wpAny (model P w) X.A (letOwnedTupleGo tg (.ref it) u) (λ_ s2=>∃x H',Inv X Zd Z H' s2/\RelV x u/\J.FK i H x H'/\tn (i+1) s2.heap/\∀b∈fp,H' b=none) E s1) E s
 done:∀(X:Cx),X.prog=P->X.w=w->X.K=K->X.calm=true->∀(i:Nat)(Zd:ZE8)(s:Shared)(Z:St)(H:Hp)(E:Value->Shared->Prop),Inv X Zd Z H s->(∀b∈fp,FL X Zd H b)->tn i s.heap->J.stop i H->
  wpAny (model P w) X.A (pyNext (.ref it)) (λr s1=>r=none/\Inv X Zd Z H s1) E s
 self:∀(A:Around)(i:Nat)(s:Shared)(Q:Value->Shared->Prop)(E:Value->Shared->Prop),tn i s.heap->Q (.ref it) s->wpAny (model P w) A (pyIter (.ref it)) Q E s
abbrev TI:=St->Hp->(It->Hp->Prop)->Prop
def fN(X:Cx)(Zd:ZE8)(Z:St)(tg:Expr)(R:It->Hp->Prop)(Qv:Value)(s2:Shared):Prop:=
 ∃(it:Addr)(fp:List Addr)(tn:Nat->Heap->Prop)(J:It)(H':Hp),Qv=.ref it/\Inv X Zd Z H' s2/\Turn X.prog X.w X.K tg J fp it tn/\tn 0 s2.heap/\(∀b∈fp,FL X Zd H' b)/\R J H'
def PI(X:Cx)(tg iter:Expr)(wi:TI):Prop:=
 ∀(Zd:ZE8)(s:Shared)(Z:St)(H:Hp)(R:It->Hp->Prop),Inv X Zd Z H s->wi Z H R->
  wpAny (model X.prog X.w) X.A (eval iter X.env) (λv s1=>wpAny (model X.prog X.w) X.A (pyIter v) (fN X Zd Z tg R) X.xe s1) X.xe s
theorem PK{o:Obj}{n:String}{vs:Array Value}{Q:Unit->Shared->Prop}(ho:s.heap.get? it=some o)(b:o.cls=.type n)(hd:o.data=.fields vs)
  (hn:["enumerate","zip","dict_itemiterator","dict_reverseitemiterator","odict_iterator","itertools.zip_longest","itertools.pairwise"].contains n=false) (a:Q () s):wpAny M A (letOwnedTupleGo tg (.ref it) u) Q E s:=by
 unfold letOwnedTupleGo;cases tg <;> first
  |exact kA a
  | (cases u <;> first
    |exact kA a
    | (
      refine jW (ZBY ho ?_);rw[b,hd];show wpAny M A (if(["enumerate","zip","dict_itemiterator","dict_reverseitemiterator","odict_iterator","itertools.zip_longest","itertools.pairwise"].contains n && vs[0]? == some (rawInt _))=true then _ else _) Q E s
      rw[lA (by intro h;rw[hn,Y5]at h;cases h)];exact kA a))
def vO(K:ZE7)(a:Addr):It:=
 ⟨λi H=>∃xs x,AO K H a xs/\xs[i]?=some x,λi H x H'=>H'=H/\∀xs,AO K H a xs->xs[i]?=some x,λi H=>∃xs,AO K H a xs/\xs.length<=i⟩
def xK(K:ZE7)(a:Addr):It:=
 ⟨λi H=>∃xs x,Al K H a xs/\xs[i]?=some x,λi H x H'=>H'=H/\∀xs,Al K H a xs->xs[i]?=some x,λi H=>∃xs,Al K H a xs/\xs.length<=i⟩
def Hs(lo:Int)(n:Nat):It:=⟨λi _=>i<n,λi H x H'=>H'=H/\x=.int (lo+i),λi _=>n<=i⟩
theorem NV{P:Program}{K:ZE7}(a it:Addr):Turn P w K tg (vO K a) [it] it (λi h=>h.IsListIter it a i) where
 mem:=by simp
 obj:=λi h st b f=>by
  have e:b=it:=by simpa using f
  subst e;obtain⟨o,e,c,d⟩:=st;exact⟨o,e,λv z=>by rw[d]at z;cases z⟩
 keep:=λi h h' st k=>st.at λo e=>k it (by simp) o e
 item:=by
  intro X n hw q A i Zd s Z H E I j st m;subst n hw q;obtain⟨xs,x,g,hx⟩:=m;obtain⟨A3,l,p,D⟩:=I.list g;obtain⟨u,G,C⟩:=l.get hx;obtain⟨f0,f1,J,y,t,r⟩:=j it (by simp);refine wpAny_pyNext_list_item st p.isList (x:=u) (by simpa using G) λh' Dh B=>?_
  have M:Inv X Zd Z H { s with heap:=h' }:=I.turned (t':=s.toks) (λb o f e=>(B.2 b f).trans e) f0 f1 y t r
  obtain⟨o,e,c,d⟩:=id Dh;exact⟨u,rfl,PK (s:={ s with heap:=h' }) e c d (by decide) ⟨x,H,M,C,⟨rfl,λys F=>by rw[I.fq F g];exact hx⟩,Dh,λb f=>(j b f).1⟩⟩
 done:=by
  intro X n hw q A i Zd s Z H E I j st m;subst n hw q;obtain⟨xs,g,hx⟩:=m;obtain⟨A3,l,p,D⟩:=I.list g;obtain⟨f0,f1,J,y,t,r⟩:=j it (by simp);have N:=l.length;exact wpAny_pyNext_list_end (I.ok.hd A) st p.isList (by simp;omega) λh' L=>⟨rfl,I.turned (t':=s.toks) (λb o f e=>L b o f e) f0 f1 y t r⟩
 self:=λ_ _ _ _ _ st h=>wpAny_pyIter_listiter st h
theorem NX{P:Program}{K:ZE7}(a it:Addr):Turn P w K tg (xK K a) [it] it (λi h=>h.IsTupleIter it a i) where
 mem:=by simp
 obj:=λi h st b f=>by
  have e:b=it:=by simpa using f
  subst e;obtain⟨o,e,c,d⟩:=st;exact⟨o,e,λv z=>by rw[d]at z;cases z⟩
 keep:=λi h h' st k=>st.at λo e=>k it (by simp) o e
 item:=by
  intro X n hw q A i Zd s Z H E I j st m;subst n hw q;obtain⟨xs,x,g,hx⟩:=m;obtain⟨A3,l,p,D⟩:=I.tuple g;obtain⟨u,G,C⟩:=l.get hx;obtain⟨f0,f1,J,y,t,r⟩:=j it (by simp);refine wpAny_pyNext_tuple_item st (show s.heap.IsTuple a A3.toArray from p) (x:=u) (by simpa using G) λh' Dh B=>?_
  have M:Inv X Zd Z H { s with heap:=h' }:=I.turned (t':=s.toks) (λb o f e=>(B.2 b f).trans e) f0 f1 y t r
  obtain⟨o,e,c,d⟩:=id Dh;exact⟨u,rfl,PK (s:={ s with heap:=h' }) e c d (by decide) ⟨x,H,M,C,⟨rfl,λys F=>by rw[I.O2 F g];exact hx⟩,Dh,λb f=>(j b f).1⟩⟩
 done:=by
  intro X n hw q A i Zd s Z H E I j st m;subst n hw q;obtain⟨xs,g,hx⟩:=m;obtain⟨A3,l,p,D⟩:=I.tuple g;obtain⟨f0,f1,J,y,t,r⟩:=j it (by simp);have N:=l.length;exact wpAny_pyNext_tuple_end (I.ok.hd A) st (show s.heap.IsTuple a A3.toArray from p) (by simp;omega) λh' L=>⟨rfl,I.turned (t':=s.toks) (λb o f e=>L b o f e) f0 f1 y t r⟩
 self:=λ_ _ _ _ _ st h=>wpAny_pyIter_tupleiter st h
theorem oP{P:Program}{K:ZE7}(it:Addr)(lo:Int)(n:Nat):Turn P w K tg (Hs lo n) [it] it (λi h=>IsRangeIter h it (lo+(i:Nat) * 1) ((n:Int) - (i:Nat)) 1) where
 mem:=by simp
 obj:=λi h st b a=>by
  have e:b=it:=by simpa using a
  subst e;exact⟨_,st,λv z=>by
   have q:Data.fields _=Data.cell v:=z;cases q⟩
 keep:=λi h h' st k=>k it (by simp) _ st
 item:=by
  intro X g hw j f i Zd s Z H E I c st d;subst g hw j;obtain⟨f0,f1,u,p,m,l⟩:=c it (by simp);have W:=Walks.range (prog:=X.prog) (w:=X.w) (I.ok.hd f) it lo 1 n;refine W.item i s _ _ d st λv h' tk r Dh kk=>?_;obtain⟨t,rfl⟩:=r;have y:Inv X Zd Z H { s with heap:=h',toks:=tk }:=I.turned (λb o a e=>kk b o (by simpa using a) e) f0 f1 p m l
  refine⟨_,rfl,PK (s:={ s with heap:=h',toks:=tk }) (n:="range_iterator") Dh rfl rfl (by decide) ⟨.int (lo+i),H,y,⟨t,?_⟩,⟨rfl,rfl⟩,Dh,λb a=>(c b a).1⟩⟩
  rw[Int.mul_one]
 done:=by
  intro X g hw j f i Zd s Z H E I c st d;subst g hw j;obtain⟨f0,f1,u,p,m,l⟩:=c it (by simp);exact wpAny_pyNext_range_end (I.ok.hd f) st (by have:n<=i:=d;omega) λh' x=>⟨rfl,I.turned (t':=s.toks) (λb o a e=>x b o a e) f0 f1 p m l⟩
 self:=λ_ _ _ _ _ st h=>wpAny_pyIter_rangeiter st h
theorem ZAT{R:It->Hp->Prop}{lo hi:Int}{t u v:Tok}(I:Inv X Zd Z H s)(h1:-(2 ^ 62)<=lo)(h2:lo<2 ^ 62)(f:-(2 ^ 62)<=hi)(d:hi<2 ^ 62)
  (q:R (Hs lo (hi - lo).toNat) H):wpAny (model X.prog X.w) X.A (pyIter (.ref s.heap.objs.size)) (fN X Zd Z tg R) E { s with heap:=s.heap.push { cls:=.type "range", data:=.fields #[.int lo t,.int hi u,.int 1 v] },toks:=tk }:=by
 refine wpAny_pyIter_range (IsRange.new ..) (small_one h1 h2 f d) ?_;have a:Inv X Zd Z H { s with heap:=s.heap.push { cls:=.type "range", data:=.fields #[.int lo t,.int hi u,.int 1 v] },toks:=tk }:=I.kept λb o e=>BC _ e
 refine⟨(s.heap.push { cls:=.type "range", data:=.fields #[.int lo t,.int hi u,.int 1 v] }).objs.size,[(s.heap.push { cls:=.type "range", data:=.fields #[.int lo t,.int hi u,.int 1 v] }).objs.size],_,_,H,rfl,
  a.kept (t':=tk) λb o e=>BC _ e,oP _ lo (hi - lo).toNat,?_,λb c=>?_,q⟩
 .have h:lo+((0:Nat):Int) * 1=lo:=by simp
  have g:(((hi - lo).toNat:Nat):Int) - ((0:Nat):Int)=Builtin.Range.rangeSize lo hi 1:=by rw[rangeSize_one];split <;> omega
  show IsRangeIter _ _ (lo+((0:Nat):Int) * 1) ((((hi - lo).toNat:Nat):Int) - ((0:Nat):Int)) 1;rw[h,g];exact BR _ rfl
 .have e:b=(s.heap.push { cls:=.type "range", data:=.fields #[.int lo t,.int hi u,.int 1 v] }).objs.size:=by simpa using c
  subst e;exact a.Qj (Az _) (a.AN.fresh (Az _))
def US(ta:TA):TI:=λZ H R=>ta Z H λvs H1=>∃j:Int,vs=[.int j]/\-(2 ^ 62)<=j/\j<2 ^ 62/\R (Hs 0 j.toNat) H1
def Rx(wi:TI)(g:TG)(tb:TS):TS:=λD Z H=>wi Z H λJ H1=>∃W:Nat->Nat->St->Hp->Prop,(∃m,W 0 m Z H1)/\∀i m Z H,W i m Z H->
 (J.stop i H/\D.nx Z H)∨(J.go i H/\∃N:St->Hp->Prop,(∀ σ' H',N σ' H'->∃a,a < m/\W (i+1) a σ' H')/\∀x H',J.FK i H x H'->g x Z H' λσ2 H2=>tb { D with nx:=N,ct:=N,bk:=D.nx } σ2 H2)
noncomputable def O4(fp:List Addr)(h:Heap):ZE8:=fp.filterMap λb=>(h.get? b).map λo=>(b,o)
theorem OT{h:Heap}{o:Obj}(a:b∈fp)(e:h.get? b=some o):(b,o)∈O4 fp h:=List.mem_filterMap.mpr ⟨b,a,by rw[e];rfl⟩
theorem ZAd{h:Heap}{p:Addr×Obj}(a:p∈O4 fp h):p.1∈fp/\h.get? p.1=some p.2:=by
 obtain⟨b,c,e⟩:=List.mem_filterMap.mp a;cases q:h.get? b with
 |none=>rw[q]at e;cases e
 |some o=>
  rw[q]at e;have d:(b,o)=p:=CH e;subst d;exact⟨c,q⟩
theorem Inv.pinned(I:Inv X Zd Z H s)(g:∀b∈fp,FL X Zd H b)(ho:∀b∈fp,∃o,s.heap.get? b=some o/\∀v,o.data≠.cell v):Inv X (Zd++O4 fp s.heap) Z H s:=
 I.gu λp f=>(List.mem_append.mp f).elim (λz=>I.pin p (HL _ z)) λz=>by
  obtain⟨a,e⟩:=ZAd z;obtain⟨f0,f1,h,_⟩:=g p.1 a;obtain⟨o,c,d⟩:=ho p.1 a;rw[e]at c;cases c;exact⟨e,f0,f1,h,d⟩
theorem Inv.Mn{pl:ZE8}(I:Inv X (Zd++pl) Z H s):Inv X Zd Z H s:=I.gu λp a=>I.pin p (HL _ (L5 _ a))
theorem mL{lo:Int}{g:TG}{tb:TS}{D:Ends}(Pv:Nat->St->Hp->Prop)(f:Pv 0 Z H)
  (d:∀i Z H,i<n->Pv i Z H->g (.int (lo+i)) Z H λσ2 H2=>tb { D with nx:=Pv (i+1),ct:=Pv (i+1),bk:=D.nx } σ2 H2) (hd:∀ Z H,Pv n Z H->D.nx Z H) :
  ∃W:Nat->Nat->St->Hp->Prop,(∃m,W 0 m Z H)/\∀i m Z H,W i m Z H->
   ((Hs lo n).stop i H/\D.nx Z H)∨((Hs lo n).go i H/\∃N:St->Hp->Prop,(∀ σ' H',N σ' H'->∃b,b < m/\W (i+1) b σ' H')/\∀x H',(Hs lo n).FK i H x H'->g x Z H' λσ2 H2=>tb { D with nx:=N,ct:=N,bk:=D.nx } σ2 H2):=by
 refine⟨λi m Z H=>m=n - i/\i<=n/\Pv i Z H,⟨n,by simp,CJ _,f⟩,?_⟩;rintro i m Z H⟨rfl,hi,p⟩
 by_cases a:i<n
 .refine .inr ⟨a,Pv (i+1),λσ' H' c=>⟨n - (i+1),by omega,rfl,a,c⟩,λx H' y=>?_⟩;obtain⟨e,y⟩:=y;subst e y;exact d i Z _ a p
 .have e:i=n:=by omega
  subst e;exact .inl ⟨Az _,hd Z H p⟩
abbrev R2:=V->V->Hp->VK->Prop
def BA(X:Cx)(f:Value->Value->Sem Value)(r:R2):Prop:=
 ∀(Zd:ZE8)(s:Shared)(Z:St)(H:Hp)(x y:V)(v u:Value)(Q:VK),Inv X Zd Z H s->RelV x v->RelV y u->r x y H Q->
  wpAny (model X.prog X.w) X.A (f v u) (EP X Zd Z Q) X.xe s
def R0(X:Cx)(f:Value->Sem Value)(r:V->Hp->VK->Prop):Prop:=
 ∀(Zd:ZE8)(s:Shared)(Z:St)(H:Hp)(x:V)(v:Value)(Q:VK),Inv X Zd Z H s->RelV x v->r x H Q->
  wpAny (model X.prog X.w) X.A (f v) (EP X Zd Z Q) X.xe s
def DH(X:Cx)(f:Value)(r:List V->Hp->VK->Prop):Prop:=
 ∀(Zd:ZE8)(s:Shared)(Z:St)(H:Hp)(xs:List V)(us:List Value)(Q:VK),Inv X Zd Z H s->Vals xs us->r xs H Q->
  wpAny (model X.prog X.w) X.A (call f us) (EP X Zd Z Q) X.xe s
def Bo(r:R2)(ta tb:TE):TE:=λZ H Q=>ta Z H λx H1=>tb Z H1 λy H2=>r x y H2 Q
def Xs(r:V->Hp->VK->Prop)(ta:TE):TE:=λZ H Q=>ta Z H λx H1=>r x H1 Q
def rI(C:Int->Int->Prop)(g:Int->Int->V):R2:=λx y H Q=>∃i j,x=.int i/\y=.int j/\C i j/\Q (g i j) H
def GJ(g:Int->Int->V):R2:=λx y H Q=>∃i j,x=.int i/\y=.int j/\Q (g i j) H
def rU(g:Int->V):V->Hp->VK->Prop:=λx H Q=>∃i,x=.int i/\Q (g i) H
section
variable{a b c:Expr}
theorem Xu(n:PE X a ta)(m:PE X b tb){R:V->V->Hp->Prop}(I:Inv X Zd Z H s)
  (h:ta Z H λx H1=>tb Z H1 λy H2=>R x y H2)
  (l:∀v u s2 x y H2,Inv X Zd Z H2 s2->RelV x v->RelV y u->R x y H2->wpAny (model X.prog X.w) X.A (f v u) Q X.xe s2) :
  wpAny (model X.prog X.w) X.A (eval a X.env) (λv d=>wpAny (model X.prog X.w) X.A (eval b X.env) (λu c=>wpAny (model X.prog X.w) X.A (f v u) Q X.xe c) X.xe d) X.xe s:=by
 refine Ae (n Zd s Z H _ I h) λv s1 ND=>?_;obtain⟨x,H1,I1,g,j⟩:=ND;refine Ae (m Zd s1 Z H1 _ I1 j) λu s2 k=>?_;obtain⟨y,H2,I2,e,i⟩:=k;exact l v u s2 x y H2 I2 g e i
theorem ja{op:UnaryOp}{r:V->Hp->VK->Prop}(ho:R0 X (unaryOp op) r)(d:PE X a ta):PE X (.UnaryOp op a pos) (Xs r ta):=by
 intro Zd s Z H Q I h;exact UnaryOp_ (Ae (d Zd s Z H _ I h) λv s1 AR=>by obtain⟨x,H1,I1,b,c⟩:=AR;exact ho Zd s1 Z H1 x v Q I1 b c)
theorem Ol{C:Int->Int->Prop}{g:Int->Int->Int}
  (rule:∀(i j:Int)(t u:Tok)(s:Shared)(Q:Value->Shared->Prop)(E:Value->Shared->Prop),C i j->Q (.int (g i j) s.toks) { s with toks:=s.toks+1 }->wpAny (model X.prog X.w) X.A (f (.int i t) (.int j u)) Q E s) :
  BA X f (rI C λi j=>.int (g i j)):=by
 intro Zd s Z H x y v u Q I b a h;obtain⟨i,j,rfl,rfl,c,q⟩:=h;obtain⟨t,rfl⟩:=b;obtain⟨t',rfl⟩:=a;exact rule i j t t' s _ _ c ⟨.int (g i j),H,I.tok _,⟨_,rfl⟩,q⟩
theorem cM{g:Int->Int->Int}
  (rule:∀(i j:Int)(t u:Tok)(s:Shared)(Q:Value->Shared->Prop)(E:Value->Shared->Prop),Q (.int (g i j) s.toks) { s with toks:=s.toks+1 }->wpAny (model X.prog X.w) X.A (f (.int i t) (.int j u)) Q E s) :
  BA X f (GJ λi j=>.int (g i j)):=by
 intro Zd s Z H x y v u Q I b a h;obtain⟨i,j,rfl,rfl,q⟩:=h;obtain⟨t,rfl⟩:=b;obtain⟨t',rfl⟩:=a;exact rule i j t t' s _ _ ⟨.int (g i j),H,I.tok _,⟨_,rfl⟩,q⟩
theorem R1{g:Int->Int->Bool}
  (rule:∀(i j:Int)(t u:Tok)(s:Shared)(Q:Value->Shared->Prop)(E:Value->Shared->Prop),Q (.bool (g i j)) s->wpAny (model X.prog X.w) X.A (f (.int i t) (.int j u)) Q E s) :
  BA X f (GJ λi j=>.bl (g i j)):=by
 intro Zd s Z H x y v u Q I b a h;obtain⟨i,j,rfl,rfl,q⟩:=h;obtain⟨t,rfl⟩:=b;obtain⟨t',rfl⟩:=a;exact rule i j t t' s _ _ ⟨.bl (g i j),H,I,rfl,q⟩
def wQ(i j:Int):Prop:=0<=j/\j<=1000000/\i.natAbs<2 ^ 64
theorem E5:BA X (binaryOp .Add) (GJ λi j=>.int (i+j)):=cM λ_ _ _ _ _ _ _ q=>add_int q
theorem Sj:BA X (binaryOp .Sub) (GJ λi j=>.int (i - j)):=cM λ_ _ _ _ _ _ _ q=>sub_int q
theorem JH:BA X (binaryOp .Mod) (rI (λ_ j=>0<j) λi j=>.int (i % j)):=Ol λi j _ _ _ _ _ a q=>by
 have h1:(0:Int)<j:=a;exact mod_int' (by omega) (by rw[Int.fmod_eq_emod_of_nonneg i (by omega)];exact q)
theorem KW:BA X (binaryOp .Pow) (rI wQ λi j=>.int (i ^ j.toNat)):=Ol λ_ _ _ _ _ _ _ a q=>pow_int_small a.1 a.2.1 a.2.2 q
theorem yi{f:Value->Sem Value}{g:Int->Int}
  (rule:∀(i:Int)(t:Tok)(s:Shared)(Q:Value->Shared->Prop)(E:Value->Shared->Prop),Q (.int (g i) s.toks) { s with toks:=s.toks+1 }->wpAny (model X.prog X.w) X.A (f (.int i t)) Q E s) :
  R0 X f (rU λi=>.int (g i)):=by
 intro Zd s Z H x v Q I a h;obtain⟨i,rfl,q⟩:=h;obtain⟨t,rfl⟩:=a;exact rule i t s _ _ ⟨.int (g i),H,I.tok _,⟨_,rfl⟩,q⟩
theorem KS:R0 X (unaryOp .USub) (rU λi=>.int (-i)):=yi λ_ _ _ _ _ q=>neg_int q
end
noncomputable def Vs:V->V->Bool
 | .AB,.AB=>true | .AB,.int _=>true | .int _,.AB=>true | .AB,.bl _=>true | .bl _,.AB=>true | .AB,.str _=>true | .str _,.AB=>true
 | .int _,.int _=>true | .bl _,.bl _=>true | .str _,.str _=>true | .Gx _,.Gx _=>true
 | .int _,.str _=>true | .str _,.int _=>true | .bl _,.str _=>true | .str _,.bl _=>true
 |_,_=>false
def cq:R2:=λx y H Q=>Vs x y=true/\Q (.bl (decide (x=y))) H
def iF:R2:=λx y H Q=>Vs x y=true/\Q (.bl (!decide (x=y))) H
theorem ZH{i j:Int}:decide (V.int i=V.int j)=(i == j):=by
 rw[Eb];simp
theorem dr{i j:Bool}:decide (V.bl i=V.bl j)=(i == j):=by
 rw[Eb];simp
theorem Z9{i j:Str}:decide (V.str i=V.str j)=(i == j):=by
 rw[Eb];simp
theorem aZ{i j:Array UInt8}:decide (V.Gx i=V.Gx j)=(i.toList == j.toList):=by
 rw[Eb];cases i;cases j;simp
section
variable{a b c:Expr}
theorem Bj{Q:VK}{k a:Bool}(I:Inv X Zd Z H s)(q:Q (.bl k) H)(e:k=a):EP X Zd Z Q (.bool a) s:=by
 subst e;exact⟨.bl k,H,I,rfl,q⟩
theorem BN:BA X (compareOp .Eq) cq:=by
 intro Zd s Z H x y v u Q I c a h;obtain⟨b,q⟩:=h;cases x with
 |AB=>
  cases c;cases y with
  |AB=>cases a;exact PySem.EqNone.eq_none_none (Bj I q (by simp))
  |bl j=>cases a;exact PySem.EqNone.eq_none_bool (Bj I q (by simp))
  |int j=>obtain⟨t',rfl⟩:=a;exact PySem.EqNone.eq_none_int (Bj I q (by simp))
  |str j=>obtain⟨t',rfl⟩:=a;exact PySem.EqNone.eq_none_str (Bj I q (by simp))
  |_=>exact absurd (show false=true from b) Co
 |bl i=>
  cases c;cases y with
  |AB=>cases a;exact PySem.EqNone.eq_bool_none (Bj I q (by simp))
  |bl j=>cases a;exact eq_bool (Bj I q dr)
  |str j=>obtain⟨t',rfl⟩:=a;exact PySem.EqMixed.eq_bool_str (Bj I q (by simp))
  |_=>exact absurd (show false=true from b) Co
 |int i=>
  obtain⟨t,rfl⟩:=c;cases y with
  |AB=>cases a;exact PySem.EqNone.eq_int_none (Bj I q (by simp))
  |int j=>obtain⟨t',rfl⟩:=a;exact eq_int (Bj I q ZH)
  |str j=>obtain⟨t',rfl⟩:=a;exact PySem.EqMixed.eq_int_str (Bj I q (by simp))
  |_=>exact absurd (show false=true from b) Co
 |str i=>
  obtain⟨t,rfl⟩:=c;cases y with
  |AB=>cases a;exact PySem.EqNone.eq_str_none (Bj I q (by simp))
  |bl j=>cases a;exact PySem.EqMixed.eq_str_bool (Bj I q (by simp))
  |int j=>obtain⟨t',rfl⟩:=a;exact PySem.EqMixed.eq_str_int (Bj I q (by simp))
  |str j=>obtain⟨t',rfl⟩:=a;exact eq_str (Bj I q Z9)
  |_=>exact absurd (show false=true from b) Co
 |Gx i=>
  obtain⟨t,rfl⟩:=c;cases y with
  |Gx j=>obtain⟨t',rfl⟩:=a;exact PySem.W.eq_bytes (Bj I q aZ)
  |_=>exact absurd (show false=true from b) Co
 |_=>cases y <;> exact absurd (show false=true from b) Co
theorem Jb:BA X (compareOp .NotEq) iF:=by
 intro Zd s Z H x y v u Q I c a h;obtain⟨b,q⟩:=h;cases x with
 |AB=>
  cases c;cases y with
  |AB=>cases a;exact PySem.EqNone.ne_none_none (Bj I q (by simp))
  |bl j=>cases a;exact PySem.EqNone.ne_none_bool (Bj I q (by simp))
  |int j=>obtain⟨t',rfl⟩:=a;exact PySem.EqNone.ne_none_int (Bj I q (by simp))
  |str j=>obtain⟨t',rfl⟩:=a;exact PySem.EqNone.ne_none_str (Bj I q (by simp))
  |_=>exact absurd (show false=true from b) Co
 |bl i=>
  cases c;cases y with
  |AB=>cases a;exact PySem.EqNone.ne_bool_none (Bj I q (by simp))
  |bl j=>cases a;exact ne_bool (Bj I q (qz not dr))
  |str j=>obtain⟨t',rfl⟩:=a;exact PySem.EqMixed.ne_bool_str (Bj I q (by simp))
  |_=>exact absurd (show false=true from b) Co
 |int i=>
  obtain⟨t,rfl⟩:=c;cases y with
  |AB=>cases a;exact PySem.EqNone.ne_int_none (Bj I q (by simp))
  |int j=>obtain⟨t',rfl⟩:=a;exact ne_int (Bj I q (qz not ZH))
  |str j=>obtain⟨t',rfl⟩:=a;exact PySem.EqMixed.ne_int_str (Bj I q (by simp))
  |_=>exact absurd (show false=true from b) Co
 |str i=>
  obtain⟨t,rfl⟩:=c;cases y with
  |AB=>cases a;exact PySem.EqNone.ne_str_none (Bj I q (by simp))
  |bl j=>cases a;exact PySem.EqMixed.ne_str_bool (Bj I q (by simp))
  |int j=>obtain⟨t',rfl⟩:=a;exact PySem.EqMixed.ne_str_int (Bj I q (by simp))
  |str j=>obtain⟨t',rfl⟩:=a;exact ne_str (Bj I q (qz not Z9))
  |_=>exact absurd (show false=true from b) Co
 |Gx i=>
  obtain⟨t,rfl⟩:=c;cases y with
  |Gx j=>obtain⟨t',rfl⟩:=a;exact PySem.W.ne_bytes (Bj I q (qz not aZ))
  |_=>exact absurd (show false=true from b) Co
 |_=>cases y <;> exact absurd (show false=true from b) Co
theorem LZ:BA X (compareOp .Lt) (GJ λi j=>.bl (decide (i<j))):=R1 λ_ _ _ _ _ _ _ q=>lt_int q
theorem EO:BA X (compareOp .LtE) (GJ λi j=>.bl (decide (i<=j))):=R1 λ_ _ _ _ _ _ _ q=>le_int q
theorem Pd:BA X (compareOp .Gt) (GJ λi j=>.bl (decide (j<i))):=R1 λ_ _ _ _ _ _ _ q=>gt_int q
theorem SM:BA X (compareOp .GtE) (GJ λi j=>.bl (decide (j<=i))):=R1 λ_ _ _ _ _ _ _ q=>ge_int q
theorem tQ:BA X (compareOp .In) (λx y H Q=>∃i j,x=.str i/\y=.str j/\Q (.bl (!(Builtin.Str.occurrences j i 0 j.length 1).isEmpty)) H):=by
 intro Zd s Z H x y v u Q I b a h;obtain⟨i,j,rfl,rfl,q⟩:=h;obtain⟨t,rfl⟩:=b;obtain⟨t',rfl⟩:=a;exact in_str (Bj I q rfl)
theorem kh:BA X (compareOp .Is) (λx y H Q=>y=.AB/\Q (.bl (decide (x=.AB))) H):=by
 intro Zd s Z H x y v u Q I a b h;obtain⟨rfl,q⟩:=h;cases b;refine is_none_gen (Bj I q ?_);cases x <;> first
  | (cases a;rfl)
  | (obtain⟨t,rfl⟩:=a;rfl)
theorem cy(b:Expr)(h:op≠.In:=by decide)(h2:op≠.NotIn:=by decide):behindInMarks op b=false:=by
 have c:(op == CmpOp.In)=false:=by cases op <;> first|rfl|exact absurd rfl h
 have a:(op == CmpOp.NotIn)=false:=by cases op <;> first|rfl|exact absurd rfl h2
 cases b <;> simp[behindInMarks,c,a]
def MG(t:TE):TT:=λZ H Q=>t Z H λx H'=>∃k,x=.bl k/\Q k H'
theorem xW{r:R2}(ho:BA X (compareOp op) r)(o:PE X a ta)(n:PE X b tb)(m:behindInMarks op b=false):PT X (.Compare a [op] [b] pos) (MG (Bo r ta tb)):=by
 intro Zd s Z H Q I h;refine wpAny_isTrue_Compare1 (Ae (o Zd s Z H _ I h) λv s1⟨x,H1,I1,g,l⟩=>Ae (n Zd s1 Z H1 _ I1 l) λu s2⟨y,H2,I2,f,j⟩=>
  Ae (ho Zd s2 Z H2 x y v u _ I2 g f j) λc p⟨z,H3,I3,d,k,e,i⟩=>?_) m
 subst e;cases d;exact sM ⟨H3,I3,i⟩
def Mi(r b:R2)(ta tb tc:TE):TE:=λZ H Q=>ta Z H λx H1=>tb Z H1 λy H2=>r x y H2 λz H3=>∃k,z=.bl k/\
 (if k=true then tc Z H3 λa H4=>b y a H4 Q else Q (.bl false) H3)
theorem kF{Er:CmpOp}{r g:R2}(ho:BA X (compareOp op) r)(Cf:BA X (compareOp Er) g)(D:PE X a ta)(C:PE X b tb)(B:PE X c tc)
  (A:lastMarks [op,Er] [b,c]=false:=by with_unfolding_all rfl):PE X (.Compare a [op,Er] [b,c] pos) (Mi r g ta tb tc):=by
 intro Zd s Z H Q I h;refine Compare_chain (Ae (D Zd s Z H _ I h) λv s1⟨x,H1,I1,p,w⟩=>chain_link (Ae (C Zd s1 Z H1 _ I1 w) λu s2⟨y,H2,I2,f,t⟩=>
  Ae (ho Zd s2 Z H2 x y v u _ I2 p f t) λd m⟨z,H3,I3,o,k,e,i⟩=>?_)) A
 subst e;cases o;refine sM ?_;cases k with
 |false=>exact ite_ff ⟨.bl false,H3,I3,rfl,i⟩
 |true=>exact ite_tt (chain_last (Ae (B Zd m Z H3 _ I3 i) λl s4⟨j,H4,I4,n,q⟩=>Cf Zd s4 Z H4 y j u l Q I4 f n q))
theorem HS:(sizeLine:Nat)<2 ^ 63:=by rw[sizeLine_eq];decide
theorem OX:BA X (binaryOp .Add) (λx y H Q=>∃i j,x=.str i/\y=.str j/\i.length+j.length<=sizeLine/\Q (.str (i++j)) H):=by
 intro Zd s Z H x y v u Q I b a h;obtain⟨i,j,rfl,rfl,c,q⟩:=h;obtain⟨t,rfl⟩:=b;obtain⟨t',rfl⟩:=a;exact add_str (λt' tk=>⟨.str (i++j),H,I.tok _,⟨_,rfl⟩,q⟩) c
theorem vals1{x:V}(r:Vals [x] us):∃u,us=[u]/\RelV x u:=by
 cases r with
 |cons b a=>cases a;exact⟨_,rfl,b⟩
theorem vals2{x y:V}(r:Vals [x,y] us):∃u a,us=[u,a]/\RelV x u/\RelV y a:=by
 cases r with
 |cons e d=>
  cases d with
  |cons c b=>cases b;exact⟨_,_,rfl,e,c⟩
theorem jq(b:X.calm=true):DH X (.builtin "max") (λxs H Q=>∃i j,xs=[.int i,.int j]/\Q (.int (if j > i then j else i)) H):=by
 intro Zd s Z H xs us Q I r h;obtain⟨i,j,rfl,q⟩:=h;obtain⟨u,c,rfl,⟨t,rfl⟩,⟨t',rfl⟩⟩:=vals2 r;refine max_two_ints (I.ok.hd b) λh' tk k=>⟨_,H,I.kept k,?_,q⟩
 by_cases a:j > i
 .rw[lO a,lO a];exact⟨_,rfl⟩
 .rw[lA a,lA a];exact⟨_,rfl⟩
theorem Ya(b:X.calm=true):DH X (.builtin "min") (λxs H Q=>∃i j,xs=[.int i,.int j]/\Q (.int (if j<i then j else i)) H):=by
 intro Zd s Z H xs us Q I r h;obtain⟨i,j,rfl,q⟩:=h;obtain⟨u,c,rfl,⟨t,rfl⟩,⟨t',rfl⟩⟩:=vals2 r;refine min_two_ints (I.ok.hd b) λh' tk k=>⟨_,H,I.kept k,?_,q⟩
 by_cases a:j<i
 .rw[lO a,lO a];exact⟨_,rfl⟩
 .rw[lA a,lA a];exact⟨_,rfl⟩
end
structure Xt (h:Heap) (x dx C:Addr) (mA:ZE9):Prop where
 obj:h.get? x=some (PySem.W.instObj C dx)
 ns:h.Ns1 dx mA
 ne:dx≠x
theorem qD{h:Heap}(n:h.Ns1 dx mA):∃od,h.get? dx=some od/\∀name,PySem.W.lookIn name od=some (mA name):=by
 obtain⟨o,es,ep,ho,hd,d,_,c⟩:=n;refine⟨o,ho,λname=>?_⟩;have e:=c name;unfold nsFind findBy at e;rw[<- ZCd]at e;unfold PySem.W.lookIn;rw[hd];dsimp only;split
 .rename_i y q;rw[q]at e;exact qz some e
 .rename_i q;rw[q]at e;have a:es.toList.any (·.refKey)=false:=by
   rw[List.any_eq_false];intro y b;obtain⟨z,t,KP⟩:=d y (Array.mem_toList_iff.mp b);simp[DictEntry.refKey,KP]
  have f:¬ es.toList.any (·.refKey)=true:=by rw[a];exact Co
  rw[lA f];exact qz some e
theorem Xt.look{h:Heap}{x:Addr}(I:Xt h x dx C mA):∃od,PySem.W.InstAt h x (PySem.W.instObj C dx) C (some od)/\∀name,PySem.W.lookIn name od=some (mA name):=
 let ⟨od,ho,hl⟩:=qD I.ns
 ⟨od,⟨I.obj,rfl,rfl,ho⟩,hl⟩
section
variable{prog:Program}{K:ZE7}{x f:Addr}{v:Value}
variable{P:Program}{h:Heap}{fs qJ:List (Str×V)}
theorem qR(AN:C4 P w H h)(e:H a=some (.ins C dx fs)):∃mA,Xt h a dx C mA/\(∀f,WJ (fs.lookup f) (mA f))/\PySem.Within mA (fs.map (·.1))/\fs.length<=1000/\H dx=some (.own a):=by
 obtain⟨d,z,ne,ob,mA,n,r,q⟩:=(show CU P w H h a (.ins C dx fs)from AN a _ e);exact⟨mA,⟨ob,n,ne⟩,r,q,z,d⟩
end
structure Ue (K:ZE7) (C:Addr):Prop where
 pg:PySem.W.plainGet K C Str.empty=true
 hd:PySem.W.hasDictIn K C=true
 po:PySem.W.plainOver K C=true
 sa:PySem.W.findIn K (.ref C) "__setattr__"=some (some (.builtin "object.__setattr__"))
theorem Ue.get{K:ZE7}{C:Addr}(c:Ue K C)(f:Str):PySem.W.plainGet K C f=true:=c.pg
structure Cy (K:ZE7) (C:Addr) (f:Str) (v:V) (u:Value):Prop where
 at_:PySem.W.findIn K (.ref C) f=some (some u)
 rel:RelV v u
 get:PySem.W.specialIn K u "__get__"=some none
 cp:PySem.W.copiedNames.contains f=false
section
variable{fs:List (Str×V)}{f:Str}
variable{o value:Expr}{aN:Pos}{tv:TE}
variable{b:Bool}
inductive Fh (K:ZE7) (H:Hp):V->Value->Prop where
 |AB:Fh K H .AB (.type "NoneType")
 |bl (x:Bool):Fh K H (.bl x) (.type "bool")
 |int (i:Int):Fh K H (.int i) (.type "int")
 |str (x:Str):Fh K H (.str x) (.type "str")
 |JW (x:UInt64):Fh K H (.JW x) (.type "float")
 |lst {a:Addr}{xs:List V}(e:H a=some (.lst xs)):Fh K H (.ref a) (.type "list")
 |FE {a:Addr}{o:Obj}{xs:List V}(e:H a=some (.FE o (.lst xs))):Fh K H (.ref a) (.type "list")
 |tup {a:Addr}{xs:List V}(e:H a=some (.tup xs)):Fh K H (.ref a) (.type "tuple")
 |dK {a:Addr}{CB:List (Key×V)}(e:H a=some (.dK CB)):Fh K H (.ref a) (.type "dict")
 |dT {a:Addr}{CB:List (List Key×V)}(e:H a=some (.dT CB)):Fh K H (.ref a) (.type "dict")
 |ins {a C dx:Addr}{fs:List (Str×V)}(e:H a=some (.ins C dx fs)) (cl:Ue K C) (ha:PySem.W.findIn K (.ref C) "__class__"=some (some (.builtin "object.__class__")))
   (hn:PySem.W.specialIn K (.builtin "object.__class__") "__get__"=some (some (.builtin "getset_descriptor.__get__"))) (Gb:PySem.W.takesIn K (.builtin "object.__class__")=some true)
   (hm:PySem.W.mroIn K C (.type "object")=some true):Fh K H (.ref a) (.ref C)
theorem uH{x:V}{t:Value}(I:Inv X Zd Z H s)(d:RelV x u)(ty:Fh X.K H x t)(e:PySem.W.kitOne X.K t c=some b)(h:∀tk,Q (.bool b) { s with toks:=tk }):
  wpAny (model X.prog X.w) A (call (.builtin "isinstance") [u,c]) Q E s:=by
 cases ty with
 |AB=>cases(show u=Value.none from d);exact HP PySem.W.kitx_none I.C8 True.intro e (λz=>nomatch z) h
 |bl y=>cases(show u=Value.bool y from d);exact HP PySem.W.kitx_bool I.C8 True.intro e (λz=>nomatch z) h
 |int i=>obtain⟨t,q⟩:=(show ∃t,u=Value.int i t from d);cases q;exact HP PySem.W.kitx_int I.C8 True.intro e (λz=>nomatch z) h
 |str y=>obtain⟨t,q⟩:=(show ∃t,u=Value.str y t from d);cases q;exact HP PySem.W.kitx_str I.C8 True.intro e (λz=>nomatch z) h
 |JW y=>obtain⟨t,q⟩:=(show ∃t,u=Value.float y t from d);cases q;exact HP PySem.W.kitx_float I.C8 True.intro e (λz=>nomatch z) h
 |@lst a xs ea=>
  cases(show u=Value.ref a from d);obtain⟨_,_,n,_,h1⟩:=(show CU X.prog X.w H s.heap a (.lst xs)from I.AN a _ ea);exact HP ZDH I.C8 ⟨_,h1,rfl⟩ e (λz=>nomatch z) h
 |@FE a ob xs ea=>
  cases(show u=Value.ref a from d);obtain⟨_,_,_,n,_,h1⟩:=(show CU X.prog X.w H s.heap a (.FE ob (.lst xs))from I.AN a _ ea);exact HP ZDH I.C8 ⟨_,h1,rfl⟩ e (λz=>nomatch z) h
 |@tup a xs ea=>
  cases(show u=Value.ref a from d);obtain⟨_,_,_,p⟩:=(show CU X.prog X.w H s.heap a (.tup xs)from I.AN a _ ea);obtain⟨o,h1,h2,_⟩:=p.1;exact HP PySem.W.kitx_tuple I.C8 ⟨o,h1,h2⟩ e (λz=>nomatch z) h
 |@dK a CB ea=>
  cases(show u=Value.ref a from d);obtain⟨_,_,vs,_,p⟩:=(show CU X.prog X.w H s.heap a (.dK CB)from I.AN a _ ea);obtain⟨o,es,ep,h1,h2,_⟩:=p;exact HP ZDG I.C8 ⟨o,h1,h2.1⟩ e (λz=>nomatch z) h
 |@dT a CB ea=>
  cases(show u=Value.ref a from d);obtain⟨_,_,xs,_,o,es,ep,h1,h2,_⟩:=(show CU X.prog X.w H s.heap a (.dT CB)from I.AN a _ ea);exact HP ZDG I.C8 ⟨o,h1,h2.1⟩ e (λz=>nomatch z) h
 |@ins a C dx fs ea cl g hn Gb f=>
  cases(show u=Value.ref a from d);obtain⟨mA,O,_⟩:=qR I.AN ea;obtain⟨od,J,_⟩:=O.look;exact HP (PySem.W.kitx_own (cl.get _) cl.hd g hn Gb f) I.C8 J e (λz=>nomatch z) h
end
structure Bu (k:Nat) (A:Around):Prop where
 hd:A.handled=none
 dp:A.depth+3 * k+5<recursionLimit
 un:A.units+16 * k+200<cLine
theorem Bu.mono(r:Bu k A)(h:j<=k):Bu j A:=⟨r.hd,by have:=r.dp;omega,by have:=r.un;omega⟩
theorem Bu.deeper(r:Bu (k+1) A)(env:Env):Bu k (A.deeper env):=
 ⟨r.hd,by have:=r.dp;show A.depth+1+3 * k+5<_;omega,by have:=r.un;show A.units+3+16 * k+200<_;omega⟩
theorem ZB1:(A.under (.builtin "type.__call__" ⟨.ref C::us,kw⟩)).depth=A.depth+1:=by
 first|rfl|simp[Around.under,Code.weight,Code.isCreation,Code.isGuard,Code.isCaller,Code.frames,Code.isFrame,guardIds]
theorem ZAP:(A.under (.builtin "type.__call__" ⟨.ref C::us,kw⟩)).units=A.units+1:=by
 first|rfl|simp[Around.under,Code.cUnits,Code.frames,Code.isFrame]
theorem Bu.make(r:Bu (k+1) A)(C:Addr)(us:List Value)(kw:List (Str×Value)):Bu k (A.under (.builtin "type.__call__" ⟨.ref C::us,kw⟩)):=
 ⟨r.hd,by have:=r.dp;rw[ZB1];omega,by have:=r.un;rw[ZAP];omega⟩
theorem Bu.depth(r:Bu k A):A.depth<recursionLimit:=by have:=r.dp;omega
theorem Bu.units(r:Bu k A):A.units+64<cLine:=by have:=r.un;omega
theorem Bu.Gw(r:Bu k A):A.units<cLine:=by have:=r.un;omega
def Bl:TA:=λ_ H Q=>Q [] H
def BH(ta:TE)(a:TA):TA:=λZ H Q=>ta Z H λx H1=>a Z H1 λxs H2=>Q (x::xs) H2
section
variable{t:TA}
theorem N0:PA X [] Bl:=λ_ _ _ _ H Q I h=>iN ⟨[],H,I,.nil,h⟩
theorem IP(i:PE X e te)(g:PA X es t)(f:starEach (e::es) X.env=(false,eval e X.env)::starEach es X.env:=by rfl):PA X (e::es) (BH te t):=by
 intro pos Zd s Z H Q I h;rw[f];show wpAny _ _ (spliced ((false,eval e X.env)::backTo pos (starEach es X.env))) _ _ s;refine Calls.spliced_cons (Ae (i Zd s Z H _ I h) λu s1 ND=>?_);obtain⟨x,H1,I1,b,d⟩:=ND;exact Ae (g pos Zd s1 Z H1 _ I1 d) λus s2 AR=>by obtain⟨xs,H2,I2,a,c⟩:=AR;exact⟨x::xs,H2,I2,.cons b a,c⟩
def Sd(t:TA):TE:=λZ H Q=>t Z H λxs H1=>xs.length<=sizeLine/\∀p,H1 p=none->Q (.ref p) (upd H1 p (.tup xs))
def Sm(t:TA):TE:=λZ H Q=>t Z H λxs H1=>xs.length<=sizeLine/\∀p,H1 p=none->Q (.ref p) (upd H1 p (.lst xs))
theorem o6{x1}(h:PA X es t):PE X (.Tuple es x1 pos) (Sd t):=by
 intro Zd s Z H Q I c;refine wpAny_Tuple_spliced (Ae (h pos Zd s Z H _ I c) λus s1⟨xs,H1,I1,r,z,q⟩=>⟨by rw[<- r.length];exact z,?_⟩);have d:H1 s1.heap.objs.size=none:=I1.AN.fresh (Az _);refine⟨.ref s1.heap.objs.size,upd H1 s1.heap.objs.size (.tup xs),I1.laid (t':=s1.toks) (λb u e=>BC _ e) (Az _) ?_,rfl,q _ d⟩;exact⟨z,us,r,⟨_,BR _ rfl,rfl,_,rfl⟩,λR7 a=>by rw[BR _ rfl]at a;cases a;rfl⟩
theorem nK(h:PA X es t):PE X (.List es pos) (Sm t):=by
 intro Zd s Z H Q I a;refine wpAny_List_spliced (Ae (h pos Zd s Z H _ I a) λus s1⟨xs,H1,I1,r,z,q⟩=>⟨by rw[<- r.length];exact z,?_⟩);have c:H1 s1.heap.objs.size=none:=I1.AN.fresh (Az _);refine⟨.ref s1.heap.objs.size,upd H1 s1.heap.objs.size (.lst xs),I1.laid (t':=s1.toks) (λb u e=>BC _ e) (Az _) ?_,rfl,q _ c⟩;exact⟨z,us,0,r,BR _ rfl⟩
end
abbrev Sp:=List V->Hp->VK->XK->Prop
abbrev Fl:=List Env->Hp->Shared->XK->Value->Shared->Prop
variable{CX:Fl}
structure Ke (P:Program) (w:World) (K:ZE7) (mg:ZE9) (Zp:Heap) (A:Around) (outer:List Env) (s:Shared) (H:Hp):Prop where
 frames:A.frames=some outer
 mod:Mod K mg Zp
 bs:∀b o,Zp.get? b=some o->s.heap.get? b=some o/\H b=none
 GS:Zp.objs.size<=s.heap.objs.size
 FC:s.heap.FunFrames Zp outer
 Hg:∀b∈BV outer,H b=none
 AN:C4 P w H s.heap
 bare:AllBare s.gens
def CE(outer:List Env)(P:Program)(w:World)(H:Hp)(s:Shared)(Q:VK)(u:Value)(s':Shared):Prop:=
 ∃v H',s'.os=s.os/\AllBare s'.gens/\Un (BV outer) [] H H' s.heap s'.heap/\C4 P w H' s'.heap/\RelV v u/\Q v H'
def CR(CX:Fl)(outer:List Env)(P:Program)(w:World)(H:Hp)(s:Shared)(Q:VK)(E:XK)(r:Result)(s':Shared):Prop:=
 match r with
 | .ok (.ret u)=>CE outer P w H s Q u s'
 | .ok _=>False
 | .error e=>CX outer H s E e s'
structure Cv (P:Program) (w:World) (K:ZE7) (mg:ZE9) (Zp:Heap) (CX:Fl) (k:Nat) (f:Addr) (fd:FuncData) (ps:List Str) (sp:Sp):Prop where
 len:∀vs H Q E,sp vs H Q E->vs.length=ps.length
 run:∀(A:Around)(outer:List Env)(s:Shared)(H:Hp)(args:Args)(us:List Value)(vs:List V)(Q:VK)(E:XK),Bu k A->Ke P w K mg Zp A outer s H->BindsTo s fd args (ps.zip us)->Vals vs us->sp vs H Q E->
  codeAny (model P w) A (.call (.ref f) args) (CR CX outer P w H s Q E) s
theorem Cv.mono{P:Program}{K:ZE7}{f:Addr}{sp:Sp}(F:Cv P w K mg Zp CX j f fd ps sp)(h:j<=k):
  Cv P w K mg Zp CX k f fd ps sp:=⟨F.len,λA outer s H args us vs Q E a=>F.run A outer s H args us vs Q E (a.mono h)⟩
theorem Ke.make{P:Program}{K:ZE7}(e:Ke P w K mg Zp A outer s H)(C:Addr)(us:List Value)(kw:List (Str×Value)):
  Ke P w K mg Zp (A.under (.builtin "type.__call__" ⟨.ref C::us,kw⟩)) outer s H:=⟨by first|exact e.frames|(simpa[Around.under,Code.envs,Code.isFrame,pushEnvs]using e.frames),e.mod,e.bs,e.GS,e.FC,e.Hg,e.AN,e.bare⟩
theorem Inv.TY(I:Inv X Zd Z H s):Ke X.prog X.w X.K X.mg X.base X.A X.stack s H:=
 ⟨I.ok.frames,I.ok.mod,I.bs,Bq I.ok.GS I.sz,I.stack,I.QN,I.AN,I.bare⟩
theorem Inv.after{Q:VK}(I:Inv X Zd Z H s)(h:CE X.stack X.prog X.w H s Q u s'):EP X Zd Z Q u s':=by
 obtain⟨v,H',os,bare,un,AN,r,q⟩:=h;obtain⟨hh,g,d,t,KL⟩:=s';obtain rfl:KL=s.os:=os;exact⟨v,H',I.call (h':=hh) (g':=g) (d':=d) (t':=t) (ch:=[]) un AN bare (λb z=>absurd z (by simp)),r,q⟩
def Ep(sp:Sp)(JE:List V)(E:XK)(t:TA):TE:=λZ H Q=>t Z H λvs H1=>sp (vs++JE) H1 Q E
def Binds(K:ZE7)(fd:FuncData)(ps:List Str)(ds:List Value):Prop:=
 ∀(s:Shared)(us:List Value),K.In s.heap->(us++ds).length=ps.length->BindsTo s fd ⟨us,[]⟩ (ps.zip (us++ds))
theorem Binds.all{K:ZE7}(h:∀us:List Value,us.length=ps.length->bindArgs fd ⟨us,[]⟩=pure (ps.zip us)):Binds K fd ps []:=λs us _ a=>by
 rw[Ji]at a ⊢;exact .of_eq (h us a)
def Passes(CX:Fl)(X:Cx)(E:XK):Prop:=∀(Zd:ZE8)(Z:St)(H:Hp)(s:Shared)(e:Value)(s':Shared),Inv X Zd Z H s->CX X.stack H s E e s'->X.xe e s'
section
variable{f:Addr}{sp:Sp}{E:XK}{m:Str}{p apos:Pos}{o:Expr}{t:TA}
theorem yn{Q:VK}(F:Cv X.prog X.w X.K X.mg X.base CX k f fd ps sp)(c:Bu k X.A)(g:Binds X.K fd ps ds)(hd:Vals JE ds)(hx:Passes CX X E)
  (I:Inv X Zd Z H s) (r:Vals vs us) (h:sp (vs++JE) H Q E):wpAny (model X.prog X.w) X.A (call (.ref f) us) (EP X Zd Z Q) X.xe s:=by
 have b:Vals (vs++JE) (us++ds):=r.append hd;have d:(us++ds).length=ps.length:=by rw[<- b.length];exact F.len _ _ _ _ h
 refine ZAR (ZAO (F.run X.A X.stack s H ⟨us,[]⟩ (us++ds) (vs++JE) Q E c I.TY (g s us I.C8 d) b h) λr s' a=>?_);cases r with
 |error e=>exact hx Zd Z H s e s' I a
 |ok i=>
  cases i with
  |ret u=>exact I.after a
  |next=>exact False.elim a
  |brk=>exact False.elim a
  |cont=>exact False.elim a
theorem wz(F:Cv X.prog X.w X.K X.mg X.base CX k f fd ps sp)(a:Bu k X.A)(d:Gl X x)(b:X.mg x=some (.ref f))(c:PySem.W.keepIn X.K (.ref f)=true)(g:Binds X.K fd ps ds)(hd:Vals JE ds)(hx:Passes CX X E)
  (i:PA X (e::es) t) (BL:(x == ("__debug__":Str))=false:=by decide) (he:starEach (e::es) X.env=(false,eval e X.env)::starEach es X.env:=by rfl) (BE:(backTo pos (starEach es X.env)).any (·.1)=false:=by rfl) :
  PE X (.Call (.Name x p) (e::es) [] pos) (Ep sp JE E t):=by
 intro Zd s Z H Q I h;refine tT (JK I d b ?_ BL);refine jA (h₀:=X.base) I.ok.mod.Gs c (Ae (i pos Zd s Z H _ I h) λus s1⟨vs,H1,I1,r,q⟩=>⟨I1.C8,?_⟩) he BE;exact yn F a g hd hx I1 r q
variable{kws:List Keyword}{tk:TA}{nm:Option Str}{g:List Value->List Value->List Value}{gV:List V->List V->List V}
end
structure B0 (N P:List Str) (sc:Scope):Prop where
 kind:sc.kind=.function
 co:sc.isCoroutine=false
 gen:sc.isGenerator=false
 nd:N.Nodup
 pre:N.take P.length=P
 par:∀x∈P,sc.names.lookup x=some .local∨sc.names.lookup x=some .cell
 zt:∀y∈sc.names,y.2≠.free
theorem fG{a:Str->Option NameKind}{x:Str}:∀{binds:List (Str×Value)}{m:ZE9},(∀v,(x,v)∉binds)->bindL a binds m x=m x
 | [],_,_=>rfl
 | (n,v)::r,m,h=>by
  unfold bindL;rw[fG λw hw=>h w (By _ hw)];split
  .have:x≠n:=by rintro rfl;exact h v Bc
   simp[this]
  .rfl
theorem eY{a:Str->Option NameKind}{x:Str}:∀{binds:List (Str×Value)}{m:ZE9},(∀v,(x,v)∉binds)->bindC a binds m x=m x
 | [],_,_=>rfl
 | (n,v)::r,m,h=>by
  unfold bindC;rw[eY λw hw=>h w (By _ hw)];split
  .rfl
  .have:x≠n:=by rintro rfl;exact h v Bc
   simp[this]
theorem bN{a:Str->Option NameKind}{x:Str}{v:Value}:∀{P:List Str}{vs:List Value}{i:Nat}{m:ZE9},P.Nodup->P[i]?=some x->vs[i]?=some v->a x=some .local->
  bindL a (P.zip vs) m x=some v
 | [],_,_,_,_,h,_,_=>by simp at h
 |_::_,[],_,_,_,_,h,_=>by simp at h
 |p::P,w::vs,0,m,nd,h1,h2,hk=>by
  simp at h1 h2;subst h1;subst h2;show bindL a ((p,w)::P.zip vs) m p=_;unfold bindL;rw[fG λv b=>(List.nodup_cons.mp nd).1 (ik b).1,lO hk];simp
 |p::P,w::vs,i+1,m,nd,h1,h2,hk=>by
  show bindL a ((p,w)::P.zip vs) m x=_;unfold bindL;exact bN (i:=i) (List.nodup_cons.mp nd).2 (by simpa using h1) (by simpa using h2) hk
theorem bC{a:Str->Option NameKind}{x:Str}{v:Value}:∀{P:List Str}{vs:List Value}{i:Nat}{m:ZE9},P.Nodup->P[i]?=some x->vs[i]?=some v->a x≠some .local->
  bindC a (P.zip vs) m x=some v
 | [],_,_,_,_,h,_,_=>by simp at h
 |_::_,[],_,_,_,_,h,_=>by simp at h
 |p::P,w::vs,0,m,nd,h1,h2,hk=>by
  simp at h1 h2;subst h1;subst h2;show bindC a ((p,w)::P.zip vs) m p=_;unfold bindC;rw[eY λv b=>(List.nodup_cons.mp nd).1 (ik b).1,lA hk];simp
 |p::P,w::vs,i+1,m,nd,h1,h2,hk=>by
  show bindC a ((p,w)::P.zip vs) m x=_;unfold bindC;exact bC (i:=i) (List.nodup_cons.mp nd).2 (by simpa using h1) (by simpa using h2) hk
noncomputable def start(N:List Str)(vs:List V):St:=vs.map some++List.replicate (N.length - vs.length) none
noncomputable def Dy(CX:Fl)(P:Program)(w:World)(K:ZE7)(mg:ZE9)(Zp:Heap)(N:List Str)(qual:Str)(scope:Scope)(f:Addr)(cd:Value)(A:Around)(outer:List Env)(s:Shared)(H:Hp)(E:XK):Cx where
 prog:=P
 w:=w
 K:=K
 mg:=mg
 base:=Zp
 A:=A.deeper (envOfC qual scope s.heap.objs.size f cd)
 N:=N
 s₀:=s
 H₀:=H
 env:=envOfC qual scope s.heap.objs.size f cd
 outer:=outer
 stack:=envOfC qual scope s.heap.objs.size f cd::outer
 ex:=[]
 calm:=true
 fn:=λ_=>true
 pn:=[]
 xe:=λe s'=>wpAny (model P w) (A.deeper (envOfC qual scope s.heap.objs.size f cd)) (leaving (envOfC qual scope s.heap.objs.size f cd) e) (λ_ K4=>CX outer H s E e K4) (λa K4=>CX outer H s E a K4) s'
theorem Zm(h:sc.names.lookup x=some .cell):∃c,(cellsFrom n sc.names []).lookup x=some c:=by
 have q:=ZDF sc.names n [] (.inl h);exact Option.isSome_iff_exists.mp q
theorem zP{P:Program}{K:ZE7}{f:Addr}{s1:Shared}{E:XK}
  (S:B0 N ps scope) (hd:A.handled=none) (e0:Ke P w K mg Zp A outer s H) (C:vs.length=ps.length) (r:Vals vs us)
  (x:InCallC s s.heap.objs.size (bindL (envOfC qual scope s.heap.objs.size f cd).kindOf (ps.zip us) λ_=>none) (cellsFrom (s.heap.objs.size+1) scope.names []) (bindC (envOfC qual scope s.heap.objs.size f cd).kindOf (ps.zip us) λ_=>none) s1) :
  Inv (Dy CX P w K mg Zp N qual scope f cd A outer s H E) [] (start N vs) H s1:=by
 have F:ps.length<=N.length:=by have:=qz List.length S.pre;rw[Bx]at this;omega
 obtain⟨h1,tk,rfl,m⟩:=x.done;have j:∀b:Addr,b∉(Dy CX P w K mg Zp N qual scope f cd A outer s H E).ex:=λb z=>absurd (show b∈([]:List Addr)from z) (by simp);refine⟨⟨e0.mod,S.kind,rfl,rfl,Az _,λy z c h1 h2=>?_,λy d=>?_,λy c _ h=>?_,λ_=>hd,Around.frames_deeper e0.frames,.inr ⟨rfl,rfl⟩,λb z=>absurd z (j b),e0.bs,e0.GS,λb _ _=>j b,λb z=>absurd z (j b),e0.FC,e0.Hg⟩,
  rfl,e0.bare,Un.kept m,⟨_,x.toInCall.ns,λi y v h1 h2 D=>?_⟩,λy c h=>⟨_,x.cell y c h⟩,e0.AN.fresh (Az _),λy c h=>?_,λp g=>absurd (show p∈([]:ZE8)from g) (by simp),e0.AN.kept m,?_⟩
 .exact name_of_addr x.apart (LA h1) (LA h2)
 .have d:scope.names.lookup y=some .cell∨scope.names.lookup y=some .free:=d;rcases d with d|d
  .exact Zm d
  .exact absurd rfl (S.zt _ (LA d))
 .exact MU (x.above y c (LA h))
 .have hi:i<vs.length:=by
   unfold start at h2
   by_cases hi:i<vs.length
   .exact hi
   .rw[Jk (by simpa using hi)]at h2
    rw[iW]at h2;split at h2 <;> cases h2
  have B:vs[i]?=some v:=by
   unfold start at h2;rw[G7 (by simpa using hi),Bp]at h2
   cases e:vs[i]? with
   |none=>rw[e]at h2;cases h2
   |some a=>rw[e]at h2;cases h2;rfl
  obtain⟨u,l,t⟩:=r.get B;have g:ps[i]?=some y:=by
   rw[<- S.pre,iX (by omega)];exact h1
  have o:ps.Nodup:=by rw[<- S.pre];exact S.nd.sublist (iq _ _)
  refine⟨u,t,?_⟩;rcases S.par y (L6 g)with k|k
  .exact .inl ⟨k,bN o g l k⟩
  .obtain⟨c,e⟩:=Zm (n:=s.heap.objs.size+1) k;refine .inr ⟨.inl k,c,e,?_⟩;have q:=x.cell y c e;rw[bC o g l (by show scope.names.lookup y≠_;rw[k];decide)]at q;exact q
 .exact e0.AN.fresh (MU (x.above y c (LA h)))
 .unfold start;show _=N.length;rw[Bh,Aw,ZCu];omega
theorem cK{P:Program}{K:ZE7}{f:Addr}{a:Arguments}{body:List Stmt}{l kV d j AS ct B:Value}{m od:Option Addr}
  {Ge:Array (Option Value)}{sp:Sp}(C:K.lookup f=some ⟨B,od,.func (PySem.W.fnOf name qual a body scope l kV d j m AS ct),Ge⟩) (Es:PySem.W.codeIn K AS qual=true) (S:B0 N ps scope)
  (len:∀vs H Q E,sp vs H Q E->vs.length=ps.length)
  (KO:∀(A:Around)(outer:List Env)(s:Shared)(H:Hp)(vs:List V)(Q:VK)(E:XK),Bu k (A.deeper (envOfC qual scope s.heap.objs.size f AS))->sp vs H Q E->
   ∃t,D2 (Dy CX P w K mg Zp N qual scope f AS A outer s H E) body t/\t { nx:=λ_ H'=>Q .AB H',rt:=Q } (start N vs) H) :
  Cv P w K mg Zp CX (k+1) f (PySem.W.fnOf name qual a body scope l kV d j m AS ct) ps sp:=by
 refine⟨len,λA outer s H args us vs Q E i e0 O r Eh=>?_⟩;have L:=len _ _ _ _ Eh;have p:K.In s.heap:=e0.mod.Gs.keeps λb o e=>(e0.bs b o e).1;have h:s.heap.NoLimit:=e0.mod.nolimit.keeps λb o e=>(e0.bs b o e).1;have z:∀y∈ps.zip us,scope.names.lookup y.1=some .local∨(scope.names.lookup y.1=some .cell/\((cellsFrom (s.heap.objs.size+1) scope.names []).lookup y.1).isSome=true):=λ⟨n,v⟩D=>by
  rcases S.par n (ik D).1 with q|q
  .exact .inl q
  .exact .inr ⟨q,ZDF _ _ _ (.inl q)⟩
 refine codeAny_call_function i.depth (p _ _ C) rfl S.co S.gen rfl (PySem.W.codeRec_of p Es) (O _ _ _ _ ?_);refine wpAny_newFunctionEnv_cells S.kind z λenv M s1 x=>?_;subst M;refine⟨h.keeps x.toInCall.keep,codeAny_func ?_⟩;obtain⟨t,F,G⟩:=KO A outer s H vs Q E (i.deeper _) Eh;have I:Inv (Dy CX P w K mg Zp N qual scope f AS A outer s H E) [] (start N vs) H s1:=zP S i.hd e0 L r x;refine nY (F [] s1 (start N vs) H _ I G) (λR s' c=>?_) λe s' c=>c;have fin:∀{σ':St}{H':Hp}{v:V}{u:Value},Inv (Dy CX P w K mg Zp N qual scope f AS A outer s H E) [] σ' H' s'->RelV v u->Q v H'->CE outer P w H s Q u s':=
  λ{σ' H' v u}J g q=>⟨v,H',J.os,J.bare,J.base,J.AN,g,q⟩
 cases R with
 |ret u=>
  obtain⟨v,σ',H',J,g,q⟩:=c;exact fin J g q
 |next=>
  obtain⟨σ',H',J,q⟩:=c;exact fin (v:=V.AB) (u:=Value.none) J rfl q
 |brk=>
  obtain⟨_,_,_,q⟩:=c;exact False.elim q
 |cont=>
  obtain⟨_,_,_,q⟩:=c;exact False.elim q
section
variable{p:Pos}{t:TA}{id T:String}{r:List V->Hp->VK->Prop}
def DA(r:List V->Hp->VK->Prop)(t:TA):TE:=λZ H Q=>t Z H λvs H1=>r vs H1 Q
end
end L2
namespace HT
variable{E Q:Value->Shared->Prop}{sl t:Addr}{v vl vu:Value}{hi o:Option Int}
section
open PySem.SeqAt
open PySem.AutoSeq1 (wpAny_loadPart')
open PySem.MeetsSeq PySem.MeetsSeq2 PySem.MeetsSeq3
end
section
variable{prog:Program}{w:World}{A:Around}{s:Shared}
theorem xt{b:Addr}{vs ws:List Value}(h:IsTup s.heap t vs.toArray)(i:IsTup s.heap b ws.toArray)(f:vs≠[])
  (h1:ws=[]->Q (.ref t) s) (h2:ws≠[]->Q (.ref s.heap.objs.size) { s with heap:=s.heap.push { cls:=.type "tuple", data:=.seq (vs++ws).toArray } })
  (FA:vs.length+ws.length<=sizeLine):wpAny (model prog w) A (binaryOp .Add (.ref t) (.ref b)) Q E s:=by
 obtain⟨⟨cls,dd,data,sl⟩,ho,g,n,hd⟩:=id h;obtain⟨⟨j,Oa,c,Ga⟩,DC,Jo,d,a⟩:=id i;simp only at g hd Jo a;subst g hd Jo a;have e:vs.toArray++ws.toArray=(vs++ws).toArray:=by simp
 by_cases hw:ws=[]
 .exact concat_meets ⟨_,ho,rfl⟩ ⟨_,DC,rfl⟩ ZBP seq_tuple_add j8 j6 (j5 _ _)
   (tuple_addW1 t b vs.toArray ws.toArray n d dd Oa sl Ga (by simpa using f) (by simp[hw])) ⟨ho,DC,h1 hw⟩
 .refine concat_meets ⟨_,ho,rfl⟩ ⟨_,DC,rfl⟩ ZBP seq_tuple_add j8 j6 (j5 _ _)
   (tuple_addW2 t b vs.toArray ws.toArray n d dd Oa sl Ga (by simpa using f) (by simpa using hw) (by rw[Bi,Bi];exact FA)) ⟨ho,DC,?_⟩
  rw[e];exact h2 hw
noncomputable def Aq(n d:Nat):Option Int->Nat
 |none=>d
 |some v=>if v<0 then(v+(n:Int)).toNat else min v.toNat n
theorem ZQ(n d:Nat):Aq n d none=d:=rfl
theorem PH(n d k:Nat):Aq n d (some (k:Int))=min k n:=by
 show(if(k:Int)<0 then((k:Int)+(n:Int)).toNat else min (k:Int).toNat n)=min k n
 rw[lA (by omega),RN]
theorem u0(n d:Nat)(hd:d<=n)(o:Option Int):Aq n d o<=n:=by
 cases o with
 |none=>exact hd
 |some v=>
  show(if v<0 then(v+(n:Int)).toNat else min v.toNat n)<=n
  by_cases a:v<0
  .rw[lO a];omega
  .rw[lA a];exact ZD4 _ _
theorem ZX(v:Int)(n d:Nat):(if v<0 then max (v+(n:Int)) 0 else min v (n:Int))=((Aq n d (some v):Nat):Int):=by
 show(if v<0 then max (v+(n:Int)) 0 else min v (n:Int))=(((if v<0 then(v+(n:Int)).toNat else min v.toNat n):Nat):Int)
 by_cases a:v<0
 .simp only[lO a];omega
 .simp only[lA a];omega
theorem xC(lo hi:Option Int)(n:Nat):Builtin.Slice.sliceAdjust lo hi 1 (n:Int)=(((Aq n 0 lo:Nat):Int),((Aq n n hi:Nat):Int)):=by
 have h1:¬ ((1:Int)<0):=by omega
 unfold Builtin.Slice.sliceAdjust;simp only[h1,ZBN];refine YR ?_ ?_
 .cases lo with
  |none=>rfl
  |some v=>exact ZX v n 0
 .cases hi with
  |none=>rfl
  |some v=>exact ZX v n n
theorem mT(i j:Nat):Builtin.Slice.slicePlaces (i:Int) (j:Int) 1=j - i:=by
 unfold Builtin.Slice.slicePlaces;have h1:(1:Int) > 0:=by omega
 simp only[h1,ZBG,Int.ediv_one];split <;> omega
theorem hG{Q:Option Int->Shared->Prop}(p:IsPart v o)(h:Q o s):wpAny (model prog w) A (Builtin.Slice.slicePartIndex v) Q E s:=by
 cases p with
 |none=>exact slicePart_none h
 |int i t=>exact slicePart_int h
theorem gE{lo:Option Int}{n:Nat}{Q:Int×Int×Nat->Shared->Prop}(b:s.heap.IsSliceOf sl vl vu .none)(pl:IsPart vl lo)(a:IsPart vu hi)
  (h:Q (((Aq n 0 lo:Nat):Int),1,Aq n n hi - Aq n 0 lo) s):wpAny (model prog w) A (Builtin.Slice.sliceApplied (.ref sl) (pure (n:Int))) Q E s:=by
 obtain⟨os,K9,Ou,Nf⟩:=id b;unfold Builtin.Slice.sliceApplied Builtin.Slice.sliceFields;refine jW (jW (sf K9 Nf (x:=vl) rfl (jW (sf K9 Nf (x:=vu) rfl (jW (sf K9 Nf (x:=.none) rfl (kA ?_)))))));refine jW (slicePart_none ?_);show wpAny _ _ (if((1:Int) == 0)=true then _ else _) _ _ s
 rw[lA (by decide)];refine jW (hG pl (jW (hG a (jW (kA ?_)))));show wpAny _ _ (match Builtin.Slice.sliceAdjust lo hi 1 (n:Int)with|(lo,hi)=>pure (lo,(1:Int),Builtin.Slice.slicePlaces lo hi 1)) _ _ s
 rw[xC lo hi n];show wpAny _ _ (pure (((Aq n 0 lo:Nat):Int),(1:Int),Builtin.Slice.slicePlaces ((Aq n 0 lo:Nat):Int) ((Aq n n hi:Nat):Int) 1)) _ _ s;rw[mT];exact kA h
theorem r9(xs:Array Value)(i k:Nat):((List.range k).filterMap λ(m:Nat)=>xs[((i:Int)+(m:Int) * 1).toNat]?).toArray=((xs.toList.drop i).take k).toArray:=by
 have e:(λ(m:Nat)=>xs[((i:Int)+(m:Int) * 1).toNat]?)=λm=>xs[i+m]?:=by
  funext m
  have:((i:Int)+(m:Int) * 1).toNat=i+m:=by omega
  rw[this]
 rw[e];have:=pick_run xs i k;rw[ZCq]at this;have a:((λx=>xs[x]?) ∘ λx=>i+x)=λm=>xs[i+m]?:=rfl;rw[a]at this;rw[this]
theorem ZBL{items:Array Value}{lo:Option Int}(a:IsTup s.heap t items)(c:s.heap.IsSliceOf sl vl vu .none)(pl:IsPart vl lo)(d:IsPart vu hi)
  (hw:¬ (Aq items.size 0 lo=0/\Aq items.size items.size hi=items.size))
  (h:Q (.ref s.heap.objs.size) { s with heap:=s.heap.push { cls:=.type "tuple", data:=.seq ((items.toList.drop (Aq items.size 0 lo)).take (Aq items.size items.size hi - Aq items.size 0 lo)).toArray } })
  (FA:items.size<=sizeLine):wpAny (model prog w) A (getItem (.ref t) (.ref sl)) Q E s:=by
 have b:sizeOk (.seq ((items.toList.drop (Aq items.size 0 lo)).take (Aq items.size items.size hi - Aq items.size 0 lo)).toArray):=by
  show((items.toList.drop (Aq items.size 0 lo)).take (Aq items.size items.size hi - Aq items.size 0 lo)).toArray.size<=sizeLine;rw[Bi,Bx,EF,EC];omega
 have j:Aq items.size items.size hi<=items.size:=u0 _ _ (Az _) hi;obtain⟨os,K9,Ou,Nf⟩:=id c;have e:s.TypeIs (.ref sl) "slice" := ⟨os,K9,Ou⟩;unfold getItem
 try with_reducible refine oK ?_
 first|refine jW (kA ?_)|skip
 refine jW (wpAny_sequenceKey a.typeIs (by decide) ?_);refine jW (pW (name:=Str.ofString "__getitem__") a.typeIs YT
  (pH YT a.typeIs entry_tuple_getitem ?_ (args_tuple_getitem _ _)))
 show wpAny _ _ (Builtin.Tuple.tupleItemsOf (.ref t) >>= _) _ _ s;refine jW (tupleItemsOf_ a ?_);refine jW (xB e ?_);rw[lO (by decide)];refine jW (gE c pl d ?_);have f:¬ ((((Aq items.size 0 lo:Nat):Int) == 0 && (1:Int) == 1 && (Aq items.size items.size hi - Aq items.size 0 lo) == items.size)=true):=by
  intro q;rw[CG,CG]at q;have i:((Aq items.size 0 lo:Nat):Int)=0:=eq_of_beq q.1.1;have g:Aq items.size items.size hi - Aq items.size 0 lo=items.size:=eq_of_beq q.2;exact hw ⟨by omega,by omega⟩
 show wpAny _ _ (if(((Aq items.size 0 lo:Nat):Int) == 0 && (1:Int) == 1 && (Aq items.size items.size hi - Aq items.size 0 lo) == items.size)=true then _ else _) _ _ s
 rw[lA f,r9]
 first
  |exact jW (m:=Builtin.Tuple.tupleExact _) (nU (kA ⟨_,rfl,kA h⟩) b)
  |exact jW (m:=Builtin.Tuple.tupleExact _) (nU (jW (kA (kA ⟨_,rfl,kA h⟩))) b)
  |exact jW (jW (m:=Builtin.Tuple.tupleExact _) (nU (kA (kA ⟨_,rfl,kA h⟩)) b))
  |exact jW (jW (m:=Builtin.Tuple.tupleExact _) (nU (kA ⟨_,rfl,kA h⟩) b))
end
end HT
namespace L2
variable{X:Cx}{pos:Pos}{xs ys:List V}{A3 its' us:List Value}{α:Type}{j n t':Nat}{i:Int}{Zd:ZE8}{Z:St}{H:Hp}{s:Shared}{A:Around}{x y:V}{u v:Value}{T:String}
abbrev TO:=St->Hp->(Option Int->Hp->Prop)->Prop
def PO(X:Cx)(e:Option Expr)(t:TO):Prop:=
 ∀(Zd:ZE8)(s:Shared)(Z:St)(H:Hp)(Q:Option Int->Hp->Prop),Inv X Zd Z H s->t Z H Q->
  wpAny (model X.prog X.w) X.A (evalPart e X.env) (λu s'=>∃o H',Inv X Zd Z H' s'/\IsPart u o/\Q o H') X.xe s
def VT:TO:=λ_ H Q=>Q none H
def VE(t:TE):TO:=λZ H Q=>t Z H λx H1=>∃i,x=.int i/\Q (some i) H1
section
variable{e:Expr}{te:TE}{lo hi:Option Expr}{tl th:TO}{p2:Pos}
def Kh(X:Cx)(r:V->Option Int->Option Int->Hp->VK->Prop):Prop:=
 ∀(Zd:ZE8)(s:Shared)(Z:St)(H:Hp)(x:V)(v vl vu:Value)(lo hi:Option Int)(sl:Addr)(Q:VK),Inv X Zd Z H s->RelV x v->s.heap.IsSliceOf sl vl vu .none->IsPart vl lo->IsPart vu hi->r x lo hi H Q->
  ∃T id,typeLookup (.type T) "__getitem__"=pure (some (.builtin id))/\s.TypeIs v T/\wpAny (model X.prog X.w) X.A (getItem v (.ref sl)) (EP X Zd Z Q) X.xe s
def M1(r:V->Option Int->Option Int->Hp->VK->Prop)(te:TE)(tl th:TO):TE:=λZ H Q=>te Z H λx H1=>tl Z H1 λl H2=>th Z H2 λu H3=>r x l u H3 Q
def GZ(xs:List V)(lo hi:Option Int):List V:=(xs.drop (HT.Aq xs.length 0 lo)).take (HT.Aq xs.length xs.length hi - HT.Aq xs.length 0 lo)
theorem dk(xs:List V)(lo hi:Option Int):(GZ xs lo hi).length<=xs.length:=by
 unfold GZ;rw[Bx,EF];omega
def ZA2(K:ZE7):V->Option Int->Option Int->Hp->VK->Prop:=λx lo hi H Q=>∃a xs,x=.ref a/\Al K H a xs/\
 ¬ (HT.Aq xs.length 0 lo=0/\HT.Aq xs.length xs.length hi=xs.length)/\∀p,H p=none->Q (.ref p) (upd H p (.tup (GZ xs lo hi)))
theorem ke:Kh X (ZA2 X.K):=by
 intro Zd s Z H x v vl vu lo hi sl Q I g j pl i h;obtain⟨a,xs,rfl,hx,hw,q⟩:=h;cases g;obtain⟨A3,r,e,d⟩:=I.tuple hx;have c:A3.toArray.size=xs.length:=by rw[Bi];exact r.length.symm
 refine⟨"tuple", _,PyProof.Rows.slot_tuple_getitem.lookup,e.typeIs,?_⟩;refine HT.ZBL e j pl i (by rw[c];exact hw) ?_ (by rw[c];exact d);rw[c];refine⟨.ref s.heap.objs.size,_,I.laid (t':=s.toks) (o:=.tup (GZ xs lo hi)) (λb ob q=>BC _ q) (Az _) ?_,rfl,q _ (I.AN.fresh (Az _))⟩;exact⟨Bq (dk xs lo hi) d,_,(r.drop (HT.Aq xs.length 0 lo)).take (HT.Aq xs.length xs.length hi - HT.Aq xs.length 0 lo),⟨IsTup.new _ _,λR7 f=>by rw[BR _ rfl]at f;cases f;rfl⟩⟩
def qa(K:ZE7):R2:=λx y H Q=>∃a b xs ys,x=.ref a/\y=.ref b/\Al K H a xs/\Al K H b ys/\xs≠[]/\xs.length+ys.length<=sizeLine/\
 (ys=[]->Q (.ref a) H)/\(ys≠[]->∀p,H p=none->Q (.ref p) (upd H p (.tup (xs++ys))))
theorem Vals.Qg(r:Vals xs us):us=[]↔xs=[]:=by
 cases r with
 |nil=>simp
 |cons _ _=>simp
theorem v5:BA X (binaryOp .Add) (qa X.K):=by
 intro Zd s Z H x y v u Q I i g h;obtain⟨a,b,xs,ys,rfl,rfl,m,l,hx,e,k,j⟩:=h;cases i;cases g;obtain⟨A3,d,p1,_⟩:=I.tuple m;obtain⟨Bd,c,p2,_⟩:=I.tuple l;refine HT.xt p1 p2 (λz=>hx (d.Qg.mp z)) (λz=>⟨.ref a,H,I,rfl,k (c.Qg.mp z)⟩) (λz=>?_) (by rw[<- d.length,<- c.length];exact e);refine⟨.ref s.heap.objs.size,_,I.laid (t':=s.toks) (o:=.tup (xs++ys)) (λb ob q=>BC _ q) (Az _) ?_,rfl,j (λw=>z (c.Qg.mpr w)) _ (I.AN.fresh (Az _))⟩;exact⟨by rw[Bh];exact e,_,d.append c,⟨IsTup.new _ _,λR7 f=>by rw[BR _ rfl]at f;cases f;rfl⟩⟩
end
noncomputable def Hv(n:Nat)(i:Int):Option Nat:=if 0<=i then(if i<n then some i.toNat else none)else if -(n:Int)<=i then some (i+n).toNat else none
def BZ(xs:List α)(i:Int):Option α:=(Hv xs.length i).bind λj=>xs[j]?
theorem hZ(h:Hv n i=some j):seqIndex? i n=some j/\j<n/\-(n:Int)<=i/\i<n:=by
 unfold Hv at h
 by_cases a:0<=i
 .rw[lO a]at h
  by_cases h1:i<n
  .rw[lO h1]at h;have e:i.toNat=j:=CH h;exact⟨by rw[seqIndex_of a h1,e],by omega,by omega,h1⟩
  .rw[lA h1]at h;cases h
 .rw[lA a]at h
  by_cases h1:-(n:Int)<=i
  .rw[lO h1]at h;have e:(i+n).toNat=j:=CH h;exact⟨by rw[seqIndex_neg (by omega) h1,e],by omega,h1,by omega⟩
  .rw[lA h1]at h;cases h
theorem Rz{xs:List α}{v:α}(h:BZ xs i=some v):∃j,seqIndex? i xs.length=some j/\xs[j]?=some v/\j<xs.length/\-(xs.length:Int)<=i/\i<xs.length:=by
 unfold BZ at h;cases e:Hv xs.length i with
 |none=>rw[e]at h;cases h
 |some j=>
  rw[e]at h;obtain⟨h1,h2,b,a⟩:=hZ e;exact⟨j,h1,h,h2,b,a⟩
theorem Ib{xs:List α}{v:α}(h:xs[j]?=some v):BZ xs (j:Int)=some v:=by
 have a:j<xs.length:=(List.getElem?_eq_some_iff.mp h).1;have e:Hv xs.length (j:Int)=some j:=by
  unfold Hv;rw[lO (by omega),lO (by omega)];simp
 unfold BZ;rw[e];exact h
theorem jj(xs:List α)(v:α):BZ (xs++[v]) (-1)=some v:=by
 have a:(xs++[v]).length=xs.length+1:=by simp
 have e:Hv (xs++[v]).length (-1)=some xs.length:=by
  unfold Hv;rw[a,lA (by decide),lO (by omega)]
  congr 1
  omega
 unfold BZ;rw[e];show(xs++[v])[xs.length]?=some v;simp
def Vg(b:Expr):Prop:=∀o i,subscripted b false o i=operate [o,i] (getItem o i)
def Hm(X:Cx)(r:R2):Prop:=
 ∀(value a:Expr)(Zd:ZE8)(s:Shared)(Z:St)(H:Hp)(x y:V)(v u:Value)(Q:VK),Inv X Zd Z H s->RelV x v->RelV y u->r x y H Q->
  subscripted a false v u=operate [v,u] (getItem v u)->wpAny (model X.prog X.w) X.A (subscriptTail value a v u) (EP X Zd Z Q) X.xe s
def Ht(X:Cx)(id:String)(r:V->List V->Hp->VK->Prop):Prop:=
 ∀(Zd:ZE8)(s:Shared)(Z:St)(H:Hp)(x:V)(xs:List V)(v:Value)(us:List Value)(Q:VK),Inv X Zd Z H s->RelV x v->Vals xs us->r x xs H Q->
  wpAny (model X.prog X.w) X.A (call (.builtin id) (v::us)) (EP X Zd Z Q) X.xe s
section
variable{a b:Expr}{ta tb:TE}
def XX(K:ZE7):R2:=λx y H Q=>∃p xs i v,x=.ref p/\y=.int i/\AO K H p xs/\BZ xs i=some v/\Q v H
def MZ(K:ZE7):R2:=λx y H Q=>∃p xs i v,x=.ref p/\y=.int i/\Al K H p xs/\BZ xs i=some v/\Q v H
def ZCH:R2:=λx y H Q=>∃z i c,x=.str z/\y=.int i/\z.length<=sizeLine/\BZ z.cps.toList i=some c/\Q (.str ⟨#[c]⟩) H
theorem CP:Hm X (XX X.K):=by
 intro value a Zd s Z H x y v u Q I g f h c;obtain⟨p,xs,i,z,rfl,rfl,k,m,q⟩:=h;cases g;obtain⟨t,rfl⟩:=f;obtain⟨A3,r,pl,A⟩:=I.list k;obtain⟨j,h1,h2,B,o,n⟩:=Rz m;obtain⟨w,e,Xv⟩:=r.get h2;have l:=r.length;have hn:=HS;have fin:EP X Zd Z Q w s:=⟨z,H,I,Xv,q⟩
 by_cases d:0<=i
 .have b:i.toNat=j:=by
   rw[seqIndex_of d n]at h1;exact CH h1
  exact item_listR pl.isList d (by omega) (by rw[b];simpa using e) fin c
 .have b:(i+(A3.toArray.size:Int)).toNat=j:=by
   rw[seqIndex_neg (by omega) o]at h1;rw[Bi,<- l];exact CH h1
  exact subscriptTail_builtinR (x:=w) pl.isList.typeIs slot_list_getitem.lookup
   (wpAny_getItem_list_neg (Q:=λr s'=>r=w/\EP X Zd Z Q r s') pl.isList (by omega) (by rw[Bi] <;> omega) (by omega) (by rw[b];simpa using e) ⟨rfl,fin⟩) c
theorem AI:Hm X (MZ X.K):=by
 intro value a Zd s Z H x y v u Q I c b h d;obtain⟨p,xs,i,z,rfl,rfl,e,g,q⟩:=h;cases c;obtain⟨t,rfl⟩:=b;obtain⟨A3,r,pl,l⟩:=I.tuple e;obtain⟨j,h1,h2,o,n,m⟩:=Rz g;obtain⟨w,k,Xv⟩:=r.get h2;have f:=r.length;have hn:=HS;have fin:EP X Zd Z Q w s:=⟨z,H,I,Xv,q⟩;exact subscriptTail_builtinR (x:=w) pl.typeIs slot_tuple_getitem.lookup
  (getItem_tuple (j:=j) (Q:=λr s'=>r=w/\EP X Zd Z Q r s') pl (by omega) (by omega) (by rw[Bi,<- f];exact h1) (by simpa using k) ⟨rfl,fin⟩) d
theorem ZCF:Hm X ZCH:=by
 intro value a Zd s Z H x y v u Q I d b h e;obtain⟨z,i,c,rfl,rfl,o,g,q⟩:=h;obtain⟨t,rfl⟩:=d;obtain⟨t',rfl⟩:=b;obtain⟨j,h1,h2,p,l,k⟩:=Rz g;have f:z.cps.toList.length=z.length:=by simp[Str.length]
 rw[f]at h1 l k;have hn:=HS;exact tail_any (typeIs_str s z t) slot_str_getitem.lookup (getItem_str (c:=c) (by
  have n:decide (i < -(2 ^ 63:Int))=false:=mB (by omega);have m:decide (i>=2 ^ 63)=false:=mB (by omega);rw[n,m,Bool.or_false]) (by rw[h1];simpa using h2) ⟨.str ⟨#[c]⟩,H,I.tok _,⟨_,rfl⟩,q⟩) e
theorem qE(A3:List Value)(n j:Nat)(u:Value):Obj.mapSeq (·.setIfInBounds j u) { cls:=.type "list", data:=.seq A3.toArray n }={ cls:=.type "list", data:=.seq (A3.set j u).toArray n }:=by
 simp[Obj.mapSeq]
theorem Inv.lst{Zd:ZE8}{Z:St}{H:Hp}{s:Shared}{p:Addr}{xs:List V}(I:Inv X Zd Z H s)(h:H p=some (.lst xs)):
  ∃(A3:List Value)(n:Nat),Vals xs A3/\s.heap.get? p=some { cls:=.type "list", data:=.seq A3.toArray n }/\xs.length<=sizeLine:=by
 obtain⟨z,A3,n,r,e⟩:=I.AN p _ h;exact⟨A3,n,r,e,z⟩
theorem Inv.tR{p:Addr}{a:Nat}{f:Obj->Obj}(I:Inv X Zd Z H s)(h:H p=some (.lst xs))
  (ho:s.heap.get? p=some { cls:=.type "list", data:=.seq A3.toArray n }) (hf:f { cls:=.type "list", data:=.seq A3.toArray n }={ cls:=.type "list", data:=.seq its'.toArray a }) (r:Vals ys its') (hz:ys.length<=sizeLine) (t:Nat) :
  Inv X Zd Z (upd H p (.lst ys)) { s with heap:=s.heap.update p f,toks:=t }:=by
 have e:(s.heap.update p f).get? p=some { cls:=.type "list", data:=.seq its'.toArray a }:=by
  rw[ED f ho (by rw[hf] <;> rfl),hf]
 refine I.write (x:=p) (e:=p) (by rw[h];trivial) (.inl rfl) (λb u c q=>(DE _ _ (BJ c)).trans q) ⟨_,e⟩ ?_;exact⟨hz,its',a,r,e⟩
def ZC9:V->V->V->Hp->(Hp->Prop)->Prop:=λo i v H Q=>∃p xs k j,o=.ref p/\i=.int k/\H p=some (.lst xs)/\Hv xs.length k=some j/\Q (upd H p (.lst (xs.set j v)))
theorem set_list:VD X ZC9:=by
 intro Zd s Z H o i v z A u Q I m w l h;obtain⟨p,xs,k,j,rfl,rfl,c,y,q⟩:=h;cases m;obtain⟨t,rfl⟩:=w;obtain⟨A3,n,r,ho,x⟩:=I.lst c;obtain⟨h1,h2,e,d⟩:=hZ y;have a:=r.length;have hn:=HS;have g:Inv X Zd Z (upd H p (.lst (xs.set j v))) { s with heap:=s.heap.update p (Obj.mapSeq (·.setIfInBounds j u)) }:=
  I.tR c ho (qE A3 n j u) (r.set l j) (by rw[MS];exact x) s.toks
 by_cases f:0<=k
 .have b:k.toNat=j:=by
   rw[seqIndex_of f d]at h1;exact CH h1
  exact PySem.W.ki_setAt ho f (by omega) (by rw[Bi,<- a];exact d) (by rw[b];exact⟨_,g,q⟩)
 .have b:(k+(A3.toArray.size:Int)).toNat=j:=by
   rw[seqIndex_neg (by omega) e]at h1;rw[Bi,<- a];exact CH h1
  exact PySem.W.ki_setBack ho (by omega) (by rw[Bi,<- a];exact e) (by omega) (by rw[b];exact⟨_,g,q⟩)
theorem rC(lo hi:Option Int)(n:Nat):(sliceBounds lo hi none n).1=((HT.Aq n 0 lo:Nat):Int)/\(sliceBounds lo hi none n).2.1=((HT.Aq n n hi:Nat):Int)/\(sliceBounds lo hi none n).2.2=1:=by
 refine⟨?_,?_,rfl⟩
 .cases lo with
  |none=>simp[sliceBounds,HT.Aq]
  |some i=>
   simp only[sliceBounds,HT.Aq,ZD7,show(1:Int) > 0 by decide,ZBG]
   by_cases h:i<0
   .simp only[h,ZBG] <;> omega
   .simp only[h,ZBN] <;> omega
 .cases hi with
  |none=>simp[sliceBounds,HT.Aq]
  |some i=>
   simp only[sliceBounds,HT.Aq,ZD7,show(1:Int) > 0 by decide,ZBG]
   by_cases h:i<0
   .simp only[h,ZBG] <;> omega
   .simp only[h,ZBN] <;> omega
theorem ZCB(A3:List Value)(lo hi:Option Int):slicePick A3.toArray lo hi none=((A3.drop (HT.Aq A3.length 0 lo)).take (HT.Aq A3.length A3.length hi - HT.Aq A3.length 0 lo)).toArray:=by
 obtain⟨h1,h2,a⟩:=rC lo hi A3.toArray.size;unfold slicePick;rw[h1,h2,a];simp only[sliceRange_one,pick_run,Bi] <;> rfl
def UC(K:ZE7):V->Option Int->Option Int->Hp->VK->Prop:=λx lo hi H Q=>∃a xs,x=.ref a/\AO K H a xs/\∀p,H p=none->Q (.ref p) (upd H p (.lst (GZ xs lo hi)))
theorem NY:Kh X (UC X.K):=by
 intro Zd s Z H x v vl vu lo hi sl Q I e i pl f h;obtain⟨a,xs,rfl,hx,q⟩:=h;cases e;obtain⟨A3,r,d,g⟩:=I.list hx;have c:=r.length;refine⟨"list", _,slot_list_getitem.lookup,d.isList.typeIs,?_⟩;refine wpAny_getItem_list_slice d.isList i pl f .none (by simp) ?_ (by rw[Bi] <;> omega)
 rw[ZCB,<- c];refine⟨.ref s.heap.objs.size,_,I.laid (t':=s.toks) (o:=.lst (GZ xs lo hi)) (λb ob q=>BC _ q) (Az _) ?_,rfl,q _ (I.AN.fresh (Az _))⟩;exact⟨Bq (dk xs lo hi) g,_,0,(r.drop (HT.Aq xs.length 0 lo)).take (HT.Aq xs.length xs.length hi - HT.Aq xs.length 0 lo),BR _ rfl⟩
noncomputable def Ct:V->Bool
 | .AB=>true
 | .bl _=>true
 | .int _=>true
 | .str _=>true
 |_=>false
noncomputable def DN:V->V->Bool
 | .AB,.AB=>true
 | .bl a,.bl b=>a == b
 | .bl a,.int b=>(if a then 1 else 0) == b
 | .int a,.bl b=>a == (if b then 1 else 0)
 | .int a,.int b=>a == b
 | .str a,.str b=>a == b
 |_,_=>false
theorem PF(d:RelV y u)(c:RelV x v)(f:Ct y=true)(e:Ct x=true):SeqAt.EqAt A s u v (DN y x):=by
 cases y with
 |AB=>
  cases d;cases x with
  |AB=>cases c;exact SeqAt.EqAt.same _
  |bl b=>cases c;exact SeqAt.EqAt.none_bool b
  |int b=>obtain⟨t,rfl⟩:=c;exact SeqAt.EqAt.none_int b t
  |str b=>obtain⟨t,rfl⟩:=c;exact SeqAt.EqAt.none_str b t
  |_=>exact absurd (show false=true from e) Co
 |bl a=>
  cases d;cases x with
  |AB=>cases c;exact SeqAt.EqAt.bool_none a
  |bl b=>cases c;exact SeqAt.EqAt.bool_bool a b
  |int b=>obtain⟨t,rfl⟩:=c;exact SeqAt.EqAt.bool_int a b t
  |str b=>obtain⟨t,rfl⟩:=c;exact SeqAt.EqAt.bool_str a b t
  |_=>exact absurd (show false=true from e) Co
 |int a=>
  obtain⟨t',rfl⟩:=d;cases x with
  |AB=>cases c;exact SeqAt.EqAt.int_none a t'
  |bl b=>cases c;exact SeqAt.EqAt.int_bool a t' b
  |int b=>obtain⟨t,rfl⟩:=c;exact SeqAt.EqAt.int_int a t' b t
  |str b=>obtain⟨t,rfl⟩:=c;exact SeqAt.EqAt.int_str a t' b t
  |_=>exact absurd (show false=true from e) Co
 |str a=>
  obtain⟨t',rfl⟩:=d;cases x with
  |AB=>cases c;exact SeqAt.EqAt.str_none a t'
  |bl b=>cases c;exact SeqAt.EqAt.str_bool a t' b
  |int b=>obtain⟨t,rfl⟩:=c;exact SeqAt.EqAt.str_int a t' b t
  |str b=>obtain⟨t,rfl⟩:=c;exact SeqAt.EqAt.str_str a t' b t
  |_=>exact absurd (show false=true from e) Co
 |_=>exact absurd (show false=true from f) Co
def D9(x:V)(u:Value):Bool:=match u with
 | .none=>DN .AB x
 | .bool b=>DN (.bl b) x
 | .int i _=>DN (.int i) x
 | .str z _=>DN (.str z) x
 |_=>false
theorem SO(r:RelV y u)(f:Ct y=true):D9 x u=DN y x:=by
 cases y with
 |AB=>cases r;rfl
 |bl b=>cases r;rfl
 |int i=>obtain⟨t,rfl⟩:=r;rfl
 |str z=>obtain⟨t,rfl⟩:=r;rfl
 |_=>exact absurd (show false=true from f) Co
theorem Mb{x:V}:∀{xs:List V}{us:List Value},Vals xs us->xs.all Ct=true->us.any (D9 x)=xs.any λy=>DN y x
 |_,_,.nil,_=>rfl
 |y::xs,u::us,.cons r t,f=>by
  rw[OK,CG]at f;rw[List.any_cons,List.any_cons,SO r f.1,Mb t f.2]
theorem Iq{A:Around}{s:Shared}{x:V}{v:Value}(b:RelV x v)(c:Ct x=true):∀{xs:List V}{us:List Value},Vals xs us->xs.all Ct=true->∀u∈us,SeqAt.EqAt A s u v (D9 x u)
 |_,_,.nil,_=>λu a=>by cases a
 |y::xs,u::us,.cons r t,f=>λd a=>by
  rw[OK,CG]at f;rcases List.mem_cons.mp a with rfl|a
  .rw[SO r f.1];exact PF r b f.1 c
  .exact Iq b c t f.2 d a
def Iu(x:V)(xs:List V):Bool:=xs.any λy=>DN y x
def HX(K:ZE7)(neg:Bool):R2:=λx y H Q=>∃p xs,y=.ref p/\(AO K H p xs∨Al K H p xs)/\Ct x=true/\xs.all Ct=true/\Q (.bl (if neg then !Iu x xs else Iu x xs)) H
theorem KQ:BA X (compareOp .In) (HX X.K false):=by
 intro Zd s Z H x y v u Q I b d h;obtain⟨p,xs,rfl,a,c,fs,q⟩:=h;cases d;rcases a with a|a
 .obtain⟨A3,r,pl,e⟩:=I.list a;refine SeqAt.in_listAt (D9 x) pl.isList (λw hw=>Iq b c r fs w (by simpa using hw)) ⟨.bl _,H,I,rfl,?_⟩
  rw[show A3.toArray.any (D9 x)=A3.any (D9 x) by simp,Mb r fs];exact q
 .obtain⟨A3,r,pl,e⟩:=I.tuple a;refine SeqAt.in_tupleAt (D9 x) pl (λw hw=>Iq b c r fs w (by simpa using hw)) ⟨.bl _,H,I,rfl,?_⟩
  rw[show A3.toArray.any (D9 x)=A3.any (D9 x) by simp,Mb r fs];exact q
theorem QL:BA X (compareOp .NotIn) (HX X.K true):=by
 intro Zd s Z H x y v u Q I b d h;obtain⟨p,xs,rfl,a,c,fs,q⟩:=h;cases d;rcases a with a|a
 .obtain⟨A3,r,pl,e⟩:=I.list a;refine SeqAt.notIn_listAt (D9 x) pl.isList (λw hw=>Iq b c r fs w (by simpa using hw)) ⟨.bl _,H,I,rfl,?_⟩
  rw[show A3.toArray.any (D9 x)=A3.any (D9 x) by simp,Mb r fs];exact q
 .obtain⟨A3,r,pl,e⟩:=I.tuple a;refine SeqAt.notIn_tupleAt (D9 x) pl (λw hw=>Iq b c r fs w (by simpa using hw)) ⟨.bl _,H,I,rfl,?_⟩
  rw[show A3.toArray.any (D9 x)=A3.any (D9 x) by simp,Mb r fs];exact q
theorem Gn:DH X (.builtin "len") (λxs H Q=>∃p ys,xs=[.ref p]/\(AO X.K H p ys∨Al X.K H p ys)/\Q (.int ys.length) H):=by
 intro Zd s Z H xs us Q I r h;obtain⟨p,ys,rfl,b,q⟩:=h;obtain⟨u,rfl,d⟩:=vals1 r;cases d;have hn:=HS;rcases b with b|b
 .obtain⟨A3,c,pl,e⟩:=I.list b;have a:=c.length;exact Calls.call_len_list pl.isList (by simp only[Bi] <;> omega) ⟨.int ys.length,H,I.tok _,⟨s.toks+1,by rw[Bi,a]⟩,q⟩
 .obtain⟨A3,c,pl,e⟩:=I.tuple b;have a:=c.length;exact len_tuple pl (by simp only[Bi] <;> omega) ⟨.int ys.length,H,I.tok _,⟨s.toks+1,by rw[Bi,a]⟩,q⟩
theorem Zk:DH X (.builtin "len") (λxs H Q=>∃z,xs=[.str z]/\z.length<=sizeLine/\Q (.int z.length) H):=by
 intro Zd s Z H xs us Q I r h;obtain⟨z,rfl,a,q⟩:=h;obtain⟨u,rfl,t,rfl⟩:=vals1 r;have hn:=HS;exact len_str (by omega) ⟨.int z.length,H,I.tok _,⟨_,rfl⟩,q⟩
theorem KG:DH X (.type "list") (λxs H Q=>∃p ys,xs=[.ref p]/\(AO X.K H p ys∨Al X.K H p ys)/\∀l,H l=none->Q (.ref l) (upd H l (.lst ys))):=by
 intro Zd s Z H xs us Q I r h;obtain⟨p,ys,rfl,f,q⟩:=h;obtain⟨u,rfl,j⟩:=vals1 r;cases j;have fin:∀(A3:List Value),Vals ys A3->ys.length<=sizeLine->∀(h':Heap)(c:Nat),(∀b o',s.heap.get? b=some o'->h'.get? b=some o')->
   h'.get? s.heap.objs.size=some { cls:=.type "list", dict:=none,data:=.seq A3.toArray c,slots:=#[] }->EP X Zd Z Q (.ref s.heap.objs.size) { s with heap:=h' }:=λA3 a d h' c kp e=>
  ⟨.ref s.heap.objs.size,_,I.laid (t':=s.toks) kp (Az _) (show CU X.prog X.w _ h' _ (.lst ys)from⟨d,A3,c,a,e⟩),rfl,q _ (I.AN.fresh (Az _))⟩
 rcases f with f|f
 .obtain⟨A3,a,pl,d⟩:=I.list f;have g:=a.length;obtain⟨o,ho,i,n,hd⟩:=pl.isList;exact call_list_seq p (.inl rfl) ho i hd (λh' c kp e=>fin A3 a d h' c kp e) (by simp only[Bi] <;> omega)
 .obtain⟨A3,a,pl,d⟩:=I.tuple f;have g:=a.length;obtain⟨o,ho,i,n,hd⟩:=pl;exact call_list_seq p (.inr rfl) ho i hd (λh' c kp e=>fin A3 a d h' c kp e) (by simp only[Bi] <;> omega)
theorem OB:DH X (.type "tuple") (λxs H Q=>∃p ys,xs=[.ref p]/\((AO X.K H p ys/\∀l,H l=none->Q (.ref l) (upd H l (.tup ys)))∨(Al X.K H p ys/\Q (.ref p) H))):=by
 intro Zd s Z H xs us Q I r h;obtain⟨p,ys,rfl,h⟩:=h;obtain⟨u,rfl,j⟩:=vals1 r;cases j;rcases h with⟨c,q⟩|⟨c,q⟩
 .obtain⟨A3,a,pl,d⟩:=I.list c;have f:=a.length;refine call_tuple_list pl.isList (λh' kp=>?_) (by simp only[Bi] <;> omega)
  have i:Inv X Zd Z H { s with heap:=h' }:=I.kept (t':=s.toks) kp
  have k:Inv X Zd Z (upd H h'.objs.size (.tup ys)) { s with heap:=h'.push { cls:=.type "tuple", data:=.seq A3.toArray } }:=
   i.laid (t':=s.toks) (λb o e=>BC _ e) (Az _) (show CU X.prog X.w _ _ _ (.tup ys)from⟨d,A3,a,⟨IsTup.new _ _,λR7 g=>by rw[BR _ rfl]at g;cases g;rfl⟩⟩)
  exact⟨.ref h'.objs.size,_,k,rfl,q _ (i.AN.fresh (Az _))⟩
 .obtain⟨A3,a,pl,d⟩:=I.tuple c;exact call_tuple_same pl ⟨.ref p,H,I,rfl,q⟩
def O9(K:ZE7)(T:String)(x:V)(H:Hp):Prop:=match x with
 | .str _=>T="str"
 | .int _=>T="int"
 | .ref p=>(T="list" /\ ∃xs,AO K H p xs)∨(T="tuple" /\ ∃o,K.lookup p=some o/\o.cls=.type "tuple" /\ o.dict=none)∨
   (T="dict" /\ ((∃CB,H p=some (.dK CB))∨∃CB,H p=some (.dT CB)))∨(T="set" /\ ∃S n,H p=some (.set S n))∨(T="tuple" /\ ∃xs,H p=some (.tup xs))
 |_=>False
theorem aa(I:Inv X Zd Z H s)(r:RelV x v)(ty:O9 X.K T x H):
  s.TypeIs v T/\∀a,v=.ref a->∃ob,s.heap.get? a=some ob/\ob.dict=none:=by
 cases x with
 |str z=>
  obtain⟨t,rfl⟩:=r;cases(show T="str" from ty);exact⟨typeIs_str s z t,λ_ e=>nomatch e⟩
 |int i=>
  obtain⟨t,rfl⟩:=r;cases(show T="int" from ty);exact⟨typeIs_int s i t,λ_ e=>nomatch e⟩
 |ref p=>
  cases r;rcases ty with⟨rfl,xs,f⟩|⟨rfl,o,b,g,hd⟩|⟨rfl,b⟩|⟨rfl,S,n,b⟩|⟨rfl,xs,b⟩
  .obtain⟨A3,_,pl,_⟩:=I.list f;refine⟨pl.isList.typeIs,λa e=>?_⟩;cases e;obtain⟨o,n,e,c,hd,_⟩:=pl;exact⟨o,e,hd⟩
  .refine⟨⟨o,I.C8 p o b,g⟩,λa e=>?_⟩;cases e;exact⟨o,I.C8 _ o b,hd⟩
  .have z:∃o,s.heap.get? p=some o/\o.ExactDict:=by
    rcases b with⟨CB,b⟩|⟨CB,b⟩
    .obtain⟨_,_,_,_,o,_,_,e,ex,_⟩:=I.AN p _ b;exact⟨o,e,ex⟩
    .obtain⟨_,_,_,_,o,_,_,e,ex,_⟩:=I.AN p _ b;exact⟨o,e,ex⟩
   obtain⟨o,e,ex⟩:=z;refine⟨⟨o,e,ex.1⟩,λa d=>?_⟩;cases d;exact⟨o,e,ex.2.1⟩
  .obtain⟨o,_,_,_,e,ex,_⟩:=I.AN p _ b;refine⟨⟨o,e,ex.1⟩,λa d=>?_⟩;cases d;exact⟨o,e,ex.2.1⟩
  .obtain⟨_,A3,_,⟨o,e,c,_⟩,h⟩:=I.AN p _ b;refine⟨⟨o,e,c⟩,λa d=>?_⟩;cases d;exact⟨o,e,h o e⟩
 |_=>exact False.elim ty
def Zr(K:ZE7)(T:String)(r:V->List V->Hp->VK->Prop)(to:TE):TE:=λZ H Q=>to Z H λx H1=>O9 K T x H1/\r x [] H1 Q
def Lx(K:ZE7)(T:String)(r:V->List V->Hp->VK->Prop)(to:TE)(t:TA):TE:=λZ H Q=>to Z H λx H1=>O9 K T x H1/\t Z H1 λxs H2=>r x xs H2 Q
variable{o e:Expr}{es:List Expr}{to:TE}{t:TA}{name:Str}{apos Bg:Pos}{id:String}{r:V->List V->Hp->VK->Prop}
end
def Qu(X:Cx)(id:String)(r:V->List V->Hp->VK->Prop):Prop:=
 ∀(Zd:ZE8)(s:Shared)(Z:St)(H:Hp)(x:V)(xs:List V)(v:Value)(us:List Value)(Q:VK),Inv X Zd Z H s->RelV x v->Vals xs us->r x xs H Q->
  wpAny (model X.prog X.w) X.A (call (.builtin id) (v::us)) (EP X Zd Z Q) X.xe s
theorem Vals.one:∀{x:V}{us:List Value},Vals [x] us->∃u,us=[u]/\RelV x u:=λr=>vals1 r
theorem Vals.two:∀{x y:V}{us:List Value},Vals [x,y] us->∃u v,us=[u,v]/\RelV x u/\RelV y v:=λr=>vals2 r
theorem Vals.zero:∀{us:List Value},Vals [] us->us=[]
 |_,.nil=>rfl
theorem Vals.reverse(h:Vals xs us):Vals xs.reverse us.reverse:=by
 induction h with
 |nil=>exact .nil
 |cons r t a=>rw[YI,YI];exact Vals.append a (.cons r .nil)
theorem Vals.rep{xs:List V}{us:List Value}(h:Vals xs us):∀k:Nat,Vals (List.replicate k xs).flatten (List.replicate k us).flatten
 | 0=>.nil
 |k+1=>by
  rw[Jm,Jm,MP,MP];exact Vals.append h (Vals.rep h k)
theorem foldl_rep(A3:List Value):∀(k:Nat)(acc:List Value),
  List.foldl (λb a=>b++a) acc.toArray (List.replicate k A3.toArray)=(acc++(List.replicate k A3).flatten).toArray
 | 0,acc=>by simp
 |k+1,acc=>by
  have e:acc.toArray++A3.toArray=(acc++A3).toArray:=by simp
  have c:(acc++A3)++(List.replicate k A3).flatten=acc++(List.replicate (k+1) A3).flatten:=by
   rw[Jm,MP,MO]
  rw[<- c,<- foldl_rep A3 k (acc++A3),<- e,Jm,Kz]
section
variable{l b:Addr}{zs:List V}
theorem Inv.Xp{f:Array Value->Array Value}(I:Inv X Zd Z H s)(c:H l=some (.lst xs))
  (e:s.heap.get? l=some { cls:=.type "list", data:=.seq A3.toArray n }) (hf:f A3.toArray=its'.toArray) (hv:Vals ys its') (hz:ys.length<=sizeLine) :
  Inv X Zd Z (upd H l (.lst ys)) { s with heap:=s.heap.update l (Obj.mapSeq f),toks:=t' }:=by
 have q:=PySem.IsL.update e f;rw[hf]at q;refine I.write (x:=l) (e:=l) (by rw[c];exact trivial) (.inl rfl) (λd u b a=>(DE s.heap (Obj.mapSeq f) (BJ b)).trans a) ⟨_,q⟩ ?_;exact⟨hz,its',_,hv,q⟩
theorem Inv.W4(I:Inv X Zd Z H s)(b:Vals ys A3)(a:ys.length<=sizeLine):
  Inv X Zd Z (upd H s.heap.objs.size (.lst ys)) { s with heap:=s.heap.push { cls:=.type "list", data:=.seq A3.toArray },toks:=t' }:=
 I.laid (λ_ _ q=>BC _ q) (Az _) ⟨a,A3,0,b,BR _ rfl⟩
theorem Inv.fresh(I:Inv X Zd Z H s):H s.heap.objs.size=none:=I.AN.fresh (Az _)
theorem Inv.Lv(I:Inv X Zd Z H s)(a:H l=some (.lst xs)):xs.length<=sizeLine/\∃(A3:List Value)(n:Nat),Vals xs A3/\xs.length=A3.length/\s.heap.get? l=some { cls:=.type "list", data:=.seq A3.toArray n }:=by
 obtain⟨z,A3,n,r,e⟩:=I.AN l _ a;exact⟨z,A3,n,r,r.length,e⟩
theorem zh(h:n<=sizeLine):Builtin.List.listTooLong n=false:=by
 unfold Builtin.List.listTooLong;exact mB (by omega)
def Y2:V->List V->Hp->VK->Prop:=λx vs H Q=>∃l xs y,x=.ref l/\vs=[y]/\H l=some (.lst xs)/\xs.length<sizeLine/\Q .AB (upd H l (.lst (xs++[y])))
theorem d6:Qu X "list.append" Y2:=by
 intro Zd s Z H x vs v us Q I b c h;obtain⟨l,xs,y,rfl,rfl,a,f,q⟩:=h;cases b;obtain⟨u,rfl,d⟩:=c.one;obtain⟨z,A3,n,r,g,e⟩:=I.Lv a;refine ZAb F.slot_list_append ⟨_,e,rfl⟩ F.entry_list_append (F.args_list_append_2 _ _) (PySem.list_append l A3.toArray n u (by rw[Bi];omega)) ⟨e,?_⟩;refine⟨.AB,_,I.Xp (its':=A3++[u]) a e (by simp) (r.append (.cons d .nil)) ?_,rfl,q⟩;rw[Bh,ie];omega
def Yo:V->List V->Hp->VK->Prop:=λx vs H Q=>∃l xs,x=.ref l/\vs=[]/\H l=some (.lst xs)/\Q .AB (upd H l (.lst xs.reverse))
theorem vI:Qu X "list.reverse" Yo:=by
 intro Zd s Z H x vs v us Q I b c h;obtain⟨l,xs,rfl,rfl,a,q⟩:=h;cases b;have d:=c.zero;subst d;obtain⟨z,A3,n,r,f,e⟩:=I.Lv a;refine ZAb F.slot_list_reverse ⟨_,e,rfl⟩ F.entry_list_reverse (F.args_list_reverse_1 _) (AutoSeq1.list_reverse_list_0 l A3.toArray n (by rw[Bi];omega)) ⟨e,?_⟩;refine⟨.AB,_,I.Xp (its':=A3.reverse) a e (by simp) r.reverse ?_,rfl,q⟩;rw[L4];omega
def eJ:R2:=λx y H Q=>∃l b xs zs,x=.ref l/\y=.ref b/\H l=some (.lst xs)/\H b=some (.lst zs)/\xs.length+zs.length<=sizeLine/\∀p,H p=none->Q (.ref p) (upd H p (.lst (xs++zs)))
theorem G4:BA X (binaryOp .Add) eJ:=by
 intro Zd s Z H x y v u Q I c a h;obtain⟨l,b,xs,zs,rfl,rfl,f,g,m,q⟩:=h;cases c;cases a;obtain⟨z,A3,n,r,o,e⟩:=I.Lv f;obtain⟨j,Bd,k,d,C6,i⟩:=I.Lv g;refine PySem.P.add_list e i ?_ (by rw[Bi,Bi];omega);have ea:A3.toArray++Bd.toArray=(A3++Bd).toArray:=by simp
 rw[ea];exact⟨.ref _,_,I.W4 (t':=s.toks) (r.append d) (by rw[Bh];omega),rfl,q _ I.fresh⟩
def fw:R2:=λx y H Q=>∃l k xs,x=.ref l/\y=.int k/\H l=some (.lst xs)/\-(2 ^ 63)<=k/\k<2 ^ 63/\xs.length * k.toNat<=sizeLine/\
 ∀p,H p=none->Q (.ref p) (upd H p (.lst (List.replicate k.toNat xs).flatten))
theorem len_rep(xs:List α)(k:Nat):(List.replicate k xs).flatten.length=k * xs.length:=by
 induction k with
 |zero=>simp
 |succ k a=>rw[Jm,MP,Bh,a,Nat.succ_mul,Nat.add_comm]
theorem ZBg:BA X (binaryOp .Mult) fw:=by
 intro Zd s Z H x y v u Q I j i h;obtain⟨l,k,xs,rfl,rfl,A,h1,h2,g,q⟩:=h;cases j;obtain⟨t,rfl⟩:=i;obtain⟨z,A3,n,r,w,e⟩:=I.Lv A;have b:A3.toArray.size * k.toNat<=sizeLine:=by rw[Bi,<- w];exact g
 have p:¬ A3.toArray.size * k.toNat > (2 ^ 63 - 1) / 8:=by
  have:(sizeLine:Nat)<=(2 ^ 63 - 1) / 8:=by decide
  omega
 have B:¬ (!Builtin.List.listFitsIndex k)=true:=by
  rw[fitsIndex_both h1 h2];exact Co
 have f:¬ Builtin.List.listTooLong (A3.toArray.size * k.toNat)=true:=by
  rw[zh b];exact Co
 have o:List.foldl (λd c=>d++c) #[] (List.replicate (if A3.toArray.isEmpty=true then 0 else k.toNat) A3.toArray)=(List.replicate k.toNat A3).flatten.toArray:=by
  have f0:∀m:Nat,List.foldl (λd c=>d++c) #[] (List.replicate m A3.toArray)=(List.replicate m A3).flatten.toArray:=λm=>by
   have:=foldl_rep A3 m [];rw[ij]at this;exact this
  rw[f0];cases A3 with
  |nil=>simp
  |cons a C=>rw[lA (by simp)]
 refine wpAny_binaryOp_repeat_ref (T:="list") (U:="int") (by decide) ⟨_,e,rfl⟩ (λs'=>typeIs_int s' k t) noFill_list_mul F.fills_int_mul F.slot_int_rmul repeat_list F.slot_int_index.lookup
  (ZAb F.slot_int_rmul (typeIs_int s k t) F.entry_int_rmul (F.args_int_rmul_2 _ _) (int___rmul___int_list k t l A3.toArray n)
   ⟨e,rfl,⟨_,e,rfl⟩,ZAb F.slot_list_mul ⟨_,e,rfl⟩ F.entry_list_mul (F.args_list_mul_2 _ _) (AutoListH.list___mul___list_int_3 l A3.toArray n k t B p f) ⟨e,?_⟩⟩)
 rw[o];exact⟨.ref _,_,I.W4 (t':=s.toks) (r.rep k.toNat) (by rw[len_rep,iy];exact g),rfl,q _ I.fresh⟩
variable{prog:Program}{w:World}{E:Value->Shared->Prop}
set_option maxRecDepth 100000 in
end
end L2
namespace eI
open PySem.W PySem.Calls
variable{l:OpenLaw}{n:Nat}{prog q:Program}
theorem ZCW{P:Params}{h:Heap}:∀(ns:List Int)(vs:List Value),WellAll P h vs (ns.map WData.int)->IntsAre vs ns:=by
 intro ns
 induction ns with
 |nil=>
  intro vs w;rw[MT]at w;cases w;exact .nil
 |cons n ns c=>
  intro vs w;rw[G8]at w;cases w with
  |cons a b=>
   cases a;exact .cons _ _ (c _ b)
theorem xk(hn:l.most=some n){P:Params}{h:Heap}{args:List WData}{vals:List Value}
  (Ov:l.row.toRowW.claim.pre args=true) (Rg:WellAll P h vals args) :
  ∃a vs ns,vals=[Value.ref a]/\args=[WData.list (ns.map WData.int)]/\h.get? a=some { cls:=.type "list", data:=.seq vs.toArray }/\IntsAre vs ns/\ns.length<=n:=by
 have j:WShape.hasAll [] args [.list .int]=true:=(pre_splitW Ov).1;have f:l.pre.holds [] { args:=args }=true:=(pre_splitW Ov).2;obtain⟨d,r,rfl,h1,h2⟩:=hasAllW_cons j;obtain rfl:=hasAllW_nil h2;obtain⟨xs,rfl,m⟩:=hasW_list h1;obtain⟨ns,rfl⟩:=items_int m;have b:ns.length<=n:=by
  unfold OpenLaw.pre at f;have e:(WTm.not (.lt (.lit (.int (n:Int))) (.len (.arg 0)))).holds [] { args:=[.list (ns.map .int)] }=true:=by
   have e:=(holds_andW f).1;rw[hn]at e;exact e
  have c:=condW_of e (w_not (w_lt w_lit (w_len_list (w_arg rfl))));rw[Aw]at c;refine ZD1 λq=>?_;have k:(n:Int)<((ns.length:Nat):Int):=by omega
  first
   | (rw[lD k]at c;exact absurd c (by decide))
   | (simp at c;omega)
 cases Rg with
 |cons i g=>
  cases g;cases i with
  |list ho LS=>exact⟨_,_,ns,rfl,rfl,ho,ZCW ns _ LS,b⟩
theorem jZ(l:OpenLaw)(args:List WData):l.row.toRowW.claim.post args (.bool true) args=true:=
 postW_of (r:=l.row.toRowW) (X:=(true == true))
  (show WShape.has [] (.bool true) .bool=true by first|rfl|decide|simp[WShape.has,WShape.arms,WShape.armsAll])
  (show(WTm.eq .res (.lit (.bool true))).value [] { args:=args,res:=some (.bool true),after:=args }=some (.bool (true == true))from w_eq_bool (w_res rfl) w_lit) rfl
theorem vk{loose:List Str}{XP:(ZE9)->Heap->Prop}{YP:World->Heap->Prop}{d:DefRec}
  (hn:l.most=some n) (OA:d.params.defaults=[])
  (call:∀(w:World)(s₀ b:Shared)(mg mb:ZE9)(h:Addr)(o:Obj)(i cd e:Value)(a:Addr)(vs:List Value)(ns:List Int),
   Ground q loose [] XP w s₀ mg mb b.heap->YP w b.heap->
   b.heap.get? h=some o->o.data=.func (docDef d.name d.params d.body d.scope i cd e)->b.heap.CodeRec cd d.name->mg d.name=some (.ref h)->
   b.heap.get? a=some { cls:=.type "list", data:=.seq vs.toArray }->IntsAre vs ns->ns.length<=n->b.gens=#[]->
   codeAny (model l.prog w) callerA (.call (.ref h) ⟨[.ref a],[]⟩) (λr s'=>r=.ok (.ret (.bool true))/\OldK b.heap s'.heap/\s'.os=b.os/\AllBare s'.gens) b) :
  WalkO q loose XP YP l.row.toRowW d [] (λf vs=>PySem.call f vs):=by
 intro w s₀ b mg mb G Y h o i cd e x kV ho hd Es j Nv t args vals as Ov ZE1 k Rg s;obtain rfl:x=.none:=Dflts.none j OA;obtain rfl:kV=.none:=Dflts.noKw j;obtain⟨a,vs,ns,rfl,rfl,Uo,c,g⟩:=xk hn Ov Rg;refine enter_call (ZAO (call w s₀ b mg mb h o i cd e a vs ns G Y ho (fd_plain hd) Es Nv Uo c g t) λr s' m=>?_);obtain⟨rfl,h2,v,u⟩:=m;exact⟨.inl ⟨.bool true,.bool true,[],rfl,λ_=>rfl,.bool true,jZ l _,λ_=>⟨List.Pairwise.nil,λ_ p=>(nomatch p)⟩⟩,h2,v,u⟩
end eI
namespace L2
variable{w:World}{mg:ZE9}{k:Nat}{a f:Addr}{fd:FuncData}{qual x:Str}{sp:Sp}{loose ps:List Str}{X:Cx}{A:Prop}
theorem fS:∀{vs:List Value}{ns:List Int},IntsAre vs ns->Vals (ns.map V.int) vs
 |_,_,.nil=>.nil
 |_,_,.cons n t h=>.cons ⟨t,rfl⟩ (fS h)
def V9(H:Hp):Prop:=∀b,H b=none∨∃o xs,H b=some (.FE o (.lst xs))
theorem pY{P:Program}{K:ZE7}{mb:ZE9}{CX:Fl}{t:Addr}{c:Shared}{vs:List Value}{ns:List Int}
  (KX:K.In c.heap) (MK:c.heap.Ns mainGlobals mg) (f:c.heap.Ns builtinsNs mb) (O:∀x:Str,x ≠"__name__" -> mb x=bootBuiltins x) (M:c.heap.NoLimit) (Q:c.gens=#[])
  (j:c.heap.get? a=some { cls:=.type "list", data:=.seq vs.toArray }) (hi:IntsAre vs ns) (hl:ns.length<=sizeLine) (hr:Bu k callerA)
  (F:∀Zp:Heap,K.In Zp->Zp.Ns mainGlobals mg->Cv P w K mg Zp CX k t fd [x] sp) (kD:∀(s:Shared)(u:Value),BindsTo s fd ⟨[u],[]⟩ [(x,u)])
  (Eh:∀H:Hp,V9 H->AO K H a (ns.map V.int)->sp [.ref a] H (λv _=>v=.bl true) λ_ _ _=>False)
  (Rq:∀H e s',CX [] H c (λ_ _ _=>False) e s'->False) :
  codeAny (model P w) callerA (.call (.ref t) ⟨[.ref a],[]⟩) (λr s'=>r=.ok (.ret (.bool true))/\OldK c.heap s'.heap/\s'.os=c.os/\AllBare s'.gens) c:=by
 have A:=fS hi;have J:=hi.length
 -- from an abstract heap in ZDb nothing but Gp aL may be tracked
 have g:∀H:Hp,V9 H->AO K H a (ns.map V.int)->C4 P w H c.heap->(∀b,H b≠none->b=a)->(H a≠none->K.lookup a=none)->
   codeAny (model P w) callerA (.call (.ref t) ⟨[.ref a],[]⟩) (λr s'=>r=.ok (.ret (.bool true))/\OldK c.heap s'.heap/\s'.os=c.os/\AllBare s'.gens) c:=by
  intro H B R AN C T;have G:∀{b:Addr}{o:Obj},c.heap.get? b=some o->H b=none->(IU c.heap H).get? b=some o:=λe n=>rq e n;have X:∀{b:Addr}{o:Obj}{es:Array DictEntry}{ep:Nat},c.heap.get? b=some o->o.data=.dict es ep->H b=none:=λ{b o es ep}e d=>by
   cases q:H b with
   |none=>rfl
   |some u=>
    have y:b=a:=C b (by rw[q];simp);subst y;rw[j]at e;cases e;have d':Data.seq vs.toArray _=Data.dict es ep:=d;cases d'
  have l:∀{b:Addr}{m:ZE9},c.heap.Ns b m->(IU c.heap H).Ns b m:=λ{b m}AR=>by obtain⟨o,es,ep,e,d,r⟩:=AR;exact⟨o,es,ep,G e (X e d),d,r⟩
  have D:K.In (IU c.heap H):=λb o e=>G (KX b o e) (by
   cases q:H b with
   |none=>rfl
   |some u=>
    have y:b=a:=C b (by rw[q];simp);subst y;rw[T (by rw[q];simp)]at e;cases e)
  have S:Mod K mg (IU c.heap H):=⟨D,l MK,⟨mb,l f,O⟩,let ⟨mc,h1,h2⟩:=M;⟨mc,l h1,h2⟩⟩;have e0:Ke P w K mg (IU c.heap H) callerA [] c H:=⟨rfl,S,λb o e=>vw e,YJ (xE _ _),trivial,λb f=>absurd (show b∈([]:List Addr)from f) (by simp),AN,.of_eq Q⟩;refine ZAO ((F _ D (l MK)).run callerA [] c H ⟨[.ref a],[]⟩ [.ref a] [.ref a] _ _ hr e0 (kD c (.ref a)) (.cons rfl .nil) (Eh H B R)) λr s' h=>?_;cases r with
  |error e=>exact(Rq H e s' h).elim
  |ok U=>
   cases U with
   |next=>exact False.elim h
   |brk=>exact False.elim h
   |cont=>exact False.elim h
   |ret u=>
    obtain⟨v,H',os,bare,un,ZB2,L,q⟩:=h;have N:v=.bl true:=q;subst N;obtain rfl:u=Value.bool true:=L;refine⟨rfl,OldK.of_keep λb o e=>?_,os,bare⟩;cases q:H b with
    |none=>exact un.keep b o e q (by intro z;exact absurd (show b∈([]:List Addr)from z) (by simp)) (by simp)
    |some u=>
     rcases B b with z|⟨ob,xs,z⟩
     .rw[q]at z;cases z
     .have I:=un.FY b ob _ z;obtain⟨E,_⟩:=AN b _ z;obtain⟨W,_⟩:=ZB2 b _ I;rw[e]at E;cases E;exact W
 cases p:K.lookup a with
 |some o=>
  -- Gp aL is one of Gp ZDL own objects
  have e:=KX a o p;rw[j]at e;cases e;refine g (λ_=>none) (λ_=>.inl rfl) (.inr ⟨_,vs.toArray,_,p,rfl,rfl,rfl,by rw[Bi,J];exact hl,by simpa using A⟩) (λb u z=>by have i:(none:Option HO)=some u:=z;cases i) (λb z=>absurd rfl z) λz=>absurd rfl z
 |none=>
  refine g (λb=>if b=a then some (.FE { cls:=.type "list", data:=.seq vs.toArray } (.lst (ns.map V.int)))else none) (λb=>?_) (.inl (.inr ⟨{ cls:=.type "list", data:=.seq vs.toArray },lO rfl⟩)) (λb u z=>?_) (λb z=>?_) λ_=>p
  .by_cases f:b=a
   .exact .inr ⟨_,_,lO f⟩
   .exact .inl (lA f)
  .by_cases f:b=a
   .have i:=(lO f).symm.trans z;cases i;subst f;exact⟨j,by rw[Aw];exact hl,vs,_,A,j⟩
   .have i:=(lA f).symm.trans z;cases i
  .by_cases f:b=a
   .exact f
   .exact absurd (lA f) z
theorem yI{l:PySem.W.OpenLaw}{n:Nat}{q:Program}{XP:(ZE9)->Heap->Prop}{YP:World->Heap->Prop}{d:DefRec}{K:Params->ZE7}{CX:World->Fl}{sp:World->Sp}
  (hn:l.most=some n) (Iy:n<=sizeLine) (OA:d.params.defaults=[]) (r:Bu k callerA)
  (z:∀(w:World)(h:Heap),YP w h->(K w.params).In h)
  (F:∀(w:World)(mg:ZE9)(j:Addr)(h:Heap),(K w.params).In h->h.Ns mainGlobals mg->mg d.name=some (.ref j)->
   ∃fd:FuncData,(∀(s:Shared)(u:Value),BindsTo s fd ⟨[u],[]⟩ [(x,u)])/\
    ∀Zp:Heap,(K w.params).In Zp->Zp.Ns mainGlobals mg->Cv l.prog w (K w.params) mg Zp (CX w) k j fd [x] (sp w))
  (Eh:∀(w:World)(H:Hp)(a:Addr)(ns:List Int),ns.length<=n->V9 H->AO (K w.params) H a (ns.map V.int)->sp w [.ref a] H (λv _=>v=.bl true) λ_ _ _=>False)
  (Rq:∀(w:World)(H:Hp)(s:Shared)(e:Value)(s':Shared),CX w [] H s (λ_ _ _=>False) e s'->False) :
  PySem.W.WalkO q loose XP YP l.row.toRowW d [] (λf vs=>PySem.call f vs):=by
 refine eI.vk hn OA λw s₀ p mg mb j o E cd D a vs ns G Y ho hd Es Nv Uo i c t=>?_;have m:=z w _ Y;obtain⟨fd,y,C⟩:=F w mg j _ m G.T.g Nv;exact pY m G.T.g G.T.b G.T.builtins G.T.nolimit t Uo i (Bq c Iy) r C y (λH B A=>Eh w H a ns c B A) λH e s'=>Rq w H p e s'
noncomputable def Mm(s:Stmt):Arguments:=match s with
 | .FunctionDef _ a _ _ _ _ _ _ _ _=>a
 |_=>{ posonlyargs:=[],args:=[],vararg:=none,kwonlyargs:=[],kw_defaults:=[],kwarg:=none,defaults:=[] }
def JT(s:Stmt):List Stmt:=match s with
 | .FunctionDef _ _ b _ _ _ _ _ _ _=>b
 |_=>[]
noncomputable def AY(s:Stmt):Scope:=match s with
 | .FunctionDef _ _ _ _ _ _ sc _ _ _=>sc
 |_=>{ kind:=.function,names:=[],isGenerator:=false,isCoroutine:=false }
abbrev FJ:Fl:=λ_ _ _ _ _ _=>False
abbrev E0:XK:=λ_ _ _=>False
theorem xT:Passes FJ X E0:=λ_ _ _ _ _ _ _ h=>h.elim
structure AE (K:ZE7) (x qual:Str) (st:Stmt) (f:Addr) (fd:FuncData):Prop where
 ex:∃(oc:Value)(od:Option Addr)(kV doc pm:Value)(an:Option Addr)(AS ct:Value)(Ge:Array (Option Value)),
  fd=PySem.W.fnOf x qual (Mm st) (JT st) (AY st) .none kV doc pm an AS ct/\K.lookup f=some ⟨oc,od,.func fd,Ge⟩/\PySem.W.codeIn K AS qual=true
 kp:PySem.W.keepIn K (.ref f)=true
section
variable{P:Program}{K:ZE7}{Zp:Heap}
theorem AE.ok{st:Stmt}{N:List Str}(F:AE K x qual st f fd)(S:B0 N ps (AY st))(len:∀vs H Q E,sp vs H Q E->vs.length=ps.length)
  (KO:∀(AS:Value)(A:Around)(outer:List Env)(s:Shared)(H:Hp)(vs:List V)(Q:VK)(E:XK),Bu k (A.deeper (envOfC qual (AY st) s.heap.objs.size f AS))->sp vs H Q E->
   ∃t,D2 (Dy FJ P w K mg Zp N qual (AY st) f AS A outer s H E).Ma (JT st) t/\t { nx:=λ_ H'=>Q .AB H',rt:=Q } (start N vs) H):Cv P w K mg Zp FJ (k+1) f fd ps sp:=by
 obtain⟨e,od,kV,c,d,g,AS,ct,Ge,rfl,a,Es⟩:=F.ex;refine cK a Es S len λA outer s H vs Q E b Eh=>?_;obtain⟨t,h,q⟩:=KO AS A outer s H vs Q E b Eh;exact⟨t,h.Ma,q⟩
theorem AE.binds{st:Stmt}(F:AE K x qual st f fd)
  (h:∀(kV a b:Value)(c:Option Addr)(AS ct:Value)(us:List Value),us.length=ps.length->bindArgs (PySem.W.fnOf x qual (Mm st) (JT st) (AY st) .none kV a b c AS ct) ⟨us,[]⟩=pure (ps.zip us)):Binds K fd ps []:=by
 obtain⟨d,od,kV,a,b,c,AS,ct,Ge,rfl,e,Es⟩:=F.ex;exact .all (h kV a b c AS ct)
theorem qY{st:Stmt}{e:Value}{od d:Option Addr}{Ge:Array (Option Value)}{kV a b AS ct:Value}(l:K.lookup f=some ⟨e,od,.func (PySem.W.fnOf x qual (Mm st) (JT st) (AY st) .none kV a b d AS ct),Ge⟩)
  (c:PySem.W.codeIn K AS qual=true) (k:PySem.W.keepIn K (.ref f)=true):AE K x qual st f (PySem.W.fnOf x qual (Mm st) (JT st) (AY st) .none kV a b d AS ct):=⟨⟨e,od,kV,a,b,d,AS,ct,Ge,rfl,l,c⟩,k⟩
theorem pv(i:Nat){pos:Pos}(a:X.N[i]?=some x:=by rfl)(hv:Pa X.env.scope x:=by first|exact Or.inl rfl|exact Or.inr (Or.inl rfl)|exact Or.inr (Or.inr rfl))(hd:(x == ("__debug__":Str))=false:=by decide)
  (Es:(x == ("__classdict__":Str))=false:=by decide):PE X (.Name x pos) (Cg i):=au a hv hd Es
end
theorem D7{B:Prop}(h:B):if false=true then A else B:=by
 rw[lA Co];exact h
theorem Y3{B:Prop}(h:A):if true=true then A else B:=by
 rw[lO rfl];exact h
theorem Aa{c B:Prop}[Decidable c](h1:c->A)(h2:¬ c->B):if c then A else B:=by
 by_cases h:c
 .rw[lO h];exact h1 h
 .rw[lA h];exact h2 h
def AJ(H H':Hp):Prop:=∀b o,H b=some o->H' b=some o
theorem AJ.refl(H:Hp):AJ H H:=λ_ _ h=>h
theorem AJ.trans{H H1 H2:Hp}(a:AJ H H1)(b:AJ H1 H2):AJ H H2:=λc o h=>b c o (a c o h)
theorem AJ.seq{K:ZE7}{H H':Hp}{xs:List V}(e:AJ H H')(h:AO K H a xs):AO K H' a xs:=by
 rcases h with(h|⟨o,h⟩)|h
 .exact .inl (.inl (e _ _ h))
 .exact .inl (.inr ⟨o,e _ _ h⟩)
 .exact .inr h
end L2
set_option maxHeartbeats 4000000
namespace L2
variable{α:Type}{outer scope:Scope}{env:Env}{X Y:Cx}{c elt tg:Expr}{A:Around}{E:Value->Shared->Prop}{s s2 s4:Shared}{cl closure:List (Str×Addr)}{qual x y z:Str}{ce:Option Str}{C a acc it n p:Addr}{w:World}{ifs:List Expr}{JJ pos px py:Pos}{R:Result->Shared->Prop}{Zd:ZE8}{ws Z:St}{H H' H1 H2 H4:Hp}{js:List Nat}{tt:TT}{te:TE}{J:It}{tn:Nat->Heap->Prop}{i j n0 t':Nat}{v:Value}{wi:TI}{CW:It->St->Hp->Addr->VK->Prop}{N:List Str}{tp:Bool}{xs ys:List V}{A3:List Value}
theorem uK{β:Type}{l:List α}{f:α->β->Sem (ForInStep β)}(g:β->α->β)(h:∀x∈l,∀c,f x c=pure (.yield (g c x))):∀c,forIn l c f=pure (l.foldl g c):=by
 induction l with
 |nil=>intro c;rfl
 |cons x l a=>
  intro c;rw[List.forIn_cons,h x Bc,pure_bind];exact a (λy b=>h y (By _ b)) (g c x)
noncomputable def Kq(cells:List (Str×Addr))(cs:List (Str×Addr))(x:Str×NameKind):List (Str×Addr):=
 if x.2=.free then(x.1,(cells.lookup x.1).getD 0)::cs else cs
def CY(cells:List (Str×Addr))(names:List (Str×NameKind)):List (Str×Addr):=names.foldl (Kq cells) []
theorem jm(h:∀x∈scope.names,x.2=.free->(env.cells.lookup x.1).isSome=true):closureFor scope env=pure (CY env.cells scope.names):=by
 simp only[closureFor];rw[uK (Kq env.cells) (λx hx c=>by
  obtain⟨n,k⟩:=x;unfold Kq
  by_cases b:k=NameKind.free
  .subst b;have q:=h _ hx rfl;obtain⟨a,f⟩:=Option.isSome_iff_exists.mp q;have d:env.cells.lookup n=some a:=f;have e:cellOf env n=pure a:=by unfold cellOf;rw[d]
   simp[e,d]
  .have:(k == NameKind.free)=false:=by simpa using b
   simp[this,b])]
 rfl
theorem aA{cells:List (Str×Addr)}:∀(names:List (Str×NameKind))(acc:List (Str×Addr)),(∀y∈names,y.2=.free->(cells.lookup y.1).isSome=true)->
  (∀x c,acc.lookup x=some c->cells.lookup x=some c)->∀x c,(names.foldl (Kq cells) acc).lookup x=some c->cells.lookup x=some c
 | [],acc,_,ha,x,c,e=>ha x c e
 | (n,k)::r,acc,hs,ha,x,c,e=>by
  rw[Kz]at e;refine aA r _ (λy f=>hs y (By _ f)) (λx c e=>?_) x c e;unfold Kq at e
  by_cases b:k=NameKind.free
  .rw[lO b]at e;have q:=hs _ Bc b;obtain⟨a,q⟩:=Option.isSome_iff_exists.mp q;have d:cells.lookup n=some a:=q;rw[Hx]at e
   by_cases hx:x=n
   .subst hx;simp only[t4,d,ZD8]at e;rw[d,<- e]
   .have g:(x == n)=false:=by simpa using hx
    rw[g]at e;exact ha x c e
  .rw[lA b]at e;exact ha x c e
theorem Xi{cells:List (Str×Addr)}{x:Str}:∀(names:List (Str×NameKind))(acc:List (Str×Addr)),((acc.lookup x).isSome=true∨(x,NameKind.free)∈names)->
  ((names.foldl (Kq cells) acc).lookup x).isSome=true
 | [],acc,h=>by
  rcases h with h|h
  .exact h
  .cases h
 | (n,k)::r,acc,h=>by
  rw[Kz];refine Xi r _ ?_;unfold Kq;rcases h with h|h
  .refine .inl ?_;split
   .rw[Hx];split
    .rfl
    .exact h
   .exact h
  .rcases List.mem_cons.mp h with e|h
   .cases e;refine .inl ?_;rw[lO rfl,Hx];simp
   .exact .inr h
theorem Pn{env:Env}:∀(names:List (Str×NameKind))(x:Str),
  (names.map λ(n,k)=>if(k == NameKind.free && env.scope.kind == .function && env.kindOf n == some .cell)then(n,NameKind.cell)else(n,k)).lookup x =
   (names.lookup x).map λk=>if(k == NameKind.free && env.scope.kind == .function && env.kindOf x == some .cell)then NameKind.cell else k
 | [],x=>rfl
 | (n,k)::r,x=>by
  have c:=Pn (env:=env) r x;rw[G8]
  by_cases a:(k == NameKind.free && env.scope.kind == .function && env.kindOf n == some .cell)=true
  .show List.lookup x ((if(k == NameKind.free && env.scope.kind == .function && env.kindOf n == some .cell)=true then(n,NameKind.cell)else(n,k))::_)=_
   rw[lO a,Hx,Hx]
   by_cases hx:x=n
   .subst hx;simp only[t4,RY];rw[lO a]
   .have b:(x == n)=false:=by simpa using hx
    rw[b];exact c
  .show List.lookup x ((if(k == NameKind.free && env.scope.kind == .function && env.kindOf n == some .cell)=true then(n,NameKind.cell)else(n,k))::_)=_
   rw[lA a,Hx,Hx]
   by_cases hx:x=n
   .subst hx;simp only[t4,RY];rw[lA a]
   .have b:(x == n)=false:=by simpa using hx
    rw[b];exact c
noncomputable abbrev J2(X:Cx)(N:List Str)(scope:Scope)(cl:List (Str×Addr))(C:Addr)(s:Shared)(H:Hp)(fp:List Addr):Cx:=
 { X with N:=N,s₀:=s,H₀:=H,env:=compEnvC scope cl C X.env,outer:=X.stack,ex:=fp,fn:=λ_=>false,pn:=[],xe:=λ_ _=>False }
def Be(js:List Nat)(Z:St):St:=js.map λj=>(Z[j]?).join
structure DL (N:List Str) (outer scope:Scope) (x:Str) (An:List Str) (js:List Nat):Prop where
 kind:scope.kind=.function
 OC:∀y∈scope.names,y.2≠.cell
 loc:∀y∈scope.names,y.2=.local->scope.names.lookup y.1=some .local
 Yj:scope.names.lookup x=some .local
 at':js.map (λj=>N[j]?)=An.map some
 cell:∀y∈An,outer.names.lookup y=some .cell
 free:∀y∈An,scope.names.lookup y=some .free
 all:∀y∈scope.names,y.2=.free->outer.names.lookup y.1=some .cell
 nd:(An++[x]).Nodup
def IH(X:Cx)(ifs:List Expr)(t:TT):Prop:=
 ∀(Zd:ZE8)(s:Shared)(Z:St)(H:Hp)(Q:Bool->Hp->Prop),Inv X Zd Z H s->t Z H Q->
  wpAny (model X.prog X.w) X.A (forIn ifs true λc r=>if r=true then do let ok <- isTrue c X.env (eval c X.env);pure (ForInStep.yield ok)else pure (ForInStep.yield r)) (TP X Zd Z Q) X.xe s
def Pl:TT:=λ_ H Q=>Q true H
theorem ub{t:TT}(a:PT X c t):IH X [c] t:=λZd s Z H Q I h=>by
 rw[List.forIn_cons];refine jW ?_;rw[lO rfl];refine jW (Ae (a Zd s Z H Q I h) λb s1 q=>kA ?_);show wpAny _ _ (forIn [] b _) _ _ s1;rw[iU];exact kA q
def IY(J:It)(js:List Nat)(tt:TT)(te:TE)(Z:St)(H1:Hp)(acc:Addr)(Q:VK):Prop:=
 ∃W:Nat->Nat->Hp->Prop,(∃m,W 0 m (upd H1 acc (.lst [])))/\∀i m H2,W i m H2->
  (J.stop i H2/\Q (.ref acc) H2)∨(J.go i H2/\∀x H3,J.FK i H2 x H3->tt (Be js Z++[some x]) H3 λb H4=>
   if b=true then te (Be js Z++[some x]) H4 λy H5=>∃ys,H5 acc=some (.lst ys)/\ys.length<sizeLine/\∃a,a < m/\W (i+1) a (upd H5 acc (.lst (ys++[y])))
   else ∃a,a < m/\W (i+1) a H4)
def Ki(wi:TI)(js:List Nat)(tt:TT)(te:TE):TE:=λZ H Q=>wi Z H λJ H1=>∀acc,H1 acc=none->IY J js tt te Z H1 acc Q
theorem kG(l:List α)(a b:α):(l++[a]).set l.length b=l++[b]:=by
 induction l with
 |nil=>rfl
 |cons x l c=>simp[c]
noncomputable def He:Option Str->Addr->List (Str×Addr)
 |none,_=>[]
 |some x,n=>[(x,n)]
noncomputable def Px:Option Str->Heap->Heap
 |none,h=>h
 |some _,h=>h.push { cls:=.type "cell", data:=.cell none }
structure GC (N:List Str) (outer scope:Scope) (ce:Option Str) (zs An:List Str) (js:List Nat):Prop where
 kind:scope.kind=.function
 loc:∀y∈scope.names,y.2=.local->scope.names.lookup y.1=some .local
 one:∀y∈scope.names,y.2=.cell->ce=some y.1
 sub:∀x,ce=some x->x∈zs
 cf:∀(n:Nat)(cl:List (Str×Addr)),cellsFrom n scope.names cl=He ce n++cl
 pc:∀h:Heap,pushCells h scope.names=Px ce h
 at':js.map (λj=>N[j]?)=An.map some
 cell:∀y∈An,outer.names.lookup y=some .cell
 free:∀y∈An,scope.names.lookup y=some .free
 all:∀y∈scope.names,y.2=.free->outer.names.lookup y.1=some .cell
 nd:(An++zs).Nodup
abbrev GO(X:Cx)(N:List Str)(scope:Scope)(ce:Option Str)(cl:List (Str×Addr))(C:Addr)(s:Shared)(H:Hp)(fp:List Addr):Cx:=
 { X with N:=N,s₀:=s,H₀:=H,env:=compEnvC scope (He ce (C+1)++cl) C X.env,outer:=X.stack,ex:=fp,fn:=λy=>ce == some y,pn:=[],xe:=λ_ _=>False }
theorem lx{M:Model}{a:Addr}{b:Option Addr}{c:Value}{outer:Env}{Q:Env->Shared->Prop}
  (cf:∀(n:Nat)(cl:List (Str×Addr)),cellsFrom n scope.names cl=He ce n++cl) (pc:∀h:Heap,pushCells h scope.names=Px ce h)
  (d:Q (newEnv scope s.heap.objs.size a (He ce (s.heap.objs.size+1)++closure) qual b c (some outer) builtinsNs) { s with heap:=Px ce (s.heap.push { cls:=.type "dict", data:=.dict #[] }) }) :
  wpAny M A (newFunctionEnv scope a closure [] qual b c (some outer)) Q E s:=by
 simp only[newFunctionEnv,Option.isSome_some,ZBG];refine jW (wpAny_alloc ?_);refine jW (wpAny_layCells _ (λname kind cells=>by cases e:kind == NameKind.cell <;> simp[e]) _ _ _ _ ?_)
 rw[cf,pc];rw[show({ s with heap:=s.heap.push { cls:=.type "dict", data:=.dict #[] } }:Shared).heap.objs.size=s.heap.objs.size+1 from EE ..]
 refine jW ?_;rw[iU];exact kA (kA d)
theorem oy{c:Addr}(h:(He ce n++cl).lookup y=some c):(ce=some y/\c=n)∨(ce≠some y/\cl.lookup y=some c):=by
 cases ce with
 |none=>exact .inr ⟨λz=>(by cases z),h⟩
 |some x=>
  have h:((x,n)::cl).lookup y=some c:=h;rw[Hx]at h
  by_cases e:y=x
  .subst e;simp only[t4]at h;exact .inl ⟨rfl,(CH h).symm⟩
  .have a:(y == x)=false:=by simpa using e
   rw[a]at h;exact .inr ⟨λz=>e (CH z).symm,h⟩
theorem Zq(h:ce≠some y):(He ce n++cl).lookup y=cl.lookup y:=by
 cases ce with
 |none=>rfl
 |some x=>
  show((x,n)::cl).lookup y=_;have a:(y == x)=false:=beq_eq_false_iff_ne.mpr λz=>h (by rw[z]);rw[Hx,a]
theorem xF:(He (some x) n++cl).lookup x=some n:=by
 show((x,n)::cl).lookup x=_;rw[Hx,t4]
theorem rS{prog:Program}{iter:Expr}{it acc:Value}(I:Nat->Shared->Prop)
  (turn:∀n s,I n s->wpAny (model prog w) A (pyNext it) (λr s1=>match r with
   |none=>R (.ok .next) s1
   |some v=>wpAny (model prog w) A (letOwnedTupleGo tg it v) (λ_ s2=>wpAny (model prog w) A (assign tg env v) (λ_ f=>
     wpAny (model prog w) A (forIn ifs true λc r=>if r=true then do let ok <- isTrue c env (eval c env);pure (ForInStep.yield ok)else pure (ForInStep.yield r)) (λok s4=>if ok=true then
      wpAny (model prog w) A (eval elt env) (λx d=>wpAny (model prog w) A (call (.builtin "list.append") [acc,x]) (λ_ b=>∃m,m<n/\I m b) (notedBy (model prog w) A env λe s'=>R (.error e) s') d) (notedBy (model prog w) A env λe s'=>R (.error e) s') s4
      else ∃m,m<n/\I m s4) (notedBy (model prog w) A env λe s'=>R (.error e) s') f)
     (notedBy (model prog w) A env λe s'=>R (.error e) s') s2) (notedBy (model prog w) A env λe s'=>R (.error e) s') s1) (notedBy (model prog w) A env λe s'=>R (.error e) s') s)
  (n:Nat) (h:I n s):codeAny (model prog w) A (.compLoop (.ListComp elt [⟨tg,iter,ifs,0⟩] scope pos) 0 it acc env) R s:=by
 refine codeAny_loop rfl I (λn s o=>(show wpAny _ A ((compTurn (.ListComp elt [⟨tg,iter,ifs,0⟩] scope pos) 0 it acc env).onRaise (λx=>do noteFrame x env;theTreesLotGoes x)) _ _ s from wpAny_noted ?_)) n h
 rw[compTurn_list];refine jW (ZAn (jW (nY (turn n s o) (λr s1 g=>?_) λ_ _ z=>z)));cases r with
 |none=>exact kA g
 |some v=>
  refine jW (nY g (λ_ s2 l=>jW (nY l (λ_ f k=>jW (nY k (λok s4 a=>?_) λ_ _ z=>z)) λ_ _ z=>z)) λ_ _ z=>z);cases ok with
  |false=>
   rw[lA (by decide)]at a;exact jW (kA (kA ⟨rfl,a⟩))
  |true=>
   rw[lO rfl]at a;exact jW (jW (nY a (λx d j=>jW (nY j (λ_ b i=>kA (kA ⟨rfl,i⟩)) λ_ _ z=>z)) λ_ _ z=>z))
abbrev aK(tt:TT)(te:TE)(acc:Addr)(W:Nat->Nat->Hp->Prop)(i m:Nat)(Z:St)(H:Hp):Prop:=
 tt Z H λb H4=>if b=true then te Z H4 λy H5=>∃ys,H5 acc=some (.lst ys)/\ys.length<sizeLine/\∃m',m' < m/\W (i+1) m' (upd H5 acc (.lst (ys++[y])))
  else ∃m',m' < m/\W (i+1) m' H4
def Oy(g:TG)(n:Nat)(J:It)(js:List Nat)(tt:TT)(te:TE)(Z:St)(H1:Hp)(acc:Addr)(Q:VK):Prop:=
 ∃W:Nat->Nat->Hp->Prop,(∃m,W 0 m (upd H1 acc (.lst [])))/\∀i m H2,W i m H2->
  (J.stop i H2/\Q (.ref acc) H2)∨(J.go i H2/\∀x H3,J.FK i H2 x H3->∀ws,ws.length=n->g x (Be js Z++ws) H3 λσ8 H8=>∃us,us.length=n/\σ8=Be js Z++us/\aK tt te acc W i m σ8 H8)
def gi(CW:It->St->Hp->Addr->VK->Prop)(wi:TI):TE:=λZ H Q=>wi Z H λJ H1=>∀acc,H1 acc=none->CW J Z H1 acc Q
section
variable{iter:Expr}{zs An:List Str}{fp:List Addr}{g:TG}
theorem rg(h:scope.names.lookup x=some .cell):(relabel scope env).names.lookup x=some .cell:=by
 refine(Pn (env:=env) scope.names x).trans ?_;rw[h];simp
theorem ZBH{n:Nat}{v:V}(h:(List.replicate n (none:Option V))[i]?=some (some v)):False:=by
 rw[iW]at h
 by_cases c:i<n
 .rw[lO c]at h;cases h
 .rw[lA c]at h;cases h
theorem sG(S:GC X.N X.env.scope scope ce zs An js)(I3:Inv X Zd Z H2 s2)(G:∀b∈fp,FL X Zd H2 b)(M:∀b∈fp,b<s2.heap.objs.size){h1:Heap}
  {m:ZE9}(MK:h1.Ns s2.heap.objs.size m) (A:∀b o,s2.heap.get? b=some o->h1.get? b=some o) (F:∀x,ce=some x->h1.IsCell (s2.heap.objs.size+1) none) :
  Inv (GO X (An++zs) scope ce (CY X.env.cells scope.names) s2.heap.objs.size s2 H2 fp) [] (Be js Z++List.replicate zs.length none) H2 { s2 with heap:=h1,toks:=t' }:=by
 have U:∀y∈scope.names,y.2=.free->(X.env.cells.lookup y.1).isSome=true:=λy g D=>by
  obtain⟨c,e⟩:=I3.ok.has y.1 (.inl (S.all y g D));rw[e];rfl
 have Q:∀y c,(CY X.env.cells scope.names).lookup y=some c->X.env.cells.lookup y=some c:=aA scope.names [] U (λ_ _ e=>by cases e);have R:∀y k,(relabel scope X.env).names.lookup y=some k->k=.cell∨k=.free->scope.names.lookup y=some .free∨ce=some y:=λy k e D=>by
  have t:=(Pn (env:=X.env) scope.names y).symm.trans e;cases q:scope.names.lookup y with
  |none=>rw[q]at t;cases t
  |some k0=>
   rw[q]at t;cases k0 with
   |free=>exact .inl rfl
   |cell=>exact .inr (S.one _ (LA q) rfl)
   |_=>simp at t;rcases D with rfl|rfl <;> cases t
 have n:js.length=An.length:=by have:=qz List.length S.at';simpa using this
 have O:∀y c,X.env.cells.lookup y=some c->c<s2.heap.objs.size:=λy c e=>by
  obtain⟨v,o,ho,_⟩:=I3.cell y c e;exact B7 ho
 have f:∀c v,s2.heap.IsCell c v->h1.IsCell c v:=λc v AR=>by obtain⟨o,ho,hd⟩:=AR;exact⟨o,A c o ho,hd⟩
 have B:∀y c,(He ce (s2.heap.objs.size+1)++CY X.env.cells scope.names).lookup y=some c->(ce=some y/\c=s2.heap.objs.size+1)∨(ce≠some y/\X.env.cells.lookup y=some c):=λy c e=>(oy e).imp id λz=>⟨z.1,Q y c z.2⟩;have T:∀y∈An,ce≠some y:=λy g z=>(List.nodup_append.mp S.nd).2.2 y g y (S.sub y z) rfl;refine⟨⟨I3.ok.mod,S.kind,I3.ok.glob,I3.ok.blt,Az _,λy z c K E=>?_,λy g=>?_,λy c J e=>?_,I3.ok.hd,I3.ok.frames,.inl rfl,λb s=>⟨BY (M b s),λy c e=>?_⟩,
  λb o e=>I3.bs b o e,Bq I3.ok.GS I3.sz,λb o e s=>?_,λb s W=>?_,I3.stack,I3.QN⟩,rfl,I3.bare,Un.kept A,⟨m,MK,λi y v K E e3=>?_⟩,λy c e=>?_,I3.AN.fresh (Az _),λy c e=>?_,λp Y=>(by cases Y),I3.AN.kept A,?_⟩
 .rcases B y c K with⟨a1,rfl⟩|⟨_,Cs⟩
  .rcases B z _ E with⟨a2,_⟩|⟨_,Ee⟩
   .exact CH (a1.symm.trans a2)
   .exact absurd (O z _ Ee) (ZD5 (EH _))
  .rcases B z c E with⟨_,rfl⟩|⟨_,Ee⟩
   .exact absurd (O y _ Cs) (ZD5 (EH _))
   .exact I3.ok.inj y z c Cs Ee
 .have J:scope.names.lookup y=some .free∨ce=some y:=g.elim (λg=>R y _ g (.inl rfl)) λg=>R y _ g (.inr rfl);show ∃c,List.lookup y (He ce (s2.heap.objs.size+1)++CY X.env.cells scope.names)=some c
  by_cases ex:ce=some y
  .rw[ex];exact⟨_,xF⟩
  .rw[Zq ex];exact Option.isSome_iff_exists.mp (Xi scope.names [] (.inr (LA (J.resolve_right ex))))
 .rcases B y c e with⟨_,rfl⟩|⟨V,_⟩
  .exact EH _
  .exact absurd (eq_of_beq J) V
 .rcases B y c e with⟨_,rfl⟩|⟨_,Cs⟩
  .exact Ii (Jn (M b s))
  .exact(G b s).2.2.2.2.1 y c Cs
 .rcases(G b s).2.2.2.1 with z|z
  .exact I3.ok.JL b o e z
  .exact absurd (Cu (Cu (B7 e) I3.ok.GS) z) (MV _)
 .rcases List.mem_cons.mp (I3.NH b W)with z|z
  .exact(G b s).2.1 z
  .exact(G b s).2.2.1 z
 .have F:(Be js Z).length=An.length:=by unfold Be;rw[Aw,n]
  have hi:i<An.length:=by
   by_cases hi:i<An.length
   .exact hi
   .have d:(Be js Z++List.replicate zs.length none)[i]?=some (some v):=E;rw[Jk (by rw[F];omega),F]at d;exact(ZBH d).elim
  have H:An[i]?=some y:=by
   have H:(An++zs)[i]?=some y:=K
   rwa [G7 hi]at H
  have d:(Be js Z)[i]?=some (some v):=by
   have d:(Be js Z++List.replicate zs.length none)[i]?=some (some v):=E
   rwa [G7 (by rw[F];exact hi)]at d
  have C:y∈An:=L6 H;unfold Be at d;rw[Bp]at d;cases I:js[i]? with
  |none=>rw[I]at d;cases d
  |some j=>
   rw[I]at d;have hN:X.N[j]?=some y:=by
    have q:=qz (λl=>l[i]?) S.at';simp only[Bp,I,H,RY]at q;exact CH q
   have hσ:Z[j]?=some (some v):=by
    simp only[RY,Option.some.injEq]at d;cases q:Z[j]? with
    |none=>rw[q]at d;cases d
    |some w=>rw[q]at d;simp at d;rw[d]
   obtain⟨m0,σ,HJ⟩:=I3.loc;obtain⟨u,r,l⟩:=HJ j y v hN hσ (.inr (.inl (S.cell y C)));refine⟨u,r,?_⟩;rcases l with⟨k,_⟩|⟨_,c,e,z⟩
   .have L:X.env.scope.names.lookup y=some .local:=k;rw[S.cell y C]at L;cases L
   .have TZ:X.env.kindOf y=some .cell:=S.cell y C;have D:(relabel scope X.env).names.lookup y=some .cell:=by
     refine(Pn (env:=X.env) scope.names y).trans ?_;rw[S.free y C];simp[I3.ok.kind,TZ]
    obtain⟨c',t⟩:=Option.isSome_iff_exists.mp (Xi (cells:=X.env.cells) scope.names [] (.inr (LA (S.free y C))));have P:=Q y c' t;rw[e]at P;cases P;exact .inr ⟨.inl D,c,(Zq (T y C)).trans t,f c _ z⟩
 .rcases B y c e with⟨a,rfl⟩|⟨_,Cs⟩
  .exact⟨none,F _ a⟩
  .obtain⟨v,z⟩:=I3.cell y c Cs;exact⟨v,f c v z⟩
 .rcases B y c e with⟨_,rfl⟩|⟨_,Cs⟩
  .exact I3.AN.fresh (EH _)
  .exact I3.DZ y c Cs
 .show(Be js Z++List.replicate zs.length none).length=(An++zs).length;unfold Be;simp[n]
theorem xb(h:Y.prog=X.prog)(hw:Y.w=X.w)(L:Y.K=X.K)(hA:Y.A=X.A)(P:Y.xe=λ_ _=>False)(I:Y.calm=true)
  (hg:PG Y tg g) (Eu:IH Y ifs tt) (FD:PE Y elt te)
  (T:Turn X.prog X.w X.K tg J fp it tn) (p:∀b∈fp,Y.Ok->FL Y [] (λ_=>none) b)
  (W:Nat->Nat->Hp->Prop) (Q:VK)
  (turn:∀i m H2,W i m H2->(J.stop i H2/\Q (.ref acc) H2)∨(J.go i H2/\∀x H3,J.FK i H2 x H3->∀ws,ws.length=n0->g x (Be js Z++ws) H3 λσ8 H8=>∃us,us.length=n0/\σ8=Be js Z++us/\aK tt te acc W i m σ8 H8))
  (I4:Inv Y [] (Be js Z++ws) H4 s4) (Oz:tn 0 s4.heap) (vn:∀b∈fp,H4 b=none) (H:Nat) (w4:W 0 H H4)
  (t:ws.length=n0) (hR:∀H' s' ws,Inv Y [] (Be js Z++ws) H' s'->Q (.ref acc) H'->R (.ok .next) s') :
  codeAny (model X.prog X.w) X.A (.compLoop (.ListComp elt [⟨tg,iter,ifs,0⟩] scope pos) 0 (.ref it) (.ref acc) Y.env) R s4:=by
 have AN:=I4.ok;have D:∀{H':Hp},(∀b∈fp,H' b=none)->∀b∈fp,FL Y [] H' b:=λhn b c=>⟨hn b c,(p b c AN).2⟩;rw[<- h,<- hw,<- hA];have j:∀{σ:Value->Shared->Prop}v s,Y.xe v s->σ v s:=λv s z=>by rw[P]at z;exact z.elim
 refine rS (λn s'=>∃i ws H',ws.length=n0/\Inv Y [] (Be js Z++ws) H' s'/\tn i s'.heap/\(∀b∈fp,H' b=none)/\W i n H') ?_ H ⟨0,ws,H4,t,I4,Oz,vn,w4⟩;rintro n G⟨i,Yb,H5,qQ,I5,LD,Ob,w5⟩;rcases turn i n H5 w5 with⟨stop,q⟩|⟨go,step⟩
 .have d:=T.done Y h hw L I i [] G _ H5 (λ_ _=>False) I5 (D Ob) LD stop;rw[<- h,<- hw]at d;refine nY d (λr F⟨B,I6⟩=>?_) λ_ _ z=>z.elim;subst B;exact hR H5 F Yb I6 q
 .have d:=T.item Y h hw L I i [] G _ H5 (λ_ _=>False) I5 (D Ob) LD go;rw[<- h,<- hw]at d;refine nY d (λr F⟨u,B,h6⟩=>?_) λ_ _ z=>z.elim;subst B;refine nY h6 (λ_ E⟨v,H7,I7,r7,U,XA,vA⟩=>?_) λ_ _ z=>z.elim;have u6:=I7.pinned (D vA) (T.obj _ _ XA);refine nY (hg _ E _ H7 v u _ u6 r7 (step v H7 U Yb qQ)) (λ_ s8⟨σ8,H8,I8,us,M,e8,p7⟩=>?_) j;subst e8;have a:∀{σa:St}{Ha:Hp}{sa:Shared},Inv Y ([]++O4 fp E.heap) σa Ha sa->tn (i+1) sa.heap/\(∀b∈fp,Ha b=none):=λ{σa Ha sa}Ia=>by
   refine⟨T.keep _ _ _ XA λb c o e=>(Ia.pin (b,o) (HL _ (HL _ (OT c e)))).1,λb c=>?_⟩;obtain⟨o,e,d⟩:=T.obj _ _ XA b c;exact(Ia.pin (b,o) (HL _ (HL _ (OT c e)))).2.1
  refine nY (Eu _ s8 _ H8 _ I8 p7) (λb s9⟨H9,I9,l⟩=>?_) j;cases b with
  |false=>
   have k:∃f,f < n/\W (i+1) f H9:=l;obtain⟨f,C,w9⟩:=k;rw[lA (by decide)];exact⟨f,C,i+1,_,H9,M,I9.Mn,(a I9).1,(a I9).2,w9⟩
  |true=>
   rw[lO rfl];rw[lO rfl]at l;refine nY (FD _ s9 _ H9 _ I9 l) (λS mJ⟨y,N,my,jI,ys,BM,hz,f,C,lT⟩=>?_) j;refine nY (d6 (X:=Y) _ mJ _ N (.ref acc) [y] (.ref acc) [S] (λ_ O=>O=upd N acc (.lst (ys++[y]))) my rfl (.cons jI .nil) ⟨acc,ys,y,rfl,rfl,BM,hz,rfl⟩)
    (λ_ s11⟨_,O,XB,_,V⟩=>?_) j
   subst V;exact⟨f,C,i+1,_,_,M,XB.Mn,(a XB).1,(a XB).2,lT⟩
theorem eO{RR:Value->Addr->Result->Shared->Prop}(L:X.calm=true)(S:GC X.N X.env.scope scope ce zs An js)
  (I:∀C s H,PG (GO X (An++zs) scope ce (CY X.env.cells scope.names) C s H fp) tg g)
  (Eu:∀C s H,IH (GO X (An++zs) scope ce (CY X.env.cells scope.names) C s H fp) ifs tt) (FD:∀C s H,PE (GO X (An++zs) scope ce (CY X.env.cells scope.names) C s H fp) elt te)
  (T:Turn X.prog X.w X.K tg J fp it tn) (I2:Inv X Zd Z H2 s2) (Iw:tn 0 s2.heap) (l:∀b∈fp,FL X Zd H2 b) (Q:VK) (M:∀acc,H2 acc=none->Oy g zs.length J js tt te Z H2 acc Q)
  (j:∀acc C H' s' m,Inv X Zd Z H' s'->FL X Zd H' C->s'.heap.Ns C m->Q (.ref acc) H'->RR (.ref acc) C (.ok .next) s') :
  wpAny (model X.prog X.w) X.A (newList []) (λacc a=>wpAny (model X.prog X.w) X.A (newFunctionEnv scope X.env.globals (CY X.env.cells scope.names) [] X.env.qual none .none (some X.env)) (λt s4=>
   codeAny (model X.prog X.w) X.A (.compStart (.ListComp elt [⟨tg,iter,ifs,0⟩] scope pos) 0 (.ref it) acc { t with scope:=relabel scope X.env }) (RR acc t.locals) s4) E a) E s2:=by
 refine nU (lx S.cf S.pc ?_);have i:Inv X Zd Z (upd H2 s2.heap.objs.size (.lst [])) { s2 with heap:=s2.heap.push { cls:=.type "list", data:=.seq ([]:List Value).toArray } }:=I2.W4 (t':=s2.toks) .nil (CJ _)
 have v:∀b∈fp,b<s2.heap.objs.size:=λb c=>by
  obtain⟨o,e,_⟩:=T.obj _ _ Iw b c;exact B7 e
 have R:(s2.heap.push { cls:=.type "list", data:=.seq ([]:List Value).toArray }).objs.size=s2.heap.objs.size+1:=EE ..;have f:∀b∈fp,FL X Zd (upd H2 s2.heap.objs.size (.lst [])) b:=λb c=>⟨by rw[As (BY (v b c))];exact(l b c).1,(l b c).2⟩;generalize B:({ s2 with heap:=s2.heap.push { cls:=.type "list", data:=.seq ([]:List Value).toArray } }:Shared)=a at i ⊢
 have n:a.heap=s2.heap.push { cls:=.type "list", data:=.seq ([]:List Value).toArray }:=by rw[<- B]
 have y:∀b∈fp,b<a.heap.objs.size:=λb c=>by rw[n,R];exact Jn (v b c)
 generalize r:Px ce (a.heap.push { cls:=.type "dict", data:=.dict #[] })=h1;have k:∀b o,(a.heap.push { cls:=.type "dict", data:=.dict #[] }).get? b=some o->h1.get? b=some o:=λb o e=>by
  rw[<- r];cases ce with
  |none=>exact e
  |some _=>exact BC _ e
 have h:∀b o,a.heap.get? b=some o->h1.get? b=some o:=λb o e=>k b o (BC _ e);have D:∀b o,s2.heap.get? b=some o->h1.get? b=some o:=λb o e=>h b o (by rw[n];exact BC _ e);have O:h1.Ns a.heap.objs.size (λ_=>none):=(Heap.Ns.new a.heap (.type "dict")).keeps k;have U:∀x,ce=some x->h1.IsCell (a.heap.objs.size+1) none:=λx hx=>by
  subst hx;rw[<- r];have e:(a.heap.push { cls:=.type "dict", data:=.dict #[] }).objs.size=a.heap.objs.size+1:=EE ..;exact⟨_,by rw[<- e];exact BR _ rfl,rfl⟩
 have P:=sG S i f y O h U (t':=a.toks);have u:tn 0 h1:=T.keep _ _ _ Iw λb _ o e=>D b o e;obtain⟨W,⟨F,z⟩,turn⟩:=M s2.heap.objs.size (I2.AN.fresh (Az _));have d:codeAny (model X.prog X.w) X.A (.compLoop (.ListComp elt [⟨tg,iter,ifs,0⟩] scope pos) 0 (.ref it) (.ref s2.heap.objs.size) (compEnvC scope (He ce (a.heap.objs.size+1)++CY X.env.cells scope.names) a.heap.objs.size X.env))
   (RR (.ref s2.heap.objs.size) a.heap.objs.size) { a with heap:=h1 }:=by
  refine xb (X:=X) (Y:=GO X (An++zs) scope ce (CY X.env.cells scope.names) a.heap.objs.size a (upd H2 s2.heap.objs.size (.lst [])) fp) (acc:=s2.heap.objs.size) (Q:=Q) rfl rfl rfl rfl rfl L (I _ _ _) (Eu _ _ _) (FD _ _ _) T (λb c ok=>⟨rfl,(ok.KR b c).1,ok.J6 b c,.inl c,(ok.KR b c).2,λp G=>by cases G⟩) W turn P u (λb c=>(f b c).1) F z (ZCu ..) λH' s' w I' q=>?_;obtain⟨m,hn,_⟩:=I'.loc;exact j _ _ H' s' m (i.sW (ch:=fp) I'.os I'.base I'.AN I'.bare λb c=>⟨(f b c).2.2.2.1,(f b c).2.1,(f b c).2.2.2.2.1,(f b c).2.2.2.2.2⟩) (i.Qj (Az _) I'.free) hn q
 exact codeAny_compStart_list d (T.self X.A 0 _ _ _ u d)
theorem ZZ(S:GC X.N X.env.scope scope ce zs An js)(I:Inv X Zd Z H s):closureFor scope X.env=pure (CY X.env.cells scope.names):=jm λy a b=>by
 obtain⟨c,e⟩:=I.ok.has y.1 (.inl (S.all y a b));rw[e];rfl
theorem p6(k:∀J Z H1 acc Q,CW J Z H1 acc Q->Oy g zs.length J js tt te Z H1 acc Q)(f:X.calm=true)(S:GC X.N X.env.scope scope ce zs An js)(hi:PI X tg iter wi)
  (d:∀fp C s H,PG (GO X (An++zs) scope ce (CY X.env.cells scope.names) C s H fp) tg g)
  (Eu:∀fp C s H,IH (GO X (An++zs) scope ce (CY X.env.cells scope.names) C s H fp) ifs tt) (FD:∀fp C s H,PE (GO X (An++zs) scope ce (CY X.env.cells scope.names) C s H fp) elt te)
  (c:∀v,foldedSetIterable iter X.env v=pure v):PE X (.ListComp elt [⟨tg,iter,ifs,0⟩] scope pos) (gi CW wi):=by
 intro Zd s Z H Q I h;rw[eval_ListComp];refine wpAny_comprehension_free (use:=none) rfl c (ZZ S I) S.kind S.loc (Ae (hi Zd s Z H _ I h) λv s1 h1=>Ae h1 λQv s2 h2=>?_);obtain⟨it,fp,tn,J,H2,e,I2,T,Iw,l,hw⟩:=h2;subst e;refine eO (RR:=λacc C=>compPost (model X.prog X.w) X.A X.xe none (EP X Zd Z Q) acc C) f S (d fp) (Eu fp) (FD fp) T I2 Iw l Q (λacc j=>k _ _ _ _ _ (hw acc j)) λacc C H' s' m I' a hn q=>⟨m,hn,λh' LV=>?_⟩;exact⟨.ref acc,H',I'.turned (t':=s'.toks) (λb o i e=>(LV.2 b i).trans e) a.1 a.2.1 a.2.2.2.1 a.2.2.2.2.1 a.2.2.2.2.2,rfl,q⟩
theorem ph(x:∀J Z H1 acc Q,CW J Z H1 acc Q->Oy g zs.length J js tt te Z H1 acc Q)(B:X.N.Nodup)(EI:X.N[i]?=some y)(k:Loc X.env.scope y)(t:X.calm=true)(S:GC X.N X.env.scope scope ce zs An js)(hi:PI X tg iter wi)
  (p:∀fp C s H,PG (GO X (An++zs) scope ce (CY X.env.cells scope.names) C s H fp) tg g)
  (Eu:∀fp C s H,IH (GO X (An++zs) scope ce (CY X.env.cells scope.names) C s H fp) ifs tt) (FD:∀fp C s H,PE (GO X (An++zs) scope ce (CY X.env.cells scope.names) C s H fp) elt te)
  (Mr:swapsWith (.ListComp elt [⟨tg,iter,ifs,0⟩] scope pos) (some (.Name y py)) JJ.line X.env=pure true)
  (r:X.fn y=true∨X.env.scope.names.lookup y=some .local)
  (l:∀v,foldedSetIterable iter X.env v=pure v):PS X (.Assign [.Name y py] (.ListComp elt [⟨tg,iter,ifs,0⟩] scope pos) JJ) (GD (gi CW wi) (EA i)):=by
 intro Zd s Z H D I h;rw[exec_Assign_Name_used _ _ _ _ Mr];refine jW (ZAn (jW ?_));show wpAny _ X.A (do let _ <- comprehension (.ListComp elt [⟨tg,iter,ifs,0⟩] scope pos) scope X.env _ (newList []) false (eval iter X.env) (some (assign (.Name y py) X.env))) _ _ s
 refine jW (nY (wpAny_comprehension_free (use:=some (assign (.Name y py) X.env)) (Q:=λ_ s'=>SP X Zd D .next s') rfl l (ZZ S I) S.kind S.loc
  (Ae (hi Zd s Z H _ I h) λv s1 h1=>Ae h1 λQv s2 h2=>?_)) (λ_ s' n=>kA (kA n)) λ_ _ e=>e)
 obtain⟨it,fp,tn,J,H2,e,I2,T,Iw,E,hw⟩:=h2;subst e;refine eO (RR:=λacc C=>compPost (model X.prog X.w) X.A X.xe (some (assign (.Name y py) X.env)) (λ_ s'=>SP X Zd D .next s') acc C) t S (p fp) (Eu fp) (FD fp) T I2 Iw E _ (λacc d=>x _ _ _ _ _ (hw acc d)) λacc C H' s' m I' c hn q=>?_;show wpAny _ X.A (assign (.Name y py) X.env (.ref acc)) _ _ s';refine wpAny_assign_Name (Sn (v:=.ref acc) I' B EI k rfl (λK4 j⟨a,f,d⟩=>?_) r);have F:C≠a:=by
  rcases d with z|z
  .rw[z];exact c.2.1
  .exact(c.2.2.2.2.1 y a z).symm
 refine⟨m,hn.sameBut f F,λh' LV=>?_⟩;exact⟨_,H',j.turned (t':=K4.toks) (λb o u e=>(LV.2 b u).trans e) c.1 c.2.1 c.2.2.2.1 c.2.2.2.2.1 c.2.2.2.2.2,q⟩
theorem fm{n:Nat}{cl:List (Str×Addr)}:∀{names:List (Str×NameKind)},(∀y∈names,y.2≠.cell)->cellsFrom n names cl=cl
 | [],_=>rfl
 | (x,k)::r,h=>by
  have b:(k == NameKind.cell)=false:=beq_eq_false_iff_ne.mpr (h _ Bc);rw[cellsFrom,b];exact fm λy a=>h y (By _ a)
theorem ZP{a:Heap}:∀{names:List (Str×NameKind)},(∀y∈names,y.2≠.cell)->pushCells a names=a
 | [],_=>rfl
 | (x,k)::r,h=>by
  have c:(k == NameKind.cell)=false:=beq_eq_false_iff_ne.mpr (h _ Bc);rw[pushCells,c];exact ZP λy b=>h y (By _ b)
theorem GC.y9(kind:scope.kind=.function)(OC:∀y∈scope.names,y.2≠.cell)(loc:∀y∈scope.names,y.2=.local->scope.names.lookup y.1=some .local)
  (at':js.map (λj=>N[j]?)=An.map some) (cell:∀y∈An,outer.names.lookup y=some .cell) (free:∀y∈An,scope.names.lookup y=some .free)
  (all:∀y∈scope.names,y.2=.free->outer.names.lookup y.1=some .cell) (nd:(An++zs).Nodup):GC N outer scope none zs An js:=
 ⟨kind,loc,λy a e=>absurd e (OC y a),λx e=>(by cases e),λn cl=>fm OC,λh=>ZP OC,at',cell,free,all,nd⟩
theorem GC.len(S:GC N outer scope ce zs An js)(Z:St):(Be js Z).length=An.length:=by
 unfold Be;rw[Aw];have:=qz List.length S.at';simpa using this
theorem gW(S:GC N outer scope ce [x] An js)(J:It)(Z:St)(H1:Hp)(acc:Addr)(Q:VK)(h:IY J js tt te Z H1 acc Q):Oy (EA An.length) 1 J js tt te Z H1 acc Q:=by
 obtain⟨W,a,h⟩:=h;refine⟨W,a,λi m H2 w=>(h i m H2 w).imp id λz=>⟨z.1,λx H3 y ws hw=>?_⟩⟩
 match ws,hw with
 | [w],_=>
  have e:(Be js Z++[w]).set An.length (some x)=Be js Z++[some x]:=by rw[<- S.len Z];exact kG _ _ _
  exact⟨[some x],rfl,e,by rw[e];exact z.2 x H3 y⟩
theorem cj(S:GC X.N X.env.scope scope ce [x] An js)(hx:scope.names.lookup x=some .local∨(ce=some x/\scope.names.lookup x=some .cell)):
  PG (GO X (An++[x]) scope ce cl C s H fp) (.Name x px) (EA An.length):=
 iC S.nd (by simp) (hx.imp (λh=>lookup_relabel_local h) λh=>rg h.2) (hx.symm.imp (λh=>by show(ce == some x)=true;rw[h.1];exact t4 _) λh=>lookup_relabel_local h)
theorem DL.G(S:DL N outer scope x An js):GC N outer scope none [x] An js:=.y9 S.kind S.OC S.loc S.at' S.cell S.free S.all S.nd
theorem pE(b:X.calm=true)(S:DL X.N X.env.scope scope x An js)(hi:PI X (.Name x px) iter wi)
  (Eu:∀fp C s H,IH (J2 X (An++[x]) scope (CY X.env.cells scope.names) C s H fp) ifs tt) (FD:∀fp C s H,PE (J2 X (An++[x]) scope (CY X.env.cells scope.names) C s H fp) elt te)
  (a:∀v,foldedSetIterable iter X.env v=pure v:=by intro _;rfl):PE X (.ListComp elt [⟨.Name x px,iter,ifs,0⟩] scope pos) (Ki wi js tt te):=
 p6 (CW:=λJ Z H1 acc Q=>IY J js tt te Z H1 acc Q) (gW S.G) b S.G hi (λ_ _ _ _=>cj S.G (.inl S.Yj)) Eu FD a
theorem qT(c:X.N.Nodup)(EI:X.N[i]?=some y)(a:Loc X.env.scope y)(b:X.calm=true)(S:DL X.N X.env.scope scope x An js)(hi:PI X (.Name x px) iter wi)
  (Eu:∀fp C s H,IH (J2 X (An++[x]) scope (CY X.env.cells scope.names) C s H fp) ifs tt) (FD:∀fp C s H,PE (J2 X (An++[x]) scope (CY X.env.cells scope.names) C s H fp) elt te)
  (Mr:swapsWith (.ListComp elt [⟨.Name x px,iter,ifs,0⟩] scope pos) (some (.Name y py)) JJ.line X.env=pure true:=by rfl)
  (hf:X.fn y=true∨X.env.scope.names.lookup y=some .local:=by first|exact .inl rfl|exact .inr rfl|assumption)
  (hs:∀v,foldedSetIterable iter X.env v=pure v:=by intro _;rfl):PS X (.Assign [.Name y py] (.ListComp elt [⟨.Name x px,iter,ifs,0⟩] scope pos) JJ) (GD (Ki wi js tt te) (EA i)):=
 ph (CW:=λJ Z H1 acc Q=>IY J js tt te Z H1 acc Q) (gW S.G) c EI a b S.G hi (λ_ _ _ _=>cj S.G (.inl S.Yj)) Eu FD Mr hf hs
end
def ER(K:ZE7)(tp:Bool)(H:Hp)(a:Addr)(xs:List V):Prop:=match tp with
 |false=>AO K H a xs
 |true=>Al K H a xs
theorem ER.or{K:ZE7}(h:ER K tp H a xs):AO K H a xs∨Al K H a xs:=by
 cases tp
 .exact .inl h
 .exact .inr h
noncomputable def JX(K:ZE7)(tp:Bool)(a:Addr)(xs:List V):It:=
 ⟨λi H=>ER K tp H a xs/\i<xs.length,λi H x H'=>H'=H/\xs[i]?=some x,λi H=>ER K tp H a xs/\xs.length<=i⟩
theorem oG{P:Program}{K:ZE7}(a it:Addr)(xs:List V):Turn P w K tg (JX K false a xs) [it] it (λi h=>h.IsListIter it a i) where
 mem:=by simp
 obj:=(NV (P:=P) (w:=w) (K:=K) (tg:=tg) a it).obj
 keep:=(NV (P:=P) (w:=w) (K:=K) (tg:=tg) a it).keep
 item:=by
  intro X f hw g d i Zd s Z H E I c st b;obtain⟨j,hi⟩:=b;refine Ae ((NV (P:=P) (w:=w) (K:=K) (tg:=tg) a it).item X f hw g d i Zd s Z H E I c st ⟨xs,xs[i],j,by simp[hi]⟩) λr s1 AR=>by obtain⟨u,e,h⟩:=AR;exact⟨u,e,Ae h λ_ s2 DI=>by obtain⟨x,H',I',k,y,Dh,l⟩:=DI;exact⟨x,H',I',k,⟨y.1,y.2 xs j⟩,Dh,l⟩⟩
 done:=by
  intro X f hw g d i Zd s Z H E I c st b;exact(NV (P:=P) (w:=w) (K:=K) (tg:=tg) a it).done X f hw g d i Zd s Z H E I c st ⟨xs,b.1,b.2⟩
 self:=(NV (P:=P) (w:=w) (K:=K) (tg:=tg) a it).self
theorem yZ{P:Program}{K:ZE7}(a it:Addr)(xs:List V):Turn P w K tg (JX K true a xs) [it] it (λi h=>h.IsTupleIter it a i) where
 mem:=by simp
 obj:=(NX (P:=P) (w:=w) (K:=K) (tg:=tg) a it).obj
 keep:=(NX (P:=P) (w:=w) (K:=K) (tg:=tg) a it).keep
 item:=by
  intro X f hw g d i Zd s Z H E I c st b;obtain⟨j,hi⟩:=b;refine Ae ((NX (P:=P) (w:=w) (K:=K) (tg:=tg) a it).item X f hw g d i Zd s Z H E I c st ⟨xs,xs[i],j,by simp[hi]⟩) λr s1 AR=>by obtain⟨u,e,h⟩:=AR;exact⟨u,e,Ae h λ_ s2 DI=>by obtain⟨x,H',I',k,y,Dh,l⟩:=DI;exact⟨x,H',I',k,⟨y.1,y.2 xs j⟩,Dh,l⟩⟩
 done:=by
  intro X f hw g d i Zd s Z H E I c st b;exact(NX (P:=P) (w:=w) (K:=K) (tg:=tg) a it).done X f hw g d i Zd s Z H E I c st ⟨xs,b.1,b.2⟩
 self:=(NX (P:=P) (w:=w) (K:=K) (tg:=tg) a it).self
def Tv(K:ZE7)(tl:TE):TI:=λZ H R=>tl Z H λx H1=>∃tp a xs,x=.ref a/\ER K tp H1 a xs/\R (JX K tp a xs) H1
def Xm(z:Str):It:=⟨λi _=>i<z.cps.size,λi H x H'=>H'=H/\∃c,z.cps[i]?=some c/\x=.str ⟨#[c]⟩,λi _=>i=z.cps.size⟩
theorem fi{P:Program}{K:ZE7}{t:Tok}{ty:String}
  (hn:["enumerate","zip","dict_itemiterator","dict_reverseitemiterator","odict_iterator","itertools.zip_longest","itertools.pairwise"].contains ty=false)
  (W:∀A:Around,A.handled=none->Walks P w A it [it] [it] z.cps.size (SignAt z) (λi h=>h.IsStrIter it ty z t i))
  (self:∀(A:Around)(i:Nat)(s:Shared)(Q:Value->Shared->Prop)(E:Value->Shared->Prop),s.heap.IsStrIter it ty z t i->Q (.ref it) s->wpAny (model P w) A (pyIter (.ref it)) Q E s) :
  Turn P w K tg (Xm z) [it] it (λi h=>h.IsStrIter it ty z t i) where
 mem:=by simp
 obj:=λi h st b a=>by
  have e:b=it:=by simpa using a
  subst e;obtain⟨o,e,c,d⟩:=st;exact⟨o,e,λv z=>by rw[d]at z;cases z⟩
 keep:=λi h h' st k=>let ⟨o,e,r⟩:=st;⟨o,k it (by simp) o e,r⟩
 item:=by
  intro X l hw m j i Zd s Z H E I f st g;subst l hw m;obtain⟨f0,f1,B,q,p,n⟩:=f it (by simp);refine(W X.A (I.ok.hd j)).item i s _ _ g st λv h' tk⟨c,u,Qx,y⟩Dh kp=>?_;subst y;have C:Inv X Zd Z H { s with heap:=h',toks:=tk }:=I.turned (t':=tk) (λb o a e=>kp b o (by simpa using a) e) f0 f1 q p n
  obtain⟨o,e,cl,d⟩:=id Dh;exact⟨_,rfl,PK (s:={ s with heap:=h',toks:=tk }) e cl d hn ⟨.str ⟨#[c]⟩,H,C,⟨u,rfl⟩,⟨rfl,c,Qx,rfl⟩,Dh,λb a=>(f b a).1⟩⟩
 done:=by
  intro X l hw m j i Zd s Z H E I f st g;subst l hw m;obtain⟨f0,f1,B,q,p,n⟩:=f it (by simp);have x:i=z.cps.size:=g;subst x;exact(W X.A (I.ok.hd j)).done s _ _ st λh' tk kp=>⟨rfl,I.turned (t':=tk) (λb o a e=>kp b o (by simpa using a) e) f0 f1 q p n⟩
 self:=self
def WX(tl:TE):TI:=λZ H R=>tl Z H λx H1=>∃z,x=.str z/\R (Xm z) H1
theorem BX(h:H p=none)(o:HO):AJ H (upd H p o):=λb u q=>by rw[As (Dd q h)];exact q
theorem AJ.Ni{K:ZE7}(e:AJ H H')(h:Al K H a xs):Al K H' a xs:=by
 rcases h with(h|⟨o,h⟩)|h
 .exact .inl (.inl (e _ _ h))
 .exact .inl (.inr ⟨o,e _ _ h⟩)
 .exact .inr h
theorem AJ.sq{K:ZE7}(e:AJ H H')(h:ER K tp H a xs):ER K tp H' a xs:=by
 cases tp
 .exact AJ.seq e h
 .exact AJ.Ni e h
theorem Tb{Q:VK}(xs:List V)(f:V->Bool)(g:V->V)(BM:H1 acc=none)(z:xs.length<=sizeLine)
  (n:∀i H,AJ H1 H->i<xs.length->J.go i H) (B9:∀H,AJ H1 H->J.stop xs.length H) (p:∀i H x H',J.FK i H x H'->H'=H/\xs[i]?=some x)
  (r:∀(i:Nat)(x:V)(H':Hp)(Q':Bool->Hp->Prop),xs[i]?=some x->AJ H1 H'->(∀Ci,AJ H' Ci->Q' (f x) Ci)->tt (Be js Z++[some x]) H' Q')
  (s:∀(i:Nat)(x:V)(H':Hp)(Q':VK),xs[i]?=some x->f x=true->AJ H1 H'->(∀Ci,AJ H' Ci->Q' (g x) Ci)->te (Be js Z++[some x]) H' Q')
  (hd:∀H',AJ H1 H'->H' acc=some (.lst ((xs.filter f).map g))->Q (.ref acc) H'):IY J js tt te Z H1 acc Q:=by
 refine⟨λi m H=>m=xs.length - i/\i<=xs.length/\AJ H1 H/\H acc=some (.lst (((xs.take i).filter f).map g)),⟨xs.length,by simp,CJ _,BX BM _,AZ⟩,?_⟩;rintro i m H2⟨rfl,hi,a,j⟩
 by_cases h:i<xs.length
 .refine .inr ⟨n i H2 a h,λx H3 y=>?_⟩;obtain⟨e,hx⟩:=p i H2 x H3 y;subst e;have w:(xs.take (i+1))=xs.take i++[x]:=by
   have u:xs[i]=x:=by
    rw[Bb h]at hx;exact CH hx
   rw[ir h,u]
  have l:List.filter f (xs.take (i+1))=(xs.take i).filter f++(if f x=true then[x]else[]):=by
   rw[w,iT];congr 1
   by_cases c:f x=true <;> simp[c]
  refine r i x _ _ hx a λH4 s4=>?_
  by_cases c:f x=true
  .rw[lO c];refine s i x H4 _ hx c (a.trans s4) λH5 k=>?_;have d:(((xs.take i).filter f).map g).length<sizeLine:=by
    rw[Aw];have:=Jl f (xs.take i);rw[Bx]at this;omega
   refine⟨_,k _ _ (s4 _ _ j),d,xs.length - (i+1),by omega,rfl,h,λb o q=>?_,?_⟩
   .have t:b≠acc:=by rintro rfl;rw[BM]at q;cases q
    rw[As t];exact k _ _ (s4 _ _ (a b o q))
   .rw[AZ,l,lO c,EG];rfl
  .have v:f x=false:=by simpa using c
   rw[v];rw[lA (by decide)];refine⟨xs.length - (i+1),by omega,rfl,h,a.trans s4,?_⟩;rw[l,lA c,Ji];exact s4 _ _ j
 .have e:i=xs.length:=by omega
  subst e;refine .inl ⟨B9 H2 a,hd H2 a ?_⟩;rw[L8]at j;exact j
theorem oF{K:ZE7}{Q:VK}(f:V->Bool)(g:V->V)(b:ER K tp H1 a xs)(BM:H1 acc=none)(c:xs.length<=sizeLine)
  (d:∀(i:Nat)(x:V)(H':Hp)(Q':Bool->Hp->Prop),xs[i]?=some x->AJ H1 H'->(∀Ci,AJ H' Ci->Q' (f x) Ci)->tt (Be js Z++[some x]) H' Q')
  (e:∀(i:Nat)(x:V)(H':Hp)(Q':VK),xs[i]?=some x->f x=true->AJ H1 H'->(∀Ci,AJ H' Ci->Q' (g x) Ci)->te (Be js Z++[some x]) H' Q')
  (hd:∀H',AJ H1 H'->H' acc=some (.lst ((xs.filter f).map g))->Q (.ref acc) H'):IY (JX K tp a xs) js tt te Z H1 acc Q:=
 Tb xs f g BM c (λi H s hi=>⟨s.sq b,hi⟩) (λH s=>⟨s.sq b,Az _⟩) (λi H x H' y=>y) d e hd
def GI(z:Str):List V:=z.cps.toList.map λc=>.str ⟨#[c]⟩
theorem Ub(z:Str):(GI z).length=z.cps.size:=by unfold GI;simp
theorem lV{Q:VK}(f:V->Bool)(g:V->V)(BM:H1 acc=none)(a:z.cps.size<=sizeLine)
  (b:∀(i:Nat)(x:V)(H':Hp)(Q':Bool->Hp->Prop),(GI z)[i]?=some x->AJ H1 H'->(∀Ci,AJ H' Ci->Q' (f x) Ci)->tt (Be js Z++[some x]) H' Q')
  (d:∀(i:Nat)(x:V)(H':Hp)(Q':VK),(GI z)[i]?=some x->f x=true->AJ H1 H'->(∀Ci,AJ H' Ci->Q' (g x) Ci)->te (Be js Z++[some x]) H' Q')
  (hd:∀H',AJ H1 H'->H' acc=some (.lst (((GI z).filter f).map g))->Q (.ref acc) H'):IY (Xm z) js tt te Z H1 acc Q:=by
 refine Tb (GI z) f g BM (by rw[Ub];exact a) (λi H s hi=>?_) (λH s=>?_) (λi H x H' y=>?_) b d hd
 .rw[Ub]at hi;exact hi
 .show(GI z).length=z.cps.size;exact Ub z
 .obtain⟨e,c,h,hx⟩:=y;refine⟨e,?_⟩;subst hx;unfold GI;rw[Bp,OJ,h];rfl
def HE(xs ys:List V):Bool:=xs.length == ys.length && (List.range xs.length).all λj=>DN (xs.getD j .AB) (ys.getD j .AB)
theorem NT{x:V}(h:xs[j]?=some x):xs.getD j .AB=x:=by rw[Jj,h];rfl
theorem aB{x:V}(h:xs.all Ct=true)(e:xs[j]?=some x):Ct x=true:=List.all_eq_true.mp h x (L6 e)
theorem Qp{Bd:List Value}(d:Vals xs A3)(c:Vals ys Bd)(k:xs.all Ct=true)(i:ys.all Ct=true):
  ∀j(h1:j<A3.toArray.size)(h2:j<Bd.toArray.size),SeqAt.EqAt A s A3.toArray[j] Bd.toArray[j] (DN (xs.getD j .AB) (ys.getD j .AB)):=λj h1 h2=>by
 have l1:=d.length;have l2:=c.length;have o:j<A3.length:=by simpa using h1
 have n:j<Bd.length:=by simpa using h2
 have b:xs[j]?=some (xs[j]'(by omega)):=Bb _;have a:ys[j]?=some (ys[j]'(by omega)):=Bb _;obtain⟨u,f,h⟩:=d.get b;obtain⟨v,e,g⟩:=c.get a;rw[Bb o]at f;rw[Bb n]at e;have m:A3[j]=u:=CH f;have l:Bd[j]=v:=CH e;rw[NT b,NT a];have q:=PF (A:=A) (s:=s) h g (aB k b) (aB i a);rw[<- m,<- l]at q
 simpa using q
def Nz(K:ZE7)(neg:Bool):R2:=λx y H Q=>∃p q xs ys,x=.ref p/\y=.ref q/\((AO K H p xs/\AO K H q ys)∨(Al K H p xs/\Al K H q ys))/\xs.all Ct=true/\ys.all Ct=true/\
 Q (.bl (if neg then !HE xs ys else HE xs ys)) H
theorem LX(h:xs.length≠ys.length):HE xs ys=false:=by
 unfold HE;have:(xs.length == ys.length)=false:=by simpa using h
 rw[this,Y5]
theorem Ll(h:xs.length=ys.length):HE xs ys=(List.range xs.length).all λj=>DN (xs.getD j .AB) (ys.getD j .AB):=by
 unfold HE;have:(xs.length == ys.length)=true:=by simpa using h
 rw[this,Ky]
theorem Sk(f:X.A.units<cLine):BA X (compareOp .Eq) (Nz X.K false):=by
 intro Zd s Z H x y v u Q I r o h;obtain⟨p,q,xs,ys,rfl,rfl,t,l,k,w⟩:=h;cases r;cases o;have b:Q (.bl (HE xs ys)) H:=w;rcases t with⟨i,g⟩|⟨i,g⟩
 .obtain⟨A3,d,p1,n⟩:=I.list i;obtain⟨Bd,c,p2,m⟩:=I.list g;have l1:=d.length;have l2:=c.length
  by_cases a:xs.length=ys.length
  .refine SeqAt.eq_listAt (e:=λj=>DN (xs.getD j .AB) (ys.getD j .AB)) p1.isList p2.isList (by simp;omega) f (Qp d c l k) ⟨.bl _,H,I,rfl,?_⟩;rw[Ll a]at b;simp only[Bi,<- l1];exact b
  .rw[LX a]at b;exact ZDK p1.isList p2.isList (by simp;omega) f ⟨.bl false,H,I,rfl,b⟩
 .obtain⟨A3,d,p1,n⟩:=I.tuple i;obtain⟨Bd,c,p2,m⟩:=I.tuple g;have l1:=d.length;have l2:=c.length;refine SeqAt.eq_tupleAt (e:=λj=>DN (xs.getD j .AB) (ys.getD j .AB)) p1 p2 f (Qp d c l k) ⟨.bl _,H,I,rfl,?_⟩;simp only[Bi,<- l1,<- l2]
  by_cases a:xs.length=ys.length
  .rw[Ll a]at b;have:(xs.length == ys.length)=true:=by simpa using a
   rw[this,RJ,<- a,ix];exact b
  .rw[LX a]at b;have:(xs.length == ys.length)=false:=by simpa using a
   rw[this,Jf];exact b
theorem J8(f:X.A.units<cLine):BA X (compareOp .NotEq) (Nz X.K true):=by
 intro Zd s Z H x y v u Q I r o h;obtain⟨p,q,xs,ys,rfl,rfl,t,l,k,w⟩:=h;cases r;cases o;have b:Q (.bl (!HE xs ys)) H:=w;rcases t with⟨i,g⟩|⟨i,g⟩
 .obtain⟨A3,d,p1,n⟩:=I.list i;obtain⟨Bd,c,p2,m⟩:=I.list g;have l1:=d.length;have l2:=c.length
  by_cases a:xs.length=ys.length
  .refine SeqAt.RcNeAt.lists (e:=λj=>DN (xs.getD j .AB) (ys.getD j .AB)) p1.isList p2.isList (by simp;omega) f (Qp d c l k) _ _ _ _ ⟨.bl _,H,I,rfl,?_⟩;rw[Ll a]at b;simp only[Bi,<- l1];exact b
  .rw[LX a]at b;exact SeqAt.RcNeAt.lists_lengths p1.isList p2.isList (by simp;omega) f _ _ _ _ ⟨.bl true,H,I,rfl,b⟩
 .obtain⟨A3,d,p1,n⟩:=I.tuple i;obtain⟨Bd,c,p2,m⟩:=I.tuple g;have l1:=d.length;have l2:=c.length;refine SeqAt.RcNeAt.tuples (e:=λj=>DN (xs.getD j .AB) (ys.getD j .AB)) p1 p2 f (Qp d c l k) _ _ _ _ ⟨.bl _,H,I,rfl,?_⟩;simp only[Bi,<- l1,<- l2]
  by_cases a:xs.length=ys.length
  .rw[Ll a]at b;have:(xs.length == ys.length)=true:=by simpa using a
   rw[this,RJ,<- a,ix];exact b
  .rw[LX a]at b;have:(xs.length == ys.length)=false:=by simpa using a
   rw[this,Jf];exact b
theorem dU{bs:List Bool}(r:Vals (bs.map V.bl) A3)(e:A3[i]?=some v):v=.bool (bs.getD i false):=by
 have c:=r.length;rw[Aw]at c;have hi:i<A3.length:=(List.getElem?_eq_some_iff.mp e).1;have d:(bs.map V.bl)[i]?=some (.bl (bs[i]'(by omega))):=by rw[Bp,Bb (by omega)];rfl
 obtain⟨u,a,b⟩:=r.get d;rw[e]at a;cases a;cases b;rw[Jj,Bb (by omega)];rfl
theorem range_all(bs:List Bool):(List.range bs.length).all (λi=>bs.getD i false)=bs.all id:=by
 rw[Eb,Ec,Ec];constructor
 .intro h x hx;obtain⟨i,hi,rfl⟩:=List.mem_iff_getElem.mp hx;have:=h i (List.mem_range.mpr hi);rw[Jj,Bb hi]at this;exact this
 .intro h i hi;rw[Jj,Bb (List.mem_range.mp hi)];exact h _ (Hw _)
theorem range_any(bs:List Bool):(List.range bs.length).any (λi=>bs.getD i false)=bs.any id:=by
 rw[Eb,OL,OL];constructor
 .rintro⟨i,hi,h⟩;have a:=List.mem_range.mp hi;rw[Jj,Bb a]at h;exact⟨_,Hw a,h⟩
 .rintro⟨x,hx,h⟩;obtain⟨i,hi,rfl⟩:=List.mem_iff_getElem.mp hx;refine⟨i,List.mem_range.mpr hi,?_⟩;rw[Jj,Bb hi];exact h
theorem V8(j:X.calm=true):DH X (.builtin "all") (λxs H Q=>∃(p:Addr)(bs:List Bool),xs=[.ref p]/\AO X.K H p (bs.map V.bl)/\Q (.bl (bs.all id)) H):=by
 intro Zd s Z H xs us Q I r h;obtain⟨p,bs,rfl,g,q⟩:=h;obtain⟨u,rfl,d⟩:=vals1 r;cases d;obtain⟨A3,a,pl,m⟩:=I.list g;have c:=a.length;rw[Aw]at c;refine call_all_walk (ZAi pl.isList ?_);obtain⟨o,n,ho,_⟩:=id pl;have l:p≠s.heap.objs.size:=BY (B7 ho);refine⟨s.heap.objs.size,_,_,_,_,_,λi=>bs.getD i false,rfl,Walks.list (by rw[Y4];exact I.ok.hd j) _ p l A3.toArray,⟨⟨_,BR _ rfl,rfl,rfl⟩,pl.isList.push _⟩,λi v s' Q' E' f Cz=>?_,λh' tk kp=>?_⟩
 .have k:v=.bool (bs.getD i false):=dU a (by simpa using f)
  rw[k];exact sM Cz
 .refine⟨.bl _,H,I.kept (t':=tk) λb ob e=>kp b ob (by simpa using BY (B7 e)) (BC _ e),rfl,?_⟩
  rw[Bi,<- c,range_all];exact q
theorem uQ(j:X.calm=true):DH X (.builtin "any") (λxs H Q=>∃(p:Addr)(bs:List Bool),xs=[.ref p]/\AO X.K H p (bs.map V.bl)/\Q (.bl (bs.any id)) H):=by
 intro Zd s Z H xs us Q I r h;obtain⟨p,bs,rfl,g,q⟩:=h;obtain⟨u,rfl,d⟩:=vals1 r;cases d;obtain⟨A3,a,pl,m⟩:=I.list g;have c:=a.length;rw[Aw]at c;refine call_any_walk (ZAi pl.isList ?_);obtain⟨o,n,ho,_⟩:=id pl;have l:p≠s.heap.objs.size:=BY (B7 ho);refine⟨s.heap.objs.size,_,_,_,_,_,λi=>bs.getD i false,rfl,Walks.list (by rw[Y4];exact I.ok.hd j) _ p l A3.toArray,⟨⟨_,BR _ rfl,rfl,rfl⟩,pl.isList.push _⟩,λi v s' Q' E' f Cz=>?_,λh' tk kp=>?_⟩
 .have k:v=.bool (bs.getD i false):=dU a (by simpa using f)
  rw[k];exact sM Cz
 .refine⟨.bl _,H,I.kept (t':=tk) λb ob e=>kp b ob (by simpa using BY (B7 e)) (BC _ e),rfl,?_⟩
  rw[Bi,<- c,range_any];exact q
def fA:V->List V->Hp->VK->Prop:=λx vs H Q=>∃(l:Addr)(xs:List V)(j:Int)(y:V),x=.ref l/\vs=[.int j,y]/\H l=some (.lst xs)/\0<=j/\j<=xs.length/\xs.length<sizeLine/\Q .AB (upd H l (.lst (xs.take j.toNat++y::xs.drop j.toNat)))
theorem ZBw:Qu X "list.insert" fA:=by
 intro Zd s Z H x vs v us Q I d f h;obtain⟨l,xs,j,y,rfl,rfl,b,o,m,B,q⟩:=h;cases d;obtain⟨A,a,rfl,g,c⟩:=f.two;obtain⟨t,rfl⟩:=g;obtain⟨z,A3,n,r,k,e⟩:=I.Lv b;have h2:j<2 ^ 63:=by
  have C:(xs.length:Int)<=(sizeLine:Int):=Int.ofNat_le.mpr z;have D:((sizeLine:Nat):Int)<2 ^ 63:=by exact_mod_cast HS
  omega
 have w:(!Builtin.List.listFitsIndex j)=true->False:=by
  have h1:Builtin.List.listFitsIndex j=true:=by
   unfold Builtin.List.listFitsIndex;rw[CG];exact⟨lD (by omega),lD h2⟩
  rw[h1];exact λh=>nomatch h
 have u:A3.toArray.size<=sizeLine:=Bq (YJ (List.size_toArray.trans k.symm)) z;refine ZAb YU ⟨_,e,rfl⟩ PySem.F.entry_list_insert (PySem.F.args_list_insert_3 _ _ _) (PySem.AutoSeq1.list_insert_list_int_val_1 l A3.toArray n j t a w u) ⟨e,?_⟩;refine⟨.AB,_,I.Xp (its':=A3.take j.toNat++a::A3.drop j.toNat) b e ?_ ((r.take _).append (.cons c (r.drop _))) ?_,rfl,q⟩
 .have p:¬ (j<0):=by omega
  have i:min j.toNat A3.toArray.size=j.toNat:=by simp;omega
  simp only[p,ZBN,i];apply Array.toList_inj.mp;simp;exact RU (by simp)
 .rw[Bh,C5,Bx,EF];omega
def NM(x:V)(xs:List V):Nat:=xs.countP λy=>DN y x
theorem bK{x:V}:∀{xs:List V}{us:List Value},Vals xs us->xs.all Ct=true->us.countP (D9 x)=NM x xs
 |_,_,.nil,_=>rfl
 |y::xs,u::us,.cons r t,h=>by
  have h1:Ct y=true/\xs.all Ct=true:=by simpa[OK]using h
  unfold NM;rw[ZCn,ZCn,SO r h1.1,bK t h1.2];rfl
def Xz(K:ZE7):V->List V->Hp->VK->Prop:=λx vs H Q=>∃l xs y,x=.ref l/\vs=[y]/\AO K H l xs/\Ct y=true/\xs.all Ct=true/\Q (.int (NM y xs)) H
theorem uu:Qu X "list.count" (Xz X.K):=by
 intro Zd s Z H x vs v us Q I b e h;obtain⟨l,xs,y,rfl,rfl,g,i,fs,q⟩:=h;cases b;obtain⟨u,rfl,f⟩:=e.one;obtain⟨A3,r,pl,j⟩:=I.list g;obtain⟨⟨c,d,dt,sl⟩,n,ho,a,hd,FN⟩:=id pl;simp only at a hd FN;subst a;subst hd;subst FN;refine ZAb F.slot_list_count ⟨_,ho,rfl⟩ F.entry_list_count (F.args_list_count_2 _ _) (SeqAt.list_countAt l A3.toArray n none sl u (D9 y)) ⟨ho,λz Gz=>Iq f i r fs z (by simpa using Gz),?_⟩
 refine⟨.int _,H,I.tok _,⟨_,rfl⟩,?_⟩;rw[ZCy,bK r fs];exact q
def mm:V->Option Int->Option Int->Hp->VK->Prop:=λx lo hi H Q=>∃z,x=.str z/\z.length<=sizeLine/\Q (.str (Txt.slice z lo hi)) H
theorem part_of{o:Option Int}(p:IsPart v o):∃l:Option (Int×Tok),v=partValue l/\l.map (·.1)=o:=by
 cases p with
 |none=>exact⟨none,rfl,rfl⟩
 |int i t=>exact⟨some (i,t),rfl,rfl⟩
theorem dw:Kh X mm:=by
 intro Zd s Z H x v vl vu lo hi sl Q I a e pl b h;obtain⟨z,rfl,c,q⟩:=h;obtain⟨t,rfl⟩:=a;obtain⟨l,rfl,f⟩:=part_of pl;obtain⟨u,rfl,d⟩:=part_of b;subst f;subst d;refine⟨"str", _,F.slot_str_getitem.lookup,typeIs_str _ _ _,wpAny_getItem_str_slice (l:=l) (u:=u) (st:=none) e rfl (post_val_or_str ⟨Bq (Txt.slice_le z _ _) c,λt' k=>?_⟩)⟩;exact⟨.str _,H,I.tok k,⟨t',rfl⟩,q⟩
end L2
set_option exponentiation.threshold 5000
namespace L2
variable{j k n:Nat}{a f p:Addr}{H:Hp}
def A9(P:Program)(w:World)(K:ZE7)(mg:ZE9)(Zp:Heap)(x:Str)(k:Nat)(ps:List Str)(sp:Sp):Prop:=
 ∃f fd,Cv P w K mg Zp FJ k f fd ps sp/\Binds K fd ps []/\PySem.W.keepIn K (.ref f)=true/\mg x=some (.ref f)
section
variable{P:Program}{w:World}{K:ZE7}{mg:ZE9}{Zp:Heap}{x qual:Str}{ps:List Str}{sp:Sp}{st:Stmt}{fd:FuncData}
theorem A9.mk(F:AE K x qual st f fd)(b:Binds K fd ps [])(m:mg x=some (.ref f))(h:Cv P w K mg Zp FJ k f fd ps sp):A9 P w K mg Zp x k ps sp:=⟨f,fd,h,b,F.kp,m⟩
variable{X:Cx}{p pos:Pos}{e:Expr}{es:List Expr}{t:TA}
def dz(K:ZE7):List V->Hp->VK->Prop:=λxs H Q=>∃(p:Addr)(ys:List V),xs=[.ref p]/\(AO K H p ys∨Al K H p ys)/\Q (.int ys.length) H
theorem EK:DH X (.builtin "len") (dz X.K):=Gn
theorem LY:Ht X "list.append" Y2:=d6
theorem TU:Ht X "list.insert" fA:=ZBw
theorem qF:Ht X "list.count" (Xz X.K):=uu
theorem kI:Ht X "list.reverse" Yo:=vI
def ZAG(i j:Int):Prop:=i.natAbs<2 ^ 1000/\j.natAbs<2 ^ 1000
theorem Ze(h:n<2 ^ 1000):n.log2<1000:=by
 rcases ZD0 n with e|e
 .subst e;exact(show(0:Nat).log2<1000 by decide)
 .exact(iw (Ii e)).mpr h
theorem bits_le{i:Int}(h:i.natAbs<2 ^ 1000):Builtin.Int.intBits i<=2 ^ 20:=by
 unfold Builtin.Int.intBits;split
 .exact CJ _
 .have:=Ze h;have e:(2:Nat) ^ 20=1048576:=by decide
  omega
theorem K2:BA X (binaryOp .Mult) (rI ZAG λi j=>.int (i * j)):=Ol λ_ _ _ _ _ _ _ a q=>mul_int q (.of_bits (bits_le a.1) (bits_le a.2))
theorem Rt:BA X (binaryOp .FloorDiv) (rI (λ_ j=>0<j/\j.natAbs<2 ^ 1000) λi j=>.int (i / j)):=Ol λi j _ _ _ _ _ a q=>by
 have h1:(0:Int)<j:=a.1;have h2:=Ze a.2;exact floordiv_int (by omega) (by rw[Int.fdiv_eq_ediv_of_nonneg i (by omega)];exact q) (.inl (PyProof.noPylong_of_log2 (by omega)))
theorem ua{body rest:List Stmt}{t u:TS}(e:body=st::rest)(h:PS X st t)(h2:D2 X rest u):D2 X body (KD t u):=by rw[e];exact IG h h2
def Uk(t:TS):TS:=λD Z H=>∃J:St->Hp->Prop,t { D with nx:=J } Z H/\∀ σ' H',J σ' H'->D.nx σ' H'
end
theorem wX{K:ZE7}{tp:Bool}{xs:List V}{g:TG}{tb:TS}{D:Ends}{Z:St}(Pv:Nat->St->Hp->Prop)(j:Pv 0 Z H)(h:∀i Z H,i<=xs.length->Pv i Z H->ER K tp H a xs)
  (f:∀i x Z H,xs[i]?=some x->Pv i Z H->g x Z H λσ2 H2=>tb { D with nx:=Pv (i+1),ct:=Pv (i+1),bk:=D.nx } σ2 H2) (hd:∀ Z H,Pv xs.length Z H->D.nx Z H) :
  ∃W:Nat->Nat->St->Hp->Prop,(∃m,W 0 m Z H)/\∀i m Z H,W i m Z H->
   ((JX K tp a xs).stop i H/\D.nx Z H)∨((JX K tp a xs).go i H/\∃N:St->Hp->Prop,(∀ σ' H',N σ' H'->∃b,b < m/\W (i+1) b σ' H')/\∀x H',(JX K tp a xs).FK i H x H'->g x Z H' λσ2 H2=>tb { D with nx:=N,ct:=N,bk:=D.nx } σ2 H2):=by
 refine⟨λi m Z H=>m=xs.length - i/\i<=xs.length/\Pv i Z H,⟨xs.length,by simp,CJ _,j⟩,λi m Z H⟨e,hi,p⟩=>?_⟩;subst e;have q:=h i Z H hi p
 by_cases c:i<xs.length
 .refine .inr ⟨⟨q,c⟩,Pv (i+1),λσ' H' d=>⟨xs.length - (i+1),by omega,rfl,c,d⟩,λx H' y=>?_⟩;obtain⟨e,y⟩:=y;subst e;exact f i x Z _ y p
 .have e:i=xs.length:=by omega
  subst e;exact .inl ⟨⟨q,Az _⟩,hd Z H p⟩
def G9(p:Addr)(H H':Hp):Prop:=∀b o,b≠p->H b=some o->H' b=some o
theorem G9.trans{H1 H2:Hp}(a:G9 p H H1)(b:G9 p H1 H2):G9 p H H2:=λc o d e=>b c o d (a c o d e)
theorem G9.of{H':Hp}(a:AJ H H'):G9 p H H':=λc o _ e=>a c o e
theorem G9.upd{o:HO}:G9 p H (upd H p o):=λc u a e=>by rw[As a];exact e
end L2
set_option maxHeartbeats 8000000
namespace L2
variable{ss:List Str}
def Ew(acc:List Str)(x:Str):List Str:=if acc.any (· == x)then acc else acc++[x]
def dd(ss:List Str):List Str:=ss.foldl Ew []
theorem ZAA(acc:List Str)(x k:Str):(Ew acc x).any (· == k)=(acc.any (· == k) || decide (k=x)):=by
 unfold Ew
 by_cases h:acc.any (· == x)=true
 .rw[lO h]
  by_cases e:k=x
  .subst e;rw[h];simp
  .simp[e]
 .rw[lA h,List.any_append]
  by_cases e:k=x
  .subst e;simp
  .have a:(x == k)=false:=by simpa[yd]using(λh':x=k=>e h'.symm)
   simp[a,e]
theorem i5(acc:List Str)(x:Str):(Ew acc x).length=if acc.any (· == x)then acc.length else acc.length+1:=by
 unfold Ew;split <;> simp
theorem bS(ss:List Str)(i:Nat)(h:i<ss.length):dd (ss.take (i+1))=Ew (dd (ss.take i)) ss[i]:=by
 unfold dd;rw[ir h,List.foldl_append];rfl
theorem QX(ss:List Str):(dd ss).length<=ss.length:=by
 have:∀(l acc:List Str),(l.foldl Ew acc).length<=acc.length+l.length:=by
  intro l
  induction l with
  |nil=>intro acc;simp
  |cons x r a=>
   intro acc;rw[Kz];have h1:=a (Ew acc x);rw[i5]at h1;simp only[C5];split at h1 <;> omega
 have q:=this ss [];simp only[RQ,j3]at q;exact q
section
variable{prog:Program}{w:World}{A:Around}{R:Result->Shared->Prop}{I:Addr}{fp wr:List Addr}{G:Array GenState->Array GenState->Prop}{n:Nat}{P:Nat->Value->Prop}{St:Nat->Shared->Prop}
variable{E:Value->Shared->Prop}{s:Shared}
theorem sub_tuple_set:isSubtype (.type "tuple") (.type "set")=pure false:=by rw[pO];kernel_rfl
theorem sub_tuple_frozenset:isSubtype (.type "tuple") (.type "frozenset")=pure false:=by rw[pO];kernel_rfl
end
noncomputable def ZBp(P:Program)(w:World)(a:Addr)(f:Str->Bool)(n:Nat):HO:=.ext λh=>h.SetOf (strKind P w) a f n
section
variable{X:Cx}
theorem Q6{A3:List Value}(r:Vals (ss.map V.str) A3){i:Nat}{v:Value}(e:A3[i]?=some v):∃(h:i<ss.length)(t:Tok),v=.str ss[i] t:=by
 have d:=r.length;rw[Aw]at d;have hi:i<A3.length:=(List.getElem?_eq_some_iff.mp e).1;have b:i<ss.length:=by omega
 have f:(ss.map V.str)[i]?=some (.str ss[i]):=by rw[Bp,Bb b];rfl
 obtain⟨u,a,c⟩:=r.get f;rw[e]at a;cases a;obtain⟨t,q⟩:=c;exact⟨b,t,q⟩
end
end L2
set_option maxHeartbeats 4000000
namespace L2
variable{X:Cx}{a c e o tg:Expr}{es ifs:List Expr}{body rest:List Stmt}{t tb:TS}{tc tt:TT}{te tl to:TE}{p pos pos' px:Pos}{name x y:Str}{Er op:CmpOp}{r:V->List V->Hp->VK->Prop}{i k n:Nat}{ps ss:List Str}{sp:Sp}{T:String}{wi:TI}{I f it l:Addr}{g:TG}{w:World}{prog:Program}{A:Around}{s:Shared}{R:Result->Shared->Prop}{E Q:Value->Shared->Prop}{items:Array Value}
structure QE (X:Cx) (e:Expr) (t:TE):Prop where h:PE X e t
structure QT (X:Cx) (e:Expr) (t:TT):Prop where h:PT X e t
structure QW (X:Cx) (e:Expr) (t:TT):Prop where h:PW X e t
structure QA (X:Cx) (es:List Expr) (t:TA):Prop where h:PA X es t
structure QS (X:Cx) (st:Stmt) (t:TS):Prop where h:PS X st t
structure FW (X:Cx) (st:List Stmt) (t:TS):Prop where h:D2 X st t
structure QG (X:Cx) (tg:Expr) (t:TG):Prop where h:PG X tg t
structure Qi (X:Cx) (ts:List Expr) (t:Hu):Prop where h:Nd X ts t
structure QI (X:Cx) (tg iter:Expr) (wi:TI):Prop where h:PI X tg iter wi
structure PZ (X:Cx) (ifs:List Expr) (t:TT):Prop where h:IH X ifs t
structure QO (X:Cx) (e:Option Expr) (t:TO):Prop where h:PO X e t
section
variable{b:Expr}{rest:List Expr}{ta tb tc:TE}{tA IV:TT}{t:TA}{p2 apos Bg:Pos}
theorem qv(i:Nat)(a:X.N[i]?=some x:=by rfl)(hv:Pa X.env.scope x:=by first|exact Or.inl rfl|exact Or.inr (Or.inl rfl)|exact Or.inr (Or.inr rfl))(hd:(x == ("__debug__":Str))=false:=by decide)
  (Es:(x == ("__classdict__":Str))=false:=by decide):QE X (.Name x pos) (Cg i):=⟨au a hv hd Es⟩
theorem A5{i j pos}:QE X (.Constant (.int i) j pos) (tC (.int i)):=⟨λ_ _ _ H _ I h=>wpAny_Constant_int ⟨.int i,H,I.tok _,⟨_,rfl⟩,h⟩⟩
theorem EN{b j pos}:QE X (.Constant (.bool b) j pos) (tC (.bl b)):=⟨λ_ _ _ H _ I h=>Constant_bool ⟨.bl b,H,I,rfl,h⟩⟩
theorem LR{j pos}:QE X (.Constant .none j pos) (tC .AB):=⟨λ_ _ _ H _ I h=>Constant_none ⟨.AB,H,I,rfl,h⟩⟩
theorem Au{x j pos}:QE X (.Constant (.str x) j pos) (tC (.str x)):=⟨λ_ _ _ H _ I h=>Calls.Constant_str ⟨.str x,H,I.tok _,⟨_,rfl⟩,h⟩⟩
theorem Br{v:V}{u:Value}(b:Gl X x)(a:X.mg x=some u)(r:RelV v u)(hd:(x == ("__debug__":Str))=false:=by decide):QE X (.Name x pos) (tC v):=⟨λ_ _ _ H _ I h=>JK I b a ⟨v,H,I,r,h⟩ hd⟩
theorem pD(T:String)(a:X.mg x=none)(b:Gl X x:=by rfl)(hv:bootBuiltins x=some (.type T):=by decide +kernel)(hn:x ≠"__name__" := by decide)(hd:(x == ("__debug__":Str))=false:=by decide):
  QE X (.Name x pos) (tC (.ty T)):=⟨pS b a hv rfl hn hd⟩
theorem Ax{op:Operator}{r:R2}(ho:BA X (binaryOp op) r)(d:QE X a ta)(c:QE X b tb):QE X (.BinOp a op b pos) (Bo r ta tb):=⟨by
 have d:=d.h;have c:=c.h;intro Zd s Z H Q I h;exact wpAny_BinOp (Xu d c I h λv u s2 x y H2 I2 f e q=>ho Zd s2 Z H2 x y v u Q I2 f e q)⟩
theorem Ju{op:UnaryOp}{r:V->Hp->VK->Prop}(ho:R0 X (unaryOp op) r)(b:QE X a ta):QE X (.UnaryOp op a pos) (Xs r ta):=⟨ja ho b.h⟩
theorem pP{r:R2}(ho:BA X (compareOp op) r)(d:QE X a ta)(c:QE X b tb)(g:behindInMarks op b=false):QE X (.Compare a [op] [b] pos) (Bo r ta tb):=⟨by
 have d:=d.h;have c:=c.h;intro Zd s Z H Q I h;exact wpAny_Compare1 (Xu d c I h λv u s2 x y H2 I2 f e q=>ho Zd s2 Z H2 x y v u Q I2 f e q) g⟩
theorem ya{r:R2}(ho:BA X (compareOp op) r)(e:QE X a ta)(d:QE X b tb)(c:behindInMarks op b=false):QT X (.Compare a [op] [b] pos) (MG (Bo r ta tb)):=⟨xW ho e.h d.h c⟩
theorem eG{r d:R2}(ho:BA X (compareOp op) r)(Cf:BA X (compareOp Er) d)(i:QE X a ta)(g:QE X b tb)(f:QE X c tc)
  (e:lastMarks [op,Er] [b,c]=false:=by with_unfolding_all rfl):QE X (.Compare a [op,Er] [b,c] pos) (Mi r d ta tb tc):=⟨kF ho Cf i.h g.h f.h e⟩
theorem M4{r l:R2}(ho:BA X (compareOp op) r)(Cf:BA X (compareOp Er) l)(i:QE X a ta)(g:QE X b tb)(f:QE X c tc)
  (J:lastMarks [op,Er] [b,c]=false:=by with_unfolding_all rfl):QT X (.Compare a [op,Er] [b,c] pos) (MG (Mi r l ta tb tc)):=⟨by
 have i:=i.h;have g:=g.h;have f:=f.h;intro Zd s Z H Q I h;refine isTrue_chain (Ae (i Zd s Z H _ I h) λv s1⟨x,H1,I1,B,F⟩=>test_link (Ae (g Zd s1 Z H1 _ I1 F) λu s2⟨y,H2,I2,j,E⟩=>
  Ae (ho Zd s2 Z H2 x y v u _ I2 B j E) λd q⟨z,H3,I3,A,k,e,m⟩=>?_)) J
 subst e;cases A;refine sM ?_;cases k with
 |false=>
  obtain⟨O,L,G⟩:=m;cases L;exact ite_ff ⟨H3,I3,G⟩
 |true=>
  refine ite_tt (test_last (Ae (f Zd q Z H3 _ I3 m) λo s4⟨n,H4,I4,w,D⟩=>Ae (Cf Zd s4 Z H4 y n u o _ I4 j w D) λd' N p=>?_));obtain⟨M,H5,I5,t,k2,K,C⟩:=p;subst K;cases t;exact sM ⟨H5,I5,C⟩⟩
theorem Fx{op}(h:QE X a ta):QE X (.BoolOp op [a] pos) ta:=⟨by have h:=h.h;exact λZd s Z H Q I hw=>BoolOp_one (h Zd s Z H Q I hw)⟩
theorem Gu(f:QE X a ta)(e:QE X (.BoolOp .And (b::rest) pos) tb):QE X (.BoolOp .And (a::b::rest) pos) (VJ ta tb):=⟨by
 have f:=f.h;have e:=e.h;intro Zd s Z H Q I h;refine BoolOp_and (Ae (f Zd s Z H _ I h) λv s1 HC=>?_);obtain⟨x,H1,I1,g,d⟩:=HC;obtain⟨c,rfl,d⟩:=d;cases g;refine sM ?_;cases c with
 |true=>exact e Zd s1 Z H1 Q I1 d
 |false=>exact⟨.bl false,H1,I1,rfl,d⟩⟩
theorem XS(f:QE X a ta)(e:QE X (.BoolOp .Or (b::rest) pos) tb):QE X (.BoolOp .Or (a::b::rest) pos) (WN ta tb):=⟨by
 have f:=f.h;have e:=e.h;intro Zd s Z H Q I h;refine BoolOp_or (Ae (f Zd s Z H _ I h) λv s1 HC=>?_);obtain⟨x,H1,I1,g,d⟩:=HC;obtain⟨c,rfl,d⟩:=d;cases g;refine sM ?_;cases c with
 |false=>exact e Zd s1 Z H1 Q I1 d
 |true=>exact⟨.bl true,H1,I1,rfl,d⟩⟩
theorem JU(b:QT X a tA):QW X (.BoolOp .And [a] pos) tA:=⟨by
 have b:=b.h;intro d Zd s Z H Q I h;refine isTrue_and (Ae (b Zd s Z H Q I h) λc s1 e=>?_);cases c with
 |true=>exact isTrue_and_nil e
 |false=>exact e⟩
theorem JM(b:QT X a tA):QW X (.BoolOp .Or [a] pos) tA:=⟨by
 have b:=b.h;intro d Zd s Z H Q I h;refine isTrue_or (Ae (b Zd s Z H Q I h) λc s1 e=>?_);cases c with
 |false=>exact isTrue_or_nil e
 |true=>exact e⟩
theorem J7(e:QT X a tA)(d:QW X (.BoolOp .And (b::rest) pos) IV):QW X (.BoolOp .And (a::b::rest) pos) (VR tA IV):=⟨by
 have e:=e.h;have d:=d.h;intro g Zd s Z H Q I h;refine isTrue_and (Ae (e Zd s Z H _ I h) λc s1 HC=>?_);obtain⟨H1,I1,f⟩:=HC;cases c with
 |true=>exact d g Zd s1 Z H1 Q I1 f
 |false=>exact⟨H1,I1,f⟩⟩
theorem Jc(e:QT X a tA)(d:QW X (.BoolOp .Or (b::rest) pos) IV):QW X (.BoolOp .Or (a::b::rest) pos) (XO tA IV):=⟨by
 have e:=e.h;have d:=d.h;intro g Zd s Z H Q I h;refine isTrue_or (Ae (e Zd s Z H _ I h) λc s1 HC=>?_);obtain⟨H1,I1,f⟩:=HC;cases c with
 |true=>exact⟨H1,I1,f⟩
 |false=>exact d g Zd s1 Z H1 Q I1 f⟩
theorem QW.pt{t:TT}(h:QW X e t):QT X e t:=⟨h.h.pt⟩
theorem Dz(b:QT X a tA):QT X (.UnaryOp .Not a pos) (XI tA):=⟨by
 have b:=b.h;intro Zd s Z H Q I h;exact isTrue_not (b Zd s Z H (λc H1=>Q (!c) H1) I h)⟩
theorem FU(h:QE X e te)(f:∀a,isTrue e X.env a=(do let v <- a;standAt e.pos;holding [v] (truthy v)):=by intro _;rfl):QT X e (tB te):=⟨by
 have h:=h.h;intro Zd s Z H Q I hw;refine isTrue_plain (Ae (h Zd s Z H _ I hw) λv s1⟨x,H1,I1,b,c⟩=>?_) (f _);obtain⟨d,rfl,q⟩:=c;cases b;exact sM ⟨H1,I1,q⟩⟩
theorem A4:QA X [] Bl:=⟨N0⟩
theorem A0(c:QE X e te)(b:QA X es t)(a:starEach (e::es) X.env=(false,eval e X.env)::starEach es X.env:=by rfl):QA X (e::es) (BH te t):=⟨IP c.h b.h a⟩
theorem BP{x1}(h:QA X es t):QE X (.Tuple es x1 pos) (Sd t):=⟨o6 h.h⟩
theorem CO(h:QA X es t):QE X (.List es pos) (Sm t):=⟨nK h.h⟩
theorem Fp:QO X none VT:=⟨by
 intro Zd s Z H Q I h;rw[evalPart_none];exact kA ⟨none,H,I,.none,h⟩⟩
theorem Ey(h:QE X e te):QO X (some e) (VE te):=⟨by
 have h:=h.h;intro Zd s Z H Q I hw;rw[evalPart_some];refine Ae (h Zd s Z H _ I hw) λu s1 Sq=>?_;obtain⟨x,H1,I1,a,b⟩:=Sq;obtain⟨i,rfl,q⟩:=b;obtain⟨t,rfl⟩:=a;exact⟨some i,H1,I1,.int i t,q⟩⟩
theorem FG{r:V->Option Int->Option Int->Hp->VK->Prop}{lo hi:Option Expr}{tl th:TO}(o:Kh X r)(f:QE X e te)(d:QO X lo tl)(c:QO X hi th):QE X (.Subscript e (.Slice lo hi none p2) pos) (M1 r te tl th):=⟨by
 have f:=f.h;have d:=d.h;have c:=c.h;intro Zd s Z H Q I h;refine Subscript_ (Ae (f Zd s Z H _ I h) λv s1 HC=>?_);obtain⟨x,H1,I1,g,k⟩:=HC;refine wpAny_Slice (Ae (d Zd s1 Z H1 _ I1 k) λvl s2⟨l,H2,I2,pl,j⟩=>Ae (c Zd s2 Z H2 _ I2 j) λvu a ND=>?_);obtain⟨u,H3,I3,m,i⟩:=ND;rw[evalPart_none];refine kA ?_;have y:Inv X Zd Z H3 { a with heap:=a.heap.push { cls:=.type "slice", data:=.fields #[vl,vu,.none] } }:=I3.kept (t':=a.toks) λb ob q=>BC _ q
 obtain⟨T,id,t,n,p⟩:=o Zd { a with heap:=a.heap.push { cls:=.type "slice", data:=.fields #[vl,vu,.none] } } Z H3 x v vl vu l u a.heap.objs.size Q y g (Heap.IsSliceOf.new ..) pl m i
 show wpAny (model X.prog X.w) X.A (subscriptTail e (.Slice lo hi none p2) v (.ref a.heap.objs.size)) (EP X Zd Z Q) X.xe { a with heap:=a.heap.push { cls:=.type "slice", data:=.fields #[vl,vu,.none] } }
 exact tail_any (ops:=[.ref a.heap.objs.size,v]) n t p (by with_unfolding_all rfl)⟩
theorem vH{r:R2}(i:Hm X r)(d:QE X a ta)(c:QE X b tb)(g:Vg b):QE X (.Subscript a b pos) (Bo r ta tb):=⟨by
 have d:=d.h;have c:=c.h;intro Zd s Z H Q I h;exact Subscript_ (Xu d c I h λv u s2 x y H2 I2 f e q=>i a b Zd s2 Z H2 x y v u Q I2 f e q (g _ _))⟩
theorem xU{j:Nat}(h:A9 X.prog X.w X.K X.mg X.base x k ps sp)(c:Bu j X.A)(d:k<=j)(a:QA X (e::es) t)(g:Gl X x:=by rfl)(BL:(x == ("__debug__":Str))=false:=by decide)
  (he:starEach (e::es) X.env=(false,eval e X.env)::starEach es X.env:=by rfl) (BE:(backTo pos (starEach es X.env)).any (·.1)=false:=by rfl):QE X (.Call (.Name x p) (e::es) [] pos) (Ep sp [] E0 t):=⟨by
 have a:=a.h;obtain⟨f,fd,F,b,kp,m⟩:=h;exact wz (F.mono d) c g m kp b .nil xT a BL he BE⟩
theorem ZAC{id:String}{r:List V->Hp->VK->Prop}(i:DH X (.builtin id) r)(g:Gl X x)(f:X.mg x=none)(d:bootBuiltins x=some (.builtin id))(a:QA X (e::es) t)(hn:x ≠"__name__" := by decide)(BL:(x == ("__debug__":Str))=false:=by decide)
  (he:starEach (e::es) X.env=(false,eval e X.env)::starEach es X.env:=by rfl) (BE:(backTo pos (starEach es X.env)).any (·.1)=false:=by rfl):QE X (.Call (.Name x p) (e::es) [] pos) (DA r t):=⟨by
 have a:=a.h;intro Zd s Z H Q I h;refine tT (LH I g f d ?_ hn BL);exact PyProof.Rows.callWith_builtin1 (Ae (a pos Zd s Z H _ I h) λus s1 AR=>by obtain⟨vs,H1,I1,b,c⟩:=AR;exact i Zd s1 Z H1 vs us Q I1 b c) he BE⟩
theorem lz{r:List V->Hp->VK->Prop}(i:DH X (.type T) r)(g:Gl X x)(f:X.mg x=none)(d:bootBuiltins x=some (.type T))(a:QA X (e::es) t)(hn:x ≠"__name__" := by decide)(BL:(x == ("__debug__":Str))=false:=by decide)
  (he:starEach (e::es) X.env=(false,eval e X.env)::starEach es X.env:=by rfl) (BE:(backTo pos (starEach es X.env)).any (·.1)=false:=by rfl):QE X (.Call (.Name x p) (e::es) [] pos) (DA r t):=⟨by
 have a:=a.h;intro Zd s Z H Q I h;refine tT (LH I g f d ?_ hn BL);exact YS (Ae (a pos Zd s Z H _ I h) λus s1 AR=>by obtain⟨vs,H1,I1,b,c⟩:=AR;exact i Zd s1 Z H1 vs us Q I1 b c) he BE⟩
theorem ZCK{id:String}(c:PlainAttrs T)(slot:Slot T name id)(Ku:typeOf (.builtin id)=pure (.type "method_descriptor"))(d:Ht X id r)(ho:QE X o to)
  (Jr:attributeBase o name X.env (eval o X.env)=eval o X.env:=by rfl) (Jv:(apos.endLine == Bg.line)=true:=by rfl):QE X (.Call (.Attribute o name apos) [] [] Bg) (Zr X.K T r to):=⟨by
 have ho:=ho.h;intro Zd s Z H Q I h;refine wpAny_Call_method0_late Jr Jv (Ae (ho Zd s Z H _ I h) λv s1 Sq=>?_);obtain⟨x,H1,I1,a,ty,b⟩:=Sq;obtain⟨h1,h2⟩:=aa I1 a ty;exact⟨T,id,c,slot,Ku,h1,h2,iL rfl (PySem.evalArgs_none (d Zd s1 Z H1 x [] v [] Q I1 a .nil b))⟩⟩
theorem Gg{id:String}(i:PlainAttrs T)(slot:Slot T name id)(Ku:typeOf (.builtin id)=pure (.type "method_descriptor"))(j:Ht X id r)(ho:QE X o to)(a:QA X (e::es) t)
  (Jr:attributeBase o name X.env (eval o X.env)=eval o X.env:=by rfl)
  (Xk:((backTo Bg (starEach (e::es) X.env)).all (λx=>!x.1) && (backToKw Bg (keywordEach [] X.env)).all (λx=>x.1.isSome)
   && decide ((e::es).length+([]:List Keyword).length+(if([]:List Keyword).isEmpty then 0 else 1)<30))=true:=by rfl)
  (Jv:(apos.endLine == Bg.line)=true:=by rfl) (hs:starEach (e::es) X.env=(false,eval e X.env)::starEach es X.env:=by rfl) (Xg:(backTo Bg (starEach es X.env)).any (·.1)=false:=by rfl) :
  QE X (.Call (.Attribute o name apos) (e::es) [] Bg) (Lx X.K T r to t):=⟨by
 have ho:=ho.h;have a:=a.h;intro Zd s Z H Q I h;refine wpAny_Call_method_late Jr Xk Jv rfl (Ae (ho Zd s Z H _ I h) λv s1 ZC6=>?_);obtain⟨x,H1,I1,b,ty,g⟩:=ZC6;obtain⟨h1,h2⟩:=aa I1 b ty;refine⟨T,id,i,slot,Ku,h1,h2,?_⟩;have c:=a Bg Zd s1 Z H1 _ I1 g;rw[hs]at c ⊢;refine iL (by show(false || (backTo Bg (starEach es X.env)).any (·.1))=false;rw[Xg] <;> rfl) (iM ?_)
 exact Ae c λus s2 AR=>by obtain⟨vs,H2,I2,d,f⟩:=AR;exact j Zd s2 Z H2 x vs v us Q I2 b d f⟩
variable{elt iter:Expr}{scope:Scope}{An:List Str}{js:List Nat}
theorem GH{l:Expr}(c:QE X l tl):QI X tg l (Tv X.K tl):=⟨by
 have c:=c.h;intro Zd s Z H R I h;refine Ae (c Zd s Z H _ I h) λv s1⟨x,H1,I1,g,i⟩=>?_;obtain⟨tp,a,xs,e,d,q⟩:=i;subst e;cases g;have fin:∀b∈[s1.heap.objs.size],FL X Zd H1 b:=λb k=>by
  have e:b=s1.heap.objs.size:=by simpa using k
  subst e;exact I1.Qj (Az _) (I1.AN.fresh (Az _))
 cases tp with
 |false=>
  obtain⟨A3,f,p,j⟩:=I1.list d;refine ZAi p.isList ?_;exact⟨s1.heap.objs.size,[s1.heap.objs.size],_,_,H1,rfl,I1.kept (t':=s1.toks) λb o e=>BC _ e,oG a _ xs,⟨_,BR _ rfl,rfl,rfl⟩,fin,q⟩
 |true=>
  obtain⟨A3,f,p,j⟩:=I1.tuple d;refine wpAny_pyIter_tuple (show s1.heap.IsTuple a A3.toArray from p) ?_;exact⟨s1.heap.objs.size,[s1.heap.objs.size],_,_,H1,rfl,I1.kept (t':=s1.toks) λb o e=>BC _ e,yZ a _ xs,⟨_,BR _ rfl,rfl,rfl⟩,fin,q⟩⟩
theorem U7{l:Expr}(a:QE X l tl):QI X tg l (WX tl):=⟨by
 have a:=a.h;intro Zd s Z H R I h;refine Ae (a Zd s Z H _ I h) λv s1⟨x,H1,I1,f,g⟩=>?_;obtain⟨z,e,q⟩:=g;subst e;obtain⟨t,rfl⟩:=f;have fin:∀b∈[s1.heap.objs.size],FL X Zd H1 b:=λb i=>by
  have e:b=s1.heap.objs.size:=by simpa using i
  subst e;exact I1.Qj (Az _) (I1.AN.fresh (Az _))
 have kp:∀(ob:Obj),Inv X Zd Z H1 { s1 with heap:=s1.heap.push ob }:=λob=>I1.kept (t':=s1.toks) λb o e=>BC _ e
 cases d:z.cps.all (· < 128)
 .refine wpAny_pyIter_wide d ?_;exact⟨s1.heap.objs.size,[s1.heap.objs.size],_,_,H1,rfl,kp _,fi (t:=t) (by decide) (λA' c=>Walks.strWide c _ z t) (λ_ _ _ _ _ st h=>wpAny_pyIter_striter_wide st h),⟨_,BR _ rfl,rfl,rfl⟩,fin,q⟩
 .refine wpAny_pyIter_ascii d ?_;exact⟨s1.heap.objs.size,[s1.heap.objs.size],_,_,H1,rfl,kp _,fi (t:=t) (by decide) (λA' c=>Walks.strAscii c _ z t) (λ_ _ _ _ _ st h=>wpAny_pyIter_striter_ascii st h),⟨_,BR _ rfl,rfl,rfl⟩,fin,q⟩⟩
theorem SX{ta:TA}(l:Gl X "range")(k:X.mg "range"=none)(c:QA X [a] ta)(i:starEach [a] X.env=[(false,eval a X.env)]:=by rfl):QI X tg (.Call (.Name "range" p) [a] [] pos) (US ta):=⟨by
 have c:=c.h;intro Zd s Z H R I h;refine Call_ (LH I l k boot_range (YS (Ae (c pos Zd s Z H _ I h) λus s1⟨vs,H1,I1,f,b⟩=>?_) i rfl));obtain⟨j,e,b,g,q⟩:=b;subst e;cases f with
 |cons r d=>
  cases d;obtain⟨t,rfl⟩:=r;exact call_range_1 (ZAT I1 (by omega) (by omega) b g (by simpa using q))⟩
theorem Kt:PZ X [] Pl:=⟨λZd s Z H Q I h=>by
 rw[iU];exact kA ⟨H,I,h⟩⟩
theorem MJ{t:TT}(a:QT X c t):PZ X [c] t:=⟨ub a.h⟩
theorem Gi(b:X.calm=true)(S:DL X.N X.env.scope scope x An js)(hi:QI X (.Name x px) iter wi)
  (Eu:∀fp C s H,PZ (J2 X (An++[x]) scope (CY X.env.cells scope.names) C s H fp) ifs tt) (FD:∀fp C s H,QE (J2 X (An++[x]) scope (CY X.env.cells scope.names) C s H fp) elt te)
  (a:∀v,foldedSetIterable iter X.env v=pure v:=by intro _;rfl):QE X (.ListComp elt [⟨.Name x px,iter,ifs,0⟩] scope pos) (Ki wi js tt te):=⟨pE b S hi.h (λfp C s H=>(Eu fp C s H).h) (λfp C s H=>(FD fp C s H).h) a⟩
theorem og{py JJ:Pos}(c:X.N.Nodup)(EI:X.N[i]?=some y)(a:Loc X.env.scope y)(b:X.calm=true)(S:DL X.N X.env.scope scope x An js)(hi:QI X (.Name x px) iter wi)
  (Eu:∀fp C s H,PZ (J2 X (An++[x]) scope (CY X.env.cells scope.names) C s H fp) ifs tt) (FD:∀fp C s H,QE (J2 X (An++[x]) scope (CY X.env.cells scope.names) C s H fp) elt te)
  (Mr:swapsWith (.ListComp elt [⟨.Name x px,iter,ifs,0⟩] scope pos) (some (.Name y py)) JJ.line X.env=pure true:=by rfl)
  (hf:X.fn y=true∨X.env.scope.names.lookup y=some .local:=by first|exact .inl rfl|exact .inr rfl|assumption)
  (hs:∀v,foldedSetIterable iter X.env v=pure v:=by intro _;rfl):QS X (.Assign [.Name y py] (.ListComp elt [⟨.Name x px,iter,ifs,0⟩] scope pos) JJ) (GD (Ki wi js tt te) (EA i)):=
 ⟨qT c EI a b S hi.h (λfp C s H=>(Eu fp C s H).h) (λfp C s H=>(FD fp C s H).h) Mr hf hs⟩
theorem uL(b:X.N.Nodup)(hi:X.N[i]?=some x)(hx:Loc X.env.scope x)(a:X.fn x=true∨X.env.scope.names.lookup x=some .local:=by first|exact .inl rfl|exact .inr rfl|assumption):QG X (.Name x pos) (EA i):=⟨iC b hi hx a⟩
theorem VG:Qi X [] Xy:=⟨by
 intro Zd s Z H vs us Q I r h;obtain⟨e,h⟩:=h;subst e;cases r;exact assignInOrder_nil ⟨Z,H,I,h⟩⟩
theorem JY{t:TG}{u:Hu}(h1:QG X e t)(h2:Qi X es u)
  (c:(assignEach (e::es) X.env).map (·.2)=assign e X.env::(assignEach es X.env).map (·.2):=by rfl):Qi X (e::es) (Qk t u):=⟨by
 have h1:=h1.h;have h2:=h2.h;intro Zd s Z H vs us Q I r h;obtain⟨v,f,d,h⟩:=h;subst d;cases r with
 |cons r a=>
  rw[c];refine assignInOrder_cons (Ae (h1 Zd s Z H _ _ _ I r h) λ_ s1 ZBF=>?_);obtain⟨σ1,H1,I1,b⟩:=ZBF;exact h2 Zd s1 σ1 H1 _ _ Q I1 a b⟩
theorem Sa{t:Hu}(i:X.calm=true)(h:Qi X es t)(hn:(assignEach es X.env).length=n:=by rfl)(B9:(assignEach es X.env).findIdx? (·.1)=none:=by rfl):QG X (.Tuple es k pos) (Uc X.K n t):=⟨by
 have h:=h.h;intro Zd s Z H v u Q I r hw;obtain⟨a,xs,j,f,g,hw⟩:=hw;subst j;cases r;obtain⟨A3,c,d,m⟩:=I.tuple f;refine assign_Tuple_tuple (I.ok.hd i) d (by simp[hn,<- g,c.length]) B9 λh' hx=>?_;have l:Inv X Zd Z H { s with heap:=h' }:=I.kept (t':=s.toks) λb o e=>hx b o (BY (B7 e)) e
 exact h Zd _ Z H xs _ Q l (by simpa using c) hw⟩
theorem dW{i:Expr}{ti:TE}{t:Pk}(ho:QE X o to)(hi:QE X i ti)(k:VD X t)
  (l:∀v,assign (.Subscript o i pos) X.env v=(do
   let a <- holding [v] (eval o X.env)
   let b <- holding [v,a] (eval i X.env)
   standAt pos
   holding [v,a,b] (setItem a b v)
   release [v,a,b] []):=by intro _;rfl):QG X (.Subscript o i pos) (cx to ti t):=⟨by
 have ho:=ho.h;have hi:=hi.h;intro Zd s Z H v u Q I r h;rw[l];refine jW (oK (Ae (ho Zd s Z H _ I h) λa s1 j=>?_));obtain⟨x,H1,I1,d,g⟩:=j;refine jW (oK (Ae (hi Zd s1 Z H1 _ I1 g) λb s2 SU=>?_));obtain⟨y,H2,I2,c,f⟩:=SU;refine jW (ZAn (jW (oK (Ae (k Zd s2 Z H2 x y v a b u _ I2 d c r f) λ_ m ZBI=>?_))));obtain⟨H3,I3,e⟩:=ZBI;exact wpAny_release ⟨Z,H3,I3,e⟩⟩
end
section
variable{st:Stmt}{u:TS}
theorem Ay:FW X [] OZ:=⟨N6⟩
theorem AA(e:body=st::rest)(h:QS X st t)(h2:FW X rest u):FW X body (KD t u):=⟨ua e h.h h2.h⟩
theorem A7(e:body=[st])(h:QS X st t):FW X body t:=⟨by have h:=h.h;rw[e];exact ZCA h⟩
theorem D1(b:QE X e te)(a:swapsWith e none pos.line X.env=pure false:=by rfl):QS X (.Expr e pos) (NR te):=⟨NJ b.h a⟩
theorem Af(a:QE X e te):QS X (.Return (some e) pos) (Nt te):=⟨by
 have a:=a.h;intro Zd s Z H D I h;exact wpAny_Return_some (Ae (a Zd s Z H _ I h) λv s1 AR=>by obtain⟨x,H1,I1,b,c⟩:=AR;exact⟨x,Z,H1,I1,b,c⟩)⟩
theorem Ak{a b:List Stmt}(e:QT X c tc)(g:FW X a t)(f:FW X b u):QS X (.If c a b pos) (Xf tc t u):=⟨by
 have e:=e.h;have g:=g.h;have f:=f.h;intro Zd s Z H D I h;refine wpAny_If (Ae (e Zd s Z H _ I h) λd s1 HC=>?_);obtain⟨H1,I1,i⟩:=HC;cases d with
 |true=>exact g Zd s1 Z H1 D I1 i
 |false=>exact f Zd s1 Z H1 D I1 i⟩
theorem OE(b:QE X e te)(a:QG X tg g)(f:swapsWithSole [tg] e pos.line X.env=pure false:=by rfl)(hw:swappedStores [tg] e X.env=pure none:=by rfl)
  (h1:(assignEach [tg] X.env).map (·.2)=[assign tg X.env]:=by rfl):QS X (.Assign [tg] e pos) (GD te g):=⟨by
 have b:=b.h;have a:=a.h;intro Zd s Z H D I h;refine wpAny_Assign_stores (Ae (b Zd s Z H _ I h) λv s1⟨x,H1,I1,c,d⟩=>?_) f hw;rw[h1];exact Ae (a Zd s1 Z H1 x v _ I1 c d) λ_ s2 q=>q⟩
theorem yt(c:X.N.Nodup)(hi:X.N[i]?=some x)(hx:Loc X.env.scope x)(b:QE X e te)(a:swapsWith e (some (.Name x pos')) pos.line X.env=pure false:=by rfl)(hf:X.fn x=true∨X.env.scope.names.lookup x=some .local:=by first|exact .inl rfl|exact .inr rfl|assumption):
  QS X (.Assign [.Name x pos'] e pos) (GD te (EA i)):=⟨jb c hi hx b.h a hf⟩
theorem gL(m:PassesOwn (model X.prog X.w) X.A X.env X.xe)(k:QT X c tc)(l:FW X body tb):QS X (.While c body [] pos) (da tc tb):=⟨by
 have k:=k.h;have l:=l.h;intro Zd s Z H D I h;obtain⟨W,⟨t,r⟩,turn⟩:=h;refine wpAny_While (codeAny_whileLoop (λn s'=>∃ σ' H',Inv X Zd σ' H' s'/\W n σ' H') ?_ t ⟨Z,H,I,r⟩);rintro n s1⟨σ1,H1,I1,q⟩;refine y4 m (Ae (k Zd s1 σ1 H1 _ I1 (turn n σ1 H1 q)) λb s2 p=>?_);obtain⟨H2,I2,d⟩:=p;cases b with
 |true=>
  obtain⟨N,o,d⟩:=d;rw[lO rfl];refine y4 m (Ae (l Zd s2 σ1 H2 _ I2 d) λf u a=>?_);cases f with
  |next=>
   obtain⟨σ3,H3,I3,g⟩:=a;obtain⟨i,j,e⟩:=o σ3 H3 g;exact⟨i,j,σ3,H3,I3,e⟩
  |cont=>
   obtain⟨σ3,H3,I3,g⟩:=a;obtain⟨i,j,e⟩:=o σ3 H3 g;exact⟨i,j,σ3,H3,I3,e⟩
  |brk=>exact a
  |ret v=>exact a
 |false=>
  rw[lA Co];exact zk ⟨σ1,H2,I2,d⟩⟩
theorem NB{iter:Expr}(l:PassesOwn (model X.prog X.w) X.A X.env X.xe)(C:X.calm=true)(hi:QI X tg iter wi)(t:QG X tg g)(a:FW X body tb)
  (hs:∀x,foldedSetIterable iter X.env x=pure x:=by intro _;rfl):QS X (.For tg iter body [] pos) (Rx wi g tb):=⟨by
 have hi:=hi.h;have t:=t.h;have a:=a.h;intro Zd s Z H D I h;refine wpAny_For (Ae (hi Zd s Z H _ I h) λv s1 h1=>Ae h1 λQv s2 h2=>?_) hs;obtain⟨it,fp,tn,J,H2,e,I2,T,Iw,E,W,⟨Y,Q⟩,turn⟩:=h2;subst e
 -- lM stays true of Gp ZDw objects through Gp loop
 have y:∀{H':Hp},(∀b∈fp,H' b=none)->∀b∈fp,FL X Zd H' b:=λhn b a=>⟨hn b a,(E b a).2⟩;refine codeAny_forLoop_any (λn s'=>∃i σ' H',Inv X Zd σ' H' s'/\tn i s'.heap/\(∀b∈fp,H' b=none)/\W i n σ' H') ?_ Y ⟨0,Z,H2,I2,Iw,λb a=>(E b a).1,Q⟩;rintro n B⟨i,σ3,H3,I3,ZU,F,P⟩;rcases turn i n σ3 H3 P with⟨stop,qn⟩|⟨go,N,hN,step⟩
 .refine y4 l (Ae (T.done X rfl rfl rfl C i Zd B σ3 H3 X.xe I3 (y F) ZU stop) λr s4 SU=>?_);obtain⟨q,I4⟩:=SU;subst q;exact zk ⟨σ3,H3,I4,qn⟩
 .refine y4 l (Ae (T.item X rfl rfl rfl C i Zd B σ3 H3 X.xe I3 (y F) ZU go) λr s4 ZCL=>?_);obtain⟨u,q,h4⟩:=ZCL;subst q;refine y4 l (Ae h4 λ_ z G=>?_);obtain⟨x,H5,I5,U,K,LD,Ob⟩:=G;have L:=I5.pinned (y Ob) (T.obj _ _ LD);refine y4 l (Ae (t _ z σ3 H5 x u _ L U (step x H5 K)) λ_ R jr=>?_);obtain⟨σ6,H6,I6,V⟩:=jr;refine y4 l (Ae (a _ R σ6 H6 _ I6 V) λf p j=>?_);have c:∀{σ7:St}{H7:Hp},Inv X (Zd++O4 fp z.heap) σ7 H7 p->N σ7 H7->∃m,m<n/\∃i σ' H',Inv X Zd σ' H' p/\tn i p.heap/\(∀b∈fp,H' b=none)/\W i m σ' H':=λ{σ7 H7}I7 k=>by
   obtain⟨σ,hm,O⟩:=hN σ7 H7 k;refine⟨σ,hm,i+1,σ7,H7,I7.Mn,T.keep _ _ _ LD λb a o e=>(I7.pin (b,o) (HL _ (HL _ (OT a e)))).1,λb a=>?_,O⟩;obtain⟨o,e,d⟩:=T.obj _ _ LD b a;exact(I7.pin (b,o) (HL _ (HL _ (OT a e)))).2.1
  cases f with
  |next=>obtain⟨σ7,H7,I7,k⟩:=j;exact c I7 k
  |cont=>obtain⟨σ7,H7,I7,k⟩:=j;exact c I7 k
  |brk=>obtain⟨σ7,H7,I7,j⟩:=j;exact⟨σ7,H7,I7.Mn,j⟩
  |ret v=>obtain⟨M,σ7,H7,I7,S,j⟩:=j;exact⟨M,σ7,H7,I7.Mn,S,j⟩⟩
theorem C1(h:QS X st t):QS X st (Uk t):=⟨by
 have h:=h.h;intro Zd s Z H D I hw;obtain⟨J,h1,h2⟩:=hw;refine Ae (h Zd s Z H _ I h1) λf s' q=>?_;cases f with
 |next=>obtain⟨σ',H',I',q⟩:=q;exact⟨σ',H',I',h2 σ' H' q⟩
 |ret v=>exact q
 |brk=>exact q
 |cont=>exact q⟩
end
theorem AE.BS{P:Program}{K:ZE7}{mg:ZE9}{Zp:Heap}{qual:Str}{st:Stmt}{fd:FuncData}{N:List Str}(F:AE K x qual st f fd)(S:B0 N ps (AY st))(len:∀vs H Q E,sp vs H Q E->vs.length=ps.length)
  (KO:∀(AS:Value)(A:Around)(outer:List Env)(s:Shared)(H:Hp)(vs:List V)(Q:VK)(E:XK),Bu k (A.deeper (envOfC qual (AY st) s.heap.objs.size f AS))->sp vs H Q E->
   ∃t,FW (Dy FJ P w K mg Zp N qual (AY st) f AS A outer s H E).Ma (JT st) t/\t { nx:=λ_ H'=>Q .AB H',rt:=Q } (start N vs) H):Cv P w K mg Zp FJ (k+1) f fd ps sp:=
 F.ok S len λAS A outer s H vs Q E a h=>let ⟨t,q,r⟩:=KO AS A outer s H vs Q E a h;⟨t,q.h,r⟩
theorem Qq{t:Tok}:D9 (.str x) (.str y t)=(y == x):=rfl
theorem VB(x:Str):∀(ss:List Str)(m:Nat)(b:m<ss.length),m<ss.idxOf x->ss[m]≠x
 | [],_,b,_=>absurd b (Nat.not_lt_zero _)
 |a::r,m,b,h=>by
  rw[YC]at h
  by_cases e:a=x
  .have:(a == x)=true:=by simpa using e
   rw[this]at h;exact absurd h (Nat.not_lt_zero _)
  .have c:(a == x)=false:=by simpa using e
   rw[c]at h;cases m with
   |zero=>exact e
   |succ k=>
    have h':k+1<r.idxOf x+1:=h;exact VB x r k (by simpa using b) (by omega)
theorem XJ(h:x∈ss):∃a:ss.idxOf x<ss.length,ss[ss.idxOf x]=x/\∀m(b:m<ss.length),m<ss.idxOf x->ss[m]≠x:=by
 have a:ss.idxOf x<ss.length:=List.idxOf_lt_length_iff.mpr h;exact⟨a,YB a,λm b AW=>VB x ss m b AW⟩
def bR(K:ZE7):V->List V->Hp->VK->Prop:=λx vs H Q=>∃(l:Addr)(ss:List Str)(y:Str),x=.ref l/\vs=[.str y]/\AO K H l (ss.map V.str)/\y∈ss/\Q (.int (ss.idxOf y:Nat)) H
theorem ZC3:Ht X "list.index" (bR X.K):=by
 intro Zd s Z H x vs v us Q I i j h;obtain⟨l,ss,y,rfl,rfl,p,o,q⟩:=h;cases i;obtain⟨u,rfl,k⟩:=j.one;obtain⟨A3,r,pl,b⟩:=I.list p;obtain⟨⟨c,d,dt,sl⟩,n,ho,f,hd,FN⟩:=id pl;simp only at f hd FN;subst f;subst hd;subst FN;have A:=r.length;rw[Aw]at A;obtain⟨D,UK,Jw⟩:=XJ o;have at':∀(m:Nat)(a:m<A3.toArray.size),∃t,A3.toArray[m]=.str (ss[m]'(by simp at a;omega)) t:=λm a=>by
  have B:m<A3.length:=by simpa using a
  obtain⟨h2,t,e⟩:=Q6 r (Bb B);exact⟨t,by simpa using e⟩
 have g:ss.idxOf y<A3.toArray.size:=by simp;omega
 refine ZAb ZDB ⟨_,ho,rfl⟩ PySem.F.entry_list_index (PySem.F.args_list_index_2 _ _) (SeqAt.list_indexAt l A3.toArray n none sl u (D9 (.str y)) (ss.idxOf y) g ?_ ?_ (λm a AW=>?_)) ⟨ho,λz Gz=>Iq k rfl r (by
   rw[Ec];intro w hw;obtain⟨C,_,rfl⟩:=List.mem_map.mp hw;rfl) z (by simpa using Gz),?_⟩
 .have h1:ss.length<=sizeLine:=by rw[Aw]at b;exact b
  have h2:=HS;have E:((sizeLine:Nat):Int)<2 ^ 63:=by exact_mod_cast h2
  omega
 .obtain⟨t,e⟩:=at' _ g;rw[e,Qq];simpa using UK
 .obtain⟨t,e⟩:=at' _ a;rw[e,Qq];have:=Jw m (by simp at a;omega) AW
  simpa using this
 .exact⟨.int _,H,I.tok _,⟨_,rfl⟩,q⟩
theorem vY(l:Addr)(items:Array Value)(n:Nat)(dd:Option Addr)(sl:Array (Option Value))(x:Value)(e:Value->Bool)(j:Nat)(B:j<items.size)(f:e items[j]=true)(Jw:∀m(z:m<items.size),m<j->e items[m]=false):
  Meets (Builtin.«tuple.index» ⟨[.ref l,x],[]⟩)
   (λA R s=>s.heap.get? l=some { cls:=.type "tuple", dict:=dd,data:=.seq items n,slots:=sl }/\(∀y,y∈items->SeqAt.EqAt A.in1 s y x (e y))/\R (.ok (.ret (.int j s.toks))) { s with toks:=s.toks+1 }):=by
 refine Meets.of_wp λprog w A R s h=>?_;obtain⟨o,g,d,tk,os⟩:=s;obtain⟨p,q,h⟩:=h
 wp_walk using AutoSeq1.wpAny_loadPart' p
 show wpAny _ _ (forIn [:min items.size items.size] ((none:Option Fin),()) (λ(i:Nat)(_:Option Fin×Unit)=>match items[i]? with
  |some y=>(do let b <- eqBool y x;if b=true then do let r <- retInt ((i:Nat):Int);pure (ForInStep.done (some r,()))else pure (ForInStep.yield (none,())))
  |_=>pure (ForInStep.yield (none,())))) _ _ _
 rw[Std.Legacy.Range.forIn_eq_forIn_range'];have v:([:min items.size items.size]:Std.Legacy.Range).size=items.size:=by simp[Std.Legacy.Range.size]
 show wpAny _ _ (forIn (List.range' 0 ([:min items.size items.size]:Std.Legacy.Range).size 1) _ _) _ _ _;rw[v];refine wpAny_forIn_list _ (λrest b s'=>b=(none,())/\s'=⟨o,g,d,tk,os⟩/\∃i,rest=List.range' i (items.size - i) 1/\i<=j) _ ?_ ?_ _ _ ⟨rfl,rfl,0,rfl,CJ _⟩
 .rintro i rest b s'⟨rfl,rfl,a,c,FX⟩;have k:a < items.size:=by omega
  have u:List.range' a (items.size - a) 1=a::List.range' (a+1) (items.size - (a+1)) 1:=by
   have:items.size - a=(items.size - (a+1))+1:=by omega
   rw[this,List.range'_succ]
  rw[u]at c;injection c with NA MB
  subst NA;subst MB;have hi:items[i]?=some items[i]:=by simp[k]
  rw[hi];refine jW (q _ (Array.getElem_mem k) prog w _ _ ?_)
  by_cases t:i=j
  .subst t;rw[f,lO rfl]
   wp_walk
   exact⟨_,rfl,h⟩
  .rw[Jw i k (by omega),lA (by decide)];exact kA ⟨rfl,rfl,i+1,rfl,by omega⟩
 .rintro b s'⟨rfl,rfl,i,c,FX⟩;have:0<(List.range' i (items.size - i) 1).length:=by rw[List.length_range'];omega
  rw[<- c]at this;exact absurd this (by simp)
def fv(K:ZE7):V->List V->Hp->VK->Prop:=λx vs H Q=>∃(l:Addr)(ss:List Str)(y:Str),x=.ref l/\vs=[.str y]/\Al K H l (ss.map V.str)/\y∈ss/\Q (.int (ss.idxOf y:Nat)) H
theorem tq:Ht X "tuple.index" (fv X.K):=by
 intro Zd s Z H x vs v us Q I g i h;obtain⟨l,ss,y,rfl,rfl,o,k,q⟩:=h;cases g;obtain⟨u,rfl,j⟩:=i.one;obtain⟨A3,r,pl,C⟩:=I.tuple o;obtain⟨⟨c,d,dt,sl⟩,ho,b,n,FN⟩:=id pl;simp only at b FN;subst b;subst FN;have p:=r.length;rw[Aw]at p;obtain⟨D,UK,Jw⟩:=XJ k;have at':∀(m:Nat)(a:m<A3.toArray.size),∃t,A3.toArray[m]=.str (ss[m]'(by simp at a;omega)) t:=λm a=>by
  have A:m<A3.length:=by simpa using a
  obtain⟨h2,t,e⟩:=Q6 r (Bb A);exact⟨t,by simpa using e⟩
 have f:ss.idxOf y<A3.toArray.size:=by simp;omega
 refine ZAb ZDC ⟨_,ho,rfl⟩ PySem.F.entry_tuple_index (PySem.F.args_tuple_index_2 _ _) (vY l A3.toArray n d sl u (D9 (.str y)) (ss.idxOf y) f ?_ (λm a AW=>?_)) ⟨ho,λz Gz=>Iq j rfl r (by
   rw[Ec];intro w hw;obtain⟨B,_,rfl⟩:=List.mem_map.mp hw;rfl) z (by simpa using Gz),?_⟩
 .obtain⟨t,e⟩:=at' _ f;rw[e,Qq];simpa using UK
 .obtain⟨t,e⟩:=at' _ a;rw[e,Qq];have:=Jw m (by simp at a;omega) AW
  simpa using this
 .exact⟨.int _,H,I.tok _,⟨_,rfl⟩,q⟩
def Vz(t u:TE):TE:=λZ H Q=>t Z H Q∨u Z H Q
theorem vt{t u:TE}(h:QE X e t)(h2:QE X e u):QE X e (Vz t u):=⟨λZd s Z H Q I q=>q.elim (h.h Zd s Z H Q I) (h2.h Zd s Z H Q I)⟩
theorem ZAN:typeLookup (.type "list_reverseiterator") "__len__"=pure none:=by rw[qd,mX];kernel_rfl
theorem tD:typeLookup (.type "list_reverseiterator") "__length_hint__"=pure (some (.builtin "list_reverseiterator.__length_hint__")):=by rw[qd,mX];kernel_rfl
section
variable{fp wr:List Addr}{G:Array GenState->Array GenState->Prop}{P:Nat->Value->Prop}{St:Nat->Shared->Prop}
theorem kQ(W:WalksS prog w A.in1 I fp wr G n P St)(c:∀i s,St i s->s.TypeIs (.ref I) "list_reverseiterator")(S:Addr)(res:Value)(k:Nat)(B9:St 0 s)(Dm:S∉fp)(j:I∈fp)
  (h:s.heap.get? S=some { cls:=.type "list", data:=.seq #[] k })
  (hR:∀s' Bn a,Moved (S::wr) G s s'->s'.heap.get? S=some { cls:=.type "list", dict:=none,data:=.seq Bn a,slots:=#[] }->ItemsOf P Bn n->R (.ok (.ret res)) s') (hn:n<=sizeLine) :
  wpAny (model prog w) A.in1 (Builtin.List.listExtendWith (.ref S) (.ref I) res)
   (λfin s'=>match fin with | .done f=>R (.ok f) s' | .again a=>a.quiet=true/\codeAny (model prog w) A a R s') (λe s'=>R (.error e) s') s:=by
 have l:S≠I:=λe=>Dm (e▸j);unfold Builtin.List.listExtendWith;refine jW (xB (c 0 _ B9) ?_);have h1:Builtin.List.listSameRef (.ref S) (.ref I)=false:=by simp[Builtin.List.listSameRef,l]
 rw[lA (by rw[h1];decide)];refine jW (W.self 0 _ _ _ B9 ?_);refine jW (oK ?_);unfold Builtin.List.listLengthHint;refine jW (vN (c 0 _ B9) ZAN ?_);show wpAny _ A.in1 (specialOf (Value.ref I) (Str.ofString "__length_hint__") >>= _) _ _ _;refine jW (vN (c 0 _ B9) tD ?_);generalize d:("list_reverseiterator.__length_hint__":String)=MY
 wp_delta
 rw[show splitId MY=some ("list_reverseiterator","__length_hint__")from by subst d;decide +kernel];subst d;refine jW (sT (b:=true) (c 0 _ B9) (by rw[pO];kernel_rfl) ?_);refine kA ?_;rw[lA (by decide)];refine kA ⟨ZA0 iO _,ZAt W hn _ Dm _ n 0 _ _ _ rfl (CJ _) B9 h (ItemsOf.nil P) λs' Bn a g Cp BM=>?_⟩;exact hR s' Bn a g Cp BM
theorem qO(W:WalksS prog w A.in1 I fp wr G n P St)(l:∀i s,St i s->s.TypeIs (.ref I) "list_reverseiterator")(S:Addr)(B9:St 0 s)(Dm:S∉fp)(m:I∈fp)
  (g:s.heap.get? S=some { cls:=.type "list", data:=.seq #[] })
  (hR:∀s' Bn a,Moved (S::wr) G s s'->s'.heap.get? S=some { cls:=.type "list", dict:=none,data:=.seq Bn a,slots:=#[] }->ItemsOf P Bn n->R (.ok (.ret .none)) s') (hn:n<=sizeLine) :
  wpAny (model prog w) A.in1 (Builtin.«list.__init__» ⟨[.ref S,.ref I],[]⟩)
   (λfin s'=>match fin with | .done f=>R (.ok f) s' | .again a=>a.quiet=true/\codeAny (model prog w) A a R s') (λe s'=>R (.error e) s') s:=by
 show wpAny _ A.in1 (do let old <- Builtin.List.listItems (.ref S);Builtin.List.listUpdate (.ref S) (λ_=>#[]);letGo old.toList.reverse;Builtin.List.listExtendWith (.ref S) (.ref I) .none) _ _ s
 refine jW ?_;unfold Builtin.List.listItems;refine jW (wpAny_seqItems g rfl (kA ?_));show wpAny _ A.in1 (updateSeq S (λ_=>#[]) >>= λ_=>letGo (#[]:Array Value).toList.reverse >>= λ_=>Builtin.List.listExtendWith (.ref S) (.ref I) .none) _ _ s;refine jW (yu g rfl ?_);have d:=ED (Obj.mapSeq (λ_=>(#[]:Array Value))) g rfl;have j:∀b o,b≠S->s.heap.get? b=some o->(s.heap.update S (Obj.mapSeq (λ_=>(#[]:Array Value)))).get? b=some o:=
  λb o c e=>(DE _ _ (BJ c)).trans e
 refine jW (wpAny_letGo ?_);refine kQ (hn:=hn) W l S .none _ (W.frame 0 s _ s.toks B9 (Az _) λb c o e=>j b o (λh=>Dm (h▸c)) e) Dm m d λs' Bn a k Cp BM=>?_;exact hR s' Bn a (Moved.trans W.gtrans ((Moved.refl W.grefl).then_heap (Az _) λb o c e=>j b o (λh=>c (h▸Bc)) e) k) Cp BM
theorem t6(W:WalksS prog w A.in1.in1 I fp wr G n P St)(g:∀i s,St i s->s.TypeIs (.ref I) "list_reverseiterator")(B9:St 0 s)(Lg:∀b∈fp,b<s.heap.objs.size)(j:I∈fp)
  (h:∀s' Bn c,Moved (s.heap.objs.size::wr) G { s with heap:=s.heap.push { cls:=.type "list", data:=.seq #[] } } s'->
   s'.heap.get? s.heap.objs.size=some { cls:=.type "list", dict:=none,data:=.seq Bn c,slots:=#[] }->ItemsOf P Bn n->Q (.ref s.heap.objs.size) s') (hn:n<=sizeLine) :
  wpAny (model prog w) A (call (.type "list") [.ref I]) Q E s:=by
 have k:s.heap.objs.size∉fp:=λa=>MV _ (Lg _ a);refine callType_codes (Q₁:=λobj d=>obj=.ref s.heap.objs.size/\d={ s with heap:=s.heap.push { cls:=.type "list", data:=.seq #[] } }) F.called_list (F.typeCall_list_1 _) F.entry_list_init
  (code_list_new _ ⟨rfl,rfl⟩) λobj d h₁=>?_
 obtain⟨rfl,rfl⟩:=h₁;have f:(s.heap.push { cls:=.type "list", data:=.seq #[] }).get? s.heap.objs.size=some { cls:=.type "list", data:=.seq #[] }:=BR _ rfl;refine⟨⟨_,f,rfl⟩,F.args_list_init_2 _ _,qO (hn:=hn) W g _ (W.frame 0 s _ s.toks B9 (Az _) λb _ o e=>BC _ e) k j f λs' Bn c a Cp BM=>?_⟩;exact⟨rfl,h s' Bn c a Cp BM⟩
end
theorem ZAu:typeLookup (.type "tuple") "__reversed__"=pure none:=by rw[qd,mX];kernel_rfl
theorem ZA1:typeLookup (.type "reversed") "__len__"=pure none:=by rw[qd,mX];kernel_rfl
theorem ZAv:typeLookup (.type "reversed") "__length_hint__"=pure (some (.builtin "reversed.__length_hint__")):=by rw[qd,mX];kernel_rfl
theorem wU:isSubtype (.type "tuple") (.type "dict")=pure false:=by rw[pO];kernel_rfl
theorem SE:Manifest.owners.lookup (String.ofList ['d','e','s','r','e','v','e','r'].reverse)=some Manifest.sig_reversed:=by kernel_rfl
theorem Nb:Slot "reversed" "__next__" "reversed.__next__" :=
 .of (owner:="reversed") (n:="__next__") (by rw[qd,mX];kernel_rfl) (by decide +kernel) (by decide +kernel) (by decide +kernel)
  (by first|exact .inl (by decide +kernel)|exact .inr (by decide +kernel)) (by rw[pO];kernel_rfl)
theorem ZA:entryFor table "reversed.__next__"=some Builtin.«reversed.__next__»:=ZBQ (by kernel_rfl)
theorem Yt(a:Value):argsOk "reversed.__next__" ⟨[a],[]⟩:=by
 unfold argsOk;rw[ZAo (id:="reversed.__next__") (n:=['_','_','t','x','e','n','_','_']) (o:=['d','e','s','r','e','v','e','r']) (by kernel_rfl) SE];kernel_rfl
theorem bP:Slot "reversed" "__iter__" "reversed.__iter__" :=
 .of (owner:="reversed") (n:="__iter__") (by rw[qd,mX];kernel_rfl) (by decide +kernel) (by decide +kernel) (by decide +kernel)
  (by first|exact .inl (by decide +kernel)|exact .inr (by decide +kernel)) (by rw[pO];kernel_rfl)
theorem ZA6(a:Value):argsOk "reversed.__iter__" ⟨[a],[]⟩:=by
 unfold argsOk;rw[ZAo (id:="reversed.__iter__") (n:=['_','_','r','e','t','i','_','_']) (o:=['d','e','s','r','e','v','e','r']) (by kernel_rfl) SE];kernel_rfl
theorem zZ:entryFor table "reversed.__iter__"=some Builtin.«dict_keyiterator.__iter__»:=
 ZB8 (id' := "dict_keyiterator.__iter__") (by kernel_rfl) (by first|rfl|decide +kernel|(unfold String.splitOn;simp +decide [String.splitOnAux])) (by decide +kernel) (by kernel_rfl)
theorem aS:Slot "reversed" "__length_hint__" "reversed.__length_hint__" :=
 .of (owner:="reversed") (n:="__length_hint__") (by rw[qd,mX];kernel_rfl) (by decide +kernel) (by decide +kernel) (by decide +kernel)
  (by first|exact .inl (by decide +kernel)|exact .inr (by decide +kernel)) (by rw[pO];kernel_rfl)
theorem vz:entryFor table "reversed.__length_hint__"=some Builtin.«reversed.__length_hint__»:=ZBQ (by kernel_rfl)
theorem sN(a:Value):argsOk "reversed.__length_hint__" ⟨[a],[]⟩:=by
 unfold argsOk;rw[ZAo (id:="reversed.__length_hint__") (n:=['_','_','t','n','i','h','_','h','t','g','n','e','l','_','_']) (o:=['d','e','s','r','e','v','e','r']) (by kernel_rfl) SE];kernel_rfl
theorem oW:Slot "reversed" "__init__" "object.__init__" :=
 .of (owner:="object") (n:="__init__") (by rw[qd,mX];kernel_rfl) (by decide +kernel) (by decide +kernel) (by decide +kernel)
  (by first|exact .inl (by decide +kernel)|exact .inr (by decide +kernel)) (by rw[pO];kernel_rfl)
theorem vK:TypeCalled "reversed" "reversed.__new__" "object.__init__" :=
 ⟨by decide +kernel,by decide +kernel,⟨_,_,F.mro_reversed⟩,F.made_reversed,by decide +kernel,by rw[pO];kernel_rfl,oW⟩
noncomputable def O0(l:Addr)(i:Int):Obj:={ cls:=.type "reversed", data:=.fields #[.ref l,rawInt i] }
def Eo(h:Heap)(a l:Addr)(i:Int):Prop:=∃o,h.get? a=some o/\o.cls=.type "reversed" /\ o.data=.fields #[.ref l,rawInt i]
theorem Eo.typeIs{a:Addr}{i:Int}(x:Eo s.heap a l i):s.TypeIs (.ref a) "reversed" := let ⟨o,ho,hc,_⟩:=x;⟨o,ho,hc⟩
theorem Eo.at{h h':Heap}{a:Addr}{i:Int}(x:Eo h a l i)(e:∀o,h.get? a=some o->h'.get? a=some o):Eo h' a l i:=let ⟨o,ho,r⟩:=x;⟨o,e _ ho,r⟩
theorem ZAW(l:Addr)(items:Array Value)(Dc:(items.size:Int)<2 ^ 63):
  Meets (Builtin.«reversed.__new__» ⟨[.type "reversed",.ref l],[]⟩) (λ_ R s=>IsTup s.heap l items/\
   R (.ok (.ret (.ref s.heap.objs.size))) { s with heap:=s.heap.push (O0 l ((items.size:Int) - 1)),toks:=s.toks+1+1 }):=
 .of_wp λprog w A R s h=>by
  obtain⟨c,h⟩:=h;unfold Builtin.«reversed.__new__»;refine jW (oV (newClass_reversed _) ?_)
  try dsimp only
  refine jW (oV (a:=()) (by first|rfl|kernel_rfl) ?_)
  refine jW (oV (a:=()) (by first|rfl|kernel_rfl) ?_)
  try dsimp only
  refine jW (vN c.typeIs ZAu ?_)
  try dsimp only
  refine jW ?_
  wp_delta
  refine jW (sT (b:=false) c.typeIs wU ?_);rw[lA (by decide)];refine jW (vN c.typeIs PyProof.Rows.slot_tuple_getitem.lookup ?_);dsimp only;rw[lO (by decide +kernel)];refine kA ?_;rw[lA (by decide)];refine jW (len_tuple c Dc ?_);refine jW (m:=asInt? _) (kA ?_);dsimp only;refine jW ?_;unfold Builtin.SmallTypes.newRecord;dsimp only;exact nU (kA ⟨_,rfl,h⟩)
theorem qH(Dc:(items.size:Int)<2 ^ 63)(a:IsTup s.heap l items)
  (h:Q (.ref s.heap.objs.size) { s with heap:=s.heap.push (O0 l ((items.size:Int) - 1)),toks:=s.toks+1+1 }):wpAny (model prog w) A (call (.type "reversed") [.ref l]) Q E s:=by
 refine callType_new vK (by decide) (F.typeCall_reversed_1 _) (F.newCall_reversed_1 _) (λobj=>F.args_object_init_2 obj _) F.entry_reversed_new (ZAW l items Dc) ⟨a,?_⟩;exact⟨⟨_,BR _ rfl,rfl⟩,h⟩
theorem ZCP{x:Value}{Q:Option Value->Shared->Prop}(b:Eo s.heap it l (i:Int))(c:IsTup s.heap l items)(hx:items[i]?=some x)(Dc:(items.size:Int)<2 ^ 63)
  (d:∀h' tk,Eo h' it l ((i:Int) - 1)->Heap.SameBut it s.heap h'->s.toks<=tk->Q (some x) { s with heap:=h',toks:=tk }):wpAny (model prog w) A (pyNext (.ref it)) Q E s:=by
 obtain⟨o,ho,f,hd⟩:=id b;have hi:i<items.size:=(Array.getElem?_eq_some_iff.mp hx).1;unfold pyNext;refine jW (u4 (pW (name:=Str.ofString "__next__") b.typeIs Nb
  (pH Nb b.typeIs ZA ?_ (Yt _))))
 unfold Builtin.«reversed.__next__»;refine jW (oV (a:=(Value.ref it,[])) rfl ?_)
 try dsimp only
 refine jW (sf ho hd (x:=.ref l) rfl ?_);refine jW (sf ho hd (x:=rawInt (i:Int)) rfl ?_);show wpAny _ _ (if(i:Int)<0 then _ else _) _ _ s
 rw[lA (by omega)];refine jW (vN c.typeIs PyProof.Rows.slot_tuple_getitem.lookup ?_);rw[lA (by simp)];refine jW (wpAny_mkInt ?_);have e:seqIndex? (i:Int) items.size=some i:=by
  unfold seqIndex?;simp;omega
 refine jW (u4 (getItem_tuple (s:={ s with toks:=s.toks+1 }) c (by omega) (by omega) e hx ?_))
 dsimp only;refine jW (sf (s:={ s with toks:=s.toks+1 }) ho hd (x:=rawInt (i:Int)) rfl ?_)
 show wpAny _ _ (setField (.ref it) 1 (rawInt ((i:Int) - 1)) >>= _) _ _ _;refine jW (rH (s:={ s with toks:=s.toks+1 }) ho hd (by simp) ?_)
 first
 |refine kA ⟨x,rfl,kA (d _ _ ?_ (HK ..) (EH _))⟩
 |refine jW (kA (kA ⟨x,rfl,kA (d _ _ ?_ (HK ..) (EH _))⟩))
 exact⟨_,ED _ ho (L9 (Fd hd _)),(RX ..).trans f,by
  rw[Fd hd];simp⟩
theorem zR{Q:Option Value->Shared->Prop}(hh:A.handled=none)(c:Eo s.heap it l (-1))
  (g:∀h',Heap.ExtBut it s.heap h'->Q none { s with heap:=h' }):wpAny (model prog w) A (pyNext (.ref it)) Q E s:=by
 obtain⟨o,ho,i,hd⟩:=id c;unfold pyNext;refine jW (u4 (pW (name:=Str.ofString "__next__") c.typeIs Nb
  (pH Nb c.typeIs ZA ?_ (Yt _))))
 unfold Builtin.«reversed.__next__»;refine jW (oV (a:=(Value.ref it,[])) rfl ?_)
 try dsimp only
 refine jW (sf ho hd (x:=.ref l) rfl ?_);refine jW (sf ho hd (x:=rawInt (-1)) rfl ?_);show wpAny _ _ (if(-1:Int)<0 then _ else _) _ _ s
 rw[lO (by decide)];refine jW (ZA8 ?_);refine jW ?_
 wp_delta
 refine jW (rH ho hd (by simp) ?_);have h:=ED (λob=>Obj.mapFields (·.set! 1 (rawInt (-1))) ob) ho (L9 (Fd hd _))
 have d:=Fd hd (·.set! 1 (rawInt (-1)))
 refine rH (s:={ s with heap:=_ }) h d (by simp) ?_
 refine jW ?_;show wpAny _ _ (newExc (.type "StopIteration") [] >>= _) _ _ _;refine jW ?_;simp only[newExc,newTuple];refine jW (nU ?_ (by size_fits));refine jW (m:=firstArgMember _ _) (oV (a:=Value.none) (by first|rfl|(simp only[firstArgMember];rfl)) ?_)
 refine nU ?_ (by size_fits);simp only[raiseNew];refine jW (wpAny_handled ?_)
 first|rw[show A.in1.handled=none from hh]|rw[hh]
 refine jW (kA (wpAny_throw ?_));refine jW (sT (T:="StopIteration") (b:=true) ⟨_,BR _ rfl,rfl⟩ ZBk ?_);refine kA (g _ (λb ob f e=>?_));exact BC _ (BC _ ((DE _ _ (BJ f)).trans ((DE _ _ (BJ f)).trans e)))
theorem pN{i:Int}(a:Eo s.heap it l i)(h:Q (.ref it) s):wpAny (model prog w) A (pyIter (.ref it)) Q E s:=by
 refine ZBJ a.typeIs bP (pH bP a.typeIs zZ ?_ (ZA6 _));show wpAny _ _ (ret (.ref it)) _ _ s;exact kA ⟨_,rfl, "reversed", _,a.typeIs,Nb.lookup,h⟩
theorem ye(hh:A.handled=none)(I l:Addr)(AU:l≠I)(items:Array Value)(Dc:(items.size:Int)<2 ^ 63):
  Walks prog w A I [I,l] [I] items.size (λi v=>items[items.size - 1 - i]?=some v) (λi h=>i<=items.size/\Eo h I l ((items.size:Int) - 1 - (i:Int))/\IsTup h l items) where
 sub:=λb c=>by simp at c;simp[c]
 frame:=λ_ _ _ x g=>⟨x.1,x.2.1.at λo e=>g I (by simp) o e,let ⟨o,ho,r⟩:=x.2.2;⟨o,g l (by simp) o ho,r⟩⟩
 item:=λi s Q E hi x d=>by
  have e:(items.size:Int) - 1 - (i:Int)=((items.size - 1 - i:Nat):Int):=by omega
  have a:=x.2.1;rw[e]at a;have hx:items[items.size - 1 - i]?=some (items[items.size - 1 - i]'(by omega)):=Kx (by omega);refine ZCP a x.2.2 hx Dc λh' tk Im j Gb=>?_;have k:((items.size - 1 - i:Nat):Int) - 1=(items.size:Int) - 1 - ((i+1:Nat):Int):=by omega
  rw[k]at Im;exact d _ h' tk hx ⟨hi,Im,x.2.2.extBut j.extBut AU⟩ λb o c f=>j.extBut b o (λh=>c (by simp[h])) f
 done:=λs Q E x d=>by
  have e:(items.size:Int) - 1 - (items.size:Int)=-1:=by omega
  have a:=x.2.1;rw[e]at a;exact zR hh a λh' OG=>d h' s.toks λb o c f=>OG b o (λh=>c (by simp[h])) f
 self:=λ_ _ _ _ x d=>pN x.2.1 d
theorem uU(b:Eo s.heap it l ((items.size:Int) - 1))(c:IsTup s.heap l items)(Dc:(items.size:Int)<2 ^ 63)
  (h:∀t tk,s.toks<=tk->Q (.int (items.size:Int) t) { s with toks:=tk }):wpAny (model prog w) A (call (.builtin "reversed.__length_hint__") [.ref it]) Q E s:=by
 obtain⟨o,ho,d,hd⟩:=id b;refine pH aS b.typeIs vz ?_ (sN _);unfold Builtin.«reversed.__length_hint__»;refine jW (oV (a:=Value.ref it) rfl ?_);refine jW (sf ho hd (x:=.ref l) rfl ?_);rw[lA (show ¬ ((Value.ref l == Value.none)=true)from Co)];refine jW (len_tuple c Dc ?_);refine jW (m:=asInt? _) (kA ?_);dsimp only;refine jW (sf (s:={ s with toks:=_ }) ho hd (x:=rawInt ((items.size:Int) - 1)) rfl ?_)
 show wpAny _ _ (if(items.size:Int)<((items.size:Int) - 1)+1 then _ else _) _ _ _
 rw[lA (by omega)];show wpAny _ _ (retInt (((items.size:Int) - 1)+1)) _ _ _;have e:((items.size:Int) - 1)+1=items.size:=by omega
 rw[e];exact jW (wpAny_mkInt (kA ⟨_,rfl,h _ _ (by show s.toks<=s.toks+1+1+1;omega)⟩))
theorem ni(hh:A.handled=none)(AU:l≠I)(E:items.size<=sizeLine)(S:Addr)(res:Value)(F:Nat)(c:Eo s.heap I l ((items.size:Int) - 1))(n:IsTup s.heap l items)(HZ:S≠I)(KI:S≠l)
  (y:s.heap.get? S=some { cls:=.type "list", data:=.seq #[] F })
  (hR:∀s' Bn d,Moved [S,I] (λa b=>b=a) s s'->s'.heap.get? S=some { cls:=.type "list", dict:=none,data:=.seq Bn d,slots:=#[] }->ItemsOf (λi v=>items[items.size - 1 - i]?=some v) Bn items.size->R (.ok (.ret res)) s') :
  wpAny (model prog w) A.in1 (Builtin.List.listExtendWith (.ref S) (.ref I) res)
   (λfin s'=>match fin with | .done f=>R (.ok f) s' | .again d=>d.quiet=true/\codeAny (model prog w) A d R s') (λe s'=>R (.error e) s') s:=by
 have C:(items.size:Int)<2 ^ 63:=by
  have h1:=HS;have O:((sizeLine:Nat):Int)<2 ^ 63:=by exact_mod_cast h1
  omega
 have W:=(ye (prog:=prog) (w:=w) (A:=A.in1) hh I l AU items C).toS;have N:(λ(i:Nat)(s:Shared)=>i<=items.size/\Eo s.heap I l ((items.size:Int) - 1 - (i:Int))/\IsTup s.heap l items) 0 s:=⟨CJ _,by simpa using c,n⟩
 have M:S∉[I,l]:=by simp[HZ,KI]
 unfold Builtin.List.listExtendWith;refine jW (xB c.typeIs ?_);have h1:Builtin.List.listSameRef (.ref S) (.ref I)=false:=by simp[Builtin.List.listSameRef,HZ]
 rw[lA (by rw[h1];decide)];refine jW (W.self 0 _ _ _ N ?_);refine jW (oK ?_);unfold Builtin.List.listLengthHint;refine jW (vN c.typeIs ZA1 ?_);show wpAny _ A.in1 (specialOf (Value.ref I) (Str.ofString "__length_hint__") >>= _) _ _ _;refine jW (vN c.typeIs ZAv ?_);generalize G:("reversed.__length_hint__":String)=MY
 wp_delta
 rw[show splitId MY=some ("reversed","__length_hint__")from by subst G;decide +kernel];subst G;refine jW (sT (b:=true) c.typeIs (by rw[pO];kernel_rfl) ?_);rw[lA (by decide)];refine ZAy (λDs=>absurd Ds (by decide +kernel)) (λ_=>?_);refine jW (ZA8 ?_);refine jW (oV (aS.bind _) ?_);dsimp only;refine jW (u4 (uU c n C λt tk Gb=>?_));dsimp only;have ea:asInt? (Value.int (items.size:Int) t)=pure (some (items.size:Int)):=rfl;rw[ea,pure_bind];dsimp only;have L:Builtin.List.listTooLong ((items.size:Int).toNat)=false:=by
  simp[Builtin.List.listTooLong];exact E
 have q:Builtin.List.listFitsIndex (items.size:Int)=true:=by
  unfold Builtin.List.listFitsIndex;rw[CG];exact⟨lD (by omega),lD C⟩
 rw[lA (by rw[q];decide),lA (by omega),lA (by rw[L];decide)];refine kA ?_;have g:∀(h:Heap)(B:Nat),(∀b o,b≠S->s.heap.get? b=some o->h.get? b=some o)->h.get? S=some { cls:=.type "list", data:=.seq #[] B }->
   codeAny (model prog w) A (.builtin "list.extend.loop" ⟨[.ref S,.ref I,res],[]⟩) R { s with heap:=h,toks:=tk }:=by
  intro h B p x;refine ZAt W E S M res items.size 0 _ #[] B rfl (CJ _) ⟨CJ _,?_,?_⟩ x (ItemsOf.nil _) λs' Bn d j Cp BM=>?_
  .have:=c.at λo e=>p I o (BJ HZ) e
   simpa using this
  .obtain⟨o,ho,r⟩:=n;exact⟨o,p l o (BJ KI) ho,r⟩
  .exact hR s' Bn d ⟨λb o k e=>j.heap b o k (p b o (λz=>k (by simp[z])) e),j.gens,j.drawn,j.os,Bq Gb j.toks⟩ Cp BM
 refine ZAy (λ_=>?_) (λ_=>kA ⟨ZA0 iO _,g _ F (λb o _ e=>e) y⟩);refine jW (ZA8 ?_);refine jW ?_;show wpAny _ _ (updateSeq S (·.push .none) >>= λ_=>updateSeq S (·.pop)) _ _ _
 have K:(#[]:Array Value).size<=sizeLine:=CJ _;have D:((#[]:Array Value).push Value.none).size<=sizeLine:=by show 1<=sizeLine;decide
 have J:((#[]:Array Value).push Value.none).size<=sizeLine+1:=iu D;have H:(((#[]:Array Value).push Value.none).pop).size<=sizeLine+1:=CJ _;refine jW (yu (s:={ s with toks:=tk }) y rfl ?_ K J)
 have m:=ED (Obj.mapSeq (·.push Value.none)) y rfl
 refine yu m rfl ?_ D H;have u:=ED (Obj.mapSeq (·.pop)) m rfl
 refine kA ⟨ZA0 iO _,g _ _ (λb o k e=>?_) u⟩;exact(DE _ _ (BJ k)).trans ((DE _ _ (BJ k)).trans e)
theorem ZBR(hh:A.handled=none)(AU:l≠I)(n:items.size<=sizeLine)(S:Addr)(h:Eo s.heap I l ((items.size:Int) - 1))(p:IsTup s.heap l items)(HZ:S≠I)(KI:S≠l)
  (k:s.heap.get? S=some { cls:=.type "list", data:=.seq #[] })
  (hR:∀s' Bn c,Moved [S,I] (λa b=>b=a) s s'->s'.heap.get? S=some { cls:=.type "list", dict:=none,data:=.seq Bn c,slots:=#[] }->ItemsOf (λi v=>items[items.size - 1 - i]?=some v) Bn items.size->R (.ok (.ret .none)) s') :
  wpAny (model prog w) A.in1 (Builtin.«list.__init__» ⟨[.ref S,.ref I],[]⟩)
   (λfin s'=>match fin with | .done f=>R (.ok f) s' | .again c=>c.quiet=true/\codeAny (model prog w) A c R s') (λe s'=>R (.error e) s') s:=by
 show wpAny _ A.in1 (do let old <- Builtin.List.listItems (.ref S);Builtin.List.listUpdate (.ref S) (λ_=>#[]);letGo old.toList.reverse;Builtin.List.listExtendWith (.ref S) (.ref I) .none) _ _ s
 refine jW ?_;unfold Builtin.List.listItems;refine jW (wpAny_seqItems k rfl (kA ?_));show wpAny _ A.in1 (updateSeq S (λ_=>#[]) >>= λ_=>letGo (#[]:Array Value).toList.reverse >>= λ_=>Builtin.List.listExtendWith (.ref S) (.ref I) .none) _ _ s;refine jW (yu k rfl ?_);have j:=ED (Obj.mapSeq (λ_=>(#[]:Array Value))) k rfl;have m:∀b o,b≠S->s.heap.get? b=some o->(s.heap.update S (Obj.mapSeq (λ_=>(#[]:Array Value)))).get? b=some o:=
  λb o g e=>(DE _ _ (BJ g)).trans e
 refine jW (wpAny_letGo ?_);refine ni hh AU n S .none _ (h.at λo e=>m I o (BJ HZ) e) (let ⟨o,ho,r⟩:=p;⟨o,m l o (BJ KI) ho,r⟩) HZ KI j λs' Bn c d Cp BM=>?_;exact hR s' Bn c ⟨λb o g e=>d.heap b o g (m b o (λz=>g (by simp[z])) e),d.gens,d.drawn,d.os,d.toks⟩ Cp BM
theorem kZ(hh:A.handled=none)(AU:l≠I)(j:items.size<=sizeLine)(c:Eo s.heap I l ((items.size:Int) - 1))(g:IsTup s.heap l items)
  (m:∀s' Bn d,Moved [s.heap.objs.size,I] (λa b=>b=a) { s with heap:=s.heap.push { cls:=.type "list", data:=.seq #[] } } s'->
   s'.heap.get? s.heap.objs.size=some { cls:=.type "list", dict:=none,data:=.seq Bn d,slots:=#[] }->ItemsOf (λi v=>items[items.size - 1 - i]?=some v) Bn items.size->Q (.ref s.heap.objs.size) s') :
  wpAny (model prog w) A (call (.type "list") [.ref I]) Q E s:=by
 have p:s.heap.objs.size≠I:=by obtain⟨o,ho,_⟩:=c;exact Ii (B7 ho)
 have n:s.heap.objs.size≠l:=Ii g.lt;refine callType_codes (Q₁:=λobj f=>obj=.ref s.heap.objs.size/\f={ s with heap:=s.heap.push { cls:=.type "list", data:=.seq #[] } }) F.called_list (F.typeCall_list_1 _) F.entry_list_init
  (code_list_new _ ⟨rfl,rfl⟩) λobj f h₁=>?_
 obtain⟨rfl,rfl⟩:=h₁;have h:(s.heap.push { cls:=.type "list", data:=.seq #[] }).get? s.heap.objs.size=some { cls:=.type "list", data:=.seq #[] }:=BR _ rfl;refine⟨⟨_,h,rfl⟩,F.args_list_init_2 _ _,ZBR (A:=A.in1) hh AU j _ (c.at λo e=>BC _ e) (g.push _) p n h λs' Bn d k Cp BM=>?_⟩;exact⟨rfl,m s' Bn d k Cp BM⟩
end L2
namespace HT
variable{E Q:Value->Shared->Prop}
section
variable{prog:Program}{w:World}{A:Around}{s:Shared}
theorem ZB4{t sl:Addr}{items:Array Value}{vl vu:Value}{lo hi:Option Int}(a:IsTup s.heap t items)(b:s.heap.IsSliceOf sl vl vu .none)(pl:IsPart vl lo)(d:IsPart vu hi)
  (hw:Aq items.size 0 lo=0/\Aq items.size items.size hi=items.size) (h:Q (.ref t) s):wpAny (model prog w) A (getItem (.ref t) (.ref sl)) Q E s:=by
 obtain⟨os,K9,Ou,Nf⟩:=id b;have e:s.TypeIs (.ref sl) "slice" := ⟨os,K9,Ou⟩;unfold getItem
 try with_reducible refine oK ?_
 first|refine jW (kA ?_)|skip
 refine jW (wpAny_sequenceKey a.typeIs (by decide) ?_);refine jW (pW (name:=Str.ofString "__getitem__") a.typeIs YT
  (pH YT a.typeIs entry_tuple_getitem ?_ (args_tuple_getitem _ _)))
 show wpAny _ _ (Builtin.Tuple.tupleItemsOf (.ref t) >>= _) _ _ s;refine jW (tupleItemsOf_ a ?_);refine jW (xB e ?_);rw[lO (by decide)];refine jW (gE b pl d ?_);have c:((((Aq items.size 0 lo:Nat):Int) == 0 && (1:Int) == 1 && (Aq items.size items.size hi - Aq items.size 0 lo) == items.size)=true):=by
  rw[hw.1,hw.2];simp
 first
 |rw[lO c]
 |simp only[c,ZBG]
 refine jW ?_;unfold Builtin.Tuple.tupleIsExact;refine jW (xB a.typeIs (kA ?_));rw[lO (by decide)];exact jW (ZA8 (kA ⟨_,rfl,kA h⟩))
end
end HT
namespace L2
variable{X:Cx}{A3 vs:List Value}{acc items ps:Array Value}{e:Int×Value}{t:SetTable}{prog:Program}{w:World}{h':Heap}{I S a it:Addr}{ep i n nT nl pl sl:Nat}{A:Around}{E Q₁:Value->Shared->Prop}{s:Shared}{o oT:Obj}{es:Array (Int×Value)}{Q:Option Value->Shared->Prop}{α:Type}{f v x:Value}{AK ss:List Str}{Zd:ZE8}{Z:St}{H H1:Hp}
def b8(K:ZE7):V->Option Int->Option Int->Hp->VK->Prop:=λx lo hi H Q=>∃a xs,x=.ref a/\Al K H a xs/\
 ((HT.Aq xs.length 0 lo=0/\HT.Aq xs.length xs.length hi=xs.length)->Q (.ref a) H)/\(¬ (HT.Aq xs.length 0 lo=0/\HT.Aq xs.length xs.length hi=xs.length)->∀p,H p=none->Q (.ref p) (upd H p (.tup (GZ xs lo hi))))
theorem ZBf:Kh X (b8 X.K):=by
 intro Zd s Z H x v vl vu lo hi sl Q I c f pl d h;obtain⟨a,xs,rfl,hx,i,g⟩:=h
 by_cases hw:HT.Aq xs.length 0 lo=0/\HT.Aq xs.length xs.length hi=xs.length
 .cases c;obtain⟨A3,r,e,j⟩:=I.tuple hx;have b:A3.toArray.size=xs.length:=by rw[Bi];exact r.length.symm
  refine⟨"tuple", _,PyProof.Rows.slot_tuple_getitem.lookup,e.typeIs,?_⟩;exact HT.ZB4 e f pl d (by rw[b];exact hw) ⟨.ref a,H,I,rfl,i hw⟩
 .exact ke Zd s Z H _ v vl vu lo hi sl Q I c f pl d ⟨a,xs,rfl,hx,hw,g hw⟩
theorem kb{ys:List V}(r:Vals ys A3)(h:ItemsOf (λi v=>A3.toArray[A3.toArray.size - 1 - i]?=some v) acc A3.toArray.size):∃us:List Value,Vals ys.reverse us/\acc=us.toArray:=by
 have e:acc=A3.reverse.toArray:=by
  apply Array.toList_inj.mp;rw[ZCy];apply iS;intro i;have a:acc.size=A3.length:=by rw[h.1];simp
  by_cases hi:i<A3.length
  .have h1:acc.toList[i]?=some (acc[i]'(by omega)):=by simp
   have h2:=h.2 i (acc[i]'(by omega)) (by simp);rw[h1,ZCr hi];simp at h2;rw[<- h2]
  .have h1:acc.toList[i]?=none:=MQ (by simp;omega);have h2:A3.reverse[i]?=none:=MQ (by simp;omega);rw[h1,h2]
 exact⟨A3.reverse,r.reverse,e⟩
def So(K:ZE7)(t:TA):TE:=λZ H Q=>t Z H λvs H1=>∃a tp ys,vs=[.ref a]/\ER K tp H1 a ys/\∀l,H1 l=none->Q (.ref l) (upd H1 l (.lst ys.reverse))
theorem zV{p1 p2 VV II:Pos}{e:Expr}{t:TA}(G:X.calm=true)(GK:Gl X "list")(Ir:X.mg "list"=none)(Js:Gl X "reversed")(Uq:X.mg "reversed"=none)(l:QA X [e] t)
  (F:starEach [e] X.env=[(false,eval e X.env)]:=by rfl) (QZ:starEach [.Call (.Name "reversed" p2) [e] [] II] X.env=[(false,eval (.Call (.Name "reversed" p2) [e] [] II) X.env)]:=by rfl) :
  QE X (.Call (.Name "list" p1) [.Call (.Name "reversed" p2) [e] [] II] [] VV) (So X.K t):=⟨by
 have l:=l.h;intro Zd s Z H Q I h;refine tT (LH I GK Ir (show bootBuiltins "list"=some (.type "list") by decide +kernel) ?_ (by decide) (by decide));refine YS ?_ QZ rfl;rw[QZ];show wpAny _ _ (spliced ((false,eval (.Call (.Name "reversed" p2) [e] [] II) X.env)::[])) _ _ s;refine Calls.spliced_cons ?_;refine tT (LH I Js Uq (show bootBuiltins "reversed"=some (.type "reversed") by decide +kernel) ?_ (by decide) (by decide));refine YS (Ae (l II Zd s Z H _ I h) λus s1⟨vs,H1,I1,C,E⟩=>?_) F rfl;obtain⟨a,tp,ys,rfl,x,q⟩:=E;obtain⟨u,rfl,z⟩:=vals1 C;cases z;have fin:∀(A3:List Value)(D:Addr)(s2 s':Shared)(acc:Array Value)(c:Nat)(tk:Nat)(ob:Obj),Vals ys A3->ys.length<=sizeLine->D=s1.heap.objs.size->s2={ s1 with heap:=s1.heap.push ob,toks:=tk }->
   Moved [s2.heap.objs.size,D] (λa b=>b=a) { s2 with heap:=s2.heap.push { cls:=.type "list", data:=.seq #[] } } s'->s'.heap.get? s2.heap.objs.size=some { cls:=.type "list", dict:=none,data:=.seq acc c,slots:=#[] }->
   ItemsOf (λi v=>A3.toArray[A3.toArray.size - 1 - i]?=some v) acc A3.toArray.size->EP X Zd Z Q (.ref s2.heap.objs.size) s':=by
  intro A3 D s2 s' acc c tk ob r f N O d j BM;subst N;subst O;obtain⟨us,B,rfl⟩:=kb r BM;obtain⟨h',g',d',W7,KL⟩:=s';have L:g'=s1.gens:=d.gens;have M:d'=s1.drawn:=d.drawn;have J:KL=s1.os:=d.os;subst L;subst M;subst J;have m:(s1.heap.push ob).objs.size=s1.heap.objs.size+1:=EE ..;have kp:∀b o,s1.heap.get? b=some o->h'.get? b=some o:=λb o e=>by
   have k:=B7 e;refine d.heap b o ?_ (BC _ (BC _ e));show b∉[(s1.heap.push ob).objs.size,s1.heap.objs.size];rw[m];simp only[Dg,Cb,yk,not_or];exact⟨BY (Jn k),BY k⟩
  refine⟨.ref _,_,I1.laid (a:=(s1.heap.push ob).objs.size) (t':=W7) kp (by rw[m];exact EH _) (show CU X.prog X.w _ h' _ (.lst ys.reverse)from⟨by rw[L4];exact f,us,c,B,j⟩),rfl,q _ (I1.AN.fresh (by show _<=_;rw[m];exact EH _))⟩
 have hh:X.A.handled=none:=I1.ok.hd G;cases tp with
 |false=>
  obtain⟨A3,r,pl,f⟩:=I1.list x;have g:=r.length;refine call_reversed_list pl.isList ?_;refine iN ?_;obtain⟨o,n,ho,_⟩:=id pl;have y:=B7 ho;have p:a≠s1.heap.objs.size:=BY y;have R:0<=A3.toArray.size/\Heap.IsRevIter (s1.heap.push (revObj a ((A3.toArray.size:Int) - 1))) s1.heap.objs.size a ((A3.toArray.size:Int) - 1 - ((0:Nat):Int))/\Heap.IsList (s1.heap.push (revObj a ((A3.toArray.size:Int) - 1))) a A3.toArray:=
   ⟨CJ _,⟨_,BR _ rfl,rfl,by simp[revObj]⟩,pl.isList.push _⟩
  refine t6 (I:=s1.heap.objs.size) (s:={ s1 with heap:=s1.heap.push (revObj a ((A3.toArray.size:Int) - 1)) }) (Walks.listRev (prog:=X.prog) (w:=X.w) (A:=X.A.in1.in1) hh s1.heap.objs.size a p A3.toArray).toS (λi s st=>st.2.1.typeIs) R ?_ (by simp) ?_ (by simp;omega)
  .intro b k;show b<(s1.heap.push _).objs.size;rw[EE];rcases List.mem_cons.mp k with h|h
   .rw[h];exact ON _
   .have:b=a:=by simpa using h
    rw[this];exact Jn y
  .intro s' acc c d j BM;exact fin A3 s1.heap.objs.size { s1 with heap:=s1.heap.push (revObj a ((A3.toArray.size:Int) - 1)) } s' acc c s1.toks (revObj a ((A3.toArray.size:Int) - 1)) r f rfl rfl d j BM
 |true=>
  obtain⟨A3,r,pl,f⟩:=I1.tuple x;have g:=r.length;have hn:=HS;have P:(A3.toArray.size:Int)<2 ^ 63:=by simp only[Bi];omega
  refine qH P pl ?_;refine iN ?_;have p:a≠s1.heap.objs.size:=BY pl.lt;refine kZ (I:=s1.heap.objs.size) (s:={ s1 with heap:=s1.heap.push (O0 a ((A3.toArray.size:Int) - 1)),toks:=s1.toks+1+1 }) hh p (by simp;omega) ⟨_,BR _ rfl,rfl,rfl⟩ (pl.push _) ?_
  intro s' acc c d j BM;exact fin A3 s1.heap.objs.size { s1 with heap:=s1.heap.push (O0 a ((A3.toArray.size:Int) - 1)),toks:=s1.toks+1+1 } s' acc c (s1.toks+1+1) (O0 a ((A3.toArray.size:Int) - 1)) r f rfl rfl d j BM⟩
theorem je(t:SetTable)(n:Nat):(t.orStandIn n).led=t.led:=by unfold SetTable.orStandIn;split <;> rfl
theorem lB(t:SetTable)(es:Array (Int×Value))(h:Int)(x:Value):(layNew t es h x).2.1.led=t.led:=by
 unfold layNew;split
 .show(SetTable.orStandIn (t.put _).1 _).led=t.led;rw[je];rfl
 .rfl
theorem nX{mask b c:Nat}{led a:Bool}{d:Array Int}{p:SetTable×Array Nat}(h:SetTable.laid mask b c led a d=some p):p.1.led=led/\p.1.plain=a:=by
 unfold SetTable.laid at h;cases e:SetTable.layClean mask d with
 |none=>rw[e]at h;cases h
 |some ow=>rw[e]at h;cases h;exact⟨rfl,rfl⟩
theorem tY(t:SetTable)(es:Array (Int×Value))(n:Nat)(a:t.plain=false):(relayAll t es n).2.1.led=t.led/\(relayAll t es n).2.1.plain=false:=by
 unfold relayAll;split
 .next t' order hr=>
  have q:=nX (p:=(t',order)) hr;dsimp only at q ⊢;split
  .exact⟨q.1,q.2.trans a⟩
  .exact⟨rfl,rfl⟩
 .exact⟨rfl,rfl⟩
noncomputable def C0(w:World):Bool:=w.params.followText "set-order"
def BI(prog:Program)(w:World)(h:Heap)(a:Addr)(S:Str->Bool)(n:Nat):Prop:=
 ∃o es ep t,h.get? a=some o/\o.ExactSet/\o.data=.set es ep t/\ElemsOf (PySem.strKind prog w) es.toList/\(∀k,S k=true↔∃e∈es.toList,(PySem.strKind prog w).is k e.2=true)/\
  es.size<scanBound/\t.fits es.size=true/\es.size=n/\(t.led=!C0 w)/\(0<es.size->t.plain=false)
theorem BI.keep{h:Heap}{S:Str->Bool}(x:BI prog w h a S n)(k:∀o,h.get? a=some o->h'.get? a=some o):BI prog w h' a S n:=by
 obtain⟨o,es,ep,t,ho,r⟩:=x;exact⟨o,es,ep,t,k o ho,r⟩
theorem BI.congr{h:Heap}{S S':Str->Bool}{b:Nat}(x:BI prog w h a S n)(e:∀k,S k=S' k)(m:n=b):BI prog w h a S' b:=by
 obtain⟨o,es,ep,t,h1,h2,l,j,i,g,f,d,c⟩:=x;exact⟨o,es,ep,t,h1,h2,l,j,λk=>by rw[<- e k];exact i k,g,f,d.trans m,c⟩
theorem Kr{h:Heap}(ho:h.get? a=some o)(hd:o.data=.set es ep t)(Bv:Array (Int×Value))(t':SetTable):
  (h.update a (Obj.putSet Bv t')).get? a=some { o with data:=.set Bv (ep+1) t' }:=by
 have q:=ED (Obj.putSet Bv t') ho (by rw[putSet_of Bv t' hd];rfl);rw[q,putSet_of Bv t' hd]
theorem BI.put{S:Str->Bool}{k:Str}{tk:Tok}{Q:Bool->Shared->Prop}(hS:BI prog w s.heap a S n)(Mp:n+1<scanBound)
  (h:∀h',Heap.SameBut a s.heap h'->BI prog w h' a (λd=>S d || decide (d=k)) (if S k then n else n+1)->Q (!S k) { s with heap:=h' }) :
  wpAny (model prog w) A (setAddHashed a (.str k tk) ((PySem.strKind prog w).hash k)) Q E s:=by
 obtain⟨o,es,ep,t,ho,g,hd,Ca,Cm,J,u,hn,Dq,BE⟩:=hS;have C:(PySem.strKind prog w).is k (.str k tk)=true:=YV prog w k tk;have B:(Value.str k tk).scannable=true:=rfl;have rm:es.size+1<scanBound:=by rw[hn];exact Mp
 have K:∀(b:Bool)(s1:Shared)(Q1:Unit->Shared->Prop),Q1 () s1->wpAny (model prog w) A (match b with|true=>rule "set.scan.the-table-gave-way" |false=>pure ()) Q1 E s1:=by
  intro b s1 Q1 q;cases b
  .exact kA q
  .exact ZA8 q
 unfold setAddHashed setAddHashedIn;refine oK ?_;refine jW (mn ho hd u ?_);dsimp only;rw[byScan_of B J Ca];simp only[↓reduceIte];unfold setAddByScan;refine jW ?_;refine jW (ZA8 ?_);refine jW (wpAny_setScan_of C ho hd u Ca ?_);cases I:List.findIdx? (λe=>(PySem.strKind prog w).is k e.2) es.toList with
 |some j=>
  dsimp only;obtain⟨σ,PD,_⟩:=List.findIdx?_eq_some_iff_getElem.mp I;have i:S k=true:=(Cm k).mpr ⟨es.toList[j],Hw σ,PD⟩;refine kA ?_;refine kA ?_;have q:=h s.heap (RL a s.heap) ⟨o,es,ep,t,ho,g,hd,Ca,λd=>by
   rw[<- Cm d,Bool.or_eq_true,m9];exact⟨λz=>z.elim id λe=>e▸i,Or.inl⟩,J,u,by rw[lO i];exact hn,Dq,BE⟩
  rw[i]at q;exact q
 |none=>
  dsimp only;have i:S k=false:=by
   cases e:S k with
   |false=>rfl
   |true=>
    obtain⟨x,hx,Y⟩:=(Cm k).mp e;have q:=List.findIdx?_eq_none_iff.mp I x hx;rw[Y]at q;exact Bool.noConfusion q
  have p1:=layNew_perm t es ((PySem.strKind prog w).hash k) (.str k tk);have f1:=layNew_fits t es ((PySem.strKind prog w).hash k) (.str k tk);have l1:=lB t es ((PySem.strKind prog w).hash k) (.str k tk);generalize layNew t es ((PySem.strKind prog w).hash k) (.str k tk)=L at p1 f1 l1 ⊢;obtain⟨CZ,H,R,gv⟩:=L;dsimp only at p1 f1 l1 ⊢;rw[ZCf]at p1;have V:ElemsOf (PySem.strKind prog w) CZ.toList:=(Ca.push C B).perm p1;have W:∀d,(S d || decide (d=k))=true↔∃e∈CZ.toList,(PySem.strKind prog w).is d e.2=true:=mem_push_iff C Cm p1;have F:CZ.size=n+1:=by rw[<- EC,p1.length_eq,Bh,EC,hn];rfl
  have N:CZ.size<scanBound:=by rw[F];exact Mp
  have fin:∀(h':Heap)(o':Obj)(Bv:Array (Int×Value))(J4:Nat)(t':SetTable),Heap.SameBut a s.heap h'->h'.get? a=some o'->o'.ExactSet->o'.data=.set Bv J4 t'->Bv.toList.Perm CZ.toList->t'.fits Bv.size=true->t'.led=t.led->t'.plain=false->
    Q true { s with heap:=h' }:=by
   intro h' o' Bv J4 t' T go xo d' l ff X U;have D:Bv.size=n+1:=by rw[<- F,<- EC,l.length_eq,EC]
   have q:=h h' T ⟨o',Bv,J4,t',go,xo,d',V.perm l,λd=>(W d).trans ⟨λ⟨e,v,q⟩=>⟨e,l.mem_iff.mpr v,q⟩,λ⟨e,v,q⟩=>⟨e,l.mem_iff.mp v,q⟩⟩,by rw[D];exact Mp,ff,by rw[i];exact D,X.trans Dq,λ_=>U⟩;rw[i]at q;exact q
  have f:∀(c:SetTable),c.fits CZ.size=true->c.led=t.led->c.plain=false->wpAny (model prog w) A (do
    storeSet a CZ c
    if(
      !R && c.tooFull)=true then do
      (match(relayAll c CZ (SetTable.grown CZ.size)).2.2 with|true=>rule "set.scan.the-table-gave-way" |false=>pure ())
      storeSet a (relayAll c CZ (SetTable.grown CZ.size)).1 (relayAll c CZ (SetTable.grown CZ.size)).2.1
      pure (some true)
     else pure (some true)) (λr s'=>match r with|some b=>Q b s'|none=>False) E s:=by
   intro c f2 l2 M;refine jW (uO ho hd ?_ (ue N));have p:=Kr ho hd CZ c;have O:=HK s.heap a (Obj.putSet CZ c);split
   .have p3:=relayAll_perm c CZ (SetTable.grown CZ.size);have y:=relayAll_fits c CZ (SetTable.grown CZ.size);have m:=tY c CZ (SetTable.grown CZ.size) M;generalize relayAll c CZ (SetTable.grown CZ.size)=Rl at p3 y m ⊢;obtain⟨JS,G,g3⟩:=Rl;dsimp only at p3 y m ⊢;have P:JS.size=CZ.size:=by rw[<- EC,p3.length_eq,EC]
    refine jW (K _ _ _ ?_);refine jW (uO p rfl ?_ (ue (by rw[P];exact N)));refine kA ?_;exact fin _ _ JS _ G (O.trans (HK _ a _)) (Kr p rfl JS G) g rfl p3 y (m.1.trans l2) m.2
   .exact kA (fin _ _ CZ _ c O p g rfl (Ig _) f2 l2 M)
  refine jW (K _ _ _ ?_);split
  .next bo=>
   refine jW ?_;rw[hashByValue_scannable 8 B];refine kA ?_;refine nY (f { H with plain:=false } (SetTable.fits_plain_off f1) l1 rfl) (λr s' q=>?_) λ_ _ e=>e
   cases r with
   |none=>exact q.elim
   |some b=>exact kA q
  .next bo=>
   refine jW (kA ?_);simp only[↓reduceIte];refine nY (f H f1 l1 (by simpa using bo)) (λr s' q=>?_) λ_ _ e=>e
   cases r with
   |none=>exact q.elim
   |some b=>exact kA q
theorem WW{α:Type}:∀(l:List α)(i:Nat)(h:i<l.length),(l[i]::l.eraseIdx i).Perm l
 |_::_,0,_=>Ig _
 |x::r,i+1,h=>(List.Perm.swap x (r[i]'(by simpa using h)) (r.eraseIdx i)).trans ((WW r i (by simpa using h)).cons x)
theorem ZBS(nx:Nat->Nat):∀(n k:Nat)(l:List α)(out:Array α),l.length=n->(pickOrder.go nx n k l out).toList.Perm (out.toList++l):=by
 intro n
 induction n with
 |zero=>
  intro k l out b;rw[List.length_eq_zero_iff.mp b];unfold pickOrder.go;simp
 |succ n c=>
  intro k l out b;have a:nx k % l.length<l.length:=YM _ (by omega);unfold pickOrder.go;rw[Bb a];dsimp only;refine(c _ _ _ (by rw[ZCt a];omega)).trans ?_;rw[ZCf,MO];exact List.Perm.append_left _ (WW l _ a)
theorem PM(nx:Nat->Nat)(xs:Array α):(pickOrder nx xs).toList.Perm xs.toList:=by
 have q:=ZBS nx xs.size 0 xs.toList #[] (by simp)
 simpa[pickOrder]using q
theorem ZAY{a:Source}{Q:Nat->Shared->Prop}(hn:n≠0)(h:∀k d,k<n->Q k { s with drawn:=d }):wpAny (model prog w) A (choose a n) Q E s:=by
 intro Γ p hΓ;show Sem.wp _ _ (.choose a n .pure) _ _ _ _;rw[Sem.wp_choose];refine⟨hn,?_⟩;rw[Sem.wp_pure];exact h _ _ (YM _ (Nat.pos_of_ne_zero hn))
theorem rG:∀(n:Nat)(xs:List α)(s:Shared)(Q:List α->Shared->Prop),xs.length<=n->(∀ys d,ys.Perm xs->Q ys { s with drawn:=d })->wpAny (model prog w) A (drawOrder n xs) Q E s:=by
 intro n
 induction n with
 |zero=>
  intro xs s Q a h;rw[List.length_eq_zero_iff.mp (Nat.le_zero.mp a)]at h ⊢;exact kA (h [] s.drawn (Ig _))
 |succ n c=>
  intro xs s Q a h;cases xs with
  |nil=>exact kA (h [] s.drawn (Ig _))
  |cons x r=>
   unfold drawOrder;refine jW (ZAY (by simp) λk d b=>?_);rw[Bb b];dsimp only;refine jW (c _ _ _ (by rw[ZCt b];simp only[C5]at a ⊢;omega) λys d' e=>?_);exact kA (h _ d' ((e.cons _).trans (WW (x::r) _ b)))
theorem jN{Q:Bool->Shared->Prop}(ho:s.heap.get? a=some o)(hd:o.data=.set es ep t)(b:t.fits es.size=true)
  (h:Q (!C0 w && (!t.plain && decide (es.size > 1))) s):wpAny (model prog w) A (setDrawn a) Q E s:=by
 unfold setDrawn;refine jW (mn ho hd b ?_);dsimp only;unfold setsByText;refine jW (jW (rL (kA ?_)));exact kA h
theorem ZF{Q:Option (Value×Nat)->Shared->Prop}(d:C0 w=true)(ho:s.heap.get? a=some o)(hd:o.data=.set es ep t)(b:t.fits es.size=true)
  (h:Q (((pickOrder (w.params.setOrder a ep) es)[i]?).map λe=>(e.2,sl)) s):wpAny (model prog w) A (setNext a sl i ep) Q E s:=by
 have c:w.params.followText "set-order"=true:=d;unfold setNext;refine jW (mn ho hd b ?_);dsimp only;unfold setsByText;refine jW (jW (rL (kA ?_)));show wpAny _ _ (if w.params.followText "set-order"=true then _ else _) _ _ _
 rw[lO c,lA (by simp)];refine jW ?_;unfold setWalk setsByText;refine jW (mn ho hd b ?_);dsimp only;refine jW (jW (rL (kA ?_)));show wpAny _ _ (if w.params.followText "set-order"=true then _ else _) _ _ _
 rw[lO c];exact jW (rL (kA (kA h)))
theorem Zg{Q:Option (Value×Nat)->Shared->Prop}(d:C0 w=false)(ho:s.heap.get? a=some o)(hd:o.data=.set es ep t)(c:t.fits es.size=true)
  (h1:es.size<=1) (b:t.led=true)
  (h:Q (match es[SetTable.below t.place sl]?,t.place[SetTable.below t.place sl]? with|some (_,x),some j=>some (x,j+1)|_,_=>none) s):wpAny (model prog w) A (setNext a sl i ep) Q E s:=by
 have e:w.params.followText "set-order"=false:=d;unfold setNext;refine jW (mn ho hd c ?_);dsimp only;unfold setsByText;refine jW (jW (rL (kA ?_)));show wpAny _ _ (if w.params.followText "set-order"=true then _ else _) _ _ _
 rw[lA (by rw[e];decide)];show wpAny _ _ (if(!t.plain && decide (es.size > 1))=true then _ else _) _ _ _
 rw[lA (by rw[mB (by omega)];simp)];refine jW (m:=_) ?_
 wp_delta
 rw[b];exact kA (kA h)
theorem ZAm{Q:Value->Shared->Prop}(ho:s.heap.get? a=some o)(hd:o.data=.set es ep t)(b:t.fits es.size=true)(c:es[pl]?=some e)
  (h:Q e.2 s):wpAny (model prog w) A (setNextDrawn a pl ep) Q E s:=by
 unfold setNextDrawn;refine jW (mn ho hd b ?_);dsimp only;rw[lA (by simp),c];exact kA h
theorem aQ:Manifest.owners.lookup (String.ofList ['r','o','t','a','r','e','t','i','_','t','e','s'].reverse)=some Manifest.sig_set_iterator:=by kernel_rfl
theorem HA:Slot "set_iterator" "__next__" "set_iterator.__next__" :=
 .of (owner:="set_iterator") (n:="__next__") (by rw[qd,mX];kernel_rfl) (by decide +kernel) (by decide +kernel) (by decide +kernel)
  (by first|exact .inl (by decide +kernel)|exact .inr (by decide +kernel)) (by rw[pO];kernel_rfl)
theorem QB:entryFor table "set_iterator.__next__"=some Builtin.«set_iterator.__next__»:=ZBQ (by kernel_rfl)
theorem Qo(a:Value):argsOk "set_iterator.__next__" ⟨[a],[]⟩:=by
 unfold argsOk;rw[ZAo (id:="set_iterator.__next__") (n:=['_','_','t','x','e','n','_','_']) (o:=['r','o','t','a','r','e','t','i','_','t','e','s']) (by kernel_rfl) aQ];kernel_rfl
theorem cC:Slot "set_iterator" "__iter__" "set_iterator.__iter__" :=
 .of (owner:="set_iterator") (n:="__iter__") (by rw[qd,mX];kernel_rfl) (by decide +kernel) (by decide +kernel) (by decide +kernel)
  (by first|exact .inl (by decide +kernel)|exact .inr (by decide +kernel)) (by rw[pO];kernel_rfl)
theorem yr(a:Value):argsOk "set_iterator.__iter__" ⟨[a],[]⟩:=by
 unfold argsOk;rw[ZAo (id:="set_iterator.__iter__") (n:=['_','_','r','e','t','i','_','_']) (o:=['r','o','t','a','r','e','t','i','_','t','e','s']) (by kernel_rfl) aQ];kernel_rfl
theorem oA:entryFor table "set_iterator.__iter__"=some Builtin.«dict_keyiterator.__iter__»:=
 ZB8 (id' := "dict_keyiterator.__iter__") (by kernel_rfl) (by first|rfl|decide +kernel|(unfold String.splitOn;simp +decide [String.splitOnAux])) (by decide +kernel) (by kernel_rfl)
theorem rK:entryFor table "set.__iter__"=some Builtin.«frozenset.__iter__»:=
 ZB8 (id' := "frozenset.__iter__") (by kernel_rfl) (by first|rfl|decide +kernel|(unfold String.splitOn;simp +decide [String.splitOnAux])) (by decide +kernel) (by kernel_rfl)
noncomputable def ID(f:Value)(i:Nat)(S:Addr)(n ep:Nat):Array Value:=#[f,rawInt (i:Int),.ref S,rawInt (n:Int),rawInt (ep:Int)]
def Ez(h:Heap)(I:Addr)(f:Value)(i:Nat)(S:Addr)(n ep:Nat):Prop:=∃o,h.get? I=some o/\o.cls=.type "set_iterator" /\ o.data=.fields (ID f i S n ep)
theorem Ez.typeIs(x:Ez s.heap I f i S n ep):s.TypeIs (.ref I) "set_iterator" := let ⟨o,ho,hc,_⟩:=x;⟨o,ho,hc⟩
theorem Ez.at{h:Heap}(x:Ez h I f i S n ep)(e:∀o,h.get? I=some o->h'.get? I=some o):Ez h' I f i S n ep:=let ⟨o,ho,r⟩:=x;⟨o,e _ ho,r⟩
theorem fX{Q:α->Shared->Prop}{F:Value->Shared->Prop}(hh:A.handled=none)
  (c:∀e h',(∀b o,s.heap.get? b=some o->h'.get? b=some o)->(Shared.TypeIs { s with heap:=h' } e "StopIteration")->F e { s with heap:=h' }) :
  wpAny (model prog w) A (newExc (.type "StopIteration") [] >>= λe=>raiseNew e) Q F s:=by
 refine jW ?_;simp only[newExc,newTuple];refine jW (nU ?_ (by size_fits));refine jW (m:=firstArgMember _ _) (oV (a:=Value.none) (by first|rfl|(simp only[firstArgMember];rfl)) ?_)
 refine nU ?_ (by size_fits);simp only[raiseNew];refine jW (wpAny_handled ?_);rw[hh];refine jW (kA (wpAny_throw ?_));exact c _ _ (λb o e=>BC _ (BC _ e)) ⟨_,BR _ rfl,rfl⟩
theorem eL{nx:Nat}(b:Ez s.heap it (rawInt (sl:Int)) i S n ep)
  (ho:s.heap.get? S=some o) (hd:o.data=.set es ep t) (e:t.fits es.size=true) (hn:es.size=n)
  (Xn:∀(A1:Around)(E1:Value->Shared->Prop)(Q1:Option (Value×Nat)->Shared->Prop),Q1 (some (x,nx)) s->wpAny (model prog w) A1 (setNext S sl i ep) Q1 E1 s)
  (g:∀h',Ez h' it (rawInt (nx:Int)) (i+1) S n ep->Heap.SameBut it s.heap h'->Q (some x) { s with heap:=h' }):wpAny (model prog w) A (pyNext (.ref it)) Q E s:=by
 obtain⟨h,FP,f,E9⟩:=id b;subst hn;unfold pyNext;refine jW (u4 (pW (name:=Str.ofString "__next__") b.typeIs HA
  (pH HA b.typeIs QB ?_ (Qo _))))
 unfold Builtin.«set_iterator.__next__»;refine jW (oV (a:=(Value.ref it,[])) rfl ?_)
 try dsimp only
 refine jW (ZB7 FP E9 ?_);show wpAny _ _ (setEntries S >>= _) _ _ s;refine jW (xA ho hd e ?_);rw[lA (by simp)];show wpAny _ _ (setNext S sl i ep >>= _) _ _ s;refine jW (Xn _ _ _ ?_);dsimp only;refine jW (rH FP E9 (by simp[ID]) ?_);have d:=ED (λob=>Obj.mapFields (·.setIfInBounds 0 (rawInt (nx:Int))) ob) FP (L9 (Fd E9 _))
 have c:=Fd E9 (·.setIfInBounds 0 (rawInt (nx:Int)))
 refine jW (rH (s:={ s with heap:=_ }) d c (by simp[ID]) ?_)
 refine kA ⟨x,rfl,kA (g _ ⟨_,ED _ d (L9 (Fd c _)),?_,?_⟩ ((HK ..).trans (HK ..)))⟩
 .exact(RX ..).trans ((RX ..).trans f)
 .rw[Fd c];simp[ID]
theorem Zj(hh:A.handled=none)(c:Ez s.heap it (rawInt (sl:Int)) i S n ep)
  (ho:s.heap.get? S=some o) (hd:o.data=.set es ep t) (d:t.fits es.size=true) (hn:es.size=n)
  (Xn:∀(A1:Around)(E1:Value->Shared->Prop)(Q1:Option (Value×Nat)->Shared->Prop),Q1 none s->wpAny (model prog w) A1 (setNext S sl i ep) Q1 E1 s)
  (h:∀h',Heap.ExtBut it s.heap h'->Q none { s with heap:=h' }):wpAny (model prog w) A (pyNext (.ref it)) Q E s:=by
 obtain⟨j,FP,l,E9⟩:=id c;subst hn;unfold pyNext;refine jW (u4 (pW (name:=Str.ofString "__next__") c.typeIs HA
  (pH HA c.typeIs QB ?_ (Qo _))))
 unfold Builtin.«set_iterator.__next__»;refine jW (oV (a:=(Value.ref it,[])) rfl ?_)
 try dsimp only
 refine jW (ZB7 FP E9 ?_);show wpAny _ _ (setEntries S >>= _) _ _ s;refine jW (xA ho hd d ?_);rw[lA (by simp)];show wpAny _ _ (setNext S sl i ep >>= _) _ _ s;refine jW (Xn _ _ _ ?_);dsimp only;refine jW (rH FP E9 (by simp[ID]) ?_);refine fX (A:=A.in1) hh λe h' k g=>?_;refine jW (sT (T:="StopIteration") (b:=true) g ZBk ?_);refine kA (h _ (λb ob f e=>?_));exact k b ob ((DE _ _ (BJ f)).trans e)
theorem zT{T:Addr}(b:Ez s.heap it (.ref T) i S n ep)
  (ho:s.heap.get? S=some o) (hd:o.data=.set es ep t) (c:t.fits es.size=true) (hn:es.size=n) (h:s.heap.get? T=some oT) (Ei:oT.data=.seq ps nT) (d:ps[i]?=some (rawInt (pl:Int))) (f:es[pl]?=some e)
  (j:∀h',Ez h' it (.ref T) (i+1) S n ep->Heap.SameBut it s.heap h'->Q (some e.2) { s with heap:=h' }):wpAny (model prog w) A (pyNext (.ref it)) Q E s:=by
 obtain⟨k,FP,g,E9⟩:=id b;subst hn;unfold pyNext;refine jW (u4 (pW (name:=Str.ofString "__next__") b.typeIs HA
  (pH HA b.typeIs QB ?_ (Qo _))))
 unfold Builtin.«set_iterator.__next__»;refine jW (oV (a:=(Value.ref it,[])) rfl ?_)
 try dsimp only
 refine jW (ZB7 FP E9 ?_);show wpAny _ _ (setEntries S >>= _) _ _ s;refine jW (xA ho hd c ?_);rw[lA (by simp)];show wpAny _ _ (seqItems? (.ref T) >>= _) _ _ s;refine jW ?_;unfold seqItems?;refine jW (ZBY h ?_);rw[Ei];refine kA ?_;show wpAny _ _ (match ps[i]? with|some (.int place _)=>_|some _=>_|none=>_) _ _ s
 rw[d];show wpAny _ _ (setNextDrawn S pl ep >>= _) _ _ s;refine jW (ZAm ho hd c f ?_);refine jW (rH FP E9 (by simp[ID]) ?_);refine kA ⟨e.2,rfl,kA (j _ ⟨_,ED _ FP (L9 (Fd E9 _)),?_,?_⟩ (HK ..))⟩
 .exact(RX ..).trans g
 .rw[Fd E9];simp[ID]
theorem sj{T:Addr}(hh:A.handled=none)(c:Ez s.heap it (.ref T) i S n ep)
  (ho:s.heap.get? S=some o) (hd:o.data=.set es ep t) (j:t.fits es.size=true) (hn:es.size=n) (d:s.heap.get? T=some oT) (Ei:oT.data=.seq ps nT) (h:ps[i]?=none)
  (l:∀h',Heap.ExtBut it s.heap h'->Q none { s with heap:=h' }):wpAny (model prog w) A (pyNext (.ref it)) Q E s:=by
 obtain⟨p,FP,q,E9⟩:=id c;subst hn;unfold pyNext;refine jW (u4 (pW (name:=Str.ofString "__next__") c.typeIs HA
  (pH HA c.typeIs QB ?_ (Qo _))))
 unfold Builtin.«set_iterator.__next__»;refine jW (oV (a:=(Value.ref it,[])) rfl ?_)
 try dsimp only
 refine jW (ZB7 FP E9 ?_);show wpAny _ _ (setEntries S >>= _) _ _ s;refine jW (xA ho hd j ?_);rw[lA (by simp)];show wpAny _ _ (seqItems? (.ref T) >>= _) _ _ s;refine jW ?_;unfold seqItems?;refine jW (ZBY d ?_);rw[Ei];refine kA ?_;show wpAny _ _ (match ps[i]? with|some (.int place _)=>_|some _=>_|none=>_) _ _ s
 rw[h];dsimp only;refine jW (rH FP E9 (by simp[ID]) ?_);have g:=ED (λob=>Obj.mapFields (·.setIfInBounds 0 (rawInt 0)) ob) FP (L9 (Fd E9 _))
 have m:=Fd E9 (·.setIfInBounds 0 (rawInt 0))
 refine jW (rH (s:={ s with heap:=_ }) g m (by simp[ID]) ?_)
 refine fX (A:=A.in1) hh λe h' k d=>?_;refine jW (sT (T:="StopIteration") (b:=true) d ZBk ?_);refine kA (l _ (λb ob f e=>?_));exact k b ob ((DE _ _ (BJ f)).trans ((DE _ _ (BJ f)).trans e))
theorem Tw{Q:Value->Shared->Prop}(a:Ez s.heap it f i S n ep)(h:Q (.ref it) s):wpAny (model prog w) A (pyIter (.ref it)) Q E s:=by
 refine ZBJ a.typeIs cC (pH cC a.typeIs oA ?_ (yr _));show wpAny _ _ (ret (.ref it)) _ _ s;exact kA ⟨_,rfl, "set_iterator", _,a.typeIs,HA.lookup,h⟩
theorem qV(a:C0 w=true)(hh:A.handled=none)(I S:Addr)(AU:S≠I)(hd:o.data=.set es ep t)(d:t.fits es.size=true):
  Walks prog w A I [I,S] [I] es.size (λi v=>((pickOrder (w.params.setOrder S ep) es).toList.map (·.2))[i]?=some v) (λi h=>Ez h I (rawInt ((0:Nat):Int)) i S es.size ep/\h.get? S=some o) where
 sub:=λb a=>by simp at a;simp[a]
 frame:=λ_ _ _ x j=>⟨x.1.at λo e=>j I (by simp) o e,j S (by simp) _ x.2⟩
 item:=λi s Q E hi x c=>by
  have l:(pickOrder (w.params.setOrder S ep) es).size=es.size:=by
   have q:=(PM (w.params.setOrder S ep) es).length_eq
   simpa using q
  have k:i<(pickOrder (w.params.setOrder S ep) es).size:=by omega
  refine eL (x:=((pickOrder (w.params.setOrder S ep) es)[i]).2) (nx:=0) x.1 x.2 hd d rfl (λA1 E1 Q1 q=>ZF a x.2 hd d (by rw[Kx k];exact q)) λh' Im g=>?_;exact c _ h' s.toks (by rw[Bp,OJ,Kx k];rfl) ⟨Im,g.extBut S o AU x.2⟩ λb ob a f=>g.extBut b ob (λh=>a (by simp[h])) f
 done:=λs Q E x c=>by
  have l:(pickOrder (w.params.setOrder S ep) es).size=es.size:=by
   have q:=(PM (w.params.setOrder S ep) es).length_eq
   simpa using q
  refine Zj hh x.1 x.2 hd d rfl (λA1 E1 Q1 q=>ZF a x.2 hd d (by rw[iK (by omega)];exact q)) λh' m=>?_;exact c h' s.toks λb ob a f=>m b ob (λh=>a (by simp[h])) f
 self:=λ_ _ _ _ x c=>Tw x.1 c
theorem Xe:∀(a:Array α),a.size=1->∃x,a=#[x]
 | ⟨[x]⟩,_=>⟨x,rfl⟩
 | ⟨[]⟩,h=>by simp at h
 | ⟨_::_::_⟩,h=>by simp at h
theorem vd(p:Nat):SetTable.below #[p] 0=0:=by simp[SetTable.below,SetTable.below.go]
theorem below_1(p:Nat):SetTable.below #[p] (p+1)=1:=by simp[SetTable.below,SetTable.below.go]
theorem UJ(h:t.fits n=true):t.place.size=n:=by
 simp only[SetTable.fits,CG,yd]at h;exact h.1
theorem ZAh(a:C0 w=false)(hh:A.handled=none)(I S:Addr)(AU:S≠I)(hd:o.data=.set es ep t)(c:t.fits es.size=true)(h1:es.size<=1)(n:t.led=true):
  Walks prog w A I [I,S] [I] es.size (λi v=>(es.toList.map (·.2))[i]?=some v) (λi h=>Ez h I (rawInt (((if i=0 then 0 else t.place.getD 0 0+1:Nat)):Int)) i S es.size ep/\h.get? S=some o) where
 sub:=λb a=>by simp at a;simp[a]
 frame:=λ_ _ _ x r=>⟨x.1.at λo e=>r I (by simp) o e,r S (by simp) _ x.2⟩
 item:=λi s Q E hi x d=>by
  obtain rfl:i=0:=by omega
  have z:es.size=1:=by omega
  have g:t.place.size=1:=(UJ c).trans z;obtain⟨e,rfl⟩:=Xe es z;obtain⟨p,f⟩:=Xe t.place g;have k:=x.1;refine eL (x:=e.2) (nx:=p+1) k x.2 hd c rfl (λA1 E1 Q1 q=>Zg a x.2 hd c h1 n (by rw[f,lO rfl,vd];exact q)) λh' Im m=>?_;refine d _ h' s.toks rfl ⟨?_,m.extBut S o AU x.2⟩ λb ob a l=>m.extBut b ob (λh=>a (by simp[h])) l;rw[lA (by omega),f];exact Im
 done:=λs Q E x d=>by
  refine Zj hh x.1 x.2 hd c rfl (λA1 E1 Q1 q=>Zg a x.2 hd c h1 n ?_) λh' y=>?_
  .by_cases z:es.size=0
   .rw[iK (by omega)];exact q
   .have u:es.size=1:=by omega
    have g:t.place.size=1:=(UJ c).trans u;obtain⟨p,f⟩:=Xe t.place g;rw[lA z,f];show Q1 (match es[SetTable.below #[p] (p+1)]?,(#[p]:Array Nat)[SetTable.below #[p] (p+1)]? with|some (_,x),some j=>some (x,j+1)|_,_=>none) s
    rw[below_1,iK (by omega)];exact q
  .exact d h' s.toks λb ob a l=>y b ob (λh=>a (by simp[h])) l
 self:=λ_ _ _ _ x d=>Tw x.1 d
theorem uT(hh:A.handled=none)(I S T:Addr)(AU:S≠I)(r:T≠I)(hd:o.data=.set es ep t)(l:t.fits es.size=true){ps:List Nat}(f:ps.Perm (List.range es.size))(n:oT.data=.seq (ps.map λi:Nat=>rawInt i).toArray nT):
  Walks prog w A I [I,S,T] [I] es.size (λi v=>(ps.map λp=>(es[p]?.map (·.2)).getD .none)[i]?=some v) (λi h=>Ez h I (.ref T) i S es.size ep/\h.get? S=some o/\h.get? T=some oT) where
 sub:=λb a=>by simp at a;simp[a]
 frame:=λ_ _ _ x g=>⟨x.1.at λo e=>g I (by simp) o e,g S (by simp) _ x.2.1,g T (by simp) _ x.2.2⟩
 item:=λi s Q E hi x c=>by
  have y:ps.length=es.size:=by have q:=f.length_eq;simpa using q
  have k:i<ps.length:=by omega
  have u:ps[i]<es.size:=by
   have q:=f.mem_iff.mp (Hw k)
   simpa using q
  have m:es[ps[i]]?=some es[ps[i]]:=Kx u;refine zT (pl:=ps[i]) (e:=es[ps[i]]) x.1 x.2.1 hd l rfl x.2.2 n (by rw[ZCs,Bp,Bb k];rfl) m λh' Im d=>?_;exact c _ h' s.toks (by rw[Bp,Bb k];simp only[RY,m,ZD8]) ⟨Im,d.extBut S o AU x.2.1,d.extBut T oT r x.2.2⟩ λb ob a j=>d.extBut b ob (λh=>a (by simp[h])) j
 done:=λs Q E x c=>by
  have y:ps.length=es.size:=by have q:=f.length_eq;simpa using q
  refine sj hh x.1 x.2.1 hd l rfl x.2.2 n (by rw[ZCs,Bp,MQ (by omega)];rfl) λh' z=>?_;exact c h' s.toks λb ob a j=>z b ob (λh=>a (by simp[h])) j
 self:=λ_ _ _ _ x c=>Tw x.1 c
theorem tI(es:Array (Int×Value)):(List.range es.size).map (λp=>(es[p]?.map (·.2)).getD Value.none)=es.toList.map (·.2):=by
 refine iR (by simp) λi h1 h2=>?_;have hi:i<es.size:=by simpa using h1
 simp[Kx hi]
theorem mK{l:List (Int×Value)}(h:ElemsOf (PySem.strKind prog w) l):∃a,StrsAre (l.map (·.2)) a/\∀k,k∈a↔∃e∈l,(PySem.strKind prog w).is k e.2=true:=by
 induction l with
 |nil=>exact⟨[],.nil,λk=>by simp⟩
 |cons e r d=>
  obtain⟨a,h1,h2⟩:=d h.tail;obtain⟨⟨k,b,_⟩,_⟩:=h.head;obtain⟨tk,f⟩:=MX b;refine⟨k::a,?_,λc=>?_⟩
  .rw[G8,f];exact .cons k tk h1
  .rw[Dg,h2 c];constructor
   .rintro(rfl|⟨x,hx,q⟩)
    .exact⟨e,Bc,b⟩
    .exact⟨x,By _ hx,q⟩
   .rintro⟨x,hx,q⟩;rcases List.mem_cons.mp hx with rfl|hx
    .exact .inl ((PySem.strKind prog w).inj x.2 c k q b)
    .exact .inr ⟨x,hx,q⟩
theorem StrsAre.len:∀{vs:List Value}{ss:List Str},StrsAre vs ss->vs.length=ss.length
 |_,_,.nil=>rfl
 |_,_,.cons _ _ h=>by rw[C5,C5,StrsAre.len h]
theorem StrsAre.perm{FQ:List Value}(h:StrsAre vs ss)(p:FQ.Perm vs):∃AK,StrsAre FQ AK/\AK.Perm ss:=by
 refine⟨FQ.map strOf,strsAre_map FQ λv a=>h.all v (p.mem_iff.mp a),?_⟩;rw[<- h.strs];exact p.map strOf
section
theorem pF{f:Str->Bool}{Q:Value->Shared->Prop}(L:BI prog w s.heap S f n)
  (h:∀(I:Addr)(h1:Heap)(d:_)(fp:List Addr)(vs:List Value)(l:List Str)(St:Nat->Heap->Prop),(∀A2:Around,A2.handled=none->Walks prog w A2 I fp [I] n (λi v=>vs[i]?=some v) St)->St 0 h1->(∀b∈fp,b=S∨s.heap.objs.size<=b/\b<h1.objs.size)->s.heap.objs.size<=I->s.heap.objs.size<=h1.objs.size->
   (∀b o,s.heap.get? b=some o->h1.get? b=some o)->StrsAre vs l->l.length=n->(∀k,f k=true↔k∈l)->Q (.ref I) { s with heap:=h1,drawn:=d }):wpAny (model prog w) A (pyIter (.ref S)) Q E s:=by
 obtain⟨o,es,ep,t,ho,u,hd,Ca,Cm,K,c,hn,Dq,BE⟩:=L;subst hn;have C:s.TypeIs (.ref S) "set" := ⟨o,ho,u.1⟩;have x:S<s.heap.objs.size:=B7 ho;obtain⟨G,y,H⟩:=mK Ca;have fin:∀(I:Addr)(h1:Heap)(d:_)(fp:List Addr)(vs:List Value)(St:Nat->Heap->Prop),(∀A2:Around,A2.handled=none->Walks prog w A2 I fp [I] es.size (λi v=>vs[i]?=some v) St)->St 0 h1->(∀b∈fp,b=S∨s.heap.objs.size<=b/\b<h1.objs.size)->s.heap.objs.size<=I->s.heap.objs.size<=h1.objs.size->
   (∀b o,s.heap.get? b=some o->h1.get? b=some o)->vs.Perm (es.toList.map (·.2))->Q (.ref I) { s with heap:=h1,drawn:=d }:=by
  intro I h1 d fp vs St U T R P O N M;obtain⟨l,J,B⟩:=StrsAre.perm y M;refine h I h1 d fp vs l St U T R P O N J ?_ λk=>?_
  .rw[B.length_eq,<- StrsAre.len y];simp
  .rw[Cm k,<- H k];exact B.mem_iff.symm
 refine ZBJ C F.slot_set_iter (pH F.slot_set_iter C rK ?_ (F.args_set_iter_1 _));unfold Builtin.«frozenset.__iter__»;refine jW (oV (a:=S) rfl ?_);refine jW ?_;unfold Builtin.Frozenset.sizeOf;refine jW (xA ho hd c (kA ?_));refine jW (jN ho hd c ?_)
 by_cases m:(!C0 w && (!t.plain && decide (es.size > 1)))=true
 .rw[lO m];refine jW ?_;refine rG es.size (List.range es.size) _ _ (by rw[RS];exact Az _) λps d r=>?_;have pz:(ps.map λi:Nat=>rawInt i).length<=sizeLine:=by rw[Aw,r.length_eq,RS];exact ue K
  refine jW (wpAny_newTuple ?_ pz);dsimp only;refine jW (ZA3 (s:={ s with heap:=_,drawn:=d }) (BC _ ho) hd c ?_)
  refine jW (nU ?_);have g:∀(q:Obj)(b:Addr)(ob:Obj),s.heap.get? b=some ob->((s.heap.push (seqObj "tuple" (ps.map λi:Nat=>rawInt i).toArray 0)).push q).get? b=some ob:=λq b ob e=>BC _ (BC _ e);have j:(s.heap.push (seqObj "tuple" (ps.map λi:Nat=>rawInt i).toArray 0)).objs.size=s.heap.objs.size+1:=EE ..;refine kA ⟨_,rfl, "set_iterator", _,⟨_,BR _ rfl,rfl⟩,HA.lookup,?_⟩;refine fin _ _ d [(s.heap.push (seqObj "tuple" (ps.map λi:Nat=>rawInt i).toArray 0)).objs.size,S,s.heap.objs.size] _ _ (λA2 hh=>uT hh _ S s.heap.objs.size (by rw[j];exact BY (Jn x)) (by rw[j];exact BY (ON _)) hd c r (oT:=seqObj "tuple" (ps.map λi:Nat=>rawInt i).toArray 0) rfl) ⟨⟨_,BR _ rfl,rfl,rfl⟩,g _ _ _ ho,BC _ (BR _ rfl)⟩ ?_ (by show s.heap.objs.size<=(s.heap.push (seqObj "tuple" (ps.map λi:Nat=>rawInt i).toArray 0)).objs.size;rw[j];exact EH _) ?_ (g _) ?_
  .intro b DQ;simp only[Dg,Cb,yk]at DQ;rw[EE,j];rcases DQ with rfl|rfl|rfl
   .right;rw[j];exact⟨EH _,ON _⟩
   .left;rfl
   .right;exact⟨Az _,Jn (ON _)⟩
  .rw[EE,j];exact iu (EH _)
  .rw[<- tI];exact r.map _
 .rw[lA m];refine jW (kA ?_);refine jW (ZA3 ho hd c ?_);refine jW (nU ?_);have g:∀(q:Obj)(b:Addr)(ob:Obj),s.heap.get? b=some ob->(s.heap.push q).get? b=some ob:=λq b ob e=>BC _ e;refine kA ⟨_,rfl, "set_iterator", _,⟨_,BR _ rfl,rfl⟩,HA.lookup,?_⟩;have D:∀(q:Obj),∀b∈[s.heap.objs.size,S],b=S∨s.heap.objs.size<=b/\b<(s.heap.push q).objs.size:=by
   intro q b DQ;simp only[Dg,Cb,yk]at DQ;rw[EE];rcases DQ with rfl|rfl
   .right;omega
   .left;rfl
  cases p:C0 w with
  |true=>
   refine fin _ _ s.drawn [s.heap.objs.size,S] _ _ (λA2 hh=>qV p hh _ S (BY x) hd c) ⟨⟨_,BR _ rfl,rfl,rfl⟩,g _ _ _ ho⟩ (D _) (Az _) (by rw[EE];omega) (g _) ?_;exact(PM _ _).map _
  |false=>
   have h1:es.size<=1:=by
    rw[p]at m
    by_cases z:es.size<=1
    .exact z
    .rw[BE (by omega),lD (by omega:es.size > 1)]at m;exact absurd rfl m
   refine fin _ _ s.drawn [s.heap.objs.size,S] _ _ (λA2 hh=>ZAh p hh _ S (BY x) hd c h1 (by rw[Dq,p];rfl)) ⟨⟨_,BR _ rfl,rfl,rfl⟩,g _ _ _ ho⟩ (D _) (Az _) (by rw[EE];omega) (g _) (Ig _)
theorem sQ:typeLookup (.type "set") "__len__"=pure (some (.builtin "set.__len__")):=by rw[qd,mX];kernel_rfl
theorem ZBV{f:Str->Bool}{Q:List Value->Shared->Prop}(hh:A.handled=none)(r:BI prog w s.heap S f n)(hn:n<=sizeLine)
  (h:∀(s':Shared)(vs:List Value)(c:List Str),(∀b o,s.heap.get? b=some o->s'.heap.get? b=some o)->s.heap.objs.size<=s'.heap.objs.size->s'.gens=s.gens->s'.os=s.os->StrsAre vs c->c.length=n->(∀k,f k=true↔k∈c)->Q vs s') :
  wpAny (model prog w) A (collect (.ref S)) Q E s:=by
 have V:S<s.heap.objs.size:=by obtain⟨o,_,_,_,ho,_⟩:=r;exact B7 ho
 have x:s.heap.objs.size≠S:=Ii V;unfold collect;refine jW (ZBi (wB F.entry_proto_collect ?_));rw[RI F.plain_proto_collect _];show wpAny _ A.in1 (newList [] >>= λl=>again (.builtin "list.__iadd__" ⟨[l,.ref S],[]⟩)) _ _ s;refine jW (nU ?_);refine kA ⟨ZA0 F.plain_list_iadd _,wB F.entry_list_iadd ?_⟩;rw[RI F.plain_list_iadd _];generalize v:({ cls:=.type "list", data:=.seq ([]:List Value).toArray }:Obj)=so;have B:BI prog w (s.heap.push so) S f n:=r.keep λo e=>BC _ e;have M:(s.heap.push so).get? s.heap.objs.size=some so:=BR _ (by rw[<- v];rfl);have sz:(s.heap.push so).objs.size=s.heap.objs.size+1:=EE ..;have u:Shared.TypeIs { s with heap:=s.heap.push so } (.ref S) "set" := by obtain⟨o,_,_,_,ho,j,_⟩:=B;exact⟨o,ho,j.1⟩
 have h1:Builtin.List.listSameRef (.ref s.heap.objs.size) (.ref S)=false:=by simp[Builtin.List.listSameRef,x]
 show wpAny _ A.in1 (Builtin.List.listExtendWith (.ref s.heap.objs.size) (.ref S) (.ref s.heap.objs.size)) _ _ { s with heap:=s.heap.push so }
 unfold Builtin.List.listExtendWith;refine jW (xB u ?_);rw[lA (by rw[h1];decide)];refine jW (pF (s:={ s with heap:=s.heap.push so }) B λI h2 d fp vs c St W W6 Lg T ZDm kp Vu tl N=>?_)
 have C:s.heap.objs.size∉fp:=λg=>by
  rcases Lg _ g with z|⟨z,_⟩
  .exact x z
  .have K:(s.heap.push so).objs.size<=s.heap.objs.size:=z;rw[sz]at K;omega
 have m:Shared.TypeIs { s with heap:=h2,drawn:=d } (.ref S) "set" := by obtain⟨o,ho,R⟩:=u;exact⟨o,kp _ _ ho,R⟩
 refine jW (oK ?_);unfold Builtin.List.listLengthHint;refine jW (vN m sQ ?_);generalize y:("set.__len__":String)=MY
 wp_delta
 rw[show splitId MY=some ("set","__len__")from by subst y;decide +kernel];subst y;refine jW (sT (b:=true) m (by rw[pO];kernel_rfl) ?_);rw[lA (by decide)];refine ZAy (λ_=>?_) (λDs=>absurd (by decide +kernel) Ds);refine jW (xB m ?_);refine kA ?_;refine ZAy (λ_=>?_) (λDs=>absurd (by decide +kernel) Ds);refine jW (ZA8 ?_);refine jW ?_;show wpAny _ _ (updateSeq s.heap.objs.size (·.push .none) >>= λ_=>updateSeq s.heap.objs.size (·.pop)) _ _ _
 have J:(#[]:Array Value).size<=sizeLine:=CJ _;have p:((#[]:Array Value).push Value.none).size<=sizeLine:=by show 1<=sizeLine;decide
 have H:((#[]:Array Value).push Value.none).size<=sizeLine+1:=iu p;have G:(((#[]:Array Value).push Value.none).pop).size<=sizeLine+1:=CJ _;have t:=kp _ _ M;subst v;refine jW (yu (s:={ s with heap:=h2,drawn:=d }) t rfl ?_ J H)
 have q:=ED (Obj.mapSeq (·.push Value.none)) t rfl
 refine yu q rfl ?_ p G;have O:=ED (Obj.mapSeq (·.pop)) q rfl
 have D:∀b o,b≠s.heap.objs.size->h2.get? b=some o->((h2.update s.heap.objs.size (Obj.mapSeq (·.push Value.none))).update s.heap.objs.size (Obj.mapSeq (·.pop))).get? b=some o:=
  λb o a e=>(DE _ _ (BJ a)).trans ((DE _ _ (BJ a)).trans e)
 refine kA ⟨ZA0 PySem.F.plain_extend_loop _,ZAt (W A.in1 hh).toS hn _ C _ n 0 _ #[] _ rfl (CJ _) ?_ O (ItemsOf.nil _) λs' Bn X g Cp BM=>?_⟩
 .exact(W A.in1 hh).frame 0 h2 _ W6 λb a o e=>D b o (λz=>C (z▸a)) e
 .show wpAny _ A (load s.heap.objs.size >>= _) _ _ s';refine jW (ZBY Cp ?_);have U:Bn.toList=vs:=by
   have P:vs.length=n:=(StrsAre.len Vu).trans tl;refine iS λi=>?_
   by_cases hi:i<n
   .have h1:Bn[i]?=some (Bn[i]'(by rw[BM.1];exact hi)):=Kx _;rw[OJ,h1];exact(BM.2 i _ h1).symm
   .rw[MQ (by rw[EC,BM.1];omega),MQ (by omega)]
  refine kA ?_;rw[<- U]at Vu;refine h s' Bn.toList c (λb o e=>?_) (MU (B7 Cp)) g.gens g.os Vu tl N;have a:b<s.heap.objs.size:=B7 e;refine g.heap b o ?_ (D b o (BY a) (kp b o (BC _ e)));simp only[Dg,Cb,yk,not_or];refine⟨BY a,?_⟩;have L:s.heap.objs.size+1<=I:=by rw[<- sz];exact T
  exact BY (Cu a (Nat.le_of_succ_le L))
variable{R:Result->Shared->Prop}{fp wr:List Addr}{G:Array GenState->Array GenState->Prop}{P:Nat->Value->Prop}{St:Nat->Shared->Prop}
theorem y6(W:WalksS prog w A.in1 I fp wr G ss.length P St)(S:Addr)(Dm:S∉fp)(X4:∀i v,P i v->∃(h:i<ss.length)(t:Tok),v=.str ss[i] t)(a:ss.length+1<scanBound):
  ∀(k i:Nat)(s:Shared),ss.length - i=k->i<=ss.length->St i s->BI prog w s.heap S (λd=>(dd (ss.take i)).any (· == d)) (dd (ss.take i)).length->
   (∀s',Moved (S::wr) G s s'->BI prog w s'.heap S (λd=>(dd ss).any (· == d)) (dd ss).length->R (.ok (.ret .none)) s')->
   codeAny (model prog w) A (.builtin "set.update.loop" ⟨[.ref S,.ref I],[]⟩) R s:=by
 have q:S∉wr:=λh=>Dm (W.sub _ h);have l:∀{s s':Shared}{f:Str->Bool}{m:Nat},Moved wr G s s'->BI prog w s.heap S f m->BI prog w s'.heap S f m:=λc g=>g.keep λo ho=>c.heap S _ q ho;intro k
 induction k with
 |zero=>
  intro i s z hi B9 g fin;have e:i=ss.length:=by omega
  subst e;refine wB ZD9 ?_;rw[RI j4 _];show wpAny _ A.in1 (pyNext (.ref I) >>= _) _ _ s;refine jW (W.done s _ _ B9 λs' c=>?_);show wpAny _ A.in1 (ret Value.none) _ _ s';rw[L8]at g;exact kA (fin s' (c.mono λb a=>By _ a) (l c g))
 |succ k y=>
  intro i s z hi B9 g fin;have j:i<ss.length:=by omega
  refine wB ZD9 ?_;rw[RI j4 _];show wpAny _ A.in1 (pyNext (.ref I) >>= _) _ _ s;refine jW (W.item i s _ _ j B9 λv s' B x c=>?_);obtain⟨_,t,rfl⟩:=X4 i v B;have D:=l c g;show wpAny _ A.in1 (holding [Value.str ss[i] t] (setAdd S (.str ss[i] t)) >>= _) _ _ s';refine jW (oK ?_);unfold setAdd;have p:(PySem.strKind prog w).is ss[i] (.str ss[i] t)=true:=YV prog w ss[i] t;refine oK (jW ((PySem.strKind prog w).pyHash p ?_));have C:(dd (ss.take i)).length+1<scanBound:=by
   have:=QX (ss.take i);rw[Bx]at this;omega
  refine BI.put (s:={ s' with toks:=s'.toks+1 }) D C λh' LV Jq=>?_
  have u:BI prog w h' S (λd=>(dd (ss.take (i+1))).any (· == d)) (dd (ss.take (i+1))).length:=
   Jq.congr (λd=>by rw[bS ss i j,ZAA]) (by rw[bS ss i j,i5])
  refine kA ⟨ZA0 j4 _,y (i+1) _ (by omega) j (W.frame _ s' _ _ x (EH _) λb a o e=>?_) u λK4 r n=>?_⟩
  .rw[LV.2 b (by rintro rfl;exact Dm a)];exact e
  .refine fin K4 (Moved.trans W.gtrans ((c.mono λb a=>By _ a).then_heap (EH _) λb o a e=>?_) r) n;rw[LV.2 b (by rintro rfl;exact a Bc)];exact e
theorem uJ(a:Value)
  (h:Q₁ (.ref s.heap.objs.size) { s with heap:=s.heap.push { cls:=.type "set", dict:=none,data:=.set #[] 0 (.fresh 0 0 (!C0 w)) } }) :
  codeAny (model prog w) A (.call (.builtin "set.__new__") ⟨[.type "set", a],[]⟩) (wants Q₁ E) s:=by
 refine ZBb ?_;show wpAny _ A.in1 (do checkBuiltinCall "set.__new__" ⟨[.type "set", a],[]⟩;again (.builtin "set.__new__" ⟨[.type "set", a],[]⟩)) _ _ s
 refine jW (oV (PySem.F.newCall_set_1 a) ?_);refine kA ⟨ZA0 ZDA _,wB PySem.F.entry_set_new ?_⟩;rw[RI ZDA _];unfold Builtin.«set.__new__» Builtin.Frozenset.newClass;have b:isSubtype (.type "set") (.type "set")=pure true:=by rw[pO];kernel_rfl
 obtain⟨c,g,d,tk,os⟩:=s;dsimp only
 wp_walk
 refine rL (kA ?_);dsimp only;simp only[newObj];refine jW (wpAny_alloc (kA ?_));exact kA h
theorem gR{l:Addr}{T:String}{od:Option Addr}{Ge:Array (Option Value)}{Q:Value->Shared->Prop}(ho:s.heap.get? l=some { cls:=.type T,dict:=od,data:=.seq items nl,slots:=Ge })
  (hs1:isSubtype (.type T) (.type "set")=pure false) (Qr:isSubtype (.type T) (.type "frozenset")=pure false) (AU:(Value.type T == Value.type "dict")=false) (hb:ss.length+1<scanBound)
  (hit:∀(s1:Shared)(A1:Around)(Q1:Value->Shared->Prop),A1.handled=A.handled->s1.heap.get? l=s.heap.get? l->l<s1.heap.objs.size->
   (∀ob St P,WalksS prog w A1.in1 s1.heap.objs.size [s1.heap.objs.size,l] [s1.heap.objs.size] (λa b=>b=a) ss.length P St->(∀i v,P i v->∃(h:i<ss.length)(t:Tok),v=.str ss[i] t)->St 0 { s1 with heap:=s1.heap.push ob }->Q1 (.ref s1.heap.objs.size) { s1 with heap:=s1.heap.push ob })->
   wpAny (model prog w) A1 (pyIter (.ref l)) Q1 E s1)
  (h:∀(h':Heap)(tk:Nat),BI prog w h' s.heap.objs.size (λg=>(dd ss).any (· == g)) (dd ss).length->(∀b o,b<s.heap.objs.size->s.heap.get? b=some o->h'.get? b=some o)->Q (.ref s.heap.objs.size) { s with heap:=h',toks:=tk }) :
  wpAny (model prog w) A (call (.type "set") [.ref l]) Q E s:=by
 have z:l<s.heap.objs.size:=B7 ho;obtain⟨c,tl,ZDR⟩:=PySem.F.called_set.mro;have V:=PySem.F.called_set.made;have U:=PySem.F.called_set.sub;refine ZAR (ZBb (by
  show wpAny _ _ (callAny (.type "set") _) _ _ _;refine kA ⟨Y6 _ (by decide +kernel),wB PySem.F.entry_type_call ?_⟩;rw[Around.under_plain (weight_type_call_type "set" [.ref l] []) rfl];have h1:=PySem.F.called_set.notType;have h2:=PySem.F.called_set.canCreate;have H:=PySem.F.typeCall_set_1 (.ref l)
  repeat (any_goals (first|assumption|wp_step))
  refine ZAO (uJ (.ref l) (E:=E) (Q₁:=λobj x=>obj=.ref s.heap.objs.size/\x={ s with heap:=s.heap.push { cls:=.type "set", dict:=none,data:=.set #[] 0 (.fresh 0 0 (!C0 w)) } }) ⟨rfl,rfl⟩) λr x j=>?_
  cases r with
  |error e=>exact j
  |ok K=>
   cases K with
   |ret obj=>
    obtain⟨rfl,rfl⟩:=j;generalize p:({ cls:=.type "set", dict:=none,data:=.set #[] 0 (.fresh 0 0 (!C0 w)) }:Obj)=so;have q:(s.heap.push so).objs.size=s.heap.objs.size+1:=EE ..;have y:(s.heap.push so).get? s.heap.objs.size=some so:=BR _ (by rw[<- p];rfl);have J:Shared.TypeIs { s with heap:=s.heap.push so } (.ref s.heap.objs.size) "set" := ⟨_,y,by rw[<- p]⟩
    have C:=PySem.F.called_set.init.lookup;have I:=PySem.F.called_set.init.bind (.ref s.heap.objs.size)
    repeat (any_goals (first|assumption|wp_step))
    refine ZAO (ZAL (R:=wants (λr u=>r=.none/\∃h' tk,u={ s with heap:=h',toks:=tk }/\BI prog w h' s.heap.objs.size (λg=>(dd ss).any (· == g)) (dd ss).length/\
      (∀b o,b<s.heap.objs.size->s.heap.get? b=some o->h'.get? b=some o)) E) PySem.F.called_set.init.plain PySem.F.entry_set_init (check_set_init_1 J ?_)) λB u d=>?_
    .have S:(s.heap.push so).get? l=some { cls:=.type T,dict:=od,data:=.seq items nl,slots:=Ge }:=BC _ ho;subst p;unfold Builtin.«set.__init__» noKeywords Builtin.Frozenset.updateFrom;generalize m:pyIter=PI
     wp_walk
     subst m;refine hit { s with heap:=s.heap.push _ } _ _ rfl (S.trans ho.symm) (Nat.lt_of_lt_of_eq (Jn z) q.symm) λob St P W X4 W6=>?_
     refine jW (ZBi ?_);have O:s.heap.objs.size∉[(s.heap.push { cls:=.type "set", dict:=none,data:=.set #[] 0 (.fresh 0 0 (!C0 w)) }).objs.size,l]:=by
      rw[q];simp only[Dg,Cb,yk,not_or];exact⟨BY (ON _),Ii z⟩
     refine y6 W s.heap.objs.size O X4 hb (ss.length - 0) 0 _ rfl (CJ _) W6 ?_ ?_
     .have D:=BC ob y;exact⟨_,#[],0,_,D,⟨rfl,rfl,rfl⟩,rfl,λe G=>by simp at G,λk=>by simp[dd],by decide,by rfl,rfl,rfl,λh=>absurd h (by simp)⟩
     .intro s' f Cp;obtain⟨h',g',d',W7,KL⟩:=s';have M:g'=s.gens:=f.gens;have N:d'=s.drawn:=f.drawn;have L:KL=s.os:=f.os;subst M;subst N;subst L;show wpAny _ _ _ _ _ _;refine kA ?_;show wpAny _ _ (ret Value.none) _ _ _;refine kA ⟨rfl,h',W7,rfl,Cp,λb o DQ e=>?_⟩;refine f.heap b o ?_ (BC _ (BC _ e));rw[q];simp only[Dg,Cb,yk,not_or];exact⟨BY DQ,BY (Jn DQ)⟩
    .cases B with
     |error e=>exact d
     |ok n=>
      cases n with
      |ret r=>
       obtain⟨rfl,h',tk,rfl,Cp,IB⟩:=d
       repeat (any_goals (first|assumption|wp_step))
       exact h _ _ Cp IB
      |_=>exact d.elim
   |_=>exact j.elim))
end
noncomputable def Em(P:Program)(w:World)(a:Addr)(f:Str->Bool)(n:Nat):HO:=.ext λh=>BI P w h a f n
theorem WA(y:X.calm=true):DH X (.type "set") (λxs H Q=>∃(p:Addr)(tp:Bool)(ss:List Str),xs=[.ref p]/\ER X.K tp H p (ss.map V.str)/\ss.length<4000/\
  ∀l,H l=none->Q (.ref l) (upd H l (Em X.prog X.w l (λk=>(dd ss).any (· == k)) (dd ss).length))):=by
 intro Zd s Z H xs us Q I r h;obtain⟨p,tp,ss,rfl,x,D,q⟩:=h;obtain⟨u,rfl,C⟩:=vals1 r;cases C;have z:ss.length+1<scanBound:=by unfold scanBound;omega
 have fin:∀(h':Heap)(tk:Nat),BI X.prog X.w h' s.heap.objs.size (λk=>(dd ss).any (· == k)) (dd ss).length->(∀b o,b<s.heap.objs.size->s.heap.get? b=some o->h'.get? b=some o)->
   EP X Zd Z Q (.ref s.heap.objs.size) { s with heap:=h',toks:=tk }:=λh' tk B kp=>by
  refine⟨.ref s.heap.objs.size,_,I.laid (t':=tk) (λb o e=>kp b o (B7 e) e) (Az _) (show CU X.prog X.w _ h' _ (Em X.prog X.w s.heap.objs.size _ _)from⟨B,?_,λh1 h2 HH K5=>?_⟩),rfl,q _ (I.AN.fresh (Az _))⟩
  .obtain⟨o,_,_,_,ho,_⟩:=B;exact⟨o,ho⟩
  .exact HH.keep K5
 cases tp with
 |false=>
  obtain⟨A3,a,pl,Gz⟩:=I.list x;have f:=a.length;rw[Aw]at f;obtain⟨⟨c,d,dt,sl⟩,n,ho,DB,hd,FN⟩:=id pl;simp only at DB hd FN;subst DB;subst hd;subst FN;refine gR ho PySem.F.sub_list_set PySem.F.sub_list_frozenset (by decide) z (λs1 A1 Q1 m g l1 Tz=>?_) fin;have j:s1.heap.IsList p A3.toArray:=⟨_,g.trans ho,rfl,n,rfl⟩;have t:A3.toArray.size=ss.length:=List.size_toArray.trans f.symm;refine ZAi j (Tz _ (λi s=>s.heap.IsListIter s1.heap.objs.size p i/\s.heap.IsList p A3.toArray) (λi v=>A3.toArray[i]?=some v) (by
   have W:=(Walks.list (prog:=X.prog) (w:=X.w) (A:=A1.in1) (by rw[Y4,m];exact I.ok.hd y) s1.heap.objs.size p (BY l1) A3.toArray).toS;rw[t]at W;exact W) (λi v e=>Q6 a (by simpa using e)) ⟨⟨_,BR _ rfl,rfl,rfl⟩,j.push _⟩)
 |true=>
  obtain⟨A3,a,pl,Gz⟩:=I.tuple x;have f:=a.length;rw[Aw]at f;obtain⟨⟨c,d,dt,sl⟩,ho,DB,n,FN⟩:=id pl;simp only at DB FN;subst DB;subst FN;refine gR ho sub_tuple_set sub_tuple_frozenset (by decide) z (λs1 A1 Q1 m g l1 Tz=>?_) fin;have j:s1.heap.IsTuple p A3.toArray:=⟨_,g.trans ho,rfl,n,rfl⟩;have t:A3.toArray.size=ss.length:=List.size_toArray.trans f.symm;refine wpAny_pyIter_tuple j (Tz _ (λi s=>s.heap.IsTupleIter s1.heap.objs.size p i/\s.heap.IsTuple p A3.toArray) (λi v=>A3.toArray[i]?=some v) (by
   have W:=(Walks.tuple (prog:=X.prog) (w:=X.w) (A:=A1.in1) (by rw[Y4,m];exact I.ok.hd y) s1.heap.objs.size p (BY l1) A3.toArray).toS;rw[t]at W;exact W) (λi v e=>Q6 a (by simpa using e)) ⟨⟨_,BR _ rfl,rfl,rfl⟩,?_⟩)
  exact⟨_,BC _ (g.trans ho),rfl,n,rfl⟩
theorem Inv.drew(I:Inv X Zd Z H s)(d:Drawn):Inv X Zd Z H { s with drawn:=d }:=
 I.step (h':=s.heap) (g':=s.gens) (t':=s.toks) (d':=d) (ch:=[]) (λ_ z=>nomatch z) (λb o _ _ _ e _=>e) (λb o _ _ _ e _=>⟨o.slots,e⟩) (λ_ _ _ _ n=>n) (λb o _ e=>⟨o,e⟩) (λ_ _ e=>e) (λ_ _ _ e=>e) (λb ps e=>⟨#[],by rw[e];simp⟩) (λm a=>a) I.AN I.bare
theorem qN{l:Addr}{Q:List Value->Shared->Prop}(a:IsTup s.heap l vs.toArray)(h:Q vs { s with heap:=(s.heap.push (seqObj "list" #[] 0)).update s.heap.objs.size (Obj.mapSeq (·++vs.toArray)) })(FA:vs.length<=sizeLine):
  wpAny (model prog w) A (collect (.ref l)) Q E s:=by
 obtain⟨o,ho,b,n,hd⟩:=id a;unfold collect;refine jW (ZBi (wB entry_proto_collect' ?_));show wpAny _ _ (newList [] >>= λx=>again (.builtin "list.__iadd__" ⟨[x,.ref l],[]⟩)) _ _ s;refine jW (wpAny_newList ?_);refine kA ⟨Y6 _ (by decide +kernel),wB entry_list_iadd' ?_⟩;show wpAny _ _ (Builtin.List.listExtendWith (.ref s.heap.objs.size) (.ref l) (.ref s.heap.objs.size)) _ _ { s with heap:=s.heap.push (seqObj "list" #[] 0) }
 unfold Builtin.List.listExtendWith;have g:(s.heap.push (seqObj "list" #[] 0)).get? l=some o:=BC _ ho;refine jW (xB (T:="tuple") ⟨o,g,b⟩ ?_);rw[lO (by simp)];refine jW (listItems_at g hd ?_);refine jW (listItems_at (xs:=#[]) (n:=0) (BR _ rfl) rfl ?_);rw[lA (by simp)];refine jW (listUpdate_at (xs:=#[]) (n:=0) (BR _ rfl) rfl ?_ (CJ _) (by show(#[]++vs.toArray).size<=sizeLine+1;simp only[Array.size_append,Bi,RQ];omega));refine kA ?_;show wpAny (model prog w) A (load s.heap.objs.size >>= λo=>(match o.data with | .seq xs _=>pure xs.toList|_=>unsupported "internal:collect")) Q E _
 refine jW (ZBY (get?_update_seq (BR _ rfl) _) ?_);show wpAny _ _ (pure ((#[]:Array Value)++vs.toArray).toList) Q E _;have e:((#[]:Array Value)++vs.toArray).toList=vs:=by simp
 rw[e];exact kA h
theorem eS{Pc:List Value->Shared->Prop}{Q:Value->Shared->Prop}
  (i:∀(A1:Around)(E1:Value->Shared->Prop)(Q1:List Value->Shared->Prop),A1.handled=A.handled->(∀vs s1,Pc vs s1->Q1 vs s1)->wpAny (model prog w) A1 (collect v) Q1 E1 s)
  (h:∀vs s1,Pc vs s1->vs.length<64/\∃ss,StrsAre vs ss/\∀out AK e h',(∀b o,s1.heap.get? b=some o->h'.get? b=some o)->h'.get? s1.heap.objs.size=some (seqObj "list" out e)->StrsAre out.toList AK->AK.Perm ss->sortedS AK=true->Q (.ref s1.heap.objs.size) { s1 with heap:=h' }) :
  wpAny (model prog w) A (call (.builtin "sorted") [v]) Q E s:=by
 refine Calls.call_function_entry kind_sorted plain_sorted entry_sorted (args_sorted1 _) ?_;unfold Builtin.«sorted»;refine jW (m:=checkCount "sorted" 1 1 _) (kA ?_);refine jW (i _ _ _ rfl λvs s1 f=>?_);obtain⟨Gq,ss,Xo,k⟩:=h vs s1 f;refine jW (wpAny_newList ?_);have a:(s1.heap.push (seqObj "list" vs.toArray 0)).get? s1.heap.objs.size=some (seqObj "list" vs.toArray 0):=BR _ rfl;refine jW (oK (pH slot_list_sort ⟨_,a,rfl⟩ entry_list_sort (list_sort_treeK (s:={ s1 with heap:=s1.heap.push (seqObj "list" vs.toArray 0) }) strKind_oneLt a Xo.keysOf (λt r rest e=>keyKind_strs (by rw[<- e];exact Xo)) Gq λDh q p=>⟨_,rfl,?_⟩) (args_list_sort _)))
 obtain⟨AK,n,l,j⟩:=sorted_out_str Xo q p;obtain⟨e,g⟩:=sortedHeap_at (out:=(arrOf Dh).map (·.2)) a
 refine kA ⟨_,rfl,k _ AK e _ (λb o c=>?_) g n l j⟩;have d:=B7 c;rw[sortedHeap_old (BY d) (by rw[EE];exact Jn d)];exact BC _ c
theorem gj:∀{ss:List Str}{us:List Value},Vals (ss.map V.str) us->StrsAre us ss
 | [],_,.nil=>.nil
 |x::r,_,.cons ⟨t,e⟩ h=>by rw[e];exact .cons x t (gj h)
theorem eV:∀{ss:List Str}{us:List Value},StrsAre us ss->Vals (ss.map V.str) us
 |_,_,.nil=>.nil
 |_,_,.cons x t h=>.cons ⟨t,rfl⟩ (eV h)
theorem cI{s1:Shared}{Q:VK}(I:Inv X Zd Z H s)(f:s1.gens=s.gens)(ho:s1.os=s.os)(d:∀b o,s.heap.get? b=some o->s1.heap.get? b=some o)(c:s.heap.objs.size<=s1.heap.objs.size)
  {out:Array Value}{e:Nat}(kp:∀b o,s1.heap.get? b=some o->h'.get? b=some o) (g:h'.get? s1.heap.objs.size=some (seqObj "list" out e)) (i:StrsAre out.toList AK) (Gq:AK.length<64)
  (q:∀l,H l=none->Q (.ref l) (upd H l (.lst (AK.map V.str)))):EP X Zd Z Q (.ref s1.heap.objs.size) { s1 with heap:=h' }:=by
 obtain⟨h1,g1,j,h,k⟩:=s1;simp only at f ho d c kp g;subst f;subst ho;refine⟨.ref _,_,(I.drew j).laid (a:=h1.objs.size) (h':=h') (t':=h) (o:=.lst (AK.map V.str)) (λb o q=>kp b o (d b o q)) c ?_,rfl,q _ (I.AN.fresh c)⟩;refine⟨?_,out.toList,e,eV i,by simpa[seqObj]using g⟩
 rw[Aw];exact Bq (MU Gq) (by decide +kernel)
def Te(K:ZE7):List V->Hp->VK->Prop:=λxs H Q=>∃(p:Addr)(tp:Bool)(ss:List Str),xs=[.ref p]/\ER K tp H p (ss.map V.str)/\ss.length<64/\∀l AK,H l=none->AK.Perm ss->sortedS AK=true->Q (.ref l) (upd H l (.lst (AK.map V.str)))
theorem QQ:DH X (.builtin "sorted") (Te X.K):=by
 intro Zd s Z H xs us Q I r h;obtain⟨p,tp,ss,rfl,f,Gq,q⟩:=h;obtain⟨u,rfl,m⟩:=vals1 r;cases m;have d:∀A3:List Value,Vals (ss.map V.str) A3->(∀(A1:Around)(E1:Value->Shared->Prop)(Q1:List Value->Shared->Prop),Q1 A3 { s with heap:=(s.heap.push (seqObj "list" #[] 0)).update s.heap.objs.size (Obj.mapSeq (·++A3.toArray)) }->wpAny (model X.prog X.w) A1 (collect (.ref p)) Q1 E1 s)->
   wpAny (model X.prog X.w) X.A (call (.builtin "sorted") [.ref p]) (EP X Zd Z Q) X.xe s:=by
  intro A3 c j;have a:=c.length;rw[Aw]at a;refine eS (Pc:=λvs s1=>vs=A3/\s1={ s with heap:=(s.heap.push (seqObj "list" #[] 0)).update s.heap.objs.size (Obj.mapSeq (·++A3.toArray)) }) (λA1 E1 Q1 _ k=>j A1 E1 Q1 (k _ _ ⟨rfl,rfl⟩)) ?_
  rintro vs s1⟨rfl,rfl⟩;refine⟨by omega,ss,gj c,λout AK e h' kp x y g t=>?_⟩;refine cI (s1:={ s with heap:=(s.heap.push (seqObj "list" #[] 0)).update s.heap.objs.size (Obj.mapSeq (·++vs.toArray)) }) I rfl rfl (λb o i=>?_) (by show s.heap.objs.size<=((s.heap.push (seqObj "list" #[] 0)).update s.heap.objs.size (Obj.mapSeq (·++vs.toArray))).objs.size;rw[Heap.size_update,EE];exact EH _) kp x y (by rw[g.length_eq];exact Gq) λl v=>q l AK v g t
  show((s.heap.push _).update _ _).get? b=some o;rw[Heap.get?_update_ne _ _ _ _ (BY (B7 i))];exact BC _ i
 cases tp with
 |false=>
  obtain⟨A3,c,pl,n⟩:=I.list f;have a:=c.length;exact d A3 c λA1 E1 Q1 k=>collect_list pl.isList k (by omega)
 |true=>
  obtain⟨A3,c,pl,n⟩:=I.tuple f;have a:=c.length;exact d A3 c λA1 E1 Q1 k=>qN pl k (by omega)
def Wx(P:Program)(w:World):List V->Hp->VK->Prop:=λxs H Q=>∃(p:Addr)(f:Str->Bool)(n:Nat),xs=[.ref p]/\H p=some (Em P w p f n)/\n<64/\∀l a,H l=none->a.length=n->(∀k,f k=true↔k∈a)->sortedS a=true->Q (.ref l) (upd H l (.lst (a.map V.str)))
theorem Ye(C:X.calm=true):DH X (.builtin "sorted") (Wx X.prog X.w):=by
 intro Zd s Z H xs us Q I r h;obtain⟨p,f,n,rfl,E,Gq,q⟩:=h;obtain⟨u,rfl,x⟩:=vals1 r;cases x;have D:BI X.prog X.w s.heap p f n:=(I.AN p _ E).1;have hh:X.A.handled=none:=I.ok.hd C;refine eS (Pc:=λvs s1=>∃a,(∀b o,s.heap.get? b=some o->s1.heap.get? b=some o)/\s.heap.objs.size<=s1.heap.objs.size/\s1.gens=s.gens/\s1.os=s.os/\StrsAre vs a/\a.length=n/\(∀k,f k=true↔k∈a)) (λA1 E1 Q1 F k=>?_) ?_
 .exact ZBV (F.trans hh) D (Bq (MU Gq) (by decide +kernel)) λs' vs a v t m j d c i=>k vs s' ⟨a,v,t,m,j,d,c,i⟩
 .rintro vs s1⟨a,v,t,m,j,d,c,i⟩;refine⟨by rw[StrsAre.len d,c];exact Gq,a,d,λout AK e h' kp B Cp g y=>?_⟩;exact cI I m j v t kp B Cp (by rw[g.length_eq,c];exact Gq) λl z=>q l AK z (g.length_eq.trans c) (λk=>(i k).trans g.mem_iff.symm) y
theorem vp:BA X (compareOp .GtE) (λx y H Q=>∃i j,x=.str i/\y=.str j/\Q (.bl (!decide (i.cps.toList<j.cps.toList))) H):=by
 intro Zd s Z H x y v u Q I b a h;obtain⟨i,j,rfl,rfl,q⟩:=h;obtain⟨t,rfl⟩:=b;obtain⟨t',rfl⟩:=a;exact PySem.P.ge_str (Bj I q rfl)
def GG(n:Nat):List V:=(List.range n).map λi:Nat=>V.int (i:Int)
theorem Y0(n:Nat):(GG n).length=n:=by simp[GG]
theorem ZAq{js:List Nat}{tt:TT}{te:TE}{acc:Addr}{Q:VK}(f:V->Bool)(g:V->V)(BM:H1 acc=none)(a:n<=sizeLine)
  (b:∀(i:Nat)(x:V)(H':Hp)(Q':Bool->Hp->Prop),(GG n)[i]?=some x->AJ H1 H'->(∀Ci,AJ H' Ci->Q' (f x) Ci)->tt (Be js Z++[some x]) H' Q')
  (c:∀(i:Nat)(x:V)(H':Hp)(Q':VK),(GG n)[i]?=some x->f x=true->AJ H1 H'->(∀Ci,AJ H' Ci->Q' (g x) Ci)->te (Be js Z++[some x]) H' Q')
  (hd:∀H',AJ H1 H'->H' acc=some (.lst (((GG n).filter f).map g))->Q (.ref acc) H'):IY (Hs 0 n) js tt te Z H1 acc Q:=by
 have q:IY ⟨(Hs 0 n).go,λi H x H'=>i<n/\(Hs 0 n).FK i H x H',(Hs 0 n).stop⟩ js tt te Z H1 acc Q:=by
  refine Tb (GG n) f g BM (by rw[Y0];exact a) (λi H s hi=>?_) (λH s=>?_) (λi H x H' y=>?_) b c hd
  .rw[Y0]at hi;exact hi
  .show n<=(GG n).length;rw[Y0];exact Az _
  .obtain⟨hi,e,hx⟩:=y;refine⟨e,?_⟩;rw[hx];unfold GG;rw[Bp,iV hi];show some (V.int (i:Int))=some (V.int (0+(i:Int)));rw[Int.zero_add]
 obtain⟨W,d,h1⟩:=q;exact⟨W,d,λi m H w=>(h1 i m H w).imp id λ⟨g,k⟩=>⟨g,λx H' y=>k x H' ⟨g,y⟩⟩⟩
end L2
namespace MA
noncomputable def NU:Nat->Nat->List Nat
 | 0,n=>[97+n]
 |k+1,n=>if n<26 then[97+n]else(97+n % 26)::NU k (n / 26)
theorem Jy:∀(k:Nat){n:Nat},n<26->NU k n=[97+n]
 | 0,_,_=>rfl
 |_+1,_,h=>lO h
theorem fb:∀(k j n:Nat),n<=k->n<=j->NU k n=NU j n
 | 0,j,n,h,_=>by rw[Jy 0 (HM h (by decide)),Jy j (HM h (by decide))]
 |k+1,0,n,_,h=>by rw[Jy (k+1) (HM h (by decide)),Jy 0 (HM h (by decide))]
 |k+1,j+1,n,h1,h2=>by
  by_cases c:n<26
  .rw[Jy _ c,Jy _ c]
  .have d:n / 26<n:=Nat.div_lt_self (Cu (by decide) (ZD1 c)) (by decide);show(if n<26 then _ else _)=(if n<26 then _ else _)
   rw[lA c,lA c,fb k j (n / 26) (RV (Cu d h1)) (RV (Cu d h2))]
def lets(n:Nat):List Nat:=NU n n
noncomputable def vals:List Nat->Nat
 | []=>0
 |c::r=>(c - 97)+26 * vals r
theorem LF{n:Nat}(h:n<26):lets n=[97+n]:=Jy n h
theorem NF{n:Nat}(h:¬ n<26):lets n=(97+n % 26)::lets (n / 26):=by
 cases n with
 |zero=>exact absurd (by decide) h
 |succ k=>
  have d:(k+1) / 26<k+1:=Nat.div_lt_self (YO k) (by decide);show(if k+1<26 then _ else _)=_
  rw[lA h,fb k ((k+1) / 26) ((k+1) / 26) (RV d) (Az _)];rfl
theorem fc:∀n,vals (lets n)=n:=by
 intro n
 induction n using Nat.strongRecOn with
 |_ n a=>
  by_cases h:n<26
  .rw[LF h];simp[vals]
  .rw[NF h];have:=a (n / 26) (by omega);simp only[vals,this];omega
theorem zG{a b:Nat}(h:lets a=lets b):a=b:=by rw[<- fc a,h,fc]
theorem Vo(n:Nat):1<=(lets n).length:=by
 by_cases h:n<26
 .rw[LF h];simp
 .rw[NF h];simp
theorem Qh:∀(k n:Nat),n<26 ^ (k+1)->(lets n).length<=k+1
 | 0,n,h=>by rw[LF (by simpa using h)];simp
 |k+1,n,h=>by
  by_cases h1:n<26
  .rw[LF h1];simp
  .rw[NF h1];have:=Qh k (n / 26) (by rw[Nat.pow_succ]at h;exact Nat.div_lt_of_lt_mul (by rw[iy];exact h));simp only[C5];omega
theorem yT:∀n,∀c∈lets n,97<=c/\c<=122:=by
 intro n
 induction n using Nat.strongRecOn with
 |_ n b=>
  by_cases h:n<26
  .rw[LF h];intro c a;simp at a;omega
  .rw[NF h];intro c a;rcases List.mem_cons.mp a with e|e
   .omega
   .exact b (n / 26) (by omega) c e
theorem Zw{α:Type}[DecidableEq α]:∀(k:Nat)(f:Nat->α)(l:List α),(∀i j,i<k->j<k->f i=f j->i=j)->(∀i,i<k->f i∈l)->k<=l.length
 | 0,_,_,_,_=>CJ _
 |k+1,f,l,hi,hm=>by
  have h1:=hm k (ON k);have:=Zw k f (l.erase (f k)) (λi j a b e=>hi i j (by omega) (by omega) e) (λi a=>by
   have c:f i≠f k:=λe=>by have:=hi i k (by omega) (by omega) e;omega
   exact(YE c).mpr (hm i (by omega)))
  rw[MR h1]at this;have d:=ib h1;omega
end MA
namespace Lw
open L2
variable{a l p:Addr}{H H' H2:Hp}{xs:List V}{o:HO}{α:Type}{j k r:Int}{hi i m n:Nat}{ns ss:List Str}{x y z:Str}
def C3(H:Hp)(p:Addr):Prop:=∃a b:Int,H p=some (.lst [.int a,.int b])/\0<=a/\a<10 ^ 256/\0<=b/\b<2147483647
structure B1 (p:Addr) (H H':Hp):Prop where
 AQ:C3 H' p
 same:G9 p H H'
theorem B1.trans{H1:Hp}(a:B1 p H H1)(b:B1 p H1 H2):B1 p H H2:=⟨b.AQ,a.same.trans b.same⟩
theorem B1.of(h:C3 H p)(s:AJ H H'):B1 p H H':=by
 obtain⟨a,b,e,r⟩:=h;exact⟨⟨a,b,s _ _ e,r⟩,G9.of s⟩
theorem B1.O1{K:ZE7}(s:B1 p H H')(h:AO K H a xs)(AU:a≠p):AO K H' a xs:=by
 rcases h with(h|⟨o,h⟩)|h
 .exact .inl (.inl (s.same _ _ AU h))
 .exact .inl (.inr ⟨o,s.same _ _ AU h⟩)
 .exact .inr h
theorem B1.at'(s:B1 p H H')(h:H a=some o)(AU:a≠p):H' a=some o:=s.same _ _ AU h
theorem Lb{a:Int}(c:-(10 ^ 20)<a)(h1:a<10 ^ 20):a.natAbs<2 ^ 1000:=by
 have b:a.natAbs<10 ^ 20:=by omega
 exact Nat.lt_trans b (by decide +kernel)
def V0(K:ZE7):Sp:=λvs H Q _=>∃(a:Addr)(ns:List Int)(k:Int),vs=[.ref a,.int k]/\AO K H a (ns.map V.int)/\0<=k/\k<=1000/\∀p H',H p=none->AJ H H'->C3 H' p->Q (.ref p) H'
def Iz:Sp:=λvs H Q _=>∃(p:Addr)(m:Int),vs=[.ref p,.int m]/\C3 H p/\0<m/\m<10 ^ 18/\∀r H',0<=r->r<m->B1 p H H'->Q (.int r) H'
def Cr(l:List Nat):Str:=⟨l.toArray⟩
def Zs:Sp:=λvs H Q _=>∃r:Int,vs=[.int r]/\0<=r/\r<26 ^ 8/\∀H',AJ H H'->Q (.str (Cr (MA.lets r.toNat))) H'
theorem Lh{xs:List α}{v:α}(b:0<=k)(h:xs[k.toNat]?=some v):BZ xs k=some v:=by
 have a:k=((k.toNat:Nat):Int):=by omega
 have q:=Ib h;rw[<- a]at q;exact q
abbrev HR:Str:="abcdefghijklmnopqrstuvwxyz"
theorem zS:∀j,j<26->HR.cps.toList[j]?=some (97+j):=by decide +kernel
theorem bf(a:0<=k)(h1:k<26):BZ HR.cps.toList k=some (97+k.toNat):=Lh a (zS _ (by omega))
theorem ZR(l:List Nat)(c:Nat):Cr l++(⟨#[c]⟩:Str)=Cr (l++[c]):=by
 show(⟨l.toArray++#[c]⟩:Str)=⟨(l++[c]).toArray⟩;simp
theorem Q7(l:List Nat):(Cr l).length=l.length:=by simp[Cr,Str.length]
theorem bc{l:List Nat}:(V.str (Cr l)=V.str (Str.ofString ""))↔l=[]:=by
 constructor
 .intro h;injection h with h
  have h2:=qz (λx=>x.cps.toList) h;have e:(Str.ofString "").cps.toList=[]:=by decide +kernel
  rw[e]at h2
  simpa[Cr]using h2
 .rintro rfl;rfl
theorem small(h:n<=100000):n<=sizeLine:=Bq h (by decide +kernel)
theorem eB{k:Nat}{pre:List Nat}(h:pre++MA.lets k=MA.lets n):(0<k / 26->(pre++[97+k % 26])++MA.lets (k / 26)=MA.lets n)/\(k / 26=0->pre++[97+k % 26]=MA.lets n):=by
 constructor
 .intro h1;rw[MA.NF (by omega)]at h;rw[<- h,MO];rfl
 .intro h1;have h2:k<26:=by omega
  rw[MA.LF h2]at h;rw[<- h,Nat.mod_eq_of_lt h2]
def Nm(x:Str):Prop:=1<=x.length/\x.length<=8/\∀c∈x.cps.toList,97<=c/\c<=122
instance (x:Str):Decidable (Nm x):=by unfold Nm;exact inferInstance
theorem HQ(x:Str):x.length=x.cps.toList.length:=by simp[Str.length]
theorem Ul(h:n<26 ^ 8):Nm (Cr (MA.lets n)):=by
 refine⟨by rw[Q7];exact MA.Vo n,by rw[Q7];exact MA.Qh 7 n h,λc a=>MA.yT n c (by simpa[Cr]using a)⟩
noncomputable def menu:List Str:=["put","take","none","ahead","all","over","next","a","ab","abc","abcdefgh","b","step"]
theorem nL:∀x∈menu,Nm x:=by decide +kernel
noncomputable def PB:List V:=[.str "put",.str "take",.str "none",.str "ahead",.str "all",.str "over",.str "next",.str "a",.str "ab",.str "abc",.str "abcdefgh",.str "b",.str "step"]
theorem vq{i:Int}(a:0<=i)(h1:i<13):∃x,BZ PB i=some (.str x)/\Nm x:=by
 have b:menu.length=13:=rfl;have hi:i.toNat<menu.length:=by omega
 have e:PB=menu.map V.str:=rfl;refine⟨menu[i.toNat],Lh a ?_,nL _ (Hw hi)⟩;rw[e,Bp,Bb hi];rfl
theorem Kw{i:Int}(a:0<=i)(h1:i<ns.length):∃x,BZ (ns.map V.str) i=some (.str x)/\x∈ns/\ns[i.toNat]?=some x:=by
 have hi:i.toNat<ns.length:=by omega
 exact⟨ns[i.toNat],Lh a (by rw[Bp,Bb hi];rfl),Hw hi,Bb hi⟩
theorem HY(ns:List Str):(ns.map V.str).all Ct=true:=by
 rw[Ec];intro x hx;obtain⟨y,_,rfl⟩:=List.mem_map.mp hx;rfl
theorem Nn(x:Str)(ns:List Str):Iu (.str x) (ns.map V.str)=decide (x∈ns):=by
 unfold Iu;rw[Eb,OL,xq];constructor
 .rintro⟨v,b,h⟩;obtain⟨y,a,rfl⟩:=List.mem_map.mp b;have h':(y == x)=true:=h;have:y=x:=by simpa using h'
  rw[<- this];exact a
 .intro h;exact⟨.str x,List.mem_map.mpr ⟨x,h,rfl⟩,by show(x == x)=true;simp⟩
theorem P2(xs:List V):HE xs []=decide (xs=[]):=by
 cases xs with
 |nil=>rfl
 |cons x r=>rw[LX (by simp)];simp
theorem mU(h:x.cps.toList=y.cps.toList):x=y:=by
 cases x;cases y;simp only[Str.mk.injEq];exact Array.toList_inj.mp h
theorem xN(z:Str){a b:Nat}{lo hi:Option Int}(Ds:a<=b)(c:b<=z.length)(e:Builtin.Str.strSliceIndices lo hi 1 z.length=Builtin.Str.strSliceIndices (some (a:Int)) (some (b:Int)) 1 z.length):
  (Txt.slice z lo hi).cps.toList=(z.cps.toList.drop a).take (b - a):=by
 have q:=StrLaws.sliced_plain z Ds c;rw[<- e]at q;unfold Txt.slice;split
 .rename_i h;have d:(Builtin.Str.strSliceIndices lo hi 1 z.length).length=z.length:=by simpa using h
  rw[e,StrLaws.strSliceIndices_plain Ds c,Aw,RS]at d;have h1:a=0:=by omega
  have h2:b=z.length:=by omega
  subst h1;subst h2;rw[RO,YN,HQ,L8]
 .rw[<- q]
theorem ju(h:0<=j):max (0:Int) (min j (n:Int))=max 0 (min ((min j.toNat n:Nat):Int) (n:Int)):=by
 have e:((min j.toNat n:Nat):Int)=min j n:=by
  rcases YK j.toNat n with c|c
  .rw[MW c,iP h,Int.min_eq_left (by have:=Int.ofNat_le.mpr c;rw[iP h]at this;exact this)]
  .rw[YL c,Int.min_eq_right (by have:=Int.ofNat_le.mpr c;rw[iP h]at this;exact this)]
 rw[e,Int.min_assoc,Int.min_self]
theorem ma(z:Str)(h:0<=j):(Txt.slice z none (some j)).cps.toList=z.cps.toList.take j.toNat:=by
 have e:=xN z (a:=0) (b:=min j.toNat z.length) (lo:=none) (hi:=some j) (CJ _) (ZD4 _ _) (by
  have h1:¬ j<0:=by omega
  have h2:¬ (((min j.toNat z.length:Nat):Int)<0):=Int.not_lt.mpr (Int.natCast_nonneg _);have c:max (0:Int) (min j (z.length:Int))=max 0 (min ((min j.toNat z.length:Nat):Int) (z.length:Int)):=ju h;simp only[Builtin.Str.strSliceIndices,h1,h2,ZBN,c];rfl)
 rw[e,RO,YN];rcases YK j.toNat z.length with h1|h1
 .rw[MW h1]
 .rw[YL h1,HQ,L8,RU (by rw[<- HQ];exact h1)]
theorem eM(h:1<=j)(d:j<=8)(b:1<=z.length)(a:∀c∈z.cps.toList,97<=c/\c<=122):Nm (Txt.slice z none (some j)):=by
 have e:=ma z (j:=j) (by omega);refine⟨?_,?_,λc JG=>a c ?_⟩
 .rw[HQ,e,Bx,<- HQ];omega
 .rw[HQ,e,Bx];omega
 .rw[e]at JG;exact YF JG
theorem dI(x y:Str):(x++y).cps.toList=x.cps.toList++y.cps.toList:=by
 show(x.cps++y.cps).toList=_;simp
theorem Yu(x y:Str):(x++y).length=x.length+y.length:=by rw[HQ,dI,Bh,<- HQ,<- HQ]
def UY(K:ZE7):Sp:=λvs H Q _=>∃(p q:Addr)(ns:List Str),vs=[.ref p,.ref q]/\C3 H p/\H q=some (.lst (ns.map V.str))/\q≠p/\(∀x∈ns,Nm x)/\ns.length<=1000/\∀x H',Nm x->x∉ns->B1 p H H'->Q (.str x) H'
theorem qg{k:Nat}(h:∀j,j<k->Cr (MA.lets j)∈ns):k<=ns.length:=
 MA.Zw k (λj=>Cr (MA.lets j)) ns (λi j _ _ e=>MA.zG (by
  have:=qz (λx=>x.cps.toList) e
  simpa[Cr]using this)) h
theorem xl:1000<26 ^ 8:=by decide +kernel
theorem ZA5:(1000:Int)<26 ^ 8:=by decide +kernel
theorem jT:(26:Int) ^ (8:Int).toNat - 26<26 ^ 8:=by decide +kernel
theorem wq:(26:Int)<26 ^ 8:=by decide +kernel
theorem mE:(0:Int)<26 ^ (8:Int).toNat - 26:=by decide +kernel
theorem w8:(26:Int) ^ (8:Int).toNat - 26<10 ^ 18:=by decide +kernel
theorem Zt(a:0<=r)(h:r<26 ^ 8):r.toNat<26 ^ 8:=by omega
theorem B1.upd(s:B1 p H H2)(h:H l=none)(AU:l≠p):B1 p H (upd H2 l o):=by
 obtain⟨a,b,e,r⟩:=s.AQ;refine⟨⟨a,b,by rw[As (BJ AU)];exact e,r⟩,λc u d q=>?_⟩;rw[As (Dd q h)];exact s.same c u d q
theorem B1.none(s:B1 p H H2)(h:H2 l=none):H l=none:=by
 cases q:H l with
 |none=>rfl
 |some o=>
  by_cases e:l=p
  .obtain⟨a,b,c,_⟩:=s.AQ;rw[<- e,h]at c;cases c
  .rw[s.same l o e q]at h;cases h
theorem C3.ne(h:C3 H p)(a:H l=none):l≠p:=by
 obtain⟨_,_,e,_⟩:=h;exact(Dd e a).symm
theorem AJ.none(s:AJ H H2)(h:H2 l=none):H l=none:=by
 cases q:H l with
 |none=>rfl
 |some o=>rw[s l o q]at h;cases h
def RD:Sp:=λvs H Q _=>∃(p:Addr)(m:Int),vs=[.ref p,.int m]/\C3 H p/\0<=m/\m<=100/\
 ∀l H'(ns:List Str),H l=none->B1 p H H'->H' l=some (.lst (ns.map V.str))->(ns.length:Int)=m->(∀x∈ns,Nm x)->ns.Nodup->Q (.ref l) H'
def Tj:Sp:=λvs H Q _=>∃(p:Addr)(m:Int),vs=[.ref p,.int m]/\C3 H p/\1<=m/\m<=100/\
 ∀l H'(ns:List Str),H l=none->B1 p H H'->H' l=some (.lst (ns.map V.str))->(ns.length:Int)<=m->(∀x∈ns,Nm x)->ns.Nodup->Q (.ref l) H'
theorem Ru{l:List α}{x:α}(h:l.Nodup)(hx:x∉l):(l++[x]).Nodup:=by
 rw[YH];exact⟨h,by simp,λa d b c=>by
  have:b=x:=by simpa using c
  subst this;rintro rfl;exact hx d⟩
theorem sA{m:Int}(b:0<=j)(h1:j<3)(a:1<=m):∃k:Int,BZ [V.int 0,V.int 1,V.int m] j=some (.int k)/\0<=k/\k<=m:=by
 have:j=0∨j=1∨j=2:=by omega
 rcases this with rfl|rfl|rfl
 .exact⟨0,rfl,by omega,by omega⟩
 .exact⟨1,rfl,by omega,by omega⟩
 .exact⟨m,rfl,by omega,by omega⟩
noncomputable def M8(c:Nat):Bool:=!(Builtin.Str.occurrences HR ⟨#[c]⟩ 0 HR.length 1).isEmpty
def isNm(x:Str):Bool:=decide ((1:Int)<=x.length) && (decide ((x.length:Int)<=8) && x.cps.toList.all M8)
def TJ:Sp:=λvs H Q _=>∃x:Str,vs=[.str x]/\x.length<=1000/\∀H',AJ H H'->Q (.bl (isNm x)) H'
theorem WD(l:List α):l.filter (λ_=>true)=l:=List.filter_eq_self.mpr λ_ _=>rfl
noncomputable def ZK:V->V
 | .str y=>.bl (!(Builtin.Str.occurrences HR y 0 HR.length 1).isEmpty)
 |_=>.bl false
theorem nE(x:Str):((GI x).filter (λ_=>true)).map ZK=(x.cps.toList.map M8).map V.bl:=by
 unfold GI;rw[WD,Gj,Gj];rfl
theorem signs_get{v:V}(h:(GI x)[i]?=some v):∃c,v=.str ⟨#[c]⟩:=by
 unfold GI at h;rw[Bp]at h;cases q:x.cps.toList[i]? with
 |none=>rw[q]at h;cases h
 |some c=>rw[q]at h;simp at h;exact⟨c,h.symm⟩
theorem all_map(f:α->Bool)(l:List α):(l.map f).all id=l.all f:=by rw[List.all_map];rfl
theorem ZCQ{v:V}(h:(ss.map V.str)[i]?=some v):∃x,v=.str x/\x∈ss:=by
 rw[Bp]at h;cases q:ss[i]? with
 |none=>rw[q]at h;cases h
 |some x=>rw[q]at h;simp at h;exact⟨x,h.symm,L6 q⟩
theorem ZBd(xs:List Str):HE (xs.map V.str) (xs.map V.str)=true:=by
 rw[Ll rfl,Ec];intro j a;have b:j<xs.length:=by simpa using a
 have e:(xs.map V.str)[j]?=some (.str xs[j]):=by rw[Bp,Bb b];rfl
 rw[NT e];show(xs[j] == xs[j])=true;simp
def OI(K:ZE7):Sp:=λvs H Q _=>∃(a:Addr)(ns:List Int),vs=[.ref a]/\AO K H a (ns.map V.int)/\ns.length<=63/\∀H',Q (.bl true) H'
inductive BG where
 |put (x:Str) (i:Nat)|take (x:Str)|move (x:Str) (i:Nat)|turn (lo hi:Nat)
noncomputable def BG.vals:BG->List V
 | .put x i=>[.str "put",.str x,.int i]
 | .take x=>[.str "take",.str x]
 | .move x i=>[.str "move",.str x,.int i]
 | .turn lo hi=>[.str "turn",.int lo,.int hi]
def BG.Ok(m:Nat)(ns:List Str):BG->Prop
 | .put x i=>Nm x/\x∉ns/\i<=ns.length/\ns.length<m
 | .take x=>x∈ns
 | .move x i=>x∈ns/\i<ns.length
 | .turn lo hi=>lo<=hi/\hi<=ns.length
noncomputable def ins(ns:List Str)(x:Str)(i:Nat):List Str:=ns.take i++x::ns.drop i
def wo(ns:List Str)(x:Str):List Str:=ns.filter λy=>!decide (y=x)
noncomputable def Bz(ns:List Str)(lo hi:Nat):List Str:=ns.take lo++((ns.drop lo).take (hi - lo)).reverse++ns.drop hi
def BG.done(ns:List Str):BG->List Str
 | .put x i=>ins ns x i
 | .take x=>wo ns x
 | .move x i=>ins (wo ns x) x i
 | .turn lo hi=>Bz ns lo hi
theorem Pm(h:x∉ns):wo ns x=ns:=by
 unfold wo;rw[List.filter_eq_self];intro y a;have:y≠x:=λe=>h (e▸a);simp[this]
theorem DP:y∈wo ns x↔y∈ns/\y≠x:=by
 unfold wo;rw[ig];simp
theorem PU(h:ns.Nodup):(wo ns x).Nodup:=h.filter _
theorem Zo(as bs:List Str)(x:Str):wo (as++bs) x=wo as x++wo bs x:=by unfold wo;rw[iT]
theorem aO(bs:List Str)(x:Str):wo (x::bs) x=wo bs x:=by unfold wo;rw[Y9];simp
theorem W8(h:x∈ns):ns=ns.take (ns.idxOf x)++x::ns.drop (ns.idxOf x+1):=by
 have a:ns.idxOf x<ns.length:=List.idxOf_lt_length_iff.mpr h;have e:ns[ns.idxOf x]=x:=YB a
 conv=>lhs;rw[<- L7 (ns.idxOf x) ns,Y8 a,e]
theorem Yi(h:x∈ns):x∉ns.take (ns.idxOf x):=by
 intro a;obtain⟨m,Ir,e⟩:=List.mem_iff_getElem.mp a;rw[Bx]at Ir;rw[List.getElem_take]at e;exact VB x ns m (by omega) (by omega) e
theorem Z8(h:x∈ns)(nd:ns.Nodup):x∉ns.drop (ns.idxOf x+1):=by
 rw[W8 h]at nd;have h2:=(List.nodup_append.mp nd).2.1;exact(List.nodup_cons.mp h2).1
theorem ZBC(h:x∈ns)(nd:ns.Nodup):wo ns x=ns.take (ns.idxOf x)++ns.drop (ns.idxOf x+1):=by
 conv=>lhs;rw[W8 h]
 rw[Zo,aO,Pm (Yi h),Pm (Z8 h nd)]
theorem Qf(h:x∈ns)(nd:ns.Nodup):(wo ns x).length+1=ns.length:=by
 have a:ns.idxOf x<ns.length:=List.idxOf_lt_length_iff.mpr h;rw[ZBC h nd,Bh,Bx,EF];omega
theorem OU:(ins ns x i).length=ns.length+1:=by
 unfold ins;rw[Bh,C5,Bx,EF];omega
theorem Km:y∈ins ns x i↔y=x∨y∈ns:=by
 unfold ins;rw[Ih,Dg];have:y∈ns↔y∈ns.take i∨y∈ns.drop i:=by rw[<- Ih,L7]
 rw[this];constructor
 .rintro(h|h|h)
  .exact .inr (.inl h)
  .exact .inl h
  .exact .inr (.inr h)
 .rintro(h|h|h)
  .exact .inr (.inl h)
  .exact .inl h
  .exact .inr (.inr h)
theorem VC(h:ns.Nodup)(hx:x∉ns):(ins ns x i).Nodup:=by
 unfold ins;have e:(ns.take i++ns.drop i).Nodup:=by rw[L7];exact h
 obtain⟨h1,h2,f⟩:=List.nodup_append.mp e;rw[YH];refine⟨h1,List.nodup_cons.mpr ⟨λz=>hx (List.mem_of_mem_drop z),h2⟩,λa c b d=>?_⟩;rcases List.mem_cons.mp d with z|z
 .rw[z];rintro rfl;exact hx (YF c)
 .exact f a c b z
theorem WL{lo:Nat}(h1:lo<=hi)(h2:hi<=ns.length):(Bz ns lo hi).length=ns.length:=by
 unfold Bz;rw[Bh,Bh,L4,Bx,Bx,EF,EF];omega
theorem br{lo:Nat}(h1:lo<=hi):ns=ns.take lo++(ns.drop lo).take (hi - lo)++ns.drop hi:=by
 have:ns.drop hi=(ns.drop lo).drop (hi - lo):=by rw[List.drop_drop];congr 1;omega
 rw[this,MO,L7,L7]
theorem bL{lo:Nat}(h1:lo<=hi):y∈Bz ns lo hi↔y∈ns:=by
 conv=>rhs;rw[br (ns:=ns) h1]
 unfold Bz;simp only[Ih,List.mem_reverse]
theorem me{lo:Nat}(h1:lo<=hi)(nd:ns.Nodup):(Bz ns lo hi).Nodup:=by
 have p:List.Perm (Bz ns lo hi) ns:=by
  conv=>rhs;rw[br (ns:=ns) h1]
  unfold Bz;exact((List.reverse_perm _).append_left _).append_right _
 exact p.nodup_iff.mpr nd
theorem BG.step{d:BG}(h:d.Ok m ns)(nd:ns.Nodup)(b:∀x∈ns,Nm x)(c:ns.length<=m):
  (d.done ns).Nodup/\(∀x∈d.done ns,Nm x)/\(d.done ns).length<=m:=by
 cases d with
 |put x i=>
  obtain⟨h1,h2,g,f⟩:=h;refine⟨VC nd h2,λy a=>?_,?_⟩
  .rcases Km.mp a with e|e
   .rw[e];exact h1
   .exact b y e
  .show(ins ns x i).length<=m;rw[OU];omega
 |take x=>
  refine⟨PU nd,λy a=>b y (DP.mp a).1,?_⟩;have:=Qf h nd;show(wo ns x).length<=m;omega
 |move x i=>
  obtain⟨h1,h2⟩:=h;refine⟨VC (PU nd) (λz=>(DP.mp z).2 rfl),λy a=>?_,?_⟩
  .rcases Km.mp a with e|e
   .rw[e];exact b x h1
   .exact b y (DP.mp e).1
  .have:=Qf h1 nd;show(ins (wo ns x) x i).length<=m;rw[OU];omega
 |turn lo hi=>
  obtain⟨h1,h2⟩:=h;exact⟨me h1 nd,λy a=>b y ((bL h1).mp a),by show(Bz ns lo hi).length<=m;rw[WL h1 h2];exact c⟩
noncomputable def FI(tp:Bool)(xs:List V):HO:=match tp with
 |false=>.lst xs
 |true=>.tup xs
theorem FI.sq{K:ZE7}{tp:Bool}(h:H a=some (FI tp xs)):ER K tp H a xs:=by
 cases tp
 .exact AO.of h
 .exact Al.of h
theorem Bw{c A B:Prop}[Decidable c](h:¬ c)(b:B):if c then A else B:=by rw[lA h];exact b
theorem ZBh:∀j,j<26->M8 (97+j)=true:=by decide +kernel
theorem ZAF(h:Nm x):isNm x=true:=by
 obtain⟨h1,h2,f⟩:=h;unfold isNm;rw[lD (by omega),lD (by omega),Ky,Ky,Ec];intro c d;obtain⟨a,b⟩:=f c d;have:=ZBh (c - 97) (by omega);have e:97+(c - 97)=c:=by omega
 rw[e]at this;exact this
theorem Cw(ns:List Str):(ns.map V.str).length=ns.length:=Aw _
end Lw
namespace Fz
open L2 Lw
variable{F F' H H':Hp}{v:V}{FQ vs:List V}{i i0 j n:Nat}{a l:Addr}{r:List V->Hp->VK->Prop}{t:TA}{Z τ:L2.St}{o:HO}{ta tb tc te:TE}{b neg tp:Bool}{f:Int->Int->Bool}{g:TG}{u:TS}{th tl:TO}{X:XK}{wi:TI}{A:List Addr}{Q:VK}
inductive PV where
 |AB|bl (b:Bool)|int (i:Int)|str (x:Str)|lst (xs:List PV)|tup (xs:List PV)
 |Ft (ks:List Key) (xs:List PV)|obj (C:Addr) (ns:List Str) (xs:List PV)|exc (C:Addr) (ns:List Str) (xs:List PV)|con (a:Addr) (xs:List PV)
variable{p:PV}{ps xs:List PV}{k:List PV->Prop}
def Hn(a C:Addr)(dx:Option Addr):HO:=.ext λh=>∃ob vs,h.get? a=some ob/\ob.cls=.ref C/\ob.dict=dx/\ob.data=.fields vs
mutual
inductive Rep (F:Hp):V->PV->Prop where
 |AB:Rep F .AB .AB
 |bl (b:Bool):Rep F (.bl b) (.bl b)
 |int (i:Int):Rep F (.int i) (.int i)
 |str (x:Str):Rep F (.str x) (.str x)
 |lst {a:Addr}{vs:List V}{xs:List PV}:F a=some (.lst vs)->AX F vs xs->Rep F (.ref a) (.lst xs)
 |tup {a:Addr}{vs:List V}{xs:List PV}:F a=some (.tup vs)->AX F vs xs->Rep F (.ref a) (.tup xs)
 |Ft {a:Addr}{ks:List Key}{vs:List V}{xs:List PV}:F a=some (.dK (ks.zip vs))->ks.length=vs.length->AX F vs xs->Rep F (.ref a) (.Ft ks xs)
 |obj {a C dx:Addr}{ns:List Str}{vs:List V}{xs:List PV}:F a=some (.ins C dx (ns.zip vs))->F dx=some (.own a)->ns.length=vs.length->AX F vs xs->Rep F (.ref a) (.obj C ns xs)
 |con {a:Addr}{xs:List PV}:Rep F (.ref a) (.con a xs)
 |Mx {a C:Addr}:F a=some (Hn a C none)->Rep F (.ref a) (.exc C [] [])
 |exc {a C dx:Addr}{ns:List Str}{vs:List V}{xs:List PV}:F a=some (Hn a C (some dx))->F dx=some (.xd (ns.zip vs))->ns.length=vs.length->AX F vs xs->Rep F (.ref a) (.exc C ns xs)
inductive AX (F:Hp):List V->List PV->Prop where
 |nil:AX F [] []
 |cons {v:V}{p:PV}{vs:List V}{ps:List PV}:Rep F v p->AX F vs ps->AX F (v::vs) (p::ps)
end
theorem Rep.mono(s:AJ F F')(r:Rep F v p):Rep F' v p:=
 Rep.rec (motive_1:=λv p _=>Rep F' v p) (motive_2:=λvs ps _=>AX F' vs ps) .AB .bl .int .str (λh _ i=>.lst (s _ _ h) i) (λh _ i=>.tup (s _ _ h) i) (λh e _ i=>.Ft (s _ _ h) e i) (λh h2 e _ i=>.obj (s _ _ h) (s _ _ h2) e i) .con (λh=>.Mx (s _ _ h)) (λh h2 e _ i=>.exc (s _ _ h) (s _ _ h2) e i) .nil (λ_ _ i k=>.cons i k) r
def jR(F:Hp)(v:V):PV->Prop
 | .AB=>v=.AB
 | .bl b=>v=.bl b
 | .int i=>v=.int i
 | .str x=>v=.str x
 | .lst xs=>∃a vs,v=.ref a/\F a=some (.lst vs)/\AX F vs xs
 | .tup xs=>∃a vs,v=.ref a/\F a=some (.tup vs)/\AX F vs xs
 | .Ft ks xs=>∃a vs,v=.ref a/\F a=some (.dK (ks.zip vs))/\ks.length=vs.length/\AX F vs xs
 | .obj C ns xs=>∃a dx vs,v=.ref a/\F a=some (.ins C dx (ns.zip vs))/\F dx=some (.own a)/\ns.length=vs.length/\AX F vs xs
 | .con a _=>v=.ref a
 | .exc C ns xs=>(∃a,v=.ref a/\F a=some (Hn a C none)/\ns=[]/\xs=[])∨∃a dx vs,v=.ref a/\F a=some (Hn a C (some dx))/\F dx=some (.xd (ns.zip vs))/\ns.length=vs.length/\AX F vs xs
theorem Rep.inv(r:Rep F v p):jR F v p:=by
 cases r with
 |lst h r=>exact⟨_,_,rfl,h,r⟩
 |tup h r=>exact⟨_,_,rfl,h,r⟩
 |Ft h l r=>exact⟨_,_,rfl,h,l,r⟩
 |obj h h2 l r=>exact⟨_,_,_,rfl,h,h2,l,r⟩
 |Mx h=>exact .inl ⟨_,rfl,h,rfl,rfl⟩
 |exc h h2 l r=>exact .inr ⟨_,_,_,rfl,h,h2,l,r⟩
 |_=>exact rfl
theorem AX.inv(r:AX F vs (p::ps)):∃v ws,vs=v::ws/\Rep F v p/\AX F ws ps:=by
 cases r with
 |cons r t=>exact⟨_,_,rfl,r,t⟩
theorem AX.Gv(r:AX F vs []):vs=[]:=by
 cases r;rfl
theorem AX.mono(s:AJ F F')(r:AX F vs ps):AX F' vs ps:=by
 induction ps generalizing vs with
 |nil=>cases r.Gv;exact .nil
 |cons p ps c=>obtain⟨v,ws,rfl,a,b⟩:=r.inv;exact .cons (a.mono s) (c b)
theorem AX.length(r:AX F vs ps):vs.length=ps.length:=by
 induction ps generalizing vs with
 |nil=>cases r.Gv;rfl
 |cons p ps c=>obtain⟨v,ws,rfl,a,b⟩:=r.inv;exact qz (· + 1) (c b)
theorem AX.get{F:Hp}{vs:List V}{ps:List PV}{i:Nat}{p:PV}(r:AX F vs ps)(e:ps[i]?=some p):∃v,vs[i]?=some v/\Rep F v p:=by
 induction ps generalizing vs i with
 |nil=>cases e
 |cons q ps c=>
  obtain⟨v,ws,rfl,a,b⟩:=r.inv;cases i with
  |zero=>cases e;exact⟨_,rfl,a⟩
  |succ i=>exact c (vs:=ws) (i:=i) b e
theorem AX.get'(r:AX F vs ps)(e:vs[i]?=some v):∃p,ps[i]?=some p/\Rep F v p:=by
 induction ps generalizing vs i with
 |nil=>cases r.Gv;cases e
 |cons q ps c=>
  obtain⟨u,ws,rfl,a,b⟩:=r.inv;cases i with
  |zero=>cases e;exact⟨_,rfl,a⟩
  |succ i=>exact c (vs:=ws) (i:=i) b e
theorem AX.append{ws:List V}{c:List PV}(r:AX F vs ps)(s:AX F ws c):AX F (vs++ws) (ps++c):=by
 induction ps generalizing vs with
 |nil=>cases r.Gv;exact s
 |cons p ps d=>obtain⟨v,us,rfl,a,b⟩:=r.inv;exact .cons a (d b)
theorem AX.take(n:Nat)(r:AX F vs ps):AX F (vs.take n) (ps.take n):=by
 induction ps generalizing vs n with
 |nil=>cases r.Gv;rw[List.take_nil,List.take_nil];exact .nil
 |cons p ps c=>
  obtain⟨v,us,rfl,a,b⟩:=r.inv;cases n with
  |zero=>exact .nil
  |succ n=>exact .cons a (c n b)
theorem AX.drop(n:Nat)(r:AX F vs ps):AX F (vs.drop n) (ps.drop n):=by
 induction ps generalizing vs n with
 |nil=>cases r.Gv;rw[List.drop_nil,List.drop_nil];exact .nil
 |cons p ps c=>
  cases n with
  |zero=>exact r
  |succ n=>obtain⟨v,us,rfl,a,b⟩:=r.inv;exact c n b
theorem AX.one(r:Rep F v p):AX F [v] [p]:=.cons r .nil
theorem AX.reverse(r:AX F vs ps):AX F vs.reverse ps.reverse:=by
 induction ps generalizing vs with
 |nil=>cases r.Gv;exact .nil
 |cons p ps c=>obtain⟨v,us,rfl,a,b⟩:=r.inv;rw[YI,YI];exact(c b).append (.one a)
noncomputable def flat:PV->Bool
 | .lst _=>false
 | .tup _=>false
 | .Ft _ _=>false
 | .obj _ _ _=>false
 | .exc _ _ _=>false
 | .con _ _=>false
 |_=>true
noncomputable def enc:PV->V
 | .bl b=>.bl b
 | .int i=>.int i
 | .str x=>.str x
 |_=>.AB
theorem Rep.enc(h:flat p=true)(r:Rep F v p):v=enc p:=by
 cases r <;> first|rfl|cases h
theorem kc(h:flat p=true):Rep F (enc p) p:=by
 cases p with
 |AB=>exact .AB
 |bl b=>exact .bl b
 |int i=>exact .int i
 |str x=>exact .str x
 |lst xs=>cases h
 |tup xs=>cases h
 |Ft ks xs=>cases h
 |obj C ns xs=>cases h
 |exc C ns xs=>cases h
 |con a xs=>cases h
theorem AX.enc(h:ps.all flat=true)(r:AX F vs ps):vs=ps.map enc:=by
 induction ps generalizing vs with
 |nil=>exact r.Gv
 |cons p ps c=>
  obtain⟨v,us,rfl,a,b⟩:=r.inv;rw[OK,CG]at h;rw[G8,<- Rep.enc h.1 a,<- c h.2 b]
theorem aE(h:ps.all flat=true):AX F (ps.map enc) ps:=by
 induction ps with
 |nil=>exact .nil
 |cons p r a=>
  rw[OK,CG]at h;exact .cons (kc h.1) (a h.2)
theorem R5(h:flat p=true):Ct (Fz.enc p)=true:=by cases p <;> first|rfl|cases h
theorem Z0(ns:List Str):(ns.map PV.str).all flat=true:=by
 rw[Ec];intro x hx;obtain⟨y,_,rfl⟩:=List.mem_map.mp hx;rfl
theorem tj(ns:List Bool):(ns.map PV.bl).all flat=true:=by
 rw[Ec];intro x hx;obtain⟨y,_,rfl⟩:=List.mem_map.mp hx;rfl
theorem X2(ns:List Str):(ns.map PV.str).map Fz.enc=ns.map V.str:=by rw[Gj];rfl
theorem ZBr(ns:List Bool):(ns.map PV.bl).map Fz.enc=ns.map V.bl:=by rw[Gj];rfl
theorem AX.strs{ns:List Str}(r:AX F vs (ns.map PV.str)):vs=ns.map V.str:=(r.enc (Z0 ns)).trans (X2 ns)
theorem Il(ns:List Str):AX F (ns.map V.str) (ns.map PV.str):=by rw[<- X2];exact aE (Z0 ns)
theorem AX.Yr{ns:List Bool}(r:AX F vs (ns.map PV.bl)):vs=ns.map V.bl:=(r.enc (tj ns)).trans (ZBr ns)
inductive NK where
 |lst|Ft (ks:List Key)|obj (C dx:Addr) (ns:List Str)
noncomputable def NK.ho:NK->List V->HO
 | .lst,vs=>.lst vs
 | .Ft ks,vs=>.dK (ks.zip vs)
 | .obj C dx ns,vs=>.ins C dx (ns.zip vs)
noncomputable def NK.more:NK->List Addr
 | .obj _ dx _=>[dx]
 |_=>[]
def NK.side(k:NK)(a:Addr)(H:Hp):Prop:=match k with
 | .obj _ dx _=>H dx=some (.own a)
 |_=>True
def NK.fit(k:NK)(n:Nat):Prop:=match k with
 | .Ft ks=>ks.length=n
 | .obj _ _ ns=>ns.length=n
 |_=>True
inductive OV where
 |fz (p:PV)
 |tp (xs:List OV)
 |nd (k:NK) (a:Addr) (xs:List OV)
mutual
def OV.addrs:OV->List Addr
 | .fz _=>[]
 | .tp xs=>OV.GL xs
 | .nd k a xs=>a::(k.more++OV.GL xs)
def OV.GL:List OV->List Addr
 | []=>[]
 |x::r=>x.addrs++OV.GL r
end
mutual
inductive Dt (F H:Hp):V->OV->Prop where
 |fz {v:V}{p:PV}:Rep F v p->Dt F H v (.fz p)
 |tp {a:Addr}{vs:List V}{xs:List OV}:F a=some (.tup vs)->LN F H vs xs->Dt F H (.ref a) (.tp xs)
 |nd {k:NK}{a:Addr}{vs:List V}{xs:List OV}:H a=some (k.ho vs)->k.side a H->k.fit vs.length->LN F H vs xs->Dt F H (.ref a) (.nd k a xs)
inductive LN (F H:Hp):List V->List OV->Prop where
 |nil:LN F H [] []
 |cons {v:V}{t:OV}{vs:List V}{ts:List OV}:Dt F H v t->LN F H vs ts->LN F H (v::vs) (t::ts)
end
theorem OV.ZC{k:NK}{xs:List OV}:(OV.nd k a xs).addrs=a::(k.more++OV.GL xs):=by rw[OV.addrs]
theorem OV.fP{xs:List OV}:(OV.tp xs).addrs=OV.GL xs:=by rw[OV.addrs]
theorem OV.xR:(OV.fz p).addrs=[]:=by rw[OV.addrs]
theorem OV.gG{x:OV}{r:List OV}:OV.GL (x::r)=x.addrs++OV.GL r:=by rw[OV.GL]
theorem OV.kY:OV.GL []=[]:=by rw[OV.GL]
theorem NK.rP{k:NK}(h:k.side a H)(s:∀b∈k.more,∀o,H b=some o->H' b=some o):k.side a H':=by
 cases k with
 |obj C dx ns=>exact s dx (by simp[NK.more]) _ h
 |_=>trivial
theorem Dt.mono(f:AJ F F'){t:OV}(r:Dt F H v t):(∀a∈t.addrs,∀o,H a=some o->H' a=some o)->Dt F' H' v t:=
 Dt.rec (motive_1:=λv t _=>(∀a∈t.addrs,∀o,H a=some o->H' a=some o)->Dt F' H' v t) (motive_2:=λvs d _=>(∀a∈OV.GL d,∀o,H a=some o->H' a=some o)->LN F' H' vs d)
  (λr _=>.fz (r.mono f))
  (λh _ i s=>.tp (f _ _ h) (i (by rw[OV.fP]at s;exact s)))
  (λh e j _ i s=>by
   rw[OV.ZC]at s;exact .nd (s _ Bc _ h) (NK.rP e λb g=>s b (By _ (L5 _ g))) j (i λa c=>s a (By _ (HL _ c))))
  (λ_=>.nil)
  (λ_ _ i k s=>by
   rw[OV.gG]at s;exact .cons (i λa c=>s a (L5 _ c)) (k λa c=>s a (HL _ c)))
  r
theorem Dt.there{t:OV}(r:Dt F H v t):∀a∈t.addrs,H a≠none:=
 Dt.rec (motive_1:=λv t _=>∀a∈t.addrs,H a≠none) (motive_2:=λvs d _=>∀a∈OV.GL d,H a≠none)
  (λ_ a c=>by rw[OV.xR]at c;cases c)
  (λ_ _ i a c=>i a (by rw[OV.fP]at c;exact c))
  (λ{k b vs xs}h f g _ i a c=>by
   rw[OV.ZC,Dg,Ih]at c;rcases c with rfl|c|c
   .rw[h];exact λz=>by cases z
   .cases k with
    |obj C dx ns=>
     have e:a=dx:=List.mem_singleton.mp c;rw[e,show H dx=some (.own b)from f];exact λz=>by cases z
    |_=>cases c
   .exact i a c)
  (λa c=>by rw[OV.kY]at c;cases c)
  (λ_ _ i k a c=>by
   rw[OV.gG,Ih]at c;exact c.elim (i a) (k a))
  r
inductive Slot where
 |any|is (p:PV)|own (xs:List PV)|AQ|sq (tp:Bool) (xs:List PV)|raw (P:Hp->V->Prop)|ow (lt:Bool) (t:OV)
variable{ss:List Slot}{s:Slot}{cw nx:List Slot->Prop}
structure Ent0 where
 A:List Addr
 F0:Hp
 H0:Hp
 B:List Addr
variable{E:Ent0}
abbrev E3(A:List Addr)(F H:Hp):Ent0:=⟨A,F,H,[]⟩
def Ok(E:Ent0)(F H:Hp):Slot->Option (Option V)->Prop
 | .any,_=>True
 | .is p,o=>∃v,o=some (some v)/\Rep F v p
 | .own xs,o=>∃l vs,o=some (some (.ref l))/\F l=none/\E.H0 l=none/\H l=some (.lst vs)/\AX F vs xs
 | .AQ,o=>∃l,o=some (some (.ref l))/\F l=none/\(E.H0 l=none∨l∈E.A)/\C3 H l
 | .sq true xs,o=>∃v,o=some (some v)/\Rep F v (.tup xs)
 | .sq false xs,o=>∃l vs,o=some (some (.ref l))/\(l∉E.A/\l∉E.B)/\E.H0 l=some (.lst vs)/\AX F vs xs
 | .raw P,o=>∃v,o=some (some v)/\P F v/\∀F F',AJ F F'->P F v->P F' v
 | .ow lt t,o=>∃v,o=some (some v)/\Dt F H v t/\t.addrs.Nodup/\∀a∈t.addrs,F a=none/\(E.H0 a=none∨(lt=true/\a∈E.B))
def DD:Slot->Option (Option V)->Addr->Prop
 | .own _,o,l=>o=some (some (.ref l))
 | .AQ,o,l=>o=some (some (.ref l))
 | .ow _ t,_,l=>l∈t.addrs
 |_,_,_=>False
structure Fin (E:Ent0) (F H:Hp):Prop where
 fh:AJ F H
 f0:AJ E.F0 F
 keep:∀a o,(a∉E.A/\a∉E.B)->E.H0 a=some o->H a=some o
 fresh:∀a o,F a=some o->E.F0 a=some o∨E.H0 a=none
 HW:∀a,a∈E.A->C3 H a
 M3:∀a,a∈E.A->F a=none
 a0:∀a,a∈E.A->E.H0 a≠none
 bF:∀a,a∈E.B->F a=none
 bH:∀a,a∈E.B->H a≠none
 b0:∀a,a∈E.B->E.H0 a≠none/\a∉E.A
structure Sg (E:Ent0) (ss:List Slot) (Z:L2.St) (F H:Hp):Prop extends Fin E F H where
 len:ss.length=Z.length
 ok:∀(i:Nat)s,ss[i]?=some s->Ok E F H s Z[i]?
 FH:∀(i j:Nat)s u l,i≠j->ss[i]?=some s->ss[j]?=some u->DD s Z[i]? l->¬ DD u Z[j]? l
structure Ex where
 C:Addr
 ns:List Str
 xs:List PV
def Ex.at(x:Ex)(F:Hp)(C:Value)(dx:Option Addr):Prop:=
 C=.ref x.C/\((x.ns=[]/\x.xs=[]/\dx=none)∨∃a vs,dx=some a/\F a=some (.xd (x.ns.zip vs))/\x.ns.length=vs.length/\AX F vs x.xs)
class Xw where
 e:L2.St->XK
 J:List Slot->Prop
 D:Ex->Prop
structure Ent [Xw] extends Ent0 where
 hx:∀(ss:List Slot)(Z:L2.St)(F H:Hp)(x:Ex)(C:Value)(dx:Option Addr),Xw.J ss->Sg toEnt0 ss Z F H->Xw.D x->x.at F C dx->Xw.e Z C dx H
instance [Xw]:CoeOut Ent Ent0:=⟨Ent.toEnt0⟩
instance noX:Xw:=⟨λ_=>E0,λ_=>True,λ_=>False⟩
def ET(ss:List Slot)(Z:L2.St)(a:Addr):Prop:=∀i:Nat,ss[i]?=some .AQ->Z[i]?≠some (some (.ref a))
structure Mv (E:Ent0) (ss:List Slot) (Z:L2.St) (F H F' H':Hp):Prop where
 st:Sg E ss Z F' H'
 ff:AJ F F'
 hh:∀a o,ET ss Z a->H a=some o->H' a=some o
 nn:∀a o,F' a=some o->F a=some o∨H a=none
theorem Sg.Oq(S:Sg E ss Z F H)(h:H l=none):ET ss Z l:=λi hi e=>by
 obtain⟨c,b,_,_,_,_,a,_⟩:=S.ok i _ hi;rw[e]at b;cases b;rw[h]at a;cases a
theorem Mv.none(m:Mv E ss Z F H F' H')(h:H' a=none):H a=none:=by
 cases e:H a with
 |none=>rfl
 |some o=>rw[m.hh a o (m.st.Oq h) e]at h;cases h
theorem Mv.refl{E:Ent0}{ss:List Slot}{Z:L2.St}{F H:Hp}(S:Sg E ss Z F H):Mv E ss Z F H F H:=⟨S,AJ.refl _,λ_ _ _ e=>e,λ_ _ e=>.inl e⟩
theorem Mv.trans{F1 H1 F2 H2:Hp}(a:Mv E ss Z F H F1 H1)(b:Mv E ss Z F1 H1 F2 H2):Mv E ss Z F H F2 H2:=
 ⟨b.st,a.ff.trans b.ff,λc o n e=>b.hh c o n (a.hh c o n e),λc o e=>(b.nn c o e).elim (λe=>a.nn c o e) λe=>.inr (a.none e)⟩
theorem Sg.Hy(S:Sg E ss Z F H){p:Addr}(h:H p=none):E.H0 p=none:=by
 cases e:E.H0 p with
 |none=>rfl
 |some o=>
  by_cases q:p∈E.A
  .obtain⟨_,_,b,_⟩:=S.HW p q;rw[h]at b;cases b
  .by_cases a:p∈E.B
   .exact absurd h (S.bH p a)
   .rw[S.keep p o ⟨q,a⟩ e]at h;cases h
theorem Sg.Cn(S:Sg E ss Z F H){p:Addr}(h:H p=none):F p=none:=AJ.none S.fh h
theorem C3.keep(h:C3 H l)(k:∀o,H l=some o->H' l=some o):C3 H' l:=by
 obtain⟨a,b,e,r⟩:=h;exact⟨a,b,k _ e,r⟩
theorem Sg.Pu(S:Sg E ss Z F H)(h:F l=some o):ET ss Z l:=λi hi e=>by
 obtain⟨c,b,a,_⟩:=S.ok i _ hi;rw[e]at b;cases b;rw[h]at a;cases a
theorem Sg.dO(S:Sg E ss Z F H)(b:l∉E.A)(h:E.H0 l=some o):ET ss Z l:=λi hi e=>by
 obtain⟨c,a,_,q,_⟩:=S.ok i _ hi;rw[e]at a;cases a;rcases q with q|q
 .rw[h]at q;cases q
 .exact b q
theorem Sg.oZ(S:Sg E ss Z F H)(h:l∈E.B):ET ss Z l:=λi hi e=>by
 obtain⟨d,a,_,q,_⟩:=S.ok i _ hi;rw[e]at a;cases a;obtain⟨c,b⟩:=S.b0 l h;rcases q with q|q
 .exact c q
 .exact b q
theorem Sg.ZAS(S:Sg E ss Z F H)(h:ss[i]?=some s)(m:DD s Z[i]? l):H l≠none:=by
 have k:=S.ok i s h;cases s with
 |own xs=>obtain⟨c,vs,a,_,_,b,_⟩:=k;rw[show Z[i]?=some (some (.ref l))from m]at a;cases a;rw[b];simp
 |AQ=>obtain⟨c,a,_,_,_,_,b,_⟩:=k;rw[show Z[i]?=some (some (.ref l))from m]at a;cases a;rw[b];simp
 |ow lt t=>obtain⟨v,_,r,_⟩:=k;exact r.there l m
 |_=>cases m
theorem Sg.RG(S:Sg E ss Z F H)(h:ss[i]?=some s)(a:H l=none):¬ DD s Z[i]? l:=λm=>S.ZAS h m a
theorem Sg.Yn(S:Sg E ss Z F H)(h:ss[i]?=some s)(m:DD s Z[i]? l)(np:s≠.AQ):ET ss Z l:=λj a b=>
 S.FH i j s _ l (by rintro rfl;rw[h]at a;exact np (CH a)) h a m b
theorem Ok.go(S:Sg E ss Z F H){i:Nat}{s:Slot}(hi:ss[i]?=some s)(ff:AJ F F')(f:∀a o,DD s Z[i]? a->H a=some o->H' a=some o)(Cn:∀a,H a≠none->F a=none->F' a=none)(np:s≠.AQ):Ok E F' H' s Z[i]?:=by
 have k:=S.ok i s hi;cases s with
 |any=>trivial
 |is p=>obtain⟨v,e,r⟩:=k;exact⟨v,e,r.mono ff⟩
 |own xs=>
  obtain⟨l,vs,e,d,c,g,r⟩:=k;exact⟨l,vs,e,Cn l (by rw[g];simp) d,c,f l _ e g,r.mono ff⟩
 |AQ=>exact absurd rfl np
 |sq tp xs=>
  cases tp with
  |true=>obtain⟨v,e,r⟩:=k;exact⟨v,e,r.mono ff⟩
  |false=>obtain⟨l,vs,e,d,c,r⟩:=k;exact⟨l,vs,e,d,c,r.mono ff⟩
 |raw P=>obtain⟨v,e,r,st⟩:=k;exact⟨v,e,st _ _ ff r,st⟩
 |ow lt t=>
  obtain⟨v,e,r,nd,q⟩:=k;exact⟨v,e,r.mono ff λa b o=>f a o b,nd,λa b=>⟨Cn a (r.there a b) (q a b).1,(q a b).2⟩⟩
theorem Sg.step(S:Sg E ss Z F H)(ff:AJ F F')(fh:AJ F' H')(c:∀a o,ET ss Z a->H a=some o->H' a=some o)(hn:∀a o,F' a=some o->F a=some o∨H a=none)
  (g:∀(i:Nat)l,ss[i]?=some .AQ->Z[i]?=some (some (.ref l))->C3 H' l):Mv E ss Z F H F' H':=by
 have Cn:∀a,H a≠none->F a=none->F' a=none:=λa h1 h2=>by
  cases e:F' a with
  |none=>rfl
  |some o=>
   rcases hn a o e with q|q
   .rw[h2]at q;cases q
   .exact absurd q h1
 have h:∀a,C3 H a->ET ss Z a->C3 H' a:=λa p n=>C3.keep p λo e=>c a o n e;refine⟨⟨⟨fh,S.f0.trans ff,λa o b e=>?_,λa o e=>?_,λa b=>?_,λa b=>?_,S.a0,λa d=>Cn a (S.bH a d) (S.bF a d),λa d=>?_,S.b0⟩,S.len,λi s hi=>?_,S.FH⟩,ff,c,hn⟩
 .exact c a o (S.dO b.1 e) (S.keep a o b e)
 .rcases hn a o e with q|q
  .exact S.fresh a o q
  .exact .inr (S.Hy q)
 .by_cases q:∃i:Nat,ss[i]?=some .AQ/\Z[i]?=some (some (.ref a))
  .obtain⟨i,k,j⟩:=q;exact g i a k j
  .exact h a (S.HW a b) λi h1 h2=>q ⟨i,h1,h2⟩
 .refine Cn a ?_ (S.M3 a b);obtain⟨_,_,f,_⟩:=S.HW a b;rw[f];simp
 .obtain⟨o,e⟩:=Option.ne_none_iff_exists'.mp (S.bH a d);rw[c a o (S.oZ d) e];simp
 .by_cases np:s=.AQ
  .subst np;obtain⟨l,e,f,u,t⟩:=S.ok i _ hi;have v:=t;obtain⟨_,_,r,_⟩:=v;exact⟨l,e,Cn l (by rw[r];simp) f,u,g i l hi e⟩
  .exact Ok.go S hi ff (λa o m=>c a o (S.Yn hi m np)) Cn np
theorem Sg.Gd(S:Sg E ss Z F H)(hi:ss[i]?=some .AQ)(e:Z[i]?=some (some (.ref l))):C3 H l:=by
 obtain⟨b,a,_,_,p⟩:=S.ok i _ hi;rw[e]at a;cases a;exact p
theorem Sg.alloc(S:Sg E ss Z F H){p:Addr}(h:H p=none)(o:HO):Mv E ss Z F H (upd F p o) (upd H p o):=by
 refine S.step (BX (S.Cn h) _) (λa u e=>?_) (λa u _ e=>BX h o a u e) (λa u e=>?_) λi l hi e=>C3.keep (S.Gd hi e) λu e=>BX h o l u e
 .by_cases q:a=p
  .subst q;rw[AZ]at e ⊢;exact e
  .rw[As q]at e ⊢;exact S.fh a u e
 .by_cases q:a=p
  .subst q;exact .inr h
  .rw[As q]at e;exact .inl e
theorem Sg.make(S:Sg E ss Z F H){p:Addr}(h:H p=none)(o:HO):Mv E ss Z F H F (upd H p o):=
 S.step (AJ.refl _) (S.fh.trans (BX h o)) (λa u _ e=>BX h o a u e) (λa u e=>.inl e) λi l hi e=>C3.keep (S.Gd hi e) λu e=>BX h o l u e
theorem Sg.grow(S:Sg E ss Z F H)(s:AJ H H'):Mv E ss Z F H F H':=
 S.step (AJ.refl _) (S.fh.trans s) (λa u _ e=>s a u e) (λa u e=>.inl e) λi l hi e=>C3.keep (S.Gd hi e) λu e=>s l u e
theorem Sg.setG(S:Sg E ss Z F H)(AN:Ok E F H s (some (some v)))(Yf:∀l,DD s (some (some v)) l->∀(i:Nat)u,i≠j->ss[i]?=some u->¬ DD u Z[i]? l):Sg E (ss.set j s) (Z.set j (some v)) F H:=by
 refine⟨S.toFin,by rw[MS,MS];exact S.len,λi u hi=>?_,λi k u w l M9 hi b d c=>?_⟩
 .by_cases q:i=j
  .subst q;have a:i<ss.length:=by have:=(List.getElem?_eq_some_iff.mp hi).1;simpa using this
   rw[Fc a]at hi;cases hi;rw[Fc (by rw[<- S.len];exact a)];exact AN
  .rw[FF (BJ q)]at hi ⊢;exact S.ok i u hi
 .by_cases q:i=j
  .subst q;have a:i<ss.length:=by have:=(List.getElem?_eq_some_iff.mp hi).1;simpa using this
   rw[Fc a]at hi;rw[Fc (by rw[<- S.len];exact a)]at d;cases hi;rw[FF M9]at b c;exact Yf l d k w (BJ M9) b c
  .rw[FF (BJ q)]at hi d
   by_cases e:k=j
   .subst e;have a:k<ss.length:=by have:=(List.getElem?_eq_some_iff.mp b).1;simpa using this
    rw[Fc a]at b;cases b;rw[Fc (by rw[<- S.len];exact a)]at c;exact Yf l c i u M9 hi d
   .rw[FF (BJ e)]at b c;exact S.FH i k u w l M9 hi b d c
theorem Sg.LP(S:Sg E ss Z F H)(r:Rep F v p):Sg E (ss.set j (.is p)) (Z.set j (some v)) F H:=S.setG ⟨v,rfl,r⟩ λ_ h=>by cases h
def Sv(ss:List Slot)(Z:L2.St)(F H:Hp)(v:V):Bool->List PV->Prop
 |true,xs=>Rep F v (.tup xs)
 |false,xs=>∃l vs,v=.ref l/\ET ss Z l/\H l=some (.lst vs)/\AX F vs xs
def Fv(E:Ent0)(F:Hp)(v:V):Bool->List PV->Prop
 |true,xs=>Rep F v (.tup xs)
 |false,xs=>∃l vs,v=.ref l/\(F l=some (.lst vs)∨((l∉E.A/\l∉E.B)/\E.H0 l=some (.lst vs)))/\AX F vs xs
structure Wp [Xw] (ss:List Slot) (t:TE) (k:PV->Prop):Prop where
 go:∀(E:Ent)(Z:L2.St)(F H:Hp)(Q:VK),Sg E ss Z F H->(∀v p F' H',Mv E ss Z F H F' H'->Rep F' v p->k p->Q v H')->t Z H Q
structure Wn [Xw] (ss:List Slot) (t:TE) (k:List PV->Prop):Prop where
 go:∀(E:Ent)(Z:L2.St)(F H:Hp)(Q:VK),Sg E ss Z F H->(∀l vs xs F' H',Mv E ss Z F H F' H'->F' l=none->H l=none->H' l=some (.lst vs)->AX F' vs xs->k xs->Q (.ref l) H')->t Z H Q
structure Wq [Xw] (ss:List Slot) (t:TE) (k:Bool->List PV->Prop):Prop where
 go:∀(E:Ent)(Z:L2.St)(F H:Hp)(Q:VK),Sg E ss Z F H->(∀v tp xs F' H',Mv E ss Z F H F' H'->Sv ss Z F' H' v tp xs->k tp xs->Q v H')->t Z H Q
structure Wz [Xw] (ss:List Slot) (t:TE) (k:Bool->List PV->Prop):Prop where
 go:∀(E:Ent)(Z:L2.St)(F H:Hp)(Q:VK),Sg E ss Z F H->(∀v tp xs F' H',Mv E ss Z F H F' H'->Fv E F' v tp xs->k tp xs->Q v H')->t Z H Q
structure Wt [Xw] (ss:List Slot) (t:TT) (k:Bool->Prop):Prop where
 go:∀(E:Ent)(Z:L2.St)(F H:Hp)(Q:Bool->Hp->Prop),Sg E ss Z F H->(∀b F' H',Mv E ss Z F H F' H'->k b->Q b H')->t Z H Q
def Av(ss:List Slot)(Z:L2.St)(F H:Hp)(v:V):Slot->Prop
 | .is p=>Rep F v p
 | .sq tp xs=>Sv ss Z F H v tp xs
 | .raw P=>P F v/\∀F F',AJ F F'->P F v->P F' v
 |_=>False
inductive Hl (ss:List Slot) (Z:L2.St) (F H:Hp):List V->List Slot->Prop where
 |nil:Hl ss Z F H [] []
 |cons {v:V}{s:Slot}{vs:List V}{l:List Slot}:Av ss Z F H v s->Hl ss Z F H vs l->Hl ss Z F H (v::vs) (s::l)
structure Wa [Xw] (ss:List Slot) (t:TA) (k:List Slot->Prop):Prop where
 go:∀(E:Ent)(Z:L2.St)(F H:Hp)(Q:List V->Hp->Prop),Sg E ss Z F H->(∀vs l F' H',Mv E ss Z F H F' H'->Hl ss Z F' H' vs l->k l->Q vs H')->t Z H Q
inductive BD where
 |is (k:PV->Prop)|new (k:List PV->Prop)|AQ|ow (k:OV->Prop)|mt (k:PV->OV->Prop)|mt2 (k:PV->OV->OV->Prop)
noncomputable def OV.val:OV->V
 | .nd _ a _=>.ref a
 |_=>.AB
def BD.ok(R:BD)(E:Ent0)(F' H':Hp)(v:V):Prop:=match R with
 | .is k=>∃p,Rep F' v p/\k p
 | .new k=>∃l vs xs,v=.ref l/\F' l=none/\E.H0 l=none/\H' l=some (.lst vs)/\AX F' vs xs/\k xs
 | .AQ=>∃l,v=.ref l/\F' l=none/\E.H0 l=none/\C3 H' l
 | .ow k=>∃t,Dt F' H' v t/\t.addrs.Nodup/\(∀a∈t.addrs,F' a=none/\E.H0 a=none)/\k t
 | .mt k=>∃p t,Rep F' v p/\Dt F' H' t.val t/\t.addrs.Nodup/\(∀a∈t.addrs,F' a=none/\(E.H0 a=none∨a∈E.B))/\k p t
 | .mt2 k=>∃p t u,Rep F' v p/\Dt F' H' t.val t/\Dt F' H' u.val u/\(t.addrs++u.addrs).Nodup/\(∀a∈t.addrs++u.addrs,F' a=none/\(E.H0 a=none∨a∈E.B))/\k p t u
structure Ws [Xw] (ss:List Slot) (t:TS) (nx:List Slot->Prop) (R:BD):Prop where
 go:∀(E:Ent)(D:Ends)(Z:L2.St)(F H:Hp),Sg E ss Z F H->(∀AK σ' F' H',nx AK->Sg E AK σ' F' H'->AJ F F'->D.nx σ' H')->(∀v F' H',Fin E F' H'->R.ok E F' H' v->D.rt v H')->t D Z H
section
variable[Xw]
variable{K:ZE7}{k:PV->Prop}{R:BD}
theorem Sv.mv(h:Sv ss Z F H v tp xs)(m:Mv E ss Z F H F' H'):Sv ss Z F' H' v tp xs:=by
 cases tp with
 |true=>exact Rep.mono m.ff h
 |false=>
  obtain⟨l,vs,e,n,r,q⟩:=h;exact⟨l,vs,e,n,m.hh l _ n r,q.mono m.ff⟩
theorem Sv.seq(S:Sg E ss Z F H)(h:Sv ss Z F H v tp xs):∃l vs,v=.ref l/\H l=some (FI tp vs)/\AX F vs xs:=by
 cases tp with
 |true=>cases h with|tup e r=>exact⟨_,_,rfl,S.fh _ _ e,r⟩
 |false=>obtain⟨l,vs,e,_,r,q⟩:=h;exact⟨l,vs,e,r,q⟩
theorem Fv.sv(S:Sg E ss Z F H)(h:Fv E F v tp xs):Sv ss Z F H v tp xs:=by
 cases tp with
 |true=>exact h
 |false=>
  obtain⟨l,vs,e,h1|⟨a,h1⟩,r⟩:=h
  .exact⟨l,vs,e,S.Pu h1,S.fh _ _ h1,r⟩
  .exact⟨l,vs,e,S.dO a.1 h1,S.keep _ _ a h1,r⟩
theorem A6(h:ss[i]?=some (.is p))(b:k p):Wp ss (Cg i) k:=⟨λE Z F H Q S q=>by
 obtain⟨v,a,r⟩:=S.ok i _ h;exact⟨v,a,q v p F H (.refl S) r b⟩⟩
theorem Ce{i:Int}(a:k (.int i)):Wp ss (tC (.int i)) k:=⟨λE Z F H Q S q=>q _ _ F H (.refl S) (.int i) a⟩
theorem ES{x:Str}(a:k (.str x)):Wp ss (tC (.str x)) k:=⟨λE Z F H Q S q=>q _ _ F H (.refl S) (.str x) a⟩
theorem HD(a:k (.bl b)):Wp ss (tC (.bl b)) k:=⟨λE Z F H Q S q=>q _ _ F H (.refl S) (.bl b) a⟩
theorem Kd(a:k .AB):Wp ss (tC .AB) k:=⟨λE Z F H Q S q=>q _ _ F H (.refl S) .AB a⟩
theorem CN(h:Wn ss te (λxs=>k (.lst xs))):Wp ss te k:=⟨λE Z F H Q S q=>h.go E Z F H Q S λl vs xs F' H' m c f DJ r kk=>by
 have b:=m.st;have fr:Mv E ss Z F H (upd F' l (.lst vs)) H':=by
  have A:∀a,H' a≠none->a≠l->F' a=none->upd F' l (.lst vs) a=none:=λa _ h1 h2=>by rw[As h1];exact h2
  refine⟨⟨⟨λa u e=>?_,b.f0.trans (BX c _),b.keep,λa u e=>?_,b.HW,λa z=>?_,b.a0,λa y=>?_,b.bH,b.b0⟩,b.len,λi s hi=>?_,b.FH⟩,m.ff.trans (BX c _),m.hh,λa u e=>?_⟩
  .by_cases q:a=l
   .subst q;rw[AZ]at e;rw[<- e];exact DJ
   .rw[As q]at e;exact b.fh a u e
  .by_cases q:a=l
   .subst q;exact .inr (S.Hy f)
   .rw[As q]at e;exact b.fresh a u e
  .by_cases q:a=l
   .subst q;obtain⟨_,_,e,_⟩:=S.HW _ z;rw[f]at e;cases e
   .rw[As q];exact b.M3 a z
  .by_cases q:a=l
   .subst q;exact absurd f (S.bH _ y)
   .rw[As q];exact b.bF a y
  .have x:∀a,DD s Z[i]? a->a≠l:=by
    rintro a m rfl;exact S.RG hi f m
   have kk:=b.ok i s hi;cases s with
   |any=>trivial
   |is p=>obtain⟨v,e,r⟩:=kk;exact⟨v,e,r.mono (BX c _)⟩
   |own ys=>
    obtain⟨d,ws,e,j,g,w,r⟩:=kk;exact⟨d,ws,e,by rw[As (x d e)];exact j,g,w,r.mono (BX c _)⟩
   |AQ=>
    obtain⟨d,e,j,g,w⟩:=kk;exact⟨d,e,by rw[As (x d e)];exact j,g,w⟩
   |sq tp ys=>
    cases tp with
    |true=>obtain⟨v,e,r⟩:=kk;exact⟨v,e,r.mono (BX c _)⟩
    |false=>obtain⟨d,ws,e,j,g,r⟩:=kk;exact⟨d,ws,e,j,g,r.mono (BX c _)⟩
   |raw P=>obtain⟨v,e,r,st⟩:=kk;exact⟨v,e,st _ _ (BX c _) r,st⟩
   |ow lt t=>
    obtain⟨v,e,r,nd,q⟩:=kk;exact⟨v,e,r.mono (BX c _) λa _ o h=>h,nd,λa n=>⟨by rw[As (x a n)];exact(q a n).1,(q a n).2⟩⟩
  .by_cases q:a=l
   .subst q;exact .inr f
   .rw[As q]at e;exact m.nn a u e
 exact q _ _ _ _ fr (.lst AZ (r.mono (BX c _))) kk⟩
theorem Fs{k:Bool->List PV->Prop}(h:Wp ss te (λp=>∃xs,(p=.lst xs/\k false xs)∨(p=.tup xs/\k true xs))):Wq ss te k:=⟨λE Z F H Q S q=>h.go E Z F H Q S λv p F' H' m r AR=>by
 obtain⟨xs,h⟩:=AR;rcases h with⟨rfl,kk⟩|⟨rfl,kk⟩
 .cases r with|lst h r=>exact q _ false xs F' H' m ⟨_,_,rfl,m.st.Pu h,m.st.fh _ _ h,r⟩ kk
 .exact q v true xs F' H' m r kk⟩
theorem En{k:Bool->List PV->Prop}(h:ss[i]?=some (.is (.lst xs)))(a:k false xs):Wq ss (Cg i) k:=Fs (A6 h ⟨xs,.inl ⟨rfl,a⟩⟩)
theorem m8{k:Bool->List PV->Prop}(h:ss[i]?=some (.is (.tup xs)))(a:k true xs):Wq ss (Cg i) k:=Fs (A6 h ⟨xs,.inr ⟨rfl,a⟩⟩)
theorem FZ{k:Bool->List PV->Prop}(h:ss[i]?=some (.own xs))(a:k false xs):Wq ss (Cg i) k:=⟨λE Z F H Q S q=>by
 obtain⟨l,vs,e,d,c,b,r⟩:=S.ok i _ h;exact⟨_,e,q _ false xs F H (.refl S) ⟨l,vs,rfl,S.Yn h e (by simp),b,r⟩ a⟩⟩
theorem cG{k:Bool->List PV->Prop}(h:ss[i]?=some (.sq tp xs))(a:k tp xs):Wz ss (Cg i) k:=⟨λE Z F H Q S q=>by
 have kk:=S.ok i _ h;cases tp with
 |true=>obtain⟨v,e,r⟩:=kk;exact⟨_,e,q _ true xs F H (.refl S) r a⟩
 |false=>
  obtain⟨l,vs,e,b,c,r⟩:=kk;exact⟨_,e,q _ false xs F H (.refl S) ⟨l,vs,rfl,.inr ⟨b,c⟩,r⟩ a⟩⟩
theorem QJ{k:Bool->List PV->Prop}(h:Wp ss te (λp=>∃xs,(p=.lst xs/\k false xs)∨(p=.tup xs/\k true xs))):Wz ss te k:=⟨λE Z F H Q S q=>h.go E Z F H Q S λv p F' H' m r AR=>by
 obtain⟨xs,h⟩:=AR;rcases h with⟨rfl,kk⟩|⟨rfl,kk⟩
 .cases r with|lst h r=>exact q _ false xs F' H' m ⟨_,_,rfl,.inl h,r⟩ kk
 .exact q _ true xs F' H' m r kk⟩
theorem bg{k:Bool->List PV->Prop}(h:Wz ss te k):Wq ss te k:=⟨λE Z F H Q S q=>h.go E Z F H Q S λv tp xs F' H' m f kk=>q v tp xs F' H' m (f.sv m.st) kk⟩
theorem B2{k:Bool->List PV->Prop}(h:ss[i]?=some (.sq tp xs))(a:k tp xs):Wq ss (Cg i) k:=bg (cG h a)
theorem t9{f:Int->Int->Int}(h:Wp ss ta λx=>∃i,x=.int i/\Wp ss tb λy=>∃j,y=.int j/\k (.int (f i j))):Wp ss (Bo (GJ λi j=>.int (f i j)) ta tb) k:=⟨λE Z F H Q S q=>
 h.go E Z F H _ S λv p F1 H1 a c AR=>by
  obtain⟨i,g,h2⟩:=AR;subst g;cases c.inv;exact h2.go E Z F1 H1 _ a.st λl p2 F2 H2 d b DI=>by
   obtain⟨j,e,kk⟩:=DI;subst e;cases b.inv;exact⟨i,j,rfl,rfl,q _ _ F2 H2 (a.trans d) (.int _) kk⟩⟩
theorem u3(h:Wp ss ta λx=>∃i,x=.int i/\Wp ss tb λy=>∃j,y=.int j/\k (.bl (f i j))):Wp ss (Bo (GJ λi j=>.bl (f i j)) ta tb) k:=⟨λE Z F H Q S q=>
 h.go E Z F H _ S λv p F1 H1 a c AR=>by
  obtain⟨i,g,h2⟩:=AR;subst g;cases c.inv;exact h2.go E Z F1 H1 _ a.st λl p2 F2 H2 d b DI=>by
   obtain⟨j,e,kk⟩:=DI;subst e;cases b.inv;exact⟨i,j,rfl,rfl,q _ _ F2 H2 (a.trans d) (.bl _) kk⟩⟩
theorem QU{f:Int->Int}(h:Wp ss ta λx=>∃i,x=.int i/\k (.int (f i))):Wp ss (Xs (rU λi=>.int (f i)) ta) k:=⟨λE Z F H Q S q=>
 h.go E Z F H _ S λv p F1 H1 b a AR=>by
  obtain⟨i,c,kk⟩:=AR;subst c;cases a.inv;exact⟨i,rfl,q _ _ F1 H1 b (.int _) kk⟩⟩
noncomputable def alike:PV->PV->Bool
 | .int i,.int j=>decide (i=j)
 | .str i,.str j=>decide (i=j)
 | .bl i,.bl j=>decide (i=j)
 | .AB,.AB=>true
 |_,_=>false
def ML(p q:PV):Bool:=flat p && flat q && Vs (Fz.enc p) (Fz.enc q)
theorem cS{q:PV}(h:ML p q=true):decide (Fz.enc p=Fz.enc q)=alike p q:=by
 unfold ML at h;rw[CG,CG]at h;obtain⟨⟨h1,h2⟩,a⟩:=h;cases p <;> first|exact Bool.noConfusion h1|skip
 all_goals cases q <;> first|exact Bool.noConfusion h2|exact Bool.noConfusion a|rfl|exact decide_eq_decide.mpr ⟨λe=>by injection e,qz _⟩
theorem IK(h:Wp ss ta λx=>Wp ss tb λy=>ML x y=true/\k (.bl (alike x y))):Wp ss (Bo cq ta tb) k:=⟨λE Z F H Q S q=>
 h.go E Z F H _ S λv p F1 H1 a c h2=>h2.go E Z F1 H1 _ a.st λf p2 F2 H2 d b AR=>by
  obtain⟨sc,kk⟩:=AR;have e:=sc;unfold ML at sc;rw[CG,CG]at sc;rw[c.enc sc.1.1,b.enc sc.1.2];refine⟨sc.2,?_⟩;rw[cS e];exact q _ _ F2 H2 (a.trans d) (.bl _) kk⟩
theorem dH(h:Wp ss ta λx=>Wp ss tb λy=>ML x y=true/\k (.bl (!alike x y))):Wp ss (Bo iF ta tb) k:=⟨λE Z F H Q S q=>
 h.go E Z F H _ S λv p F1 H1 a c h2=>h2.go E Z F1 H1 _ a.st λf p2 F2 H2 d b AR=>by
  obtain⟨sc,kk⟩:=AR;have e:=sc;unfold ML at sc;rw[CG,CG]at sc;rw[c.enc sc.1.1,b.enc sc.1.2];refine⟨sc.2,?_⟩;rw[cS e];exact q _ _ F2 H2 (a.trans d) (.bl _) kk⟩
theorem Je(h:Wp ss ta λx=>∃c,x=.bl c/\if c=true then Wp ss tb k else k (.bl false)):Wp ss (VJ ta tb) k:=⟨λE Z F H Q S q=>
 h.go E Z F H _ S λv p F1 H1 a d AR=>by
  obtain⟨c,e,h2⟩:=AR;subst e;cases d.inv;refine⟨c,rfl,?_⟩;cases c with
  |true=>rw[lO rfl]at h2 ⊢;exact h2.go E Z F1 H1 _ a.st λg p2 F2 H2 f b kk=>q _ _ F2 H2 (a.trans f) b kk
  |false=>rw[lA (by decide)]at h2 ⊢;exact q _ _ F1 H1 a (.bl _) h2⟩
theorem aG(h:Wp ss ta λx=>∃c,x=.bl c/\if c=true then k (.bl true)else Wp ss tb k):Wp ss (WN ta tb) k:=⟨λE Z F H Q S q=>
 h.go E Z F H _ S λv p F1 H1 a d AR=>by
  obtain⟨c,e,h2⟩:=AR;subst e;cases d.inv;refine⟨c,rfl,?_⟩;cases c with
  |true=>rw[lO rfl]at h2 ⊢;exact q _ _ F1 H1 a (.bl _) h2
  |false=>rw[lA (by decide)]at h2 ⊢;exact h2.go E Z F1 H1 _ a.st λg p2 F2 H2 f b kk=>q _ _ F2 H2 (a.trans f) b kk⟩
theorem Kc{g:Int->Int->Bool}(h:Wp ss ta λx=>∃i,x=.int i/\Wp ss tb λy=>∃j,y=.int j/\if f i j=true then Wp ss tc (λz=>∃l,z=.int l/\k (.bl (g j l)))else k (.bl false)):
  Wp ss (Mi (GJ λi j=>.bl (f i j)) (GJ λi j=>.bl (g i j)) ta tb tc) k:=⟨λE Z F H Q S q=>
 h.go E Z F H _ S λv p F1 H1 d o AR=>by
  obtain⟨i,u,h2⟩:=AR;subst u;cases o.inv;exact h2.go E Z F1 H1 _ d.st λA p2 F2 H2 b n DI=>by
   obtain⟨j,t,a⟩:=DI;subst t;cases n.inv;refine⟨i,j,rfl,rfl,f i j,rfl,?_⟩;cases c:f i j with
   |true=>
    rw[c,lO rfl]at a;rw[lO rfl];exact a.go E Z F2 H2 _ b.st λw p3 F3 H3 r m e=>by
     obtain⟨l,s,kk⟩:=e;subst s;cases m.inv;exact⟨j,l,rfl,rfl,q _ _ F3 H3 (d.trans (b.trans r)) (.bl _) kk⟩
   |false=>
    rw[c,lA (by decide)]at a;rw[lA (by decide)];exact q _ _ F2 H2 (d.trans b) (.bl _) a⟩
theorem EV{k:Bool->Prop}(h:Wp ss te λx=>∃c,x=.bl c/\k c):Wt ss (MG te) k:=⟨λE Z F H Q S q=>
 h.go E Z F H _ S λv p F1 H1 b a AR=>by obtain⟨c,e,kk⟩:=AR;subst e;cases a.inv;exact⟨c,rfl,q _ F1 H1 b kk⟩⟩
theorem EU{k:Bool->Prop}(h:Wp ss te λx=>∃c,x=.bl c/\k c):Wt ss (tB te) k:=⟨λE Z F H Q S q=>
 h.go E Z F H _ S λv p F1 H1 b a AR=>by obtain⟨c,e,kk⟩:=AR;subst e;cases a.inv;exact⟨c,rfl,q _ F1 H1 b kk⟩⟩
theorem Md{k:Bool->Prop}(h:k true):Wt ss Pl k:=⟨λE Z F H Q S q=>q _ F H (.refl S) h⟩
theorem DK{t:TT}{k:Bool->Prop}(h:Wt ss t λc=>k (!c)):Wt ss (XI t) k:=⟨λE Z F H Q S q=>h.go E Z F H _ S λc F1 H1 a kk=>q _ F1 H1 a kk⟩
theorem LB{t u:TT}{k:Bool->Prop}(h:Wt ss t λc=>if c=true then Wt ss u k else k false):Wt ss (VR t u) k:=⟨λE Z F H Q S q=>
 h.go E Z F H _ S λc F1 H1 a h2=>by
  show if c=true then _ else _
  cases c with
  |true=>rw[lO rfl]at h2 ⊢;exact h2.go E Z F1 H1 _ a.st λc2 F2 H2 b kk=>q _ F2 H2 (a.trans b) kk
  |false=>rw[lA (by decide)]at h2 ⊢;exact q _ F1 H1 a h2⟩
theorem N5{t u:TT}{k:Bool->Prop}(h:Wt ss t λc=>if c=true then k true else Wt ss u k):Wt ss (XO t u) k:=⟨λE Z F H Q S q=>
 h.go E Z F H _ S λc F1 H1 a h2=>by
  show if c=true then _ else _
  cases c with
  |true=>rw[lO rfl]at h2 ⊢;exact q _ F1 H1 a h2
  |false=>rw[lA (by decide)]at h2 ⊢;exact h2.go E Z F1 H1 _ a.st λc2 F2 H2 b kk=>q _ F2 H2 (a.trans b) kk⟩
end
structure We [Xw] (ss:List Slot) (t:TA) (k:List PV->Prop):Prop where
 go:∀(E:Ent)(Z:L2.St)(F H:Hp)(Q:List V->Hp->Prop),Sg E ss Z F H->(∀vs ps F' H',Mv E ss Z F H F' H'->AX F' vs ps->k ps->Q vs H')->t Z H Q
structure Wo [Xw] (ss:List Slot) (t:TO) (k:Option Int->Prop):Prop where
 go:∀(E:Ent)(Z:L2.St)(F H:Hp)(Q:Option Int->Hp->Prop),Sg E ss Z F H->(∀o F' H',Mv E ss Z F H F' H'->k o->Q o H')->t Z H Q
section
variable[Xw]
variable{K:ZE7}{k:PV->Prop}{R:BD}
theorem Bs{k:List PV->Prop}(h:k []):We ss Bl k:=⟨λE Z F H Q S q=>q _ _ F H (.refl S) .nil h⟩
theorem B6{k:List PV->Prop}(h:Wp ss te λp=>We ss t λps=>k (p::ps)):We ss (BH te t) k:=⟨λE Z F H Q S q=>
 h.go E Z F H _ S λv p F1 H1 b d h2=>h2.go E Z F1 H1 _ b.st λvs ps F2 H2 a c kk=>q _ _ F2 H2 (b.trans a) (.cons (d.mono a.ff) c) kk⟩
theorem Ai{k:List Slot->Prop}(h:k []):Wa ss Bl k:=⟨λE Z F H Q S q=>q _ _ F H (.refl S) .nil h⟩
theorem AG{k:List Slot->Prop}(h:Wp ss te λp=>Wa ss t λl=>k (.is p::l)):Wa ss (BH te t) k:=⟨λE Z F H Q S q=>
 h.go E Z F H _ S λv p F1 H1 b d h2=>h2.go E Z F1 H1 _ b.st λvs l F2 H2 a c kk=>q _ _ F2 H2 (b.trans a) (.cons (s:=.is p) (d.mono a.ff) c) kk⟩
theorem Aj{k:List Slot->Prop}(h:Wq ss te λtp xs=>Wa ss t λl=>k (.sq tp xs::l)):Wa ss (BH te t) k:=⟨λE Z F H Q S q=>
 h.go E Z F H _ S λv tp xs F1 H1 b d h2=>h2.go E Z F1 H1 _ b.st λvs l F2 H2 a c kk=>q _ _ F2 H2 (b.trans a) (.cons (s:=.sq tp xs) (d.mv a) c) kk⟩
theorem ZCT{k:Option Int->Prop}(h:k none):Wo ss VT k:=⟨λE Z F H Q S q=>q _ F H (.refl S) h⟩
theorem wV{k:Option Int->Prop}(h:Wp ss te λp=>∃i,p=.int i/\k (some i)):Wo ss (VE te) k:=⟨λE Z F H Q S q=>
 h.go E Z F H _ S λv p F1 H1 b a AR=>by obtain⟨i,e,kk⟩:=AR;subst e;cases a.inv;exact⟨i,rfl,q _ F1 H1 b kk⟩⟩
theorem Za(h:n<=99999):n<sizeLine:=Cu (Nat.lt_succ_of_le h) (small (Az 100000))
theorem EZ(h:We ss t λps=>ps.length<=100000/\k (.tup ps)):Wp ss (Sd t) k:=⟨λE Z F H Q S q=>
 h.go E Z F H _ S λvs ps F1 H1 d b AR=>by obtain⟨e,kk⟩:=AR;exact⟨small (by rw[b.length];exact e),λa f=>by
  have c:=d.st.alloc f (.tup vs);exact q _ _ _ _ (d.trans c) (.tup AZ (b.mono c.ff)) kk⟩⟩
theorem EY{k:List PV->Prop}(h:We ss t λps=>ps.length<=100000/\k ps):Wn ss (Sm t) k:=⟨λE Z F H Q S q=>
 h.go E Z F H _ S λvs ps F1 H1 b d AR=>by obtain⟨g,kk⟩:=AR;exact⟨small (by rw[d.length];exact g),λa c=>by
  have f:=b.st.make c (.lst vs);refine q a vs ps F1 _ (b.trans f) (b.st.Cn c) ?_ AZ d kk;cases e:H a with
  |none=>rfl
  |some o=>rw[b.hh a o (b.st.Oq c) e]at c;cases c⟩⟩
theorem wb(h:Wq ss te λ_ xs=>k (.int xs.length)):Wp ss (DA (dz K) (BH te Bl)) k:=⟨λE Z F H Q S q=>
 h.go E Z F H _ S λv tp xs F1 H1 a sv kk=>by
  obtain⟨l,vs,rfl,b,r⟩:=sv.seq a.st;refine⟨l,vs,rfl,(FI.sq (K:=K) b).or,?_⟩;rw[r.length];exact q _ _ F1 H1 a (.int _) kk⟩
theorem AX.BZ{i:Int}(r:AX F vs xs)(h:L2.BZ xs i=some p):∃u,L2.BZ vs i=some u/\Rep F u p:=by
 unfold L2.BZ at h ⊢;rw[r.length];cases e:Hv xs.length i with
 |none=>rw[e]at h;cases h
 |some j=>
  rw[e]at h;exact r.get h
theorem GX(h:Wq ss ta λtp xs=>tp=false/\Wp ss tb λy=>∃i p,y=.int i/\L2.BZ xs i=some p/\k p):Wp ss (Bo (XX K) ta tb) k:=⟨λE Z F H Q S q=>
 h.go E Z F H _ S λv tp xs F1 H1 b sv⟨m,h2⟩=>h2.go E Z F1 H1 _ b.st λn p2 F2 H2 a d⟨i,p,e,j,kk⟩=>by
  subst e;cases d.inv;subst m;obtain⟨l,vs,rfl,g,r⟩:=(sv.mv a).seq a.st;obtain⟨u,f,c⟩:=r.BZ j;exact⟨l,vs,i,u,rfl,rfl,AO.of g,f,q _ _ F2 H2 (b.trans a) c kk⟩⟩
theorem z8(h:Wq ss ta λtp xs=>tp=true/\Wp ss tb λy=>∃i p,y=.int i/\L2.BZ xs i=some p/\k p):Wp ss (Bo (MZ K) ta tb) k:=⟨λE Z F H Q S q=>
 h.go E Z F H _ S λv tp xs F1 H1 b sv⟨m,h2⟩=>h2.go E Z F1 H1 _ b.st λn p2 F2 H2 a d⟨i,p,e,j,kk⟩=>by
  subst e;cases d.inv;subst m;obtain⟨l,vs,rfl,g,r⟩:=(sv.mv a).seq a.st;obtain⟨u,f,c⟩:=r.BZ j;exact⟨l,vs,i,u,rfl,rfl,Al.of g,f,q _ _ F2 H2 (b.trans a) c kk⟩⟩
theorem Zb(h:Wp ss ta λp=>∃x,p=.str x/\Wq ss tb λ_ ys=>∃ns:List Str,ys=ns.map PV.str/\k (.bl (if neg then !decide (x∈ns)else decide (x∈ns)))):Wp ss (Bo (HX K neg) ta tb) k:=⟨λE Z F H Q S q=>
 h.go E Z F H _ S λv p F1 H1 b d AR=>by
  obtain⟨x,e,h2⟩:=AR;subst e;cases d.inv;exact h2.go E Z F1 H1 _ b.st λg tp ys F2 H2 a sv DI=>by
   obtain⟨ns,f,kk⟩:=DI;subst f;obtain⟨l,vs,rfl,c,r⟩:=sv.seq a.st;rw[r.strs]at c;refine⟨l,_,rfl,(FI.sq (K:=K) c).or,rfl,HY ns,?_⟩;rw[Nn];exact q _ _ F2 H2 (b.trans a) (.bl _) kk⟩
theorem ZAr{k:List PV->Prop}(e:r=λxs H Q=>∃p ys,xs=[.ref p]/\(AO K H p ys∨Al K H p ys)/\∀l,H l=none->Q (.ref l) (upd H l (.lst ys)))(h:Wq ss te λ_ xs=>k xs):Wn ss (DA r (BH te Bl)) k:=⟨λE Z F H Q S q=>
 h.go E Z F H _ S λv tp xs F1 H1 b sv kk=>by
  subst e;obtain⟨l,vs,rfl,f,r⟩:=sv.seq b.st;refine⟨l,vs,rfl,(FI.sq (K:=K) f).or,λa c=>?_⟩;have d:=b.st.make c (.lst vs);exact q a vs xs F1 _ (b.trans d) (b.st.Cn c) (b.none c) AZ r kk⟩
theorem Uu(d:r=λxs H Q=>∃p ys,xs=[.ref p]/\((AO K H p ys/\∀l,H l=none->Q (.ref l) (upd H l (.tup ys)))∨(Al K H p ys/\Q (.ref p) H)))(h:Wq ss te λ_ xs=>k (.tup xs)):Wp ss (DA r (BH te Bl)) k:=⟨λE Z F H Q S q=>
 h.go E Z F H _ S λv tp xs F1 H1 b sv kk=>by
  subst d;cases tp with
  |false=>
   obtain⟨l,vs,rfl,f,r⟩:=sv.seq b.st;refine⟨l,vs,rfl,.inl ⟨AO.of f,λa g=>?_⟩⟩;have c:=b.st.alloc g (.tup vs);exact q _ _ _ _ (b.trans c) (.tup AZ (r.mono c.ff)) kk
  |true=>
   have i:Rep F1 v (.tup xs):=sv;cases i with
   |tup e r=>exact⟨_,_,rfl,.inr ⟨Al.of (b.st.fh _ _ e),q _ _ F1 H1 b (.tup e r) kk⟩⟩⟩
theorem Pr{k:List PV->Prop}(h:Wq ss ta λtp xs=>tp=false/\Wq ss tb λBt ys=>Bt=false/\xs.length+ys.length<=100000/\k (xs++ys)):Wn ss (Bo eJ ta tb) k:=⟨λE Z F H Q S q=>
 h.go E Z F H _ S λv tp xs F1 H1 c sv⟨j,h2⟩=>h2.go E Z F1 H1 _ c.st λm Bt ys F2 H2 b K8⟨Wb,g,kk⟩=>by
  subst j;subst Wb;obtain⟨l,vs,rfl,i,r⟩:=(sv.mv b).seq b.st;obtain⟨l2,N3,rfl,C6,e⟩:=K8.seq b.st;refine⟨l,l2,vs,N3,rfl,rfl,i,C6,small (by rw[r.length,e.length];exact g),λa d=>?_⟩;have f:=b.st.make d (.lst (vs++N3));exact q a _ _ F2 _ (c.trans (b.trans f)) (b.st.Cn d) ((c.trans b).none d) AZ (r.append e) kk⟩
def EB{α:Type}(xs:List α)(lo hi:Option Int):List α:=(xs.drop (HT.Aq xs.length 0 lo)).take (HT.Aq xs.length xs.length hi - HT.Aq xs.length 0 lo)
theorem AX.cut(r:AX F vs xs)(lo hi:Option Int):AX F (GZ vs lo hi) (EB xs lo hi):=by
 unfold GZ EB;rw[r.length];exact(r.drop _).take _
theorem x6{k:List PV->Prop}(h:Wq ss te λtp xs=>tp=false/\Wo ss tl λlo=>Wo ss th λhi=>k (EB xs lo hi)):Wn ss (M1 (UC K) te tl th) k:=⟨λE Z F H Q S q=>
 h.go E Z F H _ S λv tp xs F1 H1 d sv⟨j,h2⟩=>h2.go E Z F1 H1 _ d.st λlo F2 H2 c i=>i.go E Z F2 H2 _ c.st λhi F3 H3 b kk=>by
  subst j;obtain⟨l,vs,rfl,g,r⟩:=(sv.mv (c.trans b)).seq b.st;refine⟨l,vs,rfl,AO.of g,λa e=>?_⟩;have f:=b.st.make e (.lst (GZ vs lo hi));exact q a _ _ F3 _ (d.trans (c.trans (b.trans f))) (b.st.Cn e) ((d.trans (c.trans b)).none e) AZ (r.cut lo hi) kk⟩
noncomputable def gy(tp:Bool)(xs:List PV):PV:=if tp then .tup xs else .lst xs
def QP(K:ZE7):V->Option Int->Option Int->Hp->VK->Prop:=λx lo hi H Q=>UC K x lo hi H Q∨b8 K x lo hi H Q
theorem JB{X:Cx}:Kh X (QP X.K):=by
 intro Zd s Z H x v vl vu lo hi sl Q I a c pl b h;rcases h with h|h
 .exact NY Zd s Z H x v vl vu lo hi sl Q I a c pl b h
 .exact ZBf Zd s Z H x v vl vu lo hi sl Q I a c pl b h
theorem gJ(h:Wq ss te λtp xs=>Wo ss tl λlo=>Wo ss th λhi=>k (gy tp (EB xs lo hi))):Wp ss (M1 (QP K) te tl th) k:=⟨λE Z F H Q S q=>
 h.go E Z F H _ S λv tp xs F1 H1 i sv h2=>h2.go E Z F1 H1 _ i.st λlo F2 H2 d o=>o.go E Z F2 H2 _ d.st λhi F3 H3 b kk=>by
  have m:=sv.mv (d.trans b);have g:=i.trans (d.trans b);cases tp with
  |false=>
   obtain⟨l,vs,rfl,n,r⟩:=m.seq b.st;refine .inl ⟨l,vs,rfl,AO.of n,λa f=>?_⟩;have c:=b.st.alloc f (.lst (GZ vs lo hi));exact q _ _ _ _ (g.trans c) (.lst AZ ((r.cut lo hi).mono c.ff)) kk
  |true=>
   have s:Rep F3 v (.tup xs):=m;cases s with
   |@tup _ vs _ e r=>
    refine .inr ⟨_,vs,rfl,Al.of (b.st.fh _ _ e),λhw=>?_,λhw a f=>?_⟩
    .have p:EB xs lo hi=xs:=by
      rw[r.length]at hw;unfold EB;rw[hw.1,hw.2];simp
     refine q _ _ F3 H3 g (.tup e r) ?_;have j:=kk;rw[p]at j;exact j
    .have c:=b.st.alloc f (.tup (GZ vs lo hi));exact q _ _ _ _ (g.trans c) (.tup AZ ((r.cut lo hi).mono c.ff)) kk⟩
theorem tJ{k:List PV->Prop}(h:Wq ss te λ_ xs=>∃ns:List Str,xs=ns.map PV.str/\ns.length<64/\∀CK:List Str,CK.Perm ns->sortedS CK=true->k (CK.map PV.str)):Wn ss (DA (Te K) (BH te Bl)) k:=⟨λE Z F H Q S q=>
 h.go E Z F H _ S λv tp xs F1 H1 b sv AR=>by
  obtain⟨ns,e,g,kk⟩:=AR;subst e;obtain⟨l,vs,rfl,d,r⟩:=sv.seq b.st;rw[r.strs]at d;refine⟨l,tp,ns,rfl,FI.sq d,g,λa CK c j i=>?_⟩;have f:=b.st.make c (.lst (CK.map V.str));exact q a _ _ F1 _ (b.trans f) (b.st.Cn c) (b.none c) AZ (Il CK) (kk CK j i)⟩
theorem pA(xs ys:List Str):HE (xs.map V.str) (ys.map V.str)=decide (xs=ys):=by
 by_cases h:xs=ys
 .subst h;rw[ZBd,lD rfl]
 .rw[mB h]
  by_cases a:xs.length=ys.length
  .rw[Ll (by simpa using a)]
   cases c:(List.range (xs.map V.str).length).all λj=>DN ((xs.map V.str).getD j .AB) ((ys.map V.str).getD j .AB)with
   |false=>rfl
   |true=>
    exfalso;apply h;apply iR a;intro j h1 h2;have q:=List.all_eq_true.mp c j (List.mem_range.mpr (by simpa using h1))
    have e:(xs.map V.str)[j]?=some (.str xs[j]):=by rw[Bp,Bb h1];rfl
    have d:(ys.map V.str)[j]?=some (.str ys[j]):=by rw[Bp,Bb h2];rfl
    rw[NT e,NT d]at q;have b:(xs[j] == ys[j])=true:=q
    simpa using b
  .rw[LX (by simpa using a)]
theorem cY(h:Wq ss ta λtp xs=>∃ns:List Str,xs=ns.map PV.str/\Wq ss tb λBt ys=>Bt=tp/\∃a:List Str,ys=a.map PV.str/\k (.bl (if neg then !decide (ns=a)else decide (ns=a)))):Wp ss (Bo (Nz K neg) ta tb) k:=⟨λE Z F H Q S q=>
 h.go E Z F H _ S λv tp xs F1 H1 c sv⟨ns,i,h2⟩=>h2.go E Z F1 H1 _ c.st λj Bt ys F2 H2 b K8⟨f,a,g,kk⟩=>by
  subst i;subst g;subst f;obtain⟨l,vs,rfl,d,r⟩:=(sv.mv b).seq b.st;obtain⟨l2,N3,rfl,C6,e⟩:=K8.seq b.st;rw[r.strs]at d;rw[e.strs]at C6;refine⟨l,l2,ns.map V.str,a.map V.str,rfl,rfl,?_,HY _,HY _,?_⟩
  .cases Bt
   .exact .inl ⟨AO.of d,AO.of C6⟩
   .exact .inr ⟨Al.of d,Al.of C6⟩
  .rw[pA];cases neg
   .exact q _ _ F2 H2 (c.trans b) (.bl _) kk
   .exact q _ _ F2 H2 (c.trans b) (.bl _) kk⟩
theorem yS(c:r=λxs H Q=>∃(p:Addr)(bs:List Bool),xs=[.ref p]/\AO K H p (bs.map V.bl)/\Q (.bl (bs.all id)) H)(h:Wq ss te λtp xs=>tp=false/\∃bs:List Bool,xs=bs.map PV.bl/\k (.bl (bs.all id))):Wp ss (DA r (BH te Bl)) k:=⟨λE Z F H Q S q=>
 h.go E Z F H _ S λv tp xs F1 H1 a sv AR=>by
  obtain⟨d,bs,e,kk⟩:=AR;subst c;subst e;subst d;obtain⟨l,vs,rfl,b,r⟩:=sv.seq a.st;rw[r.Yr]at b;exact⟨l,bs,rfl,AO.of b,q _ _ F1 H1 a (.bl _) kk⟩⟩
noncomputable def tyP:PV->String
 | .AB => "NoneType"
 | .bl _ => "bool"
 | .int _ => "int"
 | .str _ => "str"
 | .lst _ => "list"
 | .tup _ => "tuple"
 | .Ft _ _ => "dict"
 |_ => ""
def O9:PV->Value
 | .obj _ _ _=>.none
 | .exc _ _ _=>.none
 | .con _ _=>.none
 |p=>.type (tyP p)
theorem ZBx(e:r=λxs H Q=>∃i j,xs=[.int i,.int j]/\Q (.int (if j > i then j else i)) H)(h:Wp ss ta λx=>∃i,x=.int i/\Wp ss tb λy=>∃j,y=.int j/\k (.int (if j > i then j else i))):Wp ss (DA r (BH ta (BH tb Bl))) k:=⟨λE Z F H Q S q=>
 h.go E Z F H _ S λv p F1 H1 a c AR=>by
  obtain⟨i,g,h2⟩:=AR;subst e;subst g;cases c.inv;exact h2.go E Z F1 H1 _ a.st λl p2 F2 H2 d b DI=>by
   obtain⟨j,f,kk⟩:=DI;subst f;cases b.inv;exact⟨i,j,rfl,q _ _ F2 H2 (a.trans d) (.int _) kk⟩⟩
theorem ug(e:r=λxs H Q=>∃i j,xs=[.int i,.int j]/\Q (.int (if j<i then j else i)) H)(h:Wp ss ta λx=>∃i,x=.int i/\Wp ss tb λy=>∃j,y=.int j/\k (.int (if j<i then j else i))):Wp ss (DA r (BH ta (BH tb Bl))) k:=⟨λE Z F H Q S q=>
 h.go E Z F H _ S λv p F1 H1 a c AR=>by
  obtain⟨i,g,h2⟩:=AR;subst e;subst g;cases c.inv;exact h2.go E Z F1 H1 _ a.st λl p2 F2 H2 d b DI=>by
   obtain⟨j,f,kk⟩:=DI;subst f;cases b.inv;exact⟨i,j,rfl,q _ _ F2 H2 (a.trans d) (.int _) kk⟩⟩
end
structure Src (E:Ent0) (F1:Hp) (J:It) (xs:List PV):Prop where
 go:∀(ss:List Slot)(Z:L2.St)(F H:Hp)(i:Nat),AJ F1 F->Sg E ss Z F H->i<xs.length->J.go i H
 stop:∀(ss:List Slot)(Z:L2.St)(F H:Hp),AJ F1 F->Sg E ss Z F H->J.stop xs.length H
 FK:∀(ss:List Slot)(Z:L2.St)(F H:Hp)(i:Nat)(x:V)(H':Hp),AJ F1 F->Sg E ss Z F H->i<xs.length->J.FK i H x H'->∃p F',xs[i]?=some p/\Mv E ss Z F H F' H'/\Rep F' x p
structure Wi [Xw] (ss:List Slot) (wi:TI) (k:List PV->Prop):Prop where
 go:∀(E:Ent)(Z:L2.St)(F H:Hp)(R:It->Hp->Prop),Sg E ss Z F H->(∀J xs F' H',Mv E ss Z F H F' H'->Src E F' J xs->k xs->R J H')->wi Z H R
structure Wg [Xw] (ss:List Slot) (g:TG) (p:PV) (k:List Slot->Prop):Prop where
 go:∀(E:Ent)(Z:L2.St)(F H:Hp)(v:V)(Q:L2.St->Hp->Prop),Sg E ss Z F H->Rep F v p->(∀AK σ',k AK->Sg E AK σ' F H->Q σ' H)->g v Z H Q
section
variable[Xw]
variable{K:ZE7}{k:PV->Prop}{R:BD}
theorem Z5(h:∀(ss:List Slot)(Z:L2.St)(F H:Hp),AJ F' F->Sg E ss Z F H->H l=some (FI tp vs))(r:AX F' vs xs):Src E F' (JX K tp l vs) xs where
 go:=λss Z F H i s S hi=>⟨FI.sq (h ss Z F H s S),by rw[r.length];exact hi⟩
 stop:=λss Z F H s S=>⟨FI.sq (h ss Z F H s S),by rw[r.length];exact Az _⟩
 FK:=λss Z F H i x H' s S hi y=>by
  obtain⟨e,hx⟩:=y;subst e;obtain⟨p,b,a⟩:=r.get' hx;exact⟨p,F,b,.refl S,a.mono s⟩
theorem Z7{k:List PV->Prop}(h:Wz ss te λ_ xs=>k xs):Wi ss (Tv K te) k:=⟨λE Z F H R S q=>
 h.go E Z F H _ S λv tp xs F1 H1 a f kk=>by
  cases tp with
  |true=>
   have c:Rep F1 v (.tup xs):=f;cases c with
   |tup e r=>exact⟨true,_,_,rfl,Al.of (a.st.fh _ _ e),q _ _ F1 H1 a (Z5 (tp:=true) (λss Z F H s S=>S.fh _ _ (s _ _ e)) r) kk⟩
  |false=>
   obtain⟨l,vs,rfl,h1,r⟩:=f;have b:∀(ss:List Slot)(Z:L2.St)(F H:Hp),AJ F1 F->Sg E ss Z F H->H l=some (.lst vs):=λss Z F H s S=>by
    rcases h1 with h1|⟨hA,h1⟩
    .exact S.fh _ _ (s _ _ h1)
    .exact S.keep _ _ hA h1
   exact⟨false,l,vs,rfl,AO.of (b ss Z F1 H1 (AJ.refl _) a.st),q _ _ F1 H1 a (Z5 (tp:=false) b r) kk⟩⟩
def NC(n:Nat):List PV:=(List.range n).map λi:Nat=>PV.int (i:Int)
theorem VP(n:Nat):(NC n).length=n:=by simp[NC]
theorem mP{k:List PV->Prop}(h:Wp ss te λp=>∃j:Int,p=.int j/\j<=1000000/\-1000000<=j/\k (NC j.toNat)):Wi ss (US (BH te Bl)) k:=⟨λE Z F H R S q=>
 h.go E Z F H _ S λv p F1 H1 a r AR=>by
  obtain⟨j,e,h1,h2,kk⟩:=AR;subst e;cases r.inv;refine⟨j,rfl,by omega,by omega,q _ (NC j.toNat) F1 H1 a ⟨λss Z F H i s S hi=>?_,λss Z F H s S=>?_,λss Z F H i x H' s S hi y=>?_⟩ kk⟩
  .rw[VP]at hi;exact hi
  .show _<=_;rw[VP];exact Az _
  .obtain⟨e,hx⟩:=y;subst e;subst hx;rw[VP]at hi;refine⟨.int (i:Int),F,?_,.refl S,?_⟩
   .unfold NC;rw[Bp,iV hi];rfl
   .rw[Int.zero_add];exact .int _⟩
theorem Xa{k:List Slot->Prop}(h:k (ss.set j (.is p))):Wg ss (EA j) p k:=⟨λE Z F H v Q S r q=>q _ _ h (S.LP r)⟩
theorem ZCJ{k:List Slot->Prop}(h:∃a b,p=.tup [a,b]/\k ((ss.set i (.is a)).set j (.is b))):Wg ss (Uc K 2 (Qk (EA i) (Qk (EA j) Xy))) p k:=⟨λE Z F H v Q S r q=>by
 obtain⟨a,b,rfl,kk⟩:=h;obtain⟨_,_,rfl,e,r⟩:=r.inv;obtain⟨_,_,rfl,d,r⟩:=r.inv;obtain⟨_,_,rfl,c,r⟩:=r.inv;obtain rfl:=r.Gv;exact⟨_,_,rfl,Al.of (S.fh _ _ e),rfl,_,_,rfl,_,_,rfl,rfl,q _ _ kk ((S.LP d).LP c)⟩⟩
theorem BO{t:TS}(h:Ws ss t (λAK=>Ws AK u nx R) R):Ws ss (KD t u) nx R:=⟨λE D Z F H S hn a=>
 h.go E { D with nx:=u D } Z F H S (λAK σ' F' H' w S' s=>w.go E D σ' F' H' S' (λDY σ2 F2 H2 b S2 s2=>hn DY σ2 F2 H2 b S2 (s.trans s2)) a) a⟩
theorem GA{t:TS}(h:Ws ss t nx R):Ws ss (Uk t) nx R:=⟨λE D Z F H S hn a=>⟨D.nx,h.go E { D with nx:=D.nx } Z F H S hn a,λ_ _ q=>q⟩⟩
theorem Ws.mono{t:TS}(h:Ws ss t nx R)(i:∀s,nx s->cw s):Ws ss t cw R:=⟨λE D Z F H S hn a=>h.go E D Z F H S (λAK σ' F' H' n=>hn AK σ' F' H' (i _ n)) a⟩
theorem HB{t:TS}(J:List Slot->Prop)(h:Ws ss t J R)(h2:∀AK,J AK->Ws AK u nx R):Ws ss (KD t u) nx R:=BO (h.mono h2)
theorem Cq(h:Wp ss te λp=>nx (ss.set i (.is p))):Ws ss (GD te (EA i)) nx R:=⟨λE D Z F H S hn b=>
 h.go E Z F H _ S λv p F1 H1 a r kk=>hn _ _ F1 H1 kk (a.st.LP r) a.ff⟩
theorem lg(h:Wp ss te λp=>Wg ss g p nx):Ws ss (GD te g) nx R:=⟨λE D Z F H S hn b=>
 h.go E Z F H _ S λv p F1 H1 a r kk=>kk.go E Z F1 H1 v _ a.st r λAK σ' n S'=>hn _ _ F1 H1 n S' a.ff⟩
theorem FT(h:Wn ss te λxs=>nx (ss.set i (.own xs))):Ws ss (GD te (EA i)) nx R:=⟨λE D Z F H S hn k=>
 h.go E Z F H _ S λl vs xs F1 H1 a f b Hj r kk=>hn _ _ F1 H1 kk (a.st.setG ⟨l,vs,rfl,f,S.Hy b,Hj,r⟩ λg e j u _ d c=>by cases e;exact S.RG d b c) a.ff⟩
theorem C2(h:Wp ss te k):Ws ss (Nt te) nx (.is k):=⟨λE D Z F H S hn b=>
 h.go E Z F H _ S λv p F1 H1 a r kk=>b v F1 H1 a.st.toFin ⟨p,r,kk⟩⟩
theorem EW{k:List PV->Prop}(h:Wn ss te k):Ws ss (Nt te) nx (.new k):=⟨λE D Z F H S hn b=>
 h.go E Z F H _ S λl vs xs F1 H1 a d c Hj r kk=>b _ F1 H1 a.st.toFin ⟨l,vs,xs,rfl,d,S.Hy c,Hj,r,kk⟩⟩
theorem UM{k:List PV->Prop}(h:ss[i]?=some (.own xs))(kk:k xs):Ws ss (Nt (Cg i)) nx (.new k):=⟨λE D Z F H S hn a=>by
 obtain⟨l,vs,e,d,c,b,r⟩:=S.ok i _ h;exact⟨_,e,a _ F H S.toFin ⟨l,vs,xs,rfl,d,c,b,r,kk⟩⟩⟩
theorem Cc{c:TT}{t:TS}(h:Wt ss c λb=>if b=true then Ws ss t nx R else Ws ss u nx R):Ws ss (Xf c t u) nx R:=⟨λE D Z F H S hn d=>
 h.go E Z F H _ S λb F1 H1 a w=>by
  show if b=true then _ else _
  cases b with
  |true=>rw[lO rfl]at w ⊢;exact w.go E D Z F1 H1 a.st (λDY σ2 F2 H2 n S2 s2=>hn DY σ2 F2 H2 n S2 (a.ff.trans s2)) d
  |false=>rw[lA (by decide)]at w ⊢;exact w.go E D Z F1 H1 a.st (λDY σ2 F2 H2 n S2 s2=>hn DY σ2 F2 H2 n S2 (a.ff.trans s2)) d⟩
theorem B5(h:nx ss):Ws ss OZ nx R:=⟨λE D Z F H S hn a=>hn ss Z F H h S (AJ.refl _)⟩
theorem Ff(h:Wp ss te λ_=>nx ss):Ws ss (NR te) nx R:=⟨λE D Z F H S hn b=>
 h.go E Z F H _ S λv p F1 H1 a r kk=>hn ss Z F1 H1 kk a.st a.ff⟩
theorem Sg.drop(S:Sg E ss Z F H)(i:Nat):Sg E (ss.set i .any) Z F H:=by
 have b:∀(j:Nat)u,(ss.set i .any)[j]?=some u->u=.any∨ss[j]?=some u:=λj u a=>by
  by_cases q:j=i
  .subst q;have g:j<ss.length:=by have:=(List.getElem?_eq_some_iff.mp a).1;simpa using this
   rw[Fc g]at a;exact .inl (CH a).symm
  .rw[FF (BJ q)]at a;exact .inr a
 refine⟨S.toFin,by rw[MS];exact S.len,λj u a=>?_,λj k u w l e a f d c=>?_⟩
 .rcases b j u a with rfl|h
  .trivial
  .exact S.ok j u h
 .rcases b j u a with rfl|h
  .cases d
  .rcases b k w f with rfl|h2
   .cases c
   .exact S.FH j k u w l e h h2 d c
theorem fZ(e:Z[i]?=some (some v)):Z.set i (some v)=Z:=by
 apply iS;intro j
 by_cases q:j=i
 .subst q;rw[Fc (List.getElem?_eq_some_iff.mp e).1,e]
 .rw[FF (BJ q)]
theorem Sg.ax(S:Sg E ss Z F H)(j:F a=none)(c:E.H0 a=none∨a∈E.B)(hn:∀(i:Nat)s,ss[i]?=some s->¬ DD s Z[i]? a):Sg E ss Z F (upd H a o):=by
 have f:∀b u,b≠a->H b=some u->upd H a o b=some u:=λb u h e=>by rw[As h];exact e
 refine⟨⟨λb u e=>?_,S.f0,λb u d e=>?_,S.fresh,λb d=>?_,S.M3,S.a0,S.bF,λb g=>?_,S.b0⟩,S.len,λi s hi=>?_,S.FH⟩
 .exact f b u (Dd e j) (S.fh b u e)
 .refine f b u ?_ (S.keep b u d e);rintro rfl;rcases c with c|c
  .rw[c]at e;cases e
  .exact d.2 c
 .refine C3.keep (S.HW b d) λu e=>f b u ?_ e;rintro rfl;rcases c with c|c
  .exact S.a0 _ d c
  .exact(S.b0 _ c).2 d
 .by_cases q:b=a
  .subst q;rw[AZ];simp
  .rw[As q];exact S.bH b g
 .by_cases np:s=.AQ
  .subst np;obtain⟨l,e,p,n,k⟩:=S.ok i _ hi;exact⟨l,e,p,n,C3.keep k λu h=>f l u (by rintro rfl;exact hn i _ hi e) h⟩
  .exact Ok.go S hi (AJ.refl _) (λb u m h=>f b u (by rintro rfl;exact hn i _ hi m) h) (λ_ _ h=>h) np
theorem Sg.put(S:Sg E ss Z F H){ys:List PV}(hi:ss[i]?=some (.own xs))(e:Z[i]?=some (some (.ref l)))(f:F l=none)(d:E.H0 l=none)(r:AX F FQ ys):Sg E (ss.set i (.own ys)) Z F (upd H l (.lst FQ)):=by
 have a:∀(j:Nat)s,(ss.set i .any)[j]?=some s->¬ DD s Z[j]? l:=λj s b c=>by
  by_cases q:j=i
  .subst q;have p:j<ss.length:=(List.getElem?_eq_some_iff.mp hi).1;rw[Fc p]at b;cases b;cases c
  .rw[FF (BJ q)]at b;exact S.FH j i s _ l q b hi c e
 have n:=(S.drop i).ax (o:=.lst FQ) f (.inl d) a;have g:=n.setG (j:=i) (s:=.own ys) (v:=.ref l) ⟨l,FQ,rfl,f,d,AZ,r⟩ λt m j u b k h=>by cases m;exact a j u k h
 rw[fZ e,List.set_set]at g;exact g
theorem i3(hi:ss[i]?=some (.own xs))(h:Wp ss te λp=>xs.length<=99999/\nx (ss.set i (.own (xs++[p])))):Ws ss (NR (Lx K "list" Y2 (Cg i) (BH te Bl))) nx R:=⟨λE D Z F H S hn k=>by
 obtain⟨l,vs,e,n,m,g,r⟩:=S.ok i _ hi;refine⟨_,e,.inl ⟨rfl,_,AO.of g⟩,h.go E Z F H _ S λv p F1 H1 a d⟨f,kk⟩=>?_⟩;obtain⟨j,FQ,c,Lq,DX,XD,b⟩:=a.st.ok i _ hi;rw[e]at c;cases c;refine⟨l,FQ,v,rfl,rfl,XD,Za (by rw[b.length];exact f),?_⟩;exact hn _ Z F1 _ kk (a.st.put hi e Lq DX (b.append (.one d))) a.ff⟩
noncomputable def KH(F H:Hp)(as:List Addr):Hp:=λa=>if a∈as then H a else F a
theorem Sg.lay(S:Sg E ss Z F H)(as:List Addr)(g:∀a∈as,F a=none/\E.H0 a=none/\H a≠none)(hn:∀a∈as,∀(i:Nat)s,ss[i]?=some s->¬ DD s Z[i]? a):Sg E ss Z (KH F H as) H/\AJ F (KH F H as):=by
 have x:∀a,a∈as->KH F H as a=H a:=λa h=>lO h;have j:∀a,a∉as->KH F H as a=F a:=λa h=>lA h;have ff:AJ F (KH F H as):=λa o e=>by
  by_cases q:a∈as
  .rw[(g a q).1]at e;cases e
  .rw[j a q];exact e
 have f:∀a,a∉as->F a=none->KH F H as a=none:=λa q h=>by rw[j a q];exact h
 refine⟨⟨⟨λa o e=>?_,S.f0.trans ff,S.keep,λa o e=>?_,S.HW,λa w=>?_,S.a0,λa u=>?_,S.bH,S.b0⟩,S.len,λi s hi=>?_,S.FH⟩,ff⟩
 .by_cases q:a∈as
  .rw[x a q]at e;exact e
  .rw[j a q]at e;exact S.fh a o e
 .by_cases q:a∈as
  .exact .inr (g a q).2.1
  .rw[j a q]at e;exact S.fresh a o e
 .exact f a (λq=>S.a0 a w (g a q).2.1) (S.M3 a w)
 .exact f a (λq=>(S.b0 a u).1 (g a q).2.1) (S.bF a u)
 .have l:∀a,DD s Z[i]? a->a∉as:=λa m q=>hn a q i s hi m;have kk:=S.ok i s hi;cases s with
  |any=>trivial
  |is p=>obtain⟨v,e,r⟩:=kk;exact⟨v,e,r.mono ff⟩
  |own ys=>
   obtain⟨b,ws,q,d,c,k,r⟩:=kk;exact⟨b,ws,q,f b (l b q) d,c,k,r.mono ff⟩
  |AQ=>
   obtain⟨b,q,d,c,k⟩:=kk;exact⟨b,q,f b (l b q) d,c,k⟩
  |sq tp ys=>
   cases tp with
   |true=>obtain⟨v,e,r⟩:=kk;exact⟨v,e,r.mono ff⟩
   |false=>obtain⟨b,ws,q,d,c,r⟩:=kk;exact⟨b,ws,q,d,c,r.mono ff⟩
  |raw P=>obtain⟨v,e,r,st⟩:=kk;exact⟨v,e,st _ _ ff r,st⟩
  |ow lt t=>
   obtain⟨v,e,r,nd,q⟩:=kk;exact⟨v,e,r.mono ff λa _ o h=>h,nd,λa n=>⟨f a (l a n) (q a n).1,(q a n).2⟩⟩
theorem Od{t:TS}(i:Nat)(hi:ss[i]?=some (.own xs))(h:Ws (ss.set i (.is (.lst xs))) t nx R):Ws ss t nx R:=⟨λE D Z F H S hn g=>by
 obtain⟨l,vs,e,o,k,f,r⟩:=S.ok i _ hi;have one:∀a,a∈[l]->a=l:=λa h=>by simpa using h
 obtain⟨S1,d⟩:=(S.drop i).lay [l] (λa h=>by rw[one a h,f];exact⟨o,k,by simp⟩) λa h j s b m=>by
  rw[one a h]at m
  by_cases q:j=i
  .subst q;rw[Fc (List.getElem?_eq_some_iff.mp hi).1]at b;cases b;cases m
  .rw[FF (BJ q)]at b;exact S.FH j i s _ l q b hi m e
 have c:=S1.LP (j:=i) (v:=.ref l) (p:=.lst xs) (.lst (by unfold KH;rw[lO (by simp)];exact f) (r.mono d));rw[fZ e,List.set_set]at c;exact h.go E D Z _ H c (λDY σ2 F2 H2 n c s2=>hn DY σ2 F2 H2 n c (d.trans s2)) g⟩
theorem Xq{tb:TS}(I:List PV->Nat->List Slot->Prop)(h:Wi ss wi λxs=>I xs 0 ss/\(∀(i:Nat)p AK,xs[i]?=some p->I xs i AK->Wg AK g p λDY=>Ws DY tb (I xs (i+1)) R)/\∀AK,I xs xs.length AK->nx AK):Ws ss (Rx wi g tb) nx R:=⟨λE D Z F H S hn u=>
 h.go E Z F H _ S λJ xs F1 H1 k d AR=>by
  obtain⟨i0,t,hd⟩:=AR;refine⟨λi m σ' H'=>m=xs.length - i/\i<=xs.length/\∃AK F',I xs i AK/\Sg E AK σ' F' H'/\AJ F1 F',⟨_,rfl,CJ _,ss,F1,i0,k.st,AJ.refl _⟩,?_⟩;rintro i m σ' H'⟨rfl,hi,AK,F',l,S',s'⟩
  by_cases f:i<xs.length
  .refine .inr ⟨d.go AK σ' F' H' i s' S' f,λσ2 H2=>∃DY F2,I xs (i+1) DY/\Sg E DY σ2 F2 H2/\AJ F1 F2,λσ2 H2 DI=>by obtain⟨DY,F2,a,b,c⟩:=DI;exact⟨_,by omega,rfl,f,DY,F2,a,b,c⟩,λx H3 y=>?_⟩;obtain⟨p,F3,v,j,q⟩:=d.FK AK σ' F' H' i x H3 s' S' f y;refine(t i p AK v l).go E σ' F3 H3 x _ j.st q λn σ4 w S4=>?_;exact w.go E _ σ4 F3 H3 S4 (λs σ5 F5 H5 r S5 o=>⟨s,F5,r,S5,(s'.trans j.ff).trans o⟩) u
  .have e:i=xs.length:=by omega
   subst e;exact .inl ⟨d.stop AK σ' F' H' s' S',hn AK σ' F' H' (hd AK l) S' (k.ff.trans s')⟩⟩
end
def DG(js:List Nat)(ss:List Slot):List Slot:=js.map λj=>(ss[j]?).getD .any
def Pj(js:List Nat)(ss:List Slot):Bool:=js.all λj=>match ss[j]? with
 |some .AQ=>false
 |_=>true
section
variable[Xw]
variable{K:ZE7}{js:List Nat}
theorem tu(h:js[i]?=some j)(e:(DG js ss)[i]?=some s):s=(ss[j]?).getD .any:=by
 unfold DG at e;rw[Bp,h]at e;exact(CH e).symm
theorem Sg.An(S:Sg E ss Z F H)(nd:js.Nodup)(r:AX F vs ps):Sg E (DG js ss++ps.map .is) (Be js Z++vs.map some) F H:=by
 have d:(DG js ss).length=js.length:=by simp[DG]
 have f:(Be js Z).length=js.length:=by simp[Be]
 have k:∀(i:Nat)(hi:i<js.length),(DG js ss++ps.map .is)[i]?=some ((ss[js[i]]?).getD .any)/\(Be js Z++vs.map some)[i]?=some ((Z[js[i]]?).join):=λi hi=>by
  rw[G7 (by rw[d];exact hi),G7 (by rw[f];exact hi)];unfold DG Be;rw[Bp,Bp,Bb hi];exact⟨rfl,rfl⟩
 have c:∀(i:Nat)s,js.length<=i->(DG js ss++ps.map .is)[i]?=some s->∃p v,s=.is p/\(Be js Z++vs.map some)[i]?=some (some v)/\Rep F v p:=λi s hi e=>by
  rw[Jk (by rw[d];exact hi),d,Bp]at e;rw[Jk (by rw[f];exact hi),f,Bp];cases q:ps[i - js.length]? with
  |none=>rw[q]at e;cases e
  |some p=>
   rw[q]at e;obtain⟨v,h,g⟩:=r.get q;rw[h];exact⟨p,v,(CH e).symm,rfl,g⟩
 have G:∀(s:Slot)(m:Nat)(l:Addr),DD s (some (Z[m]?).join) l->DD s Z[m]? l:=λs m l o=>by
  have w:∀l,some (Z[m]?).join=some (some (V.ref l))->Z[m]?=some (some (.ref l)):=λl e=>by
   cases q:Z[m]? with
   |none=>rw[q]at e;cases e
   |some o=>rw[q]at e;cases o with
    |none=>cases e
    |some v=>simpa using e
  cases s with
  |own xs=>exact w l o
  |AQ=>exact w l o
  |ow lt t=>exact o
  |_=>exact o
 have n:∀(i:Nat)s l,(DG js ss++ps.map .is)[i]?=some s->DD s (Be js Z++vs.map some)[i]? l->∃hi:i<js.length,ss[js[i]]?=some s/\DD s Z[js[i]]? l:=λi s l e m=>by
  by_cases hi:i<js.length
  .rw[(k i hi).2]at m;refine⟨hi,?_,G s _ l m⟩;rw[(k i hi).1]at e;cases q:ss[js[i]]? with
   |none=>rw[q]at e;cases e;cases m
   |some u=>rw[q]at e;exact e
  .obtain⟨p,v,rfl,_⟩:=c i s (by omega) e;cases m
 refine⟨S.toFin,?_,λi s e=>?_,λi j s u l FX hi D C B=>?_⟩
 .rw[Bh,Bh,d,f,Aw,Aw,r.length]
 .by_cases hi:i<js.length
  .obtain⟨a,b⟩:=k i hi;rw[a]at e;rw[b];cases q:ss[js[i]]? with
   |none=>rw[q]at e;cases e;trivial
   |some u=>
    rw[q]at e;have I:u=s:=CH e;subst I;have kk:=S.ok _ _ q;cases u with
    |any=>trivial
    |is p=>obtain⟨v,e,r⟩:=kk;rw[e];exact⟨v,rfl,r⟩
    |own xs=>obtain⟨l,vs,e,r⟩:=kk;rw[e];exact⟨l,vs,rfl,r⟩
    |AQ=>obtain⟨l,e,r⟩:=kk;rw[e];exact⟨l,rfl,r⟩
    |sq tp xs=>
     cases tp with
     |true=>obtain⟨v,e,r⟩:=kk;rw[e];exact⟨v,rfl,r⟩
     |false=>obtain⟨l,vs,e,r⟩:=kk;rw[e];exact⟨l,vs,rfl,r⟩
    |raw P=>obtain⟨v,e,r⟩:=kk;rw[e];exact⟨v,rfl,r⟩
    |ow lt t=>obtain⟨v,e,r⟩:=kk;rw[e];exact⟨v,rfl,r⟩
  .obtain⟨p,v,rfl,h,g⟩:=c i s (by omega) e;rw[h];exact⟨v,rfl,g⟩
 .obtain⟨K,y,A⟩:=n i s l hi C;obtain⟨J,x,z⟩:=n j u l D B;refine S.FH js[i] js[j] s u l (λe=>FX ?_) y x A z;exact(iY nd).mp e
theorem Mv.out(S:Sg E ss Z F H)(np:Pj js ss=true)(m:Mv E (DG js ss++ps.map .is) τ F H F' H'):Mv E ss Z F H F' H':=by
 have nn:∀a,ET (DG js ss++ps.map .is) τ a:=λa i hi _=>by
  by_cases h:i<(DG js ss).length
  .rw[G7 h]at hi;have c:i<js.length:=by simpa[DG]using h
   have q:=tu (Bb c) hi;have z:=List.all_eq_true.mp np js[i] (Hw c);cases w:ss[js[i]]? with
   |none=>rw[w]at q;cases q
   |some u=>rw[w]at q z;cases q;cases z
  .rw[Jk (by omega),Bp]at hi;cases w:ps[i - (DG js ss).length]? with
   |none=>rw[w]at hi;cases hi
   |some p=>rw[w]at hi;cases hi
 have b:∀a o,H a=some o->H' a=some o:=λa o e=>m.hh a o (nn a) e;exact S.step m.ff m.st.fh (λa o _ e=>b a o e) m.nn λi l hi e=>C3.keep (S.Gd hi e) λo e=>b l o e
theorem i6{tt:TT}(f:PV->Bool)(g:PV->PV)
  (h:Wi ss wi λxs=>xs.length<=100000/\(∀x∈xs,Wt (DG js ss++[.is x]) tt λb=>b=f x)/\(∀x∈xs,f x=true->Wp (DG js ss++[.is x]) te λp=>p=g x)/\k ((xs.filter f).map g))
  (nd:js.Nodup:=by decide) (np:Pj js ss=true:=by rfl):Wn ss (Ki wi js tt te) k:=⟨λE Z F H Q S q=>
 h.go E Z F H _ S λJ xs F1 H1 d C⟨hz,σ,he,kk⟩acc BM=>by
  have K:ET ss Z acc:=d.st.Oq BM;have U:=d.st.Hy BM;have W:∀(i:Nat)s,ss[i]?=some s->¬ DD s Z[i]? acc:=λi s hi=>d.st.RG hi BM;refine⟨λi m H2=>m=xs.length - i/\i<=xs.length/\∃F2 vs,Mv E ss Z F1 H1 F2 H2/\F2 acc=none/\H2 acc=some (.lst vs)/\AX F2 vs (((xs.take i).filter f).map g),⟨_,rfl,CJ _,F1,[],d.st.make BM _,d.st.Cn BM,AZ,.nil⟩,?_⟩;rintro i m H2⟨rfl,hi,F2,vs,c,M,z,t⟩
  by_cases r:i<xs.length
  .refine .inr ⟨C.go ss Z F2 H2 i c.ff c.st r,λx H3 y=>?_⟩;obtain⟨p,F3,G,u,I⟩:=C.FK ss Z F2 H2 i x H3 c.ff c.st r y;have R:p∈xs:=L6 G;have Gb:(xs.take (i+1))=xs.take i++[p]:=by
    have e2:xs[i]=p:=by rw[Bb r]at G;exact CH G
    rw[ir r,e2]
   have N:List.filter f (xs.take (i+1))=(xs.take i).filter f++(if f p=true then[p]else[]):=by
    rw[Gb,iT];congr 1
    by_cases j:f p=true <;> simp[j]
   have P:∀{F4:Hp},(∀a o,F4 a=some o->F2 a=some o∨H2 a=none)->F4 acc=none:=λ{F4}n=>by
    cases e:F4 acc with
    |none=>rfl
    |some o=>
     rcases n acc o e with w|w
     .rw[M]at w;cases w
     .rw[z]at w;cases w
   have S3:=u.st.An (js:=js) nd (.one I);refine(σ p R).go E _ F3 H3 _ S3 λb F4 H4 D hb=>?_;have l:=u.trans (D.out (ps:=[p]) u.st np);show if b=true then _ else _
   rw[hb]
   by_cases j:f p=true
   .rw[lO j];have S4:=l.st.An (js:=js) nd (.one (I.mono (D.out (ps:=[p]) u.st np).ff));refine(he p R j).go E _ F4 H4 _ S4 λw pw F5 H5 X L ew=>?_;have Y:=D.out (ps:=[p]) u.st np;have T:=X.out (ps:=[p]) l.st np;have A:=l.trans T;have V:=A.hh acc _ K z;have O:=P A.nn;have v:vs.length<=99999:=by
     rw[t.length,Aw];have:=Jl f (xs.take i);rw[Bx]at this;omega
    refine⟨vs,V,Za v,xs.length - (i+1),by omega,rfl,r,F5,vs++[w],?_,O,AZ,?_⟩
    .have B:=c.trans A;refine⟨B.st.ax O (.inl U) W,B.ff,λa o n e=>?_,B.nn⟩;rw[As (Dd e BM)];exact B.hh a o n e
    .rw[N,lO j,EG];rw[ew]at L;exact(t.mono A.ff).append (.one L)
   .have XH:f p=false:=by simpa using j
    rw[XH,lA (by decide)];refine⟨xs.length - (i+1),by omega,rfl,r,F4,vs,c.trans l,P l.nn,l.hh acc _ K z,?_⟩;rw[N,lA j,Ji];exact t.mono l.ff
  .have e:i=xs.length:=by omega
   subst e;refine .inl ⟨C.stop ss Z F2 H2 c.ff c.st,q acc vs _ F2 H2 (d.trans c) M (d.none BM) z ?_ kk⟩;rw[L8]at t;exact t⟩
end
abbrev Pre:=List Slot->BD->Prop
def Ap(pre:Pre):Sp:=λvs H Q _=>∃(ss:List Slot)(R:BD)(F:Hp)(A:List Addr),pre ss R/\Sg (E3 A F H) ss (vs.map some) F H/\∀v F' H',Fin (E3 A F H) F' H'->R.ok (E3 A F H) F' H' v->Q v H'
section
variable[Xw]
variable{pre:Pre}{k:PV->Prop}
theorem Hl.at{l:List Slot}(h:Hl ss Z F H vs l):∀{i:Nat}{s:Slot},l[i]?=some s->∃v,vs[i]?=some v/\Av ss Z F H v s:=by
 induction h with
 |nil=>intro i s e;simp at e
 |cons a _ b=>
  intro i s e;cases i with
  |zero=>simp at e;subst e;exact⟨_,rfl,a⟩
  |succ i=>exact b (by simpa using e)
theorem Hl.len{l:List Slot}(h:Hl ss Z F H vs l):l.length=vs.length:=by
 induction h with
 |nil=>rfl
 |cons a _ b=>rw[C5,C5,b]
theorem Av.ok(S:Sg E ss Z F H)(a:Av ss Z F H v s)(b:∀l,ET ss Z l->l∉A):Ok (E3 A F H) F H s (some (some v))/\∀o l,¬ DD s o l:=by
 cases s with
 |is p=>exact⟨⟨v,rfl,a⟩,λ_ _ z=>z⟩
 |sq tp xs=>
  cases tp with
  |true=>exact⟨⟨v,rfl,a⟩,λ_ _ z=>z⟩
  |false=>obtain⟨l,vs,rfl,n,h,r⟩:=a;exact⟨⟨l,vs,rfl,⟨b l n,Cb⟩,h,r⟩,λ_ _ z=>z⟩
 |raw P=>exact⟨⟨v,rfl,a⟩,λ_ _ z=>z⟩
 |any=>exact a.elim
 |own xs=>exact a.elim
 |AQ=>exact a.elim
 |ow lt t=>exact a.elim
theorem Sg.R4(S:Sg E ss Z F H){l:List Slot}(a:Hl ss Z F H vs l):Sg (E3 [] F H) l (vs.map some) F H:=by
 have nn:∀{p:Prop}(a:Addr),a∈([]:List Addr)->p:=λa h=>absurd h Cb;refine⟨⟨S.fh,AJ.refl _,λ_ _ _ e=>e,λ_ _ e=>.inl e,λa h=>nn a h,λa h=>nn a h,λa h=>nn a h,λa h=>nn a h,λa h=>nn a h,λa h=>nn a h⟩,by rw[Aw];exact a.len,λi s hi=>?_,λi j s u l FX hi f c d=>?_⟩
 .obtain⟨v,b,q⟩:=a.at hi;rw[Bp,b];exact(q.ok S λ_ _ h=>absurd h Cb).1
 .obtain⟨v,b,q⟩:=a.at hi;exact(q.ok S (A:=[]) λ_ _ h=>absurd h Cb).2 _ _ c
theorem Sg.tF(S:Sg E ss Z F H){p:Addr}(hi:ss[i0]?=some .AQ)(e:Z[i0]?=some (some (.ref p))){l:List Slot}(a:Hl ss Z F H vs l):Sg (E3 [p] F H) (.AQ::l) ((V.ref p::vs).map some) F H:=by
 obtain⟨w,g,fp,_,b⟩:=S.ok i0 _ hi;rw[e]at g;cases g;have f:∀l,ET ss Z l->l∉[p]:=λl n h=>by
  have:l=p:=by simpa using h
  subst this;exact n i0 hi e
 have one:∀a,a∈[p]->a=p:=λa h=>by simpa using h
 have nn:∀{p:Prop}(a:Addr),a∈([]:List Addr)->p:=λa h=>absurd h Cb;refine⟨⟨S.fh,AJ.refl _,λ_ _ _ e=>e,λ_ _ e=>.inl e,λa h=>(one a h)▸b,λa h=>(one a h)▸fp,λa h=>?_,λa h=>nn a h,λa h=>nn a h,λa h=>nn a h⟩,by rw[Aw,C5,C5];rw[a.len],λi s hi=>?_,λi j s u c FX hi t r k=>?_⟩
 .rw[one a h];obtain⟨_,_,q,_⟩:=b;show H p≠none;rw[q];simp
 .cases i with
  |zero=>simp at hi;subst hi;exact⟨p,rfl,fp,.inr (by simp),b⟩
  |succ i=>
   obtain⟨v,d,q⟩:=a.at (i:=i) (s:=s) (by simpa using hi)
   have:((V.ref p::vs).map some)[i+1]?=some (some v):=by rw[G8,List.getElem?_cons_succ,Bp,d];rfl
   rw[this];exact(q.ok S f).1
 .have z:∀(i:Nat)s o c,(Slot.AQ::l)[i]?=some s->DD s o c->i=0:=λi s o c h m=>by
   cases i with
   |zero=>rfl
   |succ i=>
    obtain⟨v,d,q⟩:=a.at (i:=i) (s:=s) (by simpa using h)
    exact((q.ok S f).2 _ _ m).elim
  exact absurd ((z i s _ _ hi r).trans (z j u _ _ t k).symm) FX
theorem Sg.back(S:Sg E ss Z F H)(d:∀a,a∈A->∃i:Nat,ss[i]?=some .AQ/\Z[i]?=some (some (.ref a)))(f:Fin (E3 A F H) F' H'):Mv E ss Z F H F' H':=by
 refine S.step f.f0 f.fh (λa o n e=>f.keep a o ⟨λh=>?_,Cb⟩ e) f.fresh λi l hi e=>?_
 .obtain⟨i,c,b⟩:=d a h;exact n i c b
 .by_cases q:l∈A
  .exact f.HW l q
  .exact C3.keep (S.Gd hi e) λo e=>f.keep l o ⟨q,Cb⟩ e
theorem wp_call(h:Wa ss t λl=>∃b,pre l (.is b)/\∀p,b p->k p):Wp ss (Ep (Ap pre) [] E0 t) k:=⟨λE Z F H Q S q=>
 h.go E Z F H _ S λvs l F1 H1 c a⟨b,d,kk⟩=>by
  rw[Ji];refine⟨l,.is b,F1,[],d,c.st.R4 a,λv F' H' f⟨p,r,kp⟩=>?_⟩;exact q v p F' H' (c.trans (c.st.back (λ_ h=>absurd h Cb) f)) r (kk p kp)⟩
theorem DR{k:List PV->Prop}(h:Wa ss t λl=>∃c,pre l (.new c)/\∀xs,c xs->k xs):Wn ss (Ep (Ap pre) [] E0 t) k:=⟨λE Z F H Q S q=>
 h.go E Z F H _ S λvs l F1 H1 b a⟨c,g,kk⟩=>by
  rw[Ji];refine⟨l,.new c,F1,[],g,b.st.R4 a,λv F' H' f⟨l,vs,xs,e,j,i,DJ,r,d⟩=>?_⟩;subst e;exact q l vs xs F' H' (b.trans (b.st.back (λ_ h=>absurd h Cb) f)) j (b.none i) DJ r (kk xs d)⟩
theorem xZ(hi:ss[i]?=some .AQ)(h:Wa ss t λl=>∃b,pre (.AQ::l) (.is b)/\∀p,b p->k p):Wp ss (Ep (Ap pre) [] E0 (BH (Cg i) t)) k:=⟨λE Z F H Q S q=>by
 obtain⟨p,e,_⟩:=S.ok i _ hi;refine⟨_,e,h.go E Z F H _ S λvs l F1 H1 c a⟨b,d,kk⟩=>?_⟩;show Ap pre ((V.ref p::vs)++[]) H1 Q E0;rw[Ji];refine⟨.AQ::l,.is b,F1,[p],d,c.st.tF hi e a,λv F' H' f⟨pv,r,kp⟩=>?_⟩;exact q v pv F' H' (c.trans (c.st.back (A:=[p]) (λa h=>⟨i,hi,(show a=p from by simpa using h)▸e⟩) f)) r (kk pv kp)⟩
theorem Sg.grown(S:Sg E ss Z F H)(n:Nat):Sg E (ss++List.replicate n .any) (Z++List.replicate n none) F H:=by
 have k:∀(i:Nat)s,(ss++List.replicate n .any)[i]?=some s->s≠.any->ss[i]?=some s/\(Z++List.replicate n none)[i]?=Z[i]?:=λi s e o=>by
  by_cases h:i<ss.length
  .rw[G7 h]at e;rw[G7 (by rw[<- S.len];exact h)];exact⟨e,rfl⟩
  .rw[Jk (by omega),iW]at e;split at e
   .exact absurd (CH e).symm o
   .cases e
 refine⟨S.toFin,by simp[S.len],λi s e=>?_,λi j s u l FX hi p g f=>?_⟩
 .cases s with
  |any=>trivial
  |_=>obtain⟨a,b⟩:=k i _ e (by simp);rw[b];exact S.ok i _ a
 .have ns:s≠.any:=by rintro rfl;cases g
  have m:u≠.any:=by rintro rfl;cases f
  obtain⟨a,b⟩:=k i s hi ns;obtain⟨c,d⟩:=k j u p m;rw[b]at g;rw[d]at f;exact S.FH i j s u l FX a c g f
end
section
variable{pre:Pre}{k:PV->Prop}
def cU(E:Ent0):Ent:=⟨E,λ_ _ _ _ _ _ _ _ _ d=>d.elim⟩
theorem C9{N:List Str}{t:TS}(h:Ap pre vs H Q X)(c:∀ss R,pre ss R->ss.length=n)
  (hw:∀ss R,pre ss R->Ws (ss++List.replicate (N.length - n) .any) t (λ_=>∃k,R=.is k/\k .AB) R):t { nx:=λ_ H'=>Q .AB H',rt:=Q } (L2.start N vs) H:=by
 obtain⟨ss,R,F,A,a,S,q⟩:=h;have e:vs.length=n:=by have:=S.len;rw[Aw]at this;rw[<- this];exact c ss R a
 unfold L2.start;rw[e];refine(hw ss R a).go (cU (E3 A F H)) _ _ F H (S.grown _) (λAK σ' F' H'⟨k,e,b⟩S' _=>?_) λv F' H' f ok=>q v F' H' f ok;subst e;exact q .AB F' H' S'.toFin ⟨.AB,.AB,b⟩
theorem CA(b:∀ss R,pre ss R->ss.length=n)(h:Ap pre vs H Q X):vs.length=n:=by
 obtain⟨ss,R,F,A,a,S,q⟩:=h;have:=S.len;rw[Aw]at this;rw[<- this];exact b ss R a
end
end Fz
namespace L2
section
variable{X:Cx}
def ao(K:ZE7):R2:=λx y H Q=>∃p q xs,x=.ref p/\y=.ref q/\AO K H p xs/\AO K H q []/\Q (.bl (decide (xs=[]))) H
theorem mF(a:X.A.units<cLine):BA X (compareOp .Eq) (ao X.K):=by
 intro Zd s Z H x y v u Q I f e h;obtain⟨p,q,xs,rfl,rfl,c,b,d⟩:=h;cases f;cases e;obtain⟨A3,i,p1,l⟩:=I.list c;obtain⟨Bd,g,p2,k⟩:=I.list b;have l1:=i.length;have l2:=g.length;cases xs with
 |nil=>exact Sk a Zd s Z H _ _ _ _ Q I (show RelV (.ref p) (.ref p)from rfl) (show RelV (.ref q) (.ref q)from rfl) ⟨p,q,[],[],rfl,rfl,.inl ⟨c,b⟩,rfl,rfl,d⟩
 |cons y ys=>
  have j:(A3.toArray.size != Bd.toArray.size)=true:=by simp only[Bi,<- l1,<- l2];simp
  exact ZDK p1.isList p2.isList j a ⟨.bl false,H,I,rfl,d⟩
end
end L2
namespace Lw
open L2
variable{acc l ns ss xs:List Str}{r x:Str}{i:Nat}{g j:Int}
inductive Tr (lr lb:Addr) (H:Hp):List V->List V->Addr->List Str->Prop where
 |Zp {l:Addr}{rs:List Str}:l≠lr->l≠lb->H l=some (.lst (rs.map V.str))->Tr lr lb H [.ref l] [] l rs
 |snoc {vs bs:List V}{l:Addr}{rs:List Str}{l':Addr}{NI:List Str}{t:Addr}{d:BG}:Tr lr lb H vs bs l rs->l'≠lr->l'≠lb->t≠lr->t≠lb->H l'=some (.lst (NI.map V.str))->H t=some (.tup d.vals)->
   d.Ok 40 NI->NI.length<=40->d.done NI=rs->Tr lr lb H (vs++[.ref l']) (bs++[.ref t]) l' NI
theorem Nh:∀l:List Nat,¬ l<l
 | [],h=>by simp at h
 |a::r,h=>by
  rw[Y7]at h;rcases h with h|⟨_,h⟩
  .omega
  .exact Nh r h
theorem N1:∀{a b c:List Nat},a<b->b<c->a<c
 |_,[],_,h,_=>by simp at h
 |_,_::_,[],_,h=>by simp at h
 | [],_::_,_::_,_,_=>by simp
 |a::r,b::s,c::t,h,h'=>by
  rw[Y7]at h h' ⊢;rcases h with h|⟨rfl,h⟩
  .rcases h' with h'|⟨rfl,h'⟩
   .left;omega
   .left;exact h
  .rcases h' with h'|⟨rfl,h'⟩
   .left;exact h'
   .right;exact⟨rfl,N1 h h'⟩
theorem bh:∀a b:List Nat,a<b∨a=b∨b<a
 | [],[]=>.inr (.inl rfl)
 | [],_::_=>.inl (by simp)
 |_::_,[]=>.inr (.inr (by simp))
 |a::r,b::s=>by
  rw[Y7,Y7];rcases ZD3 a b with h|rfl|h
  .exact .inl (.inl h)
  .rcases bh r s with h|rfl|h
   .exact .inl (.inr ⟨rfl,h⟩)
   .exact .inr (.inl rfl)
   .exact .inr (.inr (.inr ⟨rfl,h⟩))
  .exact .inr (.inr (.inl h))
abbrev Ek(a b:Str):Prop:=a.cps.toList<b.cps.toList
theorem VQ(a b:Str):Ek a b∨a=b∨Ek b a:=by
 rcases bh a.cps.toList b.cps.toList with h|h|h
 .exact .inl h
 .exact .inr (.inl (mU h))
 .exact .inr (.inr h)
abbrev Up(ss:List Str):Prop:=ss.Pairwise Ek
theorem Mc(h:Up ss):ss.Nodup:=by
 refine List.Pairwise.imp (λ{a b}(Ds:Ek a b)(e:a=b)=>?_) h;subst e;exact Nh _ Ds
theorem aX:∀(l:List Str)(p:Str),risingS p l=true->(∀x∈l,¬ Ek x p)/\l.Pairwise λa b=>¬ Ek b a
 | [],p,_=>⟨λx hx=>absurd hx (by simp),.nil⟩
 |y::r,p,h=>by
  have h1:(!ltCps y.cps.toList p.cps.toList && risingS y r)=true:=h;rw[CG,ltCps_eq]at h1;have c:¬ Ek y p:=by
   intro z;rw[lD z]at h1;exact absurd h1.1 (by decide)
  obtain⟨h2,d⟩:=aX r y h1.2;refine⟨λx hx=>?_,List.pairwise_cons.mpr ⟨λx hx=>h2 x hx,d⟩⟩;rcases List.mem_cons.mp hx with rfl|hx
  .exact c
  .intro z;rcases VQ y p with q|q|q
   .exact c q
   .exact h2 x hx (q▸z)
   .exact h2 x hx (N1 z q)
theorem ZBq(h:sortedS l=true):l.Pairwise λa b=>¬ Ek b a:=by
 cases l with
 |nil=>exact .nil
 |cons x r=>
  obtain⟨h1,h2⟩:=aX r x h;exact List.pairwise_cons.mpr ⟨h1,h2⟩
theorem Oe(h:sortedS l=true)(nd:l.Nodup):Up l:=by
 have w:=ZBq h;have q:=List.Pairwise.and w nd;refine q.imp λ{a b}Ds=>?_;rcases VQ a b with z|z|z
 .exact z
 .exact absurd z Ds.2
 .exact absurd z Ds.1
theorem Qm:∀{as bs:List Str},Up as->Up bs->(∀x,x∈as↔x∈bs)->as=bs
 | [],[],_,_,_=>rfl
 | [],b::bs,_,_,h=>absurd ((h b).mpr Bc) (by simp)
 |a::as,[],_,_,h=>absurd ((h a).mp Bc) (by simp)
 |a::as,b::bs,ha,hb,h=>by
  obtain⟨d,g⟩:=List.pairwise_cons.mp ha;obtain⟨c,f⟩:=List.pairwise_cons.mp hb;have e:a=b:=by
   rcases List.mem_cons.mp ((h a).mp Bc)with z|z
   .exact z
   .rcases List.mem_cons.mp ((h b).mpr Bc)with y|y
    .exact y.symm
    .exact absurd (N1 (d b y) (c a z)) (Nh _)
  subst e
  congr 1
  refine Qm g f λx=>⟨λhx=>?_,λhx=>?_⟩
  .rcases List.mem_cons.mp ((h x).mp (By _ hx))with z|z
   .exact absurd (z▸d x hx) (Nh _)
   .exact z
  .rcases List.mem_cons.mp ((h x).mpr (By _ hx))with z|z
   .exact absurd (z▸c x hx) (Nh _)
   .exact z
theorem VI:∀{as bs:List Str},as.Nodup->(∀x∈as,x∈bs)->as.length<=bs.length
 | [],_,_,_=>CJ _
 |a::as,bs,nd,h=>by
  obtain⟨h1,h2⟩:=List.nodup_cons.mp nd;have b:=h a Bc;have q:=VI (bs:=bs.erase a) h2 λx hx=>(YE (λe:x=a=>h1 (by rw[<- e];exact hx))).mpr (h x (By _ hx));have e:=MR b;have p:=ib b;simp only[C5];omega
theorem ag:∀{as bs:List Str},as.Nodup->(∀x∈as,x∈bs)->bs.length=as.length->bs.Nodup
 | [],bs,_,_,hl=>by
  have e:bs=[]:=List.length_eq_zero_iff.mp (by simpa using hl)
  rw[e];exact RT
 |a::as,bs,nd,h,hl=>by
  obtain⟨h1,h2⟩:=List.nodup_cons.mp nd;have b:=h a Bc;have d:bs.length=as.length+1:=by simpa using hl
  have sub:∀x∈as,x∈bs.erase a:=λx hx=>(YE (λe:x=a=>h1 (by rw[<- e];exact hx))).mpr (h x (By _ hx));have e:=MR b;have q:=ag (bs:=bs.erase a) h2 sub (by omega);have p:=List.perm_cons_erase b;rw[p.nodup_iff,List.nodup_cons];refine⟨λc=>?_,q⟩;have r:=VI (as:=a::as) (bs:=bs.erase a) nd λx hx=>by
   rcases List.mem_cons.mp hx with rfl|hx
   .exact c
   .exact sub x hx
  simp only[C5]at r;omega
theorem uV{k:Str}:k∈Ew acc x↔k∈acc∨k=x:=by
 unfold Ew
 by_cases h:acc.any (· == x)=true
 .rw[lO h];refine⟨.inl,λq=>q.elim id λe=>?_⟩;obtain⟨y,a,b⟩:=List.any_eq_true.mp h;have:y=x:=by simpa using b
  rw[e,<- this];exact a
 .rw[lA h];simp
theorem T9:∀(l acc:List Str),acc.Nodup->(l.foldl Ew acc).Nodup/\∀k,k∈l.foldl Ew acc↔k∈acc∨k∈l
 | [],acc,h=>⟨h,λk=>by simp⟩
 |x::r,acc,h=>by
  have hn:(Ew acc x).Nodup:=by
   unfold Ew
   by_cases c:acc.any (· == x)=true
   .rw[lO c];exact h
   .rw[lA c];exact Ru h λa=>c (List.any_eq_true.mpr ⟨x,a,by simp⟩)
  obtain⟨h1,h2⟩:=T9 r (Ew acc x) hn;refine⟨h1,λk=>?_⟩;rw[Kz,h2 k,uV,Dg,or_assoc]
theorem U8(ss:List Str):(dd ss).Nodup:=(T9 ss [] RT).1
theorem T6(ss:List Str)(k:Str):k∈dd ss↔k∈ss:=by
 have q:=(T9 ss [] RT).2 k;refine(show(k∈dd ss↔_)from q).trans ⟨λz=>z.elim (λy=>absurd y (by simp)) id,.inr⟩
theorem c7(l:List Str)(k:Str):l.any (· == k)=true↔k∈l:=by
 rw[OL];exact⟨λ⟨y,a,e⟩=>by
   have:y=k:=by simpa using e
   rw[<- this];exact a,λh=>⟨k,h,by simp⟩⟩
theorem uY{a:List Str}(e:a.length=(dd ss).length)(c:∀k,(dd ss).any (· == k)=true↔k∈a)(d:sortedS a=true):(ss=a)↔Up ss:=by
 have nd:a.Nodup:=ag (U8 ss) (λx hx=>(c x).mp ((c7 _ _).mpr hx)) e;have b:=Oe d nd;constructor
 .rintro rfl;exact b
 .intro us;exact Qm us b λx=>by rw[<- c x,c7,T6]
theorem tK(ss:List Str):Up ss↔∀(k:Nat)(h:k+1<ss.length),Ek ss[k] ss[k+1]:=by
 refine(List.pairwise_iff_getElem (R:=Ek) (l:=ss)).trans ?_;constructor
 .intro h k f;exact h k (k+1) (by omega) f (by omega)
 .intro h;have b:∀(d i:Nat)(a:i+d+1<ss.length),Ek (ss[i]'(by omega)) ss[i+d+1]:=by
   intro d
   induction d with
   |zero=>intro i a;exact h i a
   |succ d c=>intro i a;exact N1 (c i (by omega)) (h (i+d+1) a)
  intro i j hi a FX;have q:=b (j - i - 1) i (by omega);have e:i+(j - i - 1)+1=j:=by omega
  simp only[e]at q;exact q
noncomputable def Df:List Str:=["none","ahead","all"]
noncomputable def Kv(ss:List Str):Bool:=decide (Up ss)
def NL(ns ss:List Str):Bool:=ss.all λx=>decide (x∈ns)
noncomputable def Ij(n:Nat)(g:Int):Bool:=decide (0<=g) && decide (g<=(n:Int))
def El(ns:List Str)(r:Str)(g:Int)(ss:List Str):Bool:=decide (r∈Df) && (Ij ns.length g && (Kv ss && NL ns ss))
def LoopAt(K:ZE7)(H:Hp)(t:Addr)(r:Str)(g:Int)(ss:List Str):Prop:=∃c,Al K H t [.str r,.int g,.ref c]/\Al K H c (ss.map V.str)
def Vn(K:ZE7):Sp:=λvs H Q _=>∃(a:Addr)(ns:List Str)(t:Addr)(r:Str)(g:Int)(ss:List Str),vs=[.ref a,.ref t]/\AO K H a (ns.map V.str)/\LoopAt K H t r g ss/\ss.length<64/\∀H',AJ H H'->Q (.bl (El ns r g ss)) H'
def dQ(p:Addr)(H:Hp)(Q:VK)(W:Str->Int->List Str->Prop):Prop:=∀t c r g ss H',H t=none->H c=none->B1 p H H'->H' t=some (.tup [.str r,.int g,.ref c])->H' c=some (.tup (ss.map V.str))->W r g ss->Q (.ref t) H'
def WK:Sp:=λvs H Q _=>∃(p q:Addr)(ns:List Str),vs=[.ref p,.ref q]/\C3 H p/\H q=some (.lst (ns.map V.str))/\q≠p/\ns.length<=40/\ns.Nodup/\
 dQ p H Q λr g ss=>r∈Df/\0<=g/\g<=(ns.length:Int)/\Up ss/\(∀x∈ss,x∈ns)/\ss.length<=40
def Tu(K:ZE7):Sp:=λvs H Q _=>∃(p q t:Addr)(ns:List Str)(r:Str)(g:Int)(ss:List Str),vs=[.ref p,.ref q,.ref t]/\C3 H p/\H q=some (.lst (ns.map V.str))/\q≠p/\(∀x∈ns,Nm x)/\ns.length<=40/\
 (∃c,t≠p/\c≠p/\H t=some (.tup [.str r,.int g,.ref c])/\H c=some (.tup (ss.map V.str)))/\ss.length<=40/\dQ p H Q λr g ss=>ss.length<60
theorem kq(ns ss:List Str):((ss.map V.str).filter λ_=>true).map (λv=>V.bl (Iu v (ns.map V.str)))=(ss.map λx=>decide (x∈ns)).map V.bl:=by
 rw[WD,Gj,Gj];refine List.map_congr_left λx _=>?_;show V.bl _=V.bl _;rw[Nn]
noncomputable def Ph(ss:List Str):V->V
 | .int i=>.bl (!decide (Ek (ss.getD i.toNat ⟨#[]⟩) (ss.getD (i.toNat+1) ⟨#[]⟩)))
 |_=>.bl false
noncomputable def PL(ss:List Str):List Bool:=(List.range (ss.length - 1)).map λi=>!decide (Ek (ss.getD i ⟨#[]⟩) (ss.getD (i+1) ⟨#[]⟩))
theorem M5(h:i<ss.length):ss.getD i ⟨#[]⟩=ss[i]:=by rw[Jj,Bb h];rfl
theorem ZBD(h:i+1<ss.length):Ph ss (.int (i:Int))=.bl (!decide (ss[i].cps.toList<ss[i+1].cps.toList)):=by
 show V.bl (!decide (Ek (ss.getD (i:Int).toNat ⟨#[]⟩) (ss.getD ((i:Int).toNat+1) ⟨#[]⟩)))=_;rw[RN,M5 h,M5 (i:=i) (by omega)]
theorem ZC0(ss:List Str):((GG (ss.length - 1)).filter λ_=>true).map (Ph ss)=(PL ss).map V.bl:=by
 rw[WD];unfold GG PL;rw[Gj,Gj];rfl
theorem sH(ss:List Str):(PL ss).any id=!Kv ss:=by
 have h:(PL ss).any id=true↔¬ Up ss:=by
  rw[tK,OL];constructor
  .rintro⟨b,f,e⟩a;obtain⟨i,hi,rfl⟩:=List.mem_map.mp f;have g:i<ss.length - 1:=List.mem_range.mp hi;have q:=a i (by omega);rw[M5 (i:=i) (by omega),M5 (i:=i+1) (by omega),lD q]at e;exact absurd e (by decide)
  .intro a;refine RK λhn=>a λk c=>RK λd=>hn ⟨true,List.mem_map.mpr ⟨k,List.mem_range.mpr (by omega),?_⟩,rfl⟩;rw[M5 (i:=k) (by omega),M5 (i:=k+1) c,mB d];rfl
 unfold Kv
 by_cases a:Up ss
 .rw[lD a,Bool.eq_false_iff.mpr λz=>h.mp z a];rfl
 .rw[mB a,h.mpr a];rfl
theorem ints_get{n:Nat}{v:V}(h:(GG n)[i]?=some v):i<n/\v=.int (i:Int):=by
 unfold GG at h;rw[Bp]at h
 by_cases hi:i<n
 .rw[iV hi]at h;exact⟨hi,(CH h).symm⟩
 .rw[MQ (by simpa using hi)]at h;cases h
theorem sg{v:V}(h:(ss.map V.str)[i]?=some v):∃x,v=.str x/\ss[i]?=some x:=by
 rw[Bp]at h;cases q:ss[i]? with
 |none=>rw[q]at h;cases h
 |some x=>rw[q]at h;simp at h;exact⟨x,h.symm,rfl⟩
theorem aF(c:0<=j)(h1:j<3):∃r,BZ (Df.map V.str) j=some (.str r)/\r∈Df:=by
 obtain⟨x,a,b,_⟩:=Kw (ns:=Df) c h1;exact⟨x,a,b⟩
noncomputable def gM:List Str:=["","non","All","ahead ","put"]
def Zi:List Str:=["","A"]
theorem ZAk{a b c:Int}(d:0<=j)(h1:j<3):∃k:Int,BZ [V.int a,V.int b,V.int c] j=some (.int k):=by
 have:j=0∨j=1∨j=2:=by omega
 rcases this with rfl|rfl|rfl
 .exact⟨a,rfl⟩
 .exact⟨b,rfl⟩
 .exact⟨c,rfl⟩
theorem ins_map(xs:List Str)(x:Str)(i:Nat):(some (HO.lst ((xs.map V.str).take i++V.str x::(xs.map V.str).drop i)))=some (.lst ((ins xs x i).map V.str)):=by
 unfold ins;simp only[EG,OM,G8,YD]
theorem JR(x:Str)(h:i<=xs.length):(ins xs x i).length=xs.length+1:=by
 unfold ins;simp only[Bh,Bx,C5,EF];omega
noncomputable def EX(ss:List Str)(x:Str):Bool:=decide (x∈ss)
def Di(ns:List Str)(g:Nat)(ss:List Str):List Str:=(ns.drop g).filter (EX ss)++(ns.take g).filter (EX ss)
theorem KZ{g:Nat}:x∈Di ns g ss↔x∈ns/\x∈ss:=by
 unfold Di;rw[Ih,ig,ig];have e:(x∈ns)↔(x∈ns.take g∨x∈ns.drop g):=by
  rw[<- Ih,L7]
 unfold EX;simp only[m9];rw[e];constructor
 .rintro(⟨a,b⟩|⟨a,b⟩)
  .exact⟨.inr a,b⟩
  .exact⟨.inl a,b⟩
 .rintro⟨a|a,b⟩
  .exact .inr ⟨a,b⟩
  .exact .inl ⟨a,b⟩
def Wu(H:Hp)(t:Addr)(r:Str)(g:Int)(ss:List Str):Prop:=∃c,H t=some (.tup [.str r,.int g,.ref c])/\H c=some (.tup (ss.map V.str))
theorem Wu.at{H:Hp}{K:ZE7}{t:Addr}(h:Wu H t r g ss):LoopAt K H t r g ss:=by
 obtain⟨c,a,b⟩:=h;exact⟨c,Al.of a,Al.of b⟩
structure BK (ns:List Str) (r:Str) (g:Int) (ss:List Str):Prop where
 rule:r∈Df
 g0:0<=g
 g1:g<=(ns.length:Int)
 up:Up ss
 sub:∀x∈ss,x∈ns
theorem BK.El(h:BK ns r g ss):El ns r g ss=true:=by
 unfold Lw.El Ij Kv NL;rw[lD h.rule,lD h.g0,lD h.g1,lD h.up,Ky,Ky,Ky,Ky,Ec];intro x hx;exact lD (h.sub x hx)
theorem OW(x:Str)(h:Up ss):Up (wo ss x):=h.filter _
theorem kK(nd:ss.Nodup)(h:x∈ss):(wo ss x).length+1=ss.length:=by
 have e:=W8 h;have h1:=Yi h;have h2:=Z8 h nd;have:wo ss x=ss.take (ss.idxOf x)++ss.drop (ss.idxOf x+1):=by
  conv=>lhs;rw[e]
  rw[Zo,aO,Pm h1,Pm h2]
 rw[this]
 conv=>rhs;rw[e]
 simp only[Bh,C5];omega
theorem BK.step(h:BK ns r g ss)(hx:x∈ns):BK ns r ((ns.idxOf x:Nat)+1) (wo ss x):=by
 have b:ns.idxOf x<ns.length:=List.idxOf_lt_length_iff.mpr hx;exact⟨h.rule,by omega,by omega,OW x h.up,λy a=>h.sub y (DP.mp a).1⟩
def CC(ns:List Str)(g:Nat)(ss:List Str):Option Str:=(Di ns g ss).head?
def Hz(ns:List Str)(g:Nat)(ss:List Str):Nat:=match CC ns g ss with
 |none=>g
 |some x=>ns.idxOf x+1
def Io(ns:List Str)(g:Nat)(ss:List Str):List Str:=match CC ns g ss with
 |none=>ss
 |some x=>wo ss x
theorem Ys{g:Nat}(h:BK ns r g ss):BK ns r (Hz ns g ss:Nat) (Io ns g ss)/\(Io ns g ss).length<=ss.length - 1:=by
 unfold Hz Io;cases e:CC ns g ss with
 |none=>
  refine⟨h,?_⟩;have b:Di ns g ss=[]:=List.head?_eq_none_iff.mp e;have:ss=[]:=by
   cases a:ss with
   |nil=>rfl
   |cons x q=>
    have hx:x∈ss:=by rw[a];exact Bc
    have:x∈Di ns g ss:=KZ.mpr ⟨h.sub x hx,hx⟩;rw[b]at this;simp at this
  show ss.length<=ss.length - 1;rw[this];exact Az _
 |some x=>
  have hx:x∈Di ns g ss:=ZCw e;obtain⟨h1,h2⟩:=KZ.mp hx;have:=kK (Mc h.up) h2;exact⟨h.step h1,by show(wo ss x).length<=_;omega⟩
structure Ent where
 a:Addr
 ns:List Str
 t:Addr
 r:Str
 g:Nat
 ss:List Str
end Lw
namespace L2
section
variable{X:Cx}
def iD(K:ZE7):R2:=λx y H Q=>∃a b xs ys,x=.ref a/\y=.ref b/\Al K H a xs/\Al K H b ys/\ys≠[]/\xs.length+ys.length<=sizeLine/\∀p H',AJ H H'->Al K H' p (xs++ys)->Q (.ref p) H'
theorem mI:BA X (binaryOp .Add) (iD X.K):=by
 intro Zd s Z H x y v u Q I i g h;obtain⟨a,b,xs,ys,rfl,rfl,k,d,r,o,q⟩:=h
 by_cases hx:xs=[]
 .subst hx;cases i;cases g;obtain⟨A3,l,p1,_⟩:=I.tuple k;obtain⟨Bd,w,p2,_⟩:=I.tuple d;obtain⟨⟨cls,dd,data,sl⟩,ho,j,n,hd⟩:=id p1;obtain⟨⟨z,Oa,f,Ga⟩,DC,Jo,m,c⟩:=id p2;simp only at j hd Jo c;subst j hd Jo c;have e:A3=[]:=l.Qg.mpr rfl;exact concat_meets ⟨_,ho,rfl⟩ ⟨_,DC,rfl⟩ ZBP seq_tuple_add j8 j6 (j5 _ _)
   (tuple_addW0 a b A3.toArray Bd.toArray n m dd Oa sl Ga (by simp[e])) ⟨ho,DC,⟨.ref b,H,I,rfl,q b H (AJ.refl _) d⟩⟩
 .exact v5 Zd s Z H _ _ _ _ Q I i g ⟨a,b,xs,ys,rfl,rfl,k,d,hx,o,λe=>absurd e r,λ_ p t=>q p _ (BX t _) (Al.of AZ)⟩
end
end L2
namespace Lw
open L2
variable{ns rs ss:List Str}{r x:Str}{g i:Nat}{d:BG}
noncomputable def D0(i g:Nat):Nat:=if i<g then g+1 else g
noncomputable def IC(p g:Nat):Nat:=if p<g then g - 1 else g
def BG.gap(ns:List Str)(g:Nat):BG->Nat
 | .put _ i=>D0 i g
 | .take x=>IC (ns.idxOf x) g
 | .move x i=>D0 i (IC (ns.idxOf x) g)
 | .turn _ _=>g
noncomputable def Bm:List Str->Str->List Str
 | [],x=>[x]
 |y::r,x=>if Ek x y then x::y::r else y::Bm r x
noncomputable def CQ(r:Str)(g i:Nat):Bool:=if decide (V.str r=V.str "all")=true then true else if decide (V.str r=V.str "ahead")=true then decide ((g:Int)<=(i:Int))else false
def BG.M0(r:Str)(g:Nat)(ss:List Str):BG->List Str
 | .put x i=>if CQ r g i=true then Bm ss x else ss
 | .take x=>wo ss x
 | .move _ _=>ss
 | .turn _ _=>ss
theorem IE{x k:Str}:∀{ss:List Str},k∈Bm ss x↔k=x∨k∈ss
 | []=>by simp[Bm]
 |y::r=>by
  unfold Bm;split
  .simp
  .rw[Dg,IE (ss:=r),Dg];constructor
   .rintro(h|h|h)
    .exact .inr (.inl h)
    .exact .inl h
    .exact .inr (.inr h)
   .rintro(h|h|h)
    .exact .inr (.inl h)
    .exact .inl h
    .exact .inr (.inr h)
theorem SR{x:Str}:∀{ss:List Str},Up ss->x∉ss->Up (Bm ss x)
 | [],_,_=>il _ _
 |y::r,h,hx=>by
  obtain⟨h1,h2⟩:=List.pairwise_cons.mp h;unfold Bm;split
  .next c=>exact List.pairwise_cons.mpr ⟨λk a=>(List.mem_cons.mp a).elim (λe=>by rw[e];exact c) λa=>N1 c (h1 k a),h⟩
  .next c=>
   refine List.pairwise_cons.mpr ⟨λk a=>?_,SR h2 λb=>hx (By _ b)⟩;rcases IE.mp a with rfl|a
   .rcases VQ k y with z|z|z
    .exact absurd z c
    .exact absurd (by rw[z];exact Bc) hx
    .exact z
   .exact h1 k a
theorem zB{a:List Str}(b:a.Perm (ss++[x]))(c:sortedS a=true)(h:Up ss)(hx:x∉ss):a=Bm ss x:=by
 have nd:a.Nodup:=b.nodup_iff.mpr (Ru (Mc h) hx);refine Qm (Oe c nd) (SR h hx) λk=>?_;rw[b.mem_iff,IE,Ih,YG];exact or_comm
theorem BK.len{g:Int}(h:BK ns r g ss):ss.length<=ns.length:=VI (Mc h.up) h.sub
theorem BK.led(h:BK ns r g ss)(ok:d.Ok 40 ns)(nd:ns.Nodup):BK (d.done ns) r (d.gap ns g:Nat) (d.M0 r g ss):=by
 have g1:=h.g1;cases d with
 |put x i=>
  obtain⟨h1,h2,o,n⟩:=ok;refine⟨h.rule,by omega,?_,?_,?_⟩
  .show((D0 i g:Nat):Int)<=((ins ns x i).length:Int);rw[OU];unfold D0;split <;> omega
  .show Up (if CQ r g i=true then Bm ss x else ss)
   split
   .exact SR h.up λj=>h2 (h.sub x j)
   .exact h.up
  .intro k c;show k∈ins ns x i;rw[Km];have f:k∈(if CQ r g i=true then Bm ss x else ss):=c
   split at f
   .rcases IE.mp f with z|z
    .exact .inl z
    .exact .inr (h.sub k z)
   .exact .inr (h.sub k f)
 |take x=>
  have hx:x∈ns:=ok;have l:=Qf hx nd;have m:ns.idxOf x<ns.length:=List.idxOf_lt_length_iff.mpr hx;refine⟨h.rule,by omega,?_,OW x h.up,λk c=>?_⟩
  .show((IC (ns.idxOf x) g:Nat):Int)<=((wo ns x).length:Int);unfold IC;split <;> omega
  .obtain⟨a,b⟩:=DP.mp (show k∈wo ss x from c);exact DP.mpr ⟨h.sub k a,b⟩
 |move x i=>
  obtain⟨hx,hi⟩:=ok;have l:=Qf hx nd;have m:ns.idxOf x<ns.length:=List.idxOf_lt_length_iff.mpr hx;refine⟨h.rule,by omega,?_,h.up,λk c=>?_⟩
  .show((D0 i (IC (ns.idxOf x) g):Nat):Int)<=((ins (wo ns x) x i).length:Int);rw[OU];unfold D0 IC;split <;> split <;> omega
  .show k∈ins (wo ns x) x i;rw[Km,DP]
   by_cases e:k=x
   .exact .inl e
   .exact .inr ⟨h.sub k c,e⟩
 |turn lo hi=>
  obtain⟨h1,h2⟩:=ok;refine⟨h.rule,by omega,?_,h.up,λk c=>(bL h1).mpr (h.sub k c)⟩;show((g:Nat):Int)<=((Bz ns lo hi).length:Int);rw[WL h1 h2];exact g1
theorem tf{g:Int}(h:BK ns r g ss)(ok:d.Ok 40 ns):∀x i,d=.put x i->x∉ss:=by
 rintro x i rfl a;exact ok.2.1 (h.sub x a)
theorem ZCD(h:CQ r g i=true):BG.M0 r g ss (.put x i)=Bm ss x:=by show(if _ then _ else _)=_;rw[lO h]
theorem jw(h:CQ r g i=false):BG.M0 r g ss (.put x i)=ss:=by show(if _ then _ else _)=_;rw[lA (by rw[h];decide)]
theorem XJ(nd:rs.Nodup)(h:rs[g]?=some x):rs.idxOf x=g:=by
 obtain⟨d,e⟩:=List.getElem?_eq_some_iff.mp h;have hx:x∈rs:=L6 h;have a:rs.idxOf x<rs.length:=List.idxOf_lt_length_iff.mpr hx;have f:rs[rs.idxOf x]=x:=YB a;have b:=List.pairwise_iff_getElem.mp nd;rcases ZD3 (rs.idxOf x) g with c|c|c
 .exact absurd (f.trans e.symm) (b _ _ a d c)
 .exact c
 .exact absurd (e.trans f.symm) (b _ _ d a c)
theorem Nl(g i:Nat):CQ "ahead" g i=decide ((g:Int)<=(i:Int)):=by
 unfold CQ;rw[lA (by decide),lO (by decide)]
end Lw
namespace L2
section
variable{X:Cx}{Zd:ZE8}{Z:St}{H2:Hp}{s2:Shared}{elt iter:Expr}{x z:Str}{px pz tp pos:Pos}{tk:Nat}{scope:Scope}{An:List Str}{js:List Nat}{te:TE}{J:It}{fp:List Addr}{it:Addr}
 {tn:Nat->Heap->Prop}
end
end L2
namespace Fz
open L2 Lw
variable{E:Ent0}{ss:List Slot}{Z:L2.St}{F F' H H':Hp}{js:List Nat}{ta tb te:TE}{k:Bool->List PV->Prop}{nx:List Slot->Prop}{R:BD}{i:Nat}{wi:TI}{α:Type}{th tl:TO}
section
variable[Xw]
variable{K:ZE7}{k:PV->Prop}
theorem Sg.Mt(S:Sg E ss Z F H){p:Addr}(hi:ss[i]?=some .AQ)(e:Z[i]?=some (some (.ref p)))(s:B1 p H H'):Mv E ss Z F H F H':=by
 obtain⟨g,b,fp,_,f⟩:=S.ok i _ hi;rw[e]at b;cases b;refine S.step (AJ.refl _) (λa o q=>s.same a o (Dd q fp) (S.fh a o q)) (λa o n q=>s.same a o (λz=>?_) q) (λa o q=>.inl q) λj l c d=>?_
 .rw[z]at n;exact n i hi e
 .by_cases z:l=p
  .rw[z];exact s.AQ
  .exact C3.keep (S.Gd c d) λo q=>s.same l o z q
theorem sR(hi:ss[i]?=some .AQ)(h:Wp ss te λx=>∃m,x=.int m/\0<m/\m<10 ^ 18/\∀r:Int,0<=r->r<m->k (.int r)):Wp ss (Ep Iz [] E0 (BH (Cg i) (BH te Bl))) k:=⟨λE Z F H Q S q=>by
 obtain⟨p,e,_⟩:=S.ok i _ hi;refine⟨_,e,h.go E Z F H _ S λv x F1 H1 a r⟨m,f,d,K7,kk⟩=>?_⟩;subst f;cases r.inv;exact⟨p,m,rfl,a.st.Gd hi e,d,K7,λr H2 c b s=>q _ _ F1 H2 (a.trans (a.st.Mt hi e s)) (.int r) (kk r c b)⟩⟩
theorem aC{sp:Sp}{k:List PV->Prop}(Eh:sp=Tj)(hi:ss[i]?=some .AQ)(h:Wp ss te λx=>∃m,x=.int m/\1<=m/\m<=100/\∀ns:List Str,(ns.length:Int)<=m->(∀x∈ns,Nm x)->ns.Nodup->k (ns.map PV.str)):Wn ss (Ep sp [] E0 (BH (Cg i) (BH te Bl))) k:=⟨λE Z F H Q S q=>by
 subst Eh;obtain⟨p,e,_⟩:=S.ok i _ hi;refine⟨_,e,h.go E Z F H _ S λv x F1 H1 a r⟨m,j,d,K7,kk⟩=>?_⟩;subst j;cases r.inv;refine⟨p,m,rfl,a.st.Gd hi e,d,K7,λl H2 ns b s C6 f g nd=>?_⟩;have c:=a.st.Mt hi e s;exact q l _ _ F1 H2 (a.trans c) (a.st.Cn b) (a.none b) C6 (Il ns) (kk ns f g nd)⟩
def IZ(K:ZE7)(ns:List Int):Hp->V->Prop:=λF v=>∃a,v=.ref a/\AO K F a (ns.map V.int)
theorem bJ(K:ZE7)(ns:List Int):∀(v:V)(F F':Hp),AJ F F'->IZ K ns F v->IZ K ns F' v:=λv F F' s AR=>by obtain⟨a,e,h⟩:=AR;exact⟨a,e,by
 rcases h with(h|⟨o,h⟩)|h
 .exact .inl (.inl (s _ _ h))
 .exact .inl (.inr ⟨o,s _ _ h⟩)
 .exact .inr h⟩
theorem vv{j:Nat}{ns:List Int}(hi:ss[i]?=some (.raw (IZ K ns)))(h:Wp ss te λx=>∃m,x=.int m/\0<=m/\m<=1000/\nx (ss.set j .AQ)):Ws ss (GD (Ep (V0 K) [] E0 (BH (Cg i) (BH te Bl))) (EA j)) nx R:=⟨λE D Z F H S hn B=>by
 obtain⟨v,e,⟨a,y,C⟩,st⟩:=S.ok i _ hi;subst y;refine⟨_,e,h.go E Z F H _ S λv x F1 H1 c r⟨m,z,q,K7,kk⟩=>?_⟩;subst z;cases r.inv;obtain⟨A,f,t,_⟩:=c.st.ok i _ hi;rw[e]at f;cases f;obtain⟨G,ea,k⟩:=bJ K ns _ F1 H1 c.st.fh t;cases ea;refine⟨a,ns,m,rfl,k,q,K7,λp H2 d s g=>?_⟩;have o:=c.st.grow s;exact hn _ _ F1 H2 kk (o.st.setG ⟨p,rfl,c.st.Cn d,.inl (c.st.Hy d),g⟩ λl e b u _ w n=>by cases e;exact c.st.RG w d n) c.ff⟩
end
section
variable{K:ZE7}
theorem kz{N:List Str}{vs:List V}{Q:VK}{X:XK}{t:TS}(h:OI K vs H Q X)(hw:∀ns:List Int,ns.length<=63->Ws (.raw (IZ K ns)::List.replicate (N.length - 1) .any) t (λ_=>False) (.is λp=>p=.bl true)):t { nx:=λ_ H'=>Q .AB H',rt:=Q } (L2.start N vs) H:=by
 obtain⟨a,ns,rfl,c,d,q⟩:=h;have S:Sg (E3 [] H H) [.raw (IZ K ns)] [some (.ref a)] H H:=by
  have nn:∀{p:Prop}(a:Addr),a∈([]:List Addr)->p:=λa h=>absurd h Cb;refine⟨⟨AJ.refl _,AJ.refl _,λ_ _ _ e=>e,λ_ _ e=>.inl e,λa h=>nn a h,λa h=>nn a h,λa h=>nn a h,λa h=>nn a h,λa h=>nn a h,λa h=>nn a h⟩,rfl,λi s hi=>?_,λi j s u l FX hi g b=>?_⟩
  .cases i with
   |zero=>cases hi;exact⟨_,rfl,⟨a,rfl,c⟩,bJ K ns _⟩
   |succ i=>simp at hi
  .cases i with
   |zero=>cases hi;cases b
   |succ i=>simp at hi
 refine(hw ns d).go (cU (E3 [] H H)) _ _ H H (S.grown _) (λ_ _ _ _ h=>h.elim) λv F' H' f ok=>?_;obtain⟨p,r,rfl⟩:=ok;cases r.inv;exact q H'
end
section
variable[Xw]
variable{K:ZE7}{k:PV->Prop}
theorem Wi.mono{k a:List PV->Prop}(h:Wi ss wi k)(i:∀xs,k xs->a xs):Wi ss wi a:=⟨λE Z F H R S q=>h.go E Z F H R S λJ xs F' H' m s kk=>q J xs F' H' m s (i xs kk)⟩
theorem Hd{tt:TT}{k:List PV->Prop}(c:α->PV)(f:α->Bool)(g:α->PV)
  (h:Wi ss wi λxs=>∃ns:List α,xs=ns.map c/\ns.length<=100000/\(∀x∈ns,Wt (DG js ss++[.is (c x)]) tt λb=>b=f x)/\(∀x∈ns,f x=true->Wp (DG js ss++[.is (c x)]) te λp=>p=g x)/\k ((ns.filter f).map g))
  (inj:∀x y,c x=c y->x=y) (nd:js.Nodup:=by decide) (np:Pj js ss=true:=by rfl):Wn ss (Ki wi js tt te) k:=by
 by_cases hα:Nonempty α
 .obtain⟨x0⟩:=hα;have inv:∀p:PV,∃x:α,∀y,c y=p->y=x:=λp=>by
   by_cases q:∃y,c y=p
   .obtain⟨y,a⟩:=q;exact⟨y,λz i=>inj _ _ (i.trans a.symm)⟩
   .exact⟨x0,λy a=>absurd ⟨y,a⟩ q⟩
  let d:PV->α:=λp=>Classical.choose (inv p)
  have hd:∀x,d (c x)=x:=λx=>(Classical.choose_spec (inv (c x)) x rfl).symm;refine i6 (λp=>f (d p)) (λp=>g (d p)) (h.mono λxs⟨ns,e,i,h1,h2,kk⟩=>?_) nd np;subst e;refine⟨by rw[Aw];exact i,λx hx=>?_,λx hx j=>?_,?_⟩
  .obtain⟨y,a,rfl⟩:=List.mem_map.mp hx;rw[hd];exact h1 y a
  .obtain⟨y,a,rfl⟩:=List.mem_map.mp hx;rw[hd]at j ⊢;exact h2 y a j
  .have e:((ns.map c).filter λp=>f (d p)).map (λp=>g (d p))=(ns.filter f).map g:=by
    rw[List.filter_map,Gj]
    congr 1
    .funext x;show g (d (c x))=g x;rw[hd]
    .congr 1;funext x;show f (d (c x))=f x;rw[hd]
   rw[e];exact kk
 .refine i6 (λ_=>true) (λp=>p) (h.mono λxs⟨ns,e,i,h1,h2,kk⟩=>?_) nd np;have l:ns=[]:=by
   cases ns with
   |nil=>rfl
   |cons x r=>exact absurd ⟨x⟩ hα
  subst l;subst e;exact⟨by simp,λx hx=>absurd hx (by simp),λx hx=>absurd hx (by simp),kk⟩
theorem str_inj:∀x y:Str,PV.str x=PV.str y->x=y:=λ_ _ e=>by injection e
theorem ZAB(h:Wp ss ta λp=>∃x,p=.str x/\Wq ss tb λ_ ys=>∃ns:List Str,ys=ns.map PV.str/\k (.bl (decide (x∈ns)))):Wp ss (Bo (HX K false) ta tb) k:=Zb h
theorem qP(h:Wp ss ta λp=>∃x,p=.str x/\Wq ss tb λ_ ys=>∃ns:List Str,ys=ns.map PV.str/\k (.bl (!decide (x∈ns)))):Wp ss (Bo (HX K true) ta tb) k:=Zb h
theorem kH(h:Wq ss ta λtp xs=>∃ns:List Str,xs=ns.map PV.str/\Wq ss tb λBt ys=>Bt=tp/\∃a:List Str,ys=a.map PV.str/\k (.bl (decide (ns=a)))):Wp ss (Bo (Nz K false) ta tb) k:=cY h
theorem zj(h:Wq ss ta λtp xs=>∃ns:List Str,xs=ns.map PV.str/\Wq ss tb λBt ys=>Bt=tp/\∃a:List Str,ys=a.map PV.str/\k (.bl (!decide (ns=a)))):Wp ss (Bo (Nz K true) ta tb) k:=cY h
theorem Wq.mono{k a:Bool->List PV->Prop}(h:Wq ss te k)(i:∀b xs,k b xs->a b xs):Wq ss te a:=⟨λE Z F H Q S q=>h.go E Z F H Q S λv tp xs F' H' m s kk=>q v tp xs F' H' m s (i tp xs kk)⟩
theorem Wo.mono{t:TO}{k a:Option Int->Prop}(h:Wo ss t k)(i:∀o,k o->a o):Wo ss t a:=⟨λE Z F H Q S q=>h.go E Z F H Q S λo F' H' m kk=>q o F' H' m (i o kk)⟩
theorem hU{k:Bool->List PV->Prop}(h:Wq ss te λtp xs=>Wo ss tl λlo=>Wo ss th λhi=>k tp (EB xs lo hi)):Wz ss (M1 (QP K) te tl th) k:=
 QJ (gJ (h.mono λtp xs h=>h.mono λlo h=>h.mono λhi h=>by
  cases tp
  .exact⟨_,.inl ⟨rfl,h⟩⟩
  .exact⟨_,.inr ⟨rfl,h⟩⟩))
theorem qZ{k:Bool->List PV->Prop}(h:Wq ss te λtp xs=>Wo ss tl λlo=>Wo ss th λhi=>k tp (EB xs lo hi)):Wq ss (M1 (QP K) te tl th) k:=bg (hU h)
theorem Ng(xs:List α)(g:Nat):EB xs none (some (g:Int))=xs.take g:=by
 unfold EB;rw[HT.PH,HT.ZQ,RO,YN];rcases YK g xs.length with h|h
 .rw[MW h]
 .rw[YL h,L8,RU h]
theorem Va(xs:List α)(g:Nat):EB xs (some (g:Int)) none=xs.drop g:=by
 unfold EB;rw[HT.PH,HT.ZQ];rcases YK g xs.length with h|h
 .rw[MW h,RU (by rw[EF];omega)]
 .rw[YL h,iQ,List.drop_of_length_le h];simp
theorem wD(g:α->Bool)(xs:List α):xs.map (λx=>PV.bl (g x))=(xs.map g).map PV.bl:=by rw[Gj];rfl
end
end Fz
namespace Fz
open L2 Lw
section
variable[Xw]
variable{E:Ent0}{ss:List Slot}{Z:L2.St}{F H F' H':Hp}{K:ZE7}{js:List Nat}{ta tb te:TE}{k:PV->Prop}{nx:List Slot->Prop}{R:BD}{xs ys:List PV}
theorem di(h:Wq ss ta λtp xs=>tp=false/\∃ns:List Str,xs=ns.map PV.str/\Wp ss tb λp=>∃x,p=.str x/\x∈ns/\k (.int (ns.idxOf x:Nat))):Wp ss (Lx K "list" (bR K) ta (BH tb Bl)) k:=⟨λE Z F H Q S q=>
 h.go E Z F H _ S λv tp xs F1 H1 b sv⟨g,ns,e,h2⟩=>by
  subst e;subst g;obtain⟨l,vs,rfl,f,r⟩:=sv.seq b.st;refine⟨.inl ⟨rfl,_,AO.of f⟩,h2.go E Z F1 H1 _ b.st λm p2 F2 H2 a c⟨x,i,hx,kk⟩=>?_⟩;subst i;cases c.inv;obtain⟨n,FQ,j,DJ,d⟩:=(sv.mv a).seq a.st;cases j;rw[d.strs]at DJ;exact⟨l,ns,x,rfl,rfl,AO.of DJ,hx,q _ _ F2 H2 (b.trans a) (.int _) kk⟩⟩
theorem k7{α:Type}{wi:TI}{te:TE}{k:List PV->Prop}(c:α->PV)(g:α->PV)
  (h:Wi ss wi λxs=>∃ns:List α,xs=ns.map c/\ns.length<=100000/\(∀x∈ns,Wp (DG js ss++[.is (c x)]) te λp=>p=g x)/\k (ns.map g))
  (inj:∀x y,c x=c y->x=y) (nd:js.Nodup:=by decide) (np:Pj js ss=true:=by rfl):Wn ss (Ki wi js Pl te) k:=
 Hd c (λ_=>true) g (h.mono λxs AR=>by obtain⟨ns,e,a,h1,kk⟩:=AR;exact⟨ns,e,a,λx hx=>Md rfl,λx hx _=>h1 x hx,by rw[List.filter_eq_self.mpr (λ_ _=>rfl)];exact kk⟩) inj nd np
theorem oS{k:List PV->Prop}(h:Wq ss te λ_ xs=>k xs.reverse):Wn ss (So K (BH te Bl)) k:=⟨λE Z F H Q S q=>
 h.go E Z F H _ S λv tp xs F1 H1 b sv kk=>by
  obtain⟨l,vs,rfl,e,r⟩:=sv.seq b.st;refine⟨l,tp,vs,rfl,FI.sq e,λa c=>?_⟩;have d:=b.st.make c (.lst vs.reverse);exact q a _ _ F1 _ (b.trans d) (b.st.Cn c) (b.none c) AZ r.reverse kk⟩
theorem xp(h:Wq ss ta λtp xs=>tp=false/\Wq ss tb λBt ys=>Bt=false/\ys=[]/\k (.bl (decide (xs.length=0)))):Wp ss (Bo (ao K) ta tb) k:=⟨λE Z F H Q S q=>
 h.go E Z F H _ S λv tp xs F1 H1 b sv⟨g,h2⟩=>h2.go E Z F1 H1 _ b.st λi Bt ys F2 H2 a K8⟨Wb,f,kk⟩=>by
  subst g;subst Wb;subst f;obtain⟨l,vs,rfl,d,r⟩:=(sv.mv a).seq a.st;obtain⟨l2,N3,rfl,C6,c⟩:=K8.seq a.st;cases c;refine⟨l,l2,vs,rfl,rfl,AO.of d,AO.of C6,?_⟩;have e:decide (vs=[])=decide (xs.length=0):=by
   rw[<- r.length];cases vs <;> simp
  rw[e];exact q _ _ F2 H2 (b.trans a) (.bl _) kk⟩
end
theorem CD{c A B:Prop}[Decidable c](h:c)(a:A):if c then A else B:=by rw[lO h];exact a
end Fz
namespace Fz
open L2 Lw
section
variable[Xw]
variable{E:Ent0}{ss:List Slot}{Z:L2.St}{F H F' H':Hp}{K:ZE7}{js:List Nat}{ta tb tc te:TE}{k:PV->Prop}{nx:List Slot->Prop}{R:BD}{xs ys:List PV}
noncomputable def dP:BG->PV
 | .put x i=>.tup [.str "put",.str x,.int i]
 | .take x=>.tup [.str "take",.str x]
 | .move x i=>.tup [.str "move",.str x,.int i]
 | .turn lo hi=>.tup [.str "turn",.int lo,.int hi]
end
end Fz
namespace L2
section
variable{X:Cx}
theorem mW:BA X (compareOp .IsNot) (λx y H Q=>∃a b,x=.bl a/\y=.bl b/\Q (.bl (!(a == b))) H):=by
 intro Zd s Z H x y v u Q I d c h;obtain⟨a,b,rfl,rfl,q⟩:=h;cases d;cases c;refine wpAny_isNot_plain (by cases a <;> cases b <;> rfl) (Bj I q ?_)
 cases a <;> cases b <;> rfl
end
end L2
namespace Fz
open L2 Lw
section
variable[Xw]
variable{E:Ent0}{ss:List Slot}{Z:L2.St}{F H F' H':Hp}{K:ZE7}{js:List Nat}{ta tb tc te:TE}{k:PV->Prop}{nx:List Slot->Prop}{R:BD}{xs ys:List PV}{P:Program}{w:World}
theorem Z2(h:Wp ss ta λp=>∃a,p=.bl a/\Wp ss tb λq=>∃b,q=.bl b/\k (.bl (!(a == b)))):Wp ss (Bo (λx y H Q=>∃a b,x=.bl a/\y=.bl b/\Q (.bl (!(a == b))) H) ta tb) k:=⟨λE Z F H Q S q=>
 h.go E Z F H _ S λv p F1 H1 c e AR=>by
  obtain⟨a,i,h2⟩:=AR;subst i;cases e.inv;exact h2.go E Z F1 H1 _ c.st λj p2 F2 H2 f d DI=>by
   obtain⟨b,g,kk⟩:=DI;subst g;cases d.inv;exact⟨a,b,rfl,rfl,q _ _ F2 H2 (c.trans f) (.bl _) kk⟩⟩
theorem uj{k:List PV->Prop}(h:Wq ss te λ_ xs=>∃ns:List Str,xs=ns.map PV.str/\ns.length<64/\∀c:List Str,c.length=(dd ns).length->(∀x,(dd ns).any (· == x)=true↔x∈c)->sortedS c=true->k (c.map PV.str)):
  Wn ss (DA (Wx P w) (BH (DA (λxs H Q=>∃(p:Addr)(tp:Bool)(ss:List Str),xs=[.ref p]/\ER K tp H p (ss.map V.str)/\ss.length<4000/\∀l,H l=none->Q (.ref l) (upd H l (Em P w l (λg=>(dd ss).any (· == g)) (dd ss).length))) (BH te Bl)) Bl)) k:=⟨λE Z F H Q S q=>
 h.go E Z F H _ S λv tp xs F1 H1 f sv AR=>by
  obtain⟨ns,e,n,kk⟩:=AR;subst e;obtain⟨l,vs,rfl,j,r⟩:=sv.seq f.st;rw[r.strs]at j;refine⟨l,tp,ns,rfl,FI.sq j,by omega,λa t=>?_⟩;have d:=f.st.make t (Em P w a (λg=>(dd ns).any (· == g)) (dd ns).length)
  refine⟨a,_,_,rfl,AZ,HM (QX ns) n,λb c i C6 s o=>?_⟩;have m:=d.st.make i (.lst (c.map V.str));exact q b _ _ F1 _ (f.trans (d.trans m)) (d.st.Cn i) ((f.trans d).none i) AZ (Il c) (kk c C6 s o)⟩
end
end Fz
namespace Fz
open L2 Lw
variable{E:Ent0}{ss:List Slot}{Z:L2.St}{F H:Hp}{ta tb te:TE}{k:PV->Prop}{nx:List Slot->Prop}{R:BD}{xs:List PV}
theorem oJ{α:Type}(b:List α)(x:α)(j:Nat):(b.take j++x::b.drop j).Perm (x::b):=by
 have h:=List.perm_middle (a:=x) (l₁:=b.take j) (l₂:=b.drop j)
 rwa [L7]at h
theorem VC{a:List Str}{x:Str}(j:Nat)(h:a.Nodup)(hx:x∉a):(a.take j++x::a.drop j).Nodup:=(oJ a x j).nodup_iff.mpr (List.nodup_cons.mpr ⟨hx,h⟩)
end Fz
namespace Lw
open L2
variable{c t:Addr}{r:Str}{g:Int}{ss:List Str}
def JD(H:Hp)(t c:Addr)(r:Str)(g:Int)(ss:List Str):Prop:=H t=some (.tup [.str r,.int g,.ref c])/\H c=some (.tup (ss.map V.str))
theorem JD.h{H:Hp}(h:JD H t c r g ss):Wu H t r g ss:=⟨c,h⟩
theorem JD.same{H H':Hp}(s:AJ H H')(h:JD H t c r g ss):JD H' t c r g ss:=⟨s _ _ h.1,s _ _ h.2⟩
end Lw
namespace Fz
open L2 Lw
variable{E:Ent0}{ss:List Slot}{Z:L2.St}{F F' H H':Hp}{ta tb tc te ti:TE}{nx:List Slot->Prop}{R:BD}{k:PV->Prop}{a b t:Addr}{g i j:Nat}{ps xs ys:List PV}{A:Around}{vs ws:List V}{A3 Bd:List Value}{p q:PV}{x:V}{Bt tp:Bool}{v:Value}
noncomputable def E2(r:Str)(g:Nat)(ss:List Str):PV:=.tup [.str r,.int g,.tup (ss.map .str)]
section
variable[Xw]
variable{F1:Hp}{K:ZE7}{js:List Nat}
theorem Mv.adopt(m:Mv E ss Z F H F1 H')(S:Sg E ss Z F H){o:HO}(c:H t=Option.none)(e:H' t=some o):Mv E ss Z F H (upd F1 t o) H':=by
 have b:AJ F1 (upd F1 t o):=λa u q=>by
  by_cases z:a=t
  .subst z;have w:=m.st.fh _ _ q;rw[e]at w;rw[AZ];exact w
  .rw[As z];exact q
 refine S.step (m.ff.trans b) (λa u q=>?_) m.hh (λa u q=>?_) λi l hi d=>m.st.Gd hi d
 .by_cases z:a=t
  .subst z;rw[AZ]at q;rw[<- q];exact e
  .rw[As z]at q;exact m.st.fh a u q
 .by_cases z:a=t
  .subst z;exact .inr c
  .rw[As z]at q;exact m.nn a u q
theorem xQ{c:Addr}{r:Str}{cs:List Str}(h:JD F t c r g cs):Rep F (.ref t) (E2 r g cs):=.tup h.1 (.cons (.str _) (.cons (.int _) (.one (.tup h.2 (Il cs)))))
def Ml(ns:List Str)(r:Str)(g:Nat)(cs:List Str):PV:=match Di ns g cs with
 | []=>.tup [.AB,E2 r g cs]
 |x::_=>.tup [.str x,E2 r (ns.idxOf x+1) (wo cs x)]
theorem ZJ(hi:ss[i]?=some .AQ)(h:Wq ss ta λtp xs=>tp=false/\∃ns:List Str,xs=ns.map PV.str/\ns.length<=40/\ns.Nodup/\∀(r:Str)(g:Nat)(cs:List Str),BK ns r g cs->cs.length<=40->k (E2 r g cs)):
  Wp ss (Ep WK [] E0 (BH (Cg i) (BH ta Bl))) k:=⟨λE Z F H Q S q=>by
 obtain⟨p,e,_⟩:=S.ok i _ hi;refine⟨_,e,h.go E Z F H _ S λv tp xs F1 H1 a sv⟨J,ns,ex,B,nd,kk⟩=>?_⟩;subst J;subst ex;obtain⟨l,vs,I,hn,d,r⟩:=sv;subst I;rw[r.strs]at d;refine⟨p,l,ns,rfl,a.st.Gd hi e,d,λz=>hn i hi (z▸e),B,nd,λt c r g cs H3 C D s j f G=>?_⟩;obtain⟨x,b,w,u,o,m⟩:=G;obtain⟨n,rfl⟩:=Ie b;have A:=(a.st.Mt hi e s).adopt a.st D f;have y:=A.adopt a.st C j;refine q _ _ _ H3 (a.trans y) (xQ (c:=c) ⟨AZ,?_⟩) (kk r n cs ⟨x,b,w,u,o⟩ m)
 by_cases z:c=t
 .subst z;rw[AZ];exact j.symm.trans f
 .rw[As z,AZ]⟩
end
mutual
def Bf:PV->PV->Bool
 | .lst xs,.lst ys=>Ck xs ys
 | .tup xs,.tup ys=>Ck xs ys
 | .tup xs,.con _ ys=>Ck xs ys
 | .con _ xs,.tup ys=>Ck xs ys
 | .con _ xs,.con _ ys=>Ck xs ys
 | .AB,.AB=>true
 | .bl a,.bl b=>a == b
 | .bl a,.int b=>(if a then 1 else 0) == b
 | .int a,.bl b=>a == (if b then 1 else 0)
 | .int a,.int b=>a == b
 | .str a,.str b=>a == b
 |_,_=>false
def Ck:List PV->List PV->Bool
 | [],[]=>true
 |x::r,y::t=>Bf x y && Ck r t
 |_,_=>false
end
theorem OF(x y:PV)(r t:List PV):Ck (x::r) (y::t)=(Bf x y && Ck r t):=by rw[Ck]
theorem LU:∀(xs ys:List PV),xs.length≠ys.length->Ck xs ys=false
 | [],[],h=>absurd rfl h
 | [],_::_,_=>by rw[Ck];all_goals simp
 |_::_,[],_=>by rw[Ck];all_goals simp
 |x::r,y::t,h=>by rw[OF,LU r t (by simpa using h),Jf]
theorem Sr:∀(xs ys:List PV),xs.length=ys.length->Ck xs ys=(List.range xs.length).all λj=>Bf (xs.getD j .AB) (ys.getD j .AB)
 | [],[],_=>by rw[Ck];rfl
 |x::r,y::t,h=>by
  rw[OF,Sr r t (by simpa using h),C5,List.range_succ_eq_map,OK,List.all_map]
  rfl
def dat(K:ZE7):Nat->PV->Prop
 |_,.AB=>True
 |_,.bl _=>True
 |_,.int _=>True
 |_,.str _=>True
 |d+1,.lst xs=>∀x∈xs,dat K d x
 |d+1,.tup xs=>∀x∈xs,dat K d x
 |d+1,.con a xs=>(∀x∈xs,dat K d x)/\xs.all flat=true/\∀H,Al K H a (xs.map Fz.enc)
 |_,_=>False
inductive GQ (K:ZE7) (H:Hp):V->PV->Bool->Addr->List V->List PV->Prop where
 |lst {a:Addr}{vs:List V}{xs:List PV}:AO K H a vs->AX H vs xs->GQ K H (.ref a) (.lst xs) false a vs xs
 |tup {a:Addr}{vs:List V}{xs:List PV}:Al K H a vs->AX H vs xs->GQ K H (.ref a) (.tup xs) true a vs xs
 |con {a:Addr}{vs:List V}{xs:List PV}:Al K H a vs->AX H vs xs->GQ K H (.ref a) (.con a xs) true a vs xs
theorem G1{K:ZE7}:∀{d:Nat}{x:V}{p:PV},dat K d p->Rep H x p->(flat p=true/\x=Fz.enc p)∨∃d' tp a vs xs,d=d'+1/\GQ K H x p tp a vs xs/\∀y∈xs,dat K d' y:=by
 intro d x p h r;cases r with
 |AB=>exact .inl ⟨rfl,rfl⟩
 |bl b=>exact .inl ⟨rfl,rfl⟩
 |int b=>exact .inl ⟨rfl,rfl⟩
 |str b=>exact .inl ⟨rfl,rfl⟩
 |lst e r=>cases d with
  |zero=>exact h.elim
  |succ d=>exact .inr ⟨d,_,_,_,_,rfl,.lst (AO.of e) r,h⟩
 |tup e r=>cases d with
  |zero=>exact h.elim
  |succ d=>exact .inr ⟨d,_,_,_,_,rfl,.tup (Al.of e) r,h⟩
 |con=>cases d with
  |zero=>exact h.elim
  |succ d=>obtain⟨h1,h2,c⟩:=h;exact .inr ⟨d,_,_,_,_,rfl,.con (c H) (aE h2),h1⟩
 |Ft _ _ _=>cases d <;> exact h.elim
 |obj _ _ _ _=>cases d <;> exact h.elim
 |Mx _=>cases d <;> exact h.elim
 |exc _ _ _ _=>cases d <;> exact h.elim
section
variable{X:Cx}{Zd:ZE8}{s:Shared}
theorem uz(d:Vals vs A3)(c:Vals ws Bd)(f:AX H vs xs)(e:AX H ws ys)
  (h:∀(x y:V)(p q:PV)(u v:Value),p∈xs->q∈ys->Rep H x p->Rep H y q->RelV x u->RelV y v->SeqAt.EqAt A s u v (Bf p q)) :
  ∀j(h1:j<A3.toArray.size)(h2:j<Bd.toArray.size),SeqAt.EqAt A s A3.toArray[j] Bd.toArray[j] ((λj=>Bf (xs.getD j .AB) (ys.getD j .AB)) j):=λj h1 h2=>by
 have l1:=d.length;have l2:=c.length;have D:=f.length;have C:=e.length;have B:j<A3.length:=by simpa using h1
 have z:j<Bd.length:=by simpa using h2
 have b:j<xs.length:=by omega
 have a:j<ys.length:=by omega
 obtain⟨x,hx,m⟩:=f.get (i:=j) (p:=xs[j]) (Bb b);obtain⟨y,r,l⟩:=e.get (i:=j) (p:=ys[j]) (Bb a);obtain⟨u,k,o⟩:=d.get hx;obtain⟨v,g,n⟩:=c.get r;rw[Bb B]at k;rw[Bb z]at g;have w:A3[j]=u:=CH k;have t:Bd[j]=v:=CH g;have q:=h x y _ _ u v (Hw b) (Hw a) m l o n;rw[<- w,<- t]at q;show SeqAt.EqAt A s _ _ (Bf (xs.getD j .AB) (ys.getD j .AB));rw[Jj,Bb b,Jj,Bb a]
 simpa using q
theorem PY(h:GQ X.K H x p tp a vs xs)(f:flat q=true):Bf p q=false/\Bf q p=false:=by
 cases h <;> cases q <;> first|exact Bool.noConfusion f|exact⟨rfl,rfl⟩
theorem TK{y:V}(h:GQ X.K H x p tp a vs xs)(h2:GQ X.K H y q Bt b ws ys):Bf p q=(if tp=Bt then Ck xs ys else false):=by
 cases h <;> cases h2 <;> rfl
theorem RB(h:flat p=true)(h2:flat q=true):Bf p q=DN (Fz.enc p) (Fz.enc q):=by
 cases p <;> cases q <;> first|exact Bool.noConfusion h|exact Bool.noConfusion h2|rfl
theorem mO{u:Value}(h:flat p=true)(h2:flat q=true)(b:RelV (Fz.enc p) u)(a:RelV (Fz.enc q) v):SeqAt.RcAt A s u v (Bf p q)/\SeqAt.RcNeAt A s u v (!Bf p q):=by
 cases p <;> first|exact Bool.noConfusion h|skip
 all_goals cases q <;> first|exact Bool.noConfusion h2|skip
 .cases b;cases a;exact⟨.none_none,.none_none⟩
 .cases b;cases a;exact⟨.none_bool _,.none_bool _⟩
 .cases b;obtain⟨t,rfl⟩:=a;exact⟨.none_int _ _,.none_int _ _⟩
 .cases b;obtain⟨t,rfl⟩:=a;exact⟨.none_str _ _,.none_str _ _⟩
 .cases b;cases a;exact⟨.bool_none _,.bool_none _⟩
 .cases b;cases a;exact⟨.bool_bool _ _,.bool_bool _ _⟩
 .cases b;obtain⟨t,rfl⟩:=a;exact⟨.bool_int _ _ _,.bool_int _ _ _⟩
 .cases b;obtain⟨t,rfl⟩:=a;exact⟨.bool_str _ _ _,.bool_str _ _ _⟩
 .obtain⟨t,rfl⟩:=b;cases a;exact⟨.int_none _ _,.int_none _ _⟩
 .obtain⟨t,rfl⟩:=b;cases a;exact⟨.int_bool _ _ _,.int_bool _ _ _⟩
 .obtain⟨t,rfl⟩:=b;obtain⟨c,rfl⟩:=a;exact⟨.int_int _ _ _ _,.int_int _ _ _ _⟩
 .obtain⟨t,rfl⟩:=b;obtain⟨c,rfl⟩:=a;exact⟨.int_str _ _ _ _,.int_str _ _ _ _⟩
 .obtain⟨t,rfl⟩:=b;cases a;exact⟨.str_none _ _,.str_none _ _⟩
 .obtain⟨t,rfl⟩:=b;cases a;exact⟨.str_bool _ _ _,.str_bool _ _ _⟩
 .obtain⟨t,rfl⟩:=b;obtain⟨c,rfl⟩:=a;exact⟨.str_int _ _ _ _,.str_int _ _ _ _⟩
 .obtain⟨t,rfl⟩:=b;obtain⟨c,rfl⟩:=a;exact⟨.str_str _ _ _ _,.str_str _ _ _ _⟩
def Qt(h:Heap)(tp:Bool)(a:Addr)(A3:Array Value):Prop:=if tp then IsTup h a A3 else h.IsList a A3
theorem GQ.GN(I:Inv X Zd Z H s)(h:GQ X.K H x p tp a vs xs):∃A3:List Value,x=.ref a/\Vals vs A3/\Qt s.heap tp a A3.toArray/\AX H vs xs:=by
 cases h with
 |lst h r=>obtain⟨A3,b,p1,_⟩:=I.list h;exact⟨A3,rfl,b,p1.isList,r⟩
 |tup h r=>obtain⟨A3,b,p1,_⟩:=I.tuple h;exact⟨A3,rfl,b,p1,r⟩
 |con h r=>obtain⟨A3,b,p1,_⟩:=I.tuple h;exact⟨A3,rfl,b,p1,r⟩
theorem Q0{A3:Array Value}(h:Qt s.heap tp a A3)(f:flat q=true)(c:RelV (Fz.enc q) v)(b:A.units<cLine):
  (SeqAt.EqAt A s (.ref a) v false/\SeqAt.EqAt A s v (.ref a) false)/\(SeqAt.RcAt A s (.ref a) v false/\SeqAt.RcAt A s v (.ref a) false)/\(SeqAt.RcNeAt A s (.ref a) v true/\SeqAt.RcNeAt A s v (.ref a) true):=by
 cases tp with
 |false=>
  have h':s.heap.IsList a A3:=h;cases q <;> first|exact Bool.noConfusion f|skip
  .cases c;exact⟨⟨.list_none h' b,.none_list h' b⟩,⟨.list_none h' b,.none_list h' b⟩,⟨.list_none h' b,.none_list h' b⟩⟩
  .cases c;exact⟨⟨.list_bool _ h' b,.bool_list _ h' b⟩,⟨.list_bool _ h' b,.bool_list _ h' b⟩,⟨.list_bool _ h' b,.bool_list _ h' b⟩⟩
  .obtain⟨t,rfl⟩:=c;exact⟨⟨.list_int _ _ h' b,.int_list _ _ h' b⟩,⟨.list_int _ _ h' b,.int_list _ _ h' b⟩,⟨.list_int _ _ h' b,.int_list _ _ h' b⟩⟩
  .obtain⟨t,rfl⟩:=c;exact⟨⟨.list_str _ _ h' b,.str_list _ _ h' b⟩,⟨.list_str _ _ h' b,.str_list _ _ h' b⟩,⟨.list_str _ _ h' b,.str_list _ _ h' b⟩⟩
 |true=>
  have h':IsTup s.heap a A3:=h;cases q <;> first|exact Bool.noConfusion f|skip
  .cases c;exact⟨⟨.tuple_none h' b,.none_tuple h' b⟩,⟨.tuple_none h' b,.none_tuple h' b⟩,⟨.tuple_none h' b,.none_tuple h' b⟩⟩
  .cases c;exact⟨⟨.tuple_bool _ h' b,.bool_tuple _ h' b⟩,⟨.tuple_bool _ h' b,.bool_tuple _ h' b⟩,⟨.tuple_bool _ h' b,.bool_tuple _ h' b⟩⟩
  .obtain⟨t,rfl⟩:=c;exact⟨⟨.tuple_int _ _ h' b,.int_tuple _ _ h' b⟩,⟨.tuple_int _ _ h' b,.int_tuple _ _ h' b⟩,⟨.tuple_int _ _ h' b,.int_tuple _ _ h' b⟩⟩
  .obtain⟨t,rfl⟩:=c;exact⟨⟨.tuple_str _ _ h' b,.str_tuple _ _ h' b⟩,⟨.tuple_str _ _ h' b,.str_tuple _ _ h' b⟩,⟨.tuple_str _ _ h' b,.str_tuple _ _ h' b⟩⟩
theorem GQ.inj(I:Inv X Zd Z H s){x y:V}{p q:PV}{tp Bt:Bool}{a:Addr}{vs ws:List V}{xs ys:List PV}(h:GQ X.K H x p tp a vs xs)(h2:GQ X.K H y q Bt a ws ys):tp=Bt/\vs=ws:=by
 have b:∀{vs ws:List V},AO X.K H a vs->Al X.K H a ws->False:=λ{vs ws}h1 h2=>by
  obtain⟨A3,_,p1,_⟩:=I.list h1;obtain⟨Bd,_,p2,_⟩:=I.tuple h2;obtain⟨o,n,e,c,_⟩:=p1;obtain⟨f,d,c2,_⟩:=p2;rw[e]at d;cases d;rw[c]at c2;exact absurd c2 (by decide)
 cases h with
 |lst h r=>cases h2 with
  |lst h2 _=>exact⟨rfl,I.fq h h2⟩
  |tup h2 _=>exact(b h h2).elim
  |con h2 _=>exact(b h h2).elim
 |tup h r=>cases h2 with
  |lst h2 _=>exact(b h2 h).elim
  |tup h2 _=>exact⟨rfl,I.O2 h h2⟩
  |con h2 _=>exact⟨rfl,I.O2 h h2⟩
 |con h r=>cases h2 with
  |lst h2 _=>exact(b h2 h).elim
  |tup h2 _=>exact⟨rfl,I.O2 h h2⟩
  |con h2 _=>exact⟨rfl,I.O2 h h2⟩
theorem ba(h:flat p=true):DN (Fz.enc p) (Fz.enc p)=true:=by cases p <;> first|exact Bool.noConfusion h|exact t4 _|rfl
theorem ZCV(i:∀(x:V)(p q:PV),Rep H x p->Rep H x q->dat X.K d p->dat X.K d q->Bf p q=true)(f:AX H vs xs)(c:AX H vs ys)(h1:∀x∈xs,dat X.K d x)(h2:∀y∈ys,dat X.K d y):Ck xs ys=true:=by
 induction xs generalizing vs ys with
 |nil=>
  cases f.Gv;cases ys with
  |nil=>rfl
  |cons y t=>obtain⟨v,ws,e,_⟩:=c.inv;cases e
 |cons x xs g=>
  obtain⟨v,ws,rfl,a,b⟩:=f.inv;cases ys with
  |nil=>have e:=c.Gv;cases e
  |cons y t=>
   obtain⟨l,h,e,k,j⟩:=c.inv;cases e;rw[OF,i _ _ _ a k (h1 _ Bc) (h2 _ Bc),g b j (λx hx=>h1 x (By _ hx)) (λx hx=>h2 x (By _ hx))];rfl
theorem jc(I:Inv X Zd Z H s):∀(d:Nat)(x:V)(p q:PV),Rep H x p->Rep H x q->dat X.K d p->dat X.K d q->Bf p q=true:=λd=>by
 induction d with
 |zero=>
  intro x p q k h h1 h2;rcases G1 h1 k with⟨f1,j⟩|⟨d',_,_,_,_,e,_⟩
  .rcases G1 h2 h with⟨c,g⟩|⟨d',_,_,_,_,e,_⟩
   .rw[RB f1 c,<- j,g];exact ba c
   .cases e
  .cases e
 |succ d o=>
  intro x p q k h h1 h2;rcases G1 h1 k with⟨f1,j⟩|⟨v,tp,a,vs,xs,e,i,k1⟩
  .rcases G1 h2 h with⟨c,g⟩|⟨u,Bt,b,ws,ys,e,f,k2⟩
   .rw[RB f1 c,<- j,g];exact ba c
   .obtain⟨_,ex,_⟩:=f.GN I;subst ex;cases p <;> first|(cases f1;done)|(cases j;done)
  .cases e;rcases G1 h2 h with⟨c,g⟩|⟨u,Bt,b,ws,ys,e,f,k2⟩
   .obtain⟨_,ex,_⟩:=i.GN I;subst ex;cases q <;> first|(cases c;done)|(cases g;done)
   .cases e;obtain⟨_,ex,_,_,n⟩:=i.GN I;obtain⟨_,l,_,_,m⟩:=f.GN I;rw[ex]at l;cases l;obtain⟨t,r⟩:=i.inj I f;subst r;rw[TK i f,lO t];exact ZCV o n m k1 k2
theorem sU(b:Vals vs A3)(a:Vals ws Bd)(d:AX H vs xs)(c:AX H ws ys):A3.toArray.size=xs.length/\Bd.toArray.size=ys.length:=by
 have l1:=b.length;have l2:=a.length;have f:=d.length;have e:=c.length;simp only[Bi];omega
theorem cz(h1:Qt s.heap tp a A3.toArray)(h2:Qt s.heap Bt b Bd.toArray)(m:Vals vs A3)(l:Vals ws Bd)(o:AX H vs xs)(n:AX H ws ys)(c:A.units<cLine)
  (h:∀(x y:V)(p q:PV)(u v:Value),p∈xs->q∈ys->Rep H x p->Rep H y q->RelV x u->RelV y v->SeqAt.EqAt A.in1 s u v (Bf p q)) :
  SeqAt.RcAt A s (.ref a) (.ref b) (if tp=Bt then Ck xs ys else false)/\SeqAt.RcNeAt A s (.ref a) (.ref b) (!(if tp=Bt then Ck xs ys else false)):=by
 obtain⟨i,k⟩:=sU m l o n;have it:=uz (A:=A.in1) m l o n h;cases tp with
 |false=>cases Bt with
  |false=>
   rw[lO rfl];have g:s.heap.IsList a A3.toArray:=h1;have f:s.heap.IsList b Bd.toArray:=h2
   by_cases d:xs.length=ys.length
   .rw[Sr xs ys d,<- i];exact⟨.lists g f (by omega) c it,.lists g f (by omega) c it⟩
   .rw[LU xs ys d];have r:(A3.toArray.size != Bd.toArray.size)=true:=by simp only[bne_iff_ne,ne_eq];omega
    exact⟨.lists_lengths g f r c,.lists_lengths g f r c⟩
  |true=>rw[lA (by decide)];exact⟨.list_tuple h1 h2 c,.list_tuple h1 h2 c⟩
 |true=>cases Bt with
  |false=>rw[lA (by decide)];exact⟨.tuple_list h1 h2 c,.tuple_list h1 h2 c⟩
  |true=>
   rw[lO rfl];have g:IsTup s.heap a A3.toArray:=h1;have f:IsTup s.heap b Bd.toArray:=h2;have e:((List.range (min A3.toArray.size Bd.toArray.size)).all (λj=>Bf (xs.getD j .AB) (ys.getD j .AB)) && A3.toArray.size == Bd.toArray.size)=Ck xs ys:=by
    by_cases d:xs.length=ys.length
    .rw[Sr xs ys d,i,k,<- d,ix,t4,RJ]
    .rw[LU xs ys d,i,k,show(xs.length == ys.length)=false from by simpa using d,Jf]
   have k1:=SeqAt.RcAt.tuples (A:=A) (e:=λj=>Bf (xs.getD j .AB) (ys.getD j .AB)) g f c it;have k2:=SeqAt.RcNeAt.tuples (A:=A) (e:=λj=>Bf (xs.getD j .AB) (ys.getD j .AB)) g f c it;rw[e]at k1 k2;exact⟨k1,k2⟩
theorem rz(I:Inv X Zd Z H s):∀(d:Nat)(x y:V)(p q:PV),Rep H x p->Rep H y q->dat X.K d p->dat X.K d q->∀(A:Around)(u v:Value),RelV x u->RelV y v->A.units+d<cLine->SeqAt.EqAt A s u v (Bf p q):=λd=>by
 induction d with
 |zero=>
  intro x y p q i h h1 h2 A u v f c F;rcases G1 h1 i with⟨f1,n⟩|⟨_,_,_,_,_,e,_⟩
  .rcases G1 h2 h with⟨g,l⟩|⟨_,_,_,_,_,e,_⟩
   .subst n;subst l;rw[RB f1 g];exact PF f c (R5 f1) (R5 g)
   .cases e
  .cases e
 |succ d E=>
  intro x y p q i h h1 h2 A u v f c F;rcases G1 h1 i with⟨f1,n⟩|⟨M,tp,a,vs,xs,e,m,k1⟩
  .rcases G1 h2 h with⟨g,l⟩|⟨L,Bt,b,ws,ys,e,k,k2⟩
   .subst n;subst l;rw[RB f1 g];exact PF f c (R5 f1) (R5 g)
   .obtain⟨A3,o,_,j,_⟩:=k.GN I;subst n;subst o;cases(show v=Value.ref b from c);rw[(PY k f1).2];exact(Q0 j f1 f (by omega)).1.2
  .cases e;rcases G1 h2 h with⟨g,l⟩|⟨L,Bt,b,ws,ys,e,k,k2⟩
   .obtain⟨A3,ex,_,j,_⟩:=m.GN I;subst l;subst ex;cases(show u=Value.ref a from f);rw[(PY m g).1];exact(Q0 j g c (by omega)).1.1
   .cases e;obtain⟨A3,ex,B,D,w⟩:=m.GN I;obtain⟨Bd,o,z,C,t⟩:=k.GN I;subst ex;subst o;cases(show u=Value.ref a from f);cases(show v=Value.ref b from c)
    by_cases r:a=b
    .subst r;rw[jc I (d+1) _ p q i h h1 h2];exact .same _
    .rw[TK m k];refine SeqAt.EqAt.of_refs r (cz D C B z w t (by omega) λx y p q u v J G i h f c=>?_).1;exact E x y p q i h (k1 p J) (k2 q G) A.in1 u v f c (by show A.units+1+d<cLine;omega)
theorem gU(I:Inv X Zd Z H s)(d:Nat)(x y:V)(p q:PV)(m:Rep H x p)(i:Rep H y q)(h1:dat X.K d p)(h2:dat X.K d q)(A:Around)(u v:Value)(f:RelV x u)(c:RelV y v)(L:A.units+d<cLine):SeqAt.RcAt A s u v (Bf p q)/\SeqAt.RcNeAt A s u v (!Bf p q):=by
 rcases G1 h1 m with⟨f1,o⟩|⟨r,tp,a,vs,xs,e,k,k1⟩
 .rcases G1 h2 i with⟨l,h⟩|⟨J,Bt,b,ws,ys,e,g,k2⟩
  .subst o;subst h;exact mO f1 l f c
  .obtain⟨A3,n,_,j,_⟩:=g.GN I;subst o;subst n;cases(show v=Value.ref b from c);rw[(PY g f1).2];have z:=Q0 (A:=A) j f1 f (by omega);exact⟨z.2.1.2,z.2.2.2⟩
 .rcases G1 h2 i with⟨l,h⟩|⟨J,Bt,b,ws,ys,h,g,k2⟩
  .obtain⟨A3,ex,_,j,_⟩:=k.GN I;subst h;subst ex;cases(show u=Value.ref a from f);rw[(PY k l).1];have z:=Q0 (A:=A) j l c (by omega);exact⟨z.2.1.1,z.2.2.1⟩
  .subst e;cases h;obtain⟨A3,ex,C,E,w⟩:=k.GN I;obtain⟨Bd,n,B,D,t⟩:=g.GN I;subst ex;subst n;cases(show u=Value.ref a from f);cases(show v=Value.ref b from c);rw[TK k g];exact cz E D C B w t (by omega) λx y p q u v G F m i f c=>rz I r x y p q m i (k1 p G) (k2 q F) A.in1 u v f c (by show A.units+1+r<cLine;omega)
def PJ(K:ZE7)(neg:Bool):R2:=λx y H Q=>∃p q,Rep H x p/\Rep H y q/\dat K 40 p/\dat K 40 q/\Q (.bl (if neg then !Bf p q else Bf p q)) H
theorem Sf(i:X.A.units+64<cLine):BA X (compareOp .Eq) (PJ X.K false):=by
 intro Zd s Z H x y v u Q I b a h;obtain⟨p,q,d,c,g,f,e⟩:=h;exact(gU I 40 x y p q d c g f X.A _ _ b a (by omega)).1 _ _ _ _ ⟨.bl (Bf p q),H,I,rfl,e⟩
theorem SQ(i:X.A.units+64<cLine):BA X (compareOp .NotEq) (PJ X.K true):=by
 intro Zd s Z H x y v u Q I b a h;obtain⟨p,q,d,c,g,f,e⟩:=h;exact(gU I 40 x y p q d c g f X.A _ _ b a (by omega)).2 _ _ _ _ ⟨.bl (!Bf p q),H,I,rfl,e⟩
end
section
variable[Xw]
variable{K:ZE7}
theorem QC(h:Wp ss ta λp=>Wp ss tb λq=>dat K 40 p/\dat K 40 q/\k (.bl (Bf p q))):Wp ss (Bo (PJ K false) ta tb) k:=⟨λE Z F H Q S q=>
 h.go E Z F H _ S λv p F1 H1 b d h2=>h2.go E Z F1 H1 _ b.st λg p2 F2 H2 a c⟨f,e,kk⟩=>
  ⟨p,p2,(d.mono a.ff).mono a.st.fh,c.mono a.st.fh,f,e,q _ _ F2 H2 (b.trans a) (.bl _) kk⟩⟩
theorem Ow(h:Wp ss ta λp=>Wp ss tb λq=>dat K 40 p/\dat K 40 q/\k (.bl (!Bf p q))):Wp ss (Bo (PJ K true) ta tb) k:=⟨λE Z F H Q S q=>
 h.go E Z F H _ S λv p F1 H1 b d h2=>h2.go E Z F1 H1 _ b.st λg p2 F2 H2 a c⟨f,e,kk⟩=>
  ⟨p,p2,(d.mono a.ff).mono a.st.fh,c.mono a.st.fh,f,e,q _ _ F2 H2 (b.trans a) (.bl _) kk⟩⟩
end
end Fz
namespace L2
variable{M:Model}{A:Around}{E Q xe:Value->Shared->Prop}{s s':Shared}{Zp h':Heap}{env:Env}{l outer:List Env}{C S a b ea f fI:Addr}{dx fr tb:Option Addr}{o:HO}{vs:Array Value}{cd head u v:Value}{oI oe ox:Obj}{w:World}{mN mg:ZE9}{N ps sn:List Str}{n name par qual x:Str}{scope:Scope}{H H':Hp}{e e0:Expr}{X:Cx}{Hi r:Option Value}{E':St->XK}{Bg GW np p pos:Pos}{es:List Expr}{t:TA}{ab hdct:Bool}{prog:Program}{Qw us:List Value}{od:Option Obj}{tk:Tok}{Zd pn:ZE8}{Z:St}{j k kk t':Nat}{ta te:TE}{fd:FuncData}{b0:Stmt}{Hk:(St->XK)->TS}{th:TS}{sp:Sp}
structure FO (h:Heap) (ea:Addr) (C:Value) (dx tb:Option Addr):Prop where
 obj:∃oe vs,h.get? ea=some oe/\oe.cls=C/\oe.dict=dx/\oe.data=.fields vs/\1<vs.size/\vs[1]?=some (tb.elim Value.none Value.ref)
 ent:∀T,tb=some T->T≠ea/\∃oT ts,h.get? T=some oT/\oT.data=.fields ts/\3<ts.size
section
variable{L:Addr}{C:Value}{Q:Unit->Shared->Prop}
theorem rJ(o:Obj)(g:Array Value->Array Value):(o.mapFields g).dict=o.dict:=by
 obtain⟨c,d,dt,sl⟩:=o;cases dt <;> rfl
structure Kp (l:List Env) (ea:Addr) (tb:Option Addr) (h h':Heap):Prop where
 keep:∀b o,h.get? b=some o->b∉BV l->b≠ea->tb≠some b->h'.get? b=some o
 slot:∀b o,h.get? b=some o->b∈BV l->∃sl,h'.get? b=some { o with slots:=sl }
 size:h.objs.size<=h'.objs.size
theorem fB(d:s.heap.FunFrames Zp (env::outer)){o:Obj}(ho:s.heap.get? b=some o)(hd:o.data=.fields vs):b∉BV (env::outer):=λc=>by
 obtain⟨_,u,a,hn⟩:=d.mem c;rw[ho]at a;cases a;exact hn vs hd
theorem bp{more:Bool}(J9:A.frames=some (env::outer))(e:s.heap.FunFrames Zp (env::outer))(r:env.frame=some L)
  (f:s.heap.get? ea=some oe) (t:oe.cls=C) (p:oe.dict=dx) (hd:oe.data=.fields vs) (a:1<vs.size)
  (h:∀h' T,Kp (env::outer) ea none s.heap h'->s.heap.objs.size<=T->FO h' ea C dx (some T)->Q () { s with heap:=h' }) :
  wpAny M A (do
   let fr <- frameOf env
   let pl <- entryPlaceOf L more
   let b <- EntryCells.newEntry head fr Value.none (rawInt L) Value.none pl
   setField (.ref ea) 1 b) Q E s:=by
 have l:=fB e f hd;refine jW (wpAny_frameOf_fun J9 e r λg so=>?_);refine jW (wpAny_entryPlaceOf λpl q=>?_);unfold EntryCells.newEntry newFields;refine jW (nU ?_ (q.sizeOk5 _ _ _ _ _));generalize u:([head,Value.ref L,Value.none,rawInt L,Value.none]++(if pl.isEmpty then List.replicate 6 Value.none else pl)).toArray=ts
 have n:3<ts.size:=by
  rw[<- u];simp only[Bi,Bh,C5,RQ];omega
 have j:g.get? ea=some oe:=(so.2.1 ea l).trans f;have v:(g.push { cls:=.type "traceback", dict:=none,data:=.fields ts }).get? g.objs.size=some { cls:=.type "traceback", dict:=none,data:=.fields ts }:=BR g rfl;have i:=BC (h:=g) { cls:=.type "traceback", dict:=none,data:=.fields ts } j;have m:g.objs.size≠ea:=Ii (B7 j);have k:=Fd hd (·.setIfInBounds 1 (Value.ref g.objs.size))
 have x:=ED (Obj.mapFields (·.setIfInBounds 1 (Value.ref g.objs.size))) i (L9 k)
 have y:=(DE (g.push { cls:=.type "traceback", dict:=none,data:=.fields ts }) (Obj.mapFields (·.setIfInBounds 1 (Value.ref g.objs.size))) (BJ m)).trans v
 refine rH i hd a (h _ g.objs.size ⟨λb o c Lr FV _=>?_,λb o c I0=>?_,?_⟩ ?_ ⟨⟨_,_,x,?_,?_,k,?_,?_⟩,λT w=>?_⟩)
 .have d:g.get? b=some o:=(so.2.1 b Lr).trans c;rw[DE _ _ (BJ FV)];exact BC _ d
 .obtain⟨sl,d⟩:=so.2.2 b o c;refine⟨sl,?_⟩;rw[DE _ _ (by rintro rfl;exact l I0)];exact BC _ d
 .rw[RM,EE,so.1];exact EH _
 .rw[so.1];exact Az _
 .rw[RX];exact t
 .rw[rJ];exact p
 .simpa using a
 .simp[a]
 .cases w;exact⟨m,_,_,y,rfl,n⟩
theorem Kp.refl{l:List Env}{ea:Addr}{tb:Option Addr}{h:Heap}:Kp l ea tb h h:=⟨λ_ _ a _ _ _=>a,λ_ o a _=>⟨o.slots,a⟩,Az _⟩
theorem qh(J9:A.frames=some (env::outer))(e:s.heap.FunFrames Zp (env::outer))(f:env.frame=some L)(hx:FO s.heap ea C dx tb)
  (h:∀h' T,Kp (env::outer) ea tb s.heap h'->s.heap.objs.size<=T∨tb=some T->FO h' ea C dx (some T)->Q () { s with heap:=h' }) :
  wpAny M A (noteFrame (.ref ea) env) Q E s:=by
 obtain⟨oe,vs,g,n,hd,Gh,l,h1⟩:=hx.obj;unfold noteFrame;simp only[f];refine jW (sf g Gh h1 ?_);cases tb with
 |none=>
  rw[lA (by decide)];exact bp J9 e f g n hd Gh l λh' T k q=>h h' T k (.inl q)
 |some T=>
  obtain⟨Kj,oT,j,c,Ei,i⟩:=hx.ent T rfl;show wpAny M A (do if(Value.ref T != Value.none)=true then _ else _) _ _ _
  rw[lO (show(Value.ref T != Value.none)=true from by simp)];refine jW (sf c Ei (Kx i) ?_)
  by_cases m:(j[3] == rawInt L)=true
  .rw[lO m];exact kA (h s.heap T Kp.refl (.inr rfl) hx)
  rw[lA m];refine jW (rH c Ei i ?_);have d:∀b,b≠T->(s.heap.update T (Obj.mapFields (·.setIfInBounds 3 Value.none))).get? b=s.heap.get? b:=λb a=>DE _ _ (BJ a)
  have nT:=fB e c Ei;refine bp (s:={ s with heap:=s.heap.update T (Obj.mapFields (·.setIfInBounds 3 Value.none)) }) J9 (e.of_keeps λb o a hn=>⟨o,(d b (by rintro rfl;rw[c]at a;cases a;exact hn j Ei)).trans a,rfl⟩) f ((d ea (BJ Kj)).trans g) n hd Gh l λh' T' k hn x=>?_
  refine h h' T' ⟨λb o a Lr FV G5=>k.keep b o ((d b (by rintro rfl;exact G5 rfl)).trans a) Lr FV (by simp),λb o a I0=>k.slot b o ((d b (by rintro rfl;exact nT I0)).trans a) I0,?_⟩ (.inl ?_) x
  .have z:=k.size;rw[show(s.heap.update T (Obj.mapFields (·.setIfInBounds 3 Value.none))).objs.size=s.heap.objs.size from RM ..]at z
   exact z
  .have z:=hn;rw[show(s.heap.update T (Obj.mapFields (·.setIfInBounds 3 Value.none))).objs.size=s.heap.objs.size from RM ..]at z
   exact z
theorem Ux(x:FO s.heap ea C dx tb)(k:∀b∈BV l,∃o,s.heap.get? b=some o/\∀vs,o.data≠.fields vs)
  (h:∀h',Kp l ea tb s.heap h'->FO h' ea C dx tb->Q () { s with heap:=h' }):wpAny M A (setFlight (.ref ea) fr) Q E s:=by
 obtain⟨oe,vs,g,m,hd,Gh,j,h1⟩:=x.obj;unfold setFlight;refine jW (sf g Gh h1 ?_);cases tb with
 |none=>
  rw[lA (by decide)];exact kA (h s.heap Kp.refl x)
 |some T=>
  obtain⟨Kj,oT,i,c,Ei,e⟩:=x.ent T rfl;rw[lO (show((some T).elim Value.none Value.ref != Value.none)=true from by simp)];generalize (fr.elim Value.none λf=>rawInt f)=mk;have d:∀b,b≠T->(s.heap.update T (Obj.mapFields (·.setIfInBounds 3 mk))).get? b=s.heap.get? b:=λb a=>DE _ _ (BJ a)
  have p:=ED (Obj.mapFields (·.setIfInBounds 3 mk)) c (L9 (Fd Ei _))
  refine rH c Ei e (h _ ⟨λb o a _ _ G5=>(d b (by rintro rfl;exact G5 rfl)).trans a,λb o a I0=>⟨o.slots,(d b ?_).trans a⟩,by rw[RM];exact Az _⟩ ⟨⟨oe,vs,(d ea (BJ Kj)).trans g,m,hd,Gh,j,h1⟩,λT' n=>?_⟩)
  .rintro rfl;obtain⟨o',Cf,hn⟩:=k b I0;rw[c]at Cf;cases Cf;exact hn i Ei
  .cases n;exact⟨Kj,_,_,p,Fd Ei _,by simpa using e⟩
theorem Kp.frames{h:Heap}(k:Kp l ea tb h h')(c:h.FunFrames Zp l):∀b∈BV l,∃o,h'.get? b=some o/\∀vs,o.data≠.fields vs:=λb a=>by
 obtain⟨_,o,ho,hn⟩:=c.mem a;obtain⟨sl,e⟩:=k.slot b o ho a;exact⟨_,e,hn⟩
theorem Kp.trans{T:Addr}{h h1 h2:Heap}(k:Kp l ea tb h h1)(c:h.objs.size<=T∨tb=some T)(k2:Kp l ea (some T) h1 h2):Kp l ea tb h h2:=
 ⟨λb o a Lr FV G5=>k2.keep b o (k.keep b o a Lr FV G5) Lr FV (λz=>c.elim (λy=>absurd (B7 a) (Nat.not_lt.mpr (CH z▸y))) λy=>G5 (y.trans z)),
  λb o a I0=>by
  obtain⟨sl,e⟩:=k.slot b o a I0;obtain⟨Ga,d⟩:=k2.slot b _ e I0;exact⟨Ga,d⟩,Bq k.size k2.size⟩
theorem V4(J9:A.frames=some (env::outer))(a:s.heap.FunFrames Zp (env::outer))(d:env.frame=some L)(hx:FO s.heap ea C dx tb)
  (h:∀h' T,Kp (env::outer) ea tb s.heap h'->s.heap.objs.size<=T∨tb=some T->FO h' ea C dx (some T)->Q () { s with heap:=h' }) :
  wpAny M A (noteFrame (.ref ea) env) (λ_ s'=>wpAny M A (setFlight (.ref ea) none) Q E s') E s:=
 qh J9 a d hx λh1 T k b x=>Ux x (k.frames a) λh2 k2 c=>h h2 T (k.trans b k2) b c
theorem zK(J9:A.frames=some (env::outer))(a:s.heap.FunFrames Zp (env::outer))(b:env.frame=some L)(hx:FO s.heap ea C dx tb)
  (h:∀h' T,Kp (env::outer) ea tb s.heap h'->s.heap.objs.size<=T∨tb=some T->FO h' ea C dx (some T)->Q () { s with heap:=h' }):wpAny M A (leaving env (.ref ea)) Q E s:=by
 unfold leaving;exact jW (V4 J9 a b hx h)
end
def HF(P:Program)(w:World):Fl:=λouter H s E e s'=>∃(ea C:Addr)(dx tb:Option Addr)(H':Hp),e=.ref ea/\s'.os=s.os/\AllBare s'.gens/\Un (BV outer) [] H H' s.heap s'.heap/\C4 P w H' s'.heap/\
 FO s'.heap ea (.ref C) dx tb/\(H' ea=none/\s.heap.get? ea=none)/\(∀T,tb=some T->H' T=none/\s.heap.get? T=none)/\E (.ref C) dx H'
def VY(X:Cx)(E:XK)(e:Value)(s':Shared):Prop:=∃(Zd:ZE8)(Z:St)(H':Hp)(ea C:Addr)(dx tb:Option Addr),e=.ref ea/\Inv X Zd Z H' s'/\
 FO s'.heap ea (.ref C) dx tb/\(H' ea=none/\X.s₀.heap.get? ea=none)/\(∀T,tb=some T->H' T=none/\X.s₀.heap.get? T=none)/\E (.ref C) dx H'
section
variable{P:Program}{K:ZE7}{E:XK}
theorem C4.dB{h:Heap}(ok:C4 P w H' h)(k:∀b u,H' b≠none->h.get? b=some u->h'.get? b=some u):C4 P w H' h':=λa o e=>
 (ok a o e).Ho (λb u c d=>k b u (by rcases c with rfl|c;(rw[e];simp);(rw[c];simp)) d) (λ_ z=>z) λ_ _ z=>z
theorem VY.leave{e:Value}(r:VY (Dy (HF P w) P w K mg Zp N qual scope f cd A outer s H E) E e s'):(Dy (HF P w) P w K mg Zp N qual scope f cd A outer s H E).xe e s':=by
 obtain⟨Zd,Z,H',ea,C,dx,tb,rfl,I,x,⟨k,g⟩,d,n⟩:=r;have fr:=I.ok.frames
 change s.heap.get? ea=none at g
 have d:∀T,tb=some T->H' T=none/\s.heap.get? T=none:=d;refine zK (outer:=outer) (L:=s.heap.objs.size) fr I.stack rfl x λh' T kp h m=>?_;have j:∀b o,s.heap.get? b=some o->b≠s.heap.objs.size:=λb o a=>BY (B7 a);have mem:∀b,b∈BV (envOfC qual scope s.heap.objs.size f cd::outer)->b=s.heap.objs.size∨b∈BV outer:=λb a=>by
  rcases List.mem_cons.mp (I.NH b a)with z|z
  .exact .inl z
  .exact .inr z
 have i:∀b o,s'.heap.get? b=some o->H' b≠none->h'.get? b=some o:=λb o a hn=>kp.keep b o a (λz=>hn (I.QN b z)) (λz=>hn (z▸k)) λz=>hn (d b z).1;refine⟨ea,C,dx,some T,H',rfl,I.os,I.bare,⟨λb o a hn c _=>?_,λb o a hn c _=>?_,λb o a hn hx=>I.base.free b o a hn hx,λb o a hx=>?_,I.base.Fm,I.base.FY,I.base.Fo⟩,I.AN.dB λb u hn a=>i b u a hn,m,⟨k,g⟩,λT' p=>?_,n⟩
 .refine kp.keep b o (I.base.keep b o a hn c (by simp[Dy])) (λz=>(mem b z).elim (j b o a) c) (by rintro rfl;rw[g]at a;cases a) λz=>?_;rw[(d b z).2]at a;cases a
 .obtain⟨sl,h1⟩:=I.base.slot b o a hn c (by simp[Dy]);have q:b∈BV (envOfC qual scope s.heap.objs.size f cd::outer):=by
   show b∈List.filterMap _ (_::_);rw[RP];exact By _ c
  obtain⟨Ga,h2⟩:=kp.slot b _ h1 q;exact⟨Ga,h2⟩
 .obtain⟨l,h1⟩:=I.base.there b o a (by simp[Dy])
  by_cases c:b∈BV (envOfC qual scope s.heap.objs.size f cd::outer)
  .obtain⟨Ga,h2⟩:=kp.slot b _ h1 c;exact⟨_,h2⟩
  .exact⟨l,kp.keep b l h1 c (by rintro rfl;rw[g]at a;cases a) λz=>by rw[(d b z).2]at a;cases a⟩
 .cases p;exact h.elim (λh=>⟨I.AN.fresh h,MN (Bq I.sz h)⟩) (d T)
end
noncomputable abbrev Yg:List Value:=[.type "ValueError",.type "Exception",.type "BaseException",.type "object"]
structure cR (h:Heap) (C:Addr) (Hi:Option Value):Prop where
 obj:∃bm N nm q bs hdct sn sub ab col dd k0 k1 k2 k3 k5 mN,h.get? C=some (excClassObj nm q C N bs bm hdct sn sub ab col dd k0 k1 k2 k3 k5 "ValueError.__new__")/\h.Ns N mN/\mN "__init__"=Hi/\OwnTail h Yg bm
noncomputable def EL(K:ZE7)(C:Addr)(Hi:Option Value):Bool:=match K.lookup C with
 |some ⟨.type "type", _,.cls cd,sl⟩=>(match cd.mro,sl.toList with
  | .ref C'::bm,[_,_,_,_,some (.builtin n),_]=>C' == C && n == "ValueError.__new__" && !cd.hasDel && PySem.W.tailIn K Yg bm && PySem.W.nsOkIn K cd.ns && PySem.W.nsIn K cd.ns "__init__" == some Hi
  |_,_=>false)
 |_=>false
theorem N9{K:ZE7}{h:Heap}(X:K.In h)(q:EL K C Hi=true):cR h C Hi:=by
 unfold EL at q;split at q
 .rename_i dd cd sl ho;split at q
  .rename_i C' bm k0 k1 k2 k3 n k5 hm hs;simp only[CG,yd,ZCh]at q;obtain⟨⟨⟨⟨⟨rfl,rfl⟩,Zl⟩,g⟩,AN⟩,FR⟩:=q;obtain⟨nm,bs,f,ns,qn,hd,sn,sub,ab,col,j⟩:=cd;dsimp only at hm Zl AN FR;subst hm Zl;obtain⟨l⟩:=sl;simp only at hs;subst hs;have G:h.Ns ns (h.nsMap ns):=.of_isNs (PySem.W.isNs_of_in X AN);refine⟨bm,ns,nm,qn,bs,hd,sn,sub,ab,col,dd,k0,k1,k2,k3,k5,_,X _ _ ho,G,?_,PySem.W.tail_of_in X g⟩;cases Hi with
   |none=>exact PySem.W.ns_none_of X G FR
   |some v=>
    obtain⟨o,es,ep,b,a,_,i⟩:=G;unfold PySem.W.nsIn at FR;split at FR
    .rename_i c d Bv n' sl q2;have z:=X _ _ q2;rw[b]at z;cases z;cases a;split at FR
     .rename_i e he;rw[<- i];unfold nsFind findBy;rw[<- ZCd,he]
      simpa using FR
     .split at FR <;> cases FR
    .cases FR
  .cases q
 .cases q
theorem CU.there{P:Program}{h:Heap}(x:CU P w H h a o):∃u,h.get? a=some u:=by
 induction o with
 |lst xs=>obtain⟨_,_,_,_,e⟩:=x;exact⟨_,e⟩
 |tup xs=>obtain⟨_,_,_,⟨_,e,_⟩,_⟩:=x;exact⟨_,e⟩
 |dK CB=>obtain⟨_,_,_,_,_,_,_,e,_⟩:=x;exact⟨_,e⟩
 |dT CB=>obtain⟨_,_,_,_,_,_,_,e,_⟩:=x;exact⟨_,e⟩
 |set S n=>obtain⟨_,_,_,_,e,_⟩:=x;exact⟨_,e⟩
 |ins C dx fs=>obtain⟨_,_,_,e,_⟩:=x;exact⟨_,e⟩
 |own y=>exact x
 |xd fs=>obtain⟨_,⟨_,_,_,e,_⟩,_⟩:=x;exact⟨_,e⟩
 |met f y=>exact⟨_,x⟩
 |P8 lo hi=>obtain⟨_,_,_,e⟩:=x;exact⟨_,e⟩
 |FE ob u _=>exact⟨_,x.1⟩
 |JA ps=>exact⟨_,x⟩
 |ext φ=>exact x.2.1
theorem C4.there{P:Program}{h:Heap}(x:C4 P w H h)(e:H a=some o):∃u,h.get? a=some u:=(x a o e).there
section
variable{E:XK}
def Vb(C:Addr)(E:St->XK)(t:TA):TS:=λ_ Z H=>t Z H λvs H1=>vs.length<=1000/\E Z (.ref C) none H1
def Goes(X:Cx)(E:St->XK):Prop:=∀(Zd:ZE8)(Z:St)(H':Hp)(s':Shared)(ea C:Addr)(dx tb:Option Addr),Inv X Zd Z H' s'->FO s'.heap ea (.ref C) dx tb->(H' ea=none/\X.s₀.heap.get? ea=none)->(∀T,tb=some T->H' T=none/\X.s₀.heap.get? T=none)->
 (∀p∈X.pn++Zd,p.1≠ea/\tb≠some p.1)->E Z (.ref C) dx H'->X.xe (.ref ea) s'
end
noncomputable abbrev Ic(C t:Addr)(dx:Option Addr):Obj:={ cls:=.ref C,dict:=dx,data:=.fields #[.ref t,.none,.none,.none,.bool false,.none] }
section
variable{nm qn:Str}{N:Addr}{bs bm:List Value}{sub:List Value}{col:Option Bool}{dd:Option Addr}{k0 k1 k2 k3 k5:Option Value}{newId:String}
theorem v9{y:Sem Value}{Q:Flow->Shared->Prop}(e:bm.contains (.type "BaseException")=true)(hh:A.handled=none)
  (c:wpAny M A y (λv z=>∃ea t dx,v=.ref ea/\z.heap.get? C=some (excClassObj nm qn C N bs bm hdct sn sub ab col dd k0 k1 k2 k3 k5 newId)/\z.heap.get? ea=some (Ic C t dx)/\E (.ref ea) z) E s) :
  wpAny M A (raiseStmt env (some y) none) Q E s:=by
 have h:(Value.ref C::bm).contains (.type "BaseException")=true:=by
  rw[ZCm,e,Bool.or_true]
 unfold raiseStmt;refine jW (nY c (λv z b=>?_) λ_ _ q=>q);obtain⟨ea,t,dx,rfl,a,oe,f⟩:=b;obtain⟨i,g,d,tk,os⟩:=z
 repeat (first
  |with_reducible refine ZA7 oe ?_
  |with_reducible refine ZA7 a ?_
  | (with_reducible refine wpAny_isSubtype_exc a ?_;rw[h])
  |wp_step)
 exact wpAny_raiseNew_none hh f
variable{h:Heap}{g:Array GenState}{d:Drawn}{t:Nat}{os:OsState}{B dE:String}
theorem z9(F:ExcBaseFacts B newId dE Qw)(T:OwnTail h Qw bm){Q:PySem.Fin->Shared->Prop}
  (a:h.get? C=some (excClassObj nm qn C N bs bm hdct sn sub ab col dd k0 k1 k2 k3 k5 newId)) (hn:h.Ns N mN) (hi:mN "__init__"=some (.ref fI)) (WQ:h.get? fI=some oI) (Nq:oI.cls=.type "function") (Na:us.length<=sizeLine)
  (m:∀h' ea,h.objs.size<=ea->Heap.MadeExcOf h h' ea (.ref C) us->wpAny (model prog w) A (call (.ref fI) (.ref ea::us)) (λr s'=>r=.none/\Q (.done (.ret (.ref ea))) s') E ⟨h',g,d,t,os⟩) :
  wpAny (model prog w) A (Builtin.«type.__call__» ⟨.ref C::us,[]⟩) Q E ⟨h,g,d,t,os⟩:=by
 repeat (first
  |with_reducible refine ZA7 a ?_
  |with_reducible refine wpAny_madeBy_exc a ?_
  |wp_step)
 refine codeAny_call_builtin_code (Y6 _ F.quiet) (wpAny_check_new_subT F T a ?_);refine codeAny_exc_new_subT F T a ?_ Na;show wpAny _ _ _ _ _ _;generalize f:({ cls:=.type "tuple", data:=.seq us.toArray }:Obj)=o1;generalize c:({ cls:=.ref C,data:=.fields #[.ref h.objs.size,.none,.none,.none,.bool false,.none] }:Obj)=o2;have up:∀{b:Addr}{o:Obj},h.get? b=some o->((h.push o1).push o2).get? b=some o:=λe=>BC _ (BC _ e);have g2:((h.push o1).push o2).get? (h.objs.size+1)=some o2:=by
  rw[<- EE h o1];exact BR _ (by rw[<- c];rfl)
 have g1:((h.push o1).push o2).get? h.objs.size=some o1:=BC _ (BR h (by rw[<- f];rfl));have k:((h.push o1).push o2).Ns N mN:=hn.keeps λb o e=>up e;have i:=up a;have j:=up WQ;have u:=T.keeps (h':=(h.push o1).push o2) λb o e=>up e;have s:(Value.ref C::bm).contains (.ref C)=true:=by simp
 have v:o2.cls=.ref C:=by rw[<- c]
 unfold isInstance;subst c
 repeat (first
  |with_reducible refine ZA7 g2 ?_
  | (with_reducible refine wpAny_isSubtype_exc i ?_;rw[s])
  |wp_step)
 show wpAny _ _ (typeLookup (.ref C) _) _ _ _;refine wpAny_typeLookup_tail i k u F.mroIs F.init.lookup ?_;rw[hi];refine oK (jW ?_);unfold bindSpecial;refine jW (xB (T:="function") ⟨_,j,Nq⟩ ?_);rw[lO (by decide)];subst f;refine kA (jW (nY (m _ (h.objs.size+1) (EH _) ⟨λb o n=>up n,MN (EH _),h.objs.size,g2,MN (Az _),g1⟩) (λr s' l=>?_) λ_ _ q=>q));obtain⟨rfl,p⟩:=l
 wp_walk
 exact p
theorem wA(F:ExcBaseFacts B newId dE Qw)(T:OwnTail h Qw bm)
  (a:h.get? C=some (excClassObj nm qn C N bs bm hdct sn sub ab col dd k0 k1 k2 k3 k5 newId)) (hn:h.Ns N mN) (hi:mN "__init__"=some (.ref fI)) (WQ:h.get? fI=some oI) (Nq:oI.cls=.type "function") (Na:us.length<=sizeLine)
  (b:∀h' ea,h.objs.size<=ea->Heap.MadeExcOf h h' ea (.ref C) us->wpAny (model prog w) (A.under (.builtin "type.__call__" ⟨.ref C::us,[]⟩)) (call (.ref fI) (.ref ea::us)) (λr s'=>r=.none/\Q (.ref ea) s') E ⟨h',g,d,t,os⟩) :
  wpAny (model prog w) A (call (.ref C) us) Q E ⟨h,g,d,t,os⟩:=by
 have f1:=tc_lookup;have c:=tc_bind (.ref C);have ty:(⟨h,g,d,t,os⟩:Shared).TypeIs (.ref C) "type" := ⟨_,a,rfl⟩;refine ZAR (ZBb ?_);show wpAny _ _ (callAny (.ref C) _) _ _ _
 repeat (any_goals (first
  |assumption
  |with_reducible refine ZA7 a ?_
  |wp_step))
 refine⟨rfl,?_⟩;exact codeAny_call_builtin_at (Y6 _ (by decide +kernel)) entry_typeCall (wpAny_check_type_call_sub a (z9 F T a hn hi WQ Nq Na b))
end
section
variable{K:ZE7}{x t:Addr}
noncomputable def Jp:List Value->Bool
 | [.type a,.type b,.type c,.type d]=>a == "ValueError" && (b == "Exception" && (c == "BaseException" && d == "object"))
 | .ref _::r=>Jp r
 |_=>false
theorem ZBe(self:Value):PySem.refuseLoop self "__setattr__" [.type "ValueError",.type "Exception",.type "BaseException",.type "object"]=pure ():=by
 first|rfl|kernel_rfl
theorem gQ{l:List Value}(h:Jp l=true):l=[.type "ValueError",.type "Exception",.type "BaseException",.type "object"]∨∃c r,l=.ref c::r/\Jp r=true:=by
 unfold Jp at h;split at h
 .simp only[CG,yd]at h;obtain⟨rfl,rfl,rfl,rfl⟩:=h;exact .inl rfl
 .exact .inr ⟨_,_,rfl,h⟩
 .cases h
theorem lX(self:Value):∀{l:List Value},Jp l=true->PySem.refuseLoop self "__setattr__" l=pure ():=by
 intro l
 induction l with
 |nil=>intro h;cases h
 |cons x r a=>
  intro h;rcases gQ h with e|⟨c,r',e,h'⟩
  .rw[e];exact ZBe self
  .cases e;rw[PySem.refuseLoop_ref];exact a h'
theorem uX:∀{l:List Value},Jp l=true->l.contains (.type "object")=true:=by
 intro l
 induction l with
 |nil=>intro h;cases h
 |cons x r a=>
  intro h;rcases gQ h with e|⟨c,r',e,h'⟩
  .rw[e];decide
  .cases e;rw[ZCm,a h',Bool.or_true]
def Kg(K:ZE7)(C:Addr):Bool:=(PySem.W.clsIn K C).any λcd=>Jp cd.mro
section
open PySem.Builtin PySem.Builtin.ObjectAttr
theorem ku{R:Result->Shared->Prop}(X:K.In s.heap)(I:PySem.W.InstAt s.heap x ox C od)(l:Kg K C=true)(k:PySem.W.takerIn K C name=some r)
  (h:∀b,wpAny (model prog w) A.in1 (match r with|some a=>setByDescriptor a (.ref x) v|none=>storeInOwnDict (.ref x) (.ref C) (.str name tk) name v b)
   (λfin s'=>match fin with | .done f=>R (.ok f) s' | .again j=>j.quiet=true/\codeAny (model prog w) A j R s') (λe s'=>R (.error e) s') s) :
  codeAny (model prog w) A (.call (.builtin "object.__setattr__") ⟨[.ref x,.str name tk,v],[]⟩) R s:=by
 have d:=PySem.F.store_object;obtain⟨cd,i,ho⟩:=ZDE l;have ne:cd.mro.isEmpty=false:=by cases q:cd.mro with|nil=>rw[q]at ho;cases ho|cons _ _=>rfl
 have sub:PySem.W.Looks (model prog w) s.heap (isInstance (.ref x) (.type "object")) true:=I.type.andThen (ZDJ X (by unfold PySem.W.mroIn;rw[i,YQ,lA (by rw[ne];decide),uX ho]));refine ZAL d.slot.plain d.entry (@PySem.W.check_slot (model prog w) _ _ s "object.__setattr__" "object" "__setattr__" (.ref x) [.str name tk,v] [] _ d.kind d.split sub (d.args (.ref x) (.str name tk) v) ?_);obtain⟨c,o,g⟩:=Option.bind_eq_some_iff.mp k;have m:PySem.W.Looks (model prog w) s.heap (mroOf (.ref C)) cd.mro:=(ZDI X i).andThen .now;have p:PySem.W.Looks (model prog w) s.heap (storeTaker? c) r:=by
  cases c with
  |none=>cases g;exact .now
  |some a=>
   obtain⟨b,n,rfl⟩:=Option.map_eq_some_iff.mp g;refine(PySem.W.looks_takesIn X n).andThen ?_;cases b <;> exact .now
 rw[PySem.W.osa_eq,PySem.refuse_eq];refine jW (jW (I.type.here (jW (m.here ?_))));rw[lX _ ho];refine kA (jW (I.type.here (jW ((jB X o).here (jW (p.here ?_))))));exact h _
end
theorem vV(h:Heap):(h.push { cls:=.type "dict", data:=.dict #[] }).Ns1 h.objs.size (λ_=>none):=by
 refine⟨_,#[],_,BR h rfl,rfl,?_⟩;refine⟨λe a=>?_,?_,λ_=>rfl⟩
 .simp at a
 .simp[UniqKeys]
theorem sX{Q:Unit->Shared->Prop}(X:K.In s.heap)(ho:s.heap.get? x=some (Ic C t none))
  (l:PySem.W.findIn K (.ref C) "__setattr__"=some (some (.builtin "object.__setattr__"))) (m:Kg K C=true) (k:PySem.W.takerIn K C name=some none) (hh:PySem.W.hasDictIn K C=true)
  (h:∀h' d,s.heap.objs.size<=d->h'.get? x=some (Ic C t (some d))->h'.Ns1 d (λy=>if y=name then some v else none)->(∀b o,b≠x->s.heap.get? b=some o->h'.get? b=some o)->s.heap.objs.size<=h'.objs.size->Q () { s with heap:=h',toks:=s.toks+2 }) :
  wpAny (model prog w) A (setAttr (.ref x) name v) Q E s:=by
 have J:PySem.W.InstAt s.heap x (Ic C t none) C none:=⟨ho,rfl,rfl,trivial⟩;refine PySem.W.set_plain X J l (ku (s:={ s with toks:=s.toks+1 }) (r:=none) X J m k λb=>?_)
 obtain⟨cd,n,DF⟩:=ZDE hh;refine jW (kA (jW (jW (wpAny_loadPart ho (jW (PySem.W.Looks.here (s:={ s with toks:=s.toks+1 }) (ZDI X n) ?_))))))
 rw[DF,lA (by decide)];show wpAny _ _ (do
  let d <- alloc { cls:=Value.type "dict", data:=Data.dict #[] }
  update x λo=>{ o with dict:=some d }
  dictMade (Value.ref C) x d) _ _ _
 have f:x<s.heap.objs.size:=B7 ho;refine jW (wpAny_alloc (jW (wpAny_update (BC _ ho) ?_)));refine jW (kA (kA ?_));generalize a:((s.heap.push { cls:=Value.type "dict", data:=Data.dict #[] }).update x λo=>{ o with dict:=some s.heap.objs.size })=g
 have q:g.get? x=some (Ic C t (some s.heap.objs.size)):=by
  rw[<- a];exact ED _ (BC _ ho) rfl
 have u:∀b o,b≠x->s.heap.get? b=some o->g.get? b=some o:=λb o c e=>by
  rw[<- a,DE _ _ (BJ c)];exact BC _ e
 have p:g.objs.size=s.heap.objs.size+1:=by rw[<- a,RM,EE]
 have gd:g.Ns1 s.heap.objs.size (λ_=>none):=(vV s.heap).at λo e=>by
  rw[<- a,DE _ _ (BY f)];exact e
 refine jW (kA (jW ?_));refine wpAny_nsSet1 (s:=⟨g,s.gens,s.drawn,s.toks+1,s.os⟩) gd λh' Iy Qr=>?_;obtain⟨D,z,B,j,i,IQ⟩:=Iy.count (PySem.Within.cons (ns:=[]) name v PySem.Within.nil);refine jW (wpAny_lookBehind j (by rw[i];exact pastItsLine_dict (Bq IQ (ZD6 (CJ _)))) ?_);exact kA (h h' s.heap.objs.size (Az _) ((Qr.2 x (BY f)).trans q) Iy (λb o c e=>(Qr.2 b (BY (B7 e))).trans (u b o c e)) (by rw[Qr.1,p];exact EH _))
end
def EM(ea C:Addr)(dx:Option Addr):HO:=.ext λh=>∃t,h.get? ea=some (Ic C t dx)
theorem W5{P:Program}{h:Heap}{t:Addr}(e:h.get? ea=some (Ic C t dx)):CU P w H h ea (EM ea C dx):=
 ⟨⟨t,e⟩,⟨_,e⟩,λ_ _⟨t',a⟩k=>⟨t',k _ a⟩⟩
theorem Inv.exc(I:Inv X Zd Z H s)(e:H ea=some (EM ea C dx)):∃t,s.heap.get? ea=some (Ic C t dx):=(I.AN ea _ e).1
theorem Inv.ZBu{t:Addr}{dx':Option Addr}(I:Inv X Zd Z H s)(e:H ea=some (EM ea C dx))(k:∀b u,b≠ea->s.heap.get? b=some u->h'.get? b=some u)(a:h'.get? ea=some (Ic C t dx')):
  Inv X Zd Z (upd H ea (EM ea C dx')) { s with heap:=h',toks:=t' }:=by
 have c:O6 (H ea):=by rw[e];trivial
 exact I.write c (.inl rfl) k ⟨_,a⟩ (W5 a)
def P0:V->Prop
 | .str x=>(reprText x).length<=100000
 | .int i=>i.natAbs.log2<1920
 |_=>False
section
variable{p1 p2 p3:Pos}{k1 k2:Nat}{c1 c2:Str}
theorem yo{R:St->Hp->Prop}(d:PE X e te)(I:Inv X Zd Z H s)(h:te Z H λv H1=>P0 v/\R Z H1)
  (b:∀y t s1 H1,y.length<=200000->Inv X Zd Z H1 s1->R Z H1->Q (.str y t) s1):wpAny (model X.prog X.w) X.A (eval (.FormattedValue e 114 none pos) X.env) Q X.xe s:=by
 refine wpAny_FormattedValue_repr (Ae (d Zd s Z H _ I h) λu s1⟨v,H1,I1,c,sv,a⟩=>?_);cases v with
 |str x=>
  obtain⟨t,rfl⟩:=c;have sz:(reprText x).length<=sizeLine:=Bq sv (by decide +kernel);refine wpAny_pyReprObj_str ?_ sz;refine wpAny_formatField_str ?_ ?_ sz
  .exact b _ _ _ H1 (Bq sv (by decide)) (I1.tok _) a
  .exact b _ _ _ H1 (Bq sv (by decide)) (I1.tok _) a
 |int i=>
  obtain⟨t,rfl⟩:=c;have l1:(Str.ofString (toString i)).length<=sizeLine:=int_text_fits sv;have f:i.natAbs.log2<1920:=sv;have l2:(Str.ofString (toString i)).length<=200000:=by
   have h1:i.natAbs<10 ^ 600:=by
    by_cases z:i.natAbs=0
    .rw[z];decide +kernel
    .exact Nat.lt_trans ((iw z).mp f) (by decide +kernel)
   have e:=int_text_length_le10 (k:=600) (by decide) h1;clear h1;rw[PySem.ofString_length];omega
  refine wpAny_pyReprObj_gives (typeIs_int _ i t) F.slot_int_repr F.entry_int_repr (F.args_int_repr_1 _) (gives_int_repr i t sv) ?_ rfl l1;refine wpAny_formatField_str ?_ ?_ l1
  .exact b _ _ _ H1 l2 (I1.tok _) a
  .exact b _ _ _ H1 l2 (I1.tok _) a
 |_=>exact sv.elim
def YX(te:TE):TE:=λZ H Q=>te Z H λv H1=>P0 v/\∀y,Q (.str y) H1
theorem len_app(a b:Str):(a++b).length=a.length+b.length:=strLen_append a b
theorem Pw(b:PE X e te)(h1:c1.length<=1000):PE X (.JoinedStr [.Constant (.str c1) k1 p1,.FormattedValue e 114 none p2] pos) (YX te):=by
 intro Zd s Z H Q I h;have a:(Str.empty++c1).length<=1000:=by rw[len_app];show 0+_<=_;omega
 refine wpAny_JoinedStr (show wpAny _ _ (eval (.Constant (.str c1) k1 p1) X.env) _ _ s from λ_ _ _=>⟨c1,_,rfl,Bq a (by decide +kernel),?_⟩);refine yo (R:=λ_ H1=>∀y,Q (.str y) H1) b (I.tok _) h λy t s1 H1 d I1 c=>⟨y,t,rfl,?_,?_,?_⟩
 .rw[len_app];exact Bq (show _<=201000 by omega) (by decide +kernel)
 .rw[len_app];exact Bq (show _<=201000 by omega) (by decide +kernel)
 .exact⟨.str _,H1,I1.tok _,⟨_,rfl⟩,c _⟩
end
structure NS (K:ZE7) (S:Addr):Prop where
 ga:PySem.W.specialIn K (.ref S) "__getattribute__"=some (some (.builtin "type.__getattribute__"))
 rd:PySem.W.readsIn K S (.type "type")=true
 fd:PySem.W.findCls K (.ref S) (.type "type") "__init__"=some (.val (.builtin "ValueError.__init__"))
 hd:PySem.W.handedIn (.builtin "ValueError.__init__")=true
structure J3 (K:ZE7) (C fI:Addr) (fld:Str):Prop where
 ex:EL K C (some (.ref fI))=true
 sa:PySem.W.findIn K (.ref C) "__setattr__"=some (some (.builtin "object.__setattr__"))
 po:Kg K C=true
 tk:PySem.W.takerIn K C fld=some none
 hd:PySem.W.hasDictIn K C=true
 fn:PySem.W.isFn K (.ref fI)=true
 kp:PySem.W.keepIn K (.ref C)=true
theorem dv{x:V}{xs:List V}(r:Vals (x::xs) us):∃u c,us=u::c/\RelV x u/\Vals xs c:=by
 cases r with
 |cons a b=>exact⟨_,_,rfl,a,b⟩
theorem ZCR(h:H a=some o):upd H a o=H:=by
 funext b
 unfold upd;split
 .rename_i e;rw[e,h]
 .rfl
section
variable{fld:Str}
theorem ly{t:Addr}(I:Inv X Zd Z H s)(hx:H ea=some (EM ea C none))(q:EL X.K C Hi=true)
  (h:∀s',Inv X Zd Z H s'->Q .none s'):wpAny (model X.prog X.w) X.A (call (.builtin "ValueError.__init__") [.ref ea,u]) Q X.xe s:=by
 obtain⟨k,ho⟩:=I.exc hx;obtain⟨bm,N,nm,qn,bs,hdct,sn,sub,ab,col,dd,k0,k1,k2,k3,k5,mN,i,l,FR,T⟩:=(N9 I.C8 q).obj;have F:=j7;have m:H C=none:=by
  cases z:X.base.get? C with
  |some o=>exact(I.bs C o z).2
  |none=>
   obtain⟨_,_,_,_,_,_,_,_,_,_,_,_,_,_,_,_,_,Nc,_⟩:=(N9 I.mod.Gs q).obj;rw[z]at Nc;cases Nc
 obtain⟨a,g,d,tk,os⟩:=s;refine ZAR (ZAL F.init.plain F.initEntry (wpAny_check_init_subT F T i ho rfl ?_))
 wp_walk
 refine h _ ?_;have c:=I.ZBu (h':=(a.push { cls:=Value.type "tuple", data:=Data.seq #[u] }).update ea (Obj.mapFields λx=>x.setIfInBounds 0 (Value.ref a.objs.size))) (t':=tk) (t:=a.objs.size) (dx':=none) hx (λb j f e=>by
  rw[DE _ _ (BJ f)];exact BC _ e) (by
  rw[ED _ (BC _ ho) rfl];rfl)
 rw[ZCR hx]at c;exact c
def i2(C:Addr)(t:TA):TE:=λZ H Q=>t Z H λvs H1=>∃ea v,vs=[.ref ea,v]/\H1 ea=some (EM ea C none)/\Q .AB H1
theorem Oc{pl:Sem Bool}{apos:Pos}(sp:NS X.K S)(n:Gl X x)(m:X.mg x=some (.ref S))(q:EL X.K C Hi=true)(o:PA X (e::es) t)
  (BL:(x == ("__debug__":Str))=false:=by decide) (B9:starEach (e::es) X.env=(false,eval e X.env)::starEach es X.env:=by rfl) (BE:(backTo pos (starEach es X.env)).any (·.1)=false:=by rfl)
  (ht:eval (.Call (.Attribute (.Name x p) "__init__" apos) (e::es) [] pos) X.env=(do
   let ov <- eval (.Name x p) X.env
   standAt apos.atName
   let (f,first) <- holding [ov] (getMethod ov "__init__" pl)
   callWith pos f first (backTo pos (starEach (e::es) X.env)) (backToKw pos (keywordEach [] X.env))):=by rfl) :
  PE X (.Call (.Attribute (.Name x p) "__init__" apos) (e::es) [] pos) (i2 C t):=by
 intro Zd s Z H Q I h;refine PySem.W.methodCall_KW (pl:=pl) (JK I n m ?_ BL) ht;refine PySem.W.method_cls I.C8 sp.ga (PySem.W.cls_value I.C8 sp.rd sp.fd sp.hd ?_);have a:=o pos Zd { s with toks:=s.toks+1 } Z H _ (I.tok _) h
 show wpAny _ _ (callWith pos (.builtin "ValueError.__init__") [] (backTo pos (starEach (e::es) X.env)) _) _ _ _;rw[B9]at a ⊢;refine iL (by show(false || (backTo pos (starEach es X.env)).any (·.1))=false;rw[BE] <;> rfl) (iM ?_)
 refine Ae a λus s2⟨vs,H2,I2,l,ea,v,u,hx,r⟩=>?_;subst u;obtain⟨d,c,rfl,i,k⟩:=dv l;obtain⟨w,b,rfl,g,j⟩:=dv k;cases j;cases(show d=Value.ref ea from i);exact ly (t:=ea) I2 hx q λs' I'=>⟨.AB,H2,I',rfl,r⟩
def bY(C:Addr)(f:Str)(ta tv:TE):TS:=λD Z H=>tv Z H λy H1=>ta Z H1 λx H2=>∃ea,x=.ref ea/\H2 ea=some (EM ea C none)/\∀d,H2 d=none->D.nx Z (upd (upd H2 d (.xd [(f,y)])) ea (EM ea C (some d)))
theorem RF{o value:Expr}{pos':Pos}{tv:TE}(c:J3 X.K C fI fld)(E:PE X o ta)(w:PE X value tv)(B:swapsWith value (some (.Attribute o fld pos')) pos.line X.env=pure false):PS X (.Assign [.Attribute o fld pos'] value pos) (bY C fld ta tv):=by
 intro Zd s Z H D I h;refine plainObj_wpAny_Assign_Attribute (Ae (w Zd s Z H _ I h) λu s1⟨y,H1,I1,p,q⟩=>Ae (E Zd s1 Z H1 _ I1 q) λv s2⟨x,H2,I2,r,ea,ex,hx,t⟩=>?_) B;subst ex;obtain rfl:v=Value.ref ea:=r;obtain⟨F,ho⟩:=I2.exc hx;refine sX I2.C8 ho c.sa c.po c.tk c.hd λh' d hd l hn k G=>?_;have f:H2 d=none:=I2.AN.fresh hd;have J:d≠ea:=by rintro rfl;rw[hx]at f;cases f
 refine⟨Z,_,I2.un (t':=s2.toks+2) (h':=h') ⟨λb o e n _ _=>k b o (by rintro rfl;rw[hx]at n;cases n) e,λb o e n _ _=>⟨o.slots,k b o (by rintro rfl;rw[hx]at n;cases n) e⟩,λb o e n _=>?_,λb o e _=>?_,λb xs e=>?_,λb o' j e=>?_,λb ps e=>?_⟩ ?_,t d f⟩
 .rw[As (by rintro rfl;rw[hx]at n;cases n),As (by rintro rfl;exact absurd (B7 e) (Nat.not_lt.mpr hd))];exact n
 .by_cases z:b=ea
  .subst z;exact⟨_,l⟩
  .exact⟨o,k b o z e⟩
 .rw[As (by rintro rfl;rw[hx]at e;cases e),As (Dd e f)];exact e
 .rw[As (by rintro rfl;rw[hx]at e;cases e),As (Dd e f)];exact e
 .exact⟨#[],by rw[As (by rintro rfl;rw[hx]at e;cases e),As (Dd e f),e];simp⟩
 .intro b o e
  by_cases z:b=ea
  .subst z;rw[AZ]at e;cases e;exact W5 l
  .rw[As z]at e
   by_cases i:b=d
   .subst i;rw[AZ]at e;cases e;refine⟨_,hn,λm=>?_⟩
    by_cases g:m=fld
    .subst g;rw[lO rfl,List.lookup_cons_self];exact p
    .rw[lA g,Hx];rw[show(m == fld)=false from by simpa using g]
     exact trivial
   .rw[As i]at e;refine(I2.AN b o e).Ho (λc j a A=>k c j ?_ A) (λc a=>?_) λc xs a=>?_
    .rcases a with rfl|a
     .exact z
     .rintro rfl;rw[hx]at a;cases a
    .rw[As (by rintro rfl;rw[hx]at a;cases a),As (Dd a f)];exact a
    .rw[As (by rintro rfl;rw[hx]at a;cases a),As (Dd a f)];exact a
end
def LI(C:Addr)(fld:Str):Sp:=λvs H Q _=>∃(ea:Addr)(v:V),vs=[.ref ea,v]/\P0 v/\H ea=some (EM ea C none)/\∀d,H d=none->Q .AB (upd (upd H d (.xd [(fld,v)])) ea (EM ea C (some d)))
def Qy(C:Addr)(fld:Str)(E:St->XK)(t:TA):TS:=λ_ Z H=>t Z H λvs H1=>∃v,vs=[v]/\P0 v/\∀d,H1 d=none->E Z (.ref C) (some d) (upd H1 d (.xd [(fld,v)]))
noncomputable def M7(H:Hp)(a:Addr):Hp:=λb=>if b=a then none else H b
theorem P4(h:b≠a):M7 H a b=H b:=lA h
theorem XF:M7 H a a=none:=lO rfl
section
theorem Inv.forget(I:Inv X Zd Z H s){φ:Heap->Prop}(e:H a=some (.ext φ))(k:∀p∈X.pn++Zd,p.1≠a):Inv X Zd Z (M7 H a) s:=by
 have keep:∀b o,b≠a->H b=o->M7 H a b=o:=λb o h q=>by rw[P4 h];exact q
 have f:∀b,H b=none->M7 H a b=none:=λb q=>by
  by_cases z:b=a
  .subst z;exact XF
  .rw[P4 z];exact q
 refine⟨I.ok,I.os,I.bare,⟨I.base.keep,I.base.slot,λb o q n hx=>f b (I.base.free b o q n hx),I.base.there,λb xs q=>?_,λb o u q=>?_,λb ps q=>?_⟩,I.loc,I.cell,f _ I.free,λx c q=>f c (I.DZ x c q),λp Ea=>?_,λb o q=>?_,I.len⟩
 .have z:=I.base.Fm b xs q;exact keep b _ (by rintro rfl;rw[e]at z;cases z) z
 .have z:=I.base.FY b o u q;exact keep b _ (by rintro rfl;rw[e]at z;cases z) z
 .obtain⟨m,z⟩:=I.base.Fo b ps q;exact⟨m,keep b _ (by rintro rfl;rw[e]at z;cases z) z⟩
 .obtain⟨h1,h2,j⟩:=I.pin p Ea;exact⟨h1,f _ h2,j⟩
 .have i:b≠a:=by rintro rfl;rw[XF]at q;cases q
  rw[P4 i]at q;refine(I.AN b o q).Ho (λc u _ g=>g) (λc d=>keep c _ (by rintro rfl;rw[e]at d;cases d) d) λc xs d=>keep c _ (by rintro rfl;rw[e]at d;cases d) d
variable{fld:Str}
end
section
variable{C:Value}
theorem Inv.Og(I:Inv X Zd Z H s)(B9:X.stack=X.env::X.outer)(x:FO s.heap ea C dx tb)(G:H ea=none)(t:X.s₀.heap.get? ea=none)(g:∀T,tb=some T->H T=none/\X.s₀.heap.get? T=none)
  (A:∀p∈X.pn++Zd,p.1≠ea/\tb≠some p.1)(kp:Kp (X.env::X.outer) ea tb s.heap h'):Inv X Zd Z H { s with heap:=h' }:=by
 obtain⟨oe,vs,N,_,_,K,_⟩:=x.obj;have mem:∀b,b∈BV (X.env::X.outer)->b=X.env.locals∨b∈X.fs:=λb a=>by
  rw[<- B9]at a;exact List.mem_cons.mp (I.NH b a)
 have E:∀b,b=X.env.locals∨b∈X.fs->b∈BV (X.env::X.outer):=λb a=>by
  have d:X.env.frame=some X.env.locals:=by
   rcases I.ok.Hc with e|⟨_,d⟩
   .rw[e]at B9;exact absurd (qz List.length B9) (by simp)
   .exact d
  unfold BV;rw[RP,d];rcases a with rfl|a
  .exact Bc
  .exact By _ a
 have f:∀b o,s.heap.get? b=some o->(∀vs,o.data≠.fields vs)->∃sl,h'.get? b=some { o with slots:=sl }:=λb o a hd=>by
  by_cases d:b∈BV (X.env::X.outer)
  .exact kp.slot b o a d
  .refine⟨o.slots,kp.keep b o a d (by rintro rfl;rw[N]at a;cases a;exact hd _ K) λz=>?_⟩;obtain⟨_,oT,Q,O,Ei,_⟩:=x.ent b z;rw[O]at a;cases a;exact hd _ Ei
 have h:∀b o,s.heap.get? b=some o->H b≠none->h'.get? b=some o:=λb o a hn=>kp.keep b o a (λz=>hn (I.QN b (by rw[B9];exact z))) (λz=>hn (z▸G)) λz=>hn (g b z).1;have j:∀b o,X.s₀.heap.get? b=some o->b≠X.env.locals:=λb o a z=>absurd (B7 a) (Nat.not_lt.mpr (z▸I.ok.above));have F:∀c v,s.heap.IsCell c v->h'.IsCell c v:=λc v AR=>by
  obtain⟨o,ho,hd⟩:=AR;obtain⟨sl,h1⟩:=f c o ho (by rw[hd];intro vs z;cases z);exact⟨_,h1,hd⟩
 refine⟨I.ok,I.os,I.bare,⟨λb o a hn d hx=>?_,λb o a hn d hx=>?_,I.base.free,λb o a hx=>?_,I.base.Fm,I.base.FY,I.base.Fo⟩,?_,λy c q=>?_,I.free,I.DZ,λp Ea=>?_,I.AN.dB λb u hn a=>h b u a hn,I.len⟩
 .exact kp.keep b o (I.base.keep b o a hn d hx) (λz=>(mem b z).elim (j b o a) d) (by rintro rfl;rw[t]at a;cases a) λz=>by rw[(g b z).2]at a;cases a
 .obtain⟨sl,h1⟩:=I.base.slot b o a hn d hx;obtain⟨Ga,h2⟩:=kp.slot b _ h1 (E b (.inr d));exact⟨Ga,h2⟩
 .obtain⟨w,h1⟩:=I.base.there b o a hx
  by_cases d:b∈BV (X.env::X.outer)
  .obtain⟨Ga,h2⟩:=kp.slot b _ h1 d;exact⟨_,h2⟩
  .exact⟨w,kp.keep b w h1 d (by rintro rfl;rw[t]at a;cases a) λz=>by rw[(g b z).2]at a;cases a⟩
 .obtain⟨m,⟨o,es,ep,ho,r⟩,M⟩:=I.loc;obtain⟨sl,h1⟩:=kp.slot _ _ ho (E _ (.inl rfl));refine⟨m,⟨_,es,ep,h1,r⟩,λi y v hi n L=>?_⟩;obtain⟨u,J,l⟩:=M i y v hi n L;refine⟨u,J,?_⟩;rcases l with l|⟨k,c,hc,ic⟩
  .exact .inl l
  .exact .inr ⟨k,c,hc,F c _ ic⟩
 .obtain⟨v,n⟩:=I.cell y c q;exact⟨v,F c v n⟩
 .obtain⟨h1,h2,D,B,P⟩:=I.pin p Ea;exact⟨kp.keep _ _ h1 (λz=>(mem _ z).elim D B) (A p Ea).1 (A p Ea).2,h2,D,B,P⟩
end
theorem Inv.unbind{Q:Unit->Shared->Prop}(I:Inv X Zd Z H s)(G:X.N.Nodup)(g:X.N[j]?=some n)(r:X.env.scope.names.lookup n=some .local)
  (h:∀s',Inv X Zd (Z.set j none) H s'->Q () s'):wpAny M A (do bindName X.env n .none;unbindBehindTheSuite X.env n pos) Q E s:=by
 refine jW (wpAny_bindName (Sn (v:=.AB) I G g (.inl r) rfl (λs1 I1 _=>?_) (.inr r)));unfold unbindBehindTheSuite;refine wpAny_onRaise ?_;obtain⟨m,hn,F⟩:=id I1.loc;have T:(X.env.scope.kind == .class || (X.env.scope.kind == .module && X.env.locals != X.env.globals))=false:=by rw[I.ok.kind];rfl
 have hjσ:j<Z.length:=by rw[I.len];exact(List.getElem?_eq_some_iff.mp g).1
 obtain⟨u,W,O⟩:=F j n .AB g (Fc hjσ) (.inl r);have R:m n=some u:=by
  rcases O with⟨_,e⟩|⟨z,_⟩
  .exact e
  .have U:X.env.kindOf n=some .local:=r;rw[U]at z;rcases z with z|z <;> cases z
 refine wpAny_unbindName_local r hn R T λh' V UI f=>?_;obtain⟨Y,_,_,Lf,_⟩:=id hn;have G2:=I1.G2;have a:∀b o,X.s₀.heap.get? b=some o->b≠X.env.locals:=λb o t=>BY (Cu (B7 t) I.ok.above);refine h _ ⟨I1.ok,I1.os,I1.bare,⟨λb o e n t hx=>(f.2 b (a b o e)).trans (I1.base.keep b o e n t hx),λb o e n t hx=>?_,I1.base.free,λb o e hx=>?_,I1.base.Fm,I1.base.FY,I1.base.Fo⟩,⟨_,UI,λi y J l B S=>?_⟩,λy c e=>?_,I1.free,I1.DZ,λp P=>?_,λb ob e=>?_,by simpa using I.len⟩
 .obtain⟨sl,l⟩:=I1.base.slot b o e n t hx;exact⟨sl,(f.2 b (a b o e)).trans l⟩
 .obtain⟨o',l⟩:=I1.base.there b o e hx;exact⟨o',(f.2 b (a b o e)).trans l⟩
 .have C:i≠j:=by
   rintro rfl;rw[Fc hjσ]at B;cases B
  rw[FF (BJ C)]at B;obtain⟨w,K,q⟩:=F i y J l (by rw[FF (BJ C)];exact B) S;refine⟨w,K,?_⟩;rcases q with⟨k,e⟩|⟨k,c,e,z⟩
  .refine .inl ⟨k,?_⟩;have:y≠n:=λe=>C (Rm G l (e▸g));simp[this,e]
  .exact .inr ⟨k,c,e,z.sameBut f (G2 y c e)⟩
 .obtain⟨D,z⟩:=I1.cell y c e;exact⟨D,z.sameBut f (G2 y c e)⟩
 .obtain⟨e,n,ne,L,d⟩:=I1.pin p P;exact⟨(f.2 p.1 ne).trans e,n,ne,L,d⟩
 .refine(I1.AN b ob e).Ho (λc D x q=>(f.2 c ?_).trans q) (λ_ q=>q) λ_ _ q=>q;rintro rfl;have fr:=I1.free;rcases x with rfl|x
  .rw[fr]at e;cases e
  .rw[fr]at x;cases x
theorem Inv.wG(I:Inv X Zd Z H s)(x:FO s.heap ea (.ref C) dx tb)(i:H ea=none)(h:X.s₀.heap.get? ea=none)(t:∀p∈X.pn++Zd,p.1≠ea):Inv X Zd Z (upd H ea (Fz.Hn ea C dx)) s:=by
 obtain⟨oe,vs,f,e,hd,Gh,_⟩:=x.obj;have j:X.env.locals≠ea:=λz=>by
  obtain⟨m,⟨o,es,ep,ho,a,_⟩,_⟩:=I.loc;rw[z,f]at ho;cases ho;rw[Gh]at a;cases a
 have G2:∀y c,X.env.cells.lookup y=some c->c≠ea:=λy c q z=>by
  obtain⟨v,o,ho,a⟩:=I.cell y c q;rw[z,f]at ho;cases ho;rw[Gh]at a;cases a
 have d:∀b o,H b=some o->upd H ea (Fz.Hn ea C dx) b=some o:=λb o q=>by
  rw[As (by rintro rfl;rw[i]at q;cases q)];exact q
 refine⟨I.ok,I.os,I.bare,⟨I.base.keep,I.base.slot,λb o q n hx=>?_,I.base.there,λb xs q=>d b _ (I.base.Fm b xs q),λb o u q=>d b _ (I.base.FY b o u q),λb ps q=>?_⟩,I.loc,I.cell,?_,λy c q=>?_,λp Ea=>?_,λb o q=>?_,I.len⟩
 .rw[As (by rintro rfl;rw[h]at q;cases q)];exact I.base.free b o q n hx
 .obtain⟨m,z⟩:=I.base.Fo b ps q;exact⟨m,d b _ z⟩
 .rw[As j];exact I.free
 .rw[As (G2 y c q)];exact I.DZ y c q
 .obtain⟨h1,h2,w⟩:=I.pin p Ea;exact⟨h1,by rw[As (t p Ea)];exact h2,w⟩
 .by_cases z:b=ea
  .subst z;rw[AZ]at q;cases q;exact⟨⟨oe,vs,f,e,hd,Gh⟩,⟨_,f⟩,λ_ _⟨o',g,A,r⟩k=>⟨o',g,k _ A,r⟩⟩
  .rw[As z]at q;exact(I.AN b o q).Ho (λc u _ l=>l) (λc e=>d c _ e) λc xs e=>d c _ e
noncomputable abbrev Cx.Dp(X:Cx)(pn:ZE8)(xe:Value->Shared->Prop):Cx:={ X with pn:=pn,xe:=xe }
noncomputable abbrev Cx.CI(X:Cx)(e:Value):Cx:={ X with A:=X.A.mark (some e),calm:=false,xe:=λ_ _=>False }
section
variable{Rh:ZE8}{e:Value}
theorem Cx.Ok.Dp(ok:X.Ok):(X.Dp pn xe).Ok:=⟨ok.mod,ok.kind,ok.glob,ok.blt,ok.above,ok.inj,ok.has,ok.JN,ok.hd,ok.frames,ok.Hc,ok.KR,ok.bs,ok.GS,ok.JL,ok.J6,ok.FC,ok.Hg⟩
theorem Cx.Ok.Gf(ok:(X.Dp pn xe).Ok):X.Ok:=⟨ok.mod,ok.kind,ok.glob,ok.blt,ok.above,ok.inj,ok.has,ok.JN,ok.hd,ok.frames,ok.Hc,ok.KR,ok.bs,ok.GS,ok.JL,ok.J6,ok.FC,ok.Hg⟩
theorem Cx.Ok.CI(ok:X.Ok):(X.CI e).Ok:=⟨ok.mod,ok.kind,ok.glob,ok.blt,ok.above,ok.inj,ok.has,ok.JN,λz=>(by cases z),ok.frames,ok.Hc,ok.KR,ok.bs,ok.GS,ok.JL,ok.J6,ok.FC,ok.Hg⟩
theorem Inv.Dp(I:Inv X Zd Z H s):Inv (X.Dp (X.pn++Zd) xe) [] Z H s:=⟨I.ok.Dp,I.os,I.bare,I.base,I.loc,I.cell,I.free,I.DZ,λp a=>I.pin p (by simpa using a),I.AN,I.len⟩
theorem Inv.Gf(I:Inv (X.Dp (X.pn++Zd) xe) Rh Z H s):Inv X Zd Z H s:=⟨I.ok.Gf,I.os,I.bare,I.base,I.loc,I.cell,I.free,I.DZ,λp a=>I.pin p (L5 _ a),I.AN,I.len⟩
theorem Inv.CI(I:Inv X Zd Z H s):Inv (X.CI e) Zd Z H s:=⟨I.ok.CI,I.os,I.bare,I.base,I.loc,I.cell,I.free,I.DZ,I.pin,I.AN,I.len⟩
theorem Inv.Jd(ok:X.Ok)(I:Inv (X.CI e) Zd Z H s):Inv X Zd Z H s:=⟨ok,I.os,I.bare,I.base,I.loc,I.cell,I.free,I.DZ,I.pin,I.AN,I.len⟩
end
def Ends.drop(D:Ends)(j:Nat):Ends:=⟨λZ H=>D.nx (Z.set j none) H,D.rt,λZ H=>D.bk (Z.set j none) H,λZ H=>D.ct (Z.set j none) H⟩
def Uh(K:ZE7)(S:Addr)(j:Nat)(tb:(St->XK)->TS)(th:TS):TS:=λD Z H=>∃E1:St->XK,tb E1 D Z H/\
 ∀ σ1 C dx ea H1,E1 σ1 (.ref C) dx H1->H1 ea=none->PySem.W.exmOne K (.ref C) (.ref S)=some true/\th (D.drop j) (σ1.set j (some (.ref ea))) (upd H1 ea (Fz.Hn ea C dx))
def NN(sp:Sp)(E:St->XK)(t:TA):TE:=λZ H Q=>t Z H λvs H1=>sp vs H1 Q (E Z)
def BB(P:Program)(w:World)(K:ZE7)(mg:ZE9)(Zp:Heap)(x:Str)(k:Nat)(ps:List Str)(sp:Sp):Prop:=
 ∃f fd,Cv P w K mg Zp (HF P w) k f fd ps sp/\Binds K fd ps []/\PySem.W.keepIn K (.ref f)=true/\mg x=some (.ref f)
section
variable{P:Program}{K:ZE7}{st:Stmt}
theorem BB.mk(F:AE K x qual st f fd)(b:Binds K fd ps [])(m:mg x=some (.ref f))(h:Cv P w K mg Zp (HF P w) k f fd ps sp):BB P w K mg Zp x k ps sp:=⟨f,fd,h,b,F.kp,m⟩
variable{E:St->XK}
theorem Goes.ZAV(go:Goes X E)(i:∀b∈X.ex,∃p∈X.pn,p.1=b){e:Value}(I:Inv X Zd Z H s)(h:HF X.prog X.w X.stack H s (E Z) e s'):X.xe e s':=by
 have Hy:∀a,s.heap.get? a=none->X.s₀.heap.get? a=none:=λa k=>by
  cases q:X.s₀.heap.get? a with
  |none=>rfl
  |some o=>
   by_cases hx:a∈X.ex
   .obtain⟨p,c,rfl⟩:=i a hx;have h1:=(I.pin p (L5 _ c)).1;rw[k]at h1;cases h1
   .obtain⟨u,h1⟩:=I.base.there a o q hx;rw[k]at h1;cases h1
 obtain⟨ea,C,dx,tb,H',rfl,os,bare,un,AN,x,⟨m,j⟩,f,n⟩:=h;obtain⟨hh,g,d,t,KL⟩:=s';obtain rfl:KL=s.os:=os;have r:=I.call (h':=hh) (g':=g) (d':=d) (t':=t) (ch:=[]) un AN bare (λb z=>absurd z (by simp));refine go Zd Z H' _ ea C dx tb r x ⟨m,Hy _ j⟩ (λT l=>⟨(f T l).1,Hy _ (f T l).2⟩) (λp c=>⟨λz=>?_,λz=>?_⟩) n
 .have:=(I.pin p c).1;rw[z,j]at this;cases this
 .have:=(I.pin p c).1;rw[(f _ z).2]at this;cases this
theorem tU(a:X.ex=[]):∀b∈X.ex,∃p∈X.pn,p.1=b:=λb c=>by rw[a]at c;cases c
theorem ZB5(h:BB X.prog X.w X.K X.mg X.base x k ps sp)(d:Bu j X.A)(i:k<=j)(go:Goes X E)(c:∀b∈X.ex,∃p∈X.pn,p.1=b)(n:PA X (e::es) t)(l:Gl X x:=by rfl)(BL:(x == ("__debug__":Str))=false:=by decide)
  (he:starEach (e::es) X.env=(false,eval e X.env)::starEach es X.env:=by rfl) (BE:(backTo pos (starEach es X.env)).any (·.1)=false:=by rfl) :
  PE X (.Call (.Name x p) (e::es) [] pos) (NN sp E t):=by
 obtain⟨f,fd,F,b,kp,m⟩:=h;have F:=F.mono i;intro Zd s Z H Q I h;refine tT (JK I l m ?_ BL);refine jA (h₀:=X.base) I.ok.mod.Gs kp (Ae (n pos Zd s Z H _ I h) λus s1⟨vs,H1,I1,r,q⟩=>⟨I1.C8,?_⟩) he BE;have g:us.length=ps.length:=by rw[<- r.length];exact F.len _ _ _ _ q
 refine ZAR (ZAO (F.run X.A X.stack s1 H1 ⟨us,[]⟩ us vs Q (E Z) d I1.TY (by have z:=b s1 us I1.C8 (by rw[Ji];exact g);rw[Ji]at z;exact z) r q) λr s' a=>?_);cases r with
 |error e=>exact go.ZAV c I1 a
 |ok o=>
  cases o with
  |ret u=>exact I1.after a
  |next=>exact False.elim a
  |brk=>exact False.elim a
  |cont=>exact False.elim a
end
section
variable{P:Program}{K:ZE7}{E:XK}
theorem CV:Goes (Dy (HF P w) P w K mg Zp N qual scope f cd A outer s H E) (λ_=>E):=λZd Z H' s' ea C dx tb I x u a _ b=>
 VY.leave ⟨Zd,Z,H',ea,C,dx,tb,rfl,I,x,u,a,b⟩
theorem uh:PassesOwn (model P w) (Dy (HF P w) P w K mg Zp N qual scope f cd A outer s H E).A (Dy (HF P w) P w K mg Zp N qual scope f cd A outer s H E).env (Dy (HF P w) P w K mg Zp N qual scope f cd A outer s H E).xe:=PassesOwn.leaving
end
theorem AE.G3{P:Program}{K:ZE7}{st:Stmt}(F:AE K x qual st f fd)(S:B0 N ps (AY st))(len:∀vs H Q E,sp vs H Q E->vs.length=ps.length)
  (KO:∀(AS:Value)(A:Around)(outer:List Env)(s:Shared)(H:Hp)(vs:List V)(Q:VK)(E:XK),Bu k (A.deeper (envOfC qual (AY st) s.heap.objs.size f AS))->sp vs H Q E->
   ∃t,FW (Dy (HF P w) P w K mg Zp N qual (AY st) f AS A outer s H E) (JT st) t/\t { nx:=λ_ H'=>Q .AB H',rt:=Q } (start N vs) H):Cv P w K mg Zp (HF P w) (k+1) f fd ps sp:=by
 obtain⟨e,od,kV,c,d,g,AS,ct,Ge,rfl,a,Es⟩:=F.ex;refine cK a Es S len λA outer s H vs Q E b Eh=>?_;obtain⟨t,h,q⟩:=KO AS A outer s H vs Q E b Eh;exact⟨t,h.h,q⟩
section
variable{i:Nat}{E:St->XK}{body CI:List Stmt}{fld:Str}
theorem CM(h:BB X.prog X.w X.K X.mg X.base x k ps sp)(c:Bu j X.A)(d:k<=j)(go:Goes X E)(a:X.ex=[])(b:QA X (e::es) t)(f:Gl X x:=by rfl)(BL:(x == ("__debug__":Str))=false:=by decide)
  (he:starEach (e::es) X.env=(false,eval e X.env)::starEach es X.env:=by rfl) (BE:(backTo pos (starEach es X.env)).any (·.1)=false:=by rfl):QE X (.Call (.Name x p) (e::es) [] pos) (NN sp E t):=⟨by have b:=b.h;exact ZB5 h c d go (tU a) b f BL he BE⟩
theorem Wl(m:Gl X x)(a:X.mg x=some (.ref C))(q:EL X.K C none=true)(n:X.calm=true)(d:X.ex=[])(go:Goes X E)(f:QA X (e0::es) t)
  (BL:(x == ("__debug__":Str))=false:=by decide) (he:starEach (e0::es) X.env=(false,eval e0 X.env)::starEach es X.env:=by rfl) (BE:(backTo Bg (starEach es X.env)).any (·.1)=false:=by rfl) :
  QS X (.Raise (some (.Call (.Name x np) (e0::es) [] Bg)) none pos) (Vb C E t):=⟨by
 have f:=f.h;intro Zd s Z H D I h;have mk:∀h':Heap,X.K.In h'->cR h' C none:=λh' k=>N9 k q;obtain⟨bm,N,nm,qn,bs,hdct,sn,sub,ab,col,dd,k0,k1,k2,k3,k5,mN,y,v,FR,T⟩:=(N9 (X:=I.mod.Gs) q).obj;refine wpAny_Raise_call_subT (C:=C) (nm:=nm) (q:=qn) (N:=N) (bs:=bs) (bm:=bm) (hdct:=hdct) (sn:=sn) (sub:=sub) (ab:=ab) (col:=col) (dd:=dd) (k0:=k0) (k1:=k1) (k2:=k2) (k3:=k3) (k5:=k5)
  j7 (mN:=mN) (T.hasType rfl) (I.ok.hd n) (by rw[he];show(false || (backTo Bg (starEach es X.env)).any (·.1))=false;rw[BE];rfl) FR (JK I m a ⟨rfl,?_⟩ BL)
 rw[he];have i:=f Bg Zd s Z H _ I h;rw[he]at i;refine iM (Ae i λus s2⟨vs,H2,I2,r,j,w⟩=>⟨rfl,?_,I2.bk _ _ y,v.keeps I2.bk,T.keeps I2.bk,λh' e a=>?_⟩)
 .rw[<- r.length];exact Bq j (by decide +kernel)
 .obtain⟨t',OG,My,_⟩:=a.there;have g:s2.heap.get? e=none:=a.new;have A:=I2.call (h':=h') (g':=s2.gens) (d':=s2.drawn) (t':=s2.toks) (ch:=[]) (Un.kept a.keeps) (I2.AN.kept a.keeps) I2.bare (λb z=>absurd z (by simp));refine go Zd Z H2 _ e C none none A ⟨⟨_,_,OG,rfl,rfl,rfl,by simp,rfl⟩,λT z=>by cases z⟩ ⟨?_,?_⟩ (λT z=>by cases z) (λp l=>⟨λz=>?_,by simp⟩) w
  .cases z:H2 e with
   |none=>rfl
   |some o=>obtain⟨u,c⟩:=I2.AN.there z;rw[g]at c;cases c
  .cases z:X.s₀.heap.get? e with
   |none=>rfl
   |some o=>obtain⟨u,c⟩:=I2.base.there e o z (by rw[d];simp);rw[g]at c;cases c
  .have:=(I2.pin p l).1;rw[z,g]at this;cases this⟩
theorem mQ(c:J3 X.K C fI fld)(hg:Gl X x)(σ:X.mg x=some (.ref C))(Fn:Cv X.prog X.w X.K X.mg X.base FJ kk fI fd ["self", par] (LI C fld))(hb:Binds X.K fd ["self", par] [])(V:Bu (kk+1) X.A)(l:X.calm=true)(hex:X.ex=[])(go:Goes X E)(m:QA X [e0] t)
  (BL:(x == ("__debug__":Str))=false:=by decide) (he:starEach [e0] X.env=(false,eval e0 X.env)::starEach [] X.env:=by rfl) (BE:(backTo Bg (starEach [] X.env)).any (·.1)=false:=by rfl) :
  QS X (.Raise (some (.Call (.Name x np) [e0] [] Bg)) none pos) (Qy C fld E t):=⟨by
 have m:=m.h;intro Zd s Z H D I h;obtain⟨bm,N,nm,qn,bs,hdct,sn,sub,ab,col,dd,k0,k1,k2,k3,k5,mN,B,hN,FR,T⟩:=(N9 I.mod.Gs c.ex).obj;rw[arm_exec_Raise];show wpAny _ _ (do standAt pos;raiseStmt X.env (some (do let v <- eval (.Call (.Name x np) [e0] [] Bg) X.env;standAt pos;pure v)) none) _ _ s
 refine jW (ZAn (v9 (C:=C) (nm:=nm) (qn:=qn) (N:=N) (bs:=bs) (bm:=bm) (hdct:=hdct) (sn:=sn) (sub:=sub) (ab:=ab) (col:=col) (dd:=dd) (k0:=k0) (k1:=k1) (k2:=k2) (k3:=k3) (k5:=k5) (newId:="ValueError.__new__") (T.hasType rfl) (I.ok.hd l) (jW ?_)));refine tT (JK I hg σ ?_ BL);refine jA (h₀:=X.base) I.ok.mod.Gs c.kp (Ae (m Bg Zd s Z H _ I h) λus s1⟨vs,H1,I1,r,v,ev,sv,hE⟩=>⟨I1.C8,?_⟩) he BE;subst ev;obtain⟨u,rfl,P⟩:=vals1 r;obtain⟨Y,g,d,tk,os⟩:=s1;have NZ:∃oI,Y.get? fI=some oI/\oI.cls=.type "function" := by
  have z:=beq_iff_eq.mp c.fn;unfold PySem.W.typeIn at z;obtain⟨o,ho,l⟩:=Option.map_eq_some_iff.mp z;exact⟨o,I1.C8 _ _ ho,l⟩
 obtain⟨oI,S,PN⟩:=NZ;refine wA j7 (T.keeps I1.bk) (I1.bk _ _ B) (hN.keeps I1.bk) FR S PN (by show 1<=sizeLine;decide +kernel) λh' ea Jt TH=>?_;obtain⟨t',OG,_,_⟩:=TH.there;have G:H1 ea=none:=I1.AN.fresh Jt;have q:Inv X Zd Z (upd H1 ea (EM ea C none)) ⟨h',g,d,tk,os⟩:=I1.laid (t':=tk) TH.keeps Jt (W5 OG);have R:LI C fld ([.ref ea,v]++[]) (upd H1 ea (EM ea C none)) (λw H3=>w=.AB/\∃d,H1 d=none/\d≠ea/\H3=upd (upd (upd H1 ea (EM ea C none)) d (.xd [(fld,v)])) ea (EM ea C (some d))) E0:=
  ⟨ea,v,rfl,sv,AZ,λd hd=>by
   have j:d≠ea:=by rintro rfl;rw[AZ]at hd;cases hd
   rw[As j]at hd;exact⟨rfl,d,hd,j,rfl⟩⟩
 refine ZAR (ZAO (Fn.run _ X.stack _ _ ⟨[.ref ea,u],[]⟩ [.ref ea,u] [.ref ea,v] _ E0 (V.make C [u] []) (q.TY.make C [u] []) (hb _ [.ref ea,u] q.C8 rfl) (.cons rfl (.cons P .nil)) R) λQ s' i=>?_);cases Q with
 |error e=>exact False.elim i
 |ok fl=>
  cases fl with
  |ret L=>
   obtain⟨w3,H3,I3,M,ew,f,U,j,eH⟩:=q.after i;subst ew;subst eH;cases(show L=Value.none from M);refine⟨rfl,jW (ZAn (kA ?_))⟩;obtain⟨O,y⟩:=I3.exc (C:=C) (dx:=some f) AZ;refine⟨ea,O,some f,rfl,I3.bk _ _ B,y,?_⟩;have F:∀p∈X.pn++Zd,p.1≠ea:=λp Ea z=>by
    have:=B7 (I1.pin p Ea).1;rw[z]at this;exact absurd this (Nat.not_lt.mpr Jt)
   have J:=I3.forget (a:=ea) AZ F;have n:M7 (upd (upd (upd H1 ea (EM ea C none)) f (.xd [(fld,v)])) ea (EM ea C (some f))) ea=upd H1 f (.xd [(fld,v)]):=by
    funext b
    by_cases z:b=ea
    .subst z;rw[XF,As (BJ j),G]
    .rw[P4 z,As z]
     by_cases k:b=f
     .subst k;rw[AZ,AZ]
     .rw[As k,As k,As z]
   rw[n]at J;refine go Zd Z _ s' ea C (some f) none J ⟨⟨_,_,y,rfl,rfl,rfl,by simp,rfl⟩,λT z=>by cases z⟩ ⟨by rw[As (BJ j)];exact G,?_⟩ (λT z=>by cases z) (λp Ea=>⟨F p Ea,by simp⟩) (hE f U);exact MN (Bq I1.sz Jt)
  |next=>exact False.elim i
  |brk=>exact False.elim i
  |cont=>exact False.elim i⟩
theorem tO(B9:X.stack=X.env::X.outer)(Y:X.ex=[])(B:X.N.Nodup)(t:X.N[j]?=some n)(i:X.env.scope.names.lookup n=some .local)(V:Gl X x)(U:X.mg x=some (.ref S))
  (A:∀(pn:ZE8)(xe:Value->Shared->Prop)(E1:St->XK),Goes (X.Dp pn xe) E1->FW (X.Dp pn xe) body (Hk E1))
  (hh:∀e,FW (X.CI e) (b0::CI) th) (BL:(x == ("__debug__":Str))=false:=by decide) :
  QS X (.Try body [.ExceptHandler (some (.Name x np)) (some n) (b0::CI) GW] [] [] pos) (Uh X.K S j Hk th):=⟨by
 have A:=λpn xe E1 g=>(A pn xe E1 g).h;have hh:=λe=>(hh e).h;intro Zd s Z H D I h;obtain⟨E1,h1,h2⟩:=h;have M:X.env.frame=some X.env.locals:=by
  rcases I.ok.Hc with e|⟨_,M⟩
  .rw[e]at B9;exact absurd (qz List.length B9) (by simp)
  .exact M
 refine wpAny_Try_except ?_;refine nY (A (X.pn++Zd) _ E1 ?_ [] s Z H D I.Dp h1) (λf s1 q=>?_) (λe s1 q=>q)
 .intro Rh σ1 H1 s1 ea C dx tb I1 O ⟨F,m⟩ E c hE;have k:Inv X Zd σ1 H1 s1:=I1.Gf;have m:X.s₀.heap.get? ea=none:=m;have E:∀T,tb=some T->H1 T=none/\X.s₀.heap.get? T=none:=E;have c:∀p∈X.pn++Zd,p.1≠ea/\tb≠some p.1:=λp q=>c p (L5 _ q);refine V4 (outer:=X.outer) (L:=X.env.locals) (by rw[<- B9];exact k.ok.frames) (Zp:=X.base) (by rw[<- B9];exact k.stack) M O λh' T kp a J=>?_;have G:=k.Og B9 O F m E c kp;obtain⟨JO,IA⟩:=h2 σ1 C dx ea H1 hE F;refine wpAny_handleBy_cons ?_ (λz=>by cases z);refine codeAny_handlers_test ?_;refine JK (X:=X.CI (.ref ea)) G.CI V U ?_ BL;obtain⟨oe,vs,σ,hc,hd,Gh,hz,h3⟩:=J.obj;have LT:PySem.W.Looks (model X.prog X.w) h' (typeOf (.ref ea)) (.ref C):=by
   rw[<- hc];exact(ZDD σ).andThen .now
  refine(PySem.W.exm_one (K:=X.K) G.C8 LT JO).here ?_;refine codeAny_handlers_suite_as ?_;have fl:∀b∈BV (X.env::X.outer),∃o,h'.get? b=some o/\∀vs,o.data≠.fields vs:=λb A=>by
   have st:=G.stack;rw[B9]at st;obtain⟨_,o,ho,hn⟩:=st.mem A;exact⟨o,ho,hn⟩
  refine Ux (s:={ s1 with heap:=h' }) (l:=X.env::X.outer) J fl λh4 WG Q=>?_
  have WU:∀T',some T=some T'->H1 T'=none/\X.s₀.heap.get? T'=none:=λT' eT=>by
   cases eT;exact a.elim (λa=>⟨k.AN.fresh a,MN (Bq k.sz a)⟩) (E T)
  have V7:∀p∈X.pn++Zd,p.1≠ea/\some T≠some p.1:=λp q=>⟨(c p q).1,λz=>a.elim (λa=>by
   have P:=B7 (k.pin p q).1;rw[<- CH z]at P;exact absurd P (Nat.not_lt.mpr a)) λy=>(c p q).2 (y.trans z)⟩
  have I4:=G.Og B9 J F m WU V7 WG;have I5:=I4.wG Q F m λp q=>(c p q).1;refine U5 (X:=X.CI (.ref ea)) (v:=.ref ea) I5.CI B t (.inl i) rfl (λR I6=>?_) (.inr i);refine nY (hh (.ref ea) Zd R _ _ (D.drop j) I6 IA) (λf s7 q=>?_) (λ_ _ z=>z.elim);cases f with
  |next=>
   obtain⟨σ7,H7,I7,d⟩:=q;exact(I7.Jd I.ok).unbind B t i λs' I9=>⟨_,_,I9,d⟩
  |brk=>
   obtain⟨σ7,H7,I7,d⟩:=q;exact(I7.Jd I.ok).unbind B t i λs' I9=>⟨_,_,I9,d⟩
  |cont=>
   obtain⟨σ7,H7,I7,d⟩:=q;exact(I7.Jd I.ok).unbind B t i λs' I9=>⟨_,_,I9,d⟩
  |ret u=>
   obtain⟨v,σ7,H7,I7,r,d⟩:=q;exact(I7.Jd I.ok).unbind B t i λs' I9=>⟨v,_,_,I9,r,d⟩
 .cases f with
  |next=>
   obtain⟨σ7,H7,I7,d⟩:=q;exact zk ⟨_,_,I7.Gf,d⟩
  |brk=>
   obtain⟨σ7,H7,I7,d⟩:=q;exact⟨_,_,I7.Gf,d⟩
  |cont=>
   obtain⟨σ7,H7,I7,d⟩:=q;exact⟨_,_,I7.Gf,d⟩
  |ret u=>
   obtain⟨v,σ7,H7,I7,r,d⟩:=q;exact⟨v,_,_,I7.Gf,r,d⟩⟩
end
section
variable{K:ZE7}{x:Addr}{fill expr:Bool}
structure ExGet (K:ZE7) (C:Addr):Prop where
 ga:PySem.W.findIn K (.ref C) "__getattribute__"=some (some (.builtin "BaseException.__getattribute__"))
 gt:PySem.W.findIn K (.ref C) "__getattr__"=some none
 mb:PySem.W.mroIn K C (.type "BaseException")=some true
theorem wK(o:Value):bindSpecial (.builtin "BaseException.__getattribute__") o=pure (.builtin "BaseException.__getattribute__", [o]):=by
 first|rfl|kernel_rfl
theorem z4(X:K.In s.heap)(I:PySem.W.InstAt s.heap x ox C od)(g:ExGet K C)
  (h:wpAny (model prog w) A.in1 (Builtin.«object.__getattribute__» ⟨[.ref x,.str name tk],[]⟩) (λfin s'=>match fin with | .done (.ret v)=>wpAny (model prog w) A (handedOut v) Q E s'|_=>False) (λ_ _=>False) s) :
  wpAny (model prog w) A (getAttrBy (.ref x) (.str name tk) fill expr) Q E s:=by
 obtain⟨hh,l,d,t,os⟩:=s;have a:=I.type (M:=model prog w);have k:=jB (M:=model prog w) X g.ga;have j:=jB (M:=model prog w) X g.gt;have i:=ZDJ (M:=model prog w) X g.mb;unfold getAttrBy;refine oK (jW (a.at (jW (k.at ?_))));have c:(Value.builtin "BaseException.__getattribute__" == Value.builtin "object.__getattribute__")=false:=by decide +kernel
 dsimp only;rw[lA (by rw[c,Jf];decide)];unfold getAttrByItsOwn hookBefore;rw[lO (show onTheHeap (Value.ref C)=true from rfl)];refine jW (j.at (jW (u4 (oK ?_))));unfold callGetattribute;rw[lA (show ¬ (expr && onTheHeap (Value.builtin "BaseException.__getattribute__"))=true by cases expr <;> decide)]
 unfold boundAndCalled;rw[wK];refine jW (kA ?_);show wpAny _ _ (call (.builtin "BaseException.__getattribute__") [.ref x,.str name tk]) _ _ _;refine ZAR (ZAL PySem.F.excAttr_ValueError.ga.plain PySem.F.entry_bexc_ga ?_);have e:builtinKind "BaseException.__getattribute__"=some .slot:=by decide +kernel
 have b:splitId "BaseException.__getattribute__"=some ("BaseException","__getattribute__"):=by decide +kernel
 have f:=PySem.F.args_bexc_ga (.ref x) (.str name tk);simp only[checkBuiltinCall,e,b];unfold isInstance;refine jW (jW (a.at (i.at ?_)));rw[lA (by decide)];refine oV f ?_;refine nY h (λfin s' z=>?_) λ_ _ z=>z.elim;rcases fin with(_|_|_|_)|_ <;> first|exact z|exact z.elim
theorem oN{Q:Option Value->Shared->Prop}(X:K.In s.heap)(I:PySem.W.InstAt s.heap x ox C od)(g:ExGet K C)(c:PySem.W.findObj K C od "__class__"=some (.bind (.builtin "getset_descriptor.__get__") (.builtin "object.__class__")))(b:PySem.W.mroIn K C (.type "object")=some true)
  (h:Q (some (.ref C)) { s with toks:=s.toks+1 }):wpAny (model prog w) A (getAttr? (.ref x) "__class__") Q E s:=by
 unfold getAttr? getAttrBy?;refine jW (wpAny_mkText (jW (u4 ?_)));refine z4 (s:={ s with toks:=s.toks+1 }) X I g ?_
 obtain⟨a,e,d,t,os⟩:=s;have i:=I.type (M:=model prog w);have f:=PySem.W.looks_find (M:=model prog w) X I c;refine jW (kA (jW (kA (jW (i.at (jW (f.at ?_)))))));show wpAny _ _ (holding [Value.builtin "object.__class__"] (call (.builtin "getset_descriptor.__get__") [.builtin "object.__class__",.ref x,.ref C]) >>= ret) _ _ _;refine jW (oK (ZAR (PySem.W.class_get (s:=⟨a,e,d,t+1,os⟩) (ox:=ox) (od:=od) X I b ?_)));refine kA ?_;show wpAny _ _ (handedOut (.ref C)) _ _ _;rw[PySem.W.handedOut_of rfl];exact kA (kA h)
end
structure NP (K:ZE7) (C:Addr):Prop extends ExGet K C where
 cl:(PySem.W.clsIn K C).isSome=true
 gc:PySem.W.findIn K (.ref C) "__class__"=some (some (.builtin "object.__class__"))
 gn:PySem.W.specialIn K (.builtin "object.__class__") "__get__"=some (some (.builtin "getset_descriptor.__get__"))
 tk:PySem.W.takesIn K (.builtin "object.__class__")=some true
 mo:PySem.W.mroIn K C (.type "object")=some true
theorem yj{K:ZE7}{a g:Value}(b:(PySem.W.clsIn K C).isSome=true)(e:PySem.W.findIn K (.ref C) name=some (some a))(d:PySem.W.specialIn K a "__get__"=some (some g))(c:PySem.W.takesIn K a=some true):PySem.W.findObj K C od name=some (.bind g a):=by
 obtain⟨cd,b⟩:=Option.isSome_iff_exists.mp b;unfold PySem.W.findObj;rw[b,YQ,e,YQ];simp[d,c]
theorem rY{K:ZE7}{x:Addr}(g:NP K C):PySem.W.KitX K (.ref x) (.ref C) (λh=>∃ox od,PySem.W.InstAt h x ox C od) where
 ty:=λ_ _ _ AR=>by obtain⟨_,_,I⟩:=AR;exact I.type
 it:=λ_ _ X _=>by
  obtain⟨a,IQ⟩:=Option.isSome_iff_exists.mp g.cl;unfold PySem.W.clsIn at IQ;split at IQ
  .rename_i c' d' vy WT ho;intro A' Q' E' s' k q;unfold isType loadHead;exact jW (wpAny_loadPart (k _ _ (X _ _ ho)) (kA q))
  .cases IQ
 ne:=λh tp dd A3 n sl X VO=>by
  obtain⟨a,IQ⟩:=Option.isSome_iff_exists.mp g.cl;refine Bool.eq_false_iff.mpr λq=>?_;have e:C=tp:=Value.ref.inj (beq_iff_eq.mp q);subst e;unfold PySem.W.clsIn at IQ;split at IQ
  .rename_i c' d' vy WT ho;have z:=(X _ _ ho).symm.trans VO;cases z
  .cases IQ
 ca:=λX⟨_,_,I⟩k=>oN X I g.toExGet (yj g.cl g.gc g.gn g.tk) g.mo k
theorem vG{h:Heap}(e:∃ob vs,h.get? a=some ob/\ob.cls=.ref C/\ob.dict=dx/\ob.data=.fields vs)(hd:∀d,dx=some d->∃o,h.get? d=some o):∃ox od,PySem.W.InstAt h a ox C od:=by
 obtain⟨ob,vs,h1,h2,c,b⟩:=e;cases dx with
 |none=>exact⟨ob,none,h1,h2,by unfold PySem.W.notCls;rw[b],by rw[c];trivial⟩
 |some d=>
  obtain⟨o,ho⟩:=hd d rfl;exact⟨ob,some o,h1,h2,by unfold PySem.W.notCls;rw[b],by rw[c];exact ho⟩
def cO:V->Value->Prop
 | .ty n,c=>c=.type n
 | .ref S,c=>c=.ref S
 |_,_=>False
def Zh(K:ZE7)(H:Hp)(x:V)(t:Value):Prop:=Fh K H x t∨∃a C dx,x=.ref a/\t=.ref C/\H a=some (Fz.Hn a C dx)/\NP K C/\∀d,dx=some d->∃fs,H d=some (.xd fs)
def eX(K:ZE7):List V->Hp->VK->Prop:=λxs H Q=>∃(x cv:V)(c t:Value)(b:Bool),xs=[x,cv]/\cO cv c/\Zh K H x t/\PySem.W.kitOne K t c=some b/\Q (.bl b) H
section
theorem DW:DH X (.builtin "isinstance") (eX X.K):=by
 intro Zd s Z H xs us Q I r h;obtain⟨x,cv,c,t,b,rfl,f,ty,e,q⟩:=h;obtain⟨u,o,rfl,j,i⟩:=vals2 r;have m:o=c:=by
  cases cv with
  |ty n=>cases i;exact f.symm
  |ref S=>cases i;exact f.symm
  |_=>exact f.elim
 subst m;have fin:∀tk,EP X Zd Z Q (.bool b) { s with toks:=tk }:=λtk=>⟨.bl b,H,I.tok tk,rfl,q⟩
 rcases ty with ty|⟨a,C,dx,rfl,rfl,ha,g,hd⟩
 .exact uH I j ty e fin
 .cases j;have ok:=(I.AN a _ ha).1;exact HP (rY g) I.C8 (vG ok λd l=>by obtain⟨fs,k⟩:=hd d l;exact I.AN.there k) e (λz=>nomatch z) fin
variable{f:Str}
end
end L2
namespace Fz
open L2 Lw
variable{a:Addr}{xs:List PV}{E:Ent0}{ss:List Slot}{Z:L2.St}{F F' H H':Hp}{ta tb tc te:TE}{k:PV->Prop}{nx:List Slot->Prop}{R:BD}
structure Cy (K:ZE7) (a:Addr) (xs:List PV):Prop where
 JW:xs.all flat=true
 sq:∀H,Al K H a (xs.map Fz.enc)
 ob:∃o:Obj,K.lookup a=some o/\o.cls=.type "tuple"
theorem Cy.of{K:ZE7}{vs:List V}(h:∀H,Al K H a vs)(e:xs.map Fz.enc=vs)(f:xs.all flat=true):Cy K a xs:=by
 subst e;refine⟨f,h,?_⟩;rcases h (λ_=>none)with h|⟨o,A3,n,h1,h2,_⟩
 .rcases h with h|⟨_,h⟩
  .cases h
  .cases h
 .exact⟨o,h1,h2⟩
theorem Cy.dat{K:ZE7}{d:Nat}(h:Cy K a xs)(hd:∀x∈xs,dat K d x):dat K (d+1) (.con a xs):=⟨hd,h.JW,h.sq⟩
section
variable[Xw]
variable{K:ZE7}{v:V}{tp:Bool}
theorem Ik(xs:List PV)(b:k (.con a xs)):Wp ss (tC (.ref a)) k:=⟨λE Z F H Q S q=>q _ _ F H (.refl S) .con b⟩
end
theorem qI{α:Type}(xs:List α){i j:Nat}(hi:i<=j)(a:j<=xs.length):EB xs (some (i:Int)) (some (j:Int))=(xs.drop i).take (j - i):=by
 unfold EB;rw[HT.PH,HT.PH,MW a,MW (Bq hi a)]
theorem Ot(ns:List Str)(x:Str):(ns.filter λy=>!alike (.str y) (.str x))=wo ns x:=by
 unfold wo alike;rfl
section
variable[Xw]
variable{F1:Hp}{K:ZE7}{js:List Nat}{ti:TE}
noncomputable def C7:Option Str->PV
 |none=>.AB
 |some x=>.str x
theorem oE(ns:List Str)(r:Str)(g:Nat)(cs:List Str):Ml ns r g cs=.tup [C7 (CC ns g cs),E2 r (Hz ns g cs) (Io ns g cs)]:=by
 unfold Ml Hz Io CC;cases Di ns g cs with
 |nil=>rfl
 |cons x t=>rfl
end
end Fz
namespace Fz
open L2 Lw
variable{E:Ent0}{AK ss:List Slot}{Z σ':L2.St}{F F' H H':Hp}{te:TE}{k:PV->Prop}{cv v:V}{b tp:Bool}{nx:List Slot->Prop}{R:BD}{j n:Nat}{vs:List V}{Q:VK}{X:XK}
abbrev DM:=List Slot->BD->(Ex->Prop)->Prop
def Ba(pre:DM):Sp:=λvs H Q X=>∃(ss:List Slot)(R:BD)(D:Ex->Prop)(F:Hp)(A:List Addr),pre ss R D/\Sg (E3 A F H) ss (vs.map some) F H/\(∀v F' H',Fin (E3 A F H) F' H'->R.ok (E3 A F H) F' H' v->Q v H')/\
 ∀(x:Ex)(C:Value)(dx:Option Addr)F' H',Fin (E3 A F H) F' H'->D x->x.at F' C dx->X C dx H'
@[reducible] def YW (X:XK) (D:Ex->Prop):Xw:=⟨λ_=>X,λ_=>True,D⟩
@[reducible] def GF (E:Ent0) (J:List Slot->Prop) (D:Ex->Prop):Xw:=⟨λZ C dx H=>∃ss F x,J ss/\Sg E ss Z F H/\D x/\x.at F C dx,J,D⟩
def tX:PV->Prop
 | .str x=>(reprText x).length<=100000
 | .int i=>i.natAbs.log2<1920
 |_=>False
section
variable[Xw]
variable{pre:DM}{t:TA}{K:ZE7}{C S:Addr}{fld:Str}
theorem Cj(h:Wa ss t λl=>∃c D,pre l (.is c) D/\Xw.J ss/\(∀x,D x->Xw.D x)/\∀p,c p->k p):Wp ss (NN (Ba pre) Xw.e t) k:=⟨λE Z F H Q S q=>
 h.go E Z F H _ S λvs l F1 H1 b a⟨c,D,g,i,j,kk⟩=>by
  refine⟨l,.is c,D,F1,[],g,b.st.R4 a,λv F' H' f⟨p,r,kp⟩=>?_,λx C dx F' H' f d GR=>?_⟩
  .exact q v p F' H' (b.trans (b.st.back (λ_ h=>absurd h Cb) f)) r (kk p kp)
  .exact E.hx ss Z F' H' x C dx i (b.st.back (λ_ h=>absurd h Cb) f).st (j x d) GR⟩
theorem Tg(h:We ss t λps=>ps.length<=1000/\Xw.J ss/\Xw.D ⟨C,[],[]⟩):Ws ss (Vb C Xw.e t) nx R:=⟨λE D Z F H S hn f=>
 h.go E Z F H _ S λvs ps F1 H1 a rs AR=>by obtain⟨b,c,d⟩:=AR;exact⟨by rw[rs.length];exact b,E.hx ss Z F1 H1 ⟨C,[],[]⟩ (.ref C) none c a.st d ⟨rfl,.inl ⟨rfl,rfl,rfl⟩⟩⟩⟩
theorem Gr(h:Wp ss te λp=>tX p/\Xw.J ss/\Xw.D ⟨C,[fld],[p]⟩):Ws ss (Qy C fld Xw.e (BH te Bl)) nx R:=⟨λE D Z F H S hn g=>
 h.go E Z F H _ S λv p F1 H1 b r AR=>by
  obtain⟨sp,c,f⟩:=AR;refine⟨v,rfl,?_,λd hd=>?_⟩
  .cases r <;> first|exact sp|exact sp.elim
  .have a:=b.st.alloc hd (.xd [(fld,v)]);exact E.hx ss Z _ _ ⟨C,[fld],[p]⟩ (.ref C) (some d) c a.st f ⟨rfl,.inr ⟨d,[v],rfl,AZ,rfl,.cons (r.mono a.ff) .nil⟩⟩⟩
end
section
variable{pre:DM}
theorem Fg{N:List Str}{t:TS}(h:Ba pre vs H Q X)(g:∀ss R D,pre ss R D->ss.length=n)
  (hw:∀ss R D,pre ss R D->let _i:Xw:=YW X D;Ws (ss++List.replicate (N.length - n) .any) t (λ_=>∃k,R=.is k/\k .AB) R):t { nx:=λ_ H'=>Q .AB H',rt:=Q } (L2.start N vs) H:=by
 obtain⟨ss,R,D,F,A,a,S,q,b⟩:=h;have e:vs.length=n:=by have:=S.len;rw[Aw]at this;rw[<- this];exact g ss R D a
 unfold L2.start;rw[e];letI:Xw:=YW X D;refine(hw ss R D a).go ⟨E3 A F H,λAK σ' F' H' x C dx _ S' d GR=>b x C dx F' H' S'.toFin d GR⟩ _ _ F H (S.grown _) (λAK σ' F' H'⟨k,e,c⟩S' _=>?_) λv F' H' f ok=>q v F' H' f ok;subst e;exact q .AB F' H' S'.toFin ⟨.AB,.AB,c⟩
theorem Fj(b:∀ss R D,pre ss R D->ss.length=n)(h:Ba pre vs H Q X):vs.length=n:=by
 obtain⟨ss,R,D,F,A,a,S,q⟩:=h;have:=S.len;rw[Aw]at this;rw[<- this];exact b ss R D a
noncomputable abbrev Ent0.at(E:Ent0)(F:Hp):Ent0:=⟨E.A,F,E.H0,E.B⟩
theorem Fin.un(S:Fin E F H)(f:Fin (E.at F) F' H'):Fin E F' H':=⟨f.fh,S.f0.trans f.f0,f.keep,λa o e=>(f.fresh a o e).elim (λe=>S.fresh a o e) .inr,f.HW,f.M3,f.a0,f.bF,f.bH,f.b0⟩
theorem Ok.un{G:Hp}{s:Slot}{o:Option (Option V)}:Ok (E.at G) F H s o↔Ok E F H s o:=by
 cases s with
 |sq tp xs=>cases tp <;> exact Iff.rfl
 |_=>exact Iff.rfl
theorem Sg.un(S:Sg E ss Z F H)(S':Sg (E.at F) AK σ' F' H'):Sg E AK σ' F' H':=⟨S.toFin.un S'.toFin,S'.len,λi s hi=>Ok.un.mp (S'.ok i s hi),S'.FH⟩
theorem Sg.fJ(S:Sg E ss Z F H):Sg (E.at F) ss Z F H:=⟨⟨S.fh,AJ.refl _,S.keep,λ_ _ e=>.inl e,S.HW,S.M3,S.a0,S.bF,S.bH,S.b0⟩,S.len,λi s hi=>Ok.un.mpr (S.ok i s hi),S.FH⟩
theorem BD.un{G:Hp}(h:R.ok (E.at G) F H v):R.ok E F H v:=by
 cases R <;> exact h
theorem Sg.ZBm(S:Sg E ss Z F H)(j:Nat):Sg E (ss.set j .any) (Z.set j none) F H:=by
 have at_:∀(i:Nat)(s:Slot),(ss.set j .any)[i]?=some s->s=.any∨(i≠j/\ss[i]?=some s):=λi s hi=>by
  by_cases q:i=j
  .subst q
   by_cases d:i<ss.length
   .rw[Fc d]at hi;cases hi;exact .inl rfl
   .rw[MQ (by rw[MS];omega)]at hi;cases hi
  .rw[FF (BJ q)]at hi;exact .inr ⟨q,hi⟩
 refine⟨S.toFin,by rw[MS,MS];exact S.len,λi s hi=>?_,λi k u w l M9 hi c b a=>?_⟩
 .rcases at_ i s hi with rfl|⟨q,hi⟩
  .trivial
  .rw[FF (BJ q)];exact S.ok i s hi
 .rcases at_ i u hi with rfl|⟨q,hi⟩
  .exact b
  .rcases at_ k w c with rfl|⟨q2,c⟩
   .exact a
   .rw[FF (BJ q)]at b;rw[FF (BJ q2)]at a;exact S.FH i k u w l M9 hi c b a
end
section
variable[Xw]
variable{K:ZE7}{S:Addr}{tb:(L2.St->XK)->TS}{th:TS}
theorem kW(J:List Slot->Prop)(Dx:Ex->Prop)(o:∀E:Ent0,@Ws (GF E J Dx) ss (tb (GF E J Dx).e) nx R)
  (hh:∀Gy x,J Gy->Dx x->PySem.W.exmOne K (.ref x.C) (.ref S)=some true/\Ws (Gy.set j (.is (.exc x.C x.ns x.xs))) th (λDY=>nx (DY.set j .any)) R):Ws ss (Uh K S j tb th) nx R:=⟨λE D Z F H S0 hn i=>by
 refine⟨(GF (E.toEnt0.at F) J Dx).e,@Ws.go (GF (E.toEnt0.at F) J Dx) _ _ _ _ (o (E.toEnt0.at F)) (@Ent.mk (GF (E.toEnt0.at F) J Dx) (E.toEnt0.at F) λss Z F H x C dx b S d GR=>⟨ss,F,x,b,S,d,GR⟩) D Z F H S0.fJ (λAK σ' F' H' n S' ff=>hn AK σ' F' H' n (S0.un S') ff) (λv F' H' f ok=>i v F' H' (S0.toFin.un f) (BD.un ok)),λσ1 C dx ea H1 l Jt=>?_⟩;obtain⟨Gy,F1,x,b,S1,p,q,GR⟩:=l;obtain⟨Tx,hw⟩:=hh Gy x b p;cases q;have t:=S0.un S1;have m:=t.alloc Jt (Hn ea x.C dx);have r:Rep (upd F1 ea (Hn ea x.C dx)) (.ref ea) (.exc x.C x.ns x.xs):=by
  rcases GR with⟨h,g,c⟩|⟨a,vs,h,g,c,s⟩
  .subst c;rw[h,g];exact .Mx AZ
  .subst h;exact .exc AZ (m.ff _ _ g) c (s.mono m.ff)
 exact⟨Tx,hw.go E (D.drop j) _ _ _ (m.st.LP r) (λDY σ2 F3 H3 k S2 ff=>hn _ _ F3 H3 k (S2.ZBm j) (S1.f0.trans (m.ff.trans ff))) λv F' H' f ok=>i v F' H' f ok⟩⟩
end
def c9(K:ZE7)(p:PV)(t:Value):Prop:=match p with
 | .exc C _ _=>t=.ref C/\NP K C
 |p=>t=O9 p
section
variable[Xw]
variable{K:ZE7}{fld:Str}
theorem Rep.um{p:PV}{t c:Value}(s:AJ F H)(r:Rep F v p)(h:c9 K p t)(k:PySem.W.kitOne K t c=some b)(f:∀C ns xs,p≠.obj C ns xs)(hn:∀a xs,p≠.con a xs):Zh K H v t:=by
 cases r with
 |AB=>cases(show t=.type "NoneType" from h);exact .inl .AB
 |bl b=>cases(show t=.type "bool" from h);exact .inl (.bl b)
 |int i=>cases(show t=.type "int" from h);exact .inl (.int i)
 |str x=>cases(show t=.type "str" from h);exact .inl (.str x)
 |lst e _=>cases(show t=.type "list" from h);exact .inl (.lst (s _ _ e))
 |tup e _=>cases(show t=.type "tuple" from h);exact .inl (.tup (s _ _ e))
 |Ft e _ _=>cases(show t=.type "dict" from h);exact .inl (.dK (s _ _ e))
 |obj _ _ _ _=>exact absurd rfl (f _ _ _)
 |con=>exact absurd rfl (hn _ _)
 |Mx e=>
  obtain⟨rfl,g⟩:=h;exact .inr ⟨_,_,none,rfl,rfl,s _ _ e,g,λd z=>by cases z⟩
 |exc e j _ _=>
  obtain⟨rfl,g⟩:=h;exact .inr ⟨_,_,_,rfl,rfl,s _ _ e,g,λd z=>by cases z;exact⟨_,s _ _ j⟩⟩
theorem DU(h:Wp ss te λp=>((∀C ns xs,p≠.obj C ns xs)/\∀a xs,p≠.con a xs)/\∃t c b,cO cv c/\c9 K p t/\PySem.W.kitOne K t c=some b/\k (.bl b)):Wp ss (DA (eX K) (BH te (BH (tC cv) Bl))) k:=⟨λE Z F H Q S q=>
 h.go E Z F H _ S λv p F1 H1 d r AR=>by obtain⟨⟨h1,h2⟩,t,c,b,g,f,e,kk⟩:=AR;exact⟨v,cv,c,t,b,rfl,g,r.um d.st.fh f e h1 h2,e,q _ _ F1 H1 d (.bl _) kk⟩⟩
end
end Fz
namespace L2
variable{C S:Addr}{X:Cx}{x:Str}{np pos:Pos}
noncomputable def Pz(s:Stmt):Stmt:=match s with
 | .ClassDef _ _ _ (d::_) ..=>d
 |s=>s
def Gm(P:Program)(w:World)(K:ZE7)(mg:ZE9)(Zp:Heap)(C:Addr)(fld:Str):Prop:=
 ∃(fI:Addr)(fd:FuncData)(par:Str),J3 K C fI fld/\Cv P w K mg Zp FJ 1 fI fd ["self", par] (LI C fld)/\Binds K fd ["self", par] []
theorem P7{fld:Str}{a b:Str}:∀vs H Q E,LI C fld vs H Q E->vs.length=[a,b].length:=λvs H Q E h=>by obtain⟨ea,v,rfl,_⟩:=h;rfl
theorem Qb{fld:Str}{vs:List V}{H:Hp}{Q:VK}{E:XK}{N:List Str}(a:N.length=2)(h:LI C fld vs H Q E):
  KD (NR (i2 C (BH (Cg 0) (BH (YX (Cg 1)) Bl)))) (KD (bY C fld (Cg 0) (Cg 1)) OZ) { nx:=λ_ H'=>Q .AB H',rt:=Q } (start N vs) H:=by
 obtain⟨ea,v,rfl,sv,hx,q⟩:=h;have e0:(start N [V.ref ea,v])=[some (.ref ea),some v]:=by
  unfold start;simp[a]
 rw[e0];refine⟨_,rfl,_,rfl,sv,λy=>⟨ea,_,rfl,hx,?_⟩⟩;refine⟨_,rfl,_,rfl,ea,rfl,hx,λd hd=>q d hd⟩
theorem Kf:Goes X (λ_=>E0):=λ_ _ _ _ _ _ _ _ _ _ _ _ _ h=>h.elim
section
variable{fld:Str}{E:St->XK}{Bg:Pos}{e0:Expr}{t:TA}{j:Nat}
theorem Ko(c:Gm X.prog X.w X.K X.mg X.base C fld)(f:Gl X x)(d:X.mg x=some (.ref C))(b:Bu j X.A)(e:2<=j)(g:X.calm=true)(a:X.ex=[])(go:Goes X E)(i:QA X [e0] t)
  (BL:(x == ("__debug__":Str))=false:=by decide) (he:starEach [e0] X.env=(false,eval e0 X.env)::starEach [] X.env:=by rfl) (BE:(backTo Bg (starEach [] X.env)).any (·.1)=false:=by rfl) :
  QS X (.Raise (some (.Call (.Name x np) [e0] [] Bg)) none pos) (Qy C fld E t):=by
 obtain⟨fI,fd,par,k,Fn,h⟩:=c;exact mQ k f d Fn h (b.mono e) g a go i BL he BE
end
def VU(K:ZE7)(S:Addr)(tb:(St->XK)->TS)(th:TS):TS:=λD Z H=>∃E1:St->XK,tb E1 D Z H/\
 ∀ σ1 C dx ea H1,E1 σ1 (.ref C) dx H1->H1 ea=none->PySem.W.exmOne K (.ref C) (.ref S)=some true/\th D σ1 H1
section
variable{body CI:List Stmt}{b0:Stmt}{GW:Pos}{Hk:(St->XK)->TS}{th:TS}
theorem uN(B9:X.stack=X.env::X.outer)(M:X.ex=[])(J:Gl X x)(G:X.mg x=some (.ref S))
  (j:∀(pn:ZE8)(xe:Value->Shared->Prop)(E1:St->XK),Goes (X.Dp pn xe) E1->FW (X.Dp pn xe) body (Hk E1))
  (hh:∀e,FW (X.CI e) (b0::CI) th) (BL:(x == ("__debug__":Str))=false:=by decide) :
  QS X (.Try body [.ExceptHandler (some (.Name x np)) none (b0::CI) GW] [] [] pos) (VU X.K S Hk th):=⟨by
 have j:=λpn xe E1 g=>(j pn xe E1 g).h;have hh:=λe=>(hh e).h;intro Zd s Z H D I h;obtain⟨E1,h1,h2⟩:=h;have B:X.env.frame=some X.env.locals:=by
  rcases I.ok.Hc with e|⟨_,B⟩
  .rw[e]at B9;exact absurd (qz List.length B9) (by simp)
  .exact B
 refine wpAny_Try_except ?_;refine nY (j (X.pn++Zd) _ E1 ?_ [] s Z H D I.Dp h1) (λf s1 q=>?_) (λe s1 q=>q)
 .intro Rh σ1 H1 s1 ea C dx tb I1 E ⟨A,m⟩ k i P;have c:Inv X Zd σ1 H1 s1:=I1.Gf;have m:X.s₀.heap.get? ea=none:=m;have k:∀T,tb=some T->H1 T=none/\X.s₀.heap.get? T=none:=k;have i:∀p∈X.pn++Zd,p.1≠ea/\tb≠some p.1:=λp q=>i p (L5 _ q);refine V4 (outer:=X.outer) (L:=X.env.locals) (by rw[<- B9];exact c.ok.frames) (Zp:=X.base) (by rw[<- B9];exact c.stack) B E λh' T kp a t=>?_;have n:=c.Og B9 E A m k i kp;obtain⟨JO,IA⟩:=h2 σ1 C dx ea H1 P A;refine wpAny_handleBy_cons ?_ (λz=>by cases z);refine codeAny_handlers_test ?_;refine JK (X:=X.CI (.ref ea)) n.CI J G ?_ BL;obtain⟨oe,vs,N,O,hd,Gh,hz,h3⟩:=t.obj;have Y:PySem.W.Looks (model X.prog X.w) h' (typeOf (.ref ea)) (.ref C):=by
   rw[<- O];exact(ZDD N).andThen .now
  refine(PySem.W.exm_one (K:=X.K) n.C8 Y JO).here ?_;refine codeAny_handlers_suite ?_;have Q:∀b∈BV (X.env::X.outer),∃o,h'.get? b=some o/\∀vs,o.data≠.fields vs:=λb j=>by
   have st:=n.stack;rw[B9]at st;obtain⟨_,o,ho,hn⟩:=st.mem j;exact⟨o,ho,hn⟩
  refine Ux (s:={ s1 with heap:=h' }) (l:=X.env::X.outer) t Q λh4 WG x4=>?_
  have U:∀T',some T=some T'->H1 T'=none/\X.s₀.heap.get? T'=none:=λT' R=>by
   cases R;exact a.elim (λa=>⟨c.AN.fresh a,MN (Bq c.sz a)⟩) (k T)
  have V:∀p∈X.pn++Zd,p.1≠ea/\some T≠some p.1:=λp q=>⟨(i p q).1,λz=>a.elim (λa=>by
   have F:=B7 (c.pin p q).1;rw[<- CH z]at F;exact absurd F (Nat.not_lt.mpr a)) λy=>(i p q).2 (y.trans z)⟩
  have σ:=n.Og B9 t A m U V WG;refine nY (hh (.ref ea) Zd _ _ _ D σ.CI IA) (λf s7 q=>?_) (λ_ _ z=>z.elim);cases f with
  |next=>
   obtain⟨σ7,H7,I7,d⟩:=q;exact⟨_,_,I7.Jd I.ok,d⟩
  |brk=>
   obtain⟨σ7,H7,I7,d⟩:=q;exact⟨_,_,I7.Jd I.ok,d⟩
  |cont=>
   obtain⟨σ7,H7,I7,d⟩:=q;exact⟨_,_,I7.Jd I.ok,d⟩
  |ret u=>
   obtain⟨v,σ7,H7,I7,r,d⟩:=q;exact⟨v,_,_,I7.Jd I.ok,r,d⟩
 .cases f with
  |next=>
   obtain⟨σ7,H7,I7,d⟩:=q;exact zk ⟨_,_,I7.Gf,d⟩
  |brk=>
   obtain⟨σ7,H7,I7,d⟩:=q;exact⟨_,_,I7.Gf,d⟩
  |cont=>
   obtain⟨σ7,H7,I7,d⟩:=q;exact⟨_,_,I7.Gf,d⟩
  |ret u=>
   obtain⟨v,σ7,H7,I7,r,d⟩:=q;exact⟨v,_,_,I7.Gf,r,d⟩⟩
end
end L2
namespace Fz
open L2 Lw
variable{C S a:Addr}{cs ns:List Str}{i j m n:Nat}{ss:List Slot}{ta tc te ti:TE}{k:List PV->Prop}{neg tp:Bool}{r x:Str}{F:Hp}{nx:List Slot->Prop}{R:BD}{xs:List PV}{d':BG}{e:Ex}{g:Int}{α:Type}
noncomputable def Wy(K:ZE7)(C:Addr):Bool:=PySem.W.findIn K (.ref C) "__getattribute__" == some (some (.builtin "BaseException.__getattribute__")) && (PySem.W.findIn K (.ref C) "__getattr__" == some none && (PySem.W.mroIn K C (.type "BaseException") == some true && ((PySem.W.clsIn K C).isSome && (PySem.W.findIn K (.ref C) "__class__" == some (some (.builtin "object.__class__")) && (PySem.W.specialIn K (.builtin "object.__class__") "__get__" == some (some (.builtin "getset_descriptor.__get__")) && (PySem.W.takesIn K (.builtin "object.__class__") == some true && PySem.W.mroIn K C (.type "object") == some true))))))
theorem vJ{K:ZE7}(h:Wy K C=true):NP K C:=by
 unfold Wy at h;simp only[CG,yd]at h;obtain⟨h1,h2,f,e,d,c,b,a⟩:=h;exact⟨⟨h1,h2,f⟩,e,d,c,b,a⟩
def M6(K:ZE7)(cs:List Addr)(S C:Addr)(i:Nat):Bool:=Wy K C && (PySem.W.kitOne K (.ref C) (.ref S) == some true && (PySem.W.kitOne K (.ref C) (.type "ValueError") == some true && (List.range cs.length).all λj=>PySem.W.kitOne K (.ref C) (.ref (cs.getD j 0)) == some (decide (j=i))))
structure b5 (K:ZE7) (cs:List Addr) (S C:Addr) (i:Nat):Prop where
 ex:NP K C
 st:PySem.W.kitOne K (.ref C) (.ref S)=some true
 ve:PySem.W.kitOne K (.ref C) (.type "ValueError")=some true
 at_:∀j,j<cs.length->PySem.W.kitOne K (.ref C) (.ref (cs.getD j 0))=some (decide (j=i))
theorem Yp{K:ZE7}{cs:List Addr}(h:M6 K cs S C i=true):b5 K cs S C i:=by
 unfold M6 at h;simp only[CG,yd,Ec]at h;obtain⟨h1,h2,c,b⟩:=h;exact⟨vJ h1,h2,c,λj a=>b j (List.mem_range.mpr a)⟩
theorem zW(bs:List Bool):(bs.map V.bl).all Ct=true:=by
 rw[Ec];intro x hx;obtain⟨y,_,rfl⟩:=List.mem_map.mp hx;rfl
section
variable[Xw]
variable{K:ZE7}{k:PV->Prop}
theorem zJ(c:Cy K a (ns.map .str))(h:Wp ss ta λp=>∃x,p=.str x/\k (.bl (if neg then !decide (x∈ns)else decide (x∈ns)))):Wp ss (Bo (HX K neg) ta (tC (.ref a))) k:=⟨λE Z F H Q S q=>
 h.go E Z F H _ S λv p F1 H1 d b AR=>by
  obtain⟨x,e,kk⟩:=AR;subst e;cases b.inv;have sq:=c.sq H1;rw[X2]at sq;refine⟨a,ns.map V.str,rfl,.inr sq,rfl,HY ns,?_⟩;rw[Nn];exact q _ _ F1 H1 d (.bl _) kk⟩
theorem qu{tb:TE}(h:Wq ss ta λtp xs=>tp=false/\∃bs:List Bool,xs=bs.map PV.bl/\Wp ss tb λq=>∃b,q=.bl b/\k (.int (NM (.bl b) (bs.map V.bl)))):Wp ss (Lx K "list" (Xz K) ta (BH tb Bl)) k:=⟨λE Z F H Q S q=>
 h.go E Z F H _ S λv tp xs F1 H1 c sv⟨i,bs,e,h2⟩=>by
  subst i;subst e;obtain⟨l,vs,rfl,g,r⟩:=sv.seq c.st;refine⟨.inl ⟨rfl,_,AO.of g⟩,h2.go E Z F1 H1 _ c.st λn p2 F2 H2 a d⟨b,j,kk⟩=>?_⟩;subst j;cases d.inv;obtain⟨o,FQ,m,DJ,f⟩:=(sv.mv a).seq a.st;cases m;rw[f.Yr]at DJ;exact⟨l,_,_,rfl,rfl,AO.of DJ,rfl,zW bs,q _ _ F2 H2 (c.trans a) (.int _) kk⟩⟩
end
noncomputable def Mg(r:Str):Bool:=decide (r∈([("none":Str), "ahead","all"]))
def TM(K:ZE7)(cs:List Addr)(S:Addr):Pre:=λl R=>∃(C:Addr)(a:List Str)(xs:List PV)(i:Nat),l=[.is (.exc C a xs),.is (.int i)]/\b5 K cs S C i/\i<cs.length/\cs.length=16/\R=.is λp=>p=.bl true
theorem qW(h:i<16):NM (.bl true) (List.map V.bl [decide (0=i),decide (1=i),decide (2=i),decide (3=i),decide (4=i),decide (5=i),decide (6=i),decide (7=i),decide (8=i),decide (9=i),decide (10=i),decide (11=i),decide (12=i),decide (13=i),decide (14=i),decide (15=i)])=1:=by
 have c:i=0∨i=1∨i=2∨i=3∨i=4∨i=5∨i=6∨i=7∨i=8∨i=9∨i=10∨i=11∨i=12∨i=13∨i=14∨i=15:=by omega
 rcases c with rfl|rfl|rfl|rfl|rfl|rfl|rfl|rfl|rfl|rfl|rfl|rfl|rfl|rfl|rfl|rfl <;> rfl
theorem oU(h:i<16):L2.BZ [PV.bl (decide (0=i)),PV.bl (decide (1=i)),PV.bl (decide (2=i)),PV.bl (decide (3=i)),PV.bl (decide (4=i)),PV.bl (decide (5=i)),PV.bl (decide (6=i)),PV.bl (decide (7=i)),PV.bl (decide (8=i)),PV.bl (decide (9=i)),PV.bl (decide (10=i)),PV.bl (decide (11=i)),PV.bl (decide (12=i)),PV.bl (decide (13=i)),PV.bl (decide (14=i)),PV.bl (decide (15=i))] (i:Int)=some (.bl true):=by
 have c:i=0∨i=1∨i=2∨i=3∨i=4∨i=5∨i=6∨i=7∨i=8∨i=9∨i=10∨i=11∨i=12∨i=13∨i=14∨i=15:=by omega
 rcases c with rfl|rfl|rfl|rfl|rfl|rfl|rfl|rfl|rfl|rfl|rfl|rfl|rfl|rfl|rfl|rfl <;> rfl
theorem l9(h:x.length<=100)(hx:∀c∈x.cps.toList,c<16 ^ 8):(reprText x).length<=100000:=by
 have:=PySem.StrLaws.reprText_len x hx;omega
theorem pJ(h:Nm x):(reprText x).length<=100000:=l9 (Bq h.2.1 (by decide)) λc a=>HM (h.2.2 c a).2 (by decide)
def Jz(ns a:List Str):Bool:=if decide (Up a)=true then(a.map λx=>decide (x∈ns)).all id else false
def Sl:Pre:=λl R=>∃(tp:Bool)(ns a:List Str),l=[.sq tp (ns.map .str),.is (.tup (a.map .str))]/\a.length<64/\R=.is λp=>p=.bl (Jz ns a)
def MF:PV->Bool
 | .AB=>true
 |_=>false
theorem Rep.MF{v:V}{p:PV}(r:Rep F v p):decide (v=.AB)=MF p:=by
 cases r <;> rfl
section
variable[Xw]
variable{tb:TE}{k:PV->Prop}
theorem pV(h:Wp ss ta λp=>Wp ss tb λq=>q=.AB/\k (.bl (MF p))):Wp ss (Bo (λx y H Q=>y=.AB/\Q (.bl (decide (x=.AB))) H) ta tb) k:=⟨λE Z F H Q S q=>
 h.go E Z F H _ S λv p F1 H1 a c h2=>h2.go E Z F1 H1 _ a.st λf p2 F2 H2 d b AR=>by
  obtain⟨e,kk⟩:=AR;subst e;cases b.inv;refine⟨rfl,?_⟩;rw[c.MF];exact q _ _ F2 H2 (a.trans d) (.bl _) kk⟩
variable{K:ZE7}{t u:TE}{pre:DM}{tA:TA}
theorem xx(h:Wp ss t k):Wp ss (Vz t u) k:=⟨λE Z F H Q S q=>.inl (h.go E Z F H Q S q)⟩
theorem jd(h:Wp ss u k):Wp ss (Vz t u) k:=⟨λE Z F H Q S q=>.inr (h.go E Z F H Q S q)⟩
theorem kR(h:Wq ss ta λtp xs=>tp=true/\∃ns:List Str,xs=ns.map PV.str/\Wp ss tb λp=>∃x,p=.str x/\x∈ns/\k (.int (ns.idxOf x:Nat))):Wp ss (Lx K "tuple" (fv K) ta (BH tb Bl)) k:=⟨λE Z F H Q S q=>
 h.go E Z F H _ S λv tp xs F1 H1 b sv⟨g,ns,e,h2⟩=>by
  subst e;subst g;obtain⟨l,vs,rfl,f,r⟩:=sv.seq b.st;refine⟨.inr (.inr (.inr (.inr ⟨rfl,_,f⟩))),h2.go E Z F1 H1 _ b.st λm p2 F2 H2 a c⟨x,i,hx,kk⟩=>?_⟩;subst i;cases c.inv;obtain⟨n,FQ,j,DJ,d⟩:=(sv.mv a).seq a.st;cases j;rw[d.strs]at DJ;exact⟨l,ns,x,rfl,rfl,Al.of DJ,hx,q _ _ F2 H2 (b.trans a) (.int _) kk⟩⟩
theorem t8(h:Wp ss te λp=>∃x,p=.str x/\x.length<=1000/\k (.bl (isNm x))):Wp ss (Ep TJ [] E0 (BH te Bl)) k:=⟨λE Z F H Q S q=>
 h.go E Z F H _ S λv p F1 H1 a r AR=>by
  obtain⟨x,e,hx,kk⟩:=AR;subst e;cases r.inv;exact⟨x,rfl,hx,λH3 s=>q _ _ F1 H3 (a.trans (a.st.grow s)) (.bl _) kk⟩⟩
theorem Yl(h:Wp ss ta λp=>∃x,p=.str x/\Wp ss tb λq=>∃y,q=.str y/\x.length+y.length<=100000/\k (.str (x++y))):Wp ss (Bo (λx y H Q=>∃i j,x=.str i/\y=.str j/\i.length+j.length<=sizeLine/\Q (.str (i++j)) H) ta tb) k:=⟨λE Z F H Q S q=>
 h.go E Z F H _ S λv p F1 H1 a c⟨x,e,h2⟩=>h2.go E Z F1 H1 _ a.st λl p2 F2 H2 d b⟨y,g,f,kk⟩=>by
  subst e;subst g;cases c.inv;cases b.inv;exact⟨x,y,rfl,rfl,Bq f (by decide +kernel),q _ _ F2 H2 (a.trans d) (.str _) kk⟩⟩
theorem Iv{k:List PV->Prop}(h:Wa ss tA λl=>∃c D,pre l (.new c) D/\Xw.J ss/\(∀x,D x->Xw.D x)/\∀xs,c xs->k xs):Wn ss (NN (Ba pre) Xw.e tA) k:=⟨λE Z F H Q S q=>
 h.go E Z F H _ S λvs l F1 H1 b a⟨c,D,i,m,n,kk⟩=>by
  refine⟨l,.new c,D,F1,[],i,b.st.R4 a,λv F' H' f⟨l,vs,xs,e,o,j,DJ,r,g⟩=>?_,λx C dx F' H' f d GR=>?_⟩
  .subst e;exact q l vs xs F' H' (b.trans (b.st.back (λ_ h=>absurd h Cb) f)) o (b.none j) DJ r (kk xs g)
  .exact E.hx ss Z F' H' x C dx m (b.st.back (λ_ h=>absurd h Cb) f).st (n x d) GR⟩
end
section
variable[Xw]
variable{K:ZE7}{tb:(L2.St->XK)->TS}{th:TS}
theorem ki(J:List Slot->Prop)(Dx:Ex->Prop)(h:∀E:Ent0,@Ws (GF E J Dx) ss (tb (GF E J Dx).e) nx R)
  (hh:∀Gy x,J Gy->Dx x->PySem.W.exmOne K (.ref x.C) (.ref S)=some true/\Ws Gy th nx R):Ws ss (VU K S tb th) nx R:=⟨λE D Z F H S0 hn b=>by
 refine⟨(GF (E.toEnt0.at F) J Dx).e,@Ws.go (GF (E.toEnt0.at F) J Dx) _ _ _ _ (h (E.toEnt0.at F)) (@Ent.mk (GF (E.toEnt0.at F) J Dx) (E.toEnt0.at F) λss Z F H x C dx a S d GR=>⟨ss,F,x,a,S,d,GR⟩) D Z F H S0.fJ (λAK σ' F' H' n S' ff=>hn AK σ' F' H' n (S0.un S') ff) (λv F' H' f ok=>b v F' H' (S0.toFin.un f) (BD.un ok)),λσ1 C dx ea H1 g Jt=>?_⟩;obtain⟨Gy,F1,x,a,S1,i,j,GR⟩:=g;obtain⟨Tx,hw⟩:=hh Gy x a i;cases j;have k:=S0.un S1;exact⟨Tx,hw.go E D _ _ _ k (λDY σ2 F3 H3 c S2 ff=>hn _ _ F3 H3 c S2 (S1.f0.trans ff)) λv F' H' f ok=>b v F' H' f ok⟩⟩
theorem AX.rep{vs:List V}(h:AX F vs xs):∀n:Nat,AX F (List.replicate n vs).flatten (List.replicate n xs).flatten
 | 0=>.nil
 |n+1=>by rw[Jm,Jm,MP,MP];exact h.append (AX.rep h n)
theorem rn(h:Wq ss ta λtp xs=>tp=false/\Wp ss te λp=>∃n:Int,p=.int n/\-1000<=n/\n<=1000/\xs.length<=10/\k (List.replicate n.toNat xs).flatten):Wn ss (Bo fw ta te) k:=⟨λE Z F H Q S q=>
 h.go E Z F H _ S λv tp xs F1 H1 c sv⟨m,h2⟩=>h2.go E Z F1 H1 _ c.st λs p F2 H2 b e⟨n,o,n0,t,g,kk⟩=>by
  subst m;subst o;cases e.inv;obtain⟨l,vs,rfl,j,r⟩:=(sv.mv b).seq b.st;have i:vs.length * n.toNat<=10 * 1000:=Nat.mul_le_mul (by rw[r.length];exact g) (by omega);refine⟨l,n,vs,rfl,rfl,j,by omega,by omega,small (Bq i (by decide)),λa d=>?_⟩;have f:=b.st.make d (.lst (List.replicate n.toNat vs).flatten);exact q a _ _ F2 _ (c.trans (b.trans f)) (b.st.Cn d) ((c.trans b).none d) AZ (r.rep _) kk⟩
end
inductive Am where
 |put (x:Str) (i:Int)|take (x:Str)|move (x:Str) (i:Int)|turn (lo hi:Int)
variable{d:Am}
noncomputable def aP:Am->PV
 | .put x i=>.tup [.str "put",.str x,.int i]
 | .take x=>.tup [.str "take",.str x]
 | .move x i=>.tup [.str "move",.str x,.int i]
 | .turn lo hi=>.tup [.str "turn",.int lo,.int hi]
structure BW where
 noName:Addr
 there:Addr
 gone:Addr
 JZ:Addr
 full:Addr
variable{c:BW}
noncomputable def Ip(C:Addr)(nm:Str):Ex:=⟨C,["name"],[.str nm]⟩
noncomputable def Mw(C:Addr)(i:Int):Ex:=⟨C,["at"],[.int i]⟩
def K0(C:Addr):Ex:=⟨C,[],[]⟩
def inR(i:Int)(lo hi:Int):Prop:=lo<=i/\i<=hi
instance {i lo hi:Int}:Decidable (inR i lo hi):=by unfold inR;infer_instance
def Am.B8(c:BW)(ns:List Str):Am->Option Ex
 | .put x i=>if isNm x=false then some (Ip c.noName x)else if x∈ns then some (Ip c.there x)else if ¬ inR i 0 ns.length then some (Mw c.JZ i)else if 40<=ns.length then some (K0 c.full)else none
 | .take x=>if x∉ns then some (Ip c.gone x)else none
 | .move x i=>if x∉ns then some (Ip c.gone x)else if ¬ inR i 0 (ns.length - 1)then some (Mw c.JZ i)else none
 | .turn lo hi=>if ¬ inR lo 0 ns.length then some (Mw c.JZ lo)else if ¬ inR hi lo ns.length then some (Mw c.JZ hi)else none
def Fb(x:Str):Prop:=(reprText x).length<=100000/\x.length<=1000
def HI(i:Int):Prop:=i.natAbs.log2<1920
def Am.say:Am->Prop
 | .put x i=>Fb x/\HI i
 | .take x=>Fb x
 | .move x i=>Fb x/\HI i
 | .turn lo hi=>HI lo/\HI hi
def Am.Is(d:Am)(ns:List Str)(d':BG):Prop:=aP d=dP d'/\d'.Ok 40 ns
theorem rB{c:Nat}(h:M8 c=true):97<=c/\c<=122:=by
 refine ZCj λhn=>?_;have e:∀i,i<26->HR.cps.extract i (i+1)=#[97+i]:=by decide +kernel
 have a:∀i,i+(Str.length ⟨#[c]⟩)<=HR.length->Builtin.Str.subAt HR ⟨#[c]⟩ i=false:=λi hi=>by
  have d:i+1<=26:=hi;show(HR.cps.extract i (i+1) == #[c])=false;rw[e i (by omega)];cases b:(#[97+i] == #[c])with
  |false=>rfl
  |true=>
   have q:=eq_of_beq b;simp at q;exact absurd ⟨by omega,by omega⟩ hn
 unfold M8 at h;rw[PySem.W.occ_nil_of_no _ _ 1 a]at h;exact absurd h (by decide)
theorem yx(h:isNm x=true):Nm x:=by
 unfold isNm at h;simp only[CG,m9,Ec]at h;obtain⟨h1,h2,b⟩:=h;exact⟨by omega,by omega,λc a=>rB (b c a)⟩
theorem Am.good(h:d.B8 c ns=none):∃d':BG,d.Is ns d':=by
 cases d with
 |put x i=>
  simp only[Am.B8]at h;split at h
  .cases h
  .next h1=>
   split at h
   .cases h
   .next h2=>
    split at h
    .cases h
    .next h3=>
     split at h
     .cases h
     .next h4=>
      have f:inR i 0 ns.length:=Decidable.not_not.mp h3;obtain⟨a,b⟩:=f;obtain⟨n,rfl⟩:=Ie a;refine⟨.put x n,rfl,yx (by cases e:isNm x <;> simp_all),h2,by omega,by omega⟩
 |take x=>
  simp only[Am.B8]at h;split at h
  .cases h
  .next h1=>exact⟨.take x,rfl,(Decidable.not_not.mp h1:x∈ns)⟩
 |move x i=>
  simp only[Am.B8]at h;split at h
  .cases h
  .next h1=>
   split at h
   .cases h
   .next h3=>
    have f:inR i 0 (ns.length - 1):=Decidable.not_not.mp h3;obtain⟨a,b⟩:=f;obtain⟨n,rfl⟩:=Ie a;exact⟨.move x n,rfl,Decidable.not_not.mp h1,by omega⟩
 |turn lo hi=>
  simp only[Am.B8]at h;split at h
  .cases h
  .next h1=>
   split at h
   .cases h
   .next h3=>
    have j:inR lo 0 ns.length:=Decidable.not_not.mp h1;have f:inR hi lo ns.length:=Decidable.not_not.mp h3;obtain⟨a,b⟩:=j;obtain⟨g,k⟩:=f;obtain⟨n,rfl⟩:=Ie a;obtain⟨m,rfl⟩:=Ie (Int.le_trans a g);exact⟨.turn n m,rfl,by omega,by omega⟩
noncomputable def HG:BG->Am
 | .put x i=>.put x i
 | .take x=>.take x
 | .move x i=>.move x i
 | .turn lo hi=>.turn lo hi
theorem cW{d:BG}(h:d.Ok 40 ns):(HG d).B8 c ns=none:=by
 cases d with
 |put x i=>
  obtain⟨h1,h2,b,a⟩:=h;simp only[HG,Am.B8];rw[lA (by rw[ZAF h1];decide),lA h2,lA (Decidable.not_not.mpr ⟨by omega,by omega⟩),lA (by omega)]
 |take x=>simp only[HG,Am.B8];rw[lA (Decidable.not_not.mpr (show x∈ns from h))]
 |move x i=>
  obtain⟨h1,h2⟩:=h;simp only[HG,Am.B8];rw[lA (Decidable.not_not.mpr h1),lA (Decidable.not_not.mpr ⟨by omega,by omega⟩)]
 |turn lo hi=>
  obtain⟨h1,h2⟩:=h;simp only[HG,Am.B8];rw[lA (Decidable.not_not.mpr ⟨by omega,by omega⟩),lA (Decidable.not_not.mpr ⟨by omega,by omega⟩)]
theorem Mu:¬ Str.ofString "put"=Str.ofString "move" := by decide +kernel
theorem nv{i:Int}(h:i.natAbs<2 ^ 1000):HI i:=by
 unfold HI
 by_cases z:i.natAbs=0
 .rw[z];decide
 .have:=(iw z).mpr h;omega
theorem Vd(h:i<=1000000):HI i:=nv (by
 have:(1000000:Nat)<2 ^ 1000:=by decide +kernel
 show Int.natAbs (i:Int)<_;rw[Int.natAbs_natCast];omega)
theorem LG(h:Nm x):Fb x:=⟨pJ h,by have:=h.2.1;omega⟩
theorem Am.Tf(h:d.say)(e:d.Is ns d'):∀x,d'=.take x∨(∃i,d'=.move x i)->Fb x:=by
 rintro x(rfl|⟨i,rfl⟩)
 .have q:=e.1;cases d with
  |take y=>simp[aP,dP]at q;subst q;exact h
  |_=>simp[aP,dP]at q
 .have q:=e.1;cases d with
  |move y j=>simp[aP,dP]at q;rw[<- q.1];exact h.1
  |put y j=>simp[aP,dP]at q;exact absurd q.1 Mu
  |_=>simp[aP,dP]at q
def Kk(C:Addr):DM:=λl R D=>∃(tp:Bool)(ns:List Str)(x:Str),l=[.sq tp (ns.map .str),.is (.str x)]/\Fb x/\(R=.is λp=>x∈ns/\p=.int (ns.idxOf x:Nat))/\D=λe=>x∉ns/\e=Ip C x
def X3(c:BW):DM:=λl R D=>∃(tp:Bool)(ns:List Str)(x:Str)(i:Int),l=[.sq tp (ns.map .str),.is (.str x),.is (.int i)]/\(Fb x/\HI i)/\(R=.is λp=>(Am.put x i).B8 c ns=none)/\D=λe=>(Am.put x i).B8 c ns=some e
def UB(c:BW):DM:=λl R D=>∃(tp:Bool)(ns:List Str)(x:Str)(i:Int),l=[.sq tp (ns.map .str),.is (.str x),.is (.int i)]/\(Fb x/\HI i)/\(R=.is λp=>(Am.move x i).B8 c ns=none)/\D=λe=>(Am.move x i).B8 c ns=some e
def Xj(c:BW):DM:=λl R D=>∃(tp:Bool)(ns:List Str)(lo hi:Int),l=[.sq tp (ns.map .str),.is (.int lo),.is (.int hi)]/\(HI lo/\HI hi)/\(R=.is λp=>(Am.turn lo hi).B8 c ns=none)/\D=λe=>(Am.turn lo hi).B8 c ns=some e
def TL(c:BW):DM:=λl R D=>∃(tp:Bool)(ns:List Str)(d:Am),l=[.sq tp (ns.map .str),.is (aP d)]/\d.say/\(R=.is λp=>d.B8 c ns=none)/\D=λe=>d.B8 c ns=some e
def XE:Pre:=λl R=>∃(g i:Nat),l=[.is (.int g),.is (.int i)]/\R=.is λp=>p=.int (D0 i g:Nat)
def SJ:Pre:=λl R=>∃(g i:Nat),l=[.is (.int g),.is (.int i)]/\R=.is λp=>p=.int (IC i g:Nat)
def XZ:Pre:=λl R=>∃(tp:Bool)(ns:List Str)(g:Int),l=[.sq tp (ns.map .str),.is (.int g)]/\R=.is λp=>p=.bl (decide (inR g 0 ns.length))
def TV:Pre:=λl R=>∃(tp:Bool)(ns:List Str)(g:Nat)(d:BG),l=[.sq tp (ns.map .str),.is (.int g),.is (dP d)]/\d.Ok 40 ns/\(∀x,d=.take x∨(∃i,d=.move x i)->Fb x)/\R=.is λp=>p=.int (d.gap ns g:Nat)
def Si(c:BW):DM:=λl R D=>∃(tp:Bool)(ns:List Str)(d:Am),l=[.sq tp (ns.map .str),.is (aP d)]/\d.say/\ns.length<=40/\(R=.new λxs=>∃d':BG,d.Is ns d'/\xs=(d'.done ns).map .str)/\D=λe=>d.B8 c ns=some e
def Wh:Pre:=λl R=>∃(tp:Bool)(ns:List Str)(x:Str)(i:Nat),l=[.sq tp (ns.map .str),.is (.str x),.is (.int i)]/\ns.length<=1000/\R=.new λxs=>xs=(ins ns x i).map .str
def Wv:Pre:=λl R=>∃(tp:Bool)(ns:List Str)(x:Str),l=[.sq tp (ns.map .str),.is (.str x)]/\ns.length<=1000/\R=.new λxs=>xs=(wo ns x).map .str
def Wm:Pre:=λl R=>∃(tp:Bool)(ns:List Str)(lo hi:Nat),l=[.sq tp (ns.map .str),.is (.int lo),.is (.int hi)]/\ns.length<=1000/\lo<=hi/\hi<=ns.length/\R=.new λxs=>xs=(Bz ns lo hi).map .str
theorem kE{k:Nat}(h:k<ns.length):∃x,x∈ns/\L2.BZ (ns.map PV.str) (k:Int)=some (.str x):=
 ⟨ns[k],Hw h,Ib (by rw[Bp,Bb h];rfl)⟩
section
variable[Xw]
theorem om(hi:ss[i]?=some .AQ)(h:Wp ss te λx=>∃m,x=.int m/\0<=m/\m<=100/\∀ns:List Str,(ns.length:Int)=m->(∀x∈ns,Nm x)->ns.Nodup->k (ns.map PV.str)):Wn ss (Ep RD [] E0 (BH (Cg i) (BH te Bl))) k:=⟨λE Z F H Q S q=>by
 obtain⟨p,e,_⟩:=S.ok i _ hi;refine⟨_,e,h.go E Z F H _ S λv x F1 H1 a r⟨m,j,d,K7,kk⟩=>?_⟩;subst j;cases r.inv;refine⟨p,m,rfl,a.st.Gd hi e,d,K7,λl H2 ns b s C6 f g nd=>?_⟩;have c:=a.st.Mt hi e s;exact q l _ _ F1 H2 (a.trans c) (a.st.Cn b) (a.none b) C6 (Il ns) (kk ns f g nd)⟩
end
def Ny(c:BW)(e:Ex)(j:Nat)(v:PV):Prop:=(j=0/\∃x,v=.str x/\e=Ip c.noName x)∨(j=1/\∃x,v=.str x/\e=Ip c.there x)∨(j=2/\∃x,v=.str x/\e=Ip c.gone x)∨(j=3/\∃i,v=.int i/\e=Mw c.JZ i)∨(j=9/\v=.AB/\e=K0 c.full)
theorem lN(h:d.B8 c ns=some e):∃j v,Ny c e j v:=by
 cases d with
 |put x i=>
  simp only[Am.B8]at h;split at h
  .cases h;exact⟨0,_,.inl ⟨rfl,x,rfl,rfl⟩⟩
  .split at h
   .cases h;exact⟨1,_,.inr (.inl ⟨rfl,x,rfl,rfl⟩)⟩
   .split at h
    .cases h;exact⟨3,_,.inr (.inr (.inr (.inl ⟨rfl,i,rfl,rfl⟩)))⟩
    .split at h
     .cases h;exact⟨9,_,.inr (.inr (.inr (.inr ⟨rfl,rfl,rfl⟩)))⟩
     .cases h
 |take x=>
  simp only[Am.B8]at h;split at h
  .cases h;exact⟨2,_,.inr (.inr (.inl ⟨rfl,x,rfl,rfl⟩))⟩
  .cases h
 |move x i=>
  simp only[Am.B8]at h;split at h
  .cases h;exact⟨2,_,.inr (.inr (.inl ⟨rfl,x,rfl,rfl⟩))⟩
  .split at h
   .cases h;exact⟨3,_,.inr (.inr (.inr (.inl ⟨rfl,i,rfl,rfl⟩)))⟩
   .cases h
 |turn lo hi=>
  simp only[Am.B8]at h;split at h
  .cases h;exact⟨3,_,.inr (.inr (.inr (.inl ⟨rfl,lo,rfl,rfl⟩)))⟩
  .split at h
   .cases h;exact⟨3,_,.inr (.inr (.inr (.inl ⟨rfl,hi,rfl,rfl⟩)))⟩
   .cases h
noncomputable def gk(e:Ex):PV:=.exc e.C e.ns e.xs
theorem is_none(h:d.Is ns d'):d.B8 c ns=none:=by
 obtain⟨e,hd⟩:=h;have:d=HG d':=by
  cases d <;> cases d' <;> simp[aP,dP]at e <;> first|(exact absurd e.1 Mu)|(exact absurd e.1.symm Mu)|(obtain⟨a,b⟩:=e;subst a;subst b;rfl)|(subst e;rfl)
 rw[this];exact cW hd
theorem Is.pj(h:d.say)(e:d.Is ns d'):(∀x,d'=.take x->Fb x)/\∀x i,d'=.move x i->Fb x:=⟨λx q=>Am.Tf h e x (.inl q),λx i q=>Am.Tf h e x (.inr ⟨i,q⟩)⟩
noncomputable def D4(r:Str)(g:Int)(cs:List Str):PV:=.tup [.str r,.int g,.tup (cs.map .str)]
def Ef(ns:List Str)(r:Str)(g:Int)(cs:List Str):Bool:=Mg r && (decide (inR g 0 ns.length) && Jz ns cs)
theorem zH(h:Jz ns cs=true):Up cs/\∀x∈cs,x∈ns:=by
 unfold Jz at h;split at h
 .next c=>
  refine⟨lY c,λx hx=>?_⟩;rw[Ec]at h;exact lY (h _ (List.mem_map.mpr ⟨x,hx,rfl⟩))
 .cases h
theorem wI(h:Up cs)(h2:∀x∈cs,x∈ns):Jz ns cs=true:=by
 unfold Jz;rw[lO (lD h),Ec];intro b a;obtain⟨x,hx,rfl⟩:=List.mem_map.mp a;exact lD (h2 x hx)
theorem Vh(h:Ef ns r g cs=true):∃n:Nat,g=n/\BK ns r n cs:=by
 unfold Ef at h;rw[CG,CG]at h;obtain⟨h1,h2,c⟩:=h;have h2:inR g 0 ns.length:=lY h2;obtain⟨a,b⟩:=h2;obtain⟨n,rfl⟩:=Ie a;obtain⟨u,v⟩:=zH c;exact⟨n,rfl,⟨lY h1,a,b,u,v⟩⟩
theorem fY(h:BK ns r n cs):Ef ns r n cs=true:=by
 unfold Ef Mg;rw[lD (show r∈([("none":Str), "ahead","all"])from h.rule),lD (show inR n 0 ns.length from⟨h.g0,h.g1⟩),wI h.up h.sub];rfl
theorem mr(ns:List Str)(r:Str)(g:Int)(cs:List Str):El ns r g cs=Ef ns r g cs:=by
 rw[Eb];constructor
 .intro h;unfold El Ij Kv NL at h;simp only[CG,m9,Ec]at h;obtain⟨h1,⟨h2,c⟩,b,a⟩:=h;obtain⟨n,rfl⟩:=Ie h2;exact fY ⟨h1,h2,c,b,a⟩
 .intro h;obtain⟨n,rfl,gd⟩:=Vh h;exact gd.El
section
variable[Xw]
variable{K:ZE7}{tb:TE}{k:PV->Prop}
theorem bM{v:V}(h:Rep F v (D4 r g cs)):∃t c,v=.ref t/\JD F t c r g cs:=by
 obtain⟨_,_,rfl,e,q⟩:=h.inv;obtain⟨_,_,rfl,a,q⟩:=q.inv;obtain⟨_,_,rfl,b,q⟩:=q.inv;obtain⟨_,_,rfl,c,q⟩:=q.inv;cases q;cases a;cases b;obtain⟨_,_,rfl,d,f⟩:=c.inv;rw[f.strs]at d;exact⟨_,_,rfl,e,d⟩
theorem cu(h:Wq ss ta λtp xs=>tp=false/\∃ns:List Str,xs=ns.map PV.str/\Wp ss tb λp=>∃(r:Str)(g:Int)(cs:List Str),p=D4 r g cs/\cs.length<64/\k (.bl (Ef ns r g cs))):
  Wp ss (Ep (Vn K) [] E0 (BH ta (BH tb Bl))) k:=⟨λE Z F H Q S q=>
 h.go E Z F H _ S λv tp xs F1 H1 b sv⟨m,ns,ex,h2⟩=>h2.go E Z F1 H1 _ b.st λn p2 F2 H2 a e⟨r,g,cs,ep,i,kk⟩=>by
  subst m;subst ex;subst ep;obtain⟨l,vs,j,c,d⟩:=(sv.mv a).seq a.st;subst j;rw[d.strs]at c;obtain⟨tl,o,rfl,f⟩:=bM e;refine⟨l,ns,tl,r,g,cs,rfl,AO.of c,(f.same a.st.fh).h.at,i,λH3 s=>?_⟩;rw[mr];exact q _ _ F2 H3 (b.trans (a.trans (a.st.grow s))) (.bl _) kk⟩
theorem ZBZ{t c:Addr}(h:JD F t c r g cs):Rep F (.ref t) (D4 r g cs):=
 .tup h.1 (.cons (.str r) (.cons (.int g) (.cons (.tup h.2 (Il cs)) .nil)))
theorem eP(hi:ss[i]?=some .AQ)(h:Wq ss ta λtp xs=>tp=false/\∃ns:List Str,xs=ns.map PV.str/\(∀x∈ns,Nm x)/\ns.length<=40/\Wp ss tb λp=>∃(r:Str)(g:Int)(cs:List Str),p=D4 r g cs/\cs.length<=40/\∀(r:Str)(g:Int)(cs:List Str),cs.length<60->k (D4 r g cs)):
  Wp ss (Ep (Tu K) [] E0 (BH (Cg i) (BH ta (BH tb Bl)))) k:=⟨λE Z F H Q S q=>by
 obtain⟨p,e,_⟩:=S.ok i _ hi;refine⟨_,e,h.go E Z F H _ S λv tp xs F1 H1 f sv⟨M,ns,ex,J,D,h2⟩=>h2.go E Z F1 H1 _ f.st λN p2 F2 H2 a w⟨r,g,cs,ep,d,kk⟩=>?_⟩;subst M;subst ex;subst ep;obtain⟨l,vs,L,hn,j,u⟩:=sv.mv a;subst L;rw[u.strs]at j;obtain⟨tl,o,rfl,b⟩:=bM w;have A:ET ss Z tl:=a.st.Pu b.1;have y:ET ss Z o:=a.st.Pu b.2;refine⟨p,l,tl,ns,r,g,cs,rfl,a.st.Gd hi e,j,λz=>hn i hi (z▸e),J,D,⟨o,λz=>A i hi (z▸e),λz=>y i hi (z▸e),a.st.fh _ _ b.1,a.st.fh _ _ b.2⟩,d,λt c r g cs H3 G d s n m I=>?_⟩;have C:=(a.st.Mt hi e s).adopt a.st d m;have B:=C.adopt a.st G n;refine q _ _ _ H3 (f.trans (a.trans B)) (ZBZ (c:=c) ⟨AZ,?_⟩) (kk r g cs I)
 by_cases z:c=t
 .subst z;rw[AZ];exact n.symm.trans m
 .rw[As z,AZ]⟩
theorem sL{k:List PV->Prop}(h:Wp ss ta λp=>∃cs:List Str,p=.tup (cs.map .str)/\Wp ss tb λq=>∃ys:List Str,q=.tup (ys.map .str)/\ys≠[]/\(cs++ys).length<64/\∀CK:List Str,CK.Perm (cs++ys)->sortedS CK=true->k (CK.map PV.str)):Wn ss (DA (Te K) (BH (Bo (iD K) ta tb) Bl)) k:=⟨λE Z F H Q S q=>
 h.go E Z F H _ S λv p F1 H1 i r⟨cs,e,h2⟩=>h2.go E Z F1 H1 _ i.st λA p2 F2 H2 d o⟨ys,y,u,j,kk⟩=>by
  subst e;subst y;cases r with
  |@tup a vs _ f1 s1=>
   cases o with
   |@tup b ws _ m s2=>
    rw[s1.strs]at f1;rw[s2.strs]at m;rw[Bh]at j;refine⟨a,b,_,_,rfl,rfl,Al.of (d.st.fh _ _ (d.ff _ _ f1)),Al.of (d.st.fh _ _ m),λz=>u (by simpa using z),small (by rw[Aw,Aw];omega),λc H3 s l=>?_⟩
    have f:=d.st.grow s;rw[<- EG]at l;refine⟨c,true,cs++ys,rfl,l,by rw[Bh];exact j,λa CK g x w=>?_⟩;have t:=f.st.make g (.lst (CK.map V.str));have n:=i.trans (d.trans f);exact q a _ _ F2 _ (n.trans t) (f.st.Cn g) (n.none g) AZ (Il CK) (kk CK x w)⟩
end
def XY(C:Addr)(ns:List Str)(r:Str)(g:Int)(cs:List Str)(e:Ex):Prop:=Ef ns r g cs=false/\e=K0 C
def VS:Pre:=λl R=>∃(tp:Bool)(ns:List Str)(r:Str)(g:Int)(cs:List Str),l=[.sq tp (ns.map .str),.is (D4 r g cs)]/\cs.length<64/\R=.is λp=>p=.bl (Ef ns r g cs)
def Oo(C:Addr):DM:=λl R D=>∃(tp:Bool)(ns:List Str)(r:Str)(g:Int)(cs:List Str),l=[.sq tp (ns.map .str),.is (D4 r g cs)]/\cs.length<64/\(R=.is λp=>Ef ns r g cs=true)/\D=XY C ns r g cs
def P1:Pre:=λl R=>∃(tp:Bool)(ns:List Str)(r:Str)(g:Int)(cs:List Str),l=[.sq tp (ns.map .str),.is (D4 r g cs)]/\ns.length<=1000/\R=.new λxs=>xs=(ns.filter (EX cs)).map .str
def XU(C:Addr):DM:=λl R D=>∃(tp:Bool)(ns:List Str)(r:Str)(g:Int)(cs:List Str),l=[.sq tp (ns.map .str),.is (D4 r g cs)]/\cs.length<64/\ns.length<=1000/\(R=.new λxs=>∃n:Nat,g=n/\BK ns r n cs/\xs=(Di ns n cs).map .str)/\D=XY C ns r g cs
def Qc:Pre:=λl R=>∃(cs:List Str)(x:Str),l=[.is (.tup (cs.map .str)),.is (.str x)]/\cs.length<=1000/\R=.is λp=>p=.tup ((wo cs x).map .str)
def Sw:Pre:=λl R=>∃(tp:Bool)(ns:List Str)(r:Str)(g:Nat)(cs:List Str)(x:Str),l=[.sq tp (ns.map .str),.is (D4 r g cs),.is (.str x)]/\cs.length<=1000/\Fb x/\x∈ns/\R=.is λp=>p=E2 r (ns.idxOf x+1) (wo cs x)
def Xb(C:Addr):DM:=λl R D=>∃(tp:Bool)(ns:List Str)(r:Str)(g:Int)(cs:List Str),l=[.sq tp (ns.map .str),.is (D4 r g cs)]/\cs.length<64/\ns.length<=1000/\(∀x∈ns,Fb x)/\(R=.is λp=>∃n:Nat,g=n/\BK ns r n cs/\p=Ml ns r n cs)/\D=XY C ns r g cs
def Us:Pre:=λl R=>∃(r:Str)(g i:Nat)(xs:List PV),l=[.is (.tup (.str r :: .int g::xs)),.is (.int i)]/\R=.is λp=>p=.bl (CQ r g i)
def VA:Pre:=λl R=>∃(r:Str)(g:Nat)(cs:List Str)(d:BG),l=[.is (D4 r g cs),.is (dP d)]/\cs.length<=60/\Up cs/\(∀x i,d=.put x i->x∉cs)/\R=.is λp=>p=.tup ((d.M0 r g cs).map .str)
def UZ:Pre:=λl R=>∃(tp:Bool)(ns:List Str)(r:Str)(g:Nat)(cs:List Str)(d:BG),l=[.sq tp (ns.map .str),.is (D4 r g cs),.is (dP d)]/\d.Ok 40 ns/\BK ns r g cs/\ns.length<=40/\(∀x,d=.take x∨(∃i,d=.move x i)->Fb x)/\R=.is λp=>p=E2 r (d.gap ns g) (d.M0 r g cs)
theorem BK.step{g:Nat}(h:BK ns r g cs):BK ns r (Hz ns g cs:Nat) (Io ns g cs):=by
 unfold Hz Io;cases e:CC ns g cs with
 |none=>exact h
 |some x=>
  have c:x∈Di ns g cs:=by
   unfold CC at e;exact ZCw (by rw[e];rfl)
  obtain⟨a,d⟩:=KZ.mp c;have:=List.idxOf_lt_length_iff.mpr a;exact⟨h.rule,by show(0:Int)<=((ns.idxOf x+1:Nat):Int);omega,by show((ns.idxOf x+1:Nat):Int)<=_;omega,OW x h.up,λy b=>h.sub y (DP.mp b).1⟩
theorem jM(h:Up cs)(n:Nat):Up (cs.take n):=List.Pairwise.sublist (iq n cs) h
structure BF (m:Nat) (ns:List Str):Prop where
 len:ns.length<=m
 nm:∀x∈ns,Nm x
 nd:ns.Nodup
theorem BF.done{d:BG}(h:BF m ns)(ok:d.Ok m ns):BF m (d.done ns):=by
 obtain⟨a,b,c⟩:=BG.step ok h.nd h.nm h.len;exact⟨c,b,a⟩
structure Lp where
 r:Str
 g:Nat
 cs:List Str
def Lp.P(l:Lp):PV:=E2 l.r l.g l.cs
def Lp.led(ns:List Str)(d:BG)(l:Lp):Lp:=⟨l.r,d.gap ns l.g,d.M0 l.r l.g l.cs⟩
def Lp.Ac(ns:List Str)(l:Lp):Lp:=⟨l.r,Hz ns l.g l.cs,Io ns l.g l.cs⟩
def Lp.Good(ns:List Str)(l:Lp):Prop:=BK ns l.r l.g l.cs
theorem aF{k:Nat}(h:k<3):∃r:Str,r∈Df/\L2.BZ [PV.str "none",.str "ahead",.str "all"] (k:Int)=some (.str r):=by
 have:k=0∨k=1∨k=2:=by omega
 rcases this with rfl|rfl|rfl
 .exact⟨_,by decide,rfl⟩
 .exact⟨_,by decide,rfl⟩
 .exact⟨_,by decide,rfl⟩
inductive Et where
 |Ac|Ao (d:Am)
def vX:Et->PV
 | .Ac=>.tup [.str "step"]
 | .Ao d=>aP d
def Et.say:Et->Prop
 | .Ac=>True
 | .Ao d=>d.say
noncomputable def toD:Am->BG
 | .put x i=>.put x i.toNat
 | .take x=>.take x
 | .move x i=>.move x i.toNat
 | .turn a b=>.turn a.toNat b.toNat
theorem rZ(h:d.Is ns d'):toD d=d':=by
 obtain⟨e,hd⟩:=h;have:d=HG d':=by
  cases d <;> cases d' <;> simp[aP,dP]at e <;> first|(exact absurd e.1 Mu)|(exact absurd e.1.symm Mu)|(obtain⟨a,b⟩:=e;subst a;subst b;rfl)|(subst e;rfl)
 subst this;cases d' <;> simp[HG,toD]
def tell(c:BW):List Str->Lp->List Et->Option (List (Option Str))
 |_,_,[]=>some []
 |ns,l,.Ac::t=>(tell c ns (l.Ac ns) t).map (CC ns l.g l.cs :: ·)
 |ns,l,.Ao d::t=>match d.B8 c ns with
  |some _=>none
  |none=>tell c ((toD d).done ns) (l.led ns (toD d)) t
def V3:Et->Bool
 | .Ac=>true
 |_=>false
theorem Q3{c:BW}:∀{es:List Et}{ns:List Str}{l:Lp}{a:List (Option Str)},tell c ns l es=some a->a.length=(es.filter V3).length
 | [],ns,l,a,h=>by cases h;rfl
 | .Ac::t,ns,l,a,h=>by
  rw[tell]at h;cases e:tell c ns (l.Ac ns) t with
  |none=>rw[e]at h;cases h
  |some b=>
   rw[e]at h;cases h;rw[C5,Q3 e];rfl
 | .Ao d::t,ns,l,a,h=>by
  rw[tell]at h;cases e:d.B8 c ns with
  |some x=>rw[e]at h;cases h
  |none=>rw[e]at h;rw[Q3 h];rfl
structure TI (c:BW) (Hq:List Str) (l0:Lp) (es:List Et) (i:Nat) (ns:List Str) (l:Lp) (acc:List (Option Str)):Prop where
 eq:tell c Hq l0 es=(tell c ns l (es.drop i)).map (acc++·)
 row:BF 40 ns
 gd:l.Good ns
 len:acc.length<=i
section
variable{Hq:List Str}{l0 l:Lp}{es:List Et}{acc:List (Option Str)}
theorem TI.zero(r:BF 40 ns)(g:l.Good ns):TI c ns l es 0 ns l []:=⟨by rw[RO];cases tell c ns l es <;> rfl,r,g,Az _⟩
theorem WR{es:List α}{e:α}(h:es[i]?=some e):es.drop i=e::es.drop (i+1):=by
 obtain⟨hi,rfl⟩:=List.getElem?_eq_some_iff.mp h;exact Y8 hi
theorem TI.Ac(h:TI c Hq l0 es i ns l acc)(a:es[i]?=some .Ac):TI c Hq l0 es (i+1) ns (l.Ac ns) (acc++[CC ns l.g l.cs]):=by
 refine⟨?_,h.row,(Ys h.gd).1,by rw[Bh];have:=h.len;show _+1<=_;omega⟩;rw[h.eq,WR a,tell];cases tell c ns (l.Ac ns) (es.drop (i+1))with
 |none=>rfl
 |some b=>simp
theorem TI.bad(h:TI c Hq l0 es i ns l acc)(a:es[i]?=some (.Ao d))(hd:d.B8 c ns=some e):tell c Hq l0 es=none:=by
 rw[h.eq,WR a,tell,hd];rfl
theorem TI.Ao(h:TI c Hq l0 es i ns l acc)(a:es[i]?=some (.Ao d))(hd:d.Is ns d'):TI c Hq l0 es (i+1) (d'.done ns) (l.led ns d') acc:=by
 refine⟨?_,h.row.done hd.2,BK.led h.gd hd.2 h.row.nd,by have:=h.len;omega⟩;rw[h.eq,WR a,tell,is_none hd,rZ hd]
theorem TI.fin(h:TI c Hq l0 es es.length ns l acc):tell c Hq l0 es=some acc:=by
 rw[h.eq,iQ,tell];show some (acc++[])=_;rw[Ji]
end
theorem UN:∀(a b:List (Option Str)),Ck (a.map C7) (b.map C7)=decide (a=b)
 | [],[]=>by rw[MT,Ck];rfl
 | [],_::_=>by rw[MT,LU _ _ (by simp)];simp
 |_::_,[]=>by rw[MT,LU _ _ (by simp)];simp
 |x::r,y::t=>by
  rw[G8,G8,OF,UN r t];have e:Bf (C7 x) (C7 y)=decide (x=y):=by
   cases x with
   |none=>cases y with
    |none=>simp[C7,Bf]
    |some y=>simp[C7,Bf]
   |some x=>cases y with
    |none=>simp[C7,Bf]
    |some y=>
     simp only[C7,Bf];rw[Eb];simp
  rw[e,Eb];simp
theorem aJ(a b:List (Option Str)):Bf (.lst (a.map C7)) (.lst (b.map C7))=decide (a=b):=by rw[Bf,UN]
theorem U3(K:ZE7)(n:Nat)(o:Option Str):dat K n (C7 o):=by cases o <;> cases n <;> trivial
theorem OH(K:ZE7)(n:Nat)(a:List (Option Str)):dat K (n+1) (.lst (a.map C7)):=λx hx=>by obtain⟨o,_,rfl⟩:=List.mem_map.mp hx;exact U3 K n o
theorem bZ(K:ZE7)(a b:List (Option Str)):dat K 40 (.tup [.lst (a.map C7),.lst (b.map C7)]):=λx hx=>by
 simp only[Dg,Cb,yk]at hx;rcases hx with rfl|rfl <;> exact OH K 38 _
theorem fD(K:ZE7)(n:Nat)(e:Et):dat K (n+1) (vX e):=by
 cases e with
 |Ac=>intro x hx;rw[List.mem_singleton.mp hx];cases n <;> trivial
 |Ao d=>cases d <;> (intro x hx;simp only[Dg,Cb,yk]at hx;rcases hx with rfl|rfl|rfl <;> cases n <;> trivial)
theorem Ti(xs:List α):EB xs none (some (-1))=xs.dropLast:=by
 unfold EB;rw[ZCp];show(xs.drop 0).take ((-1+(xs.length:Int)).toNat - 0)=_;rw[RO,YN]
 congr 1;omega
theorem Th{xs:List α}{x:α}(h:xs.getLast?=some x):L2.BZ xs (-1)=some x:=by
 obtain⟨a,rfl⟩:=List.getLast?_eq_some_iff.mp h;exact jj a x
theorem V1{β:Type}(f:α->β)(xs:List α):(xs.map f).dropLast=xs.dropLast.map f:=by rw[List.map_dropLast]
theorem ZCM(n:Nat)(x:α):(List.replicate n [x]).flatten=List.replicate n x:=by
 induction n with
 |zero=>rfl
 |succ n a=>rw[Jm,MP,a];rfl
theorem wy{a b:List α}{x y:α}(d:a.getLast?=some x)(c:b.getLast?=some y)(h:a.dropLast=b.dropLast):x≠y↔a≠b:=by
 obtain⟨f,rfl⟩:=List.getLast?_eq_some_iff.mp d;obtain⟨e,rfl⟩:=List.getLast?_eq_some_iff.mp c;rw[ZCo,ZCo]at h;subst h;simp
theorem Mk{a e d:Str}{g1 g2 f:Int}{c1 c2 c:List Str}(h1:BK ns a g1 c1)(h2:BK ns e g2 c2)(b:BK ns d f c):BK ns a g2 c:=⟨h1.rule,h2.g0,h2.g1,b.up,b.sub⟩
theorem ZAz{d ys:List Str}(h:BK ns r g cs)(hx:x∈ns)(c:ys=wo cs x∨(x∉cs/\ys=wo cs x++[x]))(f:d.Perm ys)(st:sortedS d=true):BK ns r g d:=by
 have hn:ys.Nodup/\∀y∈ys,y∈ns:=by
  have i:(wo cs x).Nodup:=Mc (OW x h.up);rcases c with rfl|⟨_,rfl⟩
  .exact⟨i,λy c=>h.sub y (DP.mp c).1⟩
  .refine⟨List.nodup_append.mpr ⟨i,il _ x,λa k b j e=>?_⟩,λy c=>?_⟩
   .rw[List.mem_singleton.mp j]at e;exact(DP.mp k).2 e
   .rcases List.mem_append.mp c with c|c
    .exact h.sub y (DP.mp c).1
    .rw[List.mem_singleton.mp c];exact hx
 exact⟨h.rule,h.g0,h.g1,Oe st (f.nodup_iff.mpr hn.1),λy c=>hn.2 y (f.mem_iff.mp c)⟩
def ak(s:Slot)(tp:Bool)(ns:List Str):Prop:=s=.sq tp (ns.map .str)∨(tp=false/\(s=.is (.lst (ns.map .str))∨s=.own (ns.map .str)))
section
variable[Xw]
theorem SS{s:Slot}{k:Bool->List PV->Prop}(hi:ss[i]?=some s)(h:ak s tp ns)(kk:k tp (ns.map .str)):Wq ss (Cg i) k:=by
 rcases h with rfl|⟨rfl,rfl|rfl⟩
 .exact B2 hi kk
 .exact En hi kk
 .exact FZ hi kk
end
noncomputable def RA(K:ZE7)(S:Addr)(c:BW):Bool:=PySem.W.exmOne K (.ref c.noName) (.ref S) == some true && (PySem.W.exmOne K (.ref c.there) (.ref S) == some true && (PySem.W.exmOne K (.ref c.gone) (.ref S) == some true && (PySem.W.exmOne K (.ref c.JZ) (.ref S) == some true && PySem.W.exmOne K (.ref c.full) (.ref S) == some true)))
theorem ZB6{K:ZE7}(h:RA K S c=true){v:PV}(g:Ny c e j v):PySem.W.exmOne K (.ref e.C) (.ref S)=some true:=by
 unfold RA at h;simp only[CG,yd]at h;obtain⟨x0,f,d,b,a⟩:=h;rcases g with⟨_,x,_,rfl⟩|⟨_,x,_,rfl⟩|⟨_,x,_,rfl⟩|⟨_,i,_,rfl⟩|⟨_,_,rfl⟩
 .exact x0
 .exact f
 .exact d
 .exact b
 .exact a
def Parts(c:BW)(ns:List Str)(l1 l2:Lp)(es:List Et)(a b:List (Option Str)):Prop:=
 es.length<=100/\es.getLast?=some .Ac/\tell c ns l1 es=some a/\tell c ns l2 es=some b/\a.dropLast=b.dropLast/\a≠b
structure Pb (ns:List Str) (l1 l2:Lp) (es:List Et):Prop where
 row:BF 40 ns
 g1:l1.Good ns
 g2:l2.Good ns
 say:∀e∈es,e.say
 len:es.length<=300
def Vc:Pre:=λl R=>∃(ns:List Str),l=[.AQ,.sq false (ns.map .str)]/\BF 40 ns/\R=.is λp=>∃l1 l2:Lp,p=.tup [l1.P,l2.P]/\l1.Good ns/\l2.Good ns
def W0:Pre:=λl R=>∃(a b:List (Option Str)),l=[.is (.lst (a.map C7)),.is (.lst (b.map C7))]/\a≠[]/\b≠[]/\R=.is λp=>p=.bl (decide (a.dropLast=b.dropLast/\a≠b))
end Fz
set_option maxHeartbeats 200000
namespace L2
section
variable{prog:Program}{w:World}{A:Around}{E:Value->Shared->Prop}{s:Shared}
theorem P9{v:Value}{Q:Bool->Shared->Prop}(a:s.TypeIs v "set")(h:Q true s):wpAny (model prog w) A (Builtin.Frozenset.isAnySet v) Q E s:=by
 unfold Builtin.Frozenset.isAnySet;refine jW (sT (b:=true) a (by rw[pO];kernel_rfl) ?_);exact kA h
theorem wg{a:Addr}{o:Obj}{es:Array (Int×Value)}{ep:Nat}{t:SetTable}{Q:Array (Int×Value)->Shared->Prop}(ho:s.heap.get? a=some o)(hd:o.data=.set es ep t)(c:t.fits es.size=true)(Dq:t.led=!C0 w)(K3:C0 w=false->(!t.plain && decide (es.size > 1))=false)
  (h:∀Bv:Array (Int×Value),Bv.toList.Perm es.toList->Q Bv s):wpAny (model prog w) A (setWalk a) Q E s:=by
 unfold setWalk setsByText;refine jW (mn ho hd c ?_);dsimp only;refine jW (jW (rL (kA ?_)));show wpAny _ _ (if C0 w=true then _ else _) _ _ _
 cases b:C0 w with
 |true=>
  rw[lO rfl];exact jW (rL (kA (h _ (PM _ _))))
 |false=>
  rw[lA (by decide)];show wpAny _ _ (if(!t.plain && decide (es.size > 1))=true then _ else _) _ _ _
  rw[lA (by rw[K3 b];decide)];refine jW (m:=_) ?_
  wp_delta
  rw[Dq,b];exact kA (kA (h es (Ig _)))
end
end L2
set_option maxHeartbeats 4000000
set_option maxHeartbeats 400000
namespace L2
variable{ep i j mask n:Nat}{owner:Array (Option Nat)}{xs:List (Option Nat)}{α:Type}{prog:Program}{w:World}{A:Around}{E:Value->Shared->Prop}{s:Shared}{a r:Addr}{f:Str->Bool}{Q:Unit->Shared->Prop}{o so:Obj}{t:SetTable}
noncomputable def lp(mask:Nat)(p:Nat×Nat):Nat×Nat:=SetTable.leap mask p.1 p.2
def E6(mask:Nat):Nat->Nat×Nat->Nat×Nat
 | 0,p=>p
 |t+1,p=>E6 mask t (lp mask p)
theorem P6(mask a b:Nat)(p:Nat×Nat):E6 mask (a+b) p=E6 mask b (E6 mask a p):=by
 induction a generalizing p with
 |zero=>rw[j3];rfl
 |succ a c=>rw[show a+1+b=(a+b)+1 by omega];exact c _
theorem U9(mask t:Nat)(p:Nat×Nat):(E6 mask t p).2=p.2 / 32 ^ t:=by
 induction t generalizing p with
 |zero=>simp[E6]
 |succ t a=>
  show(E6 mask t (lp mask p)).2=_;rw[a];show p.2 / 32 / 32 ^ t=_;rw[Nat.div_div_eq_div_mul,Nat.pow_succ,iy]
theorem t5(t:Nat){p:Nat×Nat}(h:p.1<=mask):(E6 mask t p).1<=mask:=by
 induction t generalizing p with
 |zero=>exact h
 |succ t a=>exact a (RV (YM _ (YO _)))
theorem ZAQ(a i p:Nat)(h:SetTable.layClean.free mask owner a i p=none):∀t<a,(owner.getD (E6 mask t (i,p)).1 (some 0)).isNone=false:=by
 induction a generalizing i p with
 |zero=>intro t d;omega
 |succ a c=>
  intro t d;unfold SetTable.layClean.free at h;cases b:(List.range (SetTable.runEnd mask i+1 - i)).find? λk=>(owner.getD (i+k) (some 0)).isNone with
  |some k=>rw[b]at h;cases h
  |none=>
   rw[b]at h;cases t with
   |zero=>
    have q:=List.find?_eq_none.mp b 0 (by rw[List.mem_range];unfold SetTable.runEnd;split <;> omega)
    exact Bool.eq_false_iff.mpr (by simpa[E6]using q)
   |succ t=>exact c _ _ h t (by omega)
def good(mask:Nat):Bool:=(E6 mask (mask+1) (0,0)).1 == 0 && (List.range (mask+1)).all λj=>(List.range (mask+1)).any λt=>(E6 mask t (0,0)).1 == j
theorem dF:[7,15,31,63,127].all good=true:=by decide +kernel
theorem yw(c:good mask=true)(hi:i<=mask)(d:j<=mask):∃t,t<=mask/\(E6 mask t (i,0)).1=j:=by
 unfold good at c;rw[CG,yd,Ec]at c;obtain⟨h,h1⟩:=c;have at':∀j,j<=mask->∃t,t<=mask/\(E6 mask t (0,0))=(j,0):=λj d=>by
  have q:=h1 j (List.mem_range.mpr (by omega));rw[OL]at q;obtain⟨t,g,e⟩:=q;rw[List.mem_range]at g;rw[yd]at e;exact⟨t,by omega,YR e (by rw[U9];simp)⟩
 obtain⟨a,l,ea⟩:=at' i hi;obtain⟨b,k,f⟩:=at' j d
 by_cases m:a<=b
 .refine⟨b - a,by omega,?_⟩;rw[<- ea,<- P6,show a+(b - a)=b by omega,f]
 .refine⟨b+(mask+1) - a,by omega,?_⟩;have e0:E6 mask (mask+1) (0,0)=(0,0):=YR h (by rw[U9];simp);rw[<- ea,<- P6,show a+(b+(mask+1) - a)=(mask+1)+b by omega,P6,e0,f]
theorem mZ(h:Int):SetTable.bits h<2 ^ 64:=by
 unfold SetTable.bits;have h1:=Jh h (show(2 ^ 64:Int)≠0 by decide);have h2:=Jg h (show(0:Int)<2 ^ 64 by decide);omega
theorem z7(d:good mask=true){p:Nat}(hi:i<=mask)(b:p<2 ^ 64)(c:j<=mask)(hn:owner.getD j (some 0)=none):∃k,SetTable.layClean.free mask owner (SetTable.turns mask) i p=some k:=by
 cases h:SetTable.layClean.free mask owner (SetTable.turns mask) i p with
 |some k=>exact⟨k,rfl⟩
 |none=>
  have a:E6 mask 13 (i,p)=((E6 mask 13 (i,p)).1,0):=YR rfl (by
   rw[U9];exact Nat.div_eq_of_lt (Cu b (by decide)))
  obtain⟨t,f,e⟩:=yw d (t5 13 (p:=(i,p)) hi) c;have q:=ZAQ _ _ _ h (13+t) (by unfold SetTable.turns;omega);rw[P6,a,e,hn]at q;cases q
theorem y0(a i p k:Nat)(h:SetTable.layClean.free mask owner a i p=some k):owner.getD k (some 0)=none:=by
 induction a generalizing i p with
 |zero=>cases h
 |succ a c=>
  unfold SetTable.layClean.free at h;cases b:(List.range (SetTable.runEnd mask i+1 - i)).find? λk=>(owner.getD (i+k) (some 0)).isNone with
  |some d=>
   rw[b]at h;cases h;have q:=List.find?_some b
   simpa using q
  |none=>rw[b]at h;exact c _ _ h
theorem ZAc{v:Nat}(h:xs[j]?=some none):((xs.set j (some v)).filterMap id).Perm (v::xs.filterMap id):=by
 induction xs generalizing j with
 |nil=>cases h
 |cons x xs a=>
  cases j with
  |zero=>
   cases h;exact Ig _
  |succ j=>
   have q:=a (j:=j) (by simpa using h)
   cases x with
   |none=>exact q
   |some y=>exact(q.cons y).trans (List.Perm.swap _ _ _)
theorem ZAZ(h:(xs.filterMap id).length<xs.length):∃j:Nat,xs[j]?=some none:=by
 induction xs with
 |nil=>simp at h
 |cons x xs a=>
  cases x with
  |none=>exact⟨0,rfl⟩
  |some y=>
   obtain⟨j,b⟩:=a (by simpa using h)
   exact⟨j+1,by simpa using b⟩
theorem se(t:good mask=true)(b:Array Int)(r:b.size<=mask):∃owner,SetTable.layClean mask b=some owner/\owner.size=mask+1/\(owner.toList.filterMap id).Perm (List.range b.size):=by
 have f:∀(l:List Int)(owner:Array (Option Nat))(k:Nat),owner.size=mask+1->(owner.toList.filterMap id).Perm (List.range k)->k+l.length<=mask->
   ∃Ri,l.foldl (λacc h=>do
    let (owner,k) <- acc
    let j <- SetTable.layClean.free mask owner (SetTable.turns mask) (SetTable.bits h % (mask+1)) (SetTable.bits h)
    pure (owner.setIfInBounds j (some k),k+1)) (some (owner,k))=some (Ri,k+l.length)/\Ri.size=mask+1/\(Ri.toList.filterMap id).Perm (List.range (k+l.length)):=by
  intro l
  induction l with
  |nil=>intro owner k h1 h2 _;exact⟨owner,rfl,h1,h2⟩
  |cons h l g=>
   intro owner k h1 h2 u;rw[C5]at u;obtain⟨j,m⟩:=ZAZ (xs:=owner.toList) (by rw[h2.length_eq,RS,EC];omega);have s:j<owner.size:=by have:=(List.getElem?_eq_some_iff.mp m).1;simpa using this
   have q:owner.getD j (some 0)=none:=by
    rw[OJ]at m;rw[iJ,m];rfl
   obtain⟨c,o⟩:=z7 (owner:=owner) t (i:=SetTable.bits h % (mask+1)) (p:=SetTable.bits h) (RV (YM _ (YO _))) (mZ h) (show j<=mask by omega) q;have a:=y0 _ _ _ _ o;have w:owner.toList[c]?=some none:=by
    rw[OJ];rw[iJ]at a;cases e:owner[c]? with
    |none=>rw[e]at a;cases a
    |some y=>rw[e]at a;exact qz some a
   obtain⟨o',v,s',d⟩:=g (owner.setIfInBounds c (some k)) (k+1) (by simpa using h1) (by
    rw[Array.toList_setIfInBounds];refine(ZAc w).trans ?_;rw[List.range_succ];exact(h2.cons k).trans (List.perm_append_singleton k _).symm) (by omega)
   refine⟨o',?_,s',by rw[C5,show k+(l.length+1)=k+1+l.length by omega];exact d⟩;rw[Kz,C5,show k+(l.length+1)=k+1+l.length by omega,<- v]
   congr 1
   show(some (owner,k)).bind _=_;simp only[YQ,o];rfl
 obtain⟨o',e,s',d⟩:=f b.toList (Array.replicate (mask+1) none) 0 (by simp) (by
  rw[Array.toList_replicate];have:∀n,(List.replicate n (none:Option Nat)).filterMap id=[]:=λn=>by induction n with
   |zero=>rfl
   |succ n g=>rw[Jm];exact g
  rw[this];exact Ig _) (by simpa using r)
 refine⟨o',?_,s',by simpa using d⟩
 unfold SetTable.layClean;rw[<- Array.foldl_toList,e];rfl
theorem cg(f:good mask=true)(g mv:Nat)(ld pl:Bool)(b:Array Int)(d:b.size<=mask):∃t a,SetTable.laid mask g mv ld pl b=some (t,a)/\t.led=ld/\t.plain=pl/\t.mask=mask/\t.dummies=#[]/\t.place.size=b.size/\a.toList.Perm (List.range b.size):=by
 obtain⟨owner,e,s,p⟩:=se f b d;have c:((List.range (mask+1)).filterMap λj=>(owner.getD j none).map λx=>(j,x)).map (·.2)=owner.toList.filterMap id:=by
  rw[List.map_filterMap];have h:owner.toList=(List.range (mask+1)).map λj=>owner.getD j none:=by
   refine iR (by simp[s]) λn h1 h2=>?_;simp at h1;simp[iJ,h1]
  rw[h,ZCq]
  congr 1
  funext j
  show Option.map _ (Option.map _ (owner.getD j none))=owner.getD j none;cases owner.getD j none <;> rfl
 refine⟨_,_,by unfold SetTable.laid;rw[e];rfl,rfl,rfl,rfl,rfl,?_,?_⟩
 .have q:=qz List.length c;rw[Aw]at q;rw[Bi,Aw];exact q.trans (by rw[p.length_eq,RS])
 .show(List.map _ _).Perm _;rw[c];exact p
theorem N2[DecidableEq α]{l:List α}:∀{m:List α},l.Nodup->(∀k∈l,k∈m)->l.length<=m.length:=by
 induction l with
 |nil=>intro m _ _;exact CJ _
 |cons x r c=>
  intro m hn a;obtain⟨h1,h2⟩:=List.nodup_cons.mp hn;have hx:=a x Bc;have:=c (m:=m.erase x) h2 λk b=>(YE (λe:k=x=>h1 (e▸b))).mpr (a k (By _ b));rw[MR hx]at this;have:=ib hx;rw[C5];omega
theorem d9[DecidableEq α]{ds A B:List α}{k:α}(nd:ds.Nodup)(b:∀x∈ds,x∈A++k::B)(a:(A++k::B).length<=ds.length):k∉A++B:=by
 intro c;have q:=N2 (m:=A++B) nd λx hx=>by
  rcases List.mem_append.mp (b x hx)with h|h
  .exact List.mem_append.mpr (.inl h)
  .rcases List.mem_cons.mp h with rfl|h
   .exact c
   .exact List.mem_append.mpr (.inr h)
 simp only[Bh,C5]at a q;omega
theorem BI.typeIs(h:BI prog w s.heap a f n):s.TypeIs (.ref a) "set" := by
 obtain⟨o,_,_,_,ho,b,_⟩:=h;exact⟨o,ho,b.1⟩
theorem nW{Q:Bool->Shared->Prop}(l:List Addr)(d:∀a∈l,∃f n,BI prog w s.heap a f n)(h:Q true s):wpAny (model prog w) A (setsQuiet l) Q E s:=by
 unfold setsQuiet;refine jW ?_;refine wpAny_forIn_list _ (λrest r s'=>s'=s/\r=(none,())/\∀a∈rest,∃f n,BI prog w s.heap a f n) _ ?_ ?_ _ _ ⟨rfl,rfl,d⟩
 .rintro a rest r s'⟨rfl,rfl,c⟩;obtain⟨f,n,o,es,ep,t,ho,j,hd,Ca,Cm,m,i,hn,Dq,BE⟩:=c a Bc;refine jW (xA ho hd i ?_);refine jW (ZCz _ (λrest r s2=>s2=s'/\r=(none,())/\∀e∈rest,∃k,(PySem.strKind prog w).is k e.2=true) _ ?_ ?_ _ _ ⟨rfl,rfl,Ca.keys⟩)
  .rintro⟨hh,x⟩ZDs r s2⟨rfl,rfl,MB⟩;obtain⟨k,g⟩:=MB _ Bc;obtain⟨tk,rfl⟩:=MX g;exact kA ⟨rfl,rfl,λe b=>MB e (By _ b)⟩
  .rintro r s2⟨rfl,rfl,_⟩;exact kA ⟨rfl,rfl,λe b=>c e (By _ b)⟩
 .rintro r s'⟨rfl,rfl,_⟩;exact kA h
theorem lF{es:Array (Int×Value)}{Q:Array (Int×Value)->Shared->Prop}{g:Str->Bool}{m:Nat}(k:BI prog w s.heap a f n)(i:BI prog w s.heap r g m)
  (ho:s.heap.get? a=some o) (hd:o.data=.set es ep t)
  (h:∀(Bv:Array (Int×Value))(h':Heap),Bv.toList.Perm es.toList->Heap.SameBut r s.heap h'->BI prog w h' r g m->Q Bv { s with heap:=h' }):wpAny (model prog w) A (setWalkUnseen a [r] (some r)) Q E s:=by
 have q:=k;obtain⟨o',Bv,J4,t',Cf,y,DF,Ca,Cm,C,j,hn,Dq,BE⟩:=k;rw[ho]at Cf;cases Cf;rw[hd]at DF;cases DF;unfold setWalkUnseen setsByText;refine jW (mn ho hd j ?_);dsimp only;refine jW (jW (rL (kA ?_)));show wpAny _ _ (if(C0 w || (t.led && t.plain) || decide (es.size<=1))=true then _ else _) _ _ _
 by_cases d:(C0 w || (t.led && t.plain) || decide (es.size<=1))=true
 .rw[lO d];refine wg ho hd j Dq (λG5=>?_) λBv l=>h Bv s.heap l (RL r s.heap) i;rw[G5]at d Dq;cases u:t.plain with
  |true=>rfl
  |false=>
   rw[u]at d;simp only[Jf,Bool.or_false,Bool.false_or,m9]at d;simp only[Bool.not_false,Ky,ZBT];omega
 .rw[lA d];refine jW (nW _ (λx hx=>?_) ?_)
  .simp only[Dg,Cb,yk]at hx;rcases hx with rfl|rfl
   .exact⟨_,_,q⟩
   .exact⟨_,_,i⟩
  rw[lA (by decide)];refine jW (ZA8 ?_);obtain⟨p,JS,Z1,e,DC,c,b,Xc,Uz,RC,Nr,Iy,Tq,TN⟩:=i;refine jW (mn DC b Nr ?_);dsimp only;have v:t.led=true:=by
   rw[Dq];cases B:C0 w with
   |false=>rfl
   |true=>rw[B]at d;simp at d
  split
  .refine jW (uO DC b ?_ (ue RC));refine kA (h es _ (Ig _) (HK s.heap r _) ⟨_,JS,_,_,Kr DC b JS _,c,rfl,Xc,Uz,RC,Nr,Iy,?_,λz=>?_⟩)
   .show(e.led && t.led)=!C0 w;rw[v,Tq,RJ]
   .show(e.plain && t.plain)=false;rw[TN z,Y5]
  .exact kA (h es s.heap (Ig _) (RL r s.heap) ⟨p,JS,Z1,e,DC,c,b,Xc,Uz,RC,Nr,Iy,Tq,TN⟩)
def kv:Value->Str
 | .str k _=>k
 |_=>default
theorem N8{es:List (Int×Value)}(Ca:ElemsOf (PySem.strKind prog w) es)(k:Str):(∃e∈es,(PySem.strKind prog w).is k e.2=true)↔k∈es.map (kv ·.2):=by
 rw[List.mem_map];constructor
 .rintro⟨e,a,b⟩;obtain⟨t,c⟩:=MX b;exact⟨e,a,by rw[c];rfl⟩
 .rintro⟨e,a,rfl⟩;obtain⟨⟨k,b,_⟩,_⟩:=Ca e a;obtain⟨t,c⟩:=MX b;refine⟨e,a,?_⟩;rw[c];exact YV prog w _ t
theorem BI.cut{ds:List Str}{k:Str}{tk:Tok}{Q:Bool->Shared->Prop}(nd:ds.Nodup)(L:BI prog w s.heap a (λk=>decide (k∈ds)) ds.length)
  (M:k∉ds->Q false s)
  (h1:k∈ds->∀h',Heap.SameBut a s.heap h'->BI prog w h' a (λr=>decide (r∈ds.erase k)) (ds.erase k).length->Q true { s with heap:=h' }) :
  wpAny (model prog w) A (setDiscardHashed a (.str k tk) ((PySem.strKind prog w).hash k)) Q E s:=by
 obtain⟨o,es,ep,t,ho,m,hd,Ca,Cm,K,b,hn,Dq,BE⟩:=L;have R:(PySem.strKind prog w).is k (.str k tk)=true:=YV prog w k tk;have P:(Value.str k tk).scannable=true:=rfl;have f:∀k,k∈ds↔k∈es.toList.map (kv ·.2):=λk=>by rw[<- N8 Ca,<- Cm k,m9]
 unfold setDiscardHashed setFind setFindIn;refine jW (jW (mn ho hd b ?_));dsimp only;rw[byScan_of P K Ca];simp only[↓reduceIte];refine jW (ZA8 ?_);refine jW (wpAny_setScan_of R ho hd b Ca ?_);cases u:List.findIdx? (λe=>(PySem.strKind prog w).is k e.2) es.toList with
 |none=>
  dsimp only;refine kA ?_;dsimp only;refine kA (M λd=>?_);obtain⟨e,n,D⟩:=(N8 Ca k).mpr ((f k).mp d);have:=List.findIdx?_eq_none_iff.mp u e n;rw[D]at this;exact Bool.noConfusion this
 |some j=>
  dsimp only;refine kA ?_;dsimp only;obtain⟨l,PD,_⟩:=List.findIdx?_eq_some_iff_getElem.mp u;have d:k∈ds:=(f k).mpr ((N8 Ca k).mp ⟨_,Hw l,PD⟩);refine jW (mn ho hd b ?_);dsimp only;have U:j<es.size:=by simpa using l
  rw[j3];have q:(SetTable.eraseAt es j).toList=es.toList.take j++es.toList.drop (j+1):=by
   unfold SetTable.eraseAt;rw[Array.toList_append,ZCe,ZCe];simp;exact RU (by simp)
  have N:(SetTable.eraseAt es j).size=es.size - 1:=by
   rw[<- EC,q];simp;omega
  have sp:es.toList=es.toList.take j++es.toList[j]::es.toList.drop (j+1):=by
   rw[<- Y8 l,L7]
  have I:kv es.toList[j].2=k:=by
   obtain⟨t,O⟩:=MX PD;rw[O];rfl
  have i:es.toList.map (kv ·.2)=(es.toList.take j).map (kv ·.2)++k::(es.toList.drop (j+1)).map (kv ·.2):=by
   conv=>lhs;rw[sp]
   rw[EG,G8,I]
  have G:=d9 (k:=k) (A:=(es.toList.take j).map (kv ·.2)) (B:=(es.toList.drop (j+1)).map (kv ·.2)) nd (λx hx=>by rw[<- i];exact(f x).mp hx) (by rw[<- i,Aw,EC,hn];exact Az _)
  have C:(SetTable.eraseAt es j).size<scanBound:=by omega
  refine jW (uO ho hd ?_ (ue C));refine jW (wpAny_point ?_);have F:t.place.size=es.size:=UJ b;have H:t.fill<=t.mask:=by
   unfold SetTable.fits at b;rw[CG,m9]at b;exact b.2
  have v:t.place[j]?=some (t.place[j]'(by omega)):=Kx _;have g:t.drop j={ t with place:=SetTable.eraseAt t.place j,dummies:=SetTable.insertAt t.dummies (SetTable.below t.dummies (t.place[j]'(by omega))) (t.place[j]'(by omega)) }:=by
   unfold SetTable.drop;rw[v]
  have J:∀(xs:Array Nat)(p x:Nat),(SetTable.insertAt xs p x).size<=xs.size+1:=λxs p x=>by
   unfold SetTable.insertAt;simp;omega
  have pz:∀(xs:Array Nat)(p:Nat),p<xs.size->(SetTable.eraseAt xs p).size=xs.size - 1:=λxs p v=>by
   unfold SetTable.eraseAt;simp;omega
  have y:ElemsOf (PySem.strKind prog w) (SetTable.eraseAt es j).toList:=by
   rw[q];intro e n;refine Ca e ?_;rw[sp];rcases List.mem_append.mp n with h|h
   .exact List.mem_append.mpr (.inl h)
   .exact List.mem_append.mpr (.inr (By _ h))
  refine kA (h1 d _ (HK s.heap a _) ⟨_,SetTable.eraseAt es j,_,_,Kr ho hd _ _,m,rfl,?_,λr=>?_,C,?_,?_,?_,λz=>?_⟩)
  .exact y
  .rw[N8 y,q,EG,m9,nd.mem_erase_iff,f,i];constructor
   .rintro⟨AU,c⟩;rcases List.mem_append.mp c with h|h
    .exact List.mem_append.mpr (.inl h)
    .rcases List.mem_cons.mp h with h|h
     .exact absurd h AU
     .exact List.mem_append.mpr (.inr h)
   .intro c;refine⟨λe=>G (e▸c),?_⟩;rcases List.mem_append.mp c with h|h
    .exact List.mem_append.mpr (.inl h)
    .exact List.mem_append.mpr (.inr (By _ h))
  .rw[g];unfold SetTable.fits SetTable.fill;rw[CG,yd,m9];have T:=pz t.place j (by omega);have S:=J t.dummies (SetTable.below t.dummies (t.place[j]'(by omega))) (t.place[j]'(by omega));unfold SetTable.fill at H;refine⟨by show(SetTable.eraseAt t.place j).size=_;omega,?_⟩;show(SetTable.eraseAt t.place j).size+(SetTable.insertAt _ _ _).size<=t.mask;omega
  .rw[N,MR d,hn]
  .rw[g];exact Dq
  .rw[g];exact BE (by omega)
noncomputable def ZL(n:Nat):Bool:=[7,15,31,63,127].contains (SetTable.sizeAbove ((0+n) * 2) - 1) && decide (n<=SetTable.sizeAbove ((0+n) * 2) - 1) && decide (SetTable.sizeAbove ((0+n) * 2)<=128)
theorem mV:(List.range 64).all ZL=true:=by decide +kernel
section
structure Se (w:World) (h:Heap) (r:Addr) (n:Nat) (so:Obj) (ep:Nat) (t:SetTable):Prop where
 at':h.get? r=some so
 ex:so.ExactSet
 dt:so.data=.set #[] ep t
 pl:t.place=#[]
 dm:t.dummies=#[]
 ld:t.led=!C0 w
 gd:good t.mask=true
 rm:n<=t.mask
theorem Se.fits{h:Heap}(x:Se w h r n so ep t):t.fits (#[]:Array (Int×Value)).size=true:=by
 unfold SetTable.fits SetTable.fill;rw[x.pl,x.dm];simp
theorem kC(b:s.heap.get? r=some so)(hx:so.ExactSet)(hd:so.data=.set #[] 0 (.fresh 0 0 (!C0 w)))(k:n<64)
  (h:∀h' j ep t,Heap.SameBut r s.heap h'->Se w h' r n j ep t->Q () { s with heap:=h' }):wpAny (model prog w) A (setRoomFor r n) Q E s:=by
 have d:(SetTable.fresh 0 0 (!C0 w)).fits (#[]:Array (Int×Value)).size=true:=rfl;unfold setRoomFor;refine jW (mn b hd d ?_);dsimp only;have f:(SetTable.fresh 0 0 (!C0 w)).roomFor n=if(0+n) * 5>=7 * 3 then some ((0+n) * 2)else none:=rfl
 rw[f]
 by_cases hn:(0+n) * 5>=7 * 3
 .rw[lO hn];dsimp only;have q:=List.all_eq_true.mp mV n (List.mem_range.mpr k);unfold ZL at q;rw[CG,CG,m9,m9]at q;obtain⟨⟨c,i⟩,z⟩:=q;replace c:=List.all_eq_true.mp dF _ (List.contains_iff_mem.mp c);unfold setRelay;refine jW (mn b hd d ?_);dsimp only;have g:¬ SetTable.sizeAbove ((0+n) * 2) > sizeLine:=by
   have:128<=sizeLine:=by decide +kernel
   omega
  rw[lA g];obtain⟨t,a,y,x,B,e,v,u,p⟩:=cg c 0 ((SetTable.fresh 0 0 (!C0 w)).movedTo (SetTable.sizeAbove ((0+n) * 2) - 1)) (!C0 w) true #[] (CJ _);have o:(SetTable.fresh 0 0 (!C0 w)).relaid ((#[]:Array (Int×Value)).map (·.1)) ((0+n) * 2)=some (t,a):=by
   have l:(#[]:Array (Int×Value)).map (·.1)=#[]:=by simp
   rw[l];unfold SetTable.relaid;exact y
  refine jW ?_
  wp_delta
  rw[o];dsimp only;have m:a=#[]:=by
   have:=p.length_eq;simp at this;exact this
  subst m;rw[lA (by simp)];refine kA ?_;dsimp only;refine uO b hd ?_ (CJ _);exact h _ _ _ t (HK s.heap r _) ⟨Kr b hd _ _,hx,rfl,ZCc u,v,x,by rw[e];exact c,by rw[e];exact i⟩
 .rw[lA hn];dsimp only;exact kA (h s.heap so 0 _ (RL r s.heap) ⟨b,hx,hd,rfl,rfl,rfl,List.all_eq_true.mp dF 7 (by simp),by show n<=7;omega⟩)
theorem uw{b:Addr}{i:Sem Unit}(AU:r≠b)(p:s.heap.get? r=some so)(hx:so.ExactSet)(hd:so.data=.set #[] 0 (.fresh 0 0 (!C0 w)))
  (H:BI prog w s.heap b f n) (O:n<64) (h:∀h',Heap.SameBut r s.heap h'->BI prog w h' r f n->Q () { s with heap:=h' }):wpAny (model prog w) A (setMerge r b i) Q E s:=by
 obtain⟨o,es,ep,t,ho,G,D,Ca,Cm,g,u,hn,Dq,BE⟩:=H;unfold setMerge;rw[lA (by simpa using AU)]
 refine jW (mn ho D u ?_);dsimp only
 by_cases l:es.isEmpty=true
 .rw[lO l];have e0:es=#[]:=by simpa using l
  subst e0;exact kA (h s.heap (RL r s.heap) ⟨so,#[],0,_,p,hx,hd,Ca,Cm,g,rfl,hn,rfl,λz=>by simp at z⟩)
 .rw[lA l];have GW:0<es.size:=by
   rcases ZD0 es.size with z|z
   .exact absurd (by simpa using ZCc z) l
   .exact z
  refine jW (kC p hx hd (n:=es.size) (by omega) λh1 F I c Hr B=>?_);refine jW (mn (s:={ s with heap:=h1 }) B.at' B.dt B.fits ?_)
  dsimp only;have x:¬ (c.fill != 0)=true:=by unfold SetTable.fill;rw[B.pl,B.dm];simp
  by_cases v:(c.mask == t.mask && t.dummies.isEmpty)=true
  .have e:c.road t=.slotForSlot:=by unfold SetTable.road;rw[lA x,lO v]
   rw[e];dsimp only;refine uO (s:={ s with heap:=h1 }) B.at' B.dt ?_ (ue g)
   refine h _ (Hr.trans (HK h1 r _)) ⟨_,es,_,_,Kr B.at' B.dt _ _,B.ex,rfl,Ca,Cm,g,u,hn,?_,λz=>?_⟩
   .show(c.led && t.led)=!C0 w;rw[B.ld,Dq,Bool.and_self]
   .show(c.plain && t.plain)=false;rw[BE z,Jf]
  .have e:c.road t=.clean:=by unfold SetTable.road;rw[lA x,lA v]
   rw[e];dsimp only;obtain⟨t',a,N,M,L,K,J,C,y⟩:=cg B.gd c.finger c.moves (c.led && t.led) (c.plain && t.plain) (es.map (·.1)) (by rw[Array.size_map];exact B.rm)
   rw[Array.size_map]at C y;refine jW ?_
   wp_delta
   rw[N];dsimp only;have j:(a.filterMap (es[·]?)).toList.Perm es.toList:=by
    rw[Array.toList_filterMap];exact(y.filterMap _).trans (by rw[filterMap_getElem?_range])
   have d:(a.filterMap (es[·]?)).size=es.size:=by rw[<- EC,j.length_eq,EC]
   rw[lA (by rw[d];simp)];refine kA ?_;dsimp only;refine uO (s:={ s with heap:=h1 }) B.at' B.dt ?_ (ue (by rw[d];exact g))
   refine h _ (Hr.trans (HK h1 r _)) ⟨_,_,_,_,Kr B.at' B.dt _ _,B.ex,rfl,Ca.perm j,λk=>(Cm k).trans ⟨λ⟨e,m,q⟩=>⟨e,j.mem_iff.mpr m,q⟩,λ⟨e,m,q⟩=>⟨e,j.mem_iff.mp m,q⟩⟩,by rw[d];exact g,?_,d.trans hn,?_,λ_=>?_⟩
   .unfold SetTable.fits SetTable.fill;rw[J,C,d,K];have:=B.rm;simp;omega
   .rw[M,B.ld,Dq,Bool.and_self]
   .rw[L,BE GW,Jf]
theorem lE:entryFor table "set.__xor__"=some Builtin.«frozenset.__xor__»:=
 ZB8 (id' := "frozenset.__xor__") (by kernel_rfl) (by first|rfl|decide +kernel|(unfold String.splitOn;simp +decide [String.splitOnAux])) (by decide +kernel) (by kernel_rfl)
theorem mh{ZG:String}{fs d:List Str}(AU:r≠a)(T:fs.Nodup)(S:d.Nodup)(hz:fs.length+d.length+1<scanBound)
  (C:BI prog w s.heap a (λk=>decide (k∈fs)) fs.length) (X:BI prog w s.heap r (λk=>decide (k∈d)) d.length)
  (h:∀(h':Heap)(ds:List Str),ds.Nodup->(∀k,k∈ds↔¬ (k∈fs↔k∈d))->Heap.SameBut r s.heap h'->BI prog w h' r (λk=>decide (k∈ds)) ds.length->Q () { s with heap:=h' }) :
  wpAny (model prog w) A (Builtin.Frozenset.symmetricDifferenceUpdate ZG r (.ref a)) Q E s:=by
 unfold Builtin.Frozenset.symmetricDifferenceUpdate;rw[lA (by simpa using BJ AU)]
 dsimp only;refine jW (xB C.typeIs ?_);rw[lA (by decide)];refine jW (P9 C.typeIs ?_);rw[lO rfl];refine jW (kA ?_);refine jW (oV (a:=a) rfl ?_);have Jq:=C;obtain⟨o,es,ep,t,ho,W,hd,Ca,Cm,hb,K,hn,Dq,BE⟩:=Jq;refine jW (ZA3 ho hd K ?_);refine oK ?_;refine jW (lF C X ho hd λBv h1 m Hr Q9=>?_);have F:Bv.toList.length=es.size:=by rw[m.length_eq,EC]
 have Gs:∀k,k∈fs↔k∈Bv.toList.map (kv ·.2):=λk=>by
  have σ:ElemsOf (PySem.strKind prog w) Bv.toList:=Ca.perm m;rw[<- N8 σ,<- m9 (p:=k∈fs),Cm k];exact⟨λ⟨e,i,q⟩=>⟨e,m.mem_iff.mpr i,q⟩,λ⟨e,i,q⟩=>⟨e,m.mem_iff.mp i,q⟩⟩
 refine jW (ZCz _ (λrest _ s2=>∃(h2:Heap)(ds:List Str)(f:List Str),s2={ s with heap:=h2 }/\Heap.SameBut r s.heap h2/\ds.Nodup/\BI prog w h2 r (λk=>decide (k∈ds)) ds.length/\ds.length+rest.length<=d.length+fs.length/\
   Bv.toList.map (kv ·.2)=f++rest.map (kv ·.2)/\(∀k,k∈ds↔¬ (k∈f↔k∈d))/\∀e∈rest,e∈es.toList) _ ?_ ?_ _ _ ⟨h1,d,[],rfl,Hr,S,Q9,by rw[F,hn];exact Az _,rfl,λk=>by simp,λe i=>m.mem_iff.mp i⟩)
 .rintro⟨U,x⟩rest u s2⟨h2,ds,f,rfl,v,nd,Of,J,l,j,D⟩;obtain⟨⟨k,V,hh⟩,MD⟩:=Ca _ (D _ Bc);obtain⟨tk,rfl⟩:=MX V;have N:U=(PySem.strKind prog w).hash k:=hh;subst N;rw[C5]at J;have M:∀c,Heap.SameBut r s.heap c->c.get? a=some o:=λc Py=>by rw[Py.2 a (BJ AU)];exact ho
  have L:k∉f:=λIB=>by
   refine d9 (A:=f) (B:=rest.map (kv ·.2)) (k:=k) T (λx hx=>?_) ?_ (List.mem_append.mpr (.inl IB))
   .have q:=(Gs x).mp hx;rw[l]at q;exact q
   .have q:=qz List.length l;rw[Aw,F,hn]at q;exact YJ q.symm
  have g:∀(c:Heap)(KA:List Str),Heap.SameBut r s.heap c->KA.Nodup->BI prog w c r (λk=>decide (k∈KA)) KA.length->KA.length+rest.length<=d.length+fs.length->(∀b,b∈KA↔¬ (b∈f++[k]↔b∈d))->
    wpAny (model prog w) A (do Builtin.Frozenset.unchanged ZG a ep;pure (ForInStep.yield PUnit.unit)) (λP s'=>match P with | .yield Y=>(∃(h2:Heap)(ds:List Str)(f:List Str),s'={ s with heap:=h2 }/\Heap.SameBut r s.heap h2/\ds.Nodup/\BI prog w h2 r (λk=>decide (k∈ds)) ds.length/\ds.length+rest.length<=d.length+fs.length/\Bv.toList.map (kv ·.2)=f++rest.map (kv ·.2)/\(∀k,k∈ds↔¬ (k∈f↔k∈d))/\∀e∈rest,e∈es.toList) | .done Y=>False) E { s with heap:=c }:=by
   intro c KA Py O R DJ p1;unfold Builtin.Frozenset.unchanged;refine jW (jW (ZA3 (s:={ s with heap:=c }) (M c Py) hd K ?_))
   rw[lA (by simp)];refine kA ?_;exact kA ⟨c,KA,f++[k],rfl,Py,O,R,DJ,by rw[l,MO];rfl,p1,λe i=>D e (By _ i)⟩
  have mk:∀b:Str,b∈f++[k]↔b∈f∨b=k:=λb=>by rw[Ih,YG]
  have H:=j k;dsimp only;refine jW (oK ?_);refine jW (BI.cut (s:={ s with heap:=h2 }) nd Of (λLQ=>?_) λLQ c V6 Wc=>?_)
  .rw[lO (by decide)];refine jW (BI.put (s:={ s with heap:=h2 }) Of (by omega) λc V6 Wc=>?_)
   refine kA ?_;refine nY (g c (ds++[k]) (v.trans V6) ?_ (Wc.congr (λb=>?_) ?_) ?_ λb=>?_) (λr s' z=>?_) λ_ _ z=>z
   .rw[YH];exact⟨nd,List.nodup_cons.mpr ⟨by simp,RT⟩,λx hx y G=>by
     rw[YG]at G;subst G;exact λe=>LQ (e▸hx)⟩
   .by_cases e:b=k
    .subst e;simp
    .simp[e]
   .simp[LQ]
   .rw[Bh];simp only[C5,RQ];omega
   .rw[mk,Ih,YG]
    by_cases e:b=k
    .subst e;have:b∉d:=λn=>LQ (H.mpr λz=>L (z.mpr n));simp[this]
    .simp only[e,yk];exact j b
   .cases r with
    |yield _=>exact z
    |done _=>exact z.elim
  .rw[lA (by decide)];refine kA ?_;have I:=MR LQ;refine nY (g c (ds.erase k) (v.trans V6) (nd.erase k) Wc (by omega) λb=>?_) (λr s' z=>?_) λ_ _ z=>z
   .rw[mk,nd.mem_erase_iff]
    by_cases e:b=k
    .subst e;have n:b∈d:=RK λn=>H.mp LQ ⟨λz=>absurd z L,λz=>absurd z n⟩;simp[n]
    .simp only[e,yk,not_false_eq_true,true_and,ne_eq];exact j b
   .cases r with
    |yield _=>exact z
    |done _=>exact z.elim
 .rintro u s2⟨h2,ds,f,rfl,v,nd,Of,J,l,j,D⟩;refine kA (h h2 ds nd (λk=>?_) v Of);rw[j k,Gs k,l];simp
variable{X:Cx}
def bQ(P:Program)(w:World):V->V->Hp->VK->Prop:=λx y H Q=>∃(p q:Addr)(fs a:List Str),x=.ref p/\y=.ref q/\p≠q/\fs.Nodup/\a.Nodup/\fs.length<64/\a.length<64/\H p=some (Em P w p (λk=>decide (k∈fs)) fs.length)/\H q=some (Em P w q (λk=>decide (k∈a)) a.length)/\
 ∀(l:Addr)(ds:List Str),H l=none->ds.Nodup->(∀k,k∈ds↔¬ (k∈fs↔k∈a))->Q (.ref l) (upd H l (Em P w l (λk=>decide (k∈ds)) ds.length))
theorem xi:BA X (binaryOp .BitXor) (bQ X.prog X.w):=by
 intro Zd s Z H x y v u Q I E D h;obtain⟨p,q,fs,r,rfl,rfl,N,L,K,S,A,O,M,h⟩:=h;cases E;cases D;have c:BI X.prog X.w s.heap p _ fs.length:=(I.AN p _ O).1;have f:BI X.prog X.w s.heap q _ r.length:=(I.AN q _ M).1;refine wpAny_binaryOp_same (T:="set") (op:=.BitXor) c.typeIs f.typeIs F.fills_set_xor F.slot_set_xor (pH F.slot_set_xor c.typeIs lE ?_ (F.args_set_xor_2 _ _));unfold Builtin.«frozenset.__xor__»
 wp_delta
 refine jW (oV (a:=(Value.ref p,Value.ref q)) rfl ?_);dsimp only;rw[lA (by decide)];dsimp only;refine jW (jW (P9 c.typeIs ?_));refine P9 f.typeIs ?_;rw[lA (by decide)];refine jW (oV (a:=p) rfl ?_);refine jW ?_
 wp_delta
 refine jW ?_;unfold Builtin.Frozenset.baseOf;refine jW (sT (b:=true) c.typeIs (by rw[pO];kernel_rfl) ?_);refine kA ?_;rw[lO rfl];unfold Builtin.Frozenset.newFrom newSet setsByText;refine jW (jW (jW (jW (rL (kA ?_)))));dsimp only;refine nU ?_;show wpAny _ _ _ _ _ { s with heap:=s.heap.push { cls:=.type "set", data:=.set #[] 0 (.fresh 0 0 (!C0 X.w)) } }
 generalize k:({ cls:=.type "set", data:=.set #[] 0 (.fresh 0 0 (!C0 X.w)) }:Obj)=so;have G:(s.heap.push so).get? s.heap.objs.size=some so:=BR _ (by rw[<- k];rfl);have d:∀b o,s.heap.get? b=some o->(s.heap.push so).get? b=some o:=λb o e=>BC _ e;have l:BI X.prog X.w (s.heap.push so) p _ fs.length:=c.keep λo e=>d _ _ e;have j:BI X.prog X.w (s.heap.push so) q _ r.length:=f.keep λo e=>d _ _ e;have t:p<s.heap.objs.size:=by obtain⟨o,_,_,_,ho,_⟩:=c;exact B7 ho
 have C:q<s.heap.objs.size:=by obtain⟨o,_,_,_,ho,_⟩:=f;exact B7 ho
 refine jW (oV (a:=s.heap.objs.size) rfl ?_);refine jW (oK ?_);unfold Builtin.Frozenset.updateFrom;refine jW (P9 (s:={ s with heap:=s.heap.push so }) j.typeIs ?_)
 rw[lO rfl];refine jW (oV (a:=q) rfl ?_);unfold Builtin.Frozenset.merge;have J:=j;obtain⟨V,JS,Z1,U,DC,m,i,Xc,Uz,RC,Nr,Iy,Tq,TN⟩:=J;refine jW (ZA3 (s:={ s with heap:=s.heap.push so }) DC i Nr ?_)
 refine uw (s:={ s with heap:=s.heap.push so }) (Ii C) G (by rw[<- k];exact⟨rfl,rfl,rfl⟩) (by rw[<- k]) j A λh1 Hr B=>?_
 refine kA ?_;have R:BI X.prog X.w h1 p _ fs.length:=l.keep λo e=>by rw[Hr.2 p (BY t)];exact e
 refine jW (oV (a:=s.heap.objs.size) rfl ?_);refine jW (oK ?_);refine mh (s:={ s with heap:=h1 }) (Ii t) L K (by unfold scanBound;omega) R B λh2 ds nd P g Q9=>?_
 refine kA ?_;refine kA ⟨_,rfl,(λz=>nomatch z),?_⟩;have kp:∀b o,s.heap.get? b=some o->h2.get? b=some o:=λb o e=>by
  have n:=BY (B7 e);rw[g.2 b n];show h1.get? b=_;rw[Hr.2 b n];exact d _ _ e
 refine⟨.ref s.heap.objs.size,_,I.laid (t':=s.toks) kp (Az _) (show CU X.prog X.w _ h2 _ (Em X.prog X.w s.heap.objs.size _ _)from⟨Q9,?_,λh1 h2 l d=>l.keep d⟩),rfl,h _ ds (I.AN.fresh (Az _)) nd P⟩;obtain⟨o,_,_,_,ho,_⟩:=Q9;exact⟨o,ho⟩
end
end L2
set_option maxHeartbeats 4000000
namespace Fz
open L2 Lw
theorem xh{α:Type}[DecidableEq α]{l m:List α}(b:l.Nodup)(d:∀k∈l,k∈m)(c:m.length<=l.length):m.Nodup:=by
 induction m generalizing l with
 |nil=>exact RT
 |cons x r g=>
  by_cases hx:x∈r
  .have:=N2 b (λk a=>(List.mem_cons.mp (d k a)).elim (λe=>by rw[e];exact hx) id);rw[C5]at c;omega
  .refine List.nodup_cons.mpr ⟨hx,g (b.erase x) (λk a=>?_) ?_⟩
   .rcases List.mem_cons.mp (d k (List.mem_of_mem_erase a))with e|e
    .subst e;exact absurd a (List.Nodup.not_mem_erase b)
    .exact e
   .rw[C5]at c
    by_cases f:x∈l
    .rw[MR f];omega
    .rw[List.erase_of_not_mem f];omega
theorem dq(ns:List Str):(λa=>(dd ns).any (· == a))=λa=>decide (a∈dd ns):=by
 funext k
 rw[Eb,m9];simp
section
variable[Xw]
variable{E:Ent0}{ss:List Slot}{Z:L2.St}{F H F' H':Hp}{K:ZE7}{js:List Nat}{ta tb tc te:TE}{nx:List Slot->Prop}{R:BD}{xs ys:List PV}{P:Program}{w:World}
theorem jy{k : List PV -> Prop}(h : Wq ss ta λ_ xs => ∃ns : List Str, xs = ns.map PV.str /\ ns.length<64 /\ Wq ss tb λ_ ys => ∃c : List Str, ys = c.map PV.str /\ c.length<64 /\ ∃us : List Str, us.length<64 /\ (∀x ∈ns, x ∈us) /\ (∀x ∈c, x ∈us) /\
   ∀d:List Str,d.Nodup->(∀x,x∈d↔¬ (x∈ns↔x∈c))->sortedS d=true->k (d.map PV.str)):
  Wn ss (DA (Wx P w) (BH (Bo (bQ P w) (DA (λxs H Q=>∃(p:Addr)(tp:Bool)(ss:List Str),xs=[.ref p]/\ER K tp H p (ss.map V.str)/\ss.length<4000/\∀l,H l=none->Q (.ref l) (upd H l (Em P w l (λf=>(dd ss).any (· == f)) (dd ss).length))) (BH ta Bl))
   (DA (λxs H Q=>∃(p:Addr)(tp:Bool)(ss:List Str),xs=[.ref p]/\ER K tp H p (ss.map V.str)/\ss.length<4000/\∀l,H l=none->Q (.ref l) (upd H l (Em P w l (λf=>(dd ss).any (· == f)) (dd ss).length))) (BH tb Bl))) Bl)) k:=⟨λE Z F H Q S q=>
 h.go E Z F H _ S λv tp xs F1 H1 i sv⟨ns,e,R,h2⟩=>by
  subst e;obtain⟨l,vs,rfl,y,r⟩:=sv.seq i.st;rw[r.strs]at y;refine⟨l,tp,ns,rfl,FI.sq y,by omega,λa A=>?_⟩;have n:=i.st.make A (Em P w a (λf=>(dd ns).any (· == f)) (dd ns).length)
  refine h2.go E Z F1 _ _ n.st λσ Bt ys F2 H2 g K8⟨c,W,V2,us,hu,J,I,kk⟩=>?_;subst W;obtain⟨l2,N3,rfl,C6,M⟩:=K8.seq g.st;rw[M.strs]at C6;refine⟨l2,Bt,c,rfl,FI.sq C6,by omega,λu B=>?_⟩;have m:=g.st.make B (Em P w u (λf=>(dd c).any (· == f)) (dd c).length)
  have np:ET ss Z a:=i.st.Oq A;have g0:=g.hh a _ np (AZ (H:=H1) (a:=a) (o:=Em P w a (λf=>(dd ns).any (· == f)) (dd ns).length))
  have g1:=m.hh a _ np g0;have Y:a≠u:=λe=>by subst e;rw[B]at g0;cases g0
  rw[dq ns]at g1;refine⟨a,u,dd ns,dd c,rfl,rfl,Y,U8 ns,U8 c,HM (QX ns) R,HM (QX c) V2,g1,by rw[<- dq c];exact AZ,λD ds N C s=>?_⟩;have j:=m.st.make N (Em P w D (λk=>decide (k∈ds)) ds.length);have hd:∀x,x∈ds↔¬ (x∈ns↔x∈c):=λx=>by rw[s x,T6,T6]
  have dl:ds.length<=us.length:=N2 C λx hx=>by
   by_cases h1:x∈ns
   .exact J x h1
   .by_cases h2:x∈c
    .exact I x h2
    .exact absurd ⟨λz=>absurd z h1,λz=>absurd z h2⟩ ((hd x).mp hx)
  refine⟨D,_,_,rfl,AZ,by omega,λb d t L U T=>?_⟩;have O:=j.st.make t (.lst (d.map V.str));have G:∀x,x∈d↔x∈ds:=λx=>(U x).symm.trans (by simp);have X:=i.trans (n.trans (g.trans (m.trans (j.trans O))));exact q b _ _ F2 _ X (j.st.Cn t) ((i.trans (n.trans (g.trans (m.trans j)))).none t) AZ (Il d) (kk d (xh C (λx hx=>(G x).mpr hx) (YJ L)) (λx=>(G x).trans (hd x)) T)⟩
end
end Fz
set_option maxHeartbeats 400000
namespace Fz
open L2 Lw
variable{c:BW}{cs ns:List Str}{l l1 l2:Lp}{es t:List Et}{g hi i m:Nat}{f f1 r x y:Str}{a:List (Option Str)}
theorem JV{d:BG}(ok:d.Ok 40 ns):tell c ns l (.Ao (HG d)::t)=tell c (d.done ns) (l.led ns d) t:=by
 rw[tell,cW ok];have e:toD (HG d)=d:=by cases d <;> simp[HG,toD]
 rw[e]
theorem IT:tell c ns l [.Ac]=some [CC ns l.g l.cs]:=by rw[tell,tell];rfl
theorem d4(h:CC ns g cs=some x):x∈ns/\x∈cs:=KZ.mp (List.mem_of_head? h)
theorem yJ:CC [x] g cs=if x∈cs then some x else none:=by
 by_cases h:x∈cs
 .rw[lO h];cases e:CC [x] g cs with
  |none=>
   have q:=List.head?_eq_none_iff.mp e;have m:=(KZ (ns:=[x]) (g:=g) (ss:=cs) (x:=x)).mpr ⟨List.mem_singleton.mpr rfl,h⟩;rw[q]at m;cases m
  |some y=>rw[List.mem_singleton.mp (d4 e).1]
 .rw[lA h];cases e:CC [x] g cs with
  |none=>rfl
  |some y=>
   have q:=d4 e;rw[List.mem_singleton.mp q.1]at q;exact absurd q.2 h
theorem aY(h:ns[g]?=some x)(hx:x∈cs):CC ns g cs=some x:=by
 unfold CC Di;obtain⟨a,rfl⟩:=List.getElem?_eq_some_iff.mp h;rw[Y8 a,Y9,lO (show EX cs ns[g]=true from lD hx)];rfl
theorem Yc(h:y∈ns.drop g)(a:y∈cs):∃z,CC ns g cs=some z/\z∈ns.drop g:=by
 unfold CC Di;have m:y∈(ns.drop g).filter (EX cs):=List.mem_filter.mpr ⟨h,lD a⟩;cases e:(ns.drop g).filter (EX cs)with
 |nil=>rw[e]at m;cases m
 |cons z r=>exact⟨z,rfl,(List.mem_filter.mp (e▸Bc)).1⟩
theorem bq(nd:ns.Nodup)(h:ns[i]?=some x)(hi:i<g):x∉ns.drop g:=by
 intro b;obtain⟨j,a⟩:=List.mem_iff_getElem?.mp b;rw[YA]at a;obtain⟨h1,d⟩:=List.getElem?_eq_some_iff.mp h;obtain⟨h2,c⟩:=List.getElem?_eq_some_iff.mp a;have:=(iY (h₀:=h1) (h₁:=h2) nd).mp (d.trans c.symm);omega
theorem yz{l:List Str}(nd:l.Nodup)(h:∀y,y∈l↔y=x):l=[x]:=by
 cases l with
 |nil=>exact absurd ((h x).mpr rfl) (by simp)
 |cons a r=>
  have ea:=(h a).mp Bc;subst ea;cases r with
  |nil=>rfl
  |cons b r=>
   have c:=(h b).mp (By _ Bc);subst c;simp at nd
def D3(xs:List Str):List Et:=xs.map λx=>.Ao (.take x)
theorem Zy{c:BW}:∀(xs:List Str){ns:List Str}{l:Lp}(t:List Et),BF 40 ns->l.Good ns->xs.Nodup->(∀x∈xs,x∈ns)->∃a:Lp,BF 40 (xs.foldl wo ns)/\(∀y,y∈xs.foldl wo ns↔y∈ns/\y∉xs)/\(∀y,y∈a.cs↔y∈l.cs/\y∉xs)/\tell c ns l (D3 xs++t)=tell c (xs.foldl wo ns) a t
 | [],ns,l,t,ro,g,_,_=>⟨l,ro,λy=>by simp,λy=>by simp,rfl⟩
 |x::r,ns,l,t,ro,g,nd,hs=>by
  obtain⟨h1,h2⟩:=List.nodup_cons.mp nd;have ok:(BG.take x).Ok 40 ns:=hs x Bc;obtain⟨a,j,i,h,f⟩:=Zy (c:=c) r (ns:=wo ns x) (l:=l.led ns (.take x)) t (ro.done ok) (BK.led g ok ro.nd) h2 (λy b=>DP.mpr ⟨hs y (By _ b),λe=>h1 (e▸b)⟩);refine⟨a,j,λy=>?_,λy=>?_,?_⟩
  .rw[Kz,i y,DP,Dg];exact⟨λ⟨⟨p,q⟩,s⟩=>⟨p,λz=>z.elim q s⟩,λ⟨p,q⟩=>⟨⟨p,λz=>q (.inl z)⟩,λz=>q (.inr z)⟩⟩
  .rw[h y];show y∈wo l.cs x/\_↔_;rw[DP,Dg];exact⟨λ⟨⟨p,q⟩,s⟩=>⟨p,λz=>z.elim q s⟩,λ⟨p,q⟩=>⟨⟨p,λz=>q (.inl z)⟩,λz=>q (.inr z)⟩⟩
  .rw[Kz,<- f];exact JV (d:=.take x) ok
theorem Rp{xs:List Str}(a:BF 40 ns)(g:l.Good ns)(nd:xs.Nodup)(d:∀x∈xs,x∈ns)(hx:∀y,y∈ns/\y∉xs↔y=x):tell c ns l (D3 xs++[.Ac])=some [if x∈l.cs then some x else none]:=by
 obtain⟨m,k,j,i,f⟩:=Zy (c:=c) xs [.Ac] a g nd d;have e:xs.foldl wo ns=[x]:=yz k.nd λy=>(j y).trans (hx y);rw[f,e,IT,yJ];have q:=i x;have b:=(hx x).mpr rfl
 by_cases h:x∈l.cs
 .rw[lO h,lO (q.mpr ⟨h,b.2⟩)]
 .rw[lA h,lA λz=>h (q.mp z).1]
theorem Sb{α:Type}(a:List α)(x:α):(a++[x]).getLast?=some x:=by simp
theorem fV{p q:Prop}[Decidable p][Decidable q](h:¬ (p↔q)):[if p then some x else none]≠[if q then some x else none]:=by
 by_cases b:p <;> by_cases a:q
 .exact absurd ⟨λ_=>a,λ_=>b⟩ h
 .rw[lO b,lA a];simp
 .rw[lA b,lO a];simp
 .exact absurd ⟨λz=>absurd z b,λz=>absurd z a⟩ h
theorem BF.le{n:Nat}(h:BF m ns)(a:m<=n):BF n ns:=⟨Bq h.len a,h.nm,h.nd⟩
theorem dh(xs:List Str):(D3 xs).length=xs.length:=Aw _
theorem pC(d:BF 37 ns)(g1:l1.Good ns)(g2:l2.Good ns)(hx:x∈ns)(h:¬ (x∈l1.cs↔x∈l2.cs)):∃a b,Parts c ns l1 l2 (D3 (wo ns x)++[.Ac]) a b:=by
 have g:∀y,y∈ns/\y∉wo ns x↔y=x:=λy=>by
  rw[DP];refine⟨λ⟨p,q⟩=>RK λz=>q ⟨p,z⟩,λe=>?_⟩;subst e;exact⟨hx,λz=>z.2 rfl⟩
 have i:(wo ns x).length<=ns.length:=Jl _ _;have:=d.len;exact⟨_,_,by rw[Bh,dh];show _+1<=_;omega,Sb _ _,Rp (d.le (by decide)) g1 (PU d.nd) (λy f=>(DP.mp f).1) g,Rp (d.le (by decide)) g2 (PU d.nd) (λy f=>(DP.mp f).1) g,rfl,fV h⟩
theorem Vl(ns:List Str)(x:Str):ins ns x ns.length=ns++[x]:=by unfold ins;rw[L8,iQ]
theorem join_none(g i:Nat):CQ "none" g i=false:=rfl
theorem R6(g i:Nat):CQ "all" g i=true:=rfl
theorem Nl(g i:Nat):CQ "ahead" g i=decide (g<=i):=by
 show decide ((g:Int)<=(i:Int))=_;rw[Eb,m9,m9];omega
theorem LJ(h:r∈Df):r="none" ∨r="ahead" ∨r="all" := by
 unfold Df at h
 simpa using h
theorem Rc(a:BF 39 ns)(g:l.Good ns)(hn:Nm f)(b:f∉ns)(hi:i<=ns.length):tell c ns l (.Ao (.put f i)::D3 ns++[.Ac])=some [if CQ l.r l.g i=true then some f else none]:=by
 have m:=a.len;have ok:(BG.put f i).Ok 40 ns:=⟨hn,b,hi,by omega⟩;have e:=JV (c:=c) (l:=l) (d:=.put f i) (t:=D3 ns++[.Ac]) ok;refine e.trans ?_;have k:f∉l.cs:=λz=>b (g.sub f z);rw[Rp (x:=f) (l:=l.led ns (.put f i)) ((a.le (by decide)).done ok) (BK.led g ok a.nd) a.nd (λy j=>Km.mpr (.inr j)) (λy=>by
  show y∈ins ns f i/\_↔_;rw[Km];refine⟨λ⟨p,q⟩=>p.elim id λz=>absurd z q,λe=>⟨.inl e,λz=>b (e▸z)⟩⟩)]
 show some [if f∈(if CQ l.r l.g i=true then Bm l.cs f else l.cs)then some f else none]=_
 by_cases h:CQ l.r l.g i=true
 .rw[lO h,lO h,lO (IE.mpr (.inl rfl))]
 .rw[lA h,lA h,lA k]
theorem nB(d:BF 37 ns)(g1:l1.Good ns)(g2:l2.Good ns)(hn:Nm f)(j:f∉ns)(i:l1.r≠l2.r)(k:l1.r="none" ∨l2.r="none"):∃a b,Parts c ns l1 l2 (.Ao (.put f ns.length)::D3 ns++[.Ac]) a b:=by
 have m:=d.len;have h:∀{l:Lp},l.Good ns->(CQ l.r l.g ns.length=true↔l.r ≠"none"):=λ{l}g=>by
  rcases LJ g.rule with e|e|e
  .rw[e,join_none];simp
  .rw[e,Nl];have:=g.g1;simp only[m9];exact⟨λ_=>by decide,λ_=>by omega⟩
  .rw[e,R6];exact⟨λ_=>by decide,λ_=>rfl⟩
 refine⟨_,_,by rw[Bh,C5,dh];show _+1<=_;omega,Sb _ _,Rc (d.le (by decide)) g1 hn j (Az _),Rc (d.le (by decide)) g2 hn j (Az _),rfl,fV ?_⟩;rw[h g1,h g2];rcases k with e|e
 .rw[e];exact λz=>(z.mpr λw=>i (e.trans w.symm)) rfl
 .rw[e];exact λz=>(z.mp λw=>i (w.trans e.symm)) rfl
theorem IX(b:BF 37 ns)(g:l.Good ns)(hn:Nm f)(k:f∉ns)(m:l.r ≠"none"):(l.led ns (.put f ns.length))=⟨l.r,l.g,Bm l.cs f⟩/\Lp.Good (ns++[f]) ⟨l.r,l.g,Bm l.cs f⟩/\tell c ns l (.Ao (.put f ns.length)::t)=tell c (ns++[f]) ⟨l.r,l.g,Bm l.cs f⟩ t:=by
 have n:=b.len;have o:=g.g1;have ok:(BG.put f ns.length).Ok 40 ns:=⟨hn,k,Az _,by omega⟩;have j:CQ l.r l.g ns.length=true:=by
  rcases LJ g.rule with e|e|e
  .exact absurd e m
  .rw[e,Nl];exact lD (by omega)
  .rw[e,R6]
 have a:l.led ns (.put f ns.length)=⟨l.r,l.g,Bm l.cs f⟩:=by
  show(⟨l.r,D0 ns.length l.g,if CQ l.r l.g ns.length=true then Bm l.cs f else l.cs⟩:Lp)=_
  rw[lO j];unfold D0;rw[lA (by omega)]
 have q:=BK.led g ok b.nd;have i:BG.done ns (.put f ns.length)=ns++[f]:=Vl ns f;have h:Lp.Good (BG.done ns (.put f ns.length)) (l.led ns (.put f ns.length)):=q;rw[a,i]at h;refine⟨a,h,?_⟩;have e:=JV (c:=c) (l:=l) (d:=.put f ns.length) (t:=t) ok;rw[a,i]at e;exact e
theorem row_end(c:BF m ns)(hn:Nm f)(d:f∉ns):BF (m+1) (ns++[f]):=⟨by rw[Bh];exact ZD6 c.len,λx hx=>(List.mem_append.mp hx).elim (c.nm x) λz=>by rw[List.mem_singleton.mp z];exact hn,by
 rw[YH];exact⟨c.nd,il _ f,λa h b g e=>by rw[List.mem_singleton.mp g]at e;exact d (e▸h)⟩⟩
theorem zQ{b:List (Option Str)}(e:tell c ns l1 [.Ao (.put f ns.length),.Ac]=some a)(d:tell c ns l2 [.Ao (.put f ns.length),.Ac]=some b)(h:a≠b):Parts c ns l1 l2 [.Ao (.put f ns.length),.Ac] a b:=by
 have i:=Q3 e;have g:=Q3 d;refine⟨by show 2<=100;decide,rfl,e,d,?_,h⟩;obtain⟨x,rfl⟩:=List.length_eq_one_iff.mp (show a.length=1 from i);obtain⟨y,rfl⟩:=List.length_eq_one_iff.mp (show b.length=1 from g);rfl
theorem uF(d:BF 37 ns)(g1:l1.Good ns)(g2:l2.Good ns)(D:l1.cs=l2.cs)(k:l1.r≠l2.r)(h1:l1.r ≠"none")(h2:l2.r ≠"none")(hn:Nm f)(h:f∉ns)(Lo:Nm f1)(Vq:f1∉ns)(JP:f1≠f)
  (o:tell c ns l1 [.Ao (.put f ns.length),.Ac]=some a) (n:tell c ns l2 [.Ao (.put f ns.length),.Ac]=some a):∃a b,Parts c ns l1 l2 (.Ao (.put f ns.length) :: .Ac :: .Ao (.put f1 0)::D3 (ns++[f])++[.Ac]) a b:=by
 obtain⟨_,p1,_⟩:=IX (c:=c) (t:=[]) d g1 hn h h1;obtain⟨_,p2,_⟩:=IX (c:=c) (t:=[]) d g2 hn h h2;have u:=row_end d hn h;have C:f1∉ns++[f]:=λz=>(List.mem_append.mp z).elim Vq λw=>JP (List.mem_singleton.mp w);rw[(IX d g1 hn h h1).2.2,IT]at o;rw[(IX d g2 hn h h2).2.2,IT]at n;cases o;have A:CC (ns++[f]) l2.g (Bm l2.cs f)=CC (ns++[f]) l1.g (Bm l1.cs f):=by injection n with z;injection z
 have j:∃y,CC (ns++[f]) l1.g (Bm l1.cs f)=some y:=by
  have g0:=p1.g1;have m:f∈Di (ns++[f]) l1.g (Bm l1.cs f):=KZ.mpr ⟨List.mem_append.mpr (.inr (List.mem_singleton.mpr rfl)),IE.mpr (.inl rfl)⟩;unfold CC;cases e:Di (ns++[f]) l1.g (Bm l1.cs f)with
  |nil=>rw[e]at m;cases m
  |cons z r=>exact⟨z,rfl⟩
 obtain⟨y,s⟩:=j;have go:∀{l:Lp},l.Good ns->l.r ≠"none" -> CC (ns++[f]) l.g (Bm l.cs f)=some y->tell c ns l (.Ao (.put f ns.length) :: .Ac :: .Ao (.put f1 0)::D3 (ns++[f])++[.Ac])=some [some y,if l.r="all" then some f1 else none]:=λ{l}g AU e=>by
  obtain⟨_,p,q⟩:=IX (c:=c) (t:=.Ac :: .Ao (.put f1 0)::D3 (ns++[f])++[.Ac]) d g hn h AU;refine q.trans ?_;have st:=(Ys p).1;show tell c (ns++[f]) _ (.Ac::(.Ao (.put f1 0)::D3 (ns++[f])++[.Ac]))=_;rw[tell];have x:=Rc (c:=c) (l:=Lp.Ac (ns++[f]) ⟨l.r,l.g,Bm l.cs f⟩) (i:=0) (u.le (by decide)) st Lo C (CJ _);have v:tell c (ns++[f]) (Lp.Ac (ns++[f]) ⟨l.r,l.g,Bm l.cs f⟩) (.Ao (.put f1 0)::D3 (ns++[f])++[.Ac])=_:=x;rw[v];have B:(Lp.Ac (ns++[f]) ⟨l.r,l.g,Bm l.cs f⟩).g=(ns++[f]).idxOf y+1:=by
   show Hz _ _ _=_;unfold Hz;rw[show CC (ns++[f]) l.g (Bm l.cs f)=some y from e]
  show some ([CC (ns++[f]) l.g (Bm l.cs f)]++[if CQ l.r _ 0=true then some f1 else none])=_
  rw[B,e];rcases LJ g.rule with z|z|z
  .exact absurd z AU
  .rw[z,Nl,lA (by simp),lA (by decide)];rfl
  .rw[z,R6,lO rfl,lO rfl];rfl
 refine⟨_,_,?_,Sb _ _,go g1 h1 s,go g2 h2 (A.trans s),rfl,?_⟩
 .have:=d.len;simp[D3];omega
 .intro z;injection z with _ z
  injection z with z _
  rcases LJ g1.rule with e1|e1|e1 <;> rcases LJ g2.rule with e2|e2|e2
  .exact h1 e1
  .exact h1 e1
  .exact h1 e1
  .exact h2 e2
  .exact k (e1.trans e2.symm)
  .rw[e1,e2,lA (by decide),lO rfl]at z;cases z
  .exact h2 e2
  .rw[e1,e2,lO rfl,lA (by decide)]at z;cases z
  .exact k (e1.trans e2.symm)
theorem cD{lo hi:Lp}{z:Str}(d:es.length<=100)(f:es.getLast?=some .Ac)(h:(l1=lo/\l2=hi)∨(l1=hi/\l2=lo))(a:tell c ns lo es=some [some x])(b:tell c ns hi es=some [some z])(hx:z≠x):∃a b,Parts c ns l1 l2 es a b:=by
 rcases h with⟨rfl,rfl⟩|⟨rfl,rfl⟩
 .exact⟨_,_,d,f,a,b,rfl,λe=>hx (by injection e with e;injection e with e;exact e.symm)⟩
 .exact⟨_,_,d,f,b,a,rfl,λe=>hx (by injection e with e;injection e with e)⟩
theorem uI(h:i<=ns.length):(ins ns x i)[i]?=some x:=by
 unfold ins;rw[Jk (by rw[Bx];omega),Bx,MW h,Nat.sub_self];rfl
theorem JR:(ins ns x i).length=ns.length+1:=by
 unfold ins;rw[Bh,C5,Bx,EF];omega
theorem ZBO{lo hi:Lp}(m:BF 37 ns)(o:lo.Good ns)(C:hi.Good ns)(AW:lo.g<hi.g)(A:lo.r=hi.r)(AU:lo.r ≠"none")(h:(l1=lo/\l2=hi)∨(l1=hi/\l2=lo))(hn:Nm f)(B:f∉ns)(Lo:Nm f1)(Vq:f1∉ns)(JP:f1≠f):
  ∃a b,Parts c ns l1 l2 [.Ao (.put f lo.g),.Ao (.put f1 (ns.length+1:Nat)),.Ac] a b:=by
 have K:=m.len;have M:=o.g1;have L:=C.g1;have s:(BG.put f lo.g).Ok 40 ns:=⟨hn,B,by omega,by omega⟩;have H:BF 40 (ins ns f lo.g):=(m.le (by decide)).done s;have v:(ins ns f lo.g).length=ns.length+1:=JR;have I:f1∉ins ns f lo.g:=λz=>(Km.mp z).elim JP Vq;have u:(BG.put f1 (ns.length+1)).Ok 40 (ins ns f lo.g):=⟨Lo,I,by omega,by omega⟩;have q:BG.done (ins ns f lo.g) (.put f1 (ns.length+1))=ins ns f lo.g++[f1]:=by
  show ins _ _ _=_;rw[<- v,Vl]
 have G:BF 40 (ins ns f lo.g++[f1]):=q▸H.done u;have tl:∀l:Lp,tell c ns l [.Ao (.put f lo.g),.Ao (.put f1 (ns.length+1:Nat)),.Ac]=some [CC (ins ns f lo.g++[f1]) ((l.led ns (.put f lo.g)).led (ins ns f lo.g) (.put f1 (ns.length+1))).g ((l.led ns (.put f lo.g)).led (ins ns f lo.g) (.put f1 (ns.length+1))).cs]:=λl=>by
  have e:=JV (c:=c) (l:=l) (d:=.put f lo.g) (t:=[.Ao (.put f1 (ns.length+1:Nat)),.Ac]) s;refine e.trans ?_;have D:=JV (c:=c) (l:=l.led ns (.put f lo.g)) (d:=.put f1 (ns.length+1)) (t:=[.Ac]) u;refine D.trans ?_;rw[q,IT]
 have p:(ins ns f lo.g++[f1])[lo.g]?=some f:=by rw[G7 (by omega)];exact uI (by omega)
 have n:∀g i:Nat,g<=i->CQ lo.r g i=true:=λg i w=>by
  rcases LJ o.rule with e|e|e
  .exact absurd e AU
  .rw[e,Nl];exact lD w
  .rw[e,R6]
 have F:CC (ins ns f lo.g++[f1]) ((lo.led ns (.put f lo.g)).led (ins ns f lo.g) (.put f1 (ns.length+1))).g ((lo.led ns (.put f lo.g)).led (ins ns f lo.g) (.put f1 (ns.length+1))).cs=some f:=by
  have k:((lo.led ns (.put f lo.g)).led (ins ns f lo.g) (.put f1 (ns.length+1))).g=lo.g:=by
   show D0 (ns.length+1) (D0 lo.g lo.g)=lo.g;unfold D0;rw[lA (by omega:¬ lo.g<lo.g),lA (by omega)]
  rw[k];refine aY p ?_;show f∈(if CQ lo.r _ _=true then Bm (if CQ lo.r lo.g lo.g=true then Bm lo.cs f else lo.cs) f1 else(if CQ lo.r lo.g lo.g=true then Bm lo.cs f else lo.cs))
  have:f∈(if CQ lo.r lo.g lo.g=true then Bm lo.cs f else lo.cs):=by rw[lO (n _ _ (Az _))];exact IE.mpr (.inl rfl)
  split
  .exact IE.mpr (.inr this)
  .exact this
 have E:∃z,CC (ins ns f lo.g++[f1]) ((hi.led ns (.put f lo.g)).led (ins ns f lo.g) (.put f1 (ns.length+1))).g ((hi.led ns (.put f lo.g)).led (ins ns f lo.g) (.put f1 (ns.length+1))).cs=some z/\z≠f:=by
  have k:((hi.led ns (.put f lo.g)).led (ins ns f lo.g) (.put f1 (ns.length+1))).g=hi.g+1:=by
   show D0 (ns.length+1) (D0 lo.g hi.g)=hi.g+1;unfold D0;rw[lO AW,lA (by omega)]
  have J:f1∈((hi.led ns (.put f lo.g)).led (ins ns f lo.g) (.put f1 (ns.length+1))).cs:=by
   show f1∈(if CQ hi.r (D0 lo.g hi.g) (ns.length+1)=true then Bm _ f1 else _)
   rw[<- A,lO (n _ _ (by unfold D0;rw[lO AW];omega))];exact IE.mpr (.inl rfl)
  rw[k];obtain⟨z,j,Gz⟩:=Yc (ns:=ins ns f lo.g++[f1]) (g:=hi.g+1) (y:=f1) (by
   rw[List.drop_append_of_le_length (by omega)];exact List.mem_append.mpr (.inr (List.mem_singleton.mpr rfl))) J
  exact⟨z,j,λe=>bq G.nd p (by omega:lo.g<hi.g+1) (e▸Gz)⟩
 obtain⟨z,j,x⟩:=E;exact cD (by show 3<=100;decide) rfl h ((tl lo).trans (by rw[F])) ((tl hi).trans (by rw[j])) x
theorem b6{lo:Nat}(h1:lo<=i)(h2:i<hi)(a:hi<=ns.length):(Bz ns lo hi)[i]?=ns[lo+hi - 1 - i]?:=by
 unfold Bz;have l1:(ns.take lo).length=lo:=by rw[Bx];omega
 have l2:((ns.drop lo).take (hi - lo)).reverse.length=hi - lo:=by rw[L4,Bx,EF];omega
 rw[G7 (by rw[Bh,l1,l2];omega),Jk (by omega),l1,ZCr (by rw[Bx,EF];omega),iX (by rw[Bx,EF];omega),YA]
 congr 1
 rw[Bx,EF];omega
theorem uq{lo:Nat}(h1:lo<=hi)(h2:hi<=i)(a:hi<=ns.length):(Bz ns lo hi)[i]?=ns[i]?:=by
 unfold Bz;rw[Jk (by rw[Bh,L4,Bx,Bx,EF];omega),YA]
 congr 1
 rw[Bh,L4,Bx,Bx,EF];omega
theorem nq{lo:Nat}(h:i<lo)(a:lo<=ns.length):(Bz ns lo hi)[i]?=ns[i]?:=by
 unfold Bz;rw[G7 (by rw[Bh,Bx];omega),G7 (by rw[Bx];omega),iX h]
theorem qy{lo hi:Lp}{x0 i:Str}{e k:Nat}(n:BF 37 ns)(L:lo.Good ns)(M:hi.Good ns)(AW:lo.g<hi.g)(m:lo.r="none")(C:hi.r="none")(K:lo.cs=hi.cs)(h:(l1=lo/\l2=hi)∨(l1=hi/\l2=lo))(hn:Nm f)(q:f∉ns)
  (J:ns[e]?=some x0) (p:ns[k]?=some i) (A:e<k) (H:x0∈lo.cs) (G:i∈lo.cs) :
  ∃a b,Parts c ns l1 l2 [.Ao (.put f ns.length),.Ao (.turn k (ns.length+1:Nat)),.Ao (.turn (min e lo.g:Nat) (max e lo.g+1:Nat)),.Ac] a b:=by
 have V:=n.len;have Y:=L.g1;have X:=M.g1;have I:=(List.getElem?_eq_some_iff.mp p).1;have S:(BG.put f ns.length).Ok 40 ns:=⟨hn,q,Az _,by omega⟩;have P:BG.done ns (.put f ns.length)=ns++[f]:=Vl ns f;have R:BF 40 (ns++[f]):=(row_end n hn q).le (by decide);have x:(ns++[f]).length=ns.length+1:=by simp
 have v:(BG.turn k (ns.length+1)).Ok 40 (ns++[f]):=⟨by omega,by omega⟩;have Q:BF 40 (Bz (ns++[f]) k (ns.length+1)):=R.done v;have U:(Bz (ns++[f]) k (ns.length+1)).length=ns.length+1:=(WL (by omega) (by omega)).trans x;have s:(BG.turn (min e lo.g) (max e lo.g+1)).Ok 40 (Bz (ns++[f]) k (ns.length+1)):=⟨by omega,by omega⟩;have j:BF 40 (Bz (Bz (ns++[f]) k (ns.length+1)) (min e lo.g) (max e lo.g+1)):=Q.done s;have tl:∀l:Lp,l.r="none" -> l.g<=ns.length->tell c ns l [.Ao (.put f ns.length),.Ao (.turn k (ns.length+1:Nat)),.Ao (.turn (min e lo.g:Nat) (max e lo.g+1:Nat)),.Ac]=some [CC (Bz (Bz (ns++[f]) k (ns.length+1)) (min e lo.g) (max e lo.g+1)) l.g l.cs]:=λl o W=>by
  have F:=JV (c:=c) (l:=l) (d:=.put f ns.length) (t:=[.Ao (.turn k (ns.length+1:Nat)),.Ao (.turn (min e lo.g:Nat) (max e lo.g+1:Nat)),.Ac]) S;refine F.trans ?_;have O:l.led ns (.put f ns.length)=l:=by
   show(⟨l.r,D0 ns.length l.g,if CQ l.r l.g ns.length=true then Bm l.cs f else l.cs⟩:Lp)=l
   rw[o,join_none,lA (by decide),<- o];unfold D0;rw[lA (by omega)]
  rw[O,P];have E:=JV (c:=c) (l:=l) (d:=.turn k (ns.length+1)) (t:=[.Ao (.turn (min e lo.g:Nat) (max e lo.g+1:Nat)),.Ac]) v;refine E.trans ?_;have D:=JV (c:=c) (l:=l) (d:=.turn (min e lo.g) (max e lo.g+1)) (t:=[.Ac]) s;exact D.trans IT
 have u:(Bz (Bz (ns++[f]) k (ns.length+1)) (min e lo.g) (max e lo.g+1))[lo.g]?=some x0:=by
  rw[b6 (by omega) (by omega) (by omega),show min e lo.g+(max e lo.g+1) - 1 - lo.g=e by omega,nq A (by omega),G7 (by omega)];exact J
 have T:(Bz (Bz (ns++[f]) k (ns.length+1)) (min e lo.g) (max e lo.g+1))[ns.length]?=some i:=by
  rw[uq (by omega) (by omega) (by omega),b6 (by omega) (by omega) (by omega),show k+(ns.length+1) - 1 - ns.length=k by omega,G7 (by omega)];exact p
 obtain⟨z,N,Gz⟩:=Yc (ns:=Bz (Bz (ns++[f]) k (ns.length+1)) (min e lo.g) (max e lo.g+1)) (g:=hi.g) (cs:=hi.cs) (y:=i) (List.mem_iff_getElem?.mpr ⟨ns.length - hi.g,by rw[YA,show hi.g+(ns.length - hi.g)=ns.length by omega];exact T⟩) (K▸G);have B:z≠x0:=λw=>bq j.nd u AW (w▸Gz);exact cD (by show 4<=100;decide) rfl h ((tl lo m (by omega)).trans (by rw[aY u H])) ((tl hi C (by omega)).trans (by rw[N])) B
end Fz
set_option maxHeartbeats 4000000
namespace Fz
open L2 Lw
@[reducible] def xwM (X:XK) (t:OV) (D:Ex->Prop):Xw:=⟨λ_=>X,λss=>ss[0]?=some (.ow true t),D⟩
end Fz
namespace Fz
open L2 Lw
def Nj(z:Str):List PV:=z.cps.toList.map λc=>PV.str ⟨#[c]⟩
section
variable[Xw]
variable{E:Ent0}{ss:List Slot}{Z:L2.St}{F H F' H':Hp}{K:ZE7}{i:Nat}{t:OV}{ta tb tc te:TE}{nx:List Slot->Prop}{R:BD}
theorem dg{k:List PV->Prop}(h:Wp ss te λp=>∃z,p=.str z/\k (Nj z)):Wi ss (WX te) k:=⟨λE Z F H R S q=>
 h.go E Z F H _ S λv p F1 H1 b r AR=>by
  obtain⟨z,e,kk⟩:=AR;subst e;cases r.inv;have a:(Nj z).length=z.cps.size:=by unfold Nj;rw[Aw,EC]
  refine⟨z,rfl,q _ (Nj z) F1 H1 b ⟨λss Z F H i s S hi=>?_,λss Z F H s S=>?_,λss Z F H i x H' s S hi y=>?_⟩ kk⟩
  .rw[a]at hi;exact hi
  .exact a
  .obtain⟨e,c,d,ex⟩:=y;subst e;subst ex;refine⟨.str ⟨#[c]⟩,F,?_,.refl S,.str _⟩;unfold Nj;rw[Bp,OJ,d];rfl⟩
end
end Fz
set_option maxHeartbeats 400000
namespace Fz
open L2 Lw
variable{ns r xs:List Str}{c:BW}{l1 l2:Lp}{b es:List Et}{α:Type}
def Cd(q:Option Addr):Et->PV
 | .Ac=>match q with
  |none=>.tup [.str "step"]
  |some a=>.con a [.str "step"]
 | .Ao d=>aP d
def GB(K:ZE7)(q:Option Addr):Prop:=∀a,q=some a->Cy K a [.str "step"]
theorem bu(q:Option Addr)(e:Et)(a:Addr):Bf (Cd q e) (.con a [.str "step"])=V3 e:=by
 cases e with
 |Ac=>cases q <;> simp[Cd,Bf,Ck,V3]
 |Ao d=>cases d <;> (unfold Cd aP;rw[Bf,LU _ _ (by simp)];rfl)
theorem az{K:ZE7}{q:Option Addr}(b:GB K q)(n:Nat)(e:Et):dat K (n+1) (Cd q e):=by
 cases e with
 |Ac=>
  cases q with
  |none=>exact fD K n .Ac
  |some a=>exact(b a rfl).dat (λx hx=>by rw[List.mem_singleton.mp hx];cases n <;> trivial)
 |Ao d=>exact fD K n (.Ao d)
def Nx(K:ZE7)(c:BW):DM:=λl R D=>∃(q:Option Addr)(tp:Bool)(ns:List Str)(l1:Lp)(es:List Et),GB K q/\l=[.sq tp (ns.map .str),.is l1.P,.sq false (es.map (Cd q))]/\Pb ns l1 l1 es/\(R=.new λxs=>∃a,tell c ns l1 es=some a/\a.length<=es.length/\xs=a.map C7)/\D=λe=>tell c ns l1 es=none/\∃j v,Ny c e j v
noncomputable def vb:List Str:=["aa","ba","ca","da","ea","fa","ga","ha","ia","ja","ka","la","ma","na","oa","pa","qa","ra","sa","ta","ua","va","wa","xa","ya","za"]
noncomputable def sx:List Str:=["ab","bb","cb","db","eb","fb","gb","hb","ib","jb","kb","lb","mb","nb","ob","pb","qb","rb","sb","tb","ub","vb","wb","xb","yb","zb"]
def IL:List Str:=vb++sx
theorem Ql:IL.Nodup/\IL.all (λx=>decide (Nm x))=true/\IL.length=52:=by decide +kernel
def BV(ns:List Str):List Str:=IL.filter λx=>!decide (x∈ns)
theorem gA{x:Str}(h:x∈BV ns):Nm x/\x∉ns:=by
 obtain⟨h1,h2⟩:=List.mem_filter.mp h;exact⟨lY (List.all_eq_true.mp Ql.2.1 x h1),by simpa using h2⟩
theorem aq{α:Type}(p:α->Bool):∀l:List α,(l.filter p).length+(l.filter λx=>!p x).length=l.length
 | []=>rfl
 |x::r=>by
  have:=aq p r;rw[Y9,Y9];cases p x
  .simp only[Bool.not_false,ZBG,C5,ZCg,ZBN];omega
  .simp only[Bool.not_true,ZBG,C5,ZCg,ZBN];omega
theorem QK(g:ns.length<=37):∃f f1 r,BV ns=f::f1::r/\Nm f/\f∉ns/\Nm f1/\f1∉ns/\f1≠f:=by
 have nd:(BV ns).Nodup:=Ql.1.filter _;have i:(IL.filter λx=>decide (x∈ns)).length<=ns.length:=N2 (Ql.1.filter _) λx hx=>by simpa using(List.mem_filter.mp hx).2
 have h:=aq (λx=>decide (x∈ns)) IL;have d:=Ql.2.2;have a:(BV ns).length>=2:=by
  have:(BV ns).length=(IL.filter λx=>!decide (x∈ns)).length:=rfl;omega
 cases e:BV ns with
 |nil=>rw[e]at a;simp at a
 |cons f r=>
  cases r with
  |nil=>rw[e]at a;simp at a
  |cons f1 r=>
   have c:=gA (ns:=ns) (x:=f) (by rw[e];exact Bc);have b:=gA (ns:=ns) (x:=f1) (by rw[e];exact By _ Bc);rw[e]at nd;exact⟨f,f1,r,rfl,c.1,c.2,b.1,b.2,λz=>(List.nodup_cons.mp nd).1 (by rw[z];exact Bc)⟩
def EJ(l1 l2:Lp):Prop:=(l1.r=l2.r/\l1.cs=l2.cs)/\(l1.g=l2.g∨(l1.r="none" /\ l1.cs.length<=1))
instance (l1 l2:Lp):Decidable (EJ l1 l2):=by unfold EJ;infer_instance
def Mj(ns cs:List Str)(gap:Nat)(f:Str):List Et:=match ns.filter (EX cs)with
 |x0::x1::_=>[.Ao (.put f ns.length),.Ao (.turn (ns.idxOf x1) (ns.length+1:Nat)),.Ao (.turn (min (ns.idxOf x0) gap:Nat) (max (ns.idxOf x0) gap+1:Nat)),.Ac]
 |_=>[]
def O7(c:BW)(ns:List Str)(l1 l2:Lp)(f f1:Str):List Et:=
 if l1.r="none" ∨l2.r="none" then .Ao (.put f ns.length)::D3 ns++[.Ac]else
 if tell c ns l1 [.Ao (.put f ns.length),.Ac]≠tell c ns l2 [.Ao (.put f ns.length),.Ac]then[.Ao (.put f ns.length),.Ac]else
 .Ao (.put f ns.length) :: .Ac :: .Ao (.put f1 0)::D3 (ns++[f])++[.Ac]
def Ms(ns:List Str)(l1 l2:Lp)(f f1:Str):List Et:=
 if l1.r="none" then Mj ns l1.cs (min l1.g l2.g) f else[.Ao (.put f (min l1.g l2.g:Nat)),.Ao (.put f1 (ns.length+1:Nat)),.Ac]
def Yh(ns:List Str)(l1 l2:Lp)(es:List Et):Prop:=∃x r,(x::r).Nodup/\sortedS (x::r)=true/\(∀y,y∈x::r↔¬ (y∈l1.cs↔y∈l2.cs))/\es=D3 (wo ns x)++[.Ac]
def Tr(c:BW)(ns:List Str)(l1 l2:Lp)(es:List Et):Prop:=(l1.cs≠l2.cs/\Yh ns l1 l2 es)∨(l1.cs=l2.cs/\∃f f1 r,BV ns=f::f1::r/\es=if l1.r=l2.r then Ms ns l1 l2 f f1 else O7 c ns l1 l2 f f1)
theorem dA{cs:List Str}(up:Up cs)(c:∀x∈cs,x∈ns)(h:2<=cs.length):∃x0 a r,ns.filter (EX cs)=x0::a::r:=by
 have b:cs.length<=(ns.filter (EX cs)).length:=N2 (Mc up) λx hx=>List.mem_filter.mpr ⟨c x hx,lD hx⟩;cases e:ns.filter (EX cs)with
 |nil=>rw[e,RQ]at b;omega
 |cons x0 r=>cases r with
  |nil=>rw[e,ie]at b;omega
  |cons a r=>exact⟨x0,a,r,rfl⟩
theorem Wd{p:Str->Bool}{x0 a:Str}(nd:ns.Nodup)(h:ns.filter p=x0::a::r):x0∈ns/\a∈ns/\p x0=true/\p a=true/\ns.idxOf x0<ns.idxOf a:=by
 have b:=List.mem_filter.mp (show x0∈ns.filter p by rw[h];exact Bc);have c:=List.mem_filter.mp (show a∈ns.filter p by rw[h];exact By _ Bc);refine⟨b.1,c.1,b.2,c.2,?_⟩;have sub:[x0,a].Sublist ns:=(List.Sublist.trans (by rw[h];exact List.Sublist.cons_cons _ (List.Sublist.cons_cons _ (ZCx r))) List.filter_sublist);clear h
 induction ns with
 |nil=>cases b.1
 |cons y t k=>
  obtain⟨j,i⟩:=List.nodup_cons.mp nd
  by_cases e:y=x0
  .subst e;have m:y≠a:=λz=>by
    have:=sub.nodup nd;rw[z]at this;simp at this
   rw[List.idxOf_cons_self,YC,show(y == a)=false from by simpa using m];exact YO _
  .have d:[x0,a].Sublist t:=by
    cases sub with
    |cons _ s=>exact s
    |cons_cons _ s=>exact absurd rfl e
   have g:x0∈t:=d.subset Bc;have f:a∈t:=d.subset (By _ Bc);have l:y≠a:=λz=>j (z▸f);rw[YC,YC,show(y == a)=false from by simpa using l,show(y == x0)=false from by simpa using e]
   have:=k i ⟨g,b.2⟩ ⟨f,c.2⟩ d;exact Nat.succ_lt_succ this
theorem Tr.parts(d:BF 37 ns)(g1:l1.Good ns)(g2:l2.Good ns)(u:¬ EJ l1 l2)(h:Tr c ns l1 l2 es):∃a b,Parts c ns l1 l2 es a b:=by
 have H:=d.len;rcases h with⟨k,x,r,p,s1,m,rfl⟩|⟨k,f,f1,r,e,rfl⟩
 .have hx:=(m x).mp Bc;have F:x∈ns:=by
   by_cases h1:x∈l1.cs
   .exact g1.sub x h1
   .by_cases h2:x∈l2.cs
    .exact g2.sub x h2
    .exact absurd ⟨λz=>absurd z h1,λz=>absurd z h2⟩ hx
  exact pC d g1 g2 F hx
 .obtain⟨P,O,M,B,n0,j,p,m,JP⟩:=QK H;rw[e]at B;injection B with z1 z2
  injection z2 with z2 _
  subst z1;subst z2
  by_cases i:l1.r=l2.r
  .rw[lO i];unfold Ms;have N:l1.g≠l2.g:=λz=>u ⟨⟨i,k⟩,.inl z⟩;have go:∃lo hi:Lp,((l1=lo/\l2=hi)∨(l1=hi/\l2=lo))/\lo.Good ns/\hi.Good ns/\lo.g<hi.g/\lo.r=l1.r/\hi.r=l1.r/\lo.cs=l1.cs/\hi.cs=l1.cs/\min l1.g l2.g=lo.g:=by
    by_cases I:l1.g<l2.g
    .exact⟨l1,l2,.inl ⟨rfl,rfl⟩,g1,g2,I,rfl,i.symm,rfl,k.symm,by omega⟩
    .exact⟨l2,l1,.inr ⟨rfl,rfl⟩,g2,g1,by omega,i.symm,rfl,k.symm,rfl,by omega⟩
   obtain⟨lo,hi,hh,w,y,AW,o,s,cl,ch,J⟩:=go;rw[J]
   by_cases hn:l1.r="none"
   .rw[lO hn];have h2:2<=l1.cs.length:=ZD2 λz=>u ⟨⟨i,k⟩,.inr ⟨hn,z⟩⟩;obtain⟨x0,C,L,A⟩:=dA g1.up g1.sub h2;obtain⟨i0,G,E,p1,D⟩:=Wd d.nd A;unfold Mj;rw[A];have at':∀x∈ns,ns[ns.idxOf x]?=some x:=λx hx=>by
     have v:=List.idxOf_lt_length_iff.mpr hx;rw[Bb v,YB v]
    exact qy d w y AW (o.trans hn) (s.trans hn) (cl.trans ch.symm) hh n0 j (at' x0 i0) (at' C G) D (by rw[cl];exact lY E) (by rw[cl];exact lY p1)
   .rw[lA hn];exact ZBO d w y AW (o.trans s.symm) (by rw[o];exact hn) hh n0 j p m JP
  .rw[lA i];unfold O7
   by_cases hn:l1.r="none" ∨l2.r="none"
   .rw[lO hn];exact nB d g1 g2 n0 j i hn
   .rw[lA hn];have h1:l1.r ≠"none" := λz=>hn (.inl z);have h2:l2.r ≠"none" := λz=>hn (.inr z);have l:=(IX (c:=c) (t:=[.Ac]) d g1 n0 j h1).2.2.trans IT;have q:=(IX (c:=c) (t:=[.Ac]) d g2 n0 j h2).2.2.trans IT
    by_cases n:tell c ns l1 [.Ao (.put f ns.length),.Ac]≠tell c ns l2 [.Ao (.put f ns.length),.Ac]
    .rw[lO n];exact⟨_,_,zQ l q λz=>n (by rw[l,q,z])⟩
    .rw[lA n];have K:=Classical.not_not.mp n;exact uF d g1 g2 k i h1 h2 n0 j p m JP l (K▸l)
theorem XQ(h:∀x∈xs,Nm x):∀e∈D3 xs,e.say:=λe a=>by
 obtain⟨x,hx,rfl⟩:=List.mem_map.mp a;exact LG (h x hx)
theorem SA{a:List Et}(h1:∀e∈a,e.say)(h2:∀e∈b,e.say):∀e∈a++b,e.say:=λe c=>(List.mem_append.mp c).elim (h1 e) (h2 e)
theorem Ej{a:Et}(h1:a.say)(h2:∀e∈b,e.say):∀e∈a::b,e.say:=λe c=>(List.mem_cons.mp c).elim (λz=>z▸h1) (h2 e)
theorem O8:∀e∈([]:List Et),e.say:=λe a=>by cases a
theorem JC:∀e∈[Et.Ac],e.say:=Ej trivial O8
theorem J5{f:Str}{i:Nat}(h:Nm f)(hi:i<=1000000):Et.say (.Ao (.put f i)):=⟨LG h,Vd hi⟩
theorem Sx{i j:Nat}(hi:i<=1000000)(a:j<=1000000):Et.say (.Ao (.turn i j)):=⟨Vd hi,Vd a⟩
theorem Tr.say(b:BF 37 ns)(g1:l1.Good ns)(g2:l2.Good ns)(h:Tr c ns l1 l2 es):∀e∈es,e.say:=by
 have m:=b.len;have w:=g1.g1;have v:=g2.g1;rcases h with⟨o,x,r,d,s1,j,rfl⟩|⟨o,f,f1,r,e,rfl⟩
 .exact SA (XQ λy n=>b.nm y (DP.mp n).1) JC
 .obtain⟨u,t,p,g,n0,k,d,j,JP⟩:=QK m;rw[e]at g;injection g with z1 z2
  injection z2 with z2 _
  subst z1;subst z2;split
  .unfold Ms;split
   .unfold Mj;split
    .next x0 x1 _ ef=>
     obtain⟨i0,l,_⟩:=Wd b.nd ef;have s:=List.idxOf_lt_length_iff.mpr i0;have q:=List.idxOf_lt_length_iff.mpr l;exact Ej (J5 n0 (by omega)) (Ej (Sx (by omega) (by omega)) (Ej (Sx (by omega) (by omega)) JC))
    .exact O8
   .exact Ej (J5 n0 (by omega)) (Ej (J5 d (by omega)) JC)
  .unfold O7;split
   .exact SA (Ej (J5 n0 (by omega)) (XQ b.nm)) JC
   .split
    .exact Ej (J5 n0 (by omega)) JC
    .exact SA (Ej (J5 n0 (by omega)) (Ej (a:=.Ac) trivial (Ej (J5 (i:=0) d (by omega)) (XQ (row_end b n0 k).nm)))) JC
theorem Tr.ok(d:BF 37 ns)(g1:l1.Good ns)(g2:l2.Good ns)(e:¬ EJ l1 l2)(h:Tr c ns l1 l2 es):Pb ns l1 l2 es:=by
 obtain⟨a,b,f⟩:=h.parts d g1 g2 e;exact⟨d.le (by decide),g1,g2,h.say d g1 g2,by have:=f.1;omega⟩
theorem LW(x:α)(r:List α):L2.BZ (x::r) 0=some x:=L2.Ib (j:=0) rfl
theorem Rw(x y:α)(r:List α):L2.BZ (x::y::r) 1=some y:=L2.Ib (j:=1) rfl
theorem IM{ss:List Slot}[Xw]{te:TE}{k:Bool->List PV->Prop}(h:Wn ss te (k false)):Wq ss te k:=Fs (CN ⟨λE Z F H Q S q=>h.go E Z F H Q S λl vs xs F' H' m b a DJ r kk=>q l vs xs F' H' m b a DJ r ⟨xs,.inl ⟨rfl,kk⟩⟩⟩)
def Li:Pre:=λl R=>∃(ns:List Str)(l1 l2:Lp),l=[.is l1.P,.is l2.P]/\l1.Good ns/\l2.Good ns/\ns.length<=40/\R=.is λp=>p=.bl (decide (EJ l1 l2))
def Oi:Pre:=λl R=>∃(tp:Bool)(xs:List Str),l=[.sq tp (xs.map .str)]/\xs.length<=40/\R=.new λys=>ys=xs.map λx=>.tup [.str "take",.str x]
def R3:Pre:=λl R=>∃(tp:Bool)(ns:List Str),l=[.sq tp (ns.map .str)]/\BF 37 ns/\R=.new λys=>ys=(BV ns).map .str
def S7(K:ZE7)(k:Addr):Pre:=λl R=>∃(tp:Bool)(ns:List Str)(l1 l2:Lp),l=[.sq tp (ns.map .str),.is l1.P,.is l2.P]/\BF 37 ns/\l1.Good ns/\l2.Good ns/\l1.cs≠l2.cs/\R=.new λys=>GB K (some k)/\∃es,Yh ns l1 l2 es/\ys=es.map (Cd (some k))
def Ry(K:ZE7)(k:Addr):Pre:=λl R=>∃(tp:Bool)(ns:List Str)(l1:Lp)(g:Nat)(f:Str),l=[.sq tp (ns.map .str),.is l1.P,.is (.int g),.is (.str f)]/\BF 37 ns/\l1.Good ns/\g<=ns.length/\2<=l1.cs.length/\R=.new λys=>GB K (some k)/\ys=(Mj ns l1.cs g f).map (Cd (some k))
def SY(K:ZE7)(k:Addr):Pre:=λl R=>∃(tp:Bool)(ns:List Str)(l1 l2:Lp)(f f1:Str)(r:List Str),l=[.sq tp (ns.map .str),.is l1.P,.is l2.P]/\BF 37 ns/\l1.Good ns/\l2.Good ns/\l1.cs=l2.cs/\l1.r=l2.r/\¬ EJ l1 l2/\BV ns=f::f1::r/\R=.new λys=>GB K (some k)/\ys=(Ms ns l1 l2 f f1).map (Cd (some k))
def Rv(K:ZE7)(k:Addr)(c:BW):Pre:=λl R=>∃(tp:Bool)(ns:List Str)(l1 l2:Lp)(f f1:Str)(r:List Str),l=[.sq tp (ns.map .str),.is l1.P,.is l2.P]/\BF 37 ns/\l1.Good ns/\l2.Good ns/\l1.cs=l2.cs/\l1.r≠l2.r/\BV ns=f::f1::r/\R=.new λys=>GB K (some k)/\ys=(O7 c ns l1 l2 f f1).map (Cd (some k))
def UA(K:ZE7)(k:Addr)(c:BW):Pre:=λl R=>∃(tp:Bool)(ns:List Str)(l1 l2:Lp),l=[.sq tp (ns.map .str),.is l1.P,.is l2.P]/\BF 37 ns/\l1.Good ns/\l2.Good ns/\¬ EJ l1 l2/\R=.new λys=>GB K (some k)/\∃es,Tr c ns l1 l2 es/\ys=es.map (Cd (some k))
end Fz
set_option maxHeartbeats 4000000
namespace L2
variable{x:Str}{r:List V->Hp->VK->Prop}{op:CmpOp}
section
variable{X:Cx}{a b e o:Expr}{es:List Expr}{ta tb te:TE}{t:TA}{pos p:Pos}
theorem B4{id:String}(c:DH X (.builtin id) r)(a:X.mg x=none)(d:QA X (e::es) t)(b:Gl X x:=by rfl)(hv:bootBuiltins x=some (.builtin id):=by decide +kernel)(hn:x ≠"__name__" := by decide)(BL:(x == ("__debug__":Str))=false:=by decide)
  (he:starEach (e::es) X.env=(false,eval e X.env)::starEach es X.env:=by rfl) (BE:(backTo pos (starEach es X.env)).any (·.1)=false:=by rfl):QE X (.Call (.Name x p) (e::es) [] pos) (DA r t):=ZAC c b a hv d hn BL he BE
theorem Eg{T:String}(c:DH X (.type T) r)(a:X.mg x=none)(d:QA X (e::es) t)(b:Gl X x:=by rfl)(hv:bootBuiltins x=some (.type T):=by decide +kernel)(hn:x ≠"__name__" := by decide)(BL:(x == ("__debug__":Str))=false:=by decide)
  (he:starEach (e::es) X.env=(false,eval e X.env)::starEach es X.env:=by rfl) (BE:(backTo pos (starEach es X.env)).any (·.1)=false:=by rfl):QE X (.Call (.Name x p) (e::es) [] pos) (DA r t):=lz c b a hv d hn BL he BE
theorem A8{r:R2}(d:Hm X r)(f:QE X a ta)(e:QE X b tb)(c:Vg b:=by exact λ_ _=>rfl):QE X (.Subscript a b pos) (Bo r ta tb):=vH d f e c
theorem AV{j k:Nat}{ps:List Str}{sp:Sp}(h:A9 X.prog X.w X.K X.mg X.base x k ps sp)(a:Bu j X.A)(c:QA X (e::es) t)(b:k<=j:=by decide)(hg:Gl X x:=by rfl)(BL:(x == ("__debug__":Str))=false:=by decide)
  (he:starEach (e::es) X.env=(false,eval e X.env)::starEach es X.env:=by rfl) (BE:(backTo pos (starEach es X.env)).any (·.1)=false:=by rfl):QE X (.Call (.Name x p) (e::es) [] pos) (Ep sp [] E0 t):=xU h a b c hg BL he BE
theorem D5{r:R2}(ho:BA X (compareOp op) r)(e:QE X a ta)(d:QE X b tb)(c:behindInMarks op b=false:=by first|exact cy _|with_unfolding_all rfl):QE X (.Compare a [op] [b] pos) (Bo r ta tb):=pP ho e d c
theorem Ah{r:R2}(ho:BA X (compareOp op) r)(e:QE X a ta)(d:QE X b tb)(c:behindInMarks op b=false:=by first|exact cy _|with_unfolding_all rfl):QT X (.Compare a [op] [b] pos) (MG (Bo r ta tb)):=ya ho e d c
theorem Ad(i:Nat){pos':Pos}(b:X.N.Nodup)(a:QE X e te)(hi:X.N[i]?=some x:=by rfl)(hx:Loc X.env.scope x:=by first|exact Or.inl rfl|exact Or.inr rfl)(hs:swapsWith e (some (.Name x pos')) pos.line X.env=pure false:=by rfl)(hf:X.fn x=true∨X.env.scope.names.lookup x=some .local:=by first|exact .inl rfl|exact .inr rfl|assumption):
  QS X (.Assign [.Name x pos'] e pos) (GD te (EA i)):=yt b hi hx a hs hf
theorem Fi(i:Nat)(a:X.N.Nodup)(hi:X.N[i]?=some x:=by rfl)(hx:Loc X.env.scope x:=by first|exact Or.inl rfl|exact Or.inr rfl)(hf:X.fn x=true∨X.env.scope.names.lookup x=some .local:=by first|exact .inl rfl|exact .inr rfl|assumption):QG X (.Name x pos) (EA i):=uL a hi hx hf
end
end L2
namespace Fz
open L2 Lw
variable{ns:List Str}{n:Nat}
structure CT where
 r:Str
 g:Int
 cs:List Str
def CT.P(l:CT):PV:=D4 l.r l.g l.cs
def CT.B(ns:List Str)(l:CT):Bool:=Ef ns l.r l.g l.cs
noncomputable def CT.lp(l:CT):Lp:=⟨l.r,l.g.toNat,l.cs⟩
theorem CT.good{l:CT}(h:l.B ns=true):l.P=l.lp.P/\l.lp.Good ns:=by
 obtain⟨n,e,gd⟩:=Vh h;obtain⟨r,g,cs⟩:=l;cases e;exact⟨rfl,gd⟩
def Hb(ns:List Str)(a b:CT):Prop:=(a.B ns=true/\b.B ns=true)/\ns.length<=37
def NO(CL CF:Addr)(ns:List Str)(a b:CT)(e:Ex):Prop:=(¬ (a.B ns=true/\b.B ns=true)/\e=K0 CL)∨((a.B ns=true/\b.B ns=true)/\37<ns.length/\e=K0 CF)
def P5(CL CF:Addr):DM:=λl R D=>∃(tp:Bool)(ns:List Str)(a b:CT),l=[.sq tp (ns.map .str),.is a.P,.is b.P]/\a.cs.length<64/\b.cs.length<64/\(R=.is λ_=>Hb ns a b)/\D=NO CL CF ns a b
def UE(CL CF:Addr):DM:=λl R D=>∃(tp:Bool)(ns:List Str)(c b:CT)(es:List Et)(a:List (Option Str)),l=[.sq tp (ns.map .str),.is c.P,.is b.P,.sq false (es.map (Cd none)),.is (.lst (a.map C7)),.is (.lst (a.map C7))]/\BF 40 ns/\c.cs.length<64/\b.cs.length<64/\(∀e∈es,e.say)/\es.length<=300/\a≠[]/\D=NO CL CF ns c b/\((Hb ns c b/\R=.is λp=>p=.bl false)∨(¬ Hb ns c b/\R=.is λ_=>False))
def Ug(CL CF:Addr):DM:=λl R D=>∃(tp:Bool)(ns:List Str)(b a:CT),l=[.sq tp (ns.map .str),.is b.P,.is a.P]/\BF 40 ns/\b.cs.length<64/\a.cs.length<64/\D=NO CL CF ns b a/\((Hb ns b a/\R=.is λp=>MF p=decide (EJ b.lp a.lp))∨(¬ Hb ns b a/\R=.is λ_=>False))
def kN(CL CF:Addr)(ns:List Str)(b a:CT)(j:Nat)(p:PV):Prop:=(¬ (b.B ns=true/\a.B ns=true)/\p=gk (K0 CL))∨((b.B ns=true/\a.B ns=true)/\37<ns.length/\p=gk (K0 CF))∨(Hb ns b a/\((j=0/\MF p=decide (EJ b.lp a.lp))∨(j=1/\p=.bl false)))
def WI(CL CF:Addr):Pre:=λl R=>∃(ns:List Str)(b a:CT)(j:Nat)(es:List Et),l=[.sq false (ns.map .str),.is b.P,.is a.P,.is (.int j),.sq false (es.map (Cd none))]/\BF 40 ns/\b.cs.length<64/\a.cs.length<64/\(∀e∈es,e.say)/\es.length<=300/\j<2/\R=.is (kN CL CF ns b a j)
def SI:Pre:=λl R=>∃(ns:List Str)(b a:CT)(es:List Et),l=[.sq false (ns.map .str),.is b.P,.is a.P,.sq false (es.map (Cd none))]/\BF 40 ns/\b.cs.length<64/\a.cs.length<64/\(∀e∈es,e.say)/\es.length<=300/\R=.is λp=>p=.bl true
theorem qG{r:Int}(c:0<=r)(h1:r<5):∃es:List Et,(∀e∈es,e.say)/\es.length<=300/\L2.BZ [PV.lst [],.lst [.tup [.str "step"]],.lst [.tup [.str "turn",.int 0,.int 0]],.lst [.tup [.str "step"],.tup [.str "take",.str "zz"]],.lst (List.replicate (Int.toNat 101) [PV.tup [.str "step"]]).flatten] r=some (.lst (es.map (Cd none))):=by
 have:r=0∨r=1∨r=2∨r=3∨r=4:=by omega
 rcases this with rfl|rfl|rfl|rfl|rfl
 .exact⟨[],O8,by simp,rfl⟩
 .exact⟨[.Ac],JC,by simp,rfl⟩
 .exact⟨[.Ao (.turn (0:Nat) (0:Nat))],Ej (Sx (by decide) (by decide)) O8,by simp,rfl⟩
 .exact⟨[.Ac,.Ao (.take "zz")],Ej (a:=.Ac) trivial (Ej (a:=.Ao (.take "zz")) (LG (by decide)) O8),by simp,rfl⟩
 .refine⟨List.replicate 101 .Ac,λe b=>by rw[List.eq_of_mem_replicate b];trivial,by simp,?_⟩;rw[ZCM,List.map_replicate];rfl
theorem BF.take(h:BF n ns)(j:Nat):BF n (ns.take j):=⟨by have:=h.len;rw[Bx];omega,λx hx=>h.nm x (YF hx),h.nd.sublist (iq _ _)⟩
theorem BF.init(h:BF n ns):BF n ns.dropLast:=by rw[ZCp];exact h.take _
end Fz
set_option maxHeartbeats 8000000
namespace Pf
open L2 Lw
variable{w:World}{mg:ZE9}{AD AF AH AL AM Ab B3 Bk C Dk Dl Dn Dr Du Dv Dw E4 E7 E8 JQ Ox Q4 Q5 Qd S f:Addr}{fd k4 lK mi zq:FuncData}{α:Type}{O3 T8 Vw Vx Ww o8:Tok}{l:PySem.W.OpenLaw}{jD p9:Option Addr}{ZAI oX:Array (Option Value)}
abbrev St:=L2.St
noncomputable def top(i:Nat):Stmt:=PySem.Challenge.pw_stirround_k54_trials_refused.main.body.getD i (.Pass ⟨0,0,0,0⟩)
abbrev WB:Stmt:=top 68
abbrev Uj:Stmt:=top 69
abbrev S8:Stmt:=top 70
abbrev SW:Stmt:=top 71
abbrev Sy:Stmt:=top 72
abbrev XG:Stmt:=top 73
abbrev SH:Stmt:=top 74
abbrev Q8:Stmt:=top 78
abbrev Wk:Stmt:=top 76
abbrev Mo:Stmt:=top 77
abbrev Tn:Stmt:=top 27
abbrev RE:Stmt:=top 45
abbrev SD:Stmt:=top 39
abbrev SK:Stmt:=top 44
abbrev WO:Stmt:=top 57
abbrev Ud:Stmt:=top 56
abbrev LK:Stmt:=top 66
abbrev QD:Stmt:=top 46
abbrev Vr:Stmt:=top 24
abbrev Rn:Stmt:=top 64
abbrev X1:Stmt:=top 63
abbrev QY:Stmt:=top 65
abbrev OY:Stmt:=top 61
abbrev Tc:Stmt:=top 41
abbrev QF:Stmt:=top 48
abbrev Rf:Stmt:=top 43
abbrev TX:Stmt:=top 40
abbrev QV:Stmt:=top 22
abbrev UT:Stmt:=top 29
abbrev Ss:Stmt:=top 30
abbrev Tp:Stmt:=top 31
abbrev Vy:Stmt:=top 28
abbrev T4:Stmt:=top 34
abbrev X8:Stmt:=top 32
abbrev Qa:Stmt:=top 33
abbrev WZ:Stmt:=top 25
abbrev U6:Stmt:=top 35
abbrev T7:Stmt:=top 36
abbrev XM:Stmt:=top 26
abbrev UX:Stmt:=top 49
abbrev Vj:Stmt:=top 47
abbrev UQ:Stmt:=top 42
abbrev Um:Stmt:=top 58
abbrev S9:Stmt:=top 62
abbrev U2:Stmt:=top 60
abbrev UG:Stmt:=top 54
abbrev UD:Stmt:=top 59
abbrev XW:Stmt:=top 55
abbrev TC:Stmt:=top 80
abbrev Ro:Stmt:=top 75
abbrev Vv:Stmt:=top 79
abbrev VL:Stmt:=top 81
abbrev Lj:Stmt:=top 82
variable{P:Program}{K:ZE7}{Zp:Heap}
def Zn{us:List α}(h:us.length=1):∃a,us=[a]:=by
 rcases us with _|⟨a,_|⟨b,us⟩⟩
 .cases h
 .exact⟨a,rfl⟩
 .cases h
def ln2{us:List α}(h:us.length=2):∃a b,us=[a,b]:=by
 rcases us with _|⟨a,us⟩
 .cases h
 .obtain⟨b,rfl⟩:=Zn (RW h);exact⟨a,b,rfl⟩
def bW{us:List α}(h:us.length=3):∃a b c,us=[a,b,c]:=by
 rcases us with _|⟨a,us⟩
 .cases h
 .obtain⟨b,c,rfl⟩:=ln2 (RW h);exact⟨a,b,c,rfl⟩
def Zc{us:List α}(h:us.length=4):∃a b c d,us=[a,b,c,d]:=by
 rcases us with _|⟨a,us⟩
 .cases h
 .obtain⟨b,c,d,rfl⟩:=bW (RW h);exact⟨a,b,c,d,rfl⟩
def ZN{us:List α}(h:us.length=5):∃a b c d e,us=[a,b,c,d,e]:=by
 rcases us with _|⟨a,us⟩
 .cases h
 .obtain⟨b,c,d,e,rfl⟩:=Zc (RW h);exact⟨a,b,c,d,e,rfl⟩
def qp{us:List α}(h:us.length=6):∃a b c d e f,us=[a,b,c,d,e,f]:=by
 rcases us with _|⟨a,us⟩
 .cases h
 .obtain⟨b,c,d,e,f,rfl⟩:=ZN (RW h);exact⟨a,b,c,d,e,f,rfl⟩
local macro_rules | `(tactic| walk_at "bD1")=>`(tactic| (intro _ _ _ _ _ _ us hl;obtain⟨_,e⟩:=Zn hl;subst e;rfl))
local macro_rules | `(tactic| walk_at "bD2")=>`(tactic| (intro _ _ _ _ _ _ us hl;obtain⟨_,_,e⟩:=ln2 hl;subst e;rfl))
local macro_rules | `(tactic| walk_at "bD3")=>`(tactic| (intro _ _ _ _ _ _ us hl;obtain⟨_,_,_,e⟩:=bW hl;subst e;rfl))
local macro_rules | `(tactic| walk_at "bD4")=>`(tactic| (intro _ _ _ _ _ _ us hl;obtain⟨_,_,_,_,e⟩:=Zc hl;subst e;rfl))
local macro_rules | `(tactic| walk_at "bD5")=>`(tactic| (intro _ _ _ _ _ _ us hl;obtain⟨_,_,_,_,_,e⟩:=ZN hl;subst e;rfl))
local macro_rules | `(tactic| walk_at "bD6")=>`(tactic| (intro _ _ _ _ _ _ us hl;obtain⟨_,_,_,_,_,_,e⟩:=qp hl;subst e;rfl))
abbrev nS(K:ZE7)(x:Str)(v:Value):Prop:=PySem.W.nsIn K mainGlobals x=some (some v)
abbrev nN(K:ZE7)(x:Str):Prop:=PySem.W.nsIn K mainGlobals x=some none
abbrev Xh:Stmt:=Pz (top 4)
local macro_rules | `(tactic| walk_at "z1")=>`(tactic| exact⟨rfl,rfl,rfl,by decide +kernel,rfl,by decide +kernel,by decide +kernel⟩)
local macro_rules | `(tactic| walk_at "z2")=>`(tactic| exact⟨rfl,by decide +kernel,by decide +kernel,rfl,rfl,by decide +kernel,by decide +kernel,by decide +kernel,by decide +kernel⟩)
def yM:B0 ["self","name"] ["self","name"] (AY Xh):=by walk_at "z1"
def jJ(F:AE K "__init__" "Gone.__init__" Xh f fd)(b:Binds K fd ["self","name"] [])(c:J3 K C f "name")(a:NS K S)(KC:mg "StirError"=some (.ref S)):Gm P w K mg Zp C "name" := by
 refine⟨f,fd, "name", c,F.ok (k:=0) yM P7 (λAS A outer s H vs Q E d h=>?_),b⟩;refine⟨_,?_,Qb (N:=["self","name"]) rfl h⟩;exact IG (NJ (Oc (S:=S) a (by rfl) KC c.ex (IP (pv 0) (IP (Pw (pv 1) (by decide)) N0)))) (IG (RF c (pv 0) (pv 1) rfl) N6)
abbrev U0:Stmt:=Pz (top 2)
def ZCb:B0 ["self","name"] ["self","name"] (AY U0):=by walk_at "z1"
def lG(F:AE K "__init__" "NoName.__init__" U0 f fd)(b:Binds K fd ["self","name"] [])(c:J3 K C f "name")(a:NS K S)(KC:mg "StirError"=some (.ref S)):Gm P w K mg Zp C "name" := by
 refine⟨f,fd, "name", c,F.ok (k:=0) ZCb P7 (λAS A outer s H vs Q E d h=>?_),b⟩;refine⟨_,?_,Qb (N:=["self","name"]) rfl h⟩;exact IG (NJ (Oc (S:=S) a (by rfl) KC c.ex (IP (pv 0) (IP (Pw (pv 1) (by decide)) N0)))) (IG (RF c (pv 0) (pv 1) rfl) N6)
abbrev Uw:Stmt:=Pz (top 5)
def xS:B0 ["self","at"] ["self","at"] (AY Uw):=by walk_at "z1"
def zL(F:AE K "__init__" "NoPlace.__init__" Uw f fd)(b:Binds K fd ["self","at"] [])(c:J3 K C f "at")(a:NS K S)(KC:mg "StirError"=some (.ref S)):Gm P w K mg Zp C "at" := by
 refine⟨f,fd, "at", c,F.ok (k:=0) xS P7 (λAS A outer s H vs Q E d h=>?_),b⟩;refine⟨_,?_,Qb (N:=["self","at"]) rfl h⟩;exact IG (NJ (Oc (S:=S) a (by rfl) KC c.ex (IP (pv 0) (IP (Pw (pv 1) (by decide)) N0)))) (IG (RF c (pv 0) (pv 1) rfl) N6)
abbrev Sh:Stmt:=Pz (top 3)
def tS:B0 ["self","name"] ["self","name"] (AY Sh):=by walk_at "z1"
def vm(F:AE K "__init__" "There.__init__" Sh f fd)(b:Binds K fd ["self","name"] [])(c:J3 K C f "name")(a:NS K S)(KC:mg "StirError"=some (.ref S)):Gm P w K mg Zp C "name" := by
 refine⟨f,fd, "name", c,F.ok (k:=0) tS P7 (λAS A outer s H vs Q E d h=>?_),b⟩;refine⟨_,?_,Qb (N:=["self","name"]) rfl h⟩;exact IG (NJ (Oc (S:=S) a (by rfl) KC c.ex (IP (pv 0) (IP (Pw (pv 1) (by decide)) N0)))) (IG (RF c (pv 0) (pv 1) rfl) N6)
open Fz
def ZWM(t:String):Lean.MacroM (Lean.TSyntax `tactic):=do
 let g:Lean.TSyntax `tactic←`(tactic| fail)
 let k←`(tactic| case wk=>rfl)
 let n (s:String):=`(tactic| walk_at $(Lean.quote s):str)
 (t.splitOn " ").foldrM (λs r=>do
  let l:=((s.drop 1).toString.splitOn "/").map λx=>Lean.mkIdent (`Fz++x.toName)
  let h:Lean.Ident:=l.getLast!
  let c:=s.front
  let w:=(h.getId.getString!.toLower.replace "o" "e").replace "i" "e"
  let z←if c=='j' then `($h ?wj ?wk ?_)else if c=='k'||c=='K' then `($h ?wk ?_)else `($h ?_)
  let z←l.dropLast.foldrM (λ(f:Lean.Ident)(z:Lean.Term)=>`($f ($z))) z
  let p←if c=='e' then `(tactic| show ∃_,_=$h _/\_)else if c=='s' then `(tactic| show $h _ _ _)else `(tactic| refine' $z)
  let p←if c=='K'||c=='R'||c=='j' then pure p else `(tactic| with_reducible $p:tactic)
  let q←if c=='e' then `(tactic| refine⟨_,rfl,?_⟩)else if c=='s' then n w else if c=='n' then n "wn" else if c=='p' then n "wp" else if c=='k'||c=='K' then pure k else if c=='j' then `(tactic| ((case wj=>rfl);$k:tactic))else `(tactic| skip)
  `(tactic| first|($p:tactic;$q:tactic) | $r:tactic)) g
local macro_rules | `(tactic| walk_at "wp")=>ZWM "kA6 rCe rES rHD rKd rt9 ru3 rIK rdH rJe raG rKc rQU rwb rGX rz8 rZAB rqP rEZ rgJ rkH rzj rQC rOw ksR rZ2 rdi rxp KZBx Kug KyS KUu"
local macro_rules | `(tactic| walk_at "wn")=>ZWM "rEY rPr rx6 rtJ Ruj roS KZAr jaC"
local macro_rules | `(tactic| walk_at "wq")=>do
 let z←ZWM "kFZ kB2 kEn km8 rqZ"
 `(tactic| first | $z:tactic|(refine Fs (CN ?_);walk_at "wn")|(refine Fs ?_;walk_at "wp"))
local macro_rules | `(tactic| walk_at "wz")=>`(tactic| first
 | ((with_reducible refine' cG ?wk ?_);(case wk=>rfl))
 | (with_reducible refine' hU ?_)
 | (refine QJ (CN ?_);walk_at "wn")
 | (refine QJ ?_;walk_at "wp"))
local macro_rules | `(tactic| walk_at "wt")=>ZWM "rEV rEU rMd rDK rLB rN5"
local macro_rules | `(tactic| walk_at "we")=>ZWM "rB6 rBs rZCT rwV rmP rZ7"
local macro_rules | `(tactic| walk_at "w")=>do
 let z←ZWM "rBO rGA rCc rB5 ki3 kvv nFT pCq kUM nEW pC2"
 let z1←ZWM "eOV.tp eOV.fz"
 let z2←ZWM "sWn sWq sWz sWt sWe sWo sWi"
 let z3←ZWM "ePV.int ePV.str ePV.bl"
 `(tactic| first | $z1:tactic|((with_reducible show ∃_ _,_=OV.nd NK.lst _ _/\_);refine⟨_,_,rfl,?_⟩)|((with_reducible show ∃_ _ _,_=PV.int _/\_/\_/\_);refine⟨_,_,_,rfl,rfl,rfl,?_⟩)|((with_reducible show Wp _ _ _);first|walk_at "wp" | (refine CN ?_;walk_at "wn")) | $z2:tactic|((with_reducible show Ws _ _ _ _);$z:tactic) | $z3:tactic|((with_reducible show(_:Bool)=_/\_);refine⟨rfl,?_⟩)|((with_reducible show ∃_ _,_=PV.int _/\L2.BZ _ _=some _/\_);refine⟨_,_,rfl,rfl,?_⟩)|((with_reducible show ∃_,(_=PV.lst _/\_)∨(_=PV.tup _/\_));first|refine⟨_,.inl ⟨rfl,?_⟩⟩|refine⟨_,.inr ⟨rfl,?_⟩⟩)|((with_reducible show ∃_,_=List.map _ _/\_);first|refine⟨_,rfl,?_⟩|refine⟨[],rfl,?_⟩|refine⟨_,wD _ _,?_⟩))
local macro_rules | `(tactic| walk_at "ww")=>`(tactic| repeat walk_at "w")
def OD:B0 ["script","k","cell","rest_here"] ["script","k"] (AY WB):=by walk_at "z1"
variable(Ar:mg "len"=none)(Me:A9 P w K mg Zp "_law_letters" 1 ["number"] (Zs))(BU:A9 P w K mg Zp "_law_take" 1 ["pot","many"] (Iz))(KY:A9 P w K mg Zp "_law_name" 2 ["pot","names"] (UY K))(IW:mg "range"=none)(Ld:A9 P w K mg Zp "_law_names" 3 ["pot","many"] (RD))(De:mg "sorted"=none)(Ed:mg "tuple"=none)(PC:A9 P w K mg Zp "_law_some_loop" 2 ["pot","row"] (WK))(DT:mg "list"=none)(IF:mg "all"=none)(X0:mg "any"=none)(Kl:mg "set"=none)(UP:A9 P w K mg Zp "is_coming" 1 ["row","coming"] (Ap Sl))(Wr:A9 P w K mg Zp "is_gap" 1 ["row","gap"] (Ap XZ))(Vp:mg "RULES"=some (.ref JQ))(Ur:∀H,Al K H JQ [.str "none",.str "ahead",.str "all"])(TB:A9 P w K mg Zp "is_loop" 2 ["row","thing"] (Ap VS))(Ln:mg "NoLoop"=some (.ref Ab))(Vk:EL K Ab none=true)(KU:BB P w K mg Zp "check_loop" 3 ["row","loop"] (Ba (Oo Ab)))(Td:mg "MOST_THINGS_TRIED"=some (.int 37 Vx))(IS:mg "Full"=some (.ref AD))(LO:EL K AD none=true)(Jx:mg "LETTERS"=some (.str "abcdefghijklmnopqrstuvwxyz" O3))(Le:mg "Gone"=some (.ref AF))(W3:Gm P w K mg Zp AF "name")(Dj:BB P w K mg Zp "place_of" 3 ["row","name"] (Ba (Kk AF)))(KJ:A9 P w K mg Zp "things_to_come" 1 ["things","loop"] (Ap P1))(SV:mg "max"=none)(Ly:mg "min"=none)(D8:mg "STEP"=some (.ref B3))(DS:∀H,Al K H B3 [.str "step"])(Ls:A9 P w K mg Zp "fresh_names" 1 ["row"] (Ap R3))(VW:A9 P w K mg Zp "trial_by_turns" 4 ["row","loop","gap","fresh"] (Ap (Ry K B3)))(Ks:A9 P w K mg Zp "takes_of" 1 ["things"] (Ap Oi))(Lm:A9 P w K mg Zp "coming_without" 1 ["coming","gone"] (Ap Qc))(X9:A9 P w K mg Zp "loop_telling" 4 ["row","loop","name"] (Ap Sw))(Y1:BB P w K mg Zp "rest" 4 ["row","loop"] (Ba (XU Ab)))(XN:mg "MOST_LETTERS"=some (.int 8 Vw))(Tt:A9 P w K mg Zp "is_name" 1 ["text"] (TJ))(UL:mg "MOST_THINGS"=some (.int 40 Ww))(MH:mg "NoName"=some (.ref AL))(To:Gm P w K mg Zp AL "name")(Fw:mg "NoPlace"=some (.ref AH))(Hh:Gm P w K mg Zp AH "at")(La:mg "There"=some (.ref AM))(W2:Gm P w K mg Zp AM "name")(Ts:BB P w K mg Zp "check_move" 4 ["row","name","at"] (Ba (UB ⟨AL,AM,AF,AH,AD⟩)))(UH:BB P w K mg Zp "check_put" 3 ["row","name","at"] (Ba (X3 ⟨AL,AM,AF,AH,AD⟩)))(Sz:BB P w K mg Zp "check_turn" 3 ["row","low","high"] (Ba (Xj ⟨AL,AM,AF,AH,AD⟩)))(TF:mg "reversed"=none)(Xd:BB P w K mg Zp "check_deed" 5 ["row","deed"] (Ba (TL ⟨AL,AM,AF,AH,AD⟩)))(VX:A9 P w K mg Zp "row_turned" 1 ["row","low","high"] (Ap Wm))(OS:A9 P w K mg Zp "row_with" 1 ["row","name","at"] (Ap Wh))(Oj:A9 P w K mg Zp "row_without" 1 ["row","name"] (Ap Wv))(PR:A9 P w K mg Zp "gap_behind_put" 1 ["gap","at"] (Ap XE))(QM:A9 P w K mg Zp "gap_behind_take" 1 ["gap","place"] (Ap SJ))(WV:A9 P w K mg Zp "joins" 1 ["loop","at"] (Ap Us))(RZ:A9 P w K mg Zp "coming_behind" 2 ["loop","deed"] (Ap VA))(Vi:A9 P w K mg Zp "gap_led" 4 ["row","gap","deed"] (Ap TV))(Ra:BB P w K mg Zp "done" 6 ["row","deed"] (Ba (Si ⟨AL,AM,AF,AH,AD⟩)))(Rj:A9 P w K mg Zp "loop_led" 5 ["row","loop","deed"] (Ap UZ))(Ta:BB P w K mg Zp "step" 5 ["row","loop"] (Ba (Xb Ab)))(GV:BB P w K mg Zp "told_in" 7 ["row","loop","trial"] (Ba (Nx K ⟨AL,AM,AF,AH,AD⟩)))(VM:A9 P w K mg Zp "trial_by_coming" 3 ["row","one","other"] (Ap (S7 K B3)))(T5:A9 P w K mg Zp "trial_by_gap" 5 ["row","one","other"] (Ap (SY K B3)))(X7:A9 P w K mg Zp "trial_by_rule" 8 ["row","one","other"] (Ap (Rv K B3 ⟨AL,AM,AF,AH,AD⟩)))(WM:A9 P w K mg Zp "are_twins" 1 ["one","other"] (Ap Li))(LC:BB P w K mg Zp "check_pair" 4 ["row","one","other"] (Ba (P5 Ab AD)))(WE:A9 P w K mg Zp "trial_of" 9 ["row","one","other"] (Ap (UA K B3 ⟨AL,AM,AF,AH,AD⟩)))(T1:A9 P w K mg Zp "part_at_last" 1 ["ones","others"] (Ap W0))(Xx:mg "MOST_ENTRIES"=some (.int 100 T8))(Fu:mg "StirError"=some (.ref Bk))(xo:RA K Bk ⟨AL,AM,AF,AH,AD⟩=true)(TR:BB P w K mg Zp "parted" 10 ["row","one","other"] (Ba (Ug Ab AD)))(Ve:BB P w K mg Zp "trial_judged" 8 ["row","one","other","trial","ones","others"] (Ba (UE Ab AD)))(XR:PySem.W.exmOne K (.ref Ab) (.ref Bk)=some true)(UW:PySem.W.exmOne K (.ref AD) (.ref Bk)=some true)(V5:mg "ValueError"=none)(D6:mg "isinstance"=none)(WH:mg "Endless"=some (.ref Du))(S6:mg "NoLog"=some (.ref E4))(U1:mg "NoOrders"=some (.ref Dk))(TQ:mg "NoRow"=some (.ref E7))(Wj:mg "NoRule"=some (.ref Dn))(X5:mg "NoText"=some (.ref Dv))(Wf:mg "NoTicket"=some (.ref Dr))(Rb:mg "NoWhere"=some (.ref E8))(VN:mg "Stale"=some (.ref Dw))(VF:mg "TooMany"=some (.ref Dl))(RH:A9 P w K mg Zp "_law_alone" 1 ["e","place"] (Ap (TM K [AL,AM,AF,AH,Dn,E4,Dw,E8,Dv,AD,Dl,Ab,Dr,Du,Dk,E7] Bk)))(WS:A9 P w K mg Zp "_law_asked" 11 ["row","one","other","door","trial"] (Ap (WI Ab AD)))(Pp:A9 P w K mg Zp "_law_is_right_loop" 1 ["row","loop"] (Vn K))(U4:A9 P w K mg Zp "_law_twins" 1 ["one","other"] (Ap Li))(Nu:M6 K [AL,AM,AF,AH,Dn,E4,Dw,E8,Dv,AD,Dl,Ab,Dr,Du,Dk,E7] Bk Ab 11=true)(Mz:M6 K [AL,AM,AF,AH,Dn,E4,Dw,E8,Dv,AD,Dl,Ab,Dr,Du,Dk,E7] Bk AD 9=true)(Uv:A9 P w K mg Zp "_law_pair" 3 ["pot","row"] (Ap Vc))(SG:A9 P w K mg Zp "_law_pot" 1 ["script","k"] (V0 K))(Lk:A9 P w K mg Zp "_law_right" 12 ["row","one","other","trial"] (Ap SI))(Su:A9 P w K mg Zp "_law_row" 4 ["pot","most"] (Tj))(Qz:A9 P w K mg Zp "_law_turned_loop" 3 ["pot","row","loop"] (Tu K))
def yG(F:AE K "_law_pot" "_law_pot" WB f fd)(m:mg "_law_pot"=some (.ref f)):
  A9 P w K mg Zp "_law_pot" 1 ["script","k"] (V0 K):=by
 refine A9.mk F (F.binds (by walk_at "bD2")) m (F.BS (k:=0) OD (λvs H Q E h=>?_) (λAS A outer s H vs Q E t h=>?_))
 .obtain⟨a,ns,k,rfl,b,k0,k1,q⟩:=h;rfl
 obtain⟨a,ns,k,rfl,b,k0,k1,q⟩:=h;refine⟨_,(AA rfl (Ad 2 OD.nd A5)
   (AA rfl (C1 (Ak (Ah LZ (qv 1) (B4 Gn Ar (A0 (qv 0) A4))) (A7 rfl (Ad 2 OD.nd (Ax JH (A8 CP (qv 0) (qv 1)) (Ax K2 (Ax K2 (Ax K2 (Ax KW A5 A5) (Ax KW A5 A5)) (Ax KW A5 A5)) (Ax KW A5 A5))))) Ay))
   (AA rfl (Ad 3 OD.nd A5)
   (AA rfl (C1 (Ak (Ah SM (qv 2) (Ax KW A5 A5)) (A7 rfl (Ad 3 OD.nd (qv 2))) Ay))
   (A7 rfl (Af (CO (A0 (qv 3) (A0 (Ax JH (Ax K2 (Ax E5 (Ax E5 (Ax JH (qv 2) A5) (Ax K2 A5 (qv 1))) A5) A5) A5) A4))))))))),?_⟩
 have i:(ns.map V.int).length=ns.length:=Aw _;refine⟨λσ' H'=>∃c:Int,σ'=[some (.ref a),some (.int k),some (.int c),none]/\H=H'/\0<=c/\c<10 ^ 256,?_,?_⟩
 .refine⟨_,rfl,_,rfl,a,_,rfl,.inl b,_,_,rfl,rfl,_,rfl,?_⟩;refine Aa (λc=>?_) (λc=>?_)
  .have r:k<(((ns.map V.int).length:Nat):Int):=lY c;rw[i]at r;have j:k.toNat<ns.length:=by omega
   have g:BZ (ns.map V.int) k=some (.int ns[k.toNat]):=Lh k0 (by rw[Bp,Bb j] <;> rfl)
   refine⟨_,rfl,_,rfl,a,_,_,_,rfl,rfl,b,g,_,_,rfl,rfl,⟨by decide,by decide,by decide +kernel⟩,_,_,rfl,rfl,⟨by decide,by decide,by decide +kernel⟩,_,_,rfl,rfl,⟨by decide +kernel,by decide +kernel⟩,_,_,rfl,rfl,⟨by decide,by decide,by decide +kernel⟩,_,_,rfl,rfl,⟨by decide +kernel,by decide +kernel⟩,
    _,_,rfl,rfl,⟨by decide,by decide,by decide +kernel⟩,_,_,rfl,rfl,⟨by decide +kernel,by decide +kernel⟩,_,_,rfl,rfl,(by show(0:Int)<_;decide +kernel),?_⟩
   exact⟨_,rfl,rfl,Jh _ (by decide +kernel),Jg _ (by decide +kernel)⟩
  .exact⟨0,rfl,rfl,by decide,by decide +kernel⟩
 rintro σ' H'⟨c,rfl,rfl,o,c1⟩;refine⟨λσ' H'=>∃d:Int,σ'=[some (.ref a),some (.int k),some (.int c),some (.int d)]/\H=H'/\0<=d/\d<10 ^ 256,?_,?_⟩
 .refine⟨_,rfl,_,_,rfl,rfl,⟨by decide,by decide,by decide +kernel⟩,_,_,rfl,rfl,_,rfl,?_⟩;refine Aa (λ_=>?_) (λ_=>?_)
  .exact⟨_,rfl,c,rfl,rfl,o,c1⟩
  .exact⟨0,rfl,rfl,by decide,by decide +kernel⟩
 rintro σ' H'⟨d,rfl,rfl,n,l⟩;have e0:0<=c % 2147483629:=Jh _ (by decide);have u:c % 2147483629<2147483629:=Jg _ (by decide);refine⟨_,rfl,_,rfl,_,_,rfl,rfl,(by show(0:Int)<2147483629;decide),_,rfl,_,_,rfl,rfl,⟨by decide +kernel,Lb (by omega) (by omega)⟩,_,_,rfl,rfl,_,_,rfl,rfl,_,_,rfl,rfl,⟨Lb (by omega) (by omega),by decide +kernel⟩,_,_,rfl,rfl,(by show(0:Int)<2147483647;decide),?_⟩;refine⟨(by show 2<=sizeLine;decide),λp e=>?_⟩;exact q p _ e (BX e _) ⟨d,_,AZ,n,l,Jh _ (by decide),Jg _ (by decide)⟩
def eA:B0 ["pot","many","found"] ["pot","many"] (AY Uj):=by walk_at "z1"
def ky(F:AE K "_law_take" "_law_take" Uj f fd)(m:mg "_law_take"=some (.ref f)):
  A9 P w K mg Zp "_law_take" 1 ["pot","many"] (Iz):=by
 refine A9.mk F (F.binds (by walk_at "bD2")) m (F.BS (k:=0) eA (λvs H Q E h=>?_) (λAS A outer s H vs Q E t h=>?_))
 .obtain⟨p,m,rfl,⟨a,b,d,a0,g,b0,l⟩,e,o,q⟩:=h;rfl
 obtain⟨p,m,rfl,⟨a,b,d,a0,g,b0,l⟩,e,o,q⟩:=h;refine⟨_,(AA rfl (Ak (Ah Pd (A8 CP (qv 0) A5) A5) (AA rfl (Ad 2 eA.nd (Ax JH (A8 CP (qv 0) A5) (qv 1)))
   (AA rfl (OE (Ax Rt (A8 CP (qv 0) A5) (qv 1)) (dW (qv 0) A5 set_list))
   (A7 rfl (Af (qv 2))))) Ay)
   (AA rfl (OE (Ax JH (Ax E5 (Ax K2 (A8 CP (qv 0) A5) A5) A5) A5) (dW (qv 0) A5 set_list))
   (A7 rfl (Af (Ax JH (Ax Rt (Ax JH (Ax K2 (A8 CP (qv 0) A5) (A8 CP (qv 0) A5)) A5) A5) (qv 1)))))),?_⟩
 refine⟨_,rfl,p,_,_,_,rfl,rfl,AO.of d,rfl,_,_,rfl,rfl,_,rfl,?_⟩;refine Aa (λc=>?_) (λc=>?_)
 .have u:0<a:=lY c;refine⟨_,rfl,p,_,_,_,rfl,rfl,AO.of d,rfl,_,rfl,_,_,rfl,rfl,e,?_⟩;refine⟨_,rfl,p,_,_,_,rfl,rfl,AO.of d,rfl,_,rfl,_,_,rfl,rfl,⟨e,Lb (by omega) (by omega)⟩,?_⟩;refine⟨_,rfl,p,_,_,_,rfl,rfl,d,rfl,?_⟩;refine⟨_,rfl,?_⟩;refine q _ _ (Jh _ (by omega)) (Jg _ e) ⟨⟨a / m,b,AZ,Int.ediv_nonneg a0 (by omega),ZCk (Int.ediv_le_self _ a0) g,b0,l⟩,G9.upd⟩
 .refine⟨_,rfl,p,_,_,_,rfl,rfl,AO.of d,rfl,_,_,rfl,rfl,⟨Lb (by omega) (by omega),by decide +kernel⟩,_,_,rfl,rfl,_,_,rfl,rfl,(by show(0:Int)<2147483647;decide),?_⟩;refine⟨_,rfl,p,_,_,_,rfl,rfl,d,rfl,?_⟩;have j:0<=(b * 69621+12345) % 2147483647:=Jh _ (by decide);have n:(b * 69621+12345) % 2147483647<2147483647:=Jg _ (by decide);generalize r:(b * 69621+12345) % 2147483647=b' at j n;have i:(upd H p (.lst [.int a,.int ((b * 69621+12345) % 2147483647)])) p=some (.lst [.int a,.int b']):=by rw[AZ,r]
  refine⟨_,rfl,p,_,_,_,rfl,rfl,AO.of i,rfl,_,rfl,p,_,_,_,rfl,rfl,AO.of i,rfl,_,_,rfl,rfl,⟨Lb (by omega) (by omega),Lb (by omega) (by omega)⟩,_,_,rfl,rfl,(by show(0:Int)<2147483629;decide),?_⟩;refine⟨_,_,rfl,rfl,⟨(by show(0:Int)<64;decide),by decide +kernel⟩,_,rfl,_,_,rfl,rfl,e,?_⟩;exact q _ _ (Jh _ (by omega)) (Jg _ e) ⟨⟨a,b',i,a0,g,j,n⟩,G9.upd⟩
def Oh:B0 ["number","word"] ["number"] (AY S8):=by walk_at "z1"
def nO(F:AE K "_law_letters" "_law_letters" S8 f fd)(m:mg "_law_letters"=some (.ref f)):
  A9 P w K mg Zp "_law_letters" 1 ["number"] (Zs):=by
 refine A9.mk F (F.binds (by walk_at "bD1")) m (F.BS (k:=0) Oh (λvs H Q E h=>?_) (λAS A outer s H vs Q E u h=>?_))
 .obtain⟨r,rfl,j,o,q⟩:=h;rfl
 obtain⟨r,rfl,j,o,q⟩:=h;refine⟨_,(AA rfl (Ad 1 Oh.nd Au)
   (AA rfl (C1 (gL OO (Jc (Ah BN (qv 1) Au) (JM (Ah Pd (qv 0) A5))).pt (AA rfl (Ad 1 Oh.nd (Ax OX (qv 1) (A8 ZCF Au (Ax JH (qv 0) A5))))
   (A7 rfl (Ad 0 Oh.nd (Ax Rt (qv 0) A5))))))
   (A7 rfl (Af (qv 1))))),?_⟩
 obtain⟨n,rfl⟩:=Ie j;have hn:n<26 ^ 8:=by omega
 rw[RN]at q;refine⟨λσ' H'=>∃v,σ'=[some v,some (.str (Cr (MA.lets n)))]/\H=H',?_,?_⟩
 .refine⟨λm σ' H'=>∃(k:Nat)(pre:List Nat),σ'=[some (.int k),some (.str (Cr pre))]/\H=H'/\((pre=[]/\k=n/\m=n+2)∨(pre≠[]/\m=k+1/\(0<k->pre++MA.lets k=MA.lets n)/\(k=0->pre=MA.lets n))),⟨n+2,n,[],rfl,rfl,.inl ⟨rfl,rfl,rfl⟩⟩,?_⟩;rintro m σ' H'⟨k,pre,rfl,rfl,l⟩;refine⟨_,rfl,rfl,_,rfl,?_⟩;refine Aa (λc=>Y3 ?_) (λc=>⟨_,rfl,_,_,rfl,rfl,_,rfl,?_⟩)
  .have e:pre=[]:=bc.mp (lY c);obtain⟨_,b,p⟩|⟨h,_⟩:=l
   .have d:pre++MA.lets k=MA.lets n:=by rw[e,b];rfl
    have a:pre.length+1<=8:=by
     have h1:=qz List.length d;rw[Bh]at h1;have h2:=MA.Qh 7 n hn;have t:=MA.Vo k;omega
    refine⟨λσ' H'=>σ'=[some (.int ((k:Int) / 26)),some (.str (Cr pre++⟨#[97+((k:Int) % 26).toNat]⟩))]/\H=H',?_,?_⟩
    .rintro σ' H'⟨rfl,rfl⟩;have nx:=eB d;have i:((k:Int) % 26).toNat=k % 26:=by omega
     have g:(k:Int) / 26=((k / 26:Nat):Int):=by omega
     exact⟨k / 26+1,by omega,k / 26,pre++[97+k % 26],by rw[i,g,ZR],rfl,.inr ⟨by simp,rfl,nx.1,nx.2⟩⟩
    .refine⟨_,rfl,_,rfl,_,_,rfl,rfl,(by show(0:Int)<26;decide),_,_,_,rfl,rfl,(by decide +kernel),bf (Jh _ (by decide)) (Jg _ (by decide)),_,_,rfl,rfl,?_,?_⟩
     .rw[Q7];exact small (show pre.length+1<=_ by omega)
     .exact⟨_,rfl,_,_,rfl,rfl,⟨(by show(0:Int)<26;decide),by decide +kernel⟩,rfl,rfl⟩
   .exact absurd e h
  .have e:pre≠[]:=λh=>c (lD (bc.mpr h));obtain⟨h,_⟩|⟨_,p,h1,h2⟩:=l
   .exact absurd h e
   refine Aa (λc2=>?_) (λc2=>?_)
   .have b:0<k:=by have:(0:Int)<k:=lY c2;omega
    have d:=h1 b;have a:pre.length+1<=8:=by
     have h1:=qz List.length d;rw[Bh]at h1;have h2:=MA.Qh 7 n hn;have t:=MA.Vo k;omega
    refine⟨λσ' H'=>σ'=[some (.int ((k:Int) / 26)),some (.str (Cr pre++⟨#[97+((k:Int) % 26).toNat]⟩))]/\H=H',?_,?_⟩
    .rintro σ' H'⟨rfl,rfl⟩;have nx:=eB d;have i:((k:Int) % 26).toNat=k % 26:=by omega
     have g:(k:Int) / 26=((k / 26:Nat):Int):=by omega
     exact⟨k / 26+1,by omega,k / 26,pre++[97+k % 26],by rw[i,g,ZR],rfl,.inr ⟨by simp,rfl,nx.1,nx.2⟩⟩
    .refine⟨_,rfl,_,rfl,_,_,rfl,rfl,(by show(0:Int)<26;decide),_,_,_,rfl,rfl,(by decide +kernel),bf (Jh _ (by decide)) (Jg _ (by decide)),_,_,rfl,rfl,?_,?_⟩
     .rw[Q7];exact small (show pre.length+1<=_ by omega)
     .exact⟨_,rfl,_,_,rfl,rfl,⟨(by show(0:Int)<26;decide),by decide +kernel⟩,rfl,rfl⟩
   .have b:k=0:=by
     have:¬ (0:Int)<k:=λz=>c2 (lD z);omega
    exact⟨_,by rw[h2 b],rfl⟩
 .rintro σ' H'⟨v,rfl,rfl⟩;exact⟨_,rfl,q _ (AJ.refl _)⟩
def GY:B0 ["pot","names","some","way","name","number"] ["pot","names"] (AY SW):=by walk_at "z1"
def ZAg(F:AE K "_law_name" "_law_name" SW f fd)(m:mg "_law_name"=some (.ref f)):
  A9 P w K mg Zp "_law_name" 2 ["pot","names"] (UY K):=by
 refine A9.mk F (F.binds (by walk_at "bD2")) m (F.BS (k:=1) GY (λvs H Q E h=>?_) (λAS A outer s H vs Q E g h=>?_))
 .obtain⟨p,q,ns,rfl,U,B,AU,X,hL,K1⟩:=h;rfl
 obtain⟨p,q,ns,rfl,U,B,AU,X,hL,K1⟩:=h;refine⟨_,(AA rfl (Ad 2 GY.nd (BP (A0 Au (A0 Au (A0 Au (A0 Au (A0 Au (A0 Au (A0 Au (A0 Au (A0 Au (A0 Au (A0 Au (A0 Au (A0 Au A4)))))))))))))))
   (AA rfl (Ad 3 GY.nd (AV BU g (A0 (qv 0) (A0 A5 A4))))
   (AA rfl (Ad 4 GY.nd (A8 AI (qv 2) (AV BU g (A0 (qv 0) (A0 A5 A4)))))
   (AA rfl (C1 (Ak (Ah BN (qv 3) A5) (A7 rfl (Ad 4 GY.nd (AV Me g (A0 (AV BU g (A0 (qv 0) (A0 (Ax Sj (Ax KW A5 A5) A5) A4))) A4)))) Ay))
   (AA rfl (C1 (Ak (J7 (Ah BN (qv 3) A5) (JU (Ah (J8 g.Gw) (qv 1) (CO A4)))).pt (AA rfl (Ad 4 GY.nd (A8 CP (qv 1) (AV BU g (A0 (qv 0) (A0 (B4 Gn Ar (A0 (qv 1) A4)) A4)))))
   (A7 rfl (Ad 4 GY.nd (FG dw (Ax OX (qv 4) (AV Me g (A0 (AV BU g (A0 (qv 0) (A0 A5 A4))) A4))) Fp (Ey A5))))) Ay))
   (AA rfl (C1 (Ak (J7 (Ah BN (qv 3) A5) (JU (Ah (J8 g.Gw) (qv 1) (CO A4)))).pt (AA rfl (Ad 4 GY.nd (A8 CP (qv 1) (AV BU g (A0 (qv 0) (A0 (B4 Gn Ar (A0 (qv 1) A4)) A4)))))
   (A7 rfl (Ad 4 GY.nd (FG dw (qv 4) Fp (Ey (Ax E5 A5 (AV BU g (A0 (qv 0) (A0 (B4 Zk Ar (A0 (qv 4) A4)) A4))))))))) Ay))
   (AA rfl (Ad 5 GY.nd A5)
   (AA rfl (C1 (gL OO (Ah KQ (qv 4) (qv 1)) (AA rfl (Ad 4 GY.nd (AV Me g (A0 (qv 5) A4)))
   (A7 rfl (Ad 5 GY.nd (Ax E5 (qv 5) A5))))))
   (A7 rfl (Af (qv 4))))))))))),?_⟩
 have I:(ns.map V.str).length=ns.length:=Aw _;have B:AO K H q (ns.map V.str):=AO.of B;refine⟨(by show 13<=sizeLine;decide +kernel),λo Zv=>?_⟩;have Eh:o≠p:=by
  obtain⟨_,_,e,_⟩:=U;exact(Dd e Zv).symm
 have g0:B1 p H (upd H o (.tup PB)):=B1.of U (BX Zv _);refine⟨_,rfl,p,4,rfl,g0.AQ,by decide,by decide,λd H1 w0 w1 s1=>?_⟩;refine⟨_,rfl,_,rfl,p,13,rfl,s1.AQ,by decide,by decide,λi H2 i0 u s2=>?_⟩;have h2:H2 o=some (.tup PB):=s2.at' (s1.at' AZ Eh) Eh;obtain⟨x,hx,nx⟩:=vq i0 u;refine⟨o,_,_,_,rfl,rfl,Al.of h2,hx,?_⟩;have g2:=g0.trans (s1.trans s2);refine⟨λσ' H'=>∃x,σ'=[some (.ref p),some (.ref q),some (.ref o),some (.int d),some (.str x),none]/\Nm x/\B1 p H H',?_,?_⟩
 .refine⟨_,rfl,rfl,_,rfl,?_⟩;refine Aa (λc=>?_) (λc=>?_)
  .refine⟨_,rfl,_,_,rfl,rfl,⟨by decide,by decide,by decide +kernel⟩,_,_,rfl,rfl,p,_,rfl,g2.AQ,mE,w8,λr H3 G N Y=>?_⟩;have L:r<26 ^ 8:=Int.lt_trans N jT;exact⟨r,rfl,G,L,λH4 s4=>⟨_,rfl,Ul (Zt G L),(g2.trans Y).trans (B1.of Y.AQ s4)⟩⟩
  .exact⟨x,rfl,nx,g2⟩
 clear h2 hx nx s2 g2 i0 u;rintro σ' H3⟨y,rfl,t,l⟩;refine⟨λσ' H'=>∃x,σ'=[some (.ref p),some (.ref q),some (.ref o),some (.int d),some (.str x),none]/\Nm x/\B1 p H H',?_,?_⟩
 .refine⟨_,rfl,rfl,_,rfl,?_⟩;refine Aa (λc=>?_) (λc=>D7 ⟨y,rfl,t,l⟩);refine⟨_,rfl,(by show 0<=sizeLine;decide),λe W=>?_⟩;have b:=l.trans (B1.of l.AQ (BX W (.lst [])));have M:=b.O1 B AU;refine⟨q,e,_,[],rfl,rfl,.inl ⟨M,AO.of AZ⟩,HY ns,rfl,_,rfl,?_⟩;rw[P2];refine Aa (λc2=>?_) (λc2=>⟨y,rfl,t,b⟩);have GW:0<ns.length:=by
   cases ns with
   |nil=>simp at c2
   |cons a r=>simp
  refine⟨_,rfl,_,rfl,_,rfl,q,_,rfl,.inl M,p,_,rfl,b.AQ,(by rw[I];omega),(by rw[I];omega),λi H5 i0 u S=>?_⟩;rw[I]at u;have D:=b.trans S;obtain⟨z,T,Uy,_⟩:=Kw i0 u;have C:=X z Uy;refine⟨q,_,_,_,rfl,rfl,D.O1 B AU,T,?_⟩;refine⟨_,rfl,_,rfl,p,26,rfl,D.AQ,by decide,by decide,λr H6 G N R=>?_⟩;have O:=D.trans R;have L:r<26 ^ 8:=Int.lt_trans N wq;refine⟨r,rfl,G,L,λH7 s7=>?_⟩;have O:=O.trans (B1.of O.AQ s7);have nl:=Ul (n:=r.toNat) (Zt G L);have σ:z.length+(Cr (MA.lets r.toNat)).length<=16:=by have:=C.2.1;have:=nl.2.1;omega
  refine⟨_,_,rfl,rfl,small (by omega),?_⟩;refine⟨_,rfl,_,rfl,small (by rw[Yu];omega),?_⟩;refine⟨_,rfl,eM (by decide) (by decide) (by rw[Yu];have:=C.1;omega) (λc J=>?_),O⟩;rw[dI]at J;rcases List.mem_append.mp J with J|J
  .exact C.2.2 c J
  .exact nl.2.2 c J
 clear t l;rintro σ' H3⟨y,rfl,t,l⟩;refine⟨λσ' H'=>∃x,σ'=[some (.ref p),some (.ref q),some (.ref o),some (.int d),some (.str x),none]/\Nm x/\B1 p H H',?_,?_⟩
 .refine⟨_,rfl,rfl,_,rfl,?_⟩;refine Aa (λc=>?_) (λc=>D7 ⟨y,rfl,t,l⟩);refine⟨_,rfl,(by show 0<=sizeLine;decide),λe W=>?_⟩;have b:=l.trans (B1.of l.AQ (BX W (.lst [])));have M:=b.O1 B AU;refine⟨q,e,_,[],rfl,rfl,.inl ⟨M,AO.of AZ⟩,HY ns,rfl,_,rfl,?_⟩;rw[P2];refine Aa (λc2=>?_) (λc2=>⟨y,rfl,t,b⟩);have GW:0<ns.length:=by
   cases ns with
   |nil=>simp at c2
   |cons a r=>simp
  refine⟨_,rfl,_,rfl,_,rfl,q,_,rfl,.inl M,p,_,rfl,b.AQ,(by rw[I];omega),(by rw[I];omega),λi H5 i0 u S=>?_⟩;rw[I]at u;have D:=b.trans S;obtain⟨z,T,Uy,_⟩:=Kw i0 u;have C:=X z Uy;refine⟨q,_,_,_,rfl,rfl,D.O1 B AU,T,?_⟩;have tH:=C.1;have nz2:=C.2.1;refine⟨_,rfl,_,rfl,_,rfl,_,rfl,small (by omega),p,_,rfl,D.AQ,(by omega),(by omega),λr H6 G N R=>?_⟩;refine⟨_,_,rfl,rfl,_,rfl,_,rfl,small (by omega),?_⟩;exact⟨_,rfl,eM (by omega) (by omega) tH C.2.2,D.trans R⟩
 clear t l;rintro σ' H3⟨y,rfl,t,l⟩;refine⟨λσ' H'=>∃x v,σ'=[some (.ref p),some (.ref q),some (.ref o),some (.int d),some (.str x),some v]/\Nm x/\x∉ns/\B1 p H H',?_,?_⟩
 .refine⟨λm σ' H'=>∃(k:Nat)(x:Str),σ'=[some (.ref p),some (.ref q),some (.ref o),some (.int d),some (.str x),some (.int k)]/\B1 p H H'/\Nm x/\m=ns.length+1 - k/\k<=ns.length+1/\(0<k->x=Cr (MA.lets (k - 1)))/\(∀j,j+1<k->Cr (MA.lets j)∈ns),
   ⟨ns.length+1,0,y,rfl,l,t,rfl,CJ _,λh=>absurd h (by decide),λj h=>absurd h (by omega)⟩,?_⟩
  rintro m σ' H'⟨k,x,rfl,b,nx,rfl,hk,hx,hj⟩;refine⟨_,rfl,_,rfl,q,_,rfl,.inl (b.O1 B AU),rfl,HY ns,_,rfl,?_⟩;rw[lA (by decide),Nn];refine Aa (λc=>?_) (λc=>⟨x,_,rfl,nx,λz=>c (lD z),b⟩);have GU:x∈ns:=lY c;have LS:∀j,j<k->Cr (MA.lets j)∈ns:=λj Vf=>by
   by_cases e:j+1<k
   .exact hj j e
   .have e2:j=k - 1:=by omega
    rw[e2,<- hx (by omega)];exact GU
  have Qe:=qg LS;refine⟨λσ' H'=>σ'=[some (.ref p),some (.ref q),some (.ref o),some (.int d),some (.str (Cr (MA.lets k))),some (.int ((k:Int)+1))]/\B1 p H H',?_,?_⟩
  .rintro σ' H'⟨rfl,b⟩;exact⟨ns.length+1 - (k+1),by omega,k+1,Cr (MA.lets k),rfl,b,Ul (HM (Bq Qe hL) xl),rfl,by omega,λ_=>rfl,λj Vf=>LS j (by omega)⟩
  .refine⟨_,rfl,k,rfl,by omega,?_,λH4 s4=>?_⟩
   .have:(k:Int)<=1000:=by omega
    exact ZCk this ZA5
   .rw[RN];exact⟨_,rfl,_,_,rfl,rfl,rfl,b.trans (B1.of b.AQ s4)⟩
 rintro σ' H'⟨x,v,rfl,nx,hx,b⟩;exact⟨_,rfl,K1 x H' nx hx b⟩
def Ut:B0 ["pot","many","names","k"] ["pot","many"] (AY Sy):=by walk_at "z1"
def xr(F:AE K "_law_names" "_law_names" Sy f fd)(m:mg "_law_names"=some (.ref f)):
  A9 P w K mg Zp "_law_names" 3 ["pot","many"] (RD):=by
 refine A9.mk F (F.binds (by walk_at "bD2")) m (F.BS (k:=2) Ut (λvs H Q E h=>?_) (λAS A outer s H vs Q E u h=>?_))
 .obtain⟨p,m,rfl,j,r,o,q⟩:=h;rfl
 obtain⟨p,m,rfl,j,r,o,q⟩:=h;refine⟨_,(AA rfl (Ad 2 Ut.nd (CO A4))
   (AA rfl (C1 (NB OO rfl (SX rfl IW (A0 (qv 1) A4)) (Fi 3 Ut.nd) (A7 rfl (D1 (Gg HN OP OQ LY (qv 2) (A0 (AV KY u (A0 (qv 0) (A0 (qv 2) A4))) A4))))))
   (A7 rfl (Af (qv 2))))),?_⟩
 refine⟨(by show 0<=sizeLine;decide),λl c=>?_⟩;have d:=j.ne c;refine⟨λσ' H'=>∃(ns:List Str)(v:Option V),σ'=[some (.ref p),some (.int m),some (.ref l),v]/\B1 p H H'/\H' l=some (.lst (ns.map V.str))/\(ns.length:Int)=m/\(∀x∈ns,Nm x)/\ns.Nodup,?_,?_⟩
 .refine⟨_,rfl,m,rfl,by omega,by omega,mL (n:=m.toNat) (λi σ' H'=>∃(ns:List Str)(v:Option V),σ'=[some (.ref p),some (.int m),some (.ref l),v]/\B1 p H H'/\H' l=some (.lst (ns.map V.str))/\ns.length=i/\(∀x∈ns,Nm x)/\ns.Nodup) ?_ ?_ ?_⟩
  .exact⟨[],none,rfl,(B1.of j (AJ.refl H)).upd c d,AZ,rfl,λx hx=>absurd hx (by simp),by simp⟩
  .rintro i σ' H' hi⟨ns,v,rfl,g,e,a,b,nd⟩;refine⟨_,rfl,.inl ⟨rfl,_,AO.of e⟩,_,rfl,_,rfl,p,l,ns,rfl,g.AQ,e,d,b,by omega,λx H2 nx hx s2=>?_⟩;refine⟨l,_,_,rfl,rfl,s2.at' e d,HM (m:=100) (by rw[Aw];omega) (by decide +kernel),?_⟩;refine⟨ns++[x],_,rfl,(g.trans s2).upd c d,by rw[AZ,EG];rfl,by rw[Bh];simp[a],λy t=>?_,Ru nd hx⟩;rcases List.mem_append.mp t with h|h
   .exact b y h
   .have:y=x:=by simpa using h
    rw[this];exact nx
  .rintro σ' H'⟨ns,v,rfl,g,e,a,b,nd⟩;exact⟨ns,v,rfl,g,e,by omega,b,nd⟩
 rintro σ' H'⟨ns,v,rfl,g,e,a,b,nd⟩;exact⟨_,rfl,q l H' ns c g e a b nd⟩
def WY:B0 ["pot","most","many"] ["pot","most"] (AY XG):=by walk_at "z1"
def ZBK(F:AE K "_law_row" "_law_row" XG f fd)(m:mg "_law_row"=some (.ref f)):
  A9 P w K mg Zp "_law_row" 4 ["pot","most"] (Tj):=by
 refine A9.mk F (F.binds (by walk_at "bD2")) m (F.BS (k:=3) WY (λvs H Q E h=>?_) (λAS A outer s H vs Q E b h=>?_))
 .obtain⟨p,m,rfl,i,c,u,q⟩:=h;rfl
 obtain⟨p,m,rfl,i,c,u,q⟩:=h;refine⟨_,(AA rfl (Ad 2 WY.nd (AV BU b (A0 (qv 0) (A0 (Ax E5 (qv 1) A5) A4))))
   (AA rfl (C1 (Ak (Ah BN (AV BU b (A0 (qv 0) (A0 A5 A4))) A5) (A7 rfl (Ad 2 WY.nd (A8 AI (BP (A0 A5 (A0 A5 (A0 (qv 1) A4)))) (AV BU b (A0 (qv 0) (A0 A5 A4)))))) Ay))
   (A7 rfl (Af (AV Ld b (A0 (qv 0) (A0 (qv 2) A4))))))),?_⟩
 refine⟨_,rfl,_,rfl,_,_,rfl,rfl,p,_,rfl,i,by omega,by omega,λa H1 n0 I s1=>?_⟩;refine⟨λσ' H'=>∃k:Int,σ'=[some (.ref p),some (.int m),some (.int k)]/\0<=k/\k<=m/\B1 p H H',?_,?_⟩
 .refine⟨_,rfl,p,8,rfl,s1.AQ,by decide,by decide,λr H2 G D s2=>?_⟩;have g2:=s1.trans s2;refine⟨rfl,_,rfl,?_⟩;refine Aa (λ_=>?_) (λ_=>⟨a,rfl,n0,by omega,g2⟩);refine⟨_,rfl,(by show 3<=sizeLine;decide +kernel),λt d=>?_⟩;have C:=g2.AQ.ne d;have o:=g2.trans (B1.of g2.AQ (BX d (.tup [.int 0,.int 1,.int m])));refine⟨_,rfl,p,3,rfl,o.AQ,by decide,by decide,λj H4 x v s4=>?_⟩;obtain⟨k,z,k0,k1⟩:=sA x v c;exact⟨t,_,_,_,rfl,rfl,Al.of (s4.at' AZ C),z,k,rfl,k0,k1,o.trans s4⟩
 rintro σ' H'⟨k,rfl,k0,k1,g⟩;refine⟨_,rfl,_,rfl,p,k,rfl,g.AQ,k0,by omega,λl H' ns y s e n B nd=>?_⟩;exact q l H' ns (g.none y) (g.trans s) e (by omega) B nd
def Mf:B0 ["pot","row","coming","share","name","rule"] ["pot","row"] (AY SH):=by walk_at "z1"
def jH(F:AE K "_law_some_loop" "_law_some_loop" SH f fd)(m:mg "_law_some_loop"=some (.ref f)):
  A9 P w K mg Zp "_law_some_loop" 2 ["pot","row"] (WK):=by
 refine A9.mk F (F.binds (by walk_at "bD2")) m (F.BS (k:=1) Mf (λvs H Q E h=>?_) (λAS A outer s H vs Q E u h=>?_))
 .obtain⟨p,q,ns,rfl,D,b,AU,R,nd,K1⟩:=h;rfl
 obtain⟨p,q,ns,rfl,D,b,AU,R,nd,K1⟩:=h;refine⟨_,(AA rfl (Ad 2 Mf.nd (CO A4))
   (AA rfl (Ad 3 Mf.nd (Ax E5 A5 (AV BU u (A0 (qv 0) (A0 A5 A4)))))
   (AA rfl (C1 (NB OO rfl (GH (qv 1)) (Fi 4 Mf.nd) (A7 rfl (Ak (Ah LZ (AV BU u (A0 (qv 0) (A0 A5 A4))) (qv 3)) (A7 rfl (D1 (Gg HN OP OQ LY (qv 2) (A0 (qv 4) A4)))) Ay))))
   (AA rfl (Ad 5 Mf.nd (A8 AI (BP (A0 Au (A0 Au (A0 Au A4)))) (AV BU u (A0 (qv 0) (A0 A5 A4)))))
   (A7 rfl (Af (BP (A0 (qv 5) (A0 (AV BU u (A0 (qv 0) (A0 (Ax E5 (B4 Gn Ar (A0 (qv 1) A4)) A5) A4))) (A0 (Eg OB Ed (A0 (B4 QQ De (A0 (qv 2) A4)) A4)) A4)))))))))),?_⟩
 have z:=Cw ns;refine⟨(by show 0<=sizeLine;decide),λl HJ=>?_⟩;have n:=D.ne HJ;have hlq:l≠q:=(Dd b HJ).symm;have g0:B1 p H (upd H l (.lst [])):=B1.of D (BX HJ _);refine⟨_,rfl,p,4,rfl,g0.AQ,by decide,by decide,λJ H1 _ _ s1=>⟨_,_,rfl,rfl,?_⟩⟩;have g1:=g0.trans s1;refine⟨λσ' H'=>∃(cs:List Str)(v:Option V),σ'=[some (.ref p),some (.ref q),some (.ref l),some (.int (1+J)),v,none]/\B1 p H H'/\H' l=some (.lst (cs.map V.str))/\cs.Sublist ns,?_,?_⟩
 .refine⟨_,rfl,false,q,_,rfl,AO.of (g1.at' b AU),wX (λi σ' H'=>∃(cs:List Str)(v:Option V),σ'=[some (.ref p),some (.ref q),some (.ref l),some (.int (1+J)),v,none]/\B1 p H H'/\H' l=some (.lst (cs.map V.str))/\cs.Sublist (ns.take i)) ?_ ?_ ?_ ?_⟩
  .exact⟨[],none,rfl,g1,s1.at' AZ n,ZCx _⟩
  .rintro i σ' H' _⟨cs,v,rfl,g,e,a⟩;exact AO.of (g.at' b AU)
  .rintro i x σ' H' hx⟨cs,v,rfl,g,e,a⟩;obtain⟨y,rfl,S⟩:=sg hx;have hi:i<ns.length:=(List.getElem?_eq_some_iff.mp S).1;have Y:ns.take (i+1)=ns.take i++[y]:=by
    rw[List.take_succ,S];rfl
   have I:cs.length<=40:=by
    have h1:=a.length_le;rw[Bx]at h1;omega
   refine⟨_,rfl,p,4,rfl,g.AQ,by decide,by decide,λr H2 r0 r1 s2=>⟨_,rfl,_,_,rfl,rfl,_,rfl,?_⟩⟩;have d:=s2.at' e n;refine Aa (λc=>?_) (λc=>?_)
   .refine⟨_,rfl,.inl ⟨rfl,_,AO.of d⟩,_,rfl,l,_,_,rfl,rfl,d,HM (m:=40) (by rw[Aw];exact I) (by decide +kernel),?_⟩;exact⟨cs++[y],_,rfl,(g.trans s2).upd HJ n,by rw[AZ,EG];rfl,by rw[Y];exact a.append (List.Sublist.refl _)⟩
   .exact⟨cs,_,rfl,g.trans s2,d,by rw[Y];exact a.trans (List.sublist_append_left _ _)⟩
  .rintro σ' H'⟨cs,v,rfl,g,e,a⟩;rw[z,L8]at a;exact⟨cs,v,rfl,g,e,a⟩
 rintro σ' H2⟨cs,v,rfl,g2,d,a⟩;refine⟨(by show 3<=sizeLine;decide),λσ G6=>?_⟩;have Kn:=g2.AQ.ne G6;have O:=BX G6 (.tup (Df.map V.str));have X:=g2.trans (B1.of g2.AQ O);refine⟨_,rfl,p,3,rfl,X.AQ,by decide,by decide,λj H4 j0 j1 s4=>?_⟩;obtain⟨r,NA,MB⟩:=aF j0 j1;refine⟨σ,_,_,_,rfl,rfl,Al.of (s4.at' AZ Kn),NA,?_⟩;have G:=X.trans s4;have q4:=G.at' b AU;refine⟨_,rfl,_,rfl,_,rfl,q,_,rfl,.inl (AO.of q4),_,_,rfl,rfl,p,_,rfl,G.AQ,(by rw[z];omega),(by rw[z];omega),λW H5 p0 p1 L=>?_⟩;rw[z]at p1;have B:=G.trans L;have e5:=L.at' (s4.at' (O _ _ d) n) n;have I:cs.length<=40:=Bq a.length_le R;refine⟨_,rfl,l,false,cs,rfl,AO.of e5,by omega,λl2 o C6 JF B9=>?_⟩;have C:=BX C6 (.lst (o.map V.str));refine⟨l2,_,rfl,.inl ⟨AO.of AZ,λc U=>?_⟩⟩;have N:=BX U (.tup (o.map V.str));refine⟨(by show 3<=sizeLine;decide),λt T=>?_⟩;have M:=BX T (.tup [.str r,.int W,.ref c]);have g8:=B.trans (B1.of B.AQ (C.trans (N.trans M)));have kf:o.Nodup:=JF.nodup_iff.mpr (nd.sublist a);refine K1 t c r W o _ (B.none (AJ.none (C.trans N) T)) (B.none (AJ.none C U)) g8 AZ (M _ _ AZ) ⟨MB,p0,by omega,Oe B9 kf,λx hx=>a.subset (JF.mem_iff.mp hx),by rw[JF.length_eq];exact I⟩
def Fe:B0 ["pot","row","one","other","way","name","coming"] ["pot","row"] (AY Q8):=by walk_at "z1"
noncomputable abbrev Sc(l):=Scope.mk .function l false false []
def pI:=Sc [(".0",.local),("some",.local),("name",.free)]
def kT:DL ["pot","row","one","other","way","name","coming"] (AY Q8) pI "some" ["name"] [5]:=by walk_at "z2"
def aU : ∀ss R,Vc ss R->ss.length=2:=by rintro _ _⟨ns,rfl,_,rfl⟩;rfl
def yc(F:AE K "_law_pair" "_law_pair" Q8 f fd)(m:mg "_law_pair"=some (.ref f)):
  A9 P w K mg Zp "_law_pair" 3 ["pot","row"] (Ap Vc):=by
 refine A9.mk F (F.binds (by walk_at "bD2")) m (F.BS (k:=2) Fe (λvs H Q E h=>Fz.CA aU h) (λAS A outer s H vs Q E l h=>?_))
 refine⟨_,(AA rfl (Ad 2 Fe.nd (AV PC l (A0 (qv 0) (A0 (qv 1) A4))))
   (AA rfl (Ad 3 Fe.nd (AV PC l (A0 (qv 0) (A0 (qv 1) A4))))
   (AA rfl (Ad 4 Fe.nd (AV BU l (A0 (qv 0) (A0 A5 A4))))
   (AA rfl (C1 (Ak (Ah BN (qv 4) A5) (A7 rfl (Ad 3 Fe.nd (BP (A0 (A8 AI (qv 3) A5) (A0 (A8 AI (qv 2) A5) (A0 (A8 AI (qv 2) A5) A4)))))) Ay))
   (AA rfl (C1 (Ak (Ah BN (qv 4) A5) (A7 rfl (Ad 3 Fe.nd (BP (A0 (A8 AI (qv 2) A5) (A0 (A8 AI (qv 3) A5) (A0 (A8 AI (qv 2) A5) A4)))))) Ay))
   (AA rfl (C1 (Ak (Ah BN (qv 4) A5) (A7 rfl (Ad 3 Fe.nd (BP (A0 (A8 AI (qv 2) A5) (A0 (A8 AI (qv 2) A5) (A0 (A8 AI (qv 3) A5) A4)))))) Ay))
   (AA rfl (C1 (Ak (Ah BN (qv 4) A5) (A7 rfl (Ad 3 Fe.nd (BP (A0 (A8 AI (qv 3) A5) (A0 (A8 AI (qv 3) A5) (A0 (A8 AI (qv 2) A5) A4)))))) Ay))
   (AA rfl (C1 (Ak (J7 (Ah BN (qv 4) A5) (JU (Ah (J8 l.Gw) (qv 1) (CO A4)))).pt (AA rfl (Ad 5 Fe.nd (A8 CP (qv 1) (AV BU l (A0 (qv 0) (A0 (B4 EK Ar (A0 (qv 1) A4)) A4)))))
   (AA rfl (og (i:=6) Fe.nd rfl (Or.inl rfl) rfl kT (GH (A8 AI (qv 2) A5)) (λ_ _ _ _=>by exact(MJ (Ah Jb (qv 1) (qv 0)))) (λ_ _ _ _=>by exact(qv 1)))
   (AA rfl (C1 (Ak (Ah QL (qv 5) (A8 AI (qv 2) A5)) (A7 rfl (D1 (Gg HN OP OQ LY (qv 6) (A0 (qv 5) A4)))) Ay))
   (A7 rfl (Ad 3 Fe.nd (BP (A0 (A8 AI (qv 2) A5) (A0 (A8 AI (qv 2) A5) (A0 (Eg OB Ed (A0 (B4 QQ De (A0 (qv 6) A4)) A4)) A4))))))))) Ay))
   (AA rfl (C1 (Ak (Ah BN (qv 4) A5) (AA rfl (Ad 2 Fe.nd (BP (A0 (A8 AI (qv 2) A5) (A0 (A8 AI (qv 2) A5) (A0 (FG Fz.JB (A8 AI (qv 2) A5) Fp (Ey (AV BU l (A0 (qv 0) (A0 A5 A4))))) A4)))))
   (A7 rfl (Ad 3 Fe.nd (BP (A0 (A8 AI (qv 2) A5) (A0 (A8 AI (qv 3) A5) (A0 (A8 AI (qv 2) A5) A4))))))) Ay))
   (A7 rfl (Af (BP (A0 (qv 2) (A0 (qv 3) A4)))))))))))))),?_⟩
 refine Fz.C9 h aU ?_;rintro _ _⟨ns,rfl,p,rfl⟩;show Ws [_,_,.any,.any,.any,.any,.any] _ _ _;have v:=p.len;refine BO (Cq (ZJ rfl (B2 rfl ⟨rfl,ns,rfl,v,p.nd,λn g1 c1 G M=>?_⟩)));refine BO (Cq (ZJ rfl (B2 rfl ⟨rfl,ns,rfl,v,p.nd,λq g2 c2 I Jo=>?_⟩)))
 walk_at "ww"
 refine⟨by decide,by decide,λw U T=>?_⟩;obtain⟨k1,D,a⟩:∃k1:Lp,E2 n g1 c1=k1.P/\k1.Good ns:=⟨⟨n,g1,c1⟩,rfl,G⟩;obtain⟨k2,C,e⟩:∃k2:Lp,E2 q g2 c2=k2.P/\k2.Good ns:=⟨⟨q,g2,c2⟩,rfl,I⟩;rw[D,C];clear D C G I M Jo n g1 c1 q g2 c2;obtain⟨d,R⟩:∃d:Slot,d=.any:=⟨_,rfl⟩;obtain⟨b,O⟩:∃b:Slot,b=.any:=⟨_,rfl⟩;clear R O;refine HB (λAK=>∃(l1 l2:Lp)(d b:Slot),AK=[.AQ,.sq false (ns.map .str),.is l1.P,.is l2.P,.is (.int w),d,b]/\l1.Good ns/\l2.Good ns) ?_ ?_
 .refine GA ?_
  walk_at "ww"
  refine Aa (λc=>?_) (λc=>B5 ⟨k1,k2,_,_,rfl,a,e⟩);unfold Lp.P E2
  walk_at "ww"
  exact⟨by simp,k1,⟨k2.r,k1.g,k1.cs⟩,_,_,rfl,a,Mk e a a⟩
 clear a e k1 k2 d b;rintro _⟨k1,k2,d,b,rfl,a,e⟩;refine HB (λAK=>∃(l1 l2:Lp)(d b:Slot),AK=[.AQ,.sq false (ns.map .str),.is l1.P,.is l2.P,.is (.int w),d,b]/\l1.Good ns/\l2.Good ns) ?_ ?_
 .refine GA ?_
  walk_at "ww"
  refine Aa (λc=>?_) (λc=>B5 ⟨k1,k2,_,_,rfl,a,e⟩);unfold Lp.P E2
  walk_at "ww"
  exact⟨by simp,k1,⟨k1.r,k2.g,k1.cs⟩,_,_,rfl,a,Mk a e a⟩
 clear a e k1 k2 d b;rintro _⟨k1,k2,d,b,rfl,a,e⟩;refine HB (λAK=>∃(l1 l2:Lp)(d b:Slot),AK=[.AQ,.sq false (ns.map .str),.is l1.P,.is l2.P,.is (.int w),d,b]/\l1.Good ns/\l2.Good ns) ?_ ?_
 .refine GA ?_
  walk_at "ww"
  refine Aa (λc=>?_) (λc=>B5 ⟨k1,k2,_,_,rfl,a,e⟩);unfold Lp.P E2
  walk_at "ww"
  exact⟨by simp,k1,⟨k1.r,k1.g,k2.cs⟩,_,_,rfl,a,Mk a a e⟩
 clear a e k1 k2 d b;rintro _⟨k1,k2,d,b,rfl,a,e⟩;refine HB (λAK=>∃(l1 l2:Lp)(d b:Slot),AK=[.AQ,.sq false (ns.map .str),.is l1.P,.is l2.P,.is (.int w),d,b]/\l1.Good ns/\l2.Good ns) ?_ ?_
 .refine GA ?_
  walk_at "ww"
  refine Aa (λc=>?_) (λc=>B5 ⟨k1,k2,_,_,rfl,a,e⟩);unfold Lp.P E2
  walk_at "ww"
  exact⟨by simp,k1,⟨k2.r,k2.g,k1.cs⟩,_,_,rfl,a,Mk e e a⟩
 clear a e k1 k2 d b;rintro _⟨k1,k2,d,b,rfl,a,e⟩;refine HB (λAK=>∃(l1 l2:Lp)(d b:Slot),AK=[.AQ,.sq false (ns.map .str),.is l1.P,.is l2.P,.is (.int w),d,b]/\l1.Good ns/\l2.Good ns) ?_ ?_
 .refine GA (Cc (LB (EV (IK ?_))))
  walk_at "ww"
  refine Aa (λc=>?_) (λc=>D7 (B5 ⟨k1,k2,_,_,rfl,a,e⟩));unfold Lp.P E2
  walk_at "ww"
  have cl:=BK.len a;refine⟨by simp,_,.inl ⟨rfl,rfl,[],rfl,_,rfl,Aa (λc2=>?_) (λc2=>B5 ⟨k1,k2,_,_,rfl,a,e⟩)⟩⟩;have V:0<ns.length:=List.length_pos_iff.mpr (λz=>by rw[z]at c2;cases c2)
  walk_at "ww"
  rw[Aw];refine⟨by omega,by omega,λr t n=>?_⟩;obtain⟨j,rfl⟩:=Ie t;obtain⟨x,hx,ex⟩:=kE (ns:=ns) (k:=j) (by omega);refine⟨_,_,rfl,ex,?_⟩;refine BO (FT (Hd PV.str (λy=>!alike (.str y) (.str x)) PV.str ?_ str_inj))
  walk_at "ww"
  refine⟨by omega,λy o=>by walk_at "ww"; rfl,λy o _=>by walk_at "ww"; rfl,?_⟩
  rw[Ot];refine HB (λAK=>∃ys:List Str,AK=[.AQ,.sq false (ns.map .str),.is k1.P,.is k2.P,.is (.int w),.is (.str x),.own (ys.map .str)]/\(ys=wo k1.cs x∨(x∉k1.cs/\ys=wo k1.cs x++[x]))) ?_ ?_
  .refine GA ?_
   walk_at "ww"
   refine Aa (λu=>?_) (λu=>B5 ⟨_,rfl,.inl rfl⟩)
   walk_at "ww"
   have J:(wo k1.cs x).length<=k1.cs.length:=Jl _ _;refine⟨by rw[Aw];omega,wo k1.cs x++[x],by rw[EG];rfl,.inr ⟨λz=>?_,rfl⟩⟩;rw[lD z]at u;cases u
  rintro _⟨ys,rfl,o⟩;have S:ys.length<=41:=by
   have J:(wo k1.cs x).length<=k1.cs.length:=Jl _ _;rcases o with rfl|⟨_,rfl⟩
   .omega
   .rw[Bh];show _+1<=_;omega
  unfold Lp.P E2
  walk_at "ww"
  refine⟨by omega,λL N st=>?_⟩
  walk_at "ww"
  exact⟨by simp,k1,⟨k1.r,k1.g,L⟩,_,_,rfl,a,ZAz a hx o N st⟩
 clear a e k1 k2 d b;rintro _⟨k1,k2,d,b,rfl,a,e⟩;refine HB (λAK=>∃(l1 l2:Lp)(d b:Slot),AK=[.AQ,.sq false (ns.map .str),.is l1.P,.is l2.P,.is (.int w),d,b]/\l1.Good ns/\l2.Good ns) ?_ ?_
 .refine GA ?_
  walk_at "ww"
  refine Aa (λc=>?_) (λc=>B5 ⟨k1,k2,_,_,rfl,a,e⟩);unfold Lp.P E2
  walk_at "ww"
  refine⟨by decide,by decide,λr t n=>?_⟩;obtain⟨j,rfl⟩:=Ie t;refine⟨_,rfl,Bs ⟨by simp,?_⟩⟩;rw[Ng,<- OM];have B:BK ns k1.r k1.g (k1.cs.take j):=⟨a.rule,a.g0,a.g1,jM a.up j,λx hx=>a.sub x (YF hx)⟩;unfold gy;refine Cq ?_
  walk_at "ww"
  exact⟨by simp,⟨k1.r,k1.g,k1.cs.take j⟩,⟨k1.r,k2.g,k1.cs.take j⟩,_,_,rfl,B,Mk a e B⟩
 clear a e k1 k2 d b;rintro _⟨k1,k2,d,b,rfl,a,e⟩;exact C2 (EZ (B6 (A6 rfl (B6 (A6 rfl (Bs ⟨by simp,k1,k2,rfl,a,e⟩))))))
def HU:B0 ["pot","row","loop","rule","gap","coming","names","way","at"] ["pot","row","loop"] (AY Wk):=by walk_at "z1"
def zy(F:AE K "_law_turned_loop" "_law_turned_loop" Wk f fd)(m:mg "_law_turned_loop"=some (.ref f)):
  A9 P w K mg Zp "_law_turned_loop" 3 ["pot","row","loop"] (Tu K):=by
 refine A9.mk F (F.binds (by walk_at "bD3")) m (F.BS (k:=2) HU (λvs H Q E h=>?_) (λAS A outer s H vs Q E D h=>?_))
 .obtain⟨p,q,t,ns,r,g,ss,rfl,W,L,AU,X,hz,⟨c,VO,yW,hT,hC⟩,U,K1⟩:=h;rfl
 obtain⟨p,q,t,ns,r,g,ss,rfl,W,L,AU,X,hz,⟨c,VO,yW,hT,hC⟩,U,K1⟩:=h;refine⟨_,(AA rfl (OE (qv 2) (Sa rfl (JY (Fi 3 HU.nd) (JY (Fi 4 HU.nd) (JY (Fi 5 HU.nd) VG)))))
   (AA rfl (Ad 6 HU.nd (Eg KG DT (A0 (qv 5) A4)))
   (AA rfl (Ad 7 HU.nd (AV BU D (A0 (qv 0) (A0 A5 A4))))
   (AA rfl (Ad 8 HU.nd (AV BU D (A0 (qv 0) (A0 (Ax E5 (B4 Gn Ar (A0 (qv 6) A4)) A5) A4))))
   (AA rfl (C1 (Ak (Ah BN (qv 7) A5) (A7 rfl (Ad 3 HU.nd (A8 AI (BP (A0 Au (A0 Au (A0 Au (A0 Au (A0 Au A4)))))) (AV BU D (A0 (qv 0) (A0 A5 A4)))))) Ay))
   (AA rfl (C1 (Ak (Ah BN (qv 7) A5) (A7 rfl (Ad 4 HU.nd (A8 AI (BP (A0 (Ju KS A5) (A0 (Ax E5 (B4 Gn Ar (A0 (qv 1) A4)) A5) (A0 (Ax KW A5 A5) A4)))) (AV BU D (A0 (qv 0) (A0 A5 A4)))))) Ay))
   (AA rfl (C1 (Ak (Ah BN (qv 7) A5) (A7 rfl (D1 (Gg HN YU j9 TU (qv 6) (A0 (qv 8) (A0 (AV KY D (A0 (qv 0) (A0 (qv 1) A4))) A4))))) Ay))
   (AA rfl (C1 (Ak (Ah BN (qv 7) A5) (A7 rfl (D1 (Gg HN YU j9 TU (qv 6) (A0 (qv 8) (A0 (A8 AI (BP (A0 Au (A0 Au A4))) (AV BU D (A0 (qv 0) (A0 A5 A4)))) A4))))) Ay))
   (AA rfl (C1 (Ak (J7 (Ah BN (qv 7) A5) (JU (Ah (J8 D.Gw) (qv 6) (CO A4)))).pt (A7 rfl (D1 (Gg HN YU j9 TU (qv 6) (A0 (qv 8) (A0 (A8 CP (qv 6) (AV BU D (A0 (qv 0) (A0 (B4 Gn Ar (A0 (qv 6) A4)) A4)))) A4))))) Ay))
   (AA rfl (C1 (Ak (Ah BN (qv 7) A5) (A7 rfl (D1 (ZCK HN PySem.F.slot_list_reverse PySem.F.type_list_reverse kI (qv 6)))) Ay))
   (AA rfl (C1 (Ak (J7 (Ah BN (qv 7) A5) (JU (Ah (J8 D.Gw) (qv 1) (CO A4)))).pt (A7 rfl (D1 (Gg HN OP OQ LY (qv 6) (A0 (A8 CP (qv 1) (AV BU D (A0 (qv 0) (A0 (B4 Gn Ar (A0 (qv 1) A4)) A4)))) A4)))) Ay))
   (AA rfl (C1 (Ak (Ah BN (qv 7) A5) (A7 rfl (Ad 6 HU.nd (B4 QQ De (A0 (Ax G4 (qv 6) (CO (A0 (AV KY D (A0 (qv 0) (A0 (qv 1) A4))) A4))) A4)))) Ay))
   (A7 rfl (Af (BP (A0 (qv 3) (A0 (qv 4) (A0 (Eg OB Ed (A0 (qv 6) A4)) A4)))))))))))))))))),?_⟩
 have hl:=Cw ns;have M:∀n:Nat,n<=100->n<sizeLine:=λn h=>HM h (by decide +kernel);refine⟨_,rfl,t,_,rfl,Al.of hT,rfl,_,_,rfl,_,_,rfl,_,_,rfl,rfl,?_⟩;refine⟨_,rfl,c,_,rfl,.inr (Al.of hC),λl0 HJ=>?_⟩;have n0:=BX HJ (.lst (ss.map V.str));have R:=W.ne HJ;have g0:=B1.of W n0;refine⟨_,rfl,p,9,rfl,g0.AQ,by decide,by decide,λu H1 w0 w1 s1=>?_⟩;have g1:=g0.trans s1;have Y:=s1.at' AZ R;refine⟨_,rfl,_,rfl,l0,_,rfl,.inl (AO.of Y),_,_,rfl,rfl,p,_,rfl,g1.AQ,(by rw[Cw];omega),(by rw[Cw];omega),λat' H2 a0 a1 s2=>?_⟩;rw[Cw]at a1;have g2:=g1.trans s2;have d:=s2.at' Y R;refine⟨λσ' H'=>∃(v:Str)(g':Int)(l:Addr)(xs:List Str),σ'=[some (.ref p),some (.ref q),some (.ref t),some (.str v),some (.int g'),some (.ref c),some (.ref l),some (.int u),some (.int at')]/\B1 p H H'/\H l=none/\l≠p/\H' l=some (.lst (xs.map V.str))/\ss.length<=xs.length/\xs.length<=40,?_,?_⟩
 .refine⟨_,rfl,rfl,_,rfl,?_⟩;refine Aa (λ_=>?_) (λ_=>⟨r,g,l0,ss,rfl,g2,HJ,R,d,Az _,U⟩);refine⟨(by show 5<=sizeLine;decide),λN G6=>?_⟩;have S:=g2.AQ.ne G6;have y:=BX G6 (.tup (gM.map V.str));have e:=g2.trans (B1.of g2.AQ y);refine⟨_,rfl,p,5,rfl,e.AQ,by decide,by decide,λj H4 I C s4=>?_⟩;obtain⟨v,NA,_,_⟩:=Kw (ns:=gM) I C;exact⟨N,_,_,_,rfl,rfl,Al.of (s4.at' AZ S),NA,v,g,l0,ss,rfl,e.trans s4,HJ,R,s4.at' (y _ _ d) R,Az _,U⟩
 clear g0 g1 g2 Y d s1 s2;rintro σ' H2⟨i,e,l,xs,rfl,g2,CS,BQ,d,DO,o⟩;refine⟨λσ' H'=>∃(v:Str)(g':Int)(l:Addr)(xs:List Str),σ'=[some (.ref p),some (.ref q),some (.ref t),some (.str v),some (.int g'),some (.ref c),some (.ref l),some (.int u),some (.int at')]/\B1 p H H'/\H l=none/\l≠p/\H' l=some (.lst (xs.map V.str))/\ss.length<=xs.length/\xs.length<=40,?_,?_⟩
 .refine⟨_,rfl,rfl,_,rfl,?_⟩;refine Aa (λ_=>?_) (λ_=>⟨i,e,l,xs,rfl,g2,CS,BQ,d,DO,by omega⟩);refine⟨_,rfl,_,rfl,q,_,rfl,.inl (AO.of (g2.at' L AU)),_,_,rfl,rfl,_,_,rfl,rfl,⟨by decide,by decide,by decide +kernel⟩,(by show 3<=sizeLine;decide),λN G6=>?_⟩;have S:=g2.AQ.ne G6;have y:=BX G6 (.tup [.int (-1),.int (((ns.map V.str).length:Int)+1),.int ((10:Int) ^ (59:Int).toNat)]);have z:=g2.trans (B1.of g2.AQ y);refine⟨_,rfl,p,3,rfl,z.AQ,by decide,by decide,λj H4 I C s4=>?_⟩;obtain⟨k,hk⟩:=ZAk (a:=-1) (b:=((ns.map V.str).length:Int)+1) (c:=(10:Int) ^ (59:Int).toNat) I C;exact⟨N,_,_,_,rfl,rfl,Al.of (s4.at' AZ S),hk,i,k,l,xs,rfl,z.trans s4,CS,BQ,s4.at' (y _ _ d) BQ,DO,o⟩
 clear g2 d;rintro σ' H2⟨i,e,l,xs,rfl,g2,CS,BQ,d,DO,o⟩;refine⟨λσ' H'=>∃(v:Str)(g':Int)(l:Addr)(xs:List Str),σ'=[some (.ref p),some (.ref q),some (.ref t),some (.str v),some (.int g'),some (.ref c),some (.ref l),some (.int u),some (.int at')]/\B1 p H H'/\H l=none/\l≠p/\H' l=some (.lst (xs.map V.str))/\ss.length<=xs.length/\xs.length<=41,?_,?_⟩
 .refine⟨_,rfl,rfl,_,rfl,?_⟩;refine Aa (λ_=>?_) (λ_=>⟨i,e,l,xs,rfl,g2,CS,BQ,d,DO,by omega⟩);refine⟨_,rfl,.inl ⟨rfl,_,AO.of d⟩,_,rfl,_,rfl,_,rfl,p,q,ns,rfl,g2.AQ,g2.at' L AU,AU,X,by omega,λx H4 _ _ s4=>?_⟩;have z:=g2.trans s4;have G:=s4.at' d BQ;refine⟨l,_,at',_,rfl,rfl,G,a0,(by rw[Cw];omega),M _ (by rw[Cw];omega),?_⟩;refine⟨i,e,l,ins xs x at'.toNat,rfl,z.upd CS BQ,CS,BQ,by rw[AZ,ins_map],by rw[JR _ (by omega)];omega,by rw[JR _ (by omega)];omega⟩
 clear g2 d;rintro σ' H2⟨i,e,l,xs,rfl,g2,CS,BQ,d,DO,o⟩;refine⟨λσ' H'=>∃(v:Str)(g':Int)(l:Addr)(xs:List Str),σ'=[some (.ref p),some (.ref q),some (.ref t),some (.str v),some (.int g'),some (.ref c),some (.ref l),some (.int u),some (.int at')]/\B1 p H H'/\H l=none/\l≠p/\H' l=some (.lst (xs.map V.str))/\ss.length<=xs.length/\xs.length<=42,?_,?_⟩
 .refine⟨_,rfl,rfl,_,rfl,?_⟩;refine Aa (λ_=>?_) (λ_=>⟨i,e,l,xs,rfl,g2,CS,BQ,d,DO,by omega⟩);refine⟨_,rfl,.inl ⟨rfl,_,AO.of d⟩,_,rfl,(by show 2<=sizeLine;decide),λN G6=>?_⟩;have S:=g2.AQ.ne G6;have y:=BX G6 (.tup (Zi.map V.str));have B:=g2.trans (B1.of g2.AQ y);refine⟨_,rfl,p,2,rfl,B.AQ,by decide,by decide,λj H4 I C s4=>?_⟩;obtain⟨x,hx,_,_⟩:=Kw (ns:=Zi) I C;have z:=B.trans s4;have G:=s4.at' (y _ _ d) BQ;refine⟨N,_,_,_,rfl,rfl,Al.of (s4.at' AZ S),hx,l,_,at',_,rfl,rfl,G,a0,(by rw[Cw];omega),M _ (by rw[Cw];omega),?_⟩;refine⟨i,e,l,ins xs x at'.toNat,rfl,z.upd CS BQ,CS,BQ,by rw[AZ,ins_map],by rw[JR _ (by omega)];omega,by rw[JR _ (by omega)];omega⟩
 clear g2 d;rintro σ' H2⟨i,e,l,xs,rfl,g2,CS,BQ,d,DO,o⟩;refine⟨λσ' H'=>∃(v:Str)(g':Int)(l:Addr)(xs:List Str),σ'=[some (.ref p),some (.ref q),some (.ref t),some (.str v),some (.int g'),some (.ref c),some (.ref l),some (.int u),some (.int at')]/\B1 p H H'/\H l=none/\l≠p/\H' l=some (.lst (xs.map V.str))/\ss.length<=xs.length/\xs.length<=43,?_,?_⟩
 .refine⟨_,rfl,rfl,_,rfl,?_⟩;refine Aa (λ_=>?_) (λ_=>D7 ⟨i,e,l,xs,rfl,g2,CS,BQ,d,DO,by omega⟩);refine⟨_,rfl,(by show 0<=sizeLine;decide),λe0 Rk=>?_⟩;have y:=BX Rk (.lst []);have B:=g2.trans (B1.of g2.AQ y);have J:=y _ _ d;refine⟨l,e0,_,[],rfl,rfl,.inl ⟨AO.of (J),AO.of AZ⟩,HY xs,rfl,_,rfl,?_⟩;rw[P2];refine Aa (λc2=>?_) (λc2=>⟨i,e,l,xs,rfl,B,CS,BQ,J,DO,by omega⟩);have GW:0<xs.length:=by
   cases xs with
   |nil=>simp at c2
   |cons a r=>simp
  refine⟨_,rfl,.inl ⟨rfl,_,AO.of J⟩,_,rfl,_,rfl,_,rfl,_,rfl,l,_,rfl,.inl (AO.of J),p,_,rfl,B.AQ,(by rw[Cw];omega),(by rw[Cw];omega),λj H4 I C s4=>?_⟩;rw[Cw]at C;have z:=B.trans s4;have G:=s4.at' J BQ;obtain⟨x,hx,_,_⟩:=Kw (ns:=xs) I C;refine⟨l,_,_,_,rfl,rfl,AO.of G,hx,l,_,at',_,rfl,rfl,G,a0,(by rw[Cw];omega),M _ (by rw[Cw];omega),?_⟩;refine⟨i,e,l,ins xs x at'.toNat,rfl,z.upd CS BQ,CS,BQ,by rw[AZ,ins_map],by rw[JR _ (by omega)];omega,by rw[JR _ (by omega)];omega⟩
 clear g2 d;rintro σ' H2⟨i,e,l,xs,rfl,g2,CS,BQ,d,DO,o⟩;refine⟨λσ' H'=>∃(v:Str)(g':Int)(l:Addr)(xs:List Str),σ'=[some (.ref p),some (.ref q),some (.ref t),some (.str v),some (.int g'),some (.ref c),some (.ref l),some (.int u),some (.int at')]/\B1 p H H'/\H l=none/\l≠p/\H' l=some (.lst (xs.map V.str))/\ss.length<=xs.length/\xs.length<=43,?_,?_⟩
 .refine⟨_,rfl,rfl,_,rfl,?_⟩;refine Aa (λ_=>?_) (λ_=>⟨i,e,l,xs,rfl,g2,CS,BQ,d,DO,by omega⟩);refine⟨_,rfl,.inl ⟨rfl,_,AO.of d⟩,l,_,rfl,rfl,d,?_⟩;exact⟨i,e,l,xs.reverse,rfl,g2.upd CS BQ,CS,BQ,by rw[AZ,ZCv],by rw[L4];exact DO,by rw[L4];exact o⟩
 clear g2 d;rintro σ' H2⟨i,e,l,xs,rfl,g2,CS,BQ,d,DO,o⟩;refine⟨λσ' H'=>∃(v:Str)(g':Int)(l:Addr)(xs:List Str),σ'=[some (.ref p),some (.ref q),some (.ref t),some (.str v),some (.int g'),some (.ref c),some (.ref l),some (.int u),some (.int at')]/\B1 p H H'/\H l=none/\l≠p/\H' l=some (.lst (xs.map V.str))/\ss.length<=xs.length/\xs.length<=44,?_,?_⟩
 .refine⟨_,rfl,rfl,_,rfl,?_⟩;refine Aa (λ_=>?_) (λ_=>D7 ⟨i,e,l,xs,rfl,g2,CS,BQ,d,DO,by omega⟩);refine⟨_,rfl,(by show 0<=sizeLine;decide),λe0 Rk=>?_⟩;have y:=BX Rk (.lst []);have B:=g2.trans (B1.of g2.AQ y);have J:=y _ _ d;refine⟨q,e0,_,[],rfl,rfl,.inl ⟨AO.of (B.at' L AU),AO.of AZ⟩,HY ns,rfl,_,rfl,?_⟩;rw[P2];refine Aa (λc2=>?_) (λc2=>⟨i,e,l,xs,rfl,B,CS,BQ,J,DO,by omega⟩);have GW:0<ns.length:=by
   cases ns with
   |nil=>simp at c2
   |cons a r=>simp
  have q3:=B.at' L AU;refine⟨_,rfl,.inl ⟨rfl,_,AO.of J⟩,_,rfl,_,rfl,_,rfl,q,_,rfl,.inl (AO.of q3),p,_,rfl,B.AQ,(by rw[Cw];omega),(by rw[Cw];omega),λj H4 I C s4=>?_⟩;rw[Cw]at C;have z:=B.trans s4;have G:=s4.at' J BQ;obtain⟨x,hx,_,_⟩:=Kw (ns:=ns) I C;refine⟨q,_,_,_,rfl,rfl,AO.of (s4.at' q3 AU),hx,l,_,_,rfl,rfl,G,M _ (by rw[Cw];omega),?_⟩;exact⟨i,e,l,xs++[x],rfl,z.upd CS BQ,CS,BQ,by rw[AZ,EG];rfl,by rw[Bh];omega,by rw[Bh];simp;omega⟩
 clear g2 d;rintro σ' H2⟨i,e,l,xs,rfl,g2,CS,BQ,d,DO,o⟩;refine⟨λσ' H'=>∃(v:Str)(g':Int)(l:Addr)(xs:List Str),σ'=[some (.ref p),some (.ref q),some (.ref t),some (.str v),some (.int g'),some (.ref c),some (.ref l),some (.int u),some (.int at')]/\B1 p H H'/\H l=none/\l≠p/\H' l=some (.lst (xs.map V.str))/\ss.length<=xs.length/\xs.length<=45,?_,?_⟩
 .refine⟨_,rfl,rfl,_,rfl,?_⟩;refine Aa (λ_=>?_) (λ_=>⟨i,e,l,xs,rfl,g2,CS,BQ,d,DO,by omega⟩);refine⟨_,rfl,_,rfl,_,rfl,p,q,ns,rfl,g2.AQ,g2.at' L AU,AU,X,by omega,λx H4 _ _ s4=>?_⟩;have z:=g2.trans s4;have G:=s4.at' d BQ;refine⟨(by show 1<=sizeLine;decide),λl1 Hj=>?_⟩;have T:=BX Hj (.lst [.str x]);refine⟨l,l1,_,_,rfl,rfl,T _ _ G,AZ,MU (M _ (by rw[Cw];simp;omega)),λl2 C6=>?_⟩;have n6:=BX C6 (.lst (xs.map V.str++[.str x]));refine⟨l2,false,xs++[x],rfl,AO.of (by rw[AZ,EG];rfl),by rw[Bh];simp;omega,λl3 σ UO JF _=>?_⟩;have n7:=BX UO (.lst (σ.map V.str));have g7:=z.trans (B1.of z.AQ (T.trans (n6.trans n7)));have g6:=z.trans (B1.of z.AQ (T.trans n6));have O:=JF.length_eq;rw[Bh,ie]at O;exact⟨i,e,l3,σ,rfl,g7,g6.none UO,g6.AQ.ne UO,AZ,by omega,by omega⟩
 clear g2 d;rintro σ' H2⟨i,e,l,xs,rfl,g2,CS,BQ,d,DO,o⟩;refine⟨_,rfl,_,rfl,_,rfl,l,_,rfl,.inl ⟨AO.of d,λc' JG=>?_⟩⟩;have y:=BX JG (.tup (xs.map V.str));refine⟨(by show 3<=sizeLine;decide),λt' My=>?_⟩;have n4:=BX My (.tup [.str i,.int e,.ref c']);exact K1 t' c' i e xs _ (g2.none (AJ.none y My)) (g2.none JG) (g2.trans (B1.of g2.AQ (y.trans n4))) AZ (n4 _ _ AZ) (by show xs.length<60;omega)
def Om:B0 ["row","loop","rule","gap","coming"] ["row","loop"] (AY Mo):=by walk_at "z1"
def jY:=Sc [(".0",.local),("k",.local),("coming",.free)]
def ZAD:DL ["row","loop","rule","gap","coming"] (AY Mo) jY "k" ["coming"] [4]:=by walk_at "z2"
def qm:=Sc [(".0",.local),("name",.local),("row",.free)]
def vg:DL ["row","loop","rule","gap","coming"] (AY Mo) qm "name" ["row"] [0]:=by walk_at "z2"
def kr(F:AE K "_law_is_right_loop" "_law_is_right_loop" Mo f fd)(m:mg "_law_is_right_loop"=some (.ref f)):
  A9 P w K mg Zp "_law_is_right_loop" 1 ["row","loop"] (Vn K):=by
 refine A9.mk F (F.binds (by walk_at "bD2")) m (F.BS (k:=0) Om (λvs H Q E h=>?_) (λAS A outer s H vs Q E σ h=>?_))
 .obtain⟨a,ns,t,r,g,ss,rfl,C,⟨c,B,D⟩,Gq,q⟩:=h;rfl
 obtain⟨a,ns,t,r,g,ss,rfl,C,⟨c,B,D⟩,Gq,q⟩:=h;refine⟨_,(AA rfl (OE (qv 1) (Sa rfl (JY (Fi 2 Om.nd) (JY (Fi 3 Om.nd) (JY (Fi 4 Om.nd) VG)))))
   (AA rfl (Ak (Jc (Ah QL (qv 2) (BP (A0 Au (A0 Au (A0 Au A4))))) (JM (Dz (M4 EO EO A5 (qv 3) (B4 Gn Ar (A0 (qv 0) A4)))))).pt (A7 rfl (Af EN)) Ay)
   (AA rfl (Ak (FU (B4 (uQ rfl) X0 (A0 (Gi rfl ZAD (SX rfl IW (A0 (Ax Sj (B4 Gn Ar (A0 (qv 4) A4)) A5) A4)) (λ_ _ _ _=>by exact Kt) (λ_ _ _ _=>by exact(D5 vp (A8 (show Hm _ (MZ K)from AI) (qv 0) (qv 1)) (A8 (show Hm _ (MZ K)from AI) (qv 0) (Ax E5 (qv 1) A5))))) A4))) (A7 rfl (Af EN)) Ay)
   (A7 rfl (Af (B4 (V8 rfl) IF (A0 (Gi rfl vg (GH (qv 4)) (λ_ _ _ _=>by exact Kt) (λ_ _ _ _=>by exact(D5 (show BA _ (compareOp .In) (HX K false)from KQ) (qv 1) (qv 0)))) A4))))))),?_⟩
 have S:=Cw ns;have N:=Cw ss;refine⟨_,rfl,t,_,rfl,B,rfl,_,_,rfl,_,_,rfl,_,_,rfl,rfl,?_⟩;refine⟨_,rfl,(by show 3<=sizeLine;decide),λu G6=>?_⟩;have b:=BX G6 (.tup (Df.map V.str));have M:=AJ.seq b C;have j:=b.Ni D;refine⟨u,_,rfl,.inr (Al.of AZ),rfl,rfl,_,rfl,?_⟩;have T:Iu (.str r) (Df.map V.str)=decide (r∈Df):=Nn r Df;show if(!Iu (.str r) (Df.map V.str))=true then _ else _
 rw[T];refine Aa (λc1=>?_) (λc1=>?_)
 .have d:decide (r∈Df)=false:=by simpa using c1
  have e:El ns r g ss=false:=by unfold El;rw[d];rfl
  refine Y3 ?_;show Q (.bl false) _;rw[<- e];exact q _ b
 have d:decide (r∈Df)=true:=by simpa using c1
 have bad:Ij ns.length g=false->Q (.bl false) (upd H u (.tup (Df.map V.str))):=λz=>by
  have e:El ns r g ss=false:=by unfold El;rw[d,z];rfl
  rw[<- e];exact q _ b
 refine⟨_,rfl,_,_,rfl,rfl,_,rfl,?_⟩;refine Aa (λc2=>?_) (λc2=>⟨_,rfl,Y3 (bad (by unfold Ij;rw[Bool.eq_false_iff.mpr c2];rfl))⟩);refine⟨_,rfl,a,_,rfl,.inl M,_,_,rfl,rfl,_,rfl,?_⟩;rw[S];refine Aa (λo=>bad (by unfold Ij;rw[c2];simpa using o)) (λo=>?_)
 have y:Ij ns.length g=true:=by unfold Ij;rw[c2];simpa using o
 refine⟨_,rfl,c,_,rfl,.inr j,_,_,rfl,rfl,_,rfl,by omega,by omega,λacc BM=>?_⟩;have U:((((ss.map V.str).length:Nat):Int) - 1).toNat=ss.length - 1:=by rw[N];omega
 rw[U];refine ZAq (λ_=>true) (Ph ss) BM (small (by omega)) (λi v H' Q' _ _ h=>h H' (AJ.refl _)) (λi v H' Q' l _ s2 h=>?_) (λH2 s2 J=>?_)
 .obtain⟨hi,rfl⟩:=ints_get l;have h1:i<ss.length:=by omega
  have h2:i+1<ss.length:=by omega
  have X:BZ (ss.map V.str) (i:Int)=some (.str ss[i]):=Lh (by omega) (by rw[RN,Bp,Bb h1];rfl);have W:BZ (ss.map V.str) ((i:Int)+1)=some (.str ss[i+1]):=Lh (by omega) (by rw[show((i:Int)+1).toNat=i+1 by omega,Bp,Bb h2];rfl);refine⟨_,rfl,_,rfl,c,_,_,_,rfl,rfl,s2.Ni j,X,_,rfl,_,rfl,_,_,rfl,rfl,c,_,_,_,rfl,rfl,s2.Ni j,W,_,_,rfl,rfl,?_⟩;have e:Ph ss (.int (i:Int))=.bl (!decide (ss[i].cps.toList<ss[i+1].cps.toList)):=ZBD h2;rw[<- e];exact h _ (AJ.refl _)
 rw[ZC0]at J;refine⟨acc,_,rfl,AO.of J,_,rfl,?_⟩;rw[sH];have G:=b.trans s2;refine Aa (λn=>?_) (λn=>?_)
 .have p:Kv ss=false:=by simpa using n
  have e:El ns r g ss=false:=by unfold El;rw[d,y,p];rfl
  show Q (.bl false) _;rw[<- e];exact q _ G
 have p:Kv ss=true:=by simpa using n
 have L:=s2.Ni j;have Y:=AJ.seq s2 M;refine⟨_,rfl,true,c,_,rfl,L,λR O=>oF (tp:=true) (λ_=>true) (λv=>.bl (Iu v (ns.map V.str))) L O (by rw[N];exact small (by omega)) (λi v H' Q' _ _ h=>h H' (AJ.refl _)) (λi v H' Q' l _ s4 h=>?_) (λH' s4 I=>?_)⟩
 .obtain⟨x,rfl,hm⟩:=ZCQ l;exact⟨_,rfl,_,rfl,a,_,rfl,.inl (AJ.seq s4 Y),rfl,HY ns,h _ (AJ.refl _)⟩
 .rw[kq]at I;refine⟨R,_,rfl,AO.of I,?_⟩;rw[all_map];have e:El ns r g ss=NL ns ss:=by unfold El;rw[d,y,p];rfl
  show Q (.bl (NL ns ss)) H';rw[<- e];exact q _ (G.trans s4)
def ZAX:B0 ["row","gap"] ["row","gap"] (AY Tn):=by walk_at "z1"
def bw : ∀ss R,XZ ss R->ss.length=2:=by rintro _ _⟨tp,ns,g,rfl,rfl⟩;rfl
def lI(F:AE K "is_gap" "is_gap" Tn f fd)(m:mg "is_gap"=some (.ref f)):
  A9 P w K mg Zp "is_gap" 1 ["row","gap"] (Ap XZ):=by
 refine A9.mk F (F.binds (by walk_at "bD2")) m (F.BS (k:=0) ZAX (λvs H Q E h=>Fz.CA bw h) (λAS A outer s H vs Q E a h=>?_))
 refine⟨_,(A7 rfl (Af (eG EO EO A5 (qv 1) (B4 EK Ar (A0 (qv 0) A4))))),?_⟩;refine Fz.C9 h bw ?_;rintro _ _⟨tp,ns,g,rfl,rfl⟩;show Ws [_,_] _ _ _;refine C2 (Kc ?_)
 walk_at "ww"
 refine Aa (λc=>?_) (λc=>?_)
 .walk_at "ww"
  rw[Aw];have h:=lY c;cases e:decide (g<=(ns.length:Int))with
  |true=>rw[lD (show inR g 0 ns.length from⟨h,lY e⟩)]
  |false=>rw[mB (λz:inR g 0 ns.length=>of_decide_eq_false e z.2)]
 .rw[mB (λz:inR g 0 ns.length=>c (lD z.1))]
def ka:B0 ["row","coming"] ["row","coming"] (AY RE):=by walk_at "z1"
def lC:=Sc [(".0",.local),("name",.local),("row",.free)]
def xY:DL ["row","coming"] (AY RE) lC "name" ["row"] [0]:=by walk_at "z2"
def ZI : ∀ss R,Sl ss R->ss.length=2:=by rintro _ _⟨tp,ns,a,rfl,b,rfl⟩;rfl
def vB(F:AE K "is_coming" "is_coming" RE f fd)(m:mg "is_coming"=some (.ref f)):
  A9 P w K mg Zp "is_coming" 1 ["row","coming"] (Ap Sl):=by
 refine A9.mk F (F.binds (by walk_at "bD2")) m (F.BS (k:=0) ka (λvs H Q E h=>Fz.CA ZI h) (λAS A outer s H vs Q E g h=>?_))
 refine⟨_,(A7 rfl (Af (Gu (D5 (Sk g.Gw) (Eg KG DT (A0 (qv 1) A4)) (B4 (Ye rfl) De (A0 (Eg (WA rfl) Kl (A0 (qv 1) A4)) A4))) (Fx (B4 (V8 rfl) IF (A0 (Gi rfl xY (GH (qv 1)) (λ_ _ _ _=>by exact Kt) (λ_ _ _ _=>by exact(D5 (show BA _ (compareOp .In) (HX K false)from KQ) (qv 1) (qv 0)))) A4)))))),?_⟩;refine Fz.C9 h ZI ?_;rintro _ _⟨tp,ns,a,rfl,b,rfl⟩;show Ws [_,_] _ _ _
 walk_at "ww"
 refine⟨b,λus j i d=>?_⟩
 walk_at "ww"
 unfold Jz;have e:decide (a=us)=decide (Up a):=by rw[Eb,xq,xq];exact uY j i d
 rw[e];refine Aa (λc=>?_) (λc=>by rw[lA c])
 walk_at "wp"
 refine Fs (CN (k7 PV.str (λx=>.bl (decide (x∈ns))) ?_ str_inj))
 walk_at "ww"
 refine⟨by omega,λx hx=>by walk_at "ww"; rfl,?_⟩
 walk_at "ww"
 rw[lO c]
def zU:B0 ["row","thing"] ["row","thing"] (AY SD):=by walk_at "z1"
def bX : ∀ss R,VS ss R->ss.length=2:=by rintro _ _⟨tp,ns,r,g,cs,rfl,_,rfl⟩;rfl
def ZB9(F:AE K "is_loop" "is_loop" SD f fd)(m:mg "is_loop"=some (.ref f)):
  A9 P w K mg Zp "is_loop" 2 ["row","thing"] (Ap VS):=by
 refine A9.mk F (F.binds (by walk_at "bD2")) m (F.BS (k:=1) zU (λvs H Q E h=>Fz.CA bX h) (λAS A outer s H vs Q E a h=>?_))
 refine⟨_,(A7 rfl (Af (Gu (D5 KQ (A8 AI (qv 1) A5) (Br (v:=.ref JQ) (by rfl) Vp rfl)) (Gu (AV Wr a (A0 (qv 0) (A0 (A8 AI (qv 1) A5) A4))) (Fx (AV UP a (A0 (qv 0) (A0 (A8 AI (qv 1) A5) A4)))))))),?_⟩;refine Fz.C9 h bX ?_;rintro _ _⟨tp,ns,r,g,cs,rfl,b,rfl⟩;have C:Cy K JQ ([("none":Str), "ahead","all"].map .str):=Cy.of Ur rfl rfl;unfold D4;show Ws [_,_] _ _ _;refine C2 (Je (zJ (neg:=false) C ?_))
 walk_at "ww"
 refine Aa (λc=>?_) (λc=>?_)
 .refine Je (wp_call (Aj (B2 rfl (AG ?_))))
  walk_at "ww"
  refine Ai ⟨_,⟨tp,ns,g,rfl,rfl⟩,?_⟩;rintro _ rfl;refine⟨_,rfl,Aa (λc2=>?_) (λc2=>?_)⟩
  .refine wp_call (Aj (B2 rfl (AG ?_)))
   walk_at "ww"
   refine Ai ⟨_,⟨tp,ns,cs,rfl,b,rfl⟩,?_⟩;rintro _ rfl;unfold Ef;rw[show Mg r=true from c,c2];rfl
  .unfold Ef;rw[show decide (inR g 0 ns.length)=false from by cases e:decide (inR g 0 ns.length) <;> simp_all,Y5,Jf]
 .unfold Ef;rw[show Mg r=false from by cases e:Mg r <;> first|rfl|exact absurd e c];rfl
def lQ:B0 ["row","loop"] ["row","loop"] (AY SK):=by walk_at "z1"
def dJ:∀ss R D,(Oo Ab) ss R D->ss.length=2:=by rintro _ _ _⟨tp,ns,r,g,cs,rfl,_,rfl,rfl⟩;rfl
def wx(F:AE K "check_loop" "check_loop" SK f fd)(m:mg "check_loop"=some (.ref f)):
  BB P w K mg Zp "check_loop" 3 ["row","loop"] (Ba (Oo Ab)):=by
 refine BB.mk F (F.binds (by walk_at "bD2")) m (F.G3 (k:=2) lQ (λvs H Q E h=>Fz.Fj dJ h) (λAS A outer s H vs Q E b h=>?_))
 refine⟨_,(A7 rfl (Ak (Dz (FU (AV TB b (A0 (qv 0) (A0 (qv 1) A4))))) (A7 rfl (Wl (by rfl) Ln Vk rfl rfl CV (A0 Au A4))) Ay)),?_⟩;refine Fz.Fg h dJ ?_;rintro _ _ _⟨tp,ns,r,g,cs,rfl,a,rfl,rfl⟩;intro i0;show Ws [_,_] _ _ _;refine Cc (DK (EU (wp_call (Aj (B2 rfl (AG (A6 rfl (Ai ⟨_,⟨tp,ns,r,g,cs,rfl,a,rfl⟩,?_⟩))))))));rintro _ rfl;refine⟨_,rfl,Aa (λc=>?_) (λc=>?_)⟩
 .refine Tg ?_
  walk_at "ww"
  exact⟨by simp,trivial,by cases e:Ef ns r g cs <;> simp_all,rfl⟩
 .exact B5 ⟨_,rfl,by cases e:Ef ns r g cs <;> simp_all⟩
def yy:B0 ["row","one","other"] ["row","one","other"] (AY WO):=by walk_at "z1"
def i8:∀ss R D,(P5 Ab AD) ss R D->ss.length=3:=by rintro _ _ _⟨tp,ns,a,b,rfl,_,_,rfl,rfl⟩;rfl
def za(F:AE K "check_pair" "check_pair" WO f fd)(m:mg "check_pair"=some (.ref f)):
  BB P w K mg Zp "check_pair" 4 ["row","one","other"] (Ba (P5 Ab AD)):=by
 refine BB.mk F (F.binds (by walk_at "bD3")) m (F.G3 (k:=3) yy (λvs H Q E h=>Fz.Fj i8 h) (λAS A outer s H vs Q E j h=>?_))
 refine⟨_,(AA rfl (D1 (CM KU j (by decide) CV rfl (A0 (qv 0) (A0 (qv 1) A4))))
   (AA rfl (D1 (CM KU j (by decide) CV rfl (A0 (qv 0) (A0 (qv 2) A4))))
   (A7 rfl (Ak (Ah Pd (B4 EK Ar (A0 (qv 0) A4)) (Br (v:=.int 37) (by rfl) Td ⟨_,rfl⟩)) (A7 rfl (Wl (by rfl) IS LO rfl rfl CV (A0 Au A4))) Ay)))),?_⟩
 refine Fz.Fg h i8 ?_;rintro _ _ _⟨tp,ns,a,b,rfl,h1,h2,rfl,rfl⟩;intro i0;show Ws [_,_,_] _ _ _;refine BO (Ff ?_);refine Cj ?_;refine Aj (B2 rfl (AG (A6 rfl (Ai ⟨_,_,⟨tp,ns,a.r,a.g,a.cs,rfl,h1,rfl,rfl⟩,trivial,λe h=>?_,λ_ i=>?_⟩))))
 .exact .inl ⟨λz=>(by have:=z.1.symm.trans h.1;cases this),h.2⟩
 refine BO (Ff ?_);refine Cj ?_;refine Aj (B2 rfl (AG (A6 rfl (Ai ⟨_,_,⟨tp,ns,b.r,b.g,b.cs,rfl,h2,rfl,rfl⟩,trivial,λe h=>?_,λ_ d=>?_⟩))))
 .exact .inl ⟨λz=>(by have:=z.2.symm.trans h.1;cases this),h.2⟩
 walk_at "ww"
 rw[Aw];refine Aa (λc=>?_) (λc=>B5 ⟨_,rfl,⟨i,d⟩,?_⟩)
 .refine Tg ?_
  walk_at "ww"
  exact⟨by simp,trivial,.inr ⟨⟨i,d⟩,by have:=lY c;omega,rfl⟩⟩
 .exact ZCj λz=>c (lD (by omega))
def ZBW:B0 ["one","other"] ["one","other"] (AY Ud):=by walk_at "z1"
def gK : ∀ss R,Li ss R->ss.length=2:=by rintro _ _⟨ns,l1,l2,rfl,_,_,_,rfl⟩;rfl
def lR(F:AE K "are_twins" "are_twins" Ud f fd)(m:mg "are_twins"=some (.ref f)):
  A9 P w K mg Zp "are_twins" 1 ["one","other"] (Ap Li):=by
 refine A9.mk F (F.binds (by walk_at "bD2")) m (F.BS (k:=0) ZBW (λvs H Q E h=>Fz.CA gK h) (λAS A outer s H vs Q E q h=>?_))
 refine⟨_,(AA rfl (Ak (Jc (Ah Jb (A8 AI (qv 0) A5) (A8 AI (qv 1) A5)) (JM (Ah (J8 q.Gw) (A8 AI (qv 0) A5) (A8 AI (qv 1) A5)))).pt (A7 rfl (Af EN)) Ay)
   (A7 rfl (Af (XS (D5 BN (A8 AI (qv 0) A5) (A8 AI (qv 1) A5)) (Fx (Gu (D5 BN (A8 AI (qv 0) A5) Au) (Fx (D5 EO (B4 EK Ar (A0 (A8 AI (qv 0) A5) A4)) A5)))))))),?_⟩
 refine Fz.C9 h gK ?_;rintro _ _⟨ns,⟨a,g1,c1⟩,⟨b,g2,c2⟩,rfl,p,o,x,rfl⟩;have v:c1.length<=ns.length:=BK.len p;have u:c2.length<=ns.length:=BK.len o;show Ws [.is (.tup [.str a,.int g1,.tup (c1.map .str)]),.is (.tup [.str b,.int g2,.tup (c2.map .str)])] _ _ _;have n:¬ (a=b/\c1=c2)->PV.bl false=.bl (decide (EJ ⟨a,g1,c1⟩ ⟨b,g2,c2⟩)):=λh=>by rw[mB (λz=>h z.1)]
 walk_at "ww"
 refine Aa (λc=>CD rfl (C2 (HD (n λz=>?_)))) (λc=>?_)
 .rw[z.1]at c;simp[alike]at c
 have r:a=b:=by simpa[alike]using c
 subst r
 walk_at "ww"
 refine Aa (λg=>C2 (HD (n λz=>?_))) (λg=>B5 ?_)
 .rw[z.2]at g;simp at g
 have t:c1=c2:=by simpa using g
 subst t
 walk_at "ww"
 refine Aa (λl=>?_) (λl=>?_)
 .have d:g1=g2:=Int.ofNat_inj.mp (by simpa[alike]using l)
  rw[lD (show EJ ⟨a,g1,c1⟩ ⟨a,g2,c1⟩from⟨⟨rfl,rfl⟩,.inl d⟩)]
 have d:g1≠g2:=λe=>l (by rw[e];simp[alike])
 walk_at "ww"
 refine Aa (λj=>?_) (λj=>?_)
 .have i:a="none" := by simpa[alike]using j
  walk_at "ww"
  rw[Aw]
  congr 1
  rw[Eb,m9,m9];exact⟨λz=>⟨⟨rfl,rfl⟩,.inr ⟨i,by show c1.length<=1;omega⟩⟩,λz=>z.2.elim (λw=>absurd w d) λw=>by have:c1.length<=1:=w.2;omega⟩
 .have i:a ≠"none" := by simpa[alike]using j
  rw[mB (λz:EJ ⟨a,g1,c1⟩ ⟨a,g2,c1⟩=>z.2.elim (λw=>d w) λw=>i w.1)]
def bB:B0 ["row","names"] ["row"] (AY LK):=by walk_at "z1"
def ko:=Sc [(".0",.local),("letter",.local)]
def lL:DL ["row","names"] (AY LK) ko "letter" [] []:=by walk_at "z2"
def tN:=Sc [(".0",.local),("letter",.local)]
def ZBX:DL ["row","names"] (AY LK) tN "letter" [] []:=by walk_at "z2"
def mx:=Sc [(".0",.local),("name",.local),("row",.free)]
def yB:DL ["row","names"] (AY LK) mx "name" ["row"] [0]:=by walk_at "z2"
def cN : ∀ss R,R3 ss R->ss.length=1:=by rintro _ _⟨tp,ns,rfl,_,rfl⟩;rfl
def ot(F:AE K "fresh_names" "fresh_names" LK f fd)(m:mg "fresh_names"=some (.ref f)):
  A9 P w K mg Zp "fresh_names" 1 ["row"] (Ap R3):=by
 refine A9.mk F (F.binds (by walk_at "bD1")) m (F.BS (k:=0) bB (λvs H Q E h=>Fz.CA cN h) (λAS A outer s H vs Q E g h=>?_))
 refine⟨_,(AA rfl (Ad 1 bB.nd (Ax G4 (Gi rfl lL (U7 (Br (v:=.str "abcdefghijklmnopqrstuvwxyz") (by rfl) Jx ⟨_,rfl⟩)) (λ_ _ _ _=>by exact Kt) (λ_ _ _ _=>by exact(Ax OX (qv 0) Au))) (Gi rfl ZBX (U7 (Br (v:=.str "abcdefghijklmnopqrstuvwxyz") (by rfl) Jx ⟨_,rfl⟩)) (λ_ _ _ _=>by exact Kt) (λ_ _ _ _=>by exact(Ax OX (qv 0) Au)))))
   (A7 rfl (Af (Gi rfl yB (GH (qv 1)) (λ_ _ _ _=>by exact(MJ (Ah (show BA _ (compareOp .NotIn) (HX K true)from QL) (qv 1) (qv 0)))) (λ_ _ _ _=>by exact(qv 1)))))),?_⟩
 refine Fz.C9 h cN ?_;rintro _ _⟨tp,ns,rfl,a,rfl⟩;have d:=a.len;show Ws [_,.any] _ _ _
 walk_at "ww"
 refine Fs (CN (Hd (λc:Nat=>PV.str ⟨#[c]⟩) (λ_=>true) (λc=>.str (⟨#[c]⟩ ++ "a")) (dg (ES ⟨_,rfl,(Str.ofString "abcdefghijklmnopqrstuvwxyz").cps.toList,rfl,by decide +kernel,λc _=>Md rfl,λc _ _=>Yl (A6 rfl ⟨_,rfl,ES ⟨_,rfl,show(2:Nat)<=100000 from by decide,rfl⟩⟩),_,.inl ⟨rfl,rfl,?_⟩⟩)) (λx y e=>by cases e;rfl)));refine Fs (CN (Hd (λc:Nat=>PV.str ⟨#[c]⟩) (λ_=>true) (λc=>.str (⟨#[c]⟩ ++ "b")) (dg (ES ⟨_,rfl,(Str.ofString "abcdefghijklmnopqrstuvwxyz").cps.toList,rfl,by decide +kernel,λc _=>Md rfl,λc _ _=>Yl (A6 rfl ⟨_,rfl,ES ⟨_,rfl,show(2:Nat)<=100000 from by decide,rfl⟩⟩),_,.inl ⟨rfl,rfl,?_⟩⟩)) (λx y e=>by cases e;rfl)));have b:(((Str.ofString "abcdefghijklmnopqrstuvwxyz").cps.toList.filter (λ_=>true)).map λc=>PV.str (⟨#[c]⟩ ++ "a"))++(((Str.ofString "abcdefghijklmnopqrstuvwxyz").cps.toList.filter (λ_=>true)).map λc=>PV.str (⟨#[c]⟩ ++ "b"))=IL.map .str:=by rfl
 rw[b];refine⟨by rw[Aw,Aw];decide +kernel,?_⟩;refine Od 1 rfl ?_;refine EW (Hd PV.str (λx=>!decide (x∈ns)) PV.str (Z7 (QJ (A6 rfl ⟨_,.inl ⟨rfl,IL,rfl,by decide +kernel,λx hx=>?_,λx hx _=>A6 rfl rfl,rfl⟩⟩))) str_inj)
 walk_at "ww"
 rfl
def n9:B0 ["things","loop"] ["things","loop"] (AY QD):=by walk_at "z1"
def zC:=Sc [(".0",.local),("name",.local),("loop",.free)]
def y1:DL ["things","loop"] (AY QD) zC "name" ["loop"] [1]:=by walk_at "z2"
def gP : ∀ss R,P1 ss R->ss.length=2:=by rintro _ _⟨tp,ns,r,g,cs,rfl,_,rfl⟩;rfl
def sY(F:AE K "things_to_come" "things_to_come" QD f fd)(m:mg "things_to_come"=some (.ref f)):
  A9 P w K mg Zp "things_to_come" 1 ["things","loop"] (Ap P1):=by
 refine A9.mk F (F.binds (by walk_at "bD2")) m (F.BS (k:=0) n9 (λvs H Q E h=>Fz.CA gP h) (λAS A outer s H vs Q E c h=>?_))
 refine⟨_,(A7 rfl (Af (Gi rfl y1 (GH (qv 0)) (λ_ _ _ _=>by exact(MJ (Ah (show BA _ (compareOp .In) (HX K false)from KQ) (qv 1) (A8 (show Hm _ (MZ K)from AI) (qv 0) A5)))) (λ_ _ _ _=>by exact(qv 1))))),?_⟩;refine Fz.C9 h gP ?_;rintro _ _⟨tp,ns,r,g,cs,rfl,b,rfl⟩;unfold D4;show Ws [_,_] _ _ _;refine EW (Hd PV.str (EX cs) PV.str ?_ str_inj)
 walk_at "ww"
 exact⟨by omega,λy a=>by walk_at "ww"; rfl,λy a _=>by walk_at "ww"; rfl,rfl⟩
def pT:B0 ["row","name"] ["row","name"] (AY Vr):=by walk_at "z1"
def Z6:∀ss R D,(Kk AF) ss R D->ss.length=2:=by rintro _ _ _⟨tp,ns,x,rfl,_,rfl,rfl⟩;rfl
def uW(F:AE K "place_of" "place_of" Vr f fd)(m:mg "place_of"=some (.ref f)):
  BB P w K mg Zp "place_of" 3 ["row","name"] (Ba (Kk AF)):=by
 refine BB.mk F (F.binds (by walk_at "bD2")) m (F.G3 (k:=2) pT (λvs H Q E h=>Fz.Fj Z6 h) (λAS A outer s H vs Q E b h=>?_))
 refine⟨_,(AA rfl (Ak (Ah QL (qv 1) (qv 0)) (A7 rfl (Ko W3 (by rfl) Le b (by decide) rfl rfl CV (A0 (qv 1) A4))) Ay)
   (A7 rfl (Af (vt (Gg HN ZDB PySem.F.type_list_index ZC3 (qv 0) (A0 (qv 1) A4)) (Gg PySem.F.plainAttrs_tuple ZDC PySem.F.type_tuple_index tq (qv 0) (A0 (qv 1) A4)))))),?_⟩
 refine Fz.Fg h Z6 ?_;rintro _ _ _⟨tp,ns,x,rfl,a,rfl,rfl⟩;intro i;show Ws [_,_] _ _ _
 walk_at "ww"
 refine Aa (λc=>?_) (λc=>?_)
 .refine Gr (A6 rfl ⟨a.1,trivial,?_,rfl⟩);intro h;rw[lD h]at c;cases c
 .have hx:x∈ns:=by
   cases e:decide (x∈ns)with
   |true=>exact lY e
   |false=>exact absurd (by rw[e];rfl) c
  refine B5 ?_;cases tp with
  |false=>
   refine C2 (xx (di ?_))
   walk_at "ww"
   exact⟨hx,hx,rfl⟩
  |true=>
   refine C2 (jd (kR ?_))
   walk_at "ww"
   exact⟨hx,hx,rfl⟩
def MM:B0 ["row","loop","gap","fresh","coming","early","late","to_end","to_gap"] ["row","loop","gap","fresh"] (AY Rn):=by walk_at "z1"
def ZE : ∀ss R,(Ry K B3) ss R->ss.length=4:=by rintro _ _⟨tp,ns,l1,g,f,rfl,_,_,_,_,rfl⟩;rfl
def ZA4(F:AE K "trial_by_turns" "trial_by_turns" Rn f fd)(m:mg "trial_by_turns"=some (.ref f)):
  A9 P w K mg Zp "trial_by_turns" 4 ["row","loop","gap","fresh"] (Ap (Ry K B3)):=by
 refine A9.mk F (F.binds (by walk_at "bD4")) m (F.BS (k:=3) MM (λvs H Q E h=>Fz.CA ZE h) (λAS A outer s H vs Q E i h=>?_))
 refine⟨_,(AA rfl (Ad 4 MM.nd (AV KJ i (A0 (qv 0) (A0 (qv 1) A4))))
   (AA rfl (Ad 5 MM.nd (CM Dj i (by decide) Kf rfl (A0 (qv 0) (A0 (A8 CP (qv 4) A5) A4))))
   (AA rfl (Ad 6 MM.nd (CM Dj i (by decide) Kf rfl (A0 (qv 0) (A0 (A8 CP (qv 4) A5) A4))))
   (AA rfl (Ad 7 MM.nd (BP (A0 Au (A0 (qv 6) (A0 (Ax E5 (B4 EK Ar (A0 (qv 0) A4)) A5) A4)))))
   (AA rfl (Ad 8 MM.nd (BP (A0 Au (A0 (B4 (Ya rfl) Ly (A0 (qv 5) (A0 (qv 2) A4))) (A0 (Ax E5 (B4 (jq rfl) SV (A0 (qv 5) (A0 (qv 2) A4))) A5) A4)))))
   (A7 rfl (Af (CO (A0 (BP (A0 Au (A0 (qv 3) (A0 (B4 EK Ar (A0 (qv 0) A4)) A4)))) (A0 (qv 7) (A0 (qv 8) (A0 (Br (v:=.ref B3) (by rfl) D8 rfl) A4)))))))))))),?_⟩
 refine Fz.C9 h ZE ?_;rintro _ _⟨tp,ns,⟨n,g1,c1⟩,g,f,rfl,c,o,y,h2,rfl⟩;have x:=c.len;have C:Cy K B3 [.str "step"]:=Cy.of DS rfl rfl;have p:GB K (some B3):=λa e=>by cases e;exact C
 show Ws [_,.is (D4 n g1 c1),_,_,.any,.any,.any,.any,.any] _ _ _;refine BO (FT (DR (Aj (B2 rfl (AG (A6 rfl (Ai ⟨_,⟨tp,ns,n,g1,c1,rfl,by omega,rfl⟩,?_⟩)))))));rintro _ rfl;obtain⟨x0,b,l,j⟩:=dA o.up o.sub h2;obtain⟨i0,d,t,p1,AW⟩:=Wd c.nd j;have n0:=List.idxOf_lt_length_iff.mpr i0;have u:=List.idxOf_lt_length_iff.mpr d;rw[show List.filter (EX c1) ns=x0::b::l from j];refine BO (Cq (Cj (Aj (B2 rfl (AG (GX (FZ rfl ⟨rfl,Ce ⟨_,_,rfl,LW _ _,Ai ⟨_,_,⟨tp,ns,x0,rfl,LG (c.nm x0 i0),rfl,rfl⟩,trivial,λe h=>absurd i0 h.1,?_⟩⟩⟩)))))));rintro _⟨_,rfl⟩;refine BO (Cq (Cj (Aj (B2 rfl (AG (GX (FZ rfl ⟨rfl,Ce ⟨_,_,rfl,Rw _ _ _,Ai ⟨_,_,⟨tp,ns,b,rfl,LG (c.nm b d),rfl,rfl⟩,trivial,λe h=>absurd d h.1,?_⟩⟩⟩)))))));rintro _⟨_,rfl⟩
 walk_at "ww"
 refine⟨by simp,?_⟩
 walk_at "ww"
 refine⟨by simp,?_⟩
 walk_at "ww"
 refine⟨by simp,B6 (A6 rfl (B6 (A6 rfl (B6 (Ik [.str "step"] (Bs ⟨by simp,p,?_⟩))))))⟩;have r:(if(g:Int)<(ns.idxOf x0:Nat)then(g:Int)else(ns.idxOf x0:Nat))=((min (ns.idxOf x0) g:Nat):Int):=by split <;> omega
 have q:(if(g:Int) > (ns.idxOf x0:Nat)then(g:Int)else(ns.idxOf x0:Nat))=((max (ns.idxOf x0) g:Nat):Int):=by split <;> omega
 rw[r,q,Aw];unfold Mj;rw[show List.filter (EX c1) ns=x0::b::l from j];rfl
def Ua:B0 ["row","one","other","gap","fresh"] ["row","one","other"] (AY X1):=by walk_at "z1"
def fW : ∀ss R,(SY K B3) ss R->ss.length=3:=by rintro _ _⟨tp,ns,l1,l2,f,f1,r,rfl,_,_,_,_,_,_,_,rfl⟩;rfl
def ZCS(F:AE K "trial_by_gap" "trial_by_gap" X1 f fd)(m:mg "trial_by_gap"=some (.ref f)):
  A9 P w K mg Zp "trial_by_gap" 5 ["row","one","other"] (Ap (SY K B3)):=by
 refine A9.mk F (F.binds (by walk_at "bD3")) m (F.BS (k:=4) Ua (λvs H Q E h=>Fz.CA fW h) (λAS A outer s H vs Q E d h=>?_))
 refine⟨_,(AA rfl (Ad 3 Ua.nd (B4 (Ya rfl) Ly (A0 (A8 AI (qv 1) A5) (A0 (A8 AI (qv 2) A5) A4))))
   (AA rfl (Ad 4 Ua.nd (AV Ls d (A0 (qv 0) A4)))
   (AA rfl (Ak (Ah BN (A8 AI (qv 1) A5) Au) (A7 rfl (Af (AV VW d (A0 (qv 0) (A0 (qv 1) (A0 (qv 3) (A0 (A8 CP (qv 4) A5) A4))))))) Ay)
   (A7 rfl (Af (CO (A0 (BP (A0 Au (A0 (A8 CP (qv 4) A5) (A0 (qv 3) A4)))) (A0 (BP (A0 Au (A0 (A8 CP (qv 4) A5) (A0 (Ax E5 (B4 EK Ar (A0 (qv 0) A4)) A5) A4)))) (A0 (Br (v:=.ref B3) (by rfl) D8 rfl) A4))))))))),?_⟩
 refine Fz.C9 h fW ?_;rintro _ _⟨tp,ns,⟨b,g1,c1⟩,⟨o,g2,c2⟩,f,f1,r,rfl,i,n,p,l,d,q,t,rfl⟩;have x:=i.len;have B:(g1:Int)<=ns.length:=n.g1;have y:(g2:Int)<=ns.length:=p.g1;have l:c1=c2:=l;have d:b=o:=d;subst l;subst d;show Ws [_,.is (.tup [.str b,.int g1,.tup (c1.map .str)]),.is (.tup [.str b,.int g2,.tup (c1.map .str)]),.any,.any] _ _ _;have u:(if(g2:Int)<(g1:Int)then(g2:Int)else(g1:Int))=((min g1 g2:Nat):Int):=by split <;> omega
 walk_at "ww"
 rw[u];refine FT (DR (Aj (B2 rfl (Ai ⟨_,⟨tp,ns,rfl,i,rfl⟩,?_⟩))));rintro _ rfl;rw[t];unfold Ms
 walk_at "ww"
 refine Aa (λc=>?_) (λc=>B5 ?_)
 .have g:b="none" := by simpa[alike]using c
  have h2:2<=c1.length:=ZD2 λz=>q ⟨⟨rfl,rfl⟩,.inr ⟨g,z⟩⟩;refine EW (DR (Aj (B2 rfl (AG (A6 rfl (AG (A6 rfl (AG (GX (FZ rfl ⟨rfl,Ce ⟨_,_,rfl,LW _ _,Ai ⟨_,⟨tp,ns,⟨b,g1,c1⟩,min g1 g2,f,rfl,i,n,by omega,h2,rfl⟩,?_⟩⟩⟩))))))))));rintro _⟨j,rfl⟩;rw[lO g];exact⟨j,rfl⟩
 .have g:b ≠"none" := by simpa[alike]using c
  rw[lA g];have C:Cy K B3 [.str "step"]:=Cy.of DS rfl rfl;have j:GB K (some B3):=λa e=>by cases e;exact C
  refine EW (EY (B6 (EZ (B6 (ES (B6 (GX (FZ rfl ⟨rfl,Ce ⟨_,_,rfl,LW _ _,?_⟩⟩))))))));refine B6 (A6 rfl (Bs ⟨by simp,?_⟩));refine B6 (EZ (B6 (ES (B6 (GX (FZ rfl ⟨rfl,Ce ⟨_,_,rfl,Rw _ _ _,?_⟩⟩))))))
  walk_at "ww"
  refine⟨by simp,B6 (Ik [.str "step"] (Bs ⟨by simp,j,?_⟩))⟩;rw[Aw];rfl
def jx:B0 ["things"] ["things"] (AY QY):=by walk_at "z1"
def ZBU:=Sc [(".0",.local),("thing",.local)]
def zA:DL ["things"] (AY QY) ZBU "thing" [] []:=by walk_at "z2"
def Yv : ∀ss R,Oi ss R->ss.length=1:=by rintro _ _⟨tp,xs,rfl,_,rfl⟩;rfl
def wN(F:AE K "takes_of" "takes_of" QY f fd)(m:mg "takes_of"=some (.ref f)):
  A9 P w K mg Zp "takes_of" 1 ["things"] (Ap Oi):=by
 refine A9.mk F (F.binds (by walk_at "bD1")) m (F.BS (k:=0) jx (λvs H Q E h=>Fz.CA Yv h) (λAS A outer s H vs Q E b h=>?_))
 refine⟨_,(A7 rfl (Af (Gi rfl zA (GH (qv 0)) (λ_ _ _ _=>by exact Kt) (λ_ _ _ _=>by exact(BP (A0 Au (A0 (qv 0) A4))))))),?_⟩;refine Fz.C9 h Yv ?_;rintro _ _⟨tp,xs,rfl,a,rfl⟩;show Ws [_] _ _ _;refine EW (Hd PV.str (λ_=>true) (λx=>.tup [.str "take",.str x]) ?_ str_inj)
 walk_at "ww"
 exact⟨by omega,λx _=>Md rfl,λx _ _=>EZ (B6 (ES (B6 (A6 rfl (Bs ⟨by simp,rfl⟩))))),by rw[List.filter_eq_self.mpr (λ_ _=>rfl)]⟩
def aW:B0 ["row","one","other","unlike"] ["row","one","other"] (AY OY):=by walk_at "z1"
def pU:=Sc [(".0",.local),("thing",.local),("unlike",.free)]
def ZCY:DL ["row","one","other","unlike"] (AY OY) pU "thing" ["unlike"] [3]:=by walk_at "z2"
def gC : ∀ss R,(S7 K B3) ss R->ss.length=3:=by rintro _ _⟨tp,ns,l1,l2,rfl,_,_,_,_,rfl⟩;rfl
def vh(F:AE K "trial_by_coming" "trial_by_coming" OY f fd)(m:mg "trial_by_coming"=some (.ref f)):
  A9 P w K mg Zp "trial_by_coming" 3 ["row","one","other"] (Ap (S7 K B3)):=by
 refine A9.mk F (F.binds (by walk_at "bD3")) m (F.BS (k:=2) aW (λvs H Q E h=>Fz.CA gC h) (λAS A outer s H vs Q E p h=>?_))
 refine⟨_,(AA rfl (Ad 3 aW.nd (B4 (Ye rfl) De (A0 (Ax xi (Eg (WA rfl) Kl (A0 (A8 AI (qv 1) A5) A4)) (Eg (WA rfl) Kl (A0 (A8 AI (qv 2) A5) A4))) A4)))
   (A7 rfl (Af (Ax G4 (AV Ks p (A0 (Gi rfl ZCY (GH (qv 0)) (λ_ _ _ _=>by exact(MJ (Ah Jb (qv 1) (A8 (show Hm _ (XX K)from CP) (qv 0) A5)))) (λ_ _ _ _=>by exact(qv 1))) A4)) (CO (A0 (Br (v:=.ref B3) (by rfl) D8 rfl) A4)))))),?_⟩
 refine Fz.C9 h gC ?_;rintro _ _⟨tp,ns,⟨l,g1,c1⟩,⟨j,g2,c2⟩,rfl,i,c,b,t,rfl⟩;have G:=i.len;have B:c1.length<=ns.length:=BK.len c;have u:c2.length<=ns.length:=BK.len b;show Ws [_,.is (.tup [.str l,.int g1,.tup (c1.map .str)]),.is (.tup [.str j,.int g2,.tup (c2.map .str)]),.any] _ _ _;refine BO (FT (jy ?_))
 walk_at "ww"
 refine⟨by omega,?_⟩
 walk_at "ww"
 refine⟨by omega,ns,by omega,c.sub,b.sub,λd nd g o=>?_⟩;obtain⟨x,r,rfl⟩:∃x r,d=x::r:=by
  cases d with
  |cons x r=>exact⟨x,r,rfl⟩
  |nil=>exact absurd (Qm c.up b.up λy=>RK λz=>absurd ((g y).mpr z) Cb) t
 have C:Cy K B3 [.str "step"]:=Cy.of DS rfl rfl;have q:GB K (some B3):=λa e=>by cases e;exact C
 refine EW (Pr (IM (DR (Aj (IM (Hd PV.str (λy=>!alike (.str y) (.str x)) PV.str ?_ str_inj))))))
 walk_at "ww"
 refine⟨by omega,λy n=>by walk_at "ww"; exact⟨_,_,rfl,LW _ _,rfl,_,rfl,rfl⟩,λy n _=>A6 rfl rfl,?_⟩
 rw[Ot];have D:(wo ns x).length<=ns.length:=Jl _ _;refine Ai ⟨_,⟨false,wo ns x,rfl,by omega,rfl⟩,?_⟩;rintro _ rfl;refine⟨rfl,IM (EY (B6 (Ik [.str "step"] (Bs ⟨by simp,rfl,by rw[Aw];simp;omega,q,D3 (wo ns x)++[.Ac],⟨x,r,nd,o,g,rfl⟩,?_⟩))))⟩;unfold D3;rw[EG,Gj];rfl
def Yq:B0 ["row","loop","gap"] ["row","loop"] (AY Tc):=by walk_at "z1"
def dZ:∀ss R D,(XU Ab) ss R D->ss.length=2:=by rintro _ _ _⟨tp,ns,r,g,cs,rfl,_,_,rfl,rfl⟩;rfl
def xn(F:AE K "rest" "rest" Tc f fd)(m:mg "rest"=some (.ref f)):
  BB P w K mg Zp "rest" 4 ["row","loop"] (Ba (XU Ab)):=by
 refine BB.mk F (F.binds (by walk_at "bD2")) m (F.G3 (k:=3) Yq (λvs H Q E h=>Fz.Fj dZ h) (λAS A outer s H vs Q E a h=>?_))
 refine⟨_,(AA rfl (D1 (CM KU a (by decide) CV rfl (A0 (qv 0) (A0 (qv 1) A4))))
   (AA rfl (Ad 2 Yq.nd (A8 AI (qv 1) A5))
   (A7 rfl (Af (Ax G4 (AV KJ a (A0 (FG Fz.JB (qv 0) (Ey (qv 2)) Fp) (A0 (qv 1) A4))) (AV KJ a (A0 (FG Fz.JB (qv 0) Fp (Ey (qv 2))) (A0 (qv 1) A4)))))))),?_⟩
 refine Fz.Fg h dZ ?_;rintro _ _ _⟨tp,ns,r,g,cs,rfl,b,c,rfl,rfl⟩;intro i0;show Ws [_,_,.any] _ _ _;refine BO (Ff ?_);refine Cj ?_;refine Aj (B2 rfl (AG (A6 rfl (Ai ⟨_,_,⟨tp,ns,r,g,cs,rfl,b,rfl,rfl⟩,trivial,λe h=>h,?_⟩))));intro _ BQ;obtain⟨n,rfl,gd⟩:=Vh BQ;have d:=gd.g1;refine BO (Cq ?_);unfold D4
 walk_at "ww"
 refine Fs (CN (DR (Aj ?_)))
 walk_at "ww"
 rw[Va,<- YD];refine AG (A6 rfl (Ai ⟨_,⟨tp,ns.drop n,r,n,cs,rfl,by rw[EF];omega,rfl⟩,?_⟩));rintro _ rfl;refine⟨_,.inl ⟨rfl,rfl,Fs (CN (DR (Aj ?_)))⟩⟩
 walk_at "ww"
 rw[Ng,<- OM];refine AG (A6 rfl (Ai ⟨_,⟨tp,ns.take n,r,n,cs,rfl,by rw[Bx];omega,rfl⟩,?_⟩));rintro _ rfl;have l1:((ns.drop n).filter (EX cs)).length<=(ns.drop n).length:=Jl _ _;have l2:((ns.take n).filter (EX cs)).length<=(ns.take n).length:=Jl _ _;rw[EF]at l1;rw[Bx]at l2;refine⟨_,.inl ⟨rfl,rfl,by rw[Aw,Aw];omega,n,rfl,gd,?_⟩⟩;unfold Di;rw[EG]
def ZAx:B0 ["coming","gone"] ["coming","gone"] (AY QF):=by walk_at "z1"
def zN:=Sc [(".0",.local),("name",.local),("gone",.free)]
def ZAe:DL ["coming","gone"] (AY QF) zN "name" ["gone"] [1]:=by walk_at "z2"
def hX : ∀ss R,Qc ss R->ss.length=2:=by rintro _ _⟨cs,x,rfl,_,rfl⟩;rfl
def kX(F:AE K "coming_without" "coming_without" QF f fd)(m:mg "coming_without"=some (.ref f)):
  A9 P w K mg Zp "coming_without" 1 ["coming","gone"] (Ap Qc):=by
 refine A9.mk F (F.binds (by walk_at "bD2")) m (F.BS (k:=0) ZAx (λvs H Q E h=>Fz.CA hX h) (λAS A outer s H vs Q E c h=>?_))
 refine⟨_,(A7 rfl (Af (Eg OB Ed (A0 (Gi rfl ZAe (GH (qv 0)) (λ_ _ _ _=>by exact(MJ (Ah Jb (qv 1) (qv 0)))) (λ_ _ _ _=>by exact(qv 1))) A4)))),?_⟩;refine Fz.C9 h hX ?_;rintro _ _⟨cs,x,rfl,b,rfl⟩;show Ws [_,_] _ _ _;refine C2 (Uu rfl (Fs (CN (Hd PV.str (λy=>!alike (.str y) (.str x)) PV.str ?_ str_inj))))
 walk_at "ww"
 refine⟨by omega,λy a=>by walk_at "ww"; rfl,λy a _=>by walk_at "ww"; rfl,?_⟩
 rw[Ot];exact⟨_,.inl ⟨rfl,rfl⟩⟩
def ZAf:B0 ["row","loop","name"] ["row","loop","name"] (AY Rf):=by walk_at "z1"
def ZT : ∀ss R,Sw ss R->ss.length=3:=by rintro _ _⟨tp,ns,r,g,cs,x,rfl,_,_,_,rfl⟩;rfl
def oM(F:AE K "loop_telling" "loop_telling" Rf f fd)(m:mg "loop_telling"=some (.ref f)):
  A9 P w K mg Zp "loop_telling" 4 ["row","loop","name"] (Ap Sw):=by
 refine A9.mk F (F.binds (by walk_at "bD3")) m (F.BS (k:=3) ZAf (λvs H Q E h=>Fz.CA ZT h) (λAS A outer s H vs Q E a h=>?_))
 refine⟨_,(A7 rfl (Af (BP (A0 (A8 AI (qv 1) A5) (A0 (Ax E5 (CM Dj a (by decide) Kf rfl (A0 (qv 0) (A0 (qv 2) A4))) A5) (A0 (AV Lm a (A0 (A8 AI (qv 1) A5) (A0 (qv 2) A4))) A4)))))),?_⟩;refine Fz.C9 h ZT ?_;rintro _ _⟨tp,ns,r,g,cs,x,rfl,c,b,hx,rfl⟩;unfold D4;show Ws [_,_,_] _ _ _
 walk_at "ww"
 refine Cj ?_;refine Aj (B2 rfl (AG (A6 rfl (Ai ⟨_,_,⟨tp,ns,x,rfl,b,rfl,rfl⟩,trivial,λe h=>absurd hx h.1,?_⟩))));rintro _⟨_,rfl⟩
 walk_at "ww"
 refine wp_call (AG ?_)
 walk_at "ww"
 refine AG (A6 rfl (Ai ⟨_,⟨cs,x,rfl,c,rfl⟩,?_⟩));rintro _ rfl
 walk_at "ww"
 exact⟨by simp,rfl⟩
def du:B0 ["row","loop","order"] ["row","loop"] (AY TX):=by walk_at "z1"
def Z3:∀ss R D,(Xb Ab) ss R D->ss.length=2:=by rintro _ _ _⟨tp,ns,r,g,cs,rfl,_,_,_,rfl,rfl⟩;rfl
def oO(F:AE K "step" "step" TX f fd)(m:mg "step"=some (.ref f)):
  BB P w K mg Zp "step" 5 ["row","loop"] (Ba (Xb Ab)):=by
 refine BB.mk F (F.binds (by walk_at "bD2")) m (F.G3 (k:=4) du (λvs H Q E h=>Fz.Fj Z3 h) (λAS A outer s H vs Q E a h=>?_))
 refine⟨_,(AA rfl (Ad 2 du.nd (CM Y1 a (by decide) CV rfl (A0 (qv 0) (A0 (qv 1) A4))))
   (AA rfl (Ak (Ah (mF a.Gw) (qv 2) (CO A4)) (A7 rfl (Af (BP (A0 LR (A0 (qv 1) A4))))) Ay)
   (A7 rfl (Af (BP (A0 (A8 CP (qv 2) A5) (A0 (AV X9 a (A0 (qv 0) (A0 (qv 1) (A0 (A8 CP (qv 2) A5) A4)))) A4))))))),?_⟩
 refine Fz.Fg h Z3 ?_;rintro _ _ _⟨tp,ns,r,g,cs,rfl,d,b,c,rfl,rfl⟩;intro i0;show Ws [_,_,.any] _ _ _;refine BO (FT ?_);refine Iv ?_;refine Aj (B2 rfl (AG (A6 rfl (Ai ⟨_,_,⟨tp,ns,r,g,cs,rfl,d,b,rfl,rfl⟩,trivial,λe h=>h,?_⟩))));rintro _⟨n,rfl,gd,rfl⟩
 walk_at "ww"
 refine⟨by simp,?_⟩
 walk_at "ww"
 rw[Aw];refine⟨rfl,_,rfl,?_⟩;cases e:Di ns n cs with
 |nil=>
  refine CD rfl ?_
  walk_at "ww"
  refine⟨by simp,n,rfl,gd,?_⟩;unfold Ml;rw[e];rfl
 |cons x t=>
  have hx:=KZ.mp (by rw[e];exact Bc:x∈Di ns n cs);refine Bw (by simp) (B5 ?_)
  walk_at "ww"
  refine⟨0,.str x,rfl,Ib (j:=0) rfl,?_⟩;refine B6 (wp_call (Aj (B2 rfl (AG (A6 rfl (AG ?_))))))
  walk_at "ww"
  refine⟨0,.str x,rfl,Ib (j:=0) rfl,?_⟩;refine Ai ⟨_,⟨tp,ns,r,n,cs,x,rfl,by omega,c x hx.1,hx.1,rfl⟩,?_⟩;rintro _ rfl
  walk_at "ww"
  refine⟨by simp,n,rfl,gd,?_⟩;unfold Ml;rw[e]
def pZ:B0 ["text"] ["text"] (AY QV):=by walk_at "z1"
def qe:=Sc [(".0",.local),("sign",.local),("LETTERS",.globalImplicit)]
def sV:DL ["text"] (AY QV) qe "sign" [] []:=by walk_at "z2"
def zu(F:AE K "is_name" "is_name" QV f fd)(m:mg "is_name"=some (.ref f)):
  A9 P w K mg Zp "is_name" 1 ["text"] (TJ):=by
 refine A9.mk F (F.binds (by walk_at "bD1")) m (F.BS (k:=0) pZ (λvs H Q E h=>?_) (λAS A outer s H vs Q E d h=>?_))
 .obtain⟨x,rfl,hx,q⟩:=h;rfl
 obtain⟨x,rfl,hx,q⟩:=h;refine⟨_,(A7 rfl (Af (Gu (eG EO EO A5 (B4 Zk Ar (A0 (qv 0) A4)) (Br (v:=.int 8) (by rfl) XN ⟨_,rfl⟩)) (Fx (B4 (V8 rfl) IF (A0 (Gi rfl sV (U7 (qv 0)) (λ_ _ _ _=>by exact Kt) (λ_ _ _ _=>by exact(D5 tQ (qv 0) (Br (v:=.str "abcdefghijklmnopqrstuvwxyz") (by rfl) Jx ⟨_,rfl⟩)))) A4)))))),?_⟩;refine⟨_,rfl,_,rfl,small (by omega),_,_,rfl,rfl,_,rfl,?_⟩;refine Aa (λc=>?_) (λc=>⟨_,rfl,D7 ?_⟩)
 .refine⟨_,_,rfl,rfl,_,rfl,?_⟩;refine Aa (λc2=>?_) (λc2=>?_)
  .refine⟨_,rfl,x,rfl,λacc BM=>lV (λ_=>true) ZK BM (by rw[<- EC,<- HQ];exact small (by omega)) (λi v H' Q' _ _ h=>h H' (AJ.refl _)) (λi v H' Q' b _ _ h=>?_) (λH' s1 a=>?_)⟩
   .obtain⟨g,rfl⟩:=signs_get b;exact⟨_,rfl,_,_,rfl,rfl,h H' (AJ.refl _)⟩
   .rw[nE]at a;refine⟨acc,_,rfl,AO.of a,?_⟩;rw[all_map];have e:isNm x=x.cps.toList.all M8:=by unfold isNm;rw[c,c2];rfl
    rw[<- e];exact q H' s1
  .have e:isNm x=false:=by unfold isNm;rw[Bool.eq_false_iff.mpr c2];simp
   rw[<- e];exact q H (AJ.refl _)
 .have e:isNm x=false:=by unfold isNm;rw[Bool.eq_false_iff.mpr c];simp
  rw[<- e];exact q H (AJ.refl _)
def tZ:B0 ["row","name","at"] ["row","name","at"] (AY UT):=by walk_at "z1"
def Zu:∀ss R D,(X3 ⟨AL,AM,AF,AH,AD⟩) ss R D->ss.length=3:=by rintro _ _ _⟨tp,ns,x,i,rfl,_,rfl,rfl⟩;rfl
def wc(F:AE K "check_put" "check_put" UT f fd)(m:mg "check_put"=some (.ref f)):
  BB P w K mg Zp "check_put" 3 ["row","name","at"] (Ba (X3 ⟨AL,AM,AF,AH,AD⟩)):=by
 refine BB.mk F (F.binds (by walk_at "bD3")) m (F.G3 (k:=2) tZ (λvs H Q E h=>Fz.Fj Zu h) (λAS A outer s H vs Q E a h=>?_))
 refine⟨_,(AA rfl (Ak (Dz (FU (AV Tt a (A0 (qv 1) A4)))) (A7 rfl (Ko To (by rfl) MH a (by decide) rfl rfl CV (A0 (qv 1) A4))) Ay)
   (AA rfl (Ak (Ah KQ (qv 1) (qv 0)) (A7 rfl (Ko W2 (by rfl) La a (by decide) rfl rfl CV (A0 (qv 1) A4))) Ay)
   (AA rfl (Ak (Dz (M4 EO EO A5 (qv 2) (B4 EK Ar (A0 (qv 0) A4)))) (A7 rfl (Ko Hh (by rfl) Fw a (by decide) rfl rfl CV (A0 (qv 2) A4))) Ay)
   (A7 rfl (Ak (Ah SM (B4 EK Ar (A0 (qv 0) A4)) (Br (v:=.int 40) (by rfl) UL ⟨_,rfl⟩)) (A7 rfl (Wl (by rfl) IS LO rfl rfl CV (A0 Au A4))) Ay))))),?_⟩
 refine Fz.Fg h Zu ?_;rintro _ _ _⟨tp,ns,x,i,rfl,⟨b,hi⟩,rfl,rfl⟩;intro i0;show Ws [_,_,_] _ _ _;refine BO (Cc (DK (EU (t8 (A6 rfl ⟨x,rfl,b.2,_,rfl,?_⟩)))));refine Aa (λc=>?_) (λc=>?_)
 .refine Gr (A6 rfl ⟨b.1,trivial,?_⟩);show Am.B8 _ _ _=_;simp only[Am.B8];rw[lO (by cases e:isNm x <;> simp_all)];rfl
 have h1:¬ isNm x=false:=by cases e:isNm x <;> simp_all
 refine B5 ?_
 walk_at "ww"
 refine Aa (λc=>?_) (λc=>?_)
 .refine Gr (A6 rfl ⟨b.1,trivial,?_⟩);show Am.B8 _ _ _=_;simp only[Am.B8];rw[lA h1,lO (lY c)];rfl
 have h2:x∉ns:=λz=>c (lD z);refine B5 ?_;have bad:¬ inR i 0 ns.length->Am.B8 ⟨AL,AM,AF,AH,AD⟩ ns (.put x i)=some ⟨AH,["at"],[.int i]⟩:=λz=>by
  simp only[Am.B8];rw[lA h1,lA h2,lO z];rfl
 refine BO (Cc (DK (EV (Kc ?_))))
 walk_at "ww"
 refine Aa (λc=>?_) (λc=>?_)
 .walk_at "ww"
  rw[Aw];refine Aa (λc2=>?_) (λc2=>?_)
  .refine Gr (A6 rfl ⟨hi,trivial,bad λz=>?_⟩);rw[lD z.2]at c2;cases c2
  .have g:inR i 0 ns.length:=⟨lY c,by
    cases e:decide (i<=(ns.length:Int))with
    |true=>exact lY e
    |false=>exact absurd (by rw[e];rfl) c2⟩
   refine B5 ?_
   walk_at "ww"
   rw[Aw];refine Aa (λd=>?_) (λd=>?_)
   .refine Tg ?_
    walk_at "ww"
    refine⟨by simp,trivial,?_⟩;show Am.B8 _ _ _=_;simp only[Am.B8];have q:=lY d;rw[lA h1,lA h2,lA (Decidable.not_not.mpr g),lO (by omega)];rfl
   .refine B5 ⟨_,rfl,?_⟩;show Am.B8 _ _ _=_;simp only[Am.B8];have q:¬ (40:Int)<=ns.length:=λz=>d (lD z);rw[lA h1,lA h2,lA (Decidable.not_not.mpr g),lA (by omega)]
 .refine⟨false,rfl,CD rfl ?_⟩;refine Gr (A6 rfl ⟨hi,trivial,bad λz=>c (lD z.1)⟩)
def ZBA:B0 ["row","name","at"] ["row","name","at"] (AY Ss):=by walk_at "z1"
def i9:∀ss R D,(UB ⟨AL,AM,AF,AH,AD⟩) ss R D->ss.length=3:=by rintro _ _ _⟨tp,ns,x,i,rfl,_,rfl,rfl⟩;rfl
def ZAw(F:AE K "check_move" "check_move" Ss f fd)(m:mg "check_move"=some (.ref f)):
  BB P w K mg Zp "check_move" 4 ["row","name","at"] (Ba (UB ⟨AL,AM,AF,AH,AD⟩)):=by
 refine BB.mk F (F.binds (by walk_at "bD3")) m (F.G3 (k:=3) ZBA (λvs H Q E h=>Fz.Fj i9 h) (λAS A outer s H vs Q E a h=>?_))
 refine⟨_,(AA rfl (D1 (CM Dj a (by decide) CV rfl (A0 (qv 0) (A0 (qv 1) A4))))
   (A7 rfl (Ak (Dz (M4 EO LZ A5 (qv 2) (B4 EK Ar (A0 (qv 0) A4)))) (A7 rfl (Ko Hh (by rfl) Fw a (by decide) rfl rfl CV (A0 (qv 2) A4))) Ay))),?_⟩
 refine Fz.Fg h i9 ?_;rintro _ _ _⟨tp,ns,x,i,rfl,⟨b,hi⟩,rfl,rfl⟩;intro i0;show Ws [_,_,_] _ _ _;refine BO (Ff ?_);refine Cj ?_;refine Aj (B2 rfl (AG (A6 rfl (Ai ⟨_,_,⟨tp,ns,x,rfl,b,rfl,rfl⟩,trivial,?_,?_⟩))))
 .rintro e⟨hx,rfl⟩;show Am.B8 _ _ _=_;simp only[Am.B8];rw[lO hx]
 rintro _⟨hx,_⟩;have bad:¬ inR i 0 (ns.length - 1)->Am.B8 ⟨AL,AM,AF,AH,AD⟩ ns (.move x i)=some ⟨AH,["at"],[.int i]⟩:=λz=>by
  simp only[Am.B8];rw[lA (Decidable.not_not.mpr hx),lO z];rfl
 refine Cc (DK (EV (Kc ?_)))
 walk_at "ww"
 refine Aa (λc=>?_) (λc=>?_)
 .walk_at "ww"
  rw[Aw];refine Aa (λc2=>?_) (λc2=>?_)
  .refine Gr (A6 rfl ⟨hi,trivial,bad λz=>?_⟩);have:=z.2;rw[lD (by omega)]at c2;cases c2
  .have d:i<(ns.length:Int):=by
    cases e:decide (i<(ns.length:Int))with
    |true=>exact lY e
    |false=>exact absurd (by rw[e];rfl) c2
   refine B5 ⟨_,rfl,?_⟩;show Am.B8 _ _ _=_;simp only[Am.B8];rw[lA (Decidable.not_not.mpr hx),lA (Decidable.not_not.mpr ⟨lY c,by omega⟩)]
 .refine⟨false,rfl,CD rfl ?_⟩;refine Gr (A6 rfl ⟨hi,trivial,bad λz=>c (lD z.1)⟩)
def ZAs:B0 ["row","low","high"] ["row","low","high"] (AY Tp):=by walk_at "z1"
def c5:∀ss R D,(Xj ⟨AL,AM,AF,AH,AD⟩) ss R D->ss.length=3:=by rintro _ _ _⟨tp,ns,lo,hi,rfl,_,rfl,rfl⟩;rfl
def ZAE(F:AE K "check_turn" "check_turn" Tp f fd)(m:mg "check_turn"=some (.ref f)):
  BB P w K mg Zp "check_turn" 3 ["row","low","high"] (Ba (Xj ⟨AL,AM,AF,AH,AD⟩)):=by
 refine BB.mk F (F.binds (by walk_at "bD3")) m (F.G3 (k:=2) ZAs (λvs H Q E h=>Fz.Fj c5 h) (λAS A outer s H vs Q E g h=>?_))
 refine⟨_,(AA rfl (Ak (Dz (M4 EO EO A5 (qv 1) (B4 EK Ar (A0 (qv 0) A4)))) (A7 rfl (Ko Hh (by rfl) Fw g (by decide) rfl rfl CV (A0 (qv 1) A4))) Ay)
   (A7 rfl (Ak (Dz (M4 EO EO (qv 1) (qv 2) (B4 EK Ar (A0 (qv 0) A4)))) (A7 rfl (Ko Hh (by rfl) Fw g (by decide) rfl rfl CV (A0 (qv 2) A4))) Ay))),?_⟩
 refine Fz.Fg h c5 ?_;rintro _ _ _⟨tp,ns,lo,hi,rfl,⟨i,hh⟩,rfl,rfl⟩;intro i0;show Ws [_,_,_] _ _ _;have bad:¬ inR lo 0 ns.length->Am.B8 ⟨AL,AM,AF,AH,AD⟩ ns (.turn lo hi)=some ⟨AH,["at"],[.int lo]⟩:=λz=>by
  simp only[Am.B8];rw[lO z];rfl
 have j:inR lo 0 ns.length->¬ inR hi lo ns.length->Am.B8 ⟨AL,AM,AF,AH,AD⟩ ns (.turn lo hi)=some ⟨AH,["at"],[.int hi]⟩:=λy z=>by
  simp only[Am.B8];rw[lA (Decidable.not_not.mpr y),lO z];rfl
 refine BO (Cc (DK (EV (Kc ?_))))
 walk_at "ww"
 refine Aa (λc=>?_) (λc=>?_)
 .walk_at "ww"
  rw[Aw];refine Aa (λc2=>?_) (λc2=>?_)
  .refine Gr (A6 rfl ⟨i,trivial,bad λz=>?_⟩);rw[lD z.2]at c2;cases c2
  .have b:inR lo 0 ns.length:=⟨lY c,by
    cases e:decide (lo<=(ns.length:Int))with
    |true=>exact lY e
    |false=>exact absurd (by rw[e];rfl) c2⟩
   refine B5 ?_;refine Cc (DK (EV (Kc ?_)))
   walk_at "ww"
   refine Aa (λd=>?_) (λd=>?_)
   .walk_at "ww"
    rw[Aw];refine Aa (λa=>?_) (λa=>?_)
    .refine Gr (A6 rfl ⟨hh,trivial,j b λz=>?_⟩);rw[lD z.2]at a;cases a
    .have l:inR hi lo ns.length:=⟨lY d,by
      cases e:decide (hi<=(ns.length:Int))with
      |true=>exact lY e
      |false=>exact absurd (by rw[e];rfl) a⟩
     refine B5 ⟨_,rfl,?_⟩;show Am.B8 _ _ _=_;simp only[Am.B8];rw[lA (Decidable.not_not.mpr b),lA (Decidable.not_not.mpr l)]
   .refine⟨false,rfl,CD rfl ?_⟩;refine Gr (A6 rfl ⟨hh,trivial,j b λz=>d (lD z.1)⟩)
 .refine⟨false,rfl,CD rfl ?_⟩;refine Gr (A6 rfl ⟨i,trivial,bad λz=>c (lD z.1)⟩)
def jo:B0 ["row","deed"] ["row","deed"] (AY Vy):=by walk_at "z1"
def dY:∀ss R D,(TL ⟨AL,AM,AF,AH,AD⟩) ss R D->ss.length=2:=by rintro _ _ _⟨tp,ns,d,rfl,_,rfl,rfl⟩;rfl
def yA(F:AE K "check_deed" "check_deed" Vy f fd)(m:mg "check_deed"=some (.ref f)):
  BB P w K mg Zp "check_deed" 5 ["row","deed"] (Ba (TL ⟨AL,AM,AF,AH,AD⟩)):=by
 refine BB.mk F (F.binds (by walk_at "bD2")) m (F.G3 (k:=4) jo (λvs H Q E h=>Fz.Fj dY h) (λAS A outer s H vs Q E c h=>?_))
 refine⟨_,(A7 rfl (Ak (Ah BN (A8 AI (qv 1) A5) Au) (A7 rfl (D1 (CM UH c (by decide) CV rfl (A0 (qv 0) (A0 (A8 AI (qv 1) A5) (A0 (A8 AI (qv 1) A5) A4)))))) (A7 rfl (Ak (Ah BN (A8 AI (qv 1) A5) Au) (A7 rfl (D1 (CM Dj c (by decide) CV rfl (A0 (qv 0) (A0 (A8 AI (qv 1) A5) A4))))) (A7 rfl (Ak (Ah BN (A8 AI (qv 1) A5) Au) (A7 rfl (D1 (CM Ts c (by decide) CV rfl (A0 (qv 0) (A0 (A8 AI (qv 1) A5) (A0 (A8 AI (qv 1) A5) A4)))))) (A7 rfl (D1 (CM Sz c (by decide) CV rfl (A0 (qv 0) (A0 (A8 AI (qv 1) A5) (A0 (A8 AI (qv 1) A5) A4)))))))))))),?_⟩;refine Fz.Fg h dY ?_;rintro _ _ _⟨tp,ns,d,rfl,b,rfl,rfl⟩;intro i0;show Ws [_,_] _ _ _;cases d with
 |put x i=>
  unfold aP
  walk_at "ww"
  refine CD (by decide +kernel) ?_;refine Ff ?_;refine Cj ?_;refine Aj (B2 rfl (AG ?_))
  walk_at "ww"
  refine AG ?_
  walk_at "ww"
  exact Ai ⟨_,_,⟨tp,ns,_,_,rfl,b,rfl,rfl⟩,trivial,λe h=>h,λp a=>⟨_,rfl,a⟩⟩
 |take x=>
  unfold aP
  walk_at "ww"
  refine Bw (by decide +kernel) ?_
  walk_at "ww"
  refine CD (by decide +kernel) ?_;refine Ff ?_;refine Cj ?_;refine Aj (B2 rfl (AG ?_))
  walk_at "ww"
  refine Ai ⟨_,_,⟨tp,ns,x,rfl,b,rfl,rfl⟩,trivial,?_,?_⟩
  .rintro e⟨hx,rfl⟩;show Am.B8 _ _ _=_;simp only[Am.B8];rw[lO hx]
  .rintro p⟨hx,_⟩;refine⟨_,rfl,?_⟩;show Am.B8 _ _ _=_;simp only[Am.B8];rw[lA (Decidable.not_not.mpr hx)]
 |move x i=>
  unfold aP
  walk_at "ww"
  refine Bw (by decide +kernel) ?_
  walk_at "ww"
  refine Bw (by decide +kernel) ?_
  walk_at "ww"
  refine CD (by decide +kernel) ?_;refine Ff ?_;refine Cj ?_;refine Aj (B2 rfl (AG ?_))
  walk_at "ww"
  refine AG ?_
  walk_at "ww"
  exact Ai ⟨_,_,⟨tp,ns,_,_,rfl,b,rfl,rfl⟩,trivial,λe h=>h,λp a=>⟨_,rfl,a⟩⟩
 |turn lo hi=>
  unfold aP
  walk_at "ww"
  refine Bw (by decide +kernel) ?_
  walk_at "ww"
  refine Bw (by decide +kernel) ?_
  walk_at "ww"
  refine Bw (by decide +kernel) ?_;refine Ff ?_;refine Cj ?_;refine Aj (B2 rfl (AG ?_))
  walk_at "ww"
  refine AG ?_
  walk_at "ww"
  exact Ai ⟨_,_,⟨tp,ns,_,_,rfl,b,rfl,rfl⟩,trivial,λe h=>h,λp a=>⟨_,rfl,a⟩⟩
def yU:B0 ["row","low","high"] ["row","low","high"] (AY T4):=by walk_at "z1"
def YZ : ∀ss R,Wm ss R->ss.length=3:=by rintro _ _⟨tp,ns,lo,hi,rfl,_,_,_,rfl⟩;rfl
def yf(F:AE K "row_turned" "row_turned" T4 f fd)(m:mg "row_turned"=some (.ref f)):
  A9 P w K mg Zp "row_turned" 1 ["row","low","high"] (Ap Wm):=by
 refine A9.mk F (F.binds (by walk_at "bD3")) m (F.BS (k:=0) yU (λvs H Q E h=>Fz.CA YZ h) (λAS A outer s H vs Q E b h=>?_))
 refine⟨_,(A7 rfl (Af (Ax G4 (Ax G4 (Eg KG DT (A0 (FG Fz.JB (qv 0) Fp (Ey (qv 1))) A4)) (zV rfl rfl DT rfl TF (A0 (FG Fz.JB (qv 0) (Ey (qv 1)) (Ey (qv 2))) A4))) (Eg KG DT (A0 (FG Fz.JB (qv 0) (Ey (qv 2)) Fp) A4))))),?_⟩;refine Fz.C9 h YZ ?_;rintro _ _⟨tp,ns,lo,hi,rfl,a,h1,h2,rfl⟩;show Ws [_,_,_] _ _ _
 walk_at "ww"
 rw[Ng,qI _ h1 (by simpa using h2)]
 refine⟨by simp;omega,?_⟩
 walk_at "ww"
 rw[Va];refine⟨by simp;omega,?_⟩;unfold Bz;simp only[EG,OM,YD,ZCv]
def u9:B0 ["row","name","at"] ["row","name","at"] (AY X8):=by walk_at "z1"
def c8 : ∀ss R,Wh ss R->ss.length=3:=by rintro _ _⟨tp,ns,x,i,rfl,_,rfl⟩;rfl
def ZBt(F:AE K "row_with" "row_with" X8 f fd)(m:mg "row_with"=some (.ref f)):
  A9 P w K mg Zp "row_with" 1 ["row","name","at"] (Ap Wh):=by
 refine A9.mk F (F.binds (by walk_at "bD3")) m (F.BS (k:=0) u9 (λvs H Q E h=>Fz.CA c8 h) (λAS A outer s H vs Q E b h=>?_))
 refine⟨_,(A7 rfl (Af (Ax G4 (Ax G4 (Eg KG DT (A0 (FG Fz.JB (qv 0) Fp (Ey (qv 2))) A4)) (CO (A0 (qv 1) A4))) (Eg KG DT (A0 (FG Fz.JB (qv 0) (Ey (qv 2)) Fp) A4))))),?_⟩;refine Fz.C9 h c8 ?_;rintro _ _⟨tp,ns,x,i,rfl,a,rfl⟩;show Ws [_,_,_] _ _ _
 walk_at "ww"
 rw[Ng];refine⟨by simp,?_⟩
 walk_at "ww"
 refine⟨by simp;omega,?_⟩
 walk_at "ww"
 rw[Va];refine⟨by simp;omega,?_⟩;unfold ins;simp only[EG,OM,G8,YD,MO,List.singleton_append]
def nR:B0 ["row","name"] ["row","name"] (AY Qa):=by walk_at "z1"
def qf:=Sc [(".0",.local),("thing",.local),("name",.free)]
def pq:DL ["row","name"] (AY Qa) qf "thing" ["name"] [1]:=by walk_at "z2"
def iB : ∀ss R,Wv ss R->ss.length=2:=by rintro _ _⟨tp,ns,x,rfl,_,rfl⟩;rfl
def zc(F:AE K "row_without" "row_without" Qa f fd)(m:mg "row_without"=some (.ref f)):
  A9 P w K mg Zp "row_without" 1 ["row","name"] (Ap Wv):=by
 refine A9.mk F (F.binds (by walk_at "bD2")) m (F.BS (k:=0) nR (λvs H Q E h=>Fz.CA iB h) (λAS A outer s H vs Q E c h=>?_))
 refine⟨_,(A7 rfl (Af (Gi rfl pq (GH (qv 0)) (λ_ _ _ _=>by exact(MJ (Ah Jb (qv 1) (qv 0)))) (λ_ _ _ _=>by exact(qv 1))))),?_⟩;refine Fz.C9 h iB ?_;rintro _ _⟨tp,ns,x,rfl,b,rfl⟩;show Ws [_,_] _ _ _;refine EW (Hd PV.str (λy=>!alike (.str y) (.str x)) PV.str ?_ str_inj)
 walk_at "ww"
 refine⟨by omega,λy a=>by walk_at "ww"; rfl,λy a _=>by walk_at "ww"; rfl,?_⟩
 rw[Ot]
def pe:B0 ["row","deed"] ["row","deed"] (AY WZ):=by walk_at "z1"
def Z4:∀ss R D,(Si ⟨AL,AM,AF,AH,AD⟩) ss R D->ss.length=2:=by rintro _ _ _⟨tp,ns,d,rfl,_,_,rfl,rfl⟩;rfl
def nI(F:AE K "done" "done" WZ f fd)(m:mg "done"=some (.ref f)):
  BB P w K mg Zp "done" 6 ["row","deed"] (Ba (Si ⟨AL,AM,AF,AH,AD⟩)):=by
 refine BB.mk F (F.binds (by walk_at "bD2")) m (F.G3 (k:=5) pe (λvs H Q E h=>Fz.Fj Z4 h) (λAS A outer s H vs Q E a h=>?_))
 refine⟨_,(AA rfl (D1 (CM Xd a (by decide) CV rfl (A0 (qv 0) (A0 (qv 1) A4))))
   (AA rfl (Ak (Ah BN (A8 AI (qv 1) A5) Au) (A7 rfl (Af (AV OS a (A0 (qv 0) (A0 (A8 AI (qv 1) A5) (A0 (A8 AI (qv 1) A5) A4)))))) Ay)
   (AA rfl (Ak (Ah BN (A8 AI (qv 1) A5) Au) (A7 rfl (Af (AV Oj a (A0 (qv 0) (A0 (A8 AI (qv 1) A5) A4))))) Ay)
   (AA rfl (Ak (Ah BN (A8 AI (qv 1) A5) Au) (A7 rfl (Af (AV OS a (A0 (AV Oj a (A0 (qv 0) (A0 (A8 AI (qv 1) A5) A4))) (A0 (A8 AI (qv 1) A5) (A0 (A8 AI (qv 1) A5) A4)))))) Ay)
   (A7 rfl (Af (AV VX a (A0 (qv 0) (A0 (A8 AI (qv 1) A5) (A0 (A8 AI (qv 1) A5) A4)))))))))),?_⟩
 refine Fz.Fg h Z4 ?_;rintro _ _ _⟨tp,ns,d,rfl,b,c,rfl,rfl⟩;intro i0;show Ws [_,_] _ _ _;refine BO (Ff ?_);refine Cj ?_;refine Aj (B2 rfl (AG (A6 rfl (Ai ⟨_,_,⟨tp,ns,d,rfl,b,rfl,rfl⟩,trivial,λe h=>h,?_⟩))));intro _ hd;obtain⟨d',DF⟩:=Am.good hd;have hx:=Is.pj b DF;have ok:=DF.2;rw[DF.1];cases d' with
 |put x i=>
  unfold dP
  walk_at "ww"
  refine CD (by decide +kernel) ?_;refine EW (DR (Aj (B2 rfl (AG ?_))))
  walk_at "ww"
  refine AG ?_
  walk_at "ww"
  exact Ai ⟨_,⟨tp,ns,x,i,rfl,by omega,rfl⟩,λxs h=>⟨_,DF,h⟩⟩
 |take x=>
  unfold dP
  walk_at "ww"
  refine Bw (by decide +kernel) ?_;refine B5 ?_
  walk_at "ww"
  refine CD (by decide +kernel) ?_;refine EW (DR (Aj (B2 rfl (AG ?_))))
  walk_at "ww"
  exact Ai ⟨_,⟨tp,ns,x,rfl,by omega,rfl⟩,λxs h=>⟨_,DF,h⟩⟩
 |move x i=>
  unfold dP
  walk_at "ww"
  refine Bw (by decide +kernel) ?_;refine B5 ?_
  walk_at "ww"
  refine Bw (by decide +kernel) ?_;refine B5 ?_
  walk_at "ww"
  refine CD (by decide +kernel) ?_;refine EW (DR (Aj (Fs (CN (DR (Aj (B2 rfl (AG ?_))))))))
  walk_at "ww"
  refine Ai ⟨_,⟨tp,ns,x,rfl,by omega,rfl⟩,?_⟩;rintro _ rfl;refine⟨_,.inl ⟨rfl,AG ?_⟩⟩
  walk_at "ww"
  refine AG ?_
  walk_at "ww"
  have g:(wo ns x).length<=ns.length:=Jl _ _;exact Ai ⟨_,⟨false,wo ns x,x,i,rfl,by omega,rfl⟩,λxs h=>⟨_,DF,h⟩⟩
 |turn lo hi=>
  unfold dP
  walk_at "ww"
  refine Bw (by decide +kernel) ?_;refine B5 ?_
  walk_at "ww"
  refine Bw (by decide +kernel) ?_;refine B5 ?_
  walk_at "ww"
  refine Bw (by decide +kernel) ?_;refine B5 ?_;refine EW (DR (Aj (B2 rfl (AG ?_))))
  walk_at "ww"
  refine AG ?_
  walk_at "ww"
  exact Ai ⟨_,⟨tp,ns,lo,hi,rfl,by omega,ok.1,ok.2,rfl⟩,λxs h=>⟨_,DF,h⟩⟩
def vi:B0 ["gap","at"] ["gap","at"] (AY U6):=by walk_at "z1"
def ZV : ∀ss R,XE ss R->ss.length=2:=by rintro _ _⟨g,i,rfl,rfl⟩;rfl
def v7(F:AE K "gap_behind_put" "gap_behind_put" U6 f fd)(m:mg "gap_behind_put"=some (.ref f)):
  A9 P w K mg Zp "gap_behind_put" 1 ["gap","at"] (Ap XE):=by
 refine A9.mk F (F.binds (by walk_at "bD2")) m (F.BS (k:=0) vi (λvs H Q E h=>Fz.CA ZV h) (λAS A outer s H vs Q E a h=>?_))
 refine⟨_,(AA rfl (Ak (Ah LZ (qv 1) (qv 0)) (A7 rfl (Af (Ax E5 (qv 0) A5))) Ay)
   (A7 rfl (Af (qv 0)))),?_⟩
 refine Fz.C9 h ZV ?_;rintro _ _⟨g,i,rfl,rfl⟩;show Ws [_,_] _ _ _
 walk_at "ww"
 refine Aa (λc=>?_) (λc=>?_)
 .have h:i<g:=by have:=lY c;omega
  walk_at "ww"
  unfold D0;rw[lO h];rfl
 .have h:¬ i<g:=λz=>c (lD (by omega));refine B5 ?_
  walk_at "ww"
  unfold D0;rw[lA h]
def jF:B0 ["gap","place"] ["gap","place"] (AY T7):=by walk_at "z1"
def dX : ∀ss R,SJ ss R->ss.length=2:=by rintro _ _⟨g,i,rfl,rfl⟩;rfl
def rF(F:AE K "gap_behind_take" "gap_behind_take" T7 f fd)(m:mg "gap_behind_take"=some (.ref f)):
  A9 P w K mg Zp "gap_behind_take" 1 ["gap","place"] (Ap SJ):=by
 refine A9.mk F (F.binds (by walk_at "bD2")) m (F.BS (k:=0) jF (λvs H Q E h=>Fz.CA dX h) (λAS A outer s H vs Q E a h=>?_))
 refine⟨_,(AA rfl (Ak (Ah LZ (qv 1) (qv 0)) (A7 rfl (Af (Ax Sj (qv 0) A5))) Ay)
   (A7 rfl (Af (qv 0)))),?_⟩
 refine Fz.C9 h dX ?_;rintro _ _⟨g,i,rfl,rfl⟩;show Ws [_,_] _ _ _
 walk_at "ww"
 refine Aa (λc=>?_) (λc=>?_)
 .have h:i<g:=by have:=lY c;omega
  walk_at "ww"
  unfold IC;rw[lO h];show PV.int _=PV.int _
  congr 1;omega
 .have h:¬ i<g:=λz=>c (lD (by omega));refine B5 ?_
  walk_at "ww"
  unfold IC;rw[lA h]
def rR:B0 ["row","gap","deed"] ["row","gap","deed"] (AY XM):=by walk_at "z1"
def d7 : ∀ss R,TV ss R->ss.length=3:=by rintro _ _⟨tp,ns,g,d,rfl,_,_,rfl⟩;rfl
def ZAK(F:AE K "gap_led" "gap_led" XM f fd)(m:mg "gap_led"=some (.ref f)):
  A9 P w K mg Zp "gap_led" 4 ["row","gap","deed"] (Ap TV):=by
 refine A9.mk F (F.binds (by walk_at "bD3")) m (F.BS (k:=3) rR (λvs H Q E h=>Fz.CA d7 h) (λAS A outer s H vs Q E a h=>?_))
 refine⟨_,(AA rfl (Ak (Ah BN (A8 AI (qv 2) A5) Au) (A7 rfl (Af (AV PR a (A0 (qv 1) (A0 (A8 AI (qv 2) A5) A4))))) Ay)
   (AA rfl (Ak (Ah BN (A8 AI (qv 2) A5) Au) (A7 rfl (Af (AV QM a (A0 (qv 1) (A0 (CM Dj a (by decide) Kf rfl (A0 (qv 0) (A0 (A8 AI (qv 2) A5) A4))) A4))))) Ay)
   (AA rfl (Ak (Ah BN (A8 AI (qv 2) A5) Au) (A7 rfl (Af (AV PR a (A0 (AV QM a (A0 (qv 1) (A0 (CM Dj a (by decide) Kf rfl (A0 (qv 0) (A0 (A8 AI (qv 2) A5) A4))) A4))) (A0 (A8 AI (qv 2) A5) A4))))) Ay)
   (A7 rfl (Af (qv 1)))))),?_⟩
 refine Fz.C9 h d7 ?_;rintro _ _⟨tp,ns,g,d,rfl,hd,b,rfl⟩;show Ws [_,_,_] _ _ _;cases d with
 |put x i=>
  unfold dP
  walk_at "ww"
  refine CD (by decide +kernel) ?_;refine C2 (wp_call (AG (A6 rfl (AG ?_))))
  walk_at "ww"
  exact Ai ⟨_,⟨g,i,rfl,rfl⟩,λ_ h=>h⟩
 |take x=>
  unfold dP
  walk_at "ww"
  refine Bw (by decide +kernel) ?_;refine B5 ?_
  walk_at "ww"
  refine CD (by decide +kernel) ?_;refine C2 (wp_call (AG (A6 rfl (AG ?_))));refine Cj ?_;refine Aj (B2 rfl (AG ?_))
  walk_at "ww"
  refine Ai ⟨_,_,⟨tp,ns,x,rfl,b x (.inl rfl),rfl,rfl⟩,trivial,λe h=>absurd (show x∈ns from hd) h.1,?_⟩;rintro _⟨_,rfl⟩;exact Ai ⟨_,⟨g,_,rfl,rfl⟩,λ_ h=>h⟩
 |move x i=>
  unfold dP
  walk_at "ww"
  refine Bw (by decide +kernel) ?_;refine B5 ?_
  walk_at "ww"
  refine Bw (by decide +kernel) ?_;refine B5 ?_
  walk_at "ww"
  refine CD (by decide +kernel) ?_;refine C2 (wp_call (AG (wp_call (AG (A6 rfl (AG ?_))))));refine Cj ?_;refine Aj (B2 rfl (AG ?_))
  walk_at "ww"
  refine Ai ⟨_,_,⟨tp,ns,x,rfl,b x (.inr ⟨i,rfl⟩),rfl,rfl⟩,trivial,λe h=>absurd hd.1 h.1,?_⟩;rintro _⟨_,rfl⟩;refine Ai ⟨_,⟨g,_,rfl,rfl⟩,?_⟩;rintro _ rfl;refine AG ?_
  walk_at "ww"
  exact Ai ⟨_,⟨_,i,rfl,rfl⟩,λ_ h=>h⟩
 |turn lo hi=>
  unfold dP
  walk_at "ww"
  refine Bw (by decide +kernel) ?_;refine B5 ?_
  walk_at "ww"
  refine Bw (by decide +kernel) ?_;refine B5 ?_
  walk_at "ww"
  refine Bw (by decide +kernel) ?_;refine B5 ?_;exact C2 (A6 rfl rfl)
def sF:B0 ["loop","at"] ["loop","at"] (AY UX):=by walk_at "z1"
def ZO : ∀ss R,Us ss R->ss.length=2:=by rintro _ _⟨r,g,i,xs,rfl,rfl⟩;rfl
def ZA9(F:AE K "joins" "joins" UX f fd)(m:mg "joins"=some (.ref f)):
  A9 P w K mg Zp "joins" 1 ["loop","at"] (Ap Us):=by
 refine A9.mk F (F.binds (by walk_at "bD2")) m (F.BS (k:=0) sF (λvs H Q E h=>Fz.CA ZO h) (λAS A outer s H vs Q E a h=>?_))
 refine⟨_,(A7 rfl (Af (XS (D5 BN (A8 AI (qv 0) A5) Au) (Fx (Gu (D5 BN (A8 AI (qv 0) A5) Au) (Fx (D5 SM (qv 1) (A8 AI (qv 0) A5)))))))),?_⟩;refine Fz.C9 h ZO ?_;rintro _ _⟨r,g,i,xs,rfl,rfl⟩;show Ws [_,_] _ _ _;refine C2 (aG (IK ?_))
 walk_at "ww"
 refine⟨0,.str r,rfl,Ib (j:=0) rfl,?_⟩
 walk_at "ww"
 unfold CQ;have q:∀z:Str,alike (.str r) (.str z)=decide (V.str r=V.str z):=λz=>by
  show decide (r=z)=_;rw[Eb,xq,xq];exact⟨λh=>by rw[h],λh=>by injection h⟩
 rw[q];refine Aa (λc=>by rw[lO c]) (λc=>?_);rw[lA c];refine Je (IK ?_)
 walk_at "ww"
 refine⟨0,.str r,rfl,Ib (j:=0) rfl,?_⟩
 walk_at "ww"
 rw[q];refine Aa (λc=>?_) (λc=>by rw[lA c]);rw[lO c]
 walk_at "ww"
 refine⟨1,.int g,rfl,Ib (j:=1) rfl,?_⟩
 walk_at "ww"
 rfl
def xy:B0 ["loop","deed"] ["loop","deed"] (AY Vj):=by walk_at "z1"
def Yk : ∀ss R,VA ss R->ss.length=2:=by rintro _ _⟨r,g,cs,d,rfl,_,_,_,rfl⟩;rfl
def nc(F:AE K "coming_behind" "coming_behind" Vj f fd)(m:mg "coming_behind"=some (.ref f)):
  A9 P w K mg Zp "coming_behind" 2 ["loop","deed"] (Ap VA):=by
 refine A9.mk F (F.binds (by walk_at "bD2")) m (F.BS (k:=1) xy (λvs H Q E h=>Fz.CA Yk h) (λAS A outer s H vs Q E a h=>?_))
 refine⟨_,(AA rfl (Ak (Ah BN (A8 AI (qv 1) A5) Au) (A7 rfl (Af (AV Lm a (A0 (A8 AI (qv 0) A5) (A0 (A8 AI (qv 1) A5) A4))))) Ay)
   (AA rfl (Ak (J7 (Ah BN (A8 AI (qv 1) A5) Au) (JU (FU (AV WV a (A0 (qv 0) (A0 (A8 AI (qv 1) A5) A4)))))).pt (A7 rfl (Af (Eg OB Ed (A0 (B4 QQ De (A0 (Ax mI (A8 AI (qv 0) A5) (BP (A0 (A8 AI (qv 1) A5) A4))) A4)) A4)))) Ay)
   (A7 rfl (Af (A8 AI (qv 0) A5))))),?_⟩
 refine Fz.C9 h Yk ?_;rintro _ _⟨r,g,cs,d,rfl,l,up,hx,rfl⟩;show Ws [_,_] _ _ _;unfold D4;cases d with
 |take x=>
  unfold dP
  walk_at "ww"
  refine CD (by decide +kernel) ?_;refine C2 (wp_call (AG ?_))
  walk_at "ww"
  refine AG ?_
  walk_at "ww"
  exact Ai ⟨_,⟨cs,x,rfl,by omega,rfl⟩,λ_ h=>h⟩
 |put x i=>
  unfold dP
  walk_at "ww"
  refine Bw (by decide +kernel) ?_;refine B5 ?_
  walk_at "ww"
  refine CD (by decide +kernel) ?_;refine EU (wp_call (AG (A6 rfl (AG ?_))))
  walk_at "ww"
  refine Ai ⟨_,⟨r,g,i,_,rfl,rfl⟩,?_⟩;rintro _ rfl;refine⟨_,rfl,Aa (λc=>?_) (λc=>?_)⟩
  .refine C2 (Uu rfl (Fs (CN (sL ?_))))
   walk_at "ww"
   refine⟨cs,rfl,?_⟩
   walk_at "ww"
   refine⟨by simp,[x],rfl,by simp,by simp;omega,λj b st=>?_⟩;refine⟨_,.inl ⟨rfl,?_⟩⟩;rw[zB b st up (hx x i rfl),ZCD c]
  .refine B5 ?_
   walk_at "ww"
   rw[jw (by cases e:CQ r g i <;> simp_all)]
 |move x i=>
  unfold dP
  walk_at "ww"
  refine Bw (by decide +kernel) ?_;refine B5 ?_
  walk_at "ww"
  refine Bw (by decide +kernel) (D7 (B5 ?_))
  walk_at "ww"
  rfl
 |turn lo hi=>
  unfold dP
  walk_at "ww"
  refine Bw (by decide +kernel) ?_;refine B5 ?_
  walk_at "ww"
  refine Bw (by decide +kernel) (D7 (B5 ?_))
  walk_at "ww"
  rfl
def qS:B0 ["row","loop","deed"] ["row","loop","deed"] (AY UQ):=by walk_at "z1"
def ck : ∀ss R,UZ ss R->ss.length=3:=by rintro _ _⟨tp,ns,r,g,cs,d,rfl,_,_,_,_,rfl⟩;rfl
def uo(F:AE K "loop_led" "loop_led" UQ f fd)(m:mg "loop_led"=some (.ref f)):
  A9 P w K mg Zp "loop_led" 5 ["row","loop","deed"] (Ap UZ):=by
 refine A9.mk F (F.binds (by walk_at "bD3")) m (F.BS (k:=4) qS (λvs H Q E h=>Fz.CA ck h) (λAS A outer s H vs Q E a h=>?_))
 refine⟨_,(A7 rfl (Af (BP (A0 (A8 AI (qv 1) A5) (A0 (AV Vi a (A0 (qv 0) (A0 (A8 AI (qv 1) A5) (A0 (qv 2) A4)))) (A0 (AV RZ a (A0 (qv 1) (A0 (qv 2) A4))) A4)))))),?_⟩;refine Fz.C9 h ck ?_;rintro _ _⟨tp,ns,r,g,cs,d,rfl,hd,gd,c,b,rfl⟩;show Ws [_,_,_] _ _ _;unfold D4;have e:=gd.len
 walk_at "ww"
 refine wp_call (Aj (B2 rfl (AG ?_)))
 walk_at "ww"
 refine AG (A6 rfl (Ai ⟨_,⟨tp,ns,g,d,rfl,hd,b,rfl⟩,?_⟩));rintro _ rfl
 walk_at "ww"
 refine wp_call (AG (A6 rfl (AG (A6 rfl (Ai ⟨_,⟨r,g,cs,d,rfl,by omega,gd.up,tf gd hd,rfl⟩,?_⟩)))));rintro _ rfl
 walk_at "ww"
 exact⟨by simp,rfl⟩
def J0:B0 ["row","loop","trial","told","entry","answer","behind"] ["row","loop","trial"] (AY Um):=by walk_at "z1"
def fE:∀ss R D,(Nx K ⟨AL,AM,AF,AH,AD⟩) ss R D->ss.length=3:=by rintro _ _ _⟨a,tp,ns,l1,es,_,rfl,_,rfl,rfl⟩;rfl
def nZ(F:AE K "told_in" "told_in" Um f fd)(m:mg "told_in"=some (.ref f)):
  BB P w K mg Zp "told_in" 7 ["row","loop","trial"] (Ba (Nx K ⟨AL,AM,AF,AH,AD⟩)):=by
 refine BB.mk F (F.binds (by walk_at "bD3")) m (F.G3 (k:=6) J0 (λvs H Q E h=>Fz.Fj fE h) (λAS A outer s H vs Q E l h=>?_))
 refine⟨_,(AA rfl (Ad 3 J0.nd (CO A4))
   (AA rfl (C1 (NB uh rfl (GH (qv 2)) (Fi 4 J0.nd) (A7 rfl (Ak (Ah (Fz.Sf l.units) (qv 4) (Br (v:=.ref B3) (by rfl) D8 rfl)) (AA rfl (Ad 5 J0.nd (CM Ta l (by decide) CV rfl (A0 (qv 0) (A0 (qv 1) A4))))
   (AA rfl (D1 (Gg HN OP OQ LY (qv 3) (A0 (A8 AI (qv 5) A5) A4)))
   (A7 rfl (Ad 1 J0.nd (A8 AI (qv 5) A5))))) (AA rfl (Ad 6 J0.nd (CM Ra l (by decide) CV rfl (A0 (qv 0) (A0 (qv 4) A4))))
   (AA rfl (Ad 1 J0.nd (AV Rj l (A0 (qv 0) (A0 (qv 1) (A0 (qv 4) A4)))))
   (A7 rfl (Ad 0 J0.nd (qv 6)))))))))
   (A7 rfl (Af (qv 3))))),?_⟩
 refine Fz.Fg h fE ?_;rintro _ _ _⟨y,tp,ns,l1,es,D,rfl,ok,rfl,rfl⟩;intro i0;have C:Cy K B3 [.str "step"]:=Cy.of DS rfl rfl;have J:dat K 40 (.con B3 [.str "step"]):=C.dat (d:=39) (λx hx=>by rw[List.mem_singleton.mp hx];trivial);show Ws [_,_,_,.any,.any,.any,.any] _ _ _;refine BO (FT (EY (Bs ⟨by simp,?_⟩)));refine BO (GA (Xq (λ_ i AK=>∃(K6:Bool)(CK:List Str)(a:Lp)(acc:List (Option Str))(c s4 t o:Slot),ak c K6 CK/\TI ⟨AL,AM,AF,AH,AD⟩ ns l1 es i CK a acc/\AK=[c,.is a.P,.sq false (es.map (Cd y)),.own (acc.map C7),s4,t,o]) ?_))
 walk_at "ww"
 refine⟨⟨tp,ns,l1,[],_,_,_,_,.inl rfl,TI.zero ok.row ok.g1,rfl⟩,?_,?_⟩
 .rintro i p AK j⟨K6,CK,a,acc,c,s4,t,o,Np,ti,rfl⟩;rw[Bp]at j;cases b:es[i]? with
  |none=>rw[b]at j;cases j
  |some e=>
  rw[b]at j;cases j;have L:=BK.len ti.gd;have B:=ti.row.len;refine Xa ?_;refine Cc (EV (QC (A6 rfl (Ik [.str "step"] ⟨az D 39 e,J,_,rfl,?_⟩))));rw[bu];cases e with
  |Ac=>
   refine CD rfl ?_;refine BO (Cq ?_);refine Cj ?_;refine Aj (SS rfl Np (AG (A6 rfl (Ai ⟨_,_,⟨K6,CK,a.r,a.g,a.cs,rfl,by omega,by omega,λx hx=>LG (ti.row.nm x hx),rfl,rfl⟩,trivial,λe h=>?_,?_⟩))))
   .have q:=fY ti.gd;rw[h.1]at q;cases q
   rintro _⟨n,hn,_,rfl⟩;cases Int.ofNat.inj hn;rw[oE]
   walk_at "ww"
   refine⟨by rw[Aw];have:=ti.len;have:=ok.len;have:=(List.getElem?_eq_some_iff.mp b).1;omega,?_⟩
   walk_at "ww"
   exact⟨K6,CK,_,_,c,_,_,_,Np,ti.Ac b,by rw[EG];rfl⟩
  |Ao d=>
   refine Bw (λz=>by cases z) ?_;have u:d.say:=ok.say (.Ao d) (L6 b);refine BO (FT (Iv ?_));refine Aj (SS rfl Np (AG (A6 rfl (Ai ⟨_,_,⟨K6,CK,d,rfl,u,by omega,rfl,rfl⟩,trivial,λe h=>⟨ti.bad b h,lN h⟩,?_⟩))));rintro _⟨d',DF,rfl⟩;have I:Cd y (.Ao d)=dP d':=DF.1;refine BO (Cq (wp_call (Aj (SS rfl Np (AG (A6 rfl (AG (A6 rfl ?_))))))));rw[I];refine Ai ⟨_,⟨K6,CK,a.r,a.g,a.cs,d',rfl,DF.2,ti.gd,B,Am.Tf u DF,rfl⟩,?_⟩;rintro _ rfl;refine Od 6 rfl ?_;refine Cq (A6 rfl ?_);exact⟨false,_,a.led CK d',acc,_,_,_,_,.inr ⟨rfl,.inl rfl⟩,ti.Ao b DF,rfl⟩
 .rintro AK⟨K6,CK,a,acc,c,s4,t,o,Np,ti,rfl⟩;rw[Aw]at ti;have G:=ti.len;exact UM rfl ⟨acc,ti.fin,G,rfl⟩
def Xr:B0 ["row","one","other","fresh","ahead"] ["row","one","other"] (AY S9):=by walk_at "z1"
def ZM:∀ss R,(Rv K B3 ⟨AL,AM,AF,AH,AD⟩) ss R->ss.length=3:=by rintro _ _⟨tp,ns,l1,l2,f,f1,r,rfl,_,_,_,_,_,_,rfl⟩;rfl
def xJ(F:AE K "trial_by_rule" "trial_by_rule" S9 f fd)(m:mg "trial_by_rule"=some (.ref f)):
  A9 P w K mg Zp "trial_by_rule" 8 ["row","one","other"] (Ap (Rv K B3 ⟨AL,AM,AF,AH,AD⟩)):=by
 refine A9.mk F (F.binds (by walk_at "bD3")) m (F.BS (k:=7) Xr (λvs H Q E h=>Fz.CA ZM h) (λAS A outer s H vs Q E b h=>?_))
 refine⟨_,(AA rfl (Ad 3 Xr.nd (AV Ls b (A0 (qv 0) A4)))
   (AA rfl (Ad 4 Xr.nd (CO (A0 (BP (A0 Au (A0 (A8 CP (qv 3) A5) (A0 (B4 EK Ar (A0 (qv 0) A4)) A4)))) A4)))
   (AA rfl (Ak (Ah KQ Au (BP (A0 (A8 AI (qv 1) A5) (A0 (A8 AI (qv 2) A5) A4)))) (A7 rfl (Af (Ax G4 (Ax G4 (qv 4) (AV Ks b (A0 (qv 0) A4))) (CO (A0 (Br (v:=.ref B3) (by rfl) D8 rfl) A4))))) Ay)
   (AA rfl (D1 (Gg HN OP OQ LY (qv 4) (A0 (Br (v:=.ref B3) (by rfl) D8 rfl) A4)))
   (AA rfl (Ak (Ah (Fz.SQ b.units) (CM GV b (by decide) Kf rfl (A0 (qv 0) (A0 (qv 1) (A0 (qv 4) A4)))) (CM GV b (by decide) Kf rfl (A0 (qv 0) (A0 (qv 2) (A0 (qv 4) A4))))) (A7 rfl (Af (qv 4))) Ay)
   (A7 rfl (Af (Ax G4 (Ax G4 (Ax G4 (qv 4) (CO (A0 (BP (A0 Au (A0 (A8 CP (qv 3) A5) (A0 A5 A4)))) A4))) (AV Ks b (A0 (qv 0) A4))) (CO (A0 (BP (A0 Au (A0 (A8 CP (qv 3) A5) A4))) (A0 (Br (v:=.ref B3) (by rfl) D8 rfl) A4))))))))))),?_⟩
 refine Fz.C9 h ZM ?_;rintro _ _⟨tp,ns,⟨i,g1,c1⟩,⟨d,g2,c2⟩,f,f1,r,rfl,j,x,u,p,b,B,rfl⟩;have O:=j.len;have p:c1=c2:=p;have b:i≠d:=b;subst p;have C:Cy K B3 [.str "step"]:=Cy.of DS rfl rfl;have n:GB K (some B3):=λa e=>by cases e;exact C
 obtain⟨W,V,S,D,n0,y,T,U,JP⟩:=QK O;rw[B]at D;injection D with z1 z2
 injection z2 with z2 _
 subst z1;subst z2;show Ws [_,.is (.tup [.str i,.int g1,.tup (c1.map .str)]),.is (.tup [.str d,.int g2,.tup (c1.map .str)]),.any,.any] _ _ _;refine BO (FT (DR (Aj (B2 rfl (Ai ⟨_,⟨tp,ns,rfl,j,rfl⟩,?_⟩)))));rintro _ rfl;rw[B];refine BO (FT (EY (B6 (EZ (B6 (ES (B6 (GX (FZ rfl ⟨rfl,Ce ⟨_,_,rfl,LW _ _,?_⟩⟩)))))))))
 walk_at "ww"
 refine⟨by simp,Bs ⟨by simp,?_⟩⟩;rw[Aw];unfold O7
 walk_at "ww"
 refine⟨by simp,_,.inr ⟨rfl,[i,d],rfl,_,rfl,Aa (λc=>?_) (λc=>B5 ?_)⟩⟩
 .have hn:i="none" ∨d="none" := by
   have:=lY c;simp only[Dg,Cb,yk]at this;exact this.elim (λz=>.inl z.symm) λz=>.inr z.symm
  rw[lO hn];refine EW (Pr (IM (Pr (FZ rfl ⟨rfl,IM (DR (Aj (B2 rfl (Ai ⟨_,⟨tp,ns,rfl,by omega,rfl⟩,?_⟩))))⟩))));rintro _ rfl;refine⟨rfl,by simp;omega,rfl,IM (EY (B6 (Ik [.str "step"] (Bs ⟨by simp,rfl,by simp;omega,n,?_⟩))))⟩;unfold D3;simp only[EG,G8,Gj,ZCl,ij,MT];rfl
 have h1:i ≠"none" := λz=>c (lD (by rw[z];simp));have h2:d ≠"none" := λz=>c (lD (by rw[z];simp));rw[lA (show ¬ (i="none" ∨d="none")from λz=>z.elim h1 h2)];have N:=(IX (c:={ noName:=AL,there:=AM,gone:=AF,JZ:=AH,full:=AD }) (t:=[.Ac]) j x n0 y h1).2.2.trans IT;have M:=(IX (c:={ noName:=AL,there:=AM,gone:=AF,JZ:=AH,full:=AD }) (t:=[.Ac]) j u n0 y h2).2.2.trans IT;have ok:∀{l:Lp},l.Good ns->Pb ns l l [.Ao (.put f ns.length),.Ac]:=λg=>⟨j.le (by decide),g,g,Ej (J5 n0 (by omega)) JC,by show 2<=300;decide⟩;refine BO (i3 rfl (Ik [.str "step"] ⟨by simp,?_⟩));refine BO (Cc (EV (Ow (CN (Iv ?_)))));refine Aj (B2 rfl (AG (A6 rfl (Aj (FZ rfl (Ai ⟨_,_,⟨some B3,tp,ns,⟨i,g1,c1⟩,[.Ao (.put f ns.length),.Ac],n,rfl,ok x,rfl,rfl⟩,trivial,λe h=>?_,?_⟩))))))
 .rw[N]at h;cases h.1
 rintro _⟨I,L,_,rfl⟩;refine CN (Iv ?_);refine Aj (B2 rfl (AG (A6 rfl (Aj (FZ rfl (Ai ⟨_,_,⟨some B3,tp,ns,⟨d,g2,c1⟩,[.Ao (.put f ns.length),.Ac],n,rfl,ok u,rfl,rfl⟩,trivial,λe h=>?_,?_⟩))))))
 .rw[M]at h;cases h.1
 rintro _⟨G,J,_,rfl⟩;refine⟨OH K 39 _,OH K 39 _,_,rfl,?_⟩;rw[aJ,L,J];refine Aa (λq=>?_) (λq=>B5 ?_)
 .have R:I≠G:=by simpa using q
  rw[lO (λz=>R (CH z))];exact UM rfl ⟨n,rfl⟩
 have o:I=G:=by simpa using q
 rw[lA (λz=>z (by rw[o]))]
 walk_at "ww"
 refine⟨_,_,rfl,Rw _ _ _,B6 (Ce (Bs ⟨by simp,Bs ⟨by simp,_,.inl ⟨rfl,rfl,by simp,?_⟩⟩⟩))⟩
 walk_at "ww"
 refine IM (DR (Aj (B2 rfl (Ai ⟨_,⟨tp,ns,rfl,by omega,rfl⟩,?_⟩))));rintro _ rfl;refine⟨rfl,by simp;omega,_,.inl ⟨rfl,rfl,?_⟩⟩;refine IM (EY (B6 (EZ (B6 (ES (B6 (GX (FZ rfl ⟨rfl,Ce ⟨_,_,rfl,LW _ _,Bs ⟨by simp,B6 (Ik [.str "step"] (Bs ⟨by simp,rfl,by simp;omega,n,?_⟩))⟩⟩⟩))))))));unfold D3;simp only[EG,G8,Gj,ZCl,ij,MO,MT];rfl
def mC:B0 ["row","one","other"] ["row","one","other"] (AY U2):=by walk_at "z1"
def fe:∀ss R,(UA K B3 ⟨AL,AM,AF,AH,AD⟩) ss R->ss.length=3:=by rintro _ _⟨tp,ns,l1,l2,rfl,_,_,_,_,rfl⟩;rfl
def mH(F:AE K "trial_of" "trial_of" U2 f fd)(m:mg "trial_of"=some (.ref f)):
  A9 P w K mg Zp "trial_of" 9 ["row","one","other"] (Ap (UA K B3 ⟨AL,AM,AF,AH,AD⟩)):=by
 refine A9.mk F (F.binds (by walk_at "bD3")) m (F.BS (k:=8) mC (λvs H Q E h=>Fz.CA fe h) (λAS A outer s H vs Q E a h=>?_))
 refine⟨_,(AA rfl (Ak (Ah (J8 a.Gw) (A8 AI (qv 1) A5) (A8 AI (qv 2) A5)) (A7 rfl (Af (AV VM a (A0 (qv 0) (A0 (qv 1) (A0 (qv 2) A4)))))) Ay)
   (AA rfl (Ak (Ah Jb (A8 AI (qv 1) A5) (A8 AI (qv 2) A5)) (A7 rfl (Af (AV X7 a (A0 (qv 0) (A0 (qv 1) (A0 (qv 2) A4)))))) Ay)
   (A7 rfl (Af (AV T5 a (A0 (qv 0) (A0 (qv 1) (A0 (qv 2) A4)))))))),?_⟩
 refine Fz.C9 h fe ?_;rintro _ _⟨tp,ns,⟨d,g1,c1⟩,⟨b,g2,c2⟩,rfl,i,l,j,o,rfl⟩;have p:=i.len;have u:c1.length<=ns.length:=BK.len l;have t:c2.length<=ns.length:=BK.len j;obtain⟨f,f1,r,n,_⟩:=QK p;show Ws [_,.is (.tup [.str d,.int g1,.tup (c1.map .str)]),.is (.tup [.str b,.int g2,.tup (c2.map .str)])] _ _ _
 walk_at "ww"
 refine Aa (λc=>?_) (λc=>B5 ?_)
 .have e:c1≠c2:=by simpa using c
  refine EW (DR (Aj (B2 rfl (AG (A6 rfl (AG (A6 rfl (Ai ⟨_,⟨tp,ns,⟨d,g1,c1⟩,⟨b,g2,c2⟩,rfl,i,l,j,e,rfl⟩,?_⟩))))))));rintro _⟨g,es,q,rfl⟩;exact⟨g,es,.inl ⟨e,q⟩,rfl⟩
 have e:c1=c2:=by simpa using c
 walk_at "ww"
 refine Aa (λc=>?_) (λc=>B5 ?_)
 .have a:d≠b:=by simpa[alike]using c
  refine EW (DR (Aj (B2 rfl (AG (A6 rfl (AG (A6 rfl (Ai ⟨_,⟨tp,ns,⟨d,g1,c1⟩,⟨b,g2,c2⟩,f,f1,r,rfl,i,l,j,e,a,n,rfl⟩,?_⟩))))))));rintro _⟨g,rfl⟩;exact⟨g,_,.inr ⟨e,f,f1,r,n,rfl⟩,by rw[lA (show ¬ d=b from a)]⟩
 have a:d=b:=by simpa[alike]using c
 refine EW (DR (Aj (B2 rfl (AG (A6 rfl (AG (A6 rfl (Ai ⟨_,⟨tp,ns,⟨d,g1,c1⟩,⟨b,g2,c2⟩,f,f1,r,rfl,i,l,j,e,a,o,n,rfl⟩,?_⟩))))))));rintro _⟨g,rfl⟩;exact⟨g,_,.inr ⟨e,f,f1,r,n,rfl⟩,by rw[lO (show d=b from a)]⟩
def Zx:B0 ["row","one","other","trial"] ["row","one","other"] (AY UG):=by walk_at "z1"
def gO:∀ss R D,(Ug Ab AD) ss R D->ss.length=3:=by rintro _ _ _⟨tp,ns,b,a,rfl,_,_,_,rfl,_⟩;rfl
def k9(F:AE K "parted" "parted" UG f fd)(m:mg "parted"=some (.ref f)):
  BB P w K mg Zp "parted" 10 ["row","one","other"] (Ba (Ug Ab AD)):=by
 refine BB.mk F (F.binds (by walk_at "bD3")) m (F.G3 (k:=9) Zx (λvs H Q E h=>Fz.Fj gO h) (λAS A outer s H vs Q E i h=>?_))
 refine⟨_,(AA rfl (D1 (CM LC i (by decide) CV rfl (A0 (qv 0) (A0 (qv 1) (A0 (qv 2) A4)))))
   (AA rfl (Ak (FU (AV WM i (A0 (qv 1) (A0 (qv 2) A4)))) (A7 rfl (Af LR)) Ay)
   (AA rfl (Ad 3 Zx.nd (AV WE i (A0 (qv 0) (A0 (qv 1) (A0 (qv 2) A4)))))
   (A7 rfl (Af (BP (A0 (qv 3) (A0 (CM GV i (by decide) CV rfl (A0 (qv 0) (A0 (qv 1) (A0 (qv 3) A4)))) (A0 (CM GV i (by decide) CV rfl (A0 (qv 0) (A0 (qv 2) (A0 (qv 3) A4)))) A4))))))))),?_⟩
 refine Fz.Fg h gO ?_;rintro _ _ _⟨tp,ns,n,l,rfl,OR,h1,h2,rfl,o⟩;intro i0
 by_cases c:Hb ns n l
 case neg=>
  obtain rfl:=(o.resolve_left λz=>c z.1).2;show Ws [_,_,_,.any] _ _ _;refine BO (Ff ?_);refine Cj ?_;refine Aj (B2 rfl (AG (A6 rfl (AG (A6 rfl (Ai ⟨_,_,⟨tp,ns,n,l,rfl,h1,h2,rfl,rfl⟩,trivial,λe h=>h,λ_ q=>absurd q c⟩))))))
 obtain rfl:=(o.resolve_right λz=>z.1 c).2;show Ws [_,_,_,.any] _ _ _;refine BO (Ff ?_);refine Cj ?_;refine Aj (B2 rfl (AG (A6 rfl (AG (A6 rfl (Ai ⟨_,_,⟨tp,ns,n,l,rfl,h1,h2,rfl,rfl⟩,trivial,λe h=>h,λ_ q=>?_⟩))))));obtain⟨u,g⟩:=CT.good c.1.1;obtain⟨t,d⟩:=CT.good c.1.2;have v:=c.2;rw[u,t];clear o q;generalize n.lp=l1 at g ⊢;generalize l.lp=l2 at d ⊢;have j:BF 37 ns:=⟨v,OR.nm,OR.nd⟩;have x:=j.len;refine BO (Cc (EU (wp_call (AG (A6 rfl (AG (A6 rfl (Ai ⟨_,⟨ns,l1,l2,rfl,g,d,by omega,rfl⟩,?_⟩))))))));rintro _ rfl
 by_cases c:EJ l1 l2
 .rw[lD c];exact⟨_,rfl,CD rfl (C2 (Kd rfl))⟩
 rw[mB c];refine⟨_,rfl,Bw (by decide) (B5 ?_)⟩;refine BO (FT (DR (Aj (B2 rfl (AG (A6 rfl (AG (A6 rfl (Ai ⟨_,⟨tp,ns,l1,l2,rfl,j,g,d,c,rfl⟩,?_⟩)))))))));rintro _⟨r,es,p,rfl⟩;have ok:=p.ok j g d c;obtain⟨a,b,pt⟩:=p.parts j g d c;refine Od 3 rfl ?_;refine C2 (EZ (B6 (A6 rfl (B6 (CN (Iv ?_))))));refine Aj (B2 rfl (AG (A6 rfl (Aj (En rfl (Ai ⟨_,_,⟨some B3,tp,ns,l1,es,r,rfl,⟨ok.row,ok.g1,ok.g1,ok.say,ok.len⟩,rfl,rfl⟩,trivial,λe h=>?_,?_⟩))))))
 .rw[pt.2.2.1]at h;cases h.1
 intro _ _;refine B6 (CN (Iv ?_));refine Aj (B2 rfl (AG (A6 rfl (Aj (En rfl (Ai ⟨_,_,⟨some B3,tp,ns,l2,es,r,rfl,⟨ok.row,ok.g2,ok.g2,ok.say,ok.len⟩,rfl,rfl⟩,trivial,λe h=>?_,?_⟩))))))
 .rw[pt.2.2.2.1]at h;cases h.1
 intro _ _;exact Bs ⟨by simp,rfl⟩
def ZAa:B0 ["ones","others"] ["ones","others"] (AY UD):=by walk_at "z1"
def cE : ∀ss R,W0 ss R->ss.length=2:=by rintro _ _⟨a,b,rfl,_,_,rfl⟩;rfl
def o9(F:AE K "part_at_last" "part_at_last" UD f fd)(m:mg "part_at_last"=some (.ref f)):
  A9 P w K mg Zp "part_at_last" 1 ["ones","others"] (Ap W0):=by
 refine A9.mk F (F.binds (by walk_at "bD2")) m (F.BS (k:=0) ZAa (λvs H Q E h=>Fz.CA cE h) (λAS A outer s H vs Q E g h=>?_))
 refine⟨_,(A7 rfl (Af (Gu (D5 (Fz.Sf g.units) (FG NY (qv 0) Fp (Ey (Ju KS A5))) (FG NY (qv 1) Fp (Ey (Ju KS A5)))) (Fx (D5 (Fz.SQ g.units) (A8 CP (qv 0) (Ju KS A5)) (A8 CP (qv 1) (Ju KS A5))))))),?_⟩;refine Fz.C9 h cE ?_;rintro _ _⟨a,b,rfl,j,i,rfl⟩;show Ws [_,_] _ _ _;obtain⟨x,hx⟩:∃x,a.getLast?=some x:=⟨a.getLast j,iZ j⟩;obtain⟨y,d⟩:∃y,b.getLast?=some y:=⟨b.getLast i,iZ i⟩;refine C2 (Je (QC ?_))
 walk_at "ww"
 rw[Ti,V1]
 walk_at "ww"
 rw[Ti,V1,aJ];refine⟨OH K 39 _,OH K 39 _,_,rfl,Aa (λc=>?_) (λc=>?_)⟩
 .have e:=lY c;have n:L2.BZ (a.map C7) (-1)=some (C7 x):=Th (by rw[ia,hx];rfl);have l:L2.BZ (b.map C7) (-1)=some (C7 y):=Th (by rw[ia,d];rfl);refine Ow (GX (En rfl ⟨rfl,QU (Ce ⟨_,rfl,_,_,rfl,n,?_⟩)⟩));refine GX (En rfl ⟨rfl,QU (Ce ⟨_,rfl,_,_,rfl,l,U3 K 40 x,U3 K 40 y,?_⟩)⟩);have q:=UN [x] [y];rw[G8,G8,MT,OF,Ck,RJ]at q;rw[q];have w:=wy hx d e
  congr 1
  rw[Eb,ZCh,ZBT,xq];simp only[List.cons.injEq,and_true];exact⟨λz=>⟨e,w.mp z⟩,λz=>w.mpr z.2⟩
 .rw[mB (λz=>c (lD z.1))]
def gf:B0 ["row","one","other","trial","ones","others","told"] ["row","one","other","trial","ones","others"] (AY XW):=by walk_at "z1"
def iE:∀ss R D,(UE Ab AD) ss R D->ss.length=6:=by rintro _ _ _⟨tp,ns,c,b,es,a,rfl,_,_,_,_,_,_,rfl,_⟩;rfl
def ux(F:AE K "trial_judged" "trial_judged" XW f fd)(m:mg "trial_judged"=some (.ref f)):
  BB P w K mg Zp "trial_judged" 8 ["row","one","other","trial","ones","others"] (Ba (UE Ab AD)):=by
 refine BB.mk F (F.binds (by walk_at "bD6")) m (F.G3 (k:=7) gf (λvs H Q E h=>Fz.Fj iE h) (λAS A outer s H vs Q E g h=>?_))
 refine⟨_,(AA rfl (D1 (CM LC g (by decide) CV rfl (A0 (qv 0) (A0 (qv 1) (A0 (qv 2) A4)))))
   (AA rfl (Ak (Jc (Dz (M4 EO EO A5 (B4 EK Ar (A0 (qv 3) A4)) (Br (v:=.int 100) (by rfl) Xx ⟨_,rfl⟩))) (JM (Ah (Fz.SQ g.units) (A8 CP (qv 3) (Ju KS A5)) (Br (v:=.ref B3) (by rfl) D8 rfl)))).pt (A7 rfl (Af EN)) Ay)
   (AA rfl (uN rfl rfl (by rfl) Fu (λ_ _ _ g1=>by exact(A7 rfl (Ad 6 gf.nd (BP (A0 (CM GV g (by decide) g1 rfl (A0 (qv 0) (A0 (qv 1) (A0 (qv 3) A4)))) (A0 (CM GV g (by decide) g1 rfl (A0 (qv 0) (A0 (qv 2) (A0 (qv 3) A4)))) A4)))))) (λ_=>by exact(A7 rfl (Af EN))))
   (A7 rfl (Af (Gu (D5 (Fz.Sf g.units) (qv 6) (BP (A0 (qv 4) (A0 (qv 5) A4)))) (Fx (AV T1 g (A0 (qv 4) (A0 (qv 5) A4)))))))))),?_⟩
 refine Fz.Fg h iE ?_;rintro _ _ _⟨tp,ns,l,i,es,a,rfl,OR,h1,h2,D,G,u,rfl,o⟩;have C:Cy K B3 [.str "step"]:=Cy.of DS rfl rfl;have O:dat K 40 (.con B3 [.str "step"]):=C.dat (d:=39) (λx hx=>by rw[List.mem_singleton.mp hx];trivial);have n:GB K none:=λa e=>by cases e
 intro i0
 by_cases b:Hb ns l i
 case neg=>
  obtain rfl:=(o.resolve_left λz=>b z.1).2;show Ws [_,_,_,_,_,_,.any] _ _ _;refine BO (Ff ?_);refine Cj ?_;refine Aj (B2 rfl (AG (A6 rfl (AG (A6 rfl (Ai ⟨_,_,⟨tp,ns,l,i,rfl,h1,h2,rfl,rfl⟩,trivial,λe h=>h,λ_ q=>absurd q b⟩))))))
 obtain rfl:=(o.resolve_right λz=>z.1 b).2;show Ws [_,_,_,_,_,_,.any] _ _ _;refine BO (Ff ?_);refine Cj ?_;refine Aj (B2 rfl (AG (A6 rfl (AG (A6 rfl (Ai ⟨_,_,⟨tp,ns,l,i,rfl,h1,h2,rfl,rfl⟩,trivial,λe h=>h,λ_ q=>?_⟩))))));obtain⟨N,t⟩:=CT.good b.1.1;obtain⟨M,r⟩:=CT.good b.1.2;have X:=b.2;rw[N,M];clear o q;generalize l.lp=l1 at t ⊢;generalize i.lp=l2 at r ⊢;have ok:Pb ns l1 l2 es:=⟨OR,t,r,D,G⟩;refine BO (Cc (N5 (DK (EV (Kc ?_)))))
 walk_at "ww"
 rw[Aw];refine Aa (λc=>?_) (λc=>⟨false,rfl,CD rfl (CD rfl (C2 (HD rfl)))⟩);refine Ce ⟨_,rfl,_,rfl,Aa (λc2=>CD rfl (C2 (HD rfl))) (λc2=>?_)⟩;have y:es≠[]:=λz=>by rw[z]at c;cases c
 obtain⟨x,hx⟩:∃x,es.getLast?=some x:=⟨es.getLast y,iZ y⟩;have B:L2.BZ (es.map (Cd none)) (-1)=some (Cd none x):=Th (by rw[ia,hx];rfl);refine EV (Ow (GX (B2 rfl ⟨rfl,QU (Ce ⟨_,rfl,_,_,rfl,B,?_⟩)⟩)));refine Ik [.str "step"] ⟨az n 39 x,O,_,rfl,?_⟩;rw[bu];refine Aa (λp=>C2 (HD rfl)) (λp=>B5 ?_);refine BO (ki (λAK=>AK=[.sq tp (ns.map .str),.is l1.P,.is l2.P,.sq false (es.map (Cd none)),.is (.lst (a.map C7)),.is (.lst (a.map C7)),.any]) (λx=>∃j v,Ny ⟨AL,AM,AF,AH,AD⟩ x j v) (λE=>?_) (λGy x J L=>?_))
 .letI:Xw:=GF E (λAK=>AK=[.sq tp (ns.map .str),.is l1.P,.is l2.P,.sq false (es.map (Cd none)),.is (.lst (a.map C7)),.is (.lst (a.map C7)),.any]) (λx=>∃j v,Ny ⟨AL,AM,AF,AH,AD⟩ x j v);refine Cq (EZ (B6 (CN (Iv ?_))));refine Aj (B2 rfl (AG (A6 rfl (Aj (B2 rfl (Ai ⟨_,_,⟨none,tp,ns,l1,es,n,rfl,⟨ok.row,ok.g1,ok.g1,ok.say,ok.len⟩,rfl,rfl⟩,rfl,λe h=>h.2,?_⟩))))));rintro _⟨W,U,S,rfl⟩;refine B6 (CN (Iv ?_));refine Aj (B2 rfl (AG (A6 rfl (Aj (B2 rfl (Ai ⟨_,_,⟨none,tp,ns,l2,es,n,rfl,⟨ok.row,ok.g2,ok.g2,ok.say,ok.len⟩,rfl,rfl⟩,rfl,λe h=>h.2,?_⟩))))));rintro _⟨V,T,R,rfl⟩;refine Bs ⟨by simp,?_⟩;clear this;show Ws _ _ _ _;refine C2 (Je (QC (A6 rfl (EZ (B6 (A6 rfl (B6 (A6 rfl (Bs ⟨by simp,bZ K _ _,bZ K _ _,_,rfl,Aa (λp=>?_) (λp=>rfl)⟩)))))))));refine wp_call (AG (A6 rfl (AG (A6 rfl (Ai ⟨_,⟨a,a,rfl,u,u,rfl⟩,?_⟩)))));rintro _ rfl;rw[mB (λz=>z.2 rfl)]
 .subst J;obtain⟨j,v,I⟩:=L;exact⟨ZB6 xo I,C2 (HD rfl)⟩
def LM:B0 ["row","one","other","door","trial","found","e"] ["row","one","other","door","trial"] (AY TC):=by walk_at "z1"
def b7:∀ss R,(WI Ab AD) ss R->ss.length=5:=by rintro _ _⟨ns,b,a,j,es,rfl,_,_,_,_,_,_,rfl⟩;rfl
def yO(F:AE K "_law_asked" "_law_asked" TC f fd)(m:mg "_law_asked"=some (.ref f)):
  A9 P w K mg Zp "_law_asked" 11 ["row","one","other","door","trial"] (Ap (WI Ab AD)):=by
 refine A9.mk F (F.binds (by walk_at "bD5")) m (F.BS (k:=10) LM (λvs H Q E h=>Fz.CA b7 h) (λAS A outer s H vs Q E n h=>?_))
 refine⟨_,(AA rfl (Ad 5 LM.nd LR)
   (AA rfl (tO (j:=6) rfl rfl LM.nd rfl rfl (by rfl) Fu (λ_ _ _ g1=>by exact(A7 rfl (Ak (Ah BN (qv 3) A5) (A7 rfl (Ad 5 LM.nd (CM TR n (by decide) g1 rfl (A0 (qv 0) (A0 (qv 1) (A0 (qv 2) A4)))))) (A7 rfl (Ad 5 LM.nd (CM Ve n (by decide) g1 rfl (A0 (qv 0) (A0 (qv 1) (A0 (qv 2) (A0 (qv 4) (A0 (CO (A0 LR A4)) (A0 (CO (A0 LR A4)) A4)))))))))))) (λ_=>by exact(A7 rfl (Ad 5 LM.nd (qv 6)))))
   (A7 rfl (Af (qv 5))))),?_⟩
 refine Fz.C9 h b7 ?_;rintro _ _⟨ns,b,a,j,es,rfl,d,h1,h2,l,o,u,rfl⟩;show Ws [_,_,_,_,_,.any,.any] _ _ _
 walk_at "ww"
 refine kW (λAK=>AK=[.sq false (ns.map .str),.is b.P,.is a.P,.is (.int j),.sq false (es.map (Cd none)),.is .AB,.any]) (NO Ab AD ns b a) (λE=>?_) (λGy x r t=>?_)
 .letI:Xw:=GF E (λAK=>AK=[.sq false (ns.map .str),.is b.P,.is a.P,.is (.int j),.sq false (es.map (Cd none)),.is .AB,.any]) (NO Ab AD ns b a);have g:j=0∨j=1:=by omega
  rcases g with rfl|rfl
  .walk_at "ww"
   refine CD (by decide) ?_
   by_cases c:Hb ns b a
   .refine Cq ?_;refine Cj ?_;refine Aj (B2 rfl (AG (A6 rfl (AG (A6 rfl (Ai ⟨_,_,⟨false,ns,b,a,rfl,d,h1,h2,rfl,.inl ⟨c,rfl⟩⟩,rfl,λe h=>h,?_⟩))))));intro p q;clear this;show Ws _ _ _ _;exact C2 (A6 rfl (.inr (.inr ⟨c,.inl ⟨rfl,q⟩⟩)))
   .refine Cq ?_;refine Cj ?_;exact Aj (B2 rfl (AG (A6 rfl (AG (A6 rfl (Ai ⟨_,_,⟨false,ns,b,a,rfl,d,h1,h2,rfl,.inr ⟨c,rfl⟩⟩,rfl,λe h=>h,λ_ h=>h.elim⟩))))))
  .walk_at "ww"
   refine Bw (by decide) ?_
   by_cases c:Hb ns b a
   .refine Cq ?_;refine Cj ?_;refine Aj (B2 rfl (AG (A6 rfl (AG (A6 rfl (Aj (B2 rfl (AG (CN (EY (B6 (Kd (Bs ⟨by simp,?_⟩)))))))))))));refine AG (CN (EY (B6 (Kd (Bs ⟨by simp,?_⟩)))));refine Ai ⟨_,_,⟨false,ns,b,a,es,[none],rfl,d,h1,h2,l,o,by simp,rfl,.inl ⟨c,rfl⟩⟩,rfl,λe h=>h,?_⟩;rintro p rfl;clear this;show Ws _ _ _ _;exact C2 (A6 rfl (.inr (.inr ⟨c,.inr ⟨rfl,rfl⟩⟩)))
   .refine Cq ?_;refine Cj ?_;refine Aj (B2 rfl (AG (A6 rfl (AG (A6 rfl (Aj (B2 rfl (AG (CN (EY (B6 (Kd (Bs ⟨by simp,?_⟩)))))))))))));refine AG (CN (EY (B6 (Kd (Bs ⟨by simp,?_⟩)))));exact Ai ⟨_,_,⟨false,ns,b,a,es,[none],rfl,d,h1,h2,l,o,by simp,rfl,.inr ⟨c,rfl⟩⟩,rfl,λe h=>h,λ_ h=>h.elim⟩
 .subst r;rcases t with⟨i,rfl⟩|⟨i,LL,rfl⟩
  .refine⟨XR,?_⟩;refine Cq (A6 rfl ?_);show Ws _ _ _ _;exact C2 (A6 rfl (.inl ⟨i,rfl⟩))
  .refine⟨UW,?_⟩;refine Cq (A6 rfl ?_);show Ws _ _ _ _;exact C2 (A6 rfl (.inr (.inl ⟨i,LL,rfl⟩)))
def cm:B0 ["e","place","some"] ["e","place"] (AY Ro):=by walk_at "z1"
def fH:∀ss R,(TM K [AL,AM,AF,AH,Dn,E4,Dw,E8,Dv,AD,Dl,Ab,Dr,Du,Dk,E7] Bk) ss R->ss.length=2:=by rintro _ _⟨C,a,xs,i,rfl,_,_,_,rfl⟩;rfl
def rW(F:AE K "_law_alone" "_law_alone" Ro f fd)(m:mg "_law_alone"=some (.ref f)):
  A9 P w K mg Zp "_law_alone" 1 ["e","place"] (Ap (TM K [AL,AM,AF,AH,Dn,E4,Dw,E8,Dv,AD,Dl,Ab,Dr,Du,Dk,E7] Bk)):=by
 refine A9.mk F (F.binds (by walk_at "bD2")) m (F.BS (k:=0) cm (λvs H Q E h=>Fz.CA fH h) (λAS A outer s H vs Q E d h=>?_))
 refine⟨_,(AA rfl (Ad 2 cm.nd (CO (A0 (B4 DW D6 (A0 (qv 0) (A0 (Br (v:=.ref AL) (by rfl) MH rfl) A4))) (A0 (B4 DW D6 (A0 (qv 0) (A0 (Br (v:=.ref AM) (by rfl) La rfl) A4))) (A0 (B4 DW D6 (A0 (qv 0) (A0 (Br (v:=.ref AF) (by rfl) Le rfl) A4))) (A0 (B4 DW D6 (A0 (qv 0) (A0 (Br (v:=.ref AH) (by rfl) Fw rfl) A4))) (A0 (B4 DW D6 (A0 (qv 0) (A0 (Br (v:=.ref Dn) (by rfl) Wj rfl) A4))) (A0 (B4 DW D6 (A0 (qv 0) (A0 (Br (v:=.ref E4) (by rfl) S6 rfl) A4))) (A0 (B4 DW D6 (A0 (qv 0) (A0 (Br (v:=.ref Dw) (by rfl) VN rfl) A4))) (A0 (B4 DW D6 (A0 (qv 0) (A0 (Br (v:=.ref E8) (by rfl) Rb rfl) A4))) (A0 (B4 DW D6 (A0 (qv 0) (A0 (Br (v:=.ref Dv) (by rfl) X5 rfl) A4))) (A0 (B4 DW D6 (A0 (qv 0) (A0 (Br (v:=.ref AD) (by rfl) IS rfl) A4))) (A0 (B4 DW D6 (A0 (qv 0) (A0 (Br (v:=.ref Dl) (by rfl) VF rfl) A4))) (A0 (B4 DW D6 (A0 (qv 0) (A0 (Br (v:=.ref Ab) (by rfl) Ln rfl) A4))) (A0 (B4 DW D6 (A0 (qv 0) (A0 (Br (v:=.ref Dr) (by rfl) Wf rfl) A4))) (A0 (B4 DW D6 (A0 (qv 0) (A0 (Br (v:=.ref Du) (by rfl) WH rfl) A4))) (A0 (B4 DW D6 (A0 (qv 0) (A0 (Br (v:=.ref Dk) (by rfl) U1 rfl) A4))) (A0 (B4 DW D6 (A0 (qv 0) (A0 (Br (v:=.ref E7) (by rfl) TQ rfl) A4))) A4))))))))))))))))))
   (AA rfl (Ak (Jc (Dz (FU (B4 DW D6 (A0 (qv 0) (A0 (Br (v:=.ref Bk) (by rfl) Fu rfl) A4))))) (JM (Dz (FU (B4 DW D6 (A0 (qv 0) (A0 (pD "ValueError" V5) A4))))))).pt (A7 rfl (Af EN)) Ay)
   (A7 rfl (Af (Gu (D5 BN (Gg HN PySem.F.slot_list_count PySem.F.type_list_count qF (qv 2) (A0 EN A4)) A5) (Fx (A8 CP (qv 2) (qv 1)))))))),?_⟩
 refine Fz.C9 h fH ?_;rintro _ _⟨C,c,xs,i,rfl,a,hi,_,rfl⟩;show Ws [_,_,.any] _ _ _
 walk_at "ww"
 refine DU (A6 rfl ⟨⟨λ_ _ _ z=>(by cases z),λ_ _ z=>(by cases z)⟩,_,_,_,rfl,⟨rfl,a.ex⟩,a.at_ 0 (by show 0<16;decide),?_⟩)
 walk_at "ww"
 refine DU (A6 rfl ⟨⟨λ_ _ _ z=>(by cases z),λ_ _ z=>(by cases z)⟩,_,_,_,rfl,⟨rfl,a.ex⟩,a.at_ 1 (by show 1<16;decide),?_⟩)
 walk_at "ww"
 refine DU (A6 rfl ⟨⟨λ_ _ _ z=>(by cases z),λ_ _ z=>(by cases z)⟩,_,_,_,rfl,⟨rfl,a.ex⟩,a.at_ 2 (by show 2<16;decide),?_⟩)
 walk_at "ww"
 refine DU (A6 rfl ⟨⟨λ_ _ _ z=>(by cases z),λ_ _ z=>(by cases z)⟩,_,_,_,rfl,⟨rfl,a.ex⟩,a.at_ 3 (by show 3<16;decide),?_⟩)
 walk_at "ww"
 refine DU (A6 rfl ⟨⟨λ_ _ _ z=>(by cases z),λ_ _ z=>(by cases z)⟩,_,_,_,rfl,⟨rfl,a.ex⟩,a.at_ 4 (by show 4<16;decide),?_⟩)
 walk_at "ww"
 refine DU (A6 rfl ⟨⟨λ_ _ _ z=>(by cases z),λ_ _ z=>(by cases z)⟩,_,_,_,rfl,⟨rfl,a.ex⟩,a.at_ 5 (by show 5<16;decide),?_⟩)
 walk_at "ww"
 refine DU (A6 rfl ⟨⟨λ_ _ _ z=>(by cases z),λ_ _ z=>(by cases z)⟩,_,_,_,rfl,⟨rfl,a.ex⟩,a.at_ 6 (by show 6<16;decide),?_⟩)
 walk_at "ww"
 refine DU (A6 rfl ⟨⟨λ_ _ _ z=>(by cases z),λ_ _ z=>(by cases z)⟩,_,_,_,rfl,⟨rfl,a.ex⟩,a.at_ 7 (by show 7<16;decide),?_⟩)
 walk_at "ww"
 refine DU (A6 rfl ⟨⟨λ_ _ _ z=>(by cases z),λ_ _ z=>(by cases z)⟩,_,_,_,rfl,⟨rfl,a.ex⟩,a.at_ 8 (by show 8<16;decide),?_⟩)
 walk_at "ww"
 refine DU (A6 rfl ⟨⟨λ_ _ _ z=>(by cases z),λ_ _ z=>(by cases z)⟩,_,_,_,rfl,⟨rfl,a.ex⟩,a.at_ 9 (by show 9<16;decide),?_⟩)
 walk_at "ww"
 refine DU (A6 rfl ⟨⟨λ_ _ _ z=>(by cases z),λ_ _ z=>(by cases z)⟩,_,_,_,rfl,⟨rfl,a.ex⟩,a.at_ 10 (by show 10<16;decide),?_⟩)
 walk_at "ww"
 refine DU (A6 rfl ⟨⟨λ_ _ _ z=>(by cases z),λ_ _ z=>(by cases z)⟩,_,_,_,rfl,⟨rfl,a.ex⟩,a.at_ 11 (by show 11<16;decide),?_⟩)
 walk_at "ww"
 refine DU (A6 rfl ⟨⟨λ_ _ _ z=>(by cases z),λ_ _ z=>(by cases z)⟩,_,_,_,rfl,⟨rfl,a.ex⟩,a.at_ 12 (by show 12<16;decide),?_⟩)
 walk_at "ww"
 refine DU (A6 rfl ⟨⟨λ_ _ _ z=>(by cases z),λ_ _ z=>(by cases z)⟩,_,_,_,rfl,⟨rfl,a.ex⟩,a.at_ 13 (by show 13<16;decide),?_⟩)
 walk_at "ww"
 refine DU (A6 rfl ⟨⟨λ_ _ _ z=>(by cases z),λ_ _ z=>(by cases z)⟩,_,_,_,rfl,⟨rfl,a.ex⟩,a.at_ 14 (by show 14<16;decide),?_⟩)
 walk_at "ww"
 refine DU (A6 rfl ⟨⟨λ_ _ _ z=>(by cases z),λ_ _ z=>(by cases z)⟩,_,_,_,rfl,⟨rfl,a.ex⟩,a.at_ 15 (by show 15<16;decide),?_⟩)
 walk_at "ww"
 refine⟨by simp,?_⟩;refine BO (Cc (N5 (DK (EU (DU (A6 rfl ⟨⟨λ_ _ _ z=>(by cases z),λ_ _ z=>(by cases z)⟩,_,_,_,rfl,⟨rfl,a.ex⟩,a.st,true,rfl,D7 ?_⟩))))));refine DK (EU (DU (A6 rfl ⟨⟨λ_ _ _ z=>(by cases z),λ_ _ z=>(by cases z)⟩,_,_,_,rfl,⟨rfl,a.ex⟩,a.ve,true,rfl,D7 (B5 ?_)⟩)));refine C2 (Je (IK (qu (FZ rfl ⟨rfl,[decide (0=i),decide (1=i),decide (2=i),decide (3=i),decide (4=i),decide (5=i),decide (6=i),decide (7=i),decide (8=i),decide (9=i),decide (10=i),decide (11=i),decide (12=i),decide (13=i),decide (14=i),decide (15=i)],rfl,HD ⟨true,rfl,Ce ?_⟩⟩))));have b:i<16:=hi;refine⟨rfl,_,rfl,CD (by rw[qW b];rfl) (GX (FZ rfl ⟨rfl,A6 rfl ⟨_,_,rfl,oU b,rfl⟩⟩))⟩
def sO:B0 ["one","other"] ["one","other"] (AY Vv):=by walk_at "z1"
def fQ : ∀ss R,Li ss R->ss.length=2:=by rintro _ _⟨ns,l1,l2,rfl,_,_,_,rfl⟩;rfl
def ou(F:AE K "_law_twins" "_law_twins" Vv f fd)(m:mg "_law_twins"=some (.ref f)):
  A9 P w K mg Zp "_law_twins" 1 ["one","other"] (Ap Li):=by
 refine A9.mk F (F.binds (by walk_at "bD2")) m (F.BS (k:=0) sO (λvs H Q E h=>Fz.CA fQ h) (λAS A outer s H vs Q E q h=>?_))
 refine⟨_,(AA rfl (Ak (Jc (Ah Jb (A8 AI (qv 0) A5) (A8 AI (qv 1) A5)) (JM (Ah (J8 q.Gw) (A8 AI (qv 0) A5) (A8 AI (qv 1) A5)))).pt (A7 rfl (Af EN)) Ay)
   (A7 rfl (Af (XS (D5 BN (A8 AI (qv 0) A5) (A8 AI (qv 1) A5)) (Fx (Gu (D5 BN (A8 AI (qv 0) A5) Au) (Fx (D5 LZ (B4 EK Ar (A0 (A8 AI (qv 0) A5) A4)) A5)))))))),?_⟩
 refine Fz.C9 h fQ ?_;rintro _ _⟨ns,⟨a,g1,c1⟩,⟨b,g2,c2⟩,rfl,p,o,x,rfl⟩;have v:c1.length<=ns.length:=BK.len p;have u:c2.length<=ns.length:=BK.len o;show Ws [.is (.tup [.str a,.int g1,.tup (c1.map .str)]),.is (.tup [.str b,.int g2,.tup (c2.map .str)])] _ _ _;have n:¬ (a=b/\c1=c2)->PV.bl false=.bl (decide (EJ ⟨a,g1,c1⟩ ⟨b,g2,c2⟩)):=λh=>by rw[mB (λz=>h z.1)]
 walk_at "ww"
 refine Aa (λc=>CD rfl (C2 (HD (n λz=>?_)))) (λc=>?_)
 .rw[z.1]at c;simp[alike]at c
 have r:a=b:=by simpa[alike]using c
 subst r
 walk_at "ww"
 refine Aa (λg=>C2 (HD (n λz=>?_))) (λg=>B5 ?_)
 .rw[z.2]at g;simp at g
 have t:c1=c2:=by simpa using g
 subst t
 walk_at "ww"
 refine Aa (λl=>?_) (λl=>?_)
 .have d:g1=g2:=Int.ofNat_inj.mp (by simpa[alike]using l)
  rw[lD (show EJ ⟨a,g1,c1⟩ ⟨a,g2,c1⟩from⟨⟨rfl,rfl⟩,.inl d⟩)]
 have d:g1≠g2:=λe=>l (by rw[e];simp[alike])
 walk_at "ww"
 refine Aa (λj=>?_) (λj=>?_)
 .have i:a="none" := by simpa[alike]using j
  walk_at "ww"
  rw[Aw]
  congr 1
  rw[Eb,m9,m9];exact⟨λz=>⟨⟨rfl,rfl⟩,.inr ⟨i,by show c1.length<=1;omega⟩⟩,λz=>z.2.elim (λw=>absurd w d) λw=>by have:c1.length<=1:=w.2;omega⟩
 .have i:a ≠"none" := by simpa[alike]using j
  rw[mB (λz:EJ ⟨a,g1,c1⟩ ⟨a,g2,c1⟩=>z.2.elim (λw=>d w) λw=>i w.1)]
def R9:B0 ["row","one","other","trial","good","door","found"] ["row","one","other","trial"] (AY VL):=by walk_at "z1"
def eU : ∀ss R,SI ss R->ss.length=4:=by rintro _ _⟨ns,b,a,es,rfl,_,_,_,_,_,rfl⟩;rfl
def zw(F:AE K "_law_right" "_law_right" VL f fd)(m:mg "_law_right"=some (.ref f)):
  A9 P w K mg Zp "_law_right" 12 ["row","one","other","trial"] (Ap SI):=by
 refine A9.mk F (F.binds (by walk_at "bD4")) m (F.BS (k:=11) R9 (λvs H Q E h=>Fz.CA eU h) (λAS A outer s H vs Q E e h=>?_))
 refine⟨_,(AA rfl (Ad 4 R9.nd (Gu (AV Pp e (A0 (qv 0) (A0 (qv 1) A4))) (Fx (AV Pp e (A0 (qv 0) (A0 (qv 2) A4))))))
   (AA rfl (C1 (NB OO rfl (GH (BP (A0 A5 (A0 A5 A4)))) (Fi 5 R9.nd) (AA rfl (Ad 6 R9.nd (AV WS e (A0 (qv 0) (A0 (qv 1) (A0 (qv 2) (A0 (qv 5) (A0 (qv 3) A4)))))))
   (A7 rfl (Ak (Dz (FU (qv 4))) (A7 rfl (Ak (Dz (FU (AV RH e (A0 (qv 6) (A0 A5 A4))))) (A7 rfl (Af EN)) Ay)) (A7 rfl (Ak (Ah Pd (B4 EK Ar (A0 (qv 0) A4)) A5) (A7 rfl (Ak (Dz (FU (AV RH e (A0 (qv 6) (A0 A5 A4))))) (A7 rfl (Af EN)) Ay)) (A7 rfl (Ak (J7 (Ah BN (qv 5) A5) (JU (Ah mW (qv 6) EN))).pt (A7 rfl (Af EN)) (A7 rfl (Ak (J7 (Ah BN (qv 5) A5) (JU (Ah Jb (D5 kh (qv 6) LR) (AV U4 e (A0 (qv 1) (A0 (qv 2) A4)))))).pt (A7 rfl (Af EN)) Ay)))))))))))
   (A7 rfl (Af EN)))),?_⟩
 refine Fz.C9 h eU ?_;rintro _ _⟨ns,d,a,es,rfl,t,h1,h2,y,D,rfl⟩;have Nu:=Yp Nu;have Mz:=Yp Mz;have N:=t.len;show Ws [_,_,_,_,.any,.any,.any] _ _ _;refine HB (λAK=>∃b:Bool,(b=true↔(d.B ns=true/\a.B ns=true))/\AK=[.sq false (ns.map .str),.is d.P,.is a.P,.sq false (es.map (Cd none)),.is (.bl b),.any,.any]) ?_ ?_
 .refine Cq (Je (cu (B2 rfl ⟨rfl,ns,rfl,A6 rfl ⟨d.r,d.g,d.cs,rfl,h1,_,rfl,Aa (λc=>?_) (λc=>?_)⟩⟩)))
  .refine cu (B2 rfl ⟨rfl,ns,rfl,A6 rfl ⟨a.r,a.g,a.cs,rfl,h2,?_⟩⟩);exact⟨_,⟨λz=>⟨c,z⟩,λz=>z.2⟩,rfl⟩
  .exact⟨false,⟨λz=>(by cases z),λz=>absurd z.1 c⟩,rfl⟩
 rintro _⟨b,q,rfl⟩;refine BO (GA (Xq (λ_ _ AK=>∃n l:Slot,AK=[.sq false (ns.map .str),.is d.P,.is a.P,.sq false (es.map (Cd none)),.is (.bl b),n,l]) ?_))
 walk_at "ww"
 refine⟨by simp,_,.inr ⟨rfl,⟨_,_,rfl⟩,?_,?_⟩⟩
 .rintro u p AK C⟨n,l,rfl⟩;obtain⟨j,rfl,G⟩:∃j:Nat,p=.int j/\j<2:=by
   have m:=L6 C;simp only[Dg,Cb,yk]at m;rcases m with rfl|rfl
   .exact⟨0,rfl,by decide⟩
   .exact⟨1,rfl,by decide⟩
  refine Xa ?_;refine BO (Cq (wp_call (Aj (B2 rfl (AG (A6 rfl (AG (A6 rfl (AG (A6 rfl (Aj (B2 rfl (Ai ⟨_,⟨ns,d,a,j,es,rfl,t,h1,h2,y,D,G,rfl⟩,?_⟩)))))))))))));rintro f(⟨hn,rfl⟩|⟨I,M,rfl⟩|⟨i,o⟩)
  .obtain rfl:b=false:=by cases b;exact rfl;exact absurd (q.mp rfl) hn
   refine Cc (DK (EU (A6 rfl ⟨false,rfl,CD rfl ?_⟩)));refine Cc (DK (EU (wp_call (AG (A6 rfl (AG (Ce (Ai ⟨_,⟨Ab,_,_,11,rfl,Nu,by show 11<16;decide,rfl,rfl⟩,?_⟩))))))));rintro _ rfl;exact⟨true,rfl,D7 (B5 ⟨_,_,rfl⟩)⟩
  .obtain rfl:b=true:=q.mpr I;refine Cc (DK (EU (A6 rfl ⟨true,rfl,D7 ?_⟩)))
   walk_at "ww"
   refine CD (by rw[Aw];exact lD (by omega)) ?_;refine Cc (DK (EU (wp_call (AG (A6 rfl (AG (Ce (Ai ⟨_,⟨AD,_,_,9,rfl,Mz,by show 9<16;decide,rfl,rfl⟩,?_⟩))))))));rintro _ rfl;exact⟨true,rfl,D7 (B5 ⟨_,_,rfl⟩)⟩
  .obtain rfl:b=true:=q.mpr i.1;have M:=i.2;refine Cc (DK (EU (A6 rfl ⟨true,rfl,D7 ?_⟩)))
   walk_at "ww"
   refine Bw (by rw[Aw];simp;omega) ?_;rcases o with⟨rfl,o⟩|⟨rfl,rfl⟩
   .obtain⟨L,x⟩:=CT.good i.1.1;obtain⟨J,v⟩:=CT.good i.1.2;refine Cc (LB (EV (IK (A6 rfl (Ce ⟨rfl,_,rfl,Bw (by decide) (D7 ?_)⟩)))));refine Cc (LB (EV (IK (A6 rfl (Ce ⟨rfl,_,rfl,CD (by decide) ?_⟩)))));refine EV (dH (pV (A6 rfl (Kd ⟨rfl,?_⟩))));rw[L,J,o];refine wp_call (AG (A6 rfl (AG (A6 rfl (Ai ⟨_,⟨ns,_,_,rfl,x,v,by omega,rfl⟩,?_⟩)))));rintro _ rfl;refine⟨rfl,_,rfl,Bw ?_ (B5 ⟨_,_,rfl⟩)⟩;simp[alike]
   .refine Cc (LB (EV (IK (A6 rfl (Ce ⟨rfl,_,rfl,CD (by decide) ?_⟩)))));refine EV (Z2 (A6 rfl ⟨_,rfl,HD ⟨_,rfl,_,rfl,Bw (by decide) ?_⟩⟩));exact Cc (LB (EV (IK (A6 rfl (Ce ⟨rfl,_,rfl,Bw (by decide) (D7 (B5 ⟨_,_,rfl⟩))⟩)))))
 .rintro AK⟨n,l,rfl⟩
  walk_at "ww"
  rfl
def Fq:B0 ["script","pot","row","kept","k","one","other","way","some","trial"] ["script"] (AY Lj):=by walk_at "z1"
def zb(F:AE K "law" "law" Lj f fd)(m:mg "law"=some (.ref f)):
  Cv P w K mg Zp FJ 13 f fd ["script"] (OI K):=by
 refine(F.BS (k:=12) Fq (λvs H Q E h=>by obtain⟨a,ns,rfl,_⟩:=h;rfl) (λAS A outer s H vs Q E b h=>?_));refine⟨_,(AA rfl (Ad 1 Fq.nd (AV SG b (A0 (qv 0) (A0 A5 A4))))
   (AA rfl (Ad 2 Fq.nd (AV Su b (A0 (qv 1) (A0 A5 A4))))
   (AA rfl (C1 (Ak (Ah BN (AV BU b (A0 (qv 1) (A0 A5 A4))) A5) (A7 rfl (Ad 2 Fq.nd (AV Ld b (A0 (qv 1) (A0 (Ax E5 A5 (AV BU b (A0 (qv 1) (A0 A5 A4)))) A4))))) Ay))
   (AA rfl (Ad 3 Fq.nd (Eg KG DT (A0 (qv 2) A4)))
   (AA rfl (C1 (NB OO rfl (SX rfl IW (A0 A5 A4)) (Fi 4 Fq.nd) (AA rfl (OE (AV Uv b (A0 (qv 1) (A0 (qv 2) A4))) (Sa rfl (JY (Fi 5 Fq.nd) (JY (Fi 6 Fq.nd) VG))))
   (AA rfl (Ad 7 Fq.nd (AV BU b (A0 (qv 1) (A0 A5 A4))))
   (AA rfl (C1 (Ak (Ah BN (qv 7) A5) (A7 rfl (Ad 5 Fq.nd (AV Qz b (A0 (qv 1) (A0 (qv 2) (A0 (qv 5) A4)))))) Ay))
   (AA rfl (C1 (Ak (Ah BN (qv 7) A5) (A7 rfl (Ad 6 Fq.nd (AV Qz b (A0 (qv 1) (A0 (qv 2) (A0 (qv 6) A4)))))) Ay))
   (AA rfl (Ad 8 Fq.nd (BP (A0 (CO A4) (A0 (CO (A0 (BP (A0 Au A4)) A4)) (A0 (CO (A0 (BP (A0 Au (A0 A5 (A0 A5 A4)))) A4)) (A0 (CO (A0 (BP (A0 Au A4)) (A0 (BP (A0 Au (A0 Au A4))) A4))) (A0 (Ax ZBg (CO (A0 (BP (A0 Au A4)) A4)) A5) A4)))))))
   (AA rfl (Ad 9 Fq.nd (A8 AI (qv 8) (AV BU b (A0 (qv 1) (A0 A5 A4)))))
   (AA rfl (Ak (Jc (Dz (FU (AV Lk b (A0 (qv 2) (A0 (qv 5) (A0 (qv 6) (A0 (qv 9) A4))))))) (JM (Dz (FU (AV Lk b (A0 (FG NY (qv 2) Fp (Ey A5)) (A0 (qv 5) (A0 (qv 6) (A0 (qv 9) A4))))))))).pt (A7 rfl (Af EN)) Ay)
   (A7 rfl (Ak (Jc (Dz (FU (AV Lk b (A0 (FG NY (qv 2) Fp (Ey (Ju KS A5))) (A0 (qv 5) (A0 (qv 6) (A0 (qv 9) A4))))))) (JM (Dz (FU (AV Lk b (A0 (qv 2) (A0 (qv 5) (A0 (qv 6) (A0 (qv 9) A4))))))))).pt (A7 rfl (Af EN)) Ay)))))))))))
   (A7 rfl (Af (D5 (Sk b.Gw) (qv 2) (qv 3))))))))),?_⟩
 refine Fz.kz h ?_;intro sc W;show Ws [_,.any,.any,.any,.any,.any,.any,.any,.any,.any] _ _ _
 walk_at "ww"
 refine⟨by decide,by decide,?_⟩;refine BO (FT (aC rfl rfl (Ce ⟨_,rfl,by decide,by decide,λns v z nd=>?_⟩)));have l:BF 40 ns:=⟨by omega,z,nd⟩;refine HB (λAK=>∃ns:List Str,BF 40 ns/\AK=[.raw (IZ K sc),.AQ,.own (ns.map .str),.any,.any,.any,.any,.any,.any,.any]) ?_ ?_
 .walk_at "ww"
  refine⟨by decide,by decide,λq R u=>?_⟩
  walk_at "ww"
  refine Aa (λc=>?_) (λc=>B5 ⟨_,l,rfl⟩);refine FT (om rfl ?_)
  walk_at "ww"
  refine⟨by decide,by decide,λq R u=>?_⟩;exact⟨_,rfl,_,rfl,by omega,by omega,λCK e z nd=>⟨CK,⟨by omega,z,nd⟩,rfl⟩⟩
 clear l v z nd ns;rintro _⟨ns,l,rfl⟩;have v:=l.len;refine Od 2 rfl ?_;refine BO (FT ?_)
 walk_at "ww"
 refine Xq (λ_ _ AK=>∃s4 D C B t n:Slot,AK=[.raw (IZ K sc),.AQ,.is (.lst (ns.map .str)),.own (ns.map .str),s4,D,C,B,t,n]) ?_
 walk_at "ww"
 refine⟨by decide,by decide,⟨_,_,_,_,_,_,rfl⟩,?_,?_⟩
 .rintro i p AK V⟨s4,D,C,B,t,n,rfl⟩;refine Xa ?_;refine BO (lg (xZ rfl (Aj (En rfl (Ai ⟨_,⟨ns,rfl,l,rfl⟩,?_⟩)))));rintro _⟨l1,l2,rfl,u,G⟩;refine ZCJ ⟨_,_,rfl,?_⟩;have M:=BK.len u;have L:=BK.len G;obtain⟨j,J,h1⟩:∃o:CT,l1.P=o.P/\o.cs.length<=40:=⟨⟨l1.r,l1.g,l1.cs⟩,rfl,by show l1.cs.length<=40;omega⟩;obtain⟨d,I,h2⟩:∃o:CT,l2.P=o.P/\o.cs.length<=40:=⟨⟨l2.r,l2.g,l2.cs⟩,rfl,by show l2.cs.length<=40;omega⟩;rw[J,I];clear J I M L u G l1 l2
  walk_at "ww"
  refine⟨by decide,by decide,λw U T=>?_⟩;refine HB (λAK=>∃j:CT,j.cs.length<64/\AK=[.raw (IZ K sc),.AQ,.is (.lst (ns.map .str)),.own (ns.map .str),.is p,.is j.P,.is d.P,.is (.int w),t,n]) ?_ ?_
  .refine GA ?_
   walk_at "ww"
   refine Aa (λc=>?_) (λc=>B5 ⟨j,by omega,rfl⟩);exact Cq (eP rfl (En rfl ⟨rfl,ns,rfl,l.nm,v,A6 rfl ⟨j.r,j.g,j.cs,rfl,h1,λr g cs h=>⟨⟨r,g,cs⟩,by show cs.length<64;omega,rfl⟩⟩⟩))
  clear h1 j;rintro _⟨j,h1,rfl⟩;refine HB (λAK=>∃d:CT,d.cs.length<64/\AK=[.raw (IZ K sc),.AQ,.is (.lst (ns.map .str)),.own (ns.map .str),.is p,.is j.P,.is d.P,.is (.int w),t,n]) ?_ ?_
  .refine GA ?_
   walk_at "ww"
   refine Aa (λc=>?_) (λc=>B5 ⟨d,by omega,rfl⟩);exact Cq (eP rfl (En rfl ⟨rfl,ns,rfl,l.nm,v,A6 rfl ⟨d.r,d.g,d.cs,rfl,h2,λr g cs h=>⟨⟨r,g,cs⟩,by show cs.length<64;omega,rfl⟩⟩⟩))
  clear h2 d;rintro _⟨d,h2,rfl⟩;refine BO (Cq (EZ (B6 (CN (EY (Bs ⟨by simp,?_⟩))))));refine B6 (CN (EY (B6 (EZ (B6 (ES (Bs ⟨by simp,Bs ⟨by simp,?_⟩⟩)))))));refine B6 (CN (EY (B6 (EZ (B6 (ES (B6 (Ce (B6 (Ce (Bs ⟨by simp,Bs ⟨by simp,?_⟩⟩)))))))))));refine B6 (CN (EY (B6 (EZ (B6 (ES (Bs ⟨by simp,B6 (EZ (B6 (ES (B6 (ES (Bs ⟨by simp,Bs ⟨by simp,?_⟩⟩))))))⟩)))))));refine B6 (CN (rn (IM (EY (B6 (EZ (B6 (ES (Bs ⟨by simp,Bs ⟨by simp,rfl,Ce ⟨_,rfl,by decide,by decide,by simp,Bs ⟨by simp,?_⟩⟩⟩⟩)))))))))
  walk_at "ww"
  refine⟨by decide,by decide,λr O N=>?_⟩;obtain⟨es,x,y,S⟩:=qG O N;refine⟨_,_,rfl,S,?_⟩;refine BO (Cc (N5 (DK (EU (wp_call (Aj (En rfl (AG (A6 rfl (AG (A6 rfl (Aj (En rfl (Ai ⟨_,⟨ns,j,d,es,rfl,l,h1,h2,x,y,rfl⟩,?_⟩))))))))))))));rintro _ rfl;refine⟨true,rfl,D7 ?_⟩;refine DK (EU (wp_call (Aj ?_)))
  walk_at "ww"
  rw[show EB (ns.map PV.str) none (some 37)=(ns.take 37).map .str by rw[OM];exact Ng _ 37];refine AG (A6 rfl (AG (A6 rfl (Aj (En rfl (Ai ⟨_,⟨ns.take 37,j,d,es,rfl,l.take 37,h1,h2,x,y,rfl⟩,?_⟩))))));rintro _ rfl;refine⟨true,rfl,D7 (B5 ?_)⟩;refine Cc (N5 (DK (EU (wp_call (Aj ?_)))))
  walk_at "ww"
  rw[Ti,V1];refine AG (A6 rfl (AG (A6 rfl (Aj (En rfl (Ai ⟨_,⟨ns.dropLast,j,d,es,rfl,l.init,h1,h2,x,y,rfl⟩,?_⟩))))));rintro _ rfl;refine⟨true,rfl,D7 ?_⟩;refine DK (EU (wp_call (Aj (En rfl (AG (A6 rfl (AG (A6 rfl (Aj (En rfl (Ai ⟨_,⟨ns,j,d,es,rfl,l,h1,h2,x,y,rfl⟩,?_⟩)))))))))));rintro _ rfl;exact⟨true,rfl,D7 (B5 ⟨_,_,_,_,_,_,rfl⟩)⟩
 .rintro AK⟨s4,D,C,B,t,n,rfl⟩
  walk_at "ww"
  rw[lD rfl]
def all_mk{h:Heap}{fa f1 f2 f3 f4 f5 f6 f7 f8 f9 bx ZS aj cB cP dD cA cV cZ gD ZD aw Yw fK fk eQ aR c6 eh ae fo dG gS bt dy ah aH bT bz gN gF bG Zz eN i4 Yz bI aV bU eE bV cJ d5 iI:Addr}{g1 g2 g3 g4 g5 g6 g7 g8 g9 wm kl rN lW g14 g15 sP g17 g18 g19 zX mY rM g23 uB wu sJ lU rD g29 g30 yb tP oq qK u7 g36 jO oh l7 zM xG rj ql zi jK g46 qU yq g49 l8 q8 g52 sE:FuncData}(X:K.In h)(G:h.Ns mainGlobals mg)(xX:mg "law"=some (.ref fa))
  
  (a1:nS K "_law_pot" (.ref f1)) (F1:AE K "_law_pot" "_law_pot" WB f1 g1)
  (a2:nS K "_law_take" (.ref f2)) (F2:AE K "_law_take" "_law_take" Uj f2 g2)
  (a3:nS K "_law_letters" (.ref f3)) (F3:AE K "_law_letters" "_law_letters" S8 f3 g3)
  (a4:nS K "_law_name" (.ref f4)) (F4:AE K "_law_name" "_law_name" SW f4 g4)
  (a5:nS K "_law_names" (.ref f5)) (F5:AE K "_law_names" "_law_names" Sy f5 g5)
  (a6:nS K "_law_row" (.ref f6)) (F6:AE K "_law_row" "_law_row" XG f6 g6)
  (a7:nS K "_law_some_loop" (.ref f7)) (F7:AE K "_law_some_loop" "_law_some_loop" SH f7 g7)
  (a8:nS K "_law_pair" (.ref f8)) (F8:AE K "_law_pair" "_law_pair" Q8 f8 g8)
  (a9:nS K "_law_turned_loop" (.ref f9)) (F9:AE K "_law_turned_loop" "_law_turned_loop" Wk f9 g9)
  (zO:nS K "_law_is_right_loop" (.ref bx)) (yR:AE K "_law_is_right_loop" "_law_is_right_loop" Mo bx wm)
  (tE:nS K "is_gap" (.ref ZS)) (nV:AE K "is_gap" "is_gap" Tn ZS kl)
  (a12:nS K "is_coming" (.ref aj)) (F12:AE K "is_coming" "is_coming" RE aj rN)
  (vx:nS K "is_loop" (.ref cB)) (vZ:AE K "is_loop" "is_loop" SD cB lW)
  (rX:nS K "check_loop" (.ref cP)) (tL:AE K "check_loop" "check_loop" SK cP g14)
  (a15:nS K "check_pair" (.ref dD)) (sS:AE K "check_pair" "check_pair" WO dD g15)
  (a16:nS K "are_twins" (.ref cA)) (wL:AE K "are_twins" "are_twins" Ud cA sP)
  (jt:nS K "fresh_names" (.ref cV)) (F17:AE K "fresh_names" "fresh_names" LK cV g17)
  (qr:nS K "things_to_come" (.ref cZ)) (F18:AE K "things_to_come" "things_to_come" QD cZ g18)
  (lu:nS K "place_of" (.ref gD)) (jz:AE K "place_of" "place_of" Vr gD g19)
  (y3:nS K "trial_by_turns" (.ref ZD)) (F20:AE K "trial_by_turns" "trial_by_turns" Rn ZD zX)
  (rT:nS K "trial_by_gap" (.ref aw)) (mM:AE K "trial_by_gap" "trial_by_gap" X1 aw mY)
  (jf:nS K "takes_of" (.ref Yw)) (vR:AE K "takes_of" "takes_of" QY Yw rM)
  (a23:nS K "trial_by_coming" (.ref fK)) (uk:AE K "trial_by_coming" "trial_by_coming" OY fK g23)
  (xO:nS K "rest" (.ref fk)) (yP:AE K "rest" "rest" Tc fk uB)
  (l5:nS K "coming_without" (.ref eQ)) (uv:AE K "coming_without" "coming_without" QF eQ wu)
  (zo:nS K "loop_telling" (.ref aR)) (zE:AE K "loop_telling" "loop_telling" Rf aR sJ)
  (a27:nS K "step" (.ref c6)) (uf:AE K "step" "step" TX c6 lU)
  (qL:nS K "is_name" (.ref eh)) (mR:AE K "is_name" "is_name" QV eh rD)
  (kB:nS K "check_put" (.ref ae)) (zm:AE K "check_put" "check_put" UT ae g29)
  (mz:nS K "check_move" (.ref fo)) (x5:AE K "check_move" "check_move" Ss fo g30)
  (nA:nS K "check_turn" (.ref dG)) (kU:AE K "check_turn" "check_turn" Tp dG yb)
  (p5:nS K "check_deed" (.ref gS)) (ji:AE K "check_deed" "check_deed" Vy gS tP)
  (jS:nS K "row_turned" (.ref bt)) (tW:AE K "row_turned" "row_turned" T4 bt oq)
  (qX:nS K "row_with" (.ref dy)) (wO:AE K "row_with" "row_with" X8 dy qK)
  (pL:nS K "row_without" (.ref ah)) (vo:AE K "row_without" "row_without" Qa ah u7)
  (jQ:nS K "done" (.ref aH)) (vF:AE K "done" "done" WZ aH g36)
  (a37:nS K "gap_behind_put" (.ref bT)) (pG:AE K "gap_behind_put" "gap_behind_put" U6 bT jO)
  (yY:nS K "gap_behind_take" (.ref bz)) (oa:AE K "gap_behind_take" "gap_behind_take" T7 bz oh)
  (uM:nS K "gap_led" (.ref gN)) (z6:AE K "gap_led" "gap_led" XM gN l7)
  (wZ:nS K "joins" (.ref gF)) (yH:AE K "joins" "joins" UX gF zM)
  (vj:nS K "coming_behind" (.ref bG)) (kS:AE K "coming_behind" "coming_behind" Vj bG xG)
  (xw:nS K "loop_led" (.ref Zz)) (yh:AE K "loop_led" "loop_led" UQ Zz rj)
  (vD:nS K "told_in" (.ref eN)) (nC:AE K "told_in" "told_in" Um eN ql)
  (xP:nS K "trial_by_rule" (.ref i4)) (oQ:AE K "trial_by_rule" "trial_by_rule" S9 i4 zi)
  (kd:nS K "trial_of" (.ref Yz)) (jk:AE K "trial_of" "trial_of" U2 Yz jK)
  (kg:nS K "parted" (.ref bI)) (rV:AE K "parted" "parted" UG bI g46)
  (a47:nS K "part_at_last" (.ref aV)) (jP:AE K "part_at_last" "part_at_last" UD aV qU)
  (tG:nS K "trial_judged" (.ref bU)) (vW:AE K "trial_judged" "trial_judged" XW bU yq)
  (va:nS K "_law_asked" (.ref eE)) (ud:AE K "_law_asked" "_law_asked" TC eE g49)
  (a50:nS K "_law_alone" (.ref bV)) (nr:AE K "_law_alone" "_law_alone" Ro bV l8)
  (lS:nS K "_law_twins" (.ref cJ)) (su:AE K "_law_twins" "_law_twins" Vv cJ q8)
  (nM:nS K "_law_right" (.ref d5)) (wC:AE K "_law_right" "_law_right" VL d5 g52)
  (dN:nS K "law" (.ref iI)) (fF:AE K "law" "law" Lj iI sE)
  (qt:nN K "ValueError")
  (ZBs:nN K "all")
  (uR:nN K "any")
  (vU:nN K "isinstance")
  (km:nN K "len")
  (ZBB:nN K "list")
  (zx:nN K "max")
  (t7:nN K "min")
  (oY:nN K "range")
  (pQ:nN K "reversed")
  (ZAl:nN K "set")
  (ZBj:nN K "sorted")
  (ZC8:nN K "tuple")
  (ZBE:nS K "LETTERS" (.str "abcdefghijklmnopqrstuvwxyz" O3))
  (we:nS K "MOST_ENTRIES" (.int 100 T8))
  (xj:nS K "MOST_LETTERS" (.int 8 Vw))
  (yN:nS K "MOST_THINGS" (.int 40 Ww))
  (oo:nS K "MOST_THINGS_TRIED" (.int 37 Vx))
  (vL:nS K "RULES" (.ref JQ))
  {pR:Nat}{pK r8 wJ:Tok}(ze:K.lookup JQ=some ⟨.type "tuple", p9,.seq #[.str "none" pK,.str "ahead" r8,.str "all" wJ] pR,oX⟩)
  (ZB0:nS K "STEP" (.ref B3))
  {pk:Nat}(vf:K.lookup B3=some ⟨.type "tuple", jD,.seq #[.str "step" o8] pk,ZAI⟩)
  (kP:nS K "Endless" (.ref Du))
  (uc:nS K "Full" (.ref AD))
  (ZAH:nS K "Gone" (.ref AF))
  (ml:nS K "NoLog" (.ref E4))
  (mD:nS K "NoLoop" (.ref Ab))
  (nD:nS K "NoName" (.ref AL))
  (oB:nS K "NoOrders" (.ref Dk))
  (ZCX:nS K "NoPlace" (.ref AH))
  (pd:nS K "NoRow" (.ref E7))
  (pB:nS K "NoRule" (.ref Dn))
  (kJ:nS K "NoText" (.ref Dv))
  (pX:nS K "NoTicket" (.ref Dr))
  (xu:nS K "NoWhere" (.ref E8))
  (ZBc:nS K "Stale" (.ref Dw))
  (o7:nS K "StirError" (.ref Bk))
  (ra:nS K "There" (.ref AM))
  (ZAM:nS K "TooMany" (.ref Dl))
  (R8:PySem.W.specialIn K (.ref Bk) "__getattribute__"=some (some (.builtin "type.__getattribute__")))
  (Po:PySem.W.readsIn K Bk (.type "type")=true)
  (Pg:PySem.W.findCls K (.ref Bk) (.type "type") "__init__"=some (.val (.builtin "ValueError.__init__")))
  (LO:EL K AD none=true)
  (ZDq:PySem.W.findIn K (.ref AF) "__init__"=some (some (.ref Ox))) (cQ:AE K "__init__" "Gone.__init__" Xh Ox mi)
  (ym:EL K AF (some (.ref Ox))=true)
  (zr:PySem.W.findIn K (.ref AF) "__setattr__"=some (some (.builtin "object.__setattr__")))
  (wY:Kg K AF=true)
  (lH:PySem.W.takerIn K AF "name"=some none)
  (ZAU:PySem.W.hasDictIn K AF=true)
  (z5:PySem.W.isFn K (.ref Ox)=true)
  (qo:PySem.W.keepIn K (.ref AF)=true)
  (Vk:EL K Ab none=true)
  (ZDy:PySem.W.findIn K (.ref AL) "__init__"=some (some (.ref Qd))) (fj:AE K "__init__" "NoName.__init__" U0 Qd zq)
  (wa:EL K AL (some (.ref Qd))=true)
  (jh:PySem.W.findIn K (.ref AL) "__setattr__"=some (some (.builtin "object.__setattr__")))
  (mS:Kg K AL=true)
  (wH:PySem.W.takerIn K AL "name"=some none)
  (zd:PySem.W.hasDictIn K AL=true)
  (rA:PySem.W.isFn K (.ref Qd)=true)
  (y2:PySem.W.keepIn K (.ref AL)=true)
  (ZDr:PySem.W.findIn K (.ref AH) "__init__"=some (some (.ref Q5))) (fu:AE K "__init__" "NoPlace.__init__" Uw Q5 lK)
  (uE:EL K AH (some (.ref Q5))=true)
  (vM:PySem.W.findIn K (.ref AH) "__setattr__"=some (some (.builtin "object.__setattr__")))
  (ZBl:Kg K AH=true)
  (v8:PySem.W.takerIn K AH "at"=some none)
  (pb:PySem.W.hasDictIn K AH=true)
  (ZB3:PySem.W.isFn K (.ref Q5)=true)
  (yQ:PySem.W.keepIn K (.ref AH)=true)
  (ZDk:PySem.W.findIn K (.ref AM) "__init__"=some (some (.ref Q4))) (gm:AE K "__init__" "There.__init__" Sh Q4 k4)
  (uS:EL K AM (some (.ref Q4))=true)
  (ZAj:PySem.W.findIn K (.ref AM) "__setattr__"=some (some (.builtin "object.__setattr__")))
  (yp:Kg K AM=true)
  (yL:PySem.W.takerIn K AM "name"=some none)
  (qC:PySem.W.hasDictIn K AM=true)
  (lP:PySem.W.isFn K (.ref Q4)=true)
  (uA:PySem.W.keepIn K (.ref AM)=true)
  (xo:RA K Bk ⟨AL,AM,AF,AH,AD⟩=true)
  (XR:PySem.W.exmOne K (.ref Ab) (.ref Bk)=some true)
  (UW:PySem.W.exmOne K (.ref AD) (.ref Bk)=some true)
  (Nu:M6 K [AL,AM,AF,AH,Dn,E4,Dw,E8,Dv,AD,Dl,Ab,Dr,Du,Dk,E7] Bk Ab 11=true)
  (Mz:M6 K [AL,AM,AF,AH,Dn,E4,Dw,E8,Dv,AD,Dl,Ab,Dr,Du,Dk,E7] Bk AD 9=true)
  : ∃fd:FuncData,(∀(s:Shared)(v:Value),BindsTo s fd ⟨[v],[]⟩ [("script", v)])/\∀Zp:Heap,K.In Zp->Zp.Ns mainGlobals mg->Cv l.prog w K mg Zp FJ 13 fa fd ["script"] (OI K):=by
 have e:=xX.symm.trans (Ag X G dN);cases e;have V5:=Gk X G qt;have IF:=Gk X G ZBs;have X0:=Gk X G uR;have D6:=Gk X G vU;have Ar:=Gk X G km;have DT:=Gk X G ZBB;have SV:=Gk X G zx;have Ly:=Gk X G t7;have IW:=Gk X G oY;have TF:=Gk X G pQ;have Kl:=Gk X G ZAl;have De:=Gk X G ZBj;have Ed:=Gk X G ZC8;have Jx:=Ag X G ZBE;have Xx:=Ag X G we;have XN:=Ag X G xj;have UL:=Ag X G yN;have Td:=Ag X G oo;have Vp:=Ag X G vL;have Ur:∀H,Al K H JQ [.str "none",.str "ahead",.str "all"]:=λH=>.inr ⟨_,_,_,ze,rfl,rfl,(by show 3<=sizeLine;decide +kernel),(.cons ⟨_,rfl⟩ (.cons ⟨_,rfl⟩ (.cons ⟨_,rfl⟩ .nil)))⟩;have D8:=Ag X G ZB0;have DS:∀H,Al K H B3 [.str "step"]:=λH=>.inr ⟨_,_,_,vf,rfl,rfl,(by show 1<=sizeLine;decide +kernel),(.cons ⟨_,rfl⟩ .nil)⟩;have WH:=Ag X G kP;have IS:=Ag X G uc;have Le:=Ag X G ZAH;have S6:=Ag X G ml;have Ln:=Ag X G mD;have MH:=Ag X G nD;have U1:=Ag X G oB;have Fw:=Ag X G ZCX;have TQ:=Ag X G pd;have Wj:=Ag X G pB;have X5:=Ag X G kJ;have Wf:=Ag X G pX;have Rb:=Ag X G xu;have VN:=Ag X G ZBc;have Fu:=Ag X G o7;have La:=Ag X G ra;have VF:=Ag X G ZAM;obtain⟨_,_,kV,dc,pm,an,cd,ct,_,rfl,_,_⟩:=id fF.ex;refine⟨PySem.W.fnOf "law" "law" (Mm Lj) (JT Lj) (AY Lj) .none kV dc pm an cd ct,λs v=>.of_eq rfl,λZp _ _=>?_⟩;have W3:=jJ (P:=l.prog) (w:=w) (Zp:=Zp) cQ (cQ.binds (ps:=["self","name"]) (by walk_at "bD2")) ⟨ym,zr,wY,lH,ZAU,z5,qo⟩ ⟨R8,Po,Pg,rfl⟩ Fu
 have To:=lG (P:=l.prog) (w:=w) (Zp:=Zp) fj (fj.binds (ps:=["self","name"]) (by walk_at "bD2")) ⟨wa,jh,mS,wH,zd,rA,y2⟩ ⟨R8,Po,Pg,rfl⟩ Fu
 have Hh:=zL (P:=l.prog) (w:=w) (Zp:=Zp) fu (fu.binds (ps:=["self","at"]) (by walk_at "bD2")) ⟨uE,vM,ZBl,v8,pb,ZB3,yQ⟩ ⟨R8,Po,Pg,rfl⟩ Fu
 have W2:=vm (P:=l.prog) (w:=w) (Zp:=Zp) gm (gm.binds (ps:=["self","name"]) (by walk_at "bD2")) ⟨uS,ZAj,yp,yL,qC,lP,uA⟩ ⟨R8,Po,Pg,rfl⟩ Fu
 have SG:=yG (P:=l.prog) (w:=w) (Zp:=Zp) Ar F1 (Ag X G a1);have BU:=ky (P:=l.prog) (w:=w) (Zp:=Zp) F2 (Ag X G a2);have Me:=nO (P:=l.prog) (w:=w) (Zp:=Zp) F3 (Ag X G a3);have KY:=ZAg Ar Me BU F4 (Ag X G a4);have Ld:=xr KY IW F5 (Ag X G a5);have Su:=ZBK BU Ld F6 (Ag X G a6);have PC:=jH Ar BU De Ed F7 (Ag X G a7);have Uv:=yc Ar BU De Ed PC F8 (Ag X G a8);have Qz:=zy Ar BU KY De Ed DT F9 (Ag X G a9);have Pp:=kr (P:=l.prog) (w:=w) (Zp:=Zp) Ar IW IF X0 yR (Ag X G zO);have Wr:=lI (P:=l.prog) (w:=w) (Zp:=Zp) Ar nV (Ag X G tE);have UP:=vB (P:=l.prog) (w:=w) (Zp:=Zp) De DT IF Kl F12 (Ag X G a12);have TB:=ZB9 UP Wr Vp Ur vZ (Ag X G vx);have KU:=wx (Ab:=Ab) TB Ln Vk tL (Ag X G rX);have LC:=za (AD:=AD) (Ab:=Ab) Ar KU Td IS LO sS (Ag X G a15);have WM:=lR (P:=l.prog) (w:=w) (Zp:=Zp) Ar wL (Ag X G a16);have Ls:=ot (P:=l.prog) (w:=w) (Zp:=Zp) Jx F17 (Ag X G jt);have KJ:=sY (P:=l.prog) (w:=w) (Zp:=Zp) F18 (Ag X G qr);have Dj:=uW (AF:=AF) Le W3 jz (Ag X G lu);have VW:=ZA4 (AF:=AF) Ar Dj KJ SV Ly D8 DS F20 (Ag X G y3);have T5:=ZCS Ar Ly D8 DS Ls VW mM (Ag X G rT);have Ks:=wN (P:=l.prog) (w:=w) (Zp:=Zp) vR (Ag X G jf);have VM:=vh De Kl D8 DS Ks uk (Ag X G a23);have Y1:=xn (Ab:=Ab) KU KJ yP (Ag X G xO);have Lm:=kX (P:=l.prog) (w:=w) (Zp:=Zp) Ed uv (Ag X G l5);have X9:=oM Dj Lm zE (Ag X G zo);have Ta:=oO (Ab:=Ab) X9 Y1 uf (Ag X G a27);have Tt:=zu (P:=l.prog) (w:=w) (Zp:=Zp) Ar IF Jx XN mR (Ag X G qL);have UH:=wc (AD:=AD) (AF:=AF) (AL:=AL) (AH:=AH) (AM:=AM) Ar IS LO Tt UL MH To Fw Hh La W2 zm (Ag X G kB);have Ts:=ZAw (AD:=AD) (AF:=AF) (AL:=AL) (AH:=AH) (AM:=AM) Ar Dj Fw Hh x5 (Ag X G mz);have Sz:=ZAE (AD:=AD) (AF:=AF) (AL:=AL) (AH:=AH) (AM:=AM) Ar Fw Hh kU (Ag X G nA);have Xd:=yA (AD:=AD) (AF:=AF) (AL:=AL) (AH:=AH) (AM:=AM) Dj Ts UH Sz ji (Ag X G p5);have VX:=yf (P:=l.prog) (w:=w) (Zp:=Zp) DT TF tW (Ag X G jS);have OS:=ZBt (P:=l.prog) (w:=w) (Zp:=Zp) DT wO (Ag X G qX);have Oj:=zc (P:=l.prog) (w:=w) (Zp:=Zp) vo (Ag X G pL);have Ra:=nI (AD:=AD) (AF:=AF) (AL:=AL) (AH:=AH) (AM:=AM) Xd VX OS Oj vF (Ag X G jQ);have PR:=v7 (P:=l.prog) (w:=w) (Zp:=Zp) pG (Ag X G a37);have QM:=rF (P:=l.prog) (w:=w) (Zp:=Zp) oa (Ag X G yY);have Vi:=ZAK Dj PR QM z6 (Ag X G uM);have WV:=ZA9 (P:=l.prog) (w:=w) (Zp:=Zp) yH (Ag X G wZ)
 have RZ:=nc De Ed Lm WV kS (Ag X G vj);have Rj:=uo RZ Vi yh (Ag X G xw);have GV:=nZ (AD:=AD) (AF:=AF) (Ab:=Ab) (AL:=AL) (AH:=AH) (AM:=AM) D8 DS Ra Rj Ta nC (Ag X G vD);have X7:=xJ (AD:=AD) (AF:=AF) (AL:=AL) (AH:=AH) (AM:=AM) Ar D8 DS Ls Ks GV oQ (Ag X G xP);have WE:=mH (AD:=AD) (AF:=AF) (AL:=AL) (AH:=AH) (AM:=AM) VM T5 X7 jk (Ag X G kd);have TR:=k9 (AD:=AD) (AF:=AF) (Ab:=Ab) (AL:=AL) (AH:=AH) (AM:=AM) GV WM LC WE rV (Ag X G kg);have T1:=o9 (P:=l.prog) (w:=w) (Zp:=Zp) jP (Ag X G a47);have Ve:=ux (AD:=AD) (AF:=AF) (Ab:=Ab) (AL:=AL) (AH:=AH) (Bk:=Bk) (AM:=AM) Ar D8 DS GV LC T1 Xx Fu xo vW (Ag X G tG);have WS:=yO (AD:=AD) (Ab:=Ab) (Bk:=Bk) Fu TR Ve XR UW ud (Ag X G va);have RH:=rW (P:=l.prog) (w:=w) (Zp:=Zp) (Du:=Du) (AD:=AD) (AF:=AF) (E4:=E4) (Ab:=Ab) (AL:=AL) (Dk:=Dk) (AH:=AH) (E7:=E7) (Dn:=Dn) (Dv:=Dv) (Dr:=Dr) (E8:=E8) (Dw:=Dw) (Bk:=Bk) (AM:=AM) (Dl:=Dl) Ln IS Le MH Fw La Fu V5 D6 WH S6 U1 TQ Wj X5 Wf Rb VN VF nr (Ag X G a50);have U4:=ou (P:=l.prog) (w:=w) (Zp:=Zp) Ar su (Ag X G lS);have Lk:=zw (Du:=Du) (AD:=AD) (AF:=AF) (E4:=E4) (Ab:=Ab) (AL:=AL) (Dk:=Dk) (AH:=AH) (E7:=E7) (Dn:=Dn) (Dv:=Dv) (Dr:=Dr) (E8:=E8) (Dw:=Dw) (Bk:=Bk) (AM:=AM) (Dl:=Dl) Ar RH WS Pp U4 Nu Mz wC (Ag X G nM);exact zb BU IW Ld DT Uv SG Lk Su Qz fF (Ag X G dN)
def walk{q:Program}{loose:List Str}{XP:(ZE9)->Heap->Prop}{YP:World->Heap->Prop}{d:DefRec}{K:Params->ZE7}(hn:l.most=some 63)(OA:d.params.defaults=[])
  (hY:∀(w:World)(h:Heap),YP w h->(K w.params).In h)
  (F:∀(w:World)(mg:ZE9)(fa:Addr)(h:Heap),(K w.params).In h->h.Ns mainGlobals mg->mg d.name=some (.ref fa)->
   ∃fd:FuncData,(∀(s:Shared)(u:Value),BindsTo s fd ⟨[u],[]⟩ [("script", u)])/\∀Zp:Heap,(K w.params).In Zp->Zp.Ns mainGlobals mg->Cv l.prog w (K w.params) mg Zp FJ 13 fa fd ["script"] (OI (K w.params))) :
  PySem.W.WalkO q loose XP YP l.row.toRowW d [] (λf vs=>PySem.call f vs):=
 L2.yI (n:=63) (k:=13) (x:="script") (CX:=λ_=>FJ) (sp:=λw=>OI (K w.params)) hn (by decide) OA ⟨rfl,by decide,by decide⟩ hY F (λ_ _ a ns hl _ hS=>⟨a,ns,rfl,hS,hl,λ_=>rfl⟩) λ_ _ _ _ _ z=>z
end Pf
open PySem.W
local macro_rules | `(tactic| walk_at "kF")=>`(tactic| (refine' L2.qY ?_ ?_ ?_;all_goals try k_is;all_goals k_is))
set_option maxRecDepth 100000 in
set_option maxHeartbeats 0 in
theorem PySem.Challenge.cw_stirround_k54_trials_refused_holds : PySem.Challenge.rw_stirround_k54_trials_refused.Holds := by
 w_on;o_law;k_head;(case hw=>w_witness2)
 k_fill
 refine Pf.walk (l:=PySem.Challenge.rw_stirround_k54_trials_refused) rfl rfl (λw h Y=>PySem.W.kIn_of Y) ?F
 case F=>
  intro w mg fa h KX G Nv;refine' Pf.all_mk KX G Nv ?_ ?_ ?_ ?_ ?_ ?_ ?_ ?_ ?_ ?_ ?_ ?_ ?_ ?_ ?_ ?_ ?_ ?_ ?_ ?_ ?_ ?_ ?_ ?_ ?_ ?_ ?_ ?_ ?_ ?_ ?_ ?_ ?_ ?_ ?_ ?_ ?_ ?_ ?_ ?_ ?_ ?_ ?_ ?_ ?_ ?_ ?_ ?_ ?_ ?_ ?_ ?_ ?_ ?_ ?_ ?_ ?_ ?_ ?_ ?_ ?_ ?_ ?_ ?_ ?_ ?_ ?_ ?_ ?_ ?_ ?_ ?_ ?_ ?_ ?_ ?_ ?_ ?_ ?_ ?_ ?_ ?_ ?_ ?_ ?_ ?_ ?_ ?_ ?_ ?_ ?_ ?_ ?_ ?_ ?_ ?_ ?_ ?_ ?_ ?_ ?_ ?_ ?_ ?_ ?_ ?_ ?_ ?_ ?_ ?_ ?_ ?_ ?_ ?_ ?_ ?_ ?_ ?_ ?_ ?_ ?_ ?_ ?_ ?_ ?_ ?_ ?_ ?_ ?_ ?_ ?_ ?_ ?_ ?_ ?_ ?_ ?_ ?_ ?_ ?_ ?_ ?_ ?_ ?_ ?_ ?_ ?_ ?_ ?_ ?_ ?_ ?_ ?_ ?_ ?_ ?_ ?_ ?_ ?_ ?_ ?_ ?_ ?_ ?_ ?_ ?_ ?_ ?_ ?_ ?_ ?_ ?_ ?_ ?_ ?_ ?_ ?_ ?_ ?_ ?_ ?_ ?_ ?_ ?_ ?_ ?_ ?_ ?_ ?_ ?_ ?_
  any_goals first|k_is|(show _=_;k_is)|kernel_rfl|walk_at "kF"
#print axioms PySem.Challenge.cw_stirround_k54_trials_refused_holds
