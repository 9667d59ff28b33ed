import PyProof.Rows.All
import Wide.All
import OpenK.AllK
import Wide.FinOn
import Lean
import PyProof.EqAt
import PyProof.EqKinds
import PyProof.TupleCall
import KE.KRevIter
import PyProof.CallType
import PyProof.EnumMake
import PyProof.EnumFor
import PyProof.Rows.SortStr
import PyProof.Draws
import PyProof.TupleIter
import PyProof.ZipIter
import PyProof.Rows.ZipGen
import PyProof.Rows.TupAdd
import KE.KLcPair
import PyProof.IsRules
import PyProof.ListRange
import PyProof.NeKinds
import KE.KTryMore
import OpenK.KOwn
import PyProof.ExcInit
import PyProof.FString
import PyProof.ReprStr
import PyProof.StrLawsRepr
import PyProof.CallStr
import OpenK.KCls
import PyProof.ExcArgsOwn
import PyProof.Rows.StrJoin2
import PyProof.FactsAll.set_2
import PyProof.MeetsSeq2
import PyProof.Rows.Range3
import PyProof.Rows.ChunkLeaf
import PyProof.DictWalks
import PyProof.ListMulRoad
import PyProof.ListCopy
import PyProof.Rows.CallKwBuiltin
import PyProof.StrBlockH
import KE.KIntText
import PyProof.Rows.TupIter
import KE.IntTextText
import PyProof.StrLawsTight
import PyProof.Rows.StrIntSpec
import PySem.Challenge.RW_stirround_k92_logs_read
set_option linter.all false
set_option compiler.extract_closed false
set_option bootstrap.genMatcherCode false
def fq:=@PySem.wpAny_bind
def fv:=@PySem.wpAny_pure
def gP:=@of_decide_eq_true
def gS:=@decide_eq_true
def hZ:=@if_neg
def i6:=@if_pos
def i9:=@PySem.wpAny_mono
def iK:=@congrArg
def iM:=@PySem.wpAny_field
def iZ:=@PySem.wpAny_holding
def ia:=@PySem.wpAny_seqItems
def iz:=@PySem.wpAny_setField_rec
def j5:=@decide_eq_false
def jF:=@PySem.wpAny_callSpecial?_slot
def jN:=@PySem.wpAny_truthy_bool
def jR:=@beq_self_eq_true
def jU:=@PySem.wpAny_pyIter_list
def jZ:=@PySem.wpAny_Call_Name_kw
def ja:=@PySem.wpAny_call_entry
def jr:=@PySem.wpAny_updateSeq_pair
def k9:=@PySem.codeAny_call_builtin
def kz:=@decide_eq_true_eq
def m8:=@PySem.wpAny_onRaise
def m9:=@or_false
def mV:=@PySem.wpAny_passesOwn
def my:=@PySem.codeAny_mono
def nj:=@PySem.wpAny_standAt
def nk:=@PySem.wpAny_rule
def o9:=@PySem.wpAny_attempt
def pA:=@PySem.wpAny_newObj_type
def pd:=@PySem.wpAny_loadPart_at
def qh:=@PySem.wpAny_call
def qm:=@PySem.call_meets
def rE:=@PySem.lookup_relabel_local
def rV:=@PySem.wpAny_comprehension_free
def sL:=@PySem.wpAny_specialOf
def sU:=@PySem.wpAny_execs_nil
def sh:=@PySem.wpAny_letGo
def uC:=@PySem.wpAny_setField
def uD:=@PySem.wpAny_storeSet_of
def uW:=@PySem.fits_of_scanBound
def vK:=@PySem.wpAny_nextOf_list_end
def vM:=@PySem.wpAny_pyIter_zip
def vh:=@if_true
def wu:=@PySem.codeAny_builtin
def xQ:=@ne_true_of_eq_false
def xt:=@PySem.typeIs_str
def xv:=@PySem.wpAny_pyIter_tuple
def y4:=@PySem.wpAny_letOwnedTupleGo_zip
def ZA4:=@if_false
def ZA5:=@PySem.wpAny_isInstance
def ZA9:=@decide_eq_false_iff_not
def ZAA:=@beq_iff_eq
def ZAB:=@PySem.codeAny_of_tree
def ZAC:=@PySem.wpAny_of_eq
def ZAD:=@PySem.wpAny_listPart
def ZAE:=@PySem.isSubtype_stop
def AH:=@List.length_map
def AX:=@PySem.Heap.lt_size
def AZ:=@Nat.le_refl
def Af:=@PySem.W.mg_of
def Ao:=@PySem.Heap.get?_push_of_some
def Aw:=@List.getElem?_eq_getElem
def Ax:=@Nat.le_trans
def B3:=@List.getElem?_map
def B4:=@Option.some.inj
def B6:=@List.length_cons
def BE:=@PySem.Heap.get?_push_size
def BS:=@Ne.symm
def BZ:=@Nat.ne_of_lt
def Bg:=@List.not_mem_nil
def Bh:=@List.size_toArray
def Bt:=@Bool.false_ne_true
def By:=@List.mem_cons_of_mem
def C4:=@Nat.lt_of_lt_of_le
def CK:=@Array.length_toList
def CL:=@List.map_map
def Cm:=@List.length_append
def Cn:=@List.map_cons
def DJ:=@List.mem_of_getElem?
def DT:=@Bool.and_eq_true
def DU:=@List.mem_append_right
def DV:=@Nat.zero_le
def Dm:=@PySem.Heap.size_push
def Dn:=@List.mem_cons
def E7:=@List.getElem?_set_ne
def ER:=@List.getElem?_set_self
def El:=@Bool.true_and
def Em:=@List.length_take
def En:=@List.map_append
def Eo:=@PySem.W.mg_none_of
def FH:=@List.mem_cons_self
def FI:=@PySem.F.plainAttrs_str
def Fm:=@List.getElem?_append_left
def Fo:=@Nat.ne_of_gt
def GO:=@Int.toNat_natCast
def GP:=@List.find?_cons
def GQ:=@Nat.le_succ
def GR:=@PySem.W.kia_one
def Gz:=@List.getElem_mem
def HA:=@List.lookup_cons
def Ht:=@PySem.Heap.get?_update_other
def Hu:=@List.append_nil
def Hv:=@List.length_set
def Hw:=@List.replicate_succ
def Hx:=@Nat.le_add_right
def JG:=@Int.lt_of_le_of_lt
def JH:=@List.all_eq_true
def JI:=@List.append_assoc
def JJ:=@List.cons.inj
def JK:=@List.getElem?_append_right
def JL:=@List.take_length
def JM:=@PySem.F.plainAttrs_list
def KZ:=@PySem.F.slot_zip_next
def Ka:=@Int.emod_lt_of_pos
def Kb:=@Int.emod_nonneg
def Kc:=@List.getElem?_zipWith
def Kd:=@List.length_drop
def Ke:=@List.mem_append_left
def Kf:=@List.take_of_length_le
def Kg:=@PySem.PassesOwn.never
def Kh:=@PySem.F.slot_str_split
def Ki:=@PySem.F.type_str_split
def Kj:=@PySem.mem_of_lookup
def Lm:=@PySem.Heap.get?_none_of_le
def Ln:=@PySem.Heap.get?_update_self
def Lo:=@List.flatten_cons
def Lp:=@List.getD_eq_getElem?_getD
def Lq:=@List.take_succ_eq_append_getElem
def Lr:=@Nat.lt_of_le_of_lt
def NS:=@Bool.eq_iff_iff
def NT:=@PySem.Heap.SameBut.update
def NU:=@List.all_cons
def NV:=@List.all_map
def NW:=@List.foldl_cons
def NX:=@List.forIn_nil
def NY:=@List.map_drop
def NZ:=@List.map_take
def Na:=@Nat.lt_irrefl
def Nb:=@Nat.lt_succ_of_lt
def Nc:=@Nat.lt_trans
def Nd:=@PySem.F.slot_str_join
def Nf:=@PySem.F.type_str_join
def QH:=@Array.getElem?_toList
def QJ:=@PySem.Heap.size_after_update
def QK:=@List.any_cons
def QL:=@List.filterMap_cons
def QM:=@List.forIn_cons
def QN:=@List.getElem?_range
def QP:=@List.length_replicate
def QQ:=@List.length_zipWith
def QR:=@List.mem_of_mem_drop
def QU:=@List.mem_of_mem_take
def QV:=@List.reverse_cons
def QX:=@Nat.le_of_not_lt
def QY:=@Nat.le_total
def QZ:=@Nat.min_eq_left
def Qa:=@Nat.min_eq_right
def Qb:=@Nat.succ.inj
def Qc:=@PySem.Obj.data_mapFields
def Qd:=@Option.map_some
def Qe:=@Option.some.injEq
def Qf:=@PyProof.Rows.callWith_type1
def Qg:=@PySem.Str.length_append
def Qh:=@PySem.StrLaws.glued_eq_join
def WX:=@Bool.and_false
def WY:=@Bool.or_eq_true
def WZ:=@PySem.Code.quiet_builtin
def Wb:=@PySem.Draws.list
def Wc:=@PySem.F.args_zip_next_1
def Wd:=@PySem.F.entry_zip_next
def Wf:=@PySem.F.slot_tuple_iterator_next
def Wh:=@List.drop_nil
def Wj:=@List.drop_zero
def Wk:=@List.length_nil
def Wl:=@List.take_nil
def Wm:=@List.zipIdx_cons
def Wr:=@List.zipIdx_nil
def Wu:=@List.zipWith_cons_cons
def Wv:=@Nat.le_of_lt
def Ww:=@Option.bind_some
def Wx:=@PySem.F.slot_list_append
def Wy:=@PySem.F.slot_list_insert
def X0:=@PySem.F.type_list_append
def eR:=@PySem.Around.in1_handled
def eS:=@Bool.false_and
def eU:=@Bool.false_or
def eV:=@Bool.not_eq_true'
def eW:=@PySem.F.args_str_split_2
def eX:=@PySem.F.entry_str_split
def eY:=@PySem.F.slot_str_split
def eZ:=@PySem.Heap.SameBut.refl
def eh:=@Int.lt_trans
def ez:=@Int.toNat_of_nonneg
def fA:=@List.eraseIdx_eq_take_drop_succ
def fB:=@List.ext_getElem?
def fD:=@List.filter_append
def fE:=@List.getElem?_eq_none
def fF:=@List.getElem?_replicate
def fG:=@List.length_filter_le
def fH:=@List.length_range
def fJ:=@List.length_singleton
def fK:=@List.mem_append
def fL:=@List.of_mem_zip
def fM:=@Nat.add_mul
def fN:=@Nat.le_of_eq
def fO:=@Nat.le_of_lt_succ
def fP:=@Nat.log2_lt
def fQ:=@Nat.mul_le_mul_right
def fR:=@Nat.not_lt_zero
def fS:=@Nat.sub_zero
def fT:=@PySem.Obj.isFreed_of_fields
def fU:=@Option.getD_none
def fV:=@PyProof.Rows.F.plain_set_update_loop
def fW:=@PySem.F.type_list_insert
def fX:=@PySem.W.callWith_K
def fY:=@PySem.W.looks_findIn
def fZ:=@Sum.inr.inj
def zE:=@Array.find?_toList
def zF:=@Array.getElem?_eq_getElem
def zG:=@Array.toList_push
def zH:=@Bool.false_eq_true
def zI:=@PySem.Calls.Name_function_global
def zJ:=@PySem.Calls.callWith_builtin
def zK:=@PySem.F.args_tuple_iterator_next_1
def zL:=@PySem.F.entry_tuple_iterator_next
def zM:=@Int.eq_ofNat_of_zero_le
def zN:=@Int.natAbs_natCast
def zO:=@Int.natCast_nonneg
def zP:=@List.Pairwise.imp
def zQ:=@List.Pairwise.sublist
def zR:=@List.contains_cons
def zS:=@List.countP_cons
def zT:=@List.drop_length
def zU:=@List.filter_cons
def zV:=@List.getElem?_cons_succ
def zW:=@List.getElem_drop
def zX:=@List.getElem_inj
def zY:=@List.length_erase_of_mem
def zZ:=@List.length_pos_of_mem
def za:=@List.mem_erase_of_ne
def zc:=@List.pairwise_lt_range
def zd:=@List.take_append_drop
def ze:=@List.take_sublist
def zf:=@Nat.lt_succ_self
def zg:=@Nat.not_lt_of_le
def zh:=@Nat.succ_le_succ
def zi:=@Option.isSome_map
def zj:=@Option.isSome_some
def zk:=@PyProof.Rows.F.entry_set_update_loop
def zm:=@PySem.F.excBase_ValueError
def zo:=@PySem.W.KIN.val_back
def zp:=@PySem.W.any_some
def zq:=@PySem.W.cellsFrom_some
def zr:=@PySem.W.handedOut_of
def zt:=@PySem.W.kitx_dict
def zu:=@PySem.W.kitx_list
def zw:=@PySem.W.looks_clsIn
def zx:=@PySem.W.looks_find
def zy:=@PySem.W.looks_mroIn
def ZA0:=@PySem.ofString_length
def ZA1:=@PySem.SeqAt.RcNeAt.lists_lengths
def ZA2:=@PySem.StrLaws.partsBetween_eq
open PySem PySem.Spec PyProof.Rows
abbrev ZAe:=PySem.W.Frag
abbrev ZAf:=(List (Addr×Obj))
abbrev ZAg:=(Str->Option Value)
namespace PySem.W.Fast
def tw1682990834195472255:=0
def tw14681508962596285829:=0
def tw3716408196717503194:=0
def tw18008961206748276317:=0
def tw3925525108680059648:=0
def tw11129849282989272826:=0
def tw2575953728055113738:=0
def tw5278868072284906180:=0
def tw18408263336785513464:=0
def tw16043461053069390913:=0
def tw6793448320117091512:=0
def tw9900830039956244800:=0
def tw6434284969919099789:=0
def tw12787366913742301170:=0
def tw4077767099401680386:=0
def tw10895839075187820798:=0
def tw4487229842058300676:=0
def tw8029616780517145047:=0
def tw9097167622819554474:=0
def tw4965495665243338770:=0
def tw16055880935306562121:=0
def tw13734913505854986200:=0
def tw16389046053697935748:=0
def tw15055147947928427308:=0
def tw2386394949112923090:=0
def tw8964959066564420159:=0
def tw12334117273298602637:=0
def tw13542908145031785742:=0
def tw16292688572437772178:=0
def tw11558378139727850791:=0
def tw5044386327205663881:=0
def tw4467263760961936933:=0
def tw3555028341263956875:=0
def tw17399994035749724026:=0
def tw15103038074834564005:=0
def tw8643166647635873553:=0
def tw15818890578695405260:=0
def tw13816781159327110099:=0
def tw15057154371782611400:=0
def tw17641059310628603744:=0
def tw8773075302610458168:=0
def tw7228611808817071872:=0
def tw11485690435179192911:=0
def tw669135391039748059:=0
def tw16141079635864284763:=0
def tw17516434020689087826:=0
def tw11751362811400842258:=0
def tw490187018993922044:=0
def tw13838342373380027226:=0
def tw4788575478517635934:=0
def tw15971325670703214865:=0
def tw14332233027048196934:=0
def tw450284397197748304:=0
def tw11579480774816573435:=0
def tw16346324304890070220:=0
def tw14322581146331185380:=0
def tw2581666387453861479:=0
def tw1353113257303754718:=0
def tw15516570169238344136:=0
def tw17770650194764757184:=0
def tw17861247254074681988:=0
def tw39753902682996099:=0
def tw16775933792690254030:=0
def tw17114721661371756170:=0
def tw11863448894545492472:=0
def tw8771072814050913456:=0
def tw7720465796024734372:=0
def tw1898132368942298015:=0
def tw895229458403756268:=0
def tw17054442922581140381:=0
def tw7030743687289438320:=0
def tw4624703646148009229:=0
def tw11126738200629434398:=0
def tw10298915390513267289:=0
def tw6171391101328344921:=0
def tw11768121832973307152:=0
def tw14201017924518474343:=0
def tw11759977524620260662:=0
def tw3034626842228514884:=0
def tw9615422772621372241:=0
def tw15546606271610313083:=0
def tw11196927157263967696:=0
def tw1919170291804963814:=0
def tw16902781022010996773:=0
def tw11613136897372687872:=0
def tw14907376693240491368:=0
def tw11733000499041979287:=0
def tw3652713848014952857:=0
def tw15166102339886367734:=0
def tw9535893274238558463:=0
def tw2552738130377101160:=0
def tw1314376694652387983:=0
def tw17759735460575902121:=0
def tw5609314497154662825:=0
def tw5715143702581506270:=0
def tw17209489298212780208:=0
def tw7776973388398875676:=0
def tw10340635274056168476:=0
def tw14419099402787356442:=0
def tw12750137372068795037:=0
def tw1803711337121427775:=0
def tw12307014283058716169:=0
def tw13522903106200926404:=0
def tw7106868558289969806:=0
def tw16356762030856073487:=0
def tw10148459205924197179:=0
def tw15916765446014220094:=0
def tw5523797145092769054:=0
def tw7014686095661701451:=0
def tw270084265045283725:=0
def tw2158263812022741819:=0
def tw16213562847808338017:=0
def tw13456776439691775800:=0
def tw3407969237454934600:=0
def tw13520311092377358145:=0
def tw2485683127294990748:=0
def tw12338467279199822817:=0
def tw6238291892297597083:=0
def tw11510675021586877325:=0
def tw418406576885275639:=0
def tw1827064692156770982:=0
def tw9705538629839637914:=0
def tw4330545869945816822:=0
def tw13679509123024075205:=0
def tw11660728406297838761:=0
def tw13017956352595254040:=0
def tw2901536639749337685:=0
def tw16631377710868944955:=0
def tw3181789676567740813:=0
def tw17887385437247088781:=0
def tw11726855601249123337:=0
def tw5358891572536798994:=0
def tw1629622972583127652:=0
def tw11949467033784272232:=0
def tw11876386484858819077:=0
def tw9125234374045470656:=0
end PySem.W.Fast
set_option Elab.async false
set_option maxRecDepth 100000
namespace L2
variable{ds us:List Value}{α κ:Type}{C a b dx it:Addr}{P prog:Program}{w:World}{Zk h':Heap}{c cd u:Value}{name qual x:Str}{e tg:Expr}{Mf Zd:ZAf}{s s':Shared}{g':Array GenState}{i j k n t' tk:Nat}{d':Drawn}{ch fp:List Addr}{N ks ps:List Str}{M:Model}{A:Around}{E Q:Value->Shared->Prop}{op:CmpOp}{es rest:List Expr}{f:Value->Value->Sem Value}{mA mg:ZAg}{kw:List (Str×Value)}{fd:FuncData}{outer:List Env}{sc scope:Scope}
abbrev Key:=Sum Int Str
def Kt:Key->Value->Bool
 | .inl k,v=>Value.isInt k v
 | .inr x,v=>Value.isStrOf x v
def yS(w:World):Key->Int
 | .inl k=>hashInt k
 | .inr x=>hashStr w x
theorem HD:∀{k:Key}{v:Value},Kt k v=true->(∃i t,k=Sum.inl i/\v=Value.int i t)∨(∃x t,k=Sum.inr x/\v=Value.str x t)
 | .inl i,v,h=>by
  obtain⟨t,e⟩:=Value.isInt_shape (k:=i) (v:=v) h;exact .inl ⟨i,t,rfl,e⟩
 | .inr x,v,h=>by
  obtain⟨t,e⟩:=Value.isStrOf_shape (x:=x) (v:=v) h;exact .inr ⟨x,t,rfl,e⟩
theorem zD(i:Int)(t:Tok):Kt (.inl i) (.int i t)=true:=by simp[Kt,Value.isInt]
theorem Sw(x:Str)(t:Tok):Kt (.inr x) (.str x t)=true:=by simp[Kt,Value.isStrOf]
theorem rT(a b:Int):decide ((Sum.inl a:Key)=Sum.inl b)=(a == b):=by
 by_cases e:a=b
 .subst e;simp
 .have h:¬ (Sum.inl a:Key)=Sum.inl b:=λq=>e (Sum.inl.inj q);rw[j5 h];exact(beq_eq_false_iff_ne.mpr e).symm
theorem wI(a b:Str):decide ((Sum.inr a:Key)=Sum.inr b)=decide (a=b):=by
 by_cases e:a=b
 .subst e;simp
 .have h:¬ (Sum.inr a:Key)=Sum.inr b:=λq=>e (fZ q);rw[j5 h,j5 e]
theorem x8(a:Int)(b:Str):decide ((Sum.inl a:Key)=Sum.inr b)=false:=j5 (λq=>nomatch q)
theorem nY(a:Str)(b:Int):decide ((Sum.inr a:Key)=Sum.inl b)=false:=j5 (λq=>nomatch q)
def KL(prog:Program)(w:World):PySem.KeyKind prog w Key where
 is:=Kt
 hash:=yS w
 inj:=λv a b ha d=>by
  rcases HD ha with⟨i,t,rfl,rfl⟩|⟨x,t,rfl,rfl⟩
  .rcases HD d with⟨j,u,rfl,e⟩|⟨y,u,rfl,e⟩
   .injection e with e1 _;rw[e1]
   .exact nomatch e
  .rcases HD d with⟨j,u,rfl,e⟩|⟨y,u,rfl,e⟩
   .exact nomatch e
   .injection e with e1 _;rw[e1]
 byValue:=λk v h=>by
  rcases HD h with⟨i,t,rfl,rfl⟩|⟨x,t,rfl,rfl⟩ <;> rfl
 pyHash:=λc h=>by
  rcases HD c with⟨i,t,rfl,rfl⟩|⟨x,t,rfl,rfl⟩
  .exact wpAny_pyHash_int h
  .exact wpAny_pyHash_str h
 eqBool:=λf c h=>by
  rcases HD f with⟨i,t,rfl,rfl⟩|⟨x,t,rfl,rfl⟩
  .rcases HD c with⟨j,u,rfl,rfl⟩|⟨y,u,rfl,rfl⟩
   .rw[rT]at h;exact wpAny_eqBool_int h
   .rw[x8]at h;exact SeqAt.EqAt.int_str i t y u _ _ _ _ h
  .rcases HD c with⟨j,u,rfl,rfl⟩|⟨y,u,rfl,rfl⟩
   .rw[nY]at h;exact SeqAt.EqAt.str_int x t j u _ _ _ _ h
   .rw[wI]at h;exact wpAny_eqBool_str h
 «strs»:=λk x t v h=>by
  rcases HD h with⟨i,u,rfl,e⟩|⟨y,u,rfl,e⟩
  .exact nomatch e
  .injection e with e1 _
   subst e1;cases v <;> rfl
theorem oO(prog:Program)(w:World)(i:Int)(t:Tok):(KL prog w).is (.inl i) (.int i t)=true:=zD i t
theorem tf(prog:Program)(w:World)(x:Str)(t:Tok):(KL prog w).is (.inr x) (.str x t)=true:=Sw x t
inductive V where
 |A5|bl (b:Bool)|int (i:Int)|str (x:Str)|FQ (b:Array UInt8)|HR (b:UInt64)|ref (a:Addr)|ty (n:String)
 deriving DecidableEq
variable{Hz vs xs:List V}{v:V}
def RelV:V->Value->Prop
 | .A5,u=>u=Value.none
 | .bl b,u=>u=Value.bool b
 | .int i,u=>∃t,u=Value.int i t
 | .str x,u=>∃t,u=Value.str x t
 | .FQ b,u=>∃t,u=Value.bytes b t
 | .HR b,u=>∃t,u=Value.float b t
 | .ref a,u=>u=Value.ref a
 | .ty n,u=>u=Value.type n
abbrev Vals:List V->List Value->Prop:=Paired RelV
theorem Vals.length(r:Vals xs us):xs.length=us.length:=Paired.length r
theorem Vals.get:∀{xs:List V}{us:List Value}{i:Nat}{x:V},Vals xs us->xs[i]?=some x->∃u,us[i]?=some u/\RelV x u
 |_,_,_,_,.nil,e=>by simp at e
 |_,_,0,_,.cons r _,e=>by simp at e;subst e;exact⟨_,rfl,r⟩
 |_,_,i+1,x,.cons _ t,e=>by
  obtain⟨u,h1,h2⟩:=Vals.get (i:=i) (x:=x) t (by simpa using e)
  exact⟨u,by simpa using h1,h2⟩
theorem Vals.set{x:V}{u:Value}(r:RelV x u):∀{xs:List V}{us:List Value}(i:Nat),Vals xs us->Vals (xs.set i x) (us.set i u)
 |_,_,_,.nil=>.nil
 |_,_,0,.cons _ t=>.cons r t
 |_,_,i+1,.cons q t=>.cons q (Vals.set r i t)
theorem Vals.append:∀{xs ys:List V}{us ws:List Value},Vals xs us->Vals ys ws->Vals (xs++ys) (us++ws)
 |_,_,_,_,.nil,s=>s
 |_,_,_,_,.cons r t,s=>.cons r (Vals.append t s)
theorem Vals.take:∀{xs:List V}{us:List Value}(n:Nat),Vals xs us->Vals (xs.take n) (us.take n)
 |_,_,0,_=>.nil
 |_,_,_+1,.nil=>.nil
 |_,_,n+1,.cons r t=>.cons r (Vals.take n t)
theorem Vals.drop:∀{xs:List V}{us:List Value}(n:Nat),Vals xs us->Vals (xs.drop n) (us.drop n)
 |_,_,0,r=>r
 |_,_,_+1,.nil=>.nil
 |_,_,n+1,.cons _ t=>Vals.drop n t
def GA:Option V->Option Value->Prop
 |some v,some u=>RelV v u
 |none,none=>True
 |_,_=>False
def KV:List (κ×V)->List (κ×Value)->Prop:=Paired λ(p:κ×V)(q:κ×Value)=>p.1=q.1/\RelV p.2 q.2
def kV:Key->V
 | .inl i=>.int i
 | .inr x=>.str x
inductive HO where
 /-- a list -/
 |lst (xs:List V)
 /-- a tuple (never changes) -/
 |tup (xs:List V)
 /-- a dict qS keys are ints and texts;one qS keys are tuples of ints and texts (GK empty one is both) -/
 |dK (AA:List (Key×V))|dT (AA:List (List Key×V))
 /-- a set of ints: A2 members,A2 size -/
 |set (S:Int->Bool) (n:Nat)
 /-- an instance of GK class at C,A2 dict at dx,A2 attributes -/
 |ins (C dx:Addr) (fs:List (Str×V))
 /-- GK dict of GK instance at x -/
 |own (x:Addr)
 /-- GK dict of an exception -/
 |xd (fs:List (Str×V))
 /-- a bound method,f of x -/
 |met (f x:Addr)
 /-- a range object lo,lo+1,.. below hi -/
 |Pw (lo hi:Int)
 /-- a iF ZAQ is known to GK object (GK aM;a dict while a loop walks it): read,never written while it is so -/
 |EI (o:Obj) (u:HO)
 /-- a code ZA6 table -/
 |Iv (ps:Array Value)
 /-- any other iF,by qq is true of A2 one object (a def of ZAV own: ID a S n:=HO.ext λh=>..) -/
 |ext (φ:Heap->Prop)
variable{o o':HO}
abbrev Hp:=Addr->Option HO
variable{H H':Hp}
def upd(H:Hp)(a:Addr)(o:HO):Hp:=λb=>if b=a then some o else H b
theorem AY:upd H a o a=some o:=by unfold upd;rw[i6 rfl]
theorem AJ(h:b≠a):upd H a o b=H b:=by unfold upd;rw[hZ h]
theorem Ct(h:H a=some o)(h':H b=none):a≠b:=by
 intro e;subst e;rw[h]at h';cases h'
section
variable(P:Program)(w:World)
def Bz(H:Hp)(h:Heap)(a:Addr):HO->Prop
 | .lst xs=>xs.length<=sizeLine/\∃(A2:List Value)(n:Nat),Vals xs A2/\h.get? a=some { cls:=.type "list", data:=.seq A2.toArray n }
 | .tup xs=>xs.length<=sizeLine/\∃A2:List Value,Vals xs A2/\(IsTup h a A2.toArray/\∀ob,h.get? a=some ob->ob.dict=none)
 | .dK AA=>AA.length<=sizeLine/\(a == sysModules)=false/\∃vs,KV AA vs/\h.DictOf (KL P w) a vs
 | .dT AA=>AA.length<=sizeLine/\(a == sysModules)=false/\∃xs:List (List Key×Addr×Value),
   Paired (λ(p:List Key×V)(q:List Key×Addr×Value)=>p.1=q.1/\H q.2.1=some (.tup (p.1.map kV))/\RelV p.2 q.2.2) AA xs/\
   ∃o es ep,h.get? a=some o/\o.ExactDict/\o.data=.dict es ep/\es.toList=xs.map (entryOfKey (tupleKind (KL P w)))/\(xs.map (·.1)).Nodup
 | .set S n=>h.SetOf (intKind P w) a S n
 | .ins C dx fs=>H dx=some (.own a)/\fs.length<=1000/\dx≠a/\h.get? a=some (PySem.W.instObj C dx)/\
   ∃mA,h.Ns1 dx mA/\(∀f,GA (fs.lookup f) (mA f))/\PySem.Within mA (fs.map (·.1))
 | .own _=>∃o,h.get? a=some o
 | .xd fs=>∃mA,h.Ns1 a mA/\∀f,GA (fs.lookup f) (mA f)
 | .Pw lo hi=>∃t u v,h.get? a=some { cls:=.type "range", data:=.fields #[.int lo t,.int hi u,.int 1 v] }
 | .EI o u=>h.get? a=some o/\Bz H h a u
 | .Iv ps=>h.get? a=some { cls:=.none,data:=.fields ps }
 | .met f x=>h.get? a=some (PySem.W.methodObj (.ref f) (.ref x))
 | .ext φ=>φ h/\(∃o,h.get? a=some o)/\∀h1 h2:Heap,φ h1->(∀o,h1.get? a=some o->h2.get? a=some o)->φ h2
def BY(H:Hp)(h:Heap):Prop:=∀a o,H a=some o->Bz P w H h a o
end
section
variable{h:Heap}
theorem Bz.lt(x:Bz P w H h a o):a<h.objs.size:=by
 cases o with
 |lst xs=>obtain⟨_,_,_,_,e⟩:=x;exact AX e
 |tup xs=>obtain⟨_,_,_,p⟩:=x;exact p.1.lt
 |dK AA=>obtain⟨_,_,_,_,o,_,_,e,_⟩:=x;exact AX e
 |dT AA=>obtain⟨_,_,_,_,o,_,_,e,_⟩:=x;exact AX e
 |set S n=>obtain⟨o,_,_,_,e,_⟩:=x;exact AX e
 |ins C dx fs=>obtain⟨_,_,_,e,_⟩:=x;exact AX e
 |own y=>obtain⟨_,e⟩:=x;exact AX e
 |xd fs=>obtain⟨_,⟨_,_,_,e,_⟩,_⟩:=x;exact AX e
 |Pw lo hi=>obtain⟨_,_,_,e⟩:=x;exact AX e
 |EI ob u=>obtain⟨e,_⟩:=x;exact AX e
 |Iv ps=>exact AX (show h.get? a=some _ from x)
 |met f y=>exact AX (show h.get? a=some _ from x)
 |ext φ=>obtain⟨_,⟨_,e⟩,_⟩:=x;exact AX e
theorem Paired.Nt{α β:Type}{F G:α->β->Prop}:∀{d:List α}{c:List β},Paired F d c->(∀a b,F a b->G a b)->Paired G d c
 |_,_,.nil,_=>.nil
 |_,_,.cons r t,f=>.cons (f _ _ r) (Paired.Nt t f)
theorem Bz.FR(x:Bz P w H h a o)(k:∀b u,(b=a∨H b=some (.own a))->h.get? b=some u->h'.get? b=some u)
  (ho:∀b,H b=some (.own a)->H' b=some (.own a)) (j:∀b xs,H b=some (.tup xs)->H' b=some (.tup xs)):Bz P w H' h' a o:=by
 induction o with
 |lst xs=>obtain⟨z,A2,n,r,e⟩:=x;exact⟨z,A2,n,r,k _ _ (.inl rfl) e⟩
 |tup xs=>obtain⟨z,A2,r,⟨ob,e,c⟩,m⟩:=x;exact⟨z,A2,r,⟨ob,k _ _ (.inl rfl) e,c⟩,λs g=>by rw[k _ _ (.inl rfl) e]at g;cases g;exact m _ e⟩
 |dK AA=>obtain⟨z,y,vs,r,ob,es,ep,e,c⟩:=x;exact⟨z,y,vs,r,ob,es,ep,k _ _ (.inl rfl) e,c⟩
 |dT AA=>
  obtain⟨z,y,xs,r,ob,es,ep,e,c⟩:=x;exact⟨z,y,xs,Paired.Nt r λp q z=>⟨z.1,j _ _ z.2.1,z.2.2⟩,ob,es,ep,k _ _ (.inl rfl) e,c⟩
 |set S n=>obtain⟨ob,es,ep,t,e,c⟩:=x;exact⟨ob,es,ep,t,k _ _ (.inl rfl) e,c⟩
 |ins C dx fs=>
  obtain⟨d,z,ne,e,mA,⟨od,es,ep,l,c⟩,r⟩:=x;exact⟨ho _ d,z,ne,k _ _ (.inl rfl) e,mA,⟨od,es,ep,k _ _ (.inr d) l,c⟩,r⟩
 |own y=>obtain⟨ob,e⟩:=x;exact⟨ob,k _ _ (.inl rfl) e⟩
 |xd fs=>obtain⟨mA,⟨od,es,ep,e,c⟩,r⟩:=x;exact⟨mA,⟨od,es,ep,k _ _ (.inl rfl) e,c⟩,r⟩
 |Pw lo hi=>obtain⟨t,u,v,e⟩:=x;exact⟨t,u,v,k _ _ (.inl rfl) e⟩
 |EI ob u i=>obtain⟨e,q⟩:=x;exact⟨k _ _ (.inl rfl) e,i q⟩
 |Iv ps=>
  have e:h.get? a=some { cls:=.none,data:=.fields ps }:=x;show h'.get? a=some { cls:=.none,data:=.fields ps };exact k a _ (.inl rfl) e
 |met f y=>
  have e:h.get? a=some (PySem.W.methodObj (.ref f) (.ref y)):=x;show h'.get? a=some (PySem.W.methodObj (.ref f) (.ref y));exact k a _ (.inl rfl) e
 |ext φ=>obtain⟨p,⟨o,e⟩,st⟩:=x;exact⟨st _ _ p λo q=>k _ _ (.inl rfl) q,⟨o,k _ _ (.inl rfl) e⟩,st⟩
theorem BY.lt(x:BY P w H h)(e:H a=some o):a<h.objs.size:=(x a o e).lt
theorem BY.fresh(x:BY P w H h)(e:h.objs.size<=a):H a=none:=by
 cases q:H a with
 |none=>rfl
 |some u=>exact absurd (C4 (x.lt q) e) (Na _)
theorem BY.kept(x:BY P w H h)(k:∀b u,h.get? b=some u->h'.get? b=some u):BY P w H h':=λa o e=>
 (x a o e).FR (λb u _ q=>k b u q) (λ_ q=>q) λ_ _ q=>q
theorem BY.laid(x:BY P w H h)(k:∀b u,h.get? b=some u->h'.get? b=some u)(g:h.objs.size<=a)(new:Bz P w (upd H a o) h' a o):BY P w (upd H a o) h':=λb u e=>by
 have d:=x.fresh g
 by_cases f:b=a
 .subst f;rw[AY]at e;cases e;exact new
 .rw[AJ f]at e;exact(x b u e).FR (λc v _ q=>k c v q) (λc q=>by rw[AJ (Ct q d)];exact q) λc xs q=>by rw[AJ (Ct q d)];exact q
end
def Rd(H:Hp)(a:Addr)(u:HO):Prop:=H a=some u∨∃o,H a=some (.EI o u)
theorem Rd.of{u:HO}(h:H a=some u):Rd H a u:=.inl h
theorem Rd.ok{h:Heap}{u:HO}(r:Rd H a u)(x:BY P w H h):Bz P w H h a u:=by
 rcases r with r|⟨o,r⟩
 .exact x a u r
 .obtain⟨_,q⟩:=x a _ r;exact q
def MB:Option HO->Prop
 |some (.lst _)=>True
 |some (.dK _)=>True
 |some (.dT _)=>True
 |some (.set _ _)=>True
 |some (.ins _ _ _)=>True
 |some (.ext _)=>True
 |_=>False
section
variable{h:Heap}{x e:Addr}
theorem BY.write(ok:BY P w H h)(a:MB (H x))(j:e=x∨H e=some (.own x))(k:∀b u,b≠e->h.get? b=some u->h'.get? b=some u)(IS:∃u,h'.get? e=some u)
  (new:Bz P w (upd H x o') h' x o'):BY P w (upd H x o') h':=λb u q=>by
 have l:∀c y,H c=some (.own y)->c≠x:=λc y r z=>by subst z;rw[r]at a;exact a
 have m:∀c xs,H c=some (.tup xs)->c≠x:=λc xs r z=>by subst z;rw[r]at a;exact a
 by_cases f:b=x
 .subst f;rw[AY]at q;cases q;exact new
 .rw[AJ f]at q
  by_cases g:b=e
  .have i:H b=some (.own x):=by
    rcases j with z|z
    .exact absurd (g.trans z) f
    .rw[g];exact z
   rw[q]at i;cases i;obtain⟨v,n⟩:=IS;exact⟨v,by rw[g];exact n⟩
  .refine(ok b u q).FR (λc v d r=>k c v ?_ r) (λc r=>by rw[AJ (l c b r)];exact r) λc xs r=>by rw[AJ (m c xs r)];exact r
   rcases d with rfl|d
   .exact g
   .rintro rfl;rcases j with z|z
    .exact l c b d z
    .rw[d]at z;cases z;exact f rfl
end
structure Un (fs ex:List Addr) (H H':Hp) (h h':Heap):Prop where
 keep:∀b o,h.get? b=some o->H b=none->b∉fs->b∉ex->h'.get? b=some o
 slot:∀b o,h.get? b=some o->H b=none->b∈fs->b∉ex->∃sl,h'.get? b=some { o with slots:=sl }
 free:∀b o,h.get? b=some o->H b=none->b∉ex->H' b=none
 there:∀b o,h.get? b=some o->b∉ex->∃o',h'.get? b=some o'
 Ef:∀b xs,H b=some (.tup xs)->H' b=some (.tup xs)
 EH:∀b o u,H b=some (.EI o u)->H' b=some (.EI o u)
 Ed:∀b ps,H b=some (.Iv ps)->∃more,H' b=some (.Iv (ps++more))
section
variable{fs W2 ex YD:List Addr}{H1 H2:Hp}{h h1 h2:Heap}{x e:Addr}
theorem Un.any(u:Un fs ex H H1 h h1){ob:Obj}(q:h.get? b=some ob)(n:H b=none)(hx:b∉ex):∃c,h1.get? b=some { ob with slots:=c }:=by
 by_cases a:b∈fs
 .exact u.slot b ob q n a hx
 .exact⟨ob.slots,u.keep b ob q n a hx⟩
theorem Un.kept(k:∀b u,h.get? b=some u->h'.get? b=some u):Un fs ex H H h h':=
 ⟨λb ob q _ _ _=>k b ob q,λb ob q _ _ _=>⟨ob.slots,k b ob q⟩,λ_ _ _ n _=>n,λb ob q _=>⟨ob,k b ob q⟩,λ_ _ q=>q,λ_ _ _ q=>q,λ_ ps q=>⟨#[],by rw[q];simp⟩⟩
theorem Un.refl:Un fs ex H H h h:=Un.kept λ_ _ q=>q
theorem Un.laid(k:∀b u,h.get? b=some u->h'.get? b=some u)(d:h.objs.size<=a)(c:H a=none):Un fs ex H (upd H a o) h h' where
 keep:=λb u q _ _ _=>k b u q
 slot:=λb u q _ _ _=>⟨u.slots,k b u q⟩
 free:=λb u q n _=>by rw[AJ (BZ (C4 (AX q) d))];exact n
 there:=λb u q _=>⟨u,k b u q⟩
 Ef:=λb xs q=>by rw[AJ (Ct q c)];exact q
 EH:=λb u xs q=>by rw[AJ (Ct q c)];exact q
 Ed:=λb ps q=>⟨#[],by rw[AJ (Ct q c),q];simp⟩
theorem Un.write(a:MB (H x))(g:e=x∨H e=some (.own x))(k:∀b u,b≠e->h.get? b=some u->h'.get? b=some u)(IS:∃u,h'.get? e=some u):Un fs ex H (upd H x o) h h':=by
 have hx:∀b,H b=none->b≠x:=λb n z=>by subst z;rw[n]at a;exact a
 have d:∀b,H b=none->b≠e:=λb n z=>by
  subst z;rcases g with r|r
  .exact hx b n r
  .rw[n]at r;cases r
 have c:∀b u,H b=some u->¬ MB (some u)->b≠x:=λb u q nm z=>by subst z;rw[q]at a;exact nm a
 refine⟨λb u q n _ _=>k b u (d b n) q,λb u q n _ _=>⟨u.slots,k b u (d b n) q⟩,λb u q n _=>by rw[AJ (hx b n)];exact n,λb u q _=>?_,
  λb xs q=>by rw[AJ (c b _ q λz=>z)];exact q,λb u xs q=>by rw[AJ (c b _ q λz=>z)];exact q,λb ps q=>⟨#[],by rw[AJ (c b _ q λz=>z),q];simp⟩⟩
 by_cases f:b=e
 .subst f;exact IS
 .exact⟨u,k b u f q⟩
theorem Un.mono(u:Un fs ex H H1 h h1)(c:∀b∈fs,b∈W2)(hx:∀b∈ex,b∈YD):Un W2 YD H H1 h h1:=
 ⟨λb ob q n d a=>u.keep b ob q n (λz=>d (c b z)) λz=>a (hx b z),λ_ _ q n _ a=>u.any q n λz=>a (hx _ z),λb ob q n a=>u.free b ob q n λz=>a (hx b z),λb ob q a=>u.there b ob q λz=>a (hx b z),u.Ef,u.EH,u.Ed⟩
end
def PL(h:Heap)(H:Hp):List Addr:=(List.range h.objs.size).filter λa=>(H a).isSome
def HW(h:Heap)(H:Hp):Heap:=PySem.W.hideAll h (PL h H)
theorem gu(h:Heap)(H:Hp):(HW h H).objs.size=h.objs.size:=PySem.W.hideAll_size _ _
theorem w6{h:Heap}{o:Obj}(e:h.get? b=some o)(n:H b=none):(HW h H).get? b=some o:=
 PySem.W.hideAll_get _ e λa=>by
  have q:(H b).isSome=true:=(List.mem_filter.mp a).2;rw[n]at q;simp at q
theorem mf{h:Heap}{o:Obj}(e:(HW h H).get? b=some o):h.get? b=some o/\H b=none:=by
 have a:h.get? b=some o:=PySem.W.of_hideAll (PL h H) e;refine⟨a,?_⟩;cases q:H b with
 |none=>rfl
 |some x=>
  have c:b∈PL h H:=List.mem_filter.mpr ⟨List.mem_range.mpr (AX a),by simp[q]⟩;have z:(HW h H).get? b=none:=PySem.W.hideAll_none (PL h H) c;rw[z]at e;cases e
structure Mod (K:ZAe) (mg:ZAg) (Zk:Heap):Prop where
 Jj:K.In Zk
 glob:Zk.Ns mainGlobals mg
 blt:∃mb,Zk.Ns builtinsNs mb/\∀x:Str,x ≠"__name__" -> mb x=bootBuiltins x
 nolimit:Zk.NoLimit
structure Cx where
 prog:Program
 w:World
 K:ZAe
 mg:ZAg
 base:Heap
 A:Around
 N:List Str
 s₀:Shared
 H₀:Hp
 env:Env
 outer:List Env
 stack:List Env
 ex:List Addr
 fn:Str->Bool
 calm:Bool
 pn:ZAf
 xe:Value->Shared->Prop
variable{X:Cx}
def Bf(l:List Env):List Addr:=l.filterMap (·.frame)
abbrev Cx.fs(X:Cx):List Addr:=Bf X.outer
def OJ(sc:Scope)(x:Str):Prop:=sc.names.lookup x=some .local∨sc.names.lookup x=some .cell∨sc.names.lookup x=some .free
def Loc(sc:Scope)(x:Str):Prop:=sc.names.lookup x=some .local∨sc.names.lookup x=some .cell
def Look(env:Env)(h:Heap)(m:ZAg)(x:Str)(u:Value):Prop:=
 (env.kindOf x=some .local/\m x=some u)∨((env.kindOf x=some .cell∨env.kindOf x=some .free)/\∃c,env.cells.lookup x=some c/\h.IsCell c (some u))
structure Cx.Ok (X:Cx):Prop where
 mod:Mod X.K X.mg X.base
 kind:X.env.scope.kind=.function
 glob:X.env.globals=mainGlobals
 blt:X.env.builtins=builtinsNs
 above:X.s₀.heap.objs.size<=X.env.locals
 inj:∀x y c,X.env.cells.lookup x=some c->X.env.cells.lookup y=some c->x=y
 has:∀x,(X.env.kindOf x=some .cell∨X.env.kindOf x=some .free)->∃c,X.env.cells.lookup x=some c
 Hy:∀x c,X.fn x=true->X.env.cells.lookup x=some c->X.s₀.heap.objs.size<=c
 hd:X.calm=true->X.A.handled=none
 frames:X.A.frames=some X.stack
 GU:X.stack=X.outer∨(X.stack=X.env::X.outer/\X.env.frame=some X.env.locals)
 HP:∀b∈X.ex,b≠X.env.locals/\∀x c,X.env.cells.lookup x=some c->c≠b
 bs:∀b o,X.base.get? b=some o->X.s₀.heap.get? b=some o/\X.H₀ b=none
 FJ:X.base.objs.size<=X.s₀.heap.objs.size
 J0:∀b o,X.base.get? b=some o->b∉X.ex
 HQ:∀b∈X.ex,b∉X.fs
 EL:X.s₀.heap.FunFrames X.base X.outer
 Gn:∀b∈X.fs,X.H₀ b=none
structure Inv (X:Cx) (Zd:ZAf) (Z:List (Option V)) (H:Hp) (s:Shared):Prop where
 ok:X.Ok
 os:s.os=X.s₀.os
 bare:AllBare s.gens
 base:Un X.fs X.ex X.H₀ H X.s₀.heap s.heap
 loc:∃m,s.heap.Ns X.env.locals m/\∀(i:Nat)(x:Str)(v:V),X.N[i]?=some x->Z[i]?=some (some v)->OJ X.env.scope x->∃u,RelV v u/\Look X.env s.heap m x u
 cell:∀x c,X.env.cells.lookup x=some c->∃v,s.heap.IsCell c v
 free:H X.env.locals=none
 DO:∀x c,X.env.cells.lookup x=some c->H c=none
 pin:∀p∈X.pn++Zd,s.heap.get? p.1=some p.2/\H p.1=none/\p.1≠X.env.locals/\p.1∉X.fs/\∀v,p.2.data≠.cell v
 AB:BY X.prog X.w H s.heap
 len:Z.length=X.N.length
section
variable{Z:List (Option V)}
theorem Cx.Ok.lZ(ok:X.Ok){o:Obj}(e:X.base.get? b=some o):b∉X.fs:=λa=>by
 have:=(ok.EL.mem a).1;rw[e]at this;cases this
theorem Inv.bs(I:Inv X Zd Z H s):∀b o,X.base.get? b=some o->s.heap.get? b=some o/\H b=none:=λb o e=>
 ⟨I.base.keep b o (I.ok.bs b o e).1 (I.ok.bs b o e).2 (I.ok.lZ e) (I.ok.J0 b o e),I.base.free b o (I.ok.bs b o e).1 (I.ok.bs b o e).2 (I.ok.J0 b o e)⟩
theorem Inv.bk(I:Inv X Zd Z H s):∀b o,X.base.get? b=some o->s.heap.get? b=some o:=λb o e=>(I.bs b o e).1
theorem Inv.mod(I:Inv X Zd Z H s):Mod X.K X.mg X.base:=I.ok.mod
theorem Inv.Ay(I:Inv X Zd Z H s):X.K.In s.heap:=I.ok.mod.Jj.keeps I.bk
theorem Inv.lt(I:Inv X Zd Z H s):X.env.locals<s.heap.objs.size:=let ⟨_,hn,_⟩:=I.loc;hn.lt
theorem Inv.sz(I:Inv X Zd Z H s):X.s₀.heap.objs.size<=s.heap.objs.size:=Ax I.ok.above (Wv I.lt)
theorem Inv.pZ(I:Inv X Zd Z H s)(h:s.heap.objs.size<=a):a∉X.fs:=λb=>by
 obtain⟨_,o,ho,_⟩:=I.ok.EL.mem b;exact absurd (C4 (AX ho) (Ax I.sz h)) (Na _)
theorem Inv.FA(I:Inv X Zd Z H s):∀x c,X.env.cells.lookup x=some c->c≠X.env.locals:=λx c e z=>by
 obtain⟨v,o,ho,hd⟩:=I.cell x c e;obtain⟨m,⟨o',es,ep,Cz,Uv,_⟩,_⟩:=I.loc;rw[z,Cz]at ho;cases ho;rw[Uv]at hd;cases hd
theorem Inv.EL(I:Inv X Zd Z H s):s.heap.FunFrames X.base X.outer:=by
 have all:∀(l:List Env),(∀b∈Bf l,b∈X.fs)->X.s₀.heap.FunFrames X.base l->s.heap.FunFrames X.base l:=by
  intro l
  induction l with
  |nil=>intro _ _;trivial
  |cons env r g=>
   intro f hl;obtain⟨j,⟨L,o,a,i,ho,hd⟩,h⟩:=hl;have d:L∈X.fs:=f L (by unfold Bf;rw[QL,a];exact FH);obtain⟨k,e⟩:=I.base.slot L o ho (I.ok.Gn L d) d λz=>I.ok.HQ L z d;exact⟨j,⟨L,_,a,i,e,hd⟩,g (λb c=>f b (by unfold Bf;rw[QL,a];exact By _ c)) h⟩
 exact all X.outer (λ_ c=>c) I.ok.EL
theorem Inv.stack(I:Inv X Zd Z H s):s.heap.FunFrames X.base X.stack:=by
 rcases I.ok.GU with e|⟨e,hf⟩
 .rw[e];exact I.EL
 .rw[e];obtain⟨m,a,_⟩:=I.loc;refine .cons (by rw[I.ok.kind];decide) hf a ?_ I.EL;exact Lm (Ax I.ok.FJ I.ok.above)
theorem Inv.LU(I:Inv X Zd Z H s):∀b∈Bf X.stack,b∈X.env.locals::X.fs:=λb a=>by
 rcases I.ok.GU with e|⟨e,hf⟩
 .rw[e]at a;exact By _ a
 .rw[e]at a;unfold Bf at a;rw[QL,hf]at a;exact a
theorem Inv.Pj(I:Inv X Zd Z H s):∀b∈Bf X.stack,H b=none:=λb a=>by
 rcases List.mem_cons.mp (I.LU b a)with e|a
 .rw[e];exact I.free
 .obtain⟨_,o,ho,_⟩:=I.ok.EL.mem a;exact I.base.free b o ho (I.ok.Gn b a) λz=>I.ok.HQ b z a
theorem Inv.step(I:Inv X Zd Z H s)
  (Fl:∀b∈ch,(b∈X.ex∨X.s₀.heap.objs.size<=b)/\b≠X.env.locals/\(∀x c,X.env.cells.lookup x=some c->c≠b)/\∀p∈X.pn++Zd,p.1≠b)
  (keep:∀b o,b≠X.env.locals->b∉X.fs->b∉ch->s.heap.get? b=some o->H b=none->h'.get? b=some o)
  (slot:∀b o,b≠X.env.locals->b∈X.fs->b∉ch->s.heap.get? b=some o->H b=none->∃y,h'.get? b=some { o with slots:=y }) (free:∀b o,b∉ch->s.heap.get? b=some o->H b=none->H' b=none)
  (there:∀b o,b∉ch->s.heap.get? b=some o->∃o',h'.get? b=some o')
  (Ef:∀b xs,H b=some (.tup xs)->H' b=some (.tup xs)) (EH:∀b o u,H b=some (.EI o u)->H' b=some (.EI o u)) (Ed:∀b ps,H b=some (.Iv ps)->∃more,H' b=some (.Iv (ps++more)))
  (ns:∀m,s.heap.Ns X.env.locals m->h'.Ns X.env.locals m) (AB:BY X.prog X.w H' h') (hg:AllBare g') :
  Inv X Zd Z H' { s with heap:=h',gens:=g',drawn:=d',toks:=t' }:=by
 have D:∀b o,X.s₀.heap.get? b=some o->b≠X.env.locals:=λb o e=>BZ (C4 (AX e) I.ok.above);have t:∀b o,X.s₀.heap.get? b=some o->b∉X.ex->b∉ch:=λb o e hx g=>by
  rcases(Fl b g).1 with z|z
  .exact hx z
  .exact absurd (C4 (AX e) z) (Na _)
 have a:∀x c,X.env.cells.lookup x=some c->∀v,s.heap.IsCell c v->h'.IsCell c v:=λx c e v A6=>by
  obtain⟨o,ho,hd⟩:=A6;have j:c∉ch:=λz=>(Fl c z).2.2.1 x c e rfl
  by_cases C:c∈X.fs
  .obtain⟨y,q⟩:=slot c o (I.FA x c e) C j ho (I.DO x c e);exact⟨_,q,hd⟩
  .exact⟨o,keep c o (I.FA x c e) C j ho (I.DO x c e),hd⟩
 refine⟨I.ok,I.os,hg,⟨λb o e n g hx=>?_,λb o e n g hx=>?_,λb o e n hx=>?_,λb o e hx=>?_,λb xs e=>Ef b xs (I.base.Ef b xs e),λb o xs e=>EH b o xs (I.base.EH b o xs e),λb ps e=>?_⟩,?_,λx c e=>?_,?_,λx c e=>?_,λp B=>?_,AB,I.len⟩
 .exact keep b o (D b o e) g (t b o e hx) (I.base.keep b o e n g hx) (I.base.free b o e n hx)
 .obtain⟨y,f⟩:=I.base.slot b o e n g hx;obtain⟨RG,h⟩:=slot b _ (D b o e) g (t b o e hx) f (I.base.free b o e n hx);exact⟨RG,h⟩
 .obtain⟨o',f⟩:=I.base.there b o e hx;exact free b o' (t b o e hx) f (I.base.free b o e n hx)
 .obtain⟨o',f⟩:=I.base.there b o e hx;exact there b o' (t b o e hx) f
 .obtain⟨F,f⟩:=I.base.Ed b ps e;obtain⟨E,h⟩:=Ed b _ f;exact⟨F++E,by rw[h,Array.append_assoc]⟩
 .obtain⟨m,G,hl⟩:=I.loc;refine⟨m,ns m G,λi x v f h J=>?_⟩;obtain⟨u,r,l⟩:=hl i x v f h J;refine⟨u,r,?_⟩;rcases l with l|⟨k,c,e,z⟩
  .exact .inl l
  .exact .inr ⟨k,c,e,a x c e _ z⟩
 .obtain⟨v,z⟩:=I.cell x c e;exact⟨v,a x c e v z⟩
 .obtain⟨m,⟨o,_,_,ho,_⟩,_⟩:=I.loc;exact free _ o (λz=>(Fl _ z).2.1 rfl) ho I.free
 .obtain⟨v,o,ho,hd⟩:=I.cell x c e;exact free c o (λz=>(Fl c z).2.2.1 x c e rfl) ho (I.DO x c e)
 .obtain⟨e,n,ne,A,d⟩:=I.pin p B;have j:p.1∉ch:=λz=>(Fl p.1 z).2.2.2 p B rfl;exact⟨keep p.1 p.2 ne A j e n,free p.1 p.2 j e n,ne,A,d⟩
theorem Inv.un(I:Inv X Zd Z H s)(u:Un X.fs [] H H' s.heap h')(AB:BY X.prog X.w H' h'):Inv X Zd Z H' { s with heap:=h',toks:=t' }:=by
 obtain⟨m,⟨o,es,ep,ho,r⟩,_⟩:=id I.loc;obtain⟨g,f⟩:=u.any ho I.free (by simp);exact I.step (g':=s.gens) (d':=s.drawn) (ch:=[]) (λ_ z=>nomatch z) (λb o _ a _ e n=>u.keep b o e n a (by simp)) (λb o _ a _ e n=>u.slot b o e n a (by simp)) (λb o _ e n=>u.free b o e n (by simp)) (λb o _ e=>u.there b o e (by simp)) u.Ef u.EH u.Ed (λh d=>by
  obtain⟨o',Bp,G1,Cz,c⟩:=d;rw[ho]at Cz;cases Cz;exact⟨_,Bp,G1,f,c⟩) AB I.bare
theorem Inv.call(I:Inv X Zd Z H s)(u:Un (Bf X.stack) ch H H' s.heap h')(AB:BY X.prog X.w H' h')(h:AllBare g')
  (Fl:∀b∈ch,(b∈X.ex∨X.s₀.heap.objs.size<=b)/\b≠X.env.locals/\(∀x c,X.env.cells.lookup x=some c->c≠b)/\∀p∈X.pn++Zd,p.1≠b) :
  Inv X Zd Z H' { s with heap:=h',gens:=g',drawn:=d',toks:=t' }:=by
 obtain⟨m,⟨o,es,ep,ho,r⟩,_⟩:=id I.loc;obtain⟨j,d⟩:=u.any ho I.free λz=>(Fl _ z).2.1 rfl;exact I.step (ch:=ch) Fl (λb o d i a e n=>u.keep b o e n (λz=>(List.mem_cons.mp (I.LU b z)).elim d i) a) (λb o _ _ a e n=>u.any e n a) (λb o a e n=>u.free b o e n a) (λb o a e=>u.there b o e a) u.Ef u.EH u.Ed (λk g=>by
  obtain⟨o',Bp,G1,Cz,f⟩:=g;rw[ho]at Cz;cases Cz;exact⟨_,Bp,G1,d,f⟩) AB h
theorem Inv.turned(I:Inv X Zd Z H s)(k:∀b o,b≠it->s.heap.get? b=some o->h'.get? b=some o)(g:H it=none)(d:it≠X.env.locals)
  (h1:it∈X.ex∨X.s₀.heap.objs.size<=it) (h2:∀x c,X.env.cells.lookup x=some c->c≠it) (j:∀p∈X.pn++Zd,p.1≠it):Inv X Zd Z H { s with heap:=h',toks:=t' }:=by
 have f:∀b u,H b=some u->b≠it:=λb u e z=>by rw[z,g]at e;cases e
 refine I.step (g':=s.gens) (d':=s.drawn) (ch:=[it]) (λb i=>?_) (λb o _ _ a e _=>k b o (λz=>a (by simp[z])) e) (λb o _ _ a e _=>⟨o.slots,k b o (λz=>a (by simp[z])) e⟩) (λ_ _ _ _ n=>n)
  (λb o a e=>⟨o,k b o (λz=>a (by simp[z])) e⟩) (λ_ _ e=>e) (λ_ _ _ e=>e) (λb ps e=>⟨#[],by rw[e];simp⟩) (λm h=>?_) (λb u e=>?_) I.bare
 .have e:b=it:=by simpa using i
  subst e;exact⟨h1,d,h2,j⟩
 .obtain⟨o,es,ep,ho,r⟩:=h;exact⟨o,es,ep,k _ o (BS d) ho,r⟩
 .refine(I.AB b u e).FR (λc v a q=>k c v ?_ q) (λ_ q=>q) λ_ _ q=>q;rcases a with z|z
  .rw[z];exact f b u e
  .exact f c _ z
theorem Inv.tok(I:Inv X Zd Z H s)(t:Nat):Inv X Zd Z H { s with toks:=t }:=I.un (h':=s.heap) (t':=t) Un.refl I.AB
theorem Inv.kept(I:Inv X Zd Z H s)(k:∀b u,s.heap.get? b=some u->h'.get? b=some u):Inv X Zd Z H { s with heap:=h',toks:=t' }:=I.un (Un.kept k) (I.AB.kept k)
theorem Inv.laid(I:Inv X Zd Z H s)(k:∀b u,s.heap.get? b=some u->h'.get? b=some u)(c:s.heap.objs.size<=a)(new:Bz X.prog X.w (upd H a o) h' a o):
  Inv X Zd Z (upd H a o) { s with heap:=h',toks:=t' }:=I.un (Un.laid k c (I.AB.fresh c)) (I.AB.laid k c new)
theorem Inv.write{x e:Addr}(I:Inv X Zd Z H s)(a:MB (H x))(c:e=x∨H e=some (.own x))(k:∀b u,b≠e->s.heap.get? b=some u->h'.get? b=some u)(IS:∃u,h'.get? e=some u)
  (new:Bz X.prog X.w (upd H x o) h' x o):Inv X Zd Z (upd H x o) { s with heap:=h',toks:=t' }:=I.un (Un.write a c k IS) (I.AB.write a c k IS new)
theorem Inv.Z2(I:Inv X Zd Z H s)(h:∀p∈Mf,s.heap.get? p.1=some p.2/\H p.1=none/\p.1≠X.env.locals/\p.1∉X.fs/\∀v,p.2.data≠.cell v):Inv X Mf Z H s:=
 ⟨I.ok,I.os,I.bare,I.base,I.loc,I.cell,I.free,I.DO,λp a=>(List.mem_append.mp a).elim (λz=>I.pin p (Ke _ z)) (h p),I.AB,I.len⟩
theorem Vw(c:N.Nodup)(a:N[i]?=some x)(b:N[j]?=some x):i=j:=by
 obtain⟨h1,e⟩:=List.getElem?_eq_some_iff.mp a;obtain⟨h2,d⟩:=List.getElem?_eq_some_iff.mp b;exact(zX c).mp (e.trans d.symm)
theorem RU{Q:Unit->Shared->Prop}(I:Inv X Zd Z H s)(W:X.N.Nodup)(hi:X.N[i]?=some x)(hx:Loc X.env.scope x)(r:RelV v u)
  (h:∀s',Inv X Zd (Z.set i (some v)) H s'->(∃a,Heap.SameBut a s.heap s'.heap/\(a=X.env.locals∨X.env.cells.lookup x=some a))->Q () s') (hf:X.fn x=true∨X.env.scope.names.lookup x=some .local:=by first|exact .inl rfl|exact .inr rfl|assumption):wpAny M A (storeName X.env x u) Q E s:=by
 obtain⟨m,S,hl⟩:=id I.loc;have Uh:(X.env.scope.kind == .class || (X.env.scope.kind == .module && X.env.locals != X.env.globals))=false:=by rw[I.ok.kind];rfl
 have hiσ:i<Z.length:=by rw[I.len];exact(List.getElem?_eq_some_iff.mp hi).1
 have FA:=I.FA;have g:∀{a:Addr}{h':Heap},(∃o,s.heap.get? a=some o/\H a=none)->Heap.SameBut a s.heap h'->BY X.prog X.w H h':=λ{a h'}ha f b ob e=>by
  obtain⟨_,_,Y⟩:=ha;refine(I.AB b ob e).FR (λc F t q=>(f.2 c ?_).trans q) (λ_ q=>q) λ_ _ q=>q;rintro rfl;rcases t with rfl|t
  .rw[Y]at e;cases e
  .rw[Y]at t;cases t
 rcases hx with hk|hk
 .refine wpAny_storeName_local hk S (λh' V5 f=>?_) Uh;obtain⟨oL,_,_,aJ,_⟩:=id S;refine h _ ⟨I.ok,I.os,I.bare,⟨λb o e n D hx=>?_,λb o e n D hx=>?_,I.base.free,λb o e hx=>?_,I.base.Ef,I.base.EH,I.base.Ed⟩,⟨_,V5,λj y J l B T=>?_⟩,λy c e=>?_,I.free,I.DO,λp R=>?_,g ⟨oL,aJ,I.free⟩ f,by simpa using I.len⟩ ⟨_,f,.inl rfl⟩
  .exact(f.2 b (BZ (C4 (AX e) I.ok.above))).trans (I.base.keep b o e n D hx)
  .obtain⟨L,l⟩:=I.base.slot b o e n D hx;exact⟨L,(f.2 b (BZ (C4 (AX e) I.ok.above))).trans l⟩
  .obtain⟨o',l⟩:=I.base.there b o e hx;exact⟨o',(f.2 b (BZ (C4 (AX e) I.ok.above))).trans l⟩
  .by_cases C:j=i
   .subst C;rw[hi]at l;cases l;rw[ER hiσ]at B;cases B;exact⟨u,r,.inl ⟨hk,by simp⟩⟩
   .rw[E7 (BS C)]at B;obtain⟨K,O,q⟩:=hl j y J l B T;refine⟨K,O,?_⟩;rcases q with⟨k,e⟩|⟨k,c,e,z⟩
    .refine .inl ⟨k,?_⟩;have:y≠x:=λe=>C (Vw W l (e▸hi));simp[this,e]
    .exact .inr ⟨k,c,e,z.sameBut f (FA y c e)⟩
  .obtain⟨F,z⟩:=I.cell y c e;exact⟨F,z.sameBut f (FA y c e)⟩
  .obtain⟨e,n,ne,P,d⟩:=I.pin p R;exact⟨(f.2 p.1 ne).trans e,n,ne,P,d⟩
 .have U:X.fn x=true:=by
   rcases hf with z|z
   .exact z
   .rw[z]at hk;cases hk
  obtain⟨c,t⟩:=I.ok.has x (.inl hk);obtain⟨F,z⟩:=I.cell x c t;refine wpAny_storeName_cell I.ok.kind hk t z (λh' Ky f=>?_);obtain⟨V,OX,gB⟩:=id z;refine h { s with heap:=h' } ⟨I.ok,I.os,I.bare,⟨λb o e n D hx=>?_,λb o e n D hx=>?_,I.base.free,λb o e hx=>?_,I.base.Ef,I.base.EH,I.base.Ed⟩,⟨m,S.sameBut f (BS (FA x c t)),λj y J l B T=>?_⟩,λy G e=>?_,I.free,I.DO,λp R=>?_,g ⟨V,OX,I.DO x c t⟩ f,by simpa using I.len⟩ ⟨c,f,.inr t⟩
  .exact(f.2 b (BZ (C4 (AX e) (I.ok.Hy x c U t)))).trans (I.base.keep b o e n D hx)
  .obtain⟨L,l⟩:=I.base.slot b o e n D hx;exact⟨L,(f.2 b (BZ (C4 (AX e) (I.ok.Hy x c U t)))).trans l⟩
  .obtain⟨o',l⟩:=I.base.there b o e hx;exact⟨o',(f.2 b (BZ (C4 (AX e) (I.ok.Hy x c U t)))).trans l⟩
  .by_cases C:j=i
   .subst C;rw[hi]at l;cases l;rw[ER hiσ]at B;cases B;exact⟨u,r,.inr ⟨.inl hk,c,t,Ky⟩⟩
   .rw[E7 (BS C)]at B;obtain⟨K,O,q⟩:=hl j y J l B T;refine⟨K,O,?_⟩;rcases q with q|⟨k,G,e,z'⟩
    .exact .inl q
    .refine .inr ⟨k,G,e,z'.sameBut f ?_⟩;rintro rfl;exact C (Vw W l (I.ok.inj _ _ _ e t▸hi))
  .by_cases σ:G=c
   .subst σ;exact⟨_,Ky⟩
   .obtain⟨w2,z2⟩:=I.cell y G e;exact⟨w2,z2.sameBut f σ⟩
  .obtain⟨e,n,ne,P,d⟩:=I.pin p R;refine⟨(f.2 p.1 ?_).trans e,n,ne,P,d⟩;intro q;rw[q,OX]at e;have q':V=p.2:=B4 e;exact d F (by rw[<- q'];exact gB)
theorem Su{Q:Unit->Shared->Prop}(I:Inv X Zd Z H s)(b:X.N.Nodup)(hi:X.N[i]?=some x)(hx:Loc X.env.scope x)(r:RelV v u)
  (h:∀s',Inv X Zd (Z.set i (some v)) H s'->Q () s') (a:X.fn x=true∨X.env.scope.names.lookup x=some .local:=by first|exact .inl rfl|exact .inr rfl|assumption):wpAny M A (storeName X.env x u) Q E s:=
 RU I b hi hx r (λs' I' _=>h s' I') a
theorem Inv.dY(I:Inv X Zd Z H s)(ho:s'.os=s.os)(u:Un (Bf X.stack) ch H H' s.heap s'.heap)(AB:BY X.prog X.w H' s'.heap)(a:AllBare s'.gens)
  (Fl:∀b∈ch,(b∈X.ex∨X.s₀.heap.objs.size<=b)/\b≠X.env.locals/\(∀x c,X.env.cells.lookup x=some c->c≠b)/\∀p∈X.pn++Zd,p.1≠b):Inv X Zd Z H' s':=by
 obtain⟨h',g',d',t',o'⟩:=s';have e:o'=s.os:=ho;subst e;exact I.call (g':=g') (t':=t') (d':=d') u AB a Fl
end
abbrev XK:=Value->Option Addr->Hp->Prop
abbrev St:=List (Option V)
variable{Z:St}
abbrev VK:=V->Hp->Prop
abbrev TE:=St->Hp->VK->Prop
variable{ta tb tc te:TE}
abbrev TT:=St->Hp->(Bool->Hp->Prop)->Prop
abbrev TA:=St->Hp->(List V->Hp->Prop)->Prop
structure Ends where
 nx:St->Hp->Prop
 rt:VK
 bk:St->Hp->Prop:=λ_ _=>False
 ct:St->Hp->Prop:=λ_ _=>False
abbrev TS:=Ends->St->Hp->Prop
def EP(X:Cx)(Zd:ZAf)(Z:St)(Q:VK)(u:Value)(s':Shared):Prop:=∃v H',Inv X Zd Z H' s'/\RelV v u/\Q v H'
def TP(X:Cx)(Zd:ZAf)(Z:St)(Q:Bool->Hp->Prop)(b:Bool)(s':Shared):Prop:=∃H',Inv X Zd Z H' s'/\Q b H'
def AP(X:Cx)(Zd:ZAf)(Z:St)(Q:List V->Hp->Prop)(us:List Value)(s':Shared):Prop:=∃vs H',Inv X Zd Z H' s'/\Vals vs us/\Q vs H'
def SP(X:Cx)(Zd:ZAf)(D:Ends)(f:Flow)(s':Shared):Prop:=
 match f with
 | .next=>∃ σ' H',Inv X Zd σ' H' s'/\D.nx σ' H'
 | .brk=>∃ σ' H',Inv X Zd σ' H' s'/\D.bk σ' H'
 | .cont=>∃ σ' H',Inv X Zd σ' H' s'/\D.ct σ' H'
 | .ret u=>∃v σ' H',Inv X Zd σ' H' s'/\RelV v u/\D.rt v H'
def PE(X:Cx)(e:Expr)(t:TE):Prop:=
 ∀(Zd:ZAf)(s:Shared)(Z:St)(H:Hp)(Q:VK),Inv X Zd Z H s->t Z H Q->wpAny (model X.prog X.w) X.A (eval e X.env) (EP X Zd Z Q) X.xe s
def PT(X:Cx)(e:Expr)(t:TT):Prop:=
 ∀(Zd:ZAf)(s:Shared)(Z:St)(H:Hp)(Q:Bool->Hp->Prop),Inv X Zd Z H s->t Z H Q->wpAny (model X.prog X.w) X.A (isTrue e X.env (eval e X.env)) (TP X Zd Z Q) X.xe s
def PW(X:Cx)(e:Expr)(t:TT):Prop:=
 ∀(a:Sem Value)(Zd:ZAf)(s:Shared)(Z:St)(H:Hp)(Q:Bool->Hp->Prop),Inv X Zd Z H s->t Z H Q->wpAny (model X.prog X.w) X.A (isTrue e X.env a) (TP X Zd Z Q) X.xe s
theorem PW.pt{t:TT}(h:PW X e t):PT X e t:=h _
def PA(X:Cx)(es:List Expr)(t:TA):Prop:=
 ∀(pos:Pos)(Zd:ZAf)(s:Shared)(Z:St)(H:Hp)(Q:List V->Hp->Prop),Inv X Zd Z H s->t Z H Q->wpAny (model X.prog X.w) X.A (spliced (backTo pos (starEach es X.env))) (AP X Zd Z Q) X.xe s
def PS(X:Cx)(st:Stmt)(t:TS):Prop:=
 ∀(Zd:ZAf)(s:Shared)(Z:St)(H:Hp)(D:Ends),Inv X Zd Z H s->t D Z H->wpAny (model X.prog X.w) X.A (exec st X.env) (SP X Zd D) X.xe s
def DE(X:Cx)(st:List Stmt)(t:TS):Prop:=
 ∀(Zd:ZAf)(s:Shared)(Z:St)(H:Hp)(D:Ends),Inv X Zd Z H s->t D Z H->wpAny (model X.prog X.w) X.A (execs st X.env) (SP X Zd D) X.xe s
theorem AG{t:Sem α}{Q Q':α->Shared->Prop}(h:wpAny M A t Q E s)(b:∀a s,Q a s->Q' a s):wpAny M A t Q' E s:=i9 h b λ_ _ x=>x
section
def Br(i:Nat):TE:=λZ H Q=>∃v,Z[i]?=some (some v)/\Q v H
def tC(v:V):TE:=λ_ H Q=>Q v H
theorem dB{pos:Pos}(k:X.N[i]?=some x)(f:OJ X.env.scope x)(hd:(x == ("__debug__":Str))=false:=by decide)(E9:(x == ("__classdict__":Str))=false:=by decide):PE X (.Name x pos) (Br i):=by
 intro Zd s Z H Q I h;obtain⟨v,e,h⟩:=h;obtain⟨m,g,hl⟩:=I.loc;obtain⟨u,r,l⟩:=hl i x v k e f;have b:EP X Zd Z Q u s:=⟨v,H,I,r,h⟩;rcases l with⟨a,j⟩|⟨a,c,d,ZU⟩
 .exact wpAny_Name (wpAny_loadName_local I.ok.kind a g j b) hd
 .rcases a with a|a
  .exact wpAny_Name (wpAny_loadName_cell I.ok.kind a d ZU b) hd
  .exact wpAny_Name (wpAny_loadName_free I.ok.kind a d ZU b E9) hd
def Gl(X:Cx)(x:Str):Prop:=X.env.kindOf x=some .globalImplicit
theorem LO{pos:Pos}(I:Inv X Zd Z H s)(b:Gl X x)(a:X.mg x=some u)(h:Q u s)
  (hd:(x == ("__debug__":Str))=false:=by decide):wpAny (model X.prog X.w) X.A (eval (.Name x pos) X.env) Q E s:=
 zI I.ok.kind b (Calls.loadGlobal_global (by rw[I.ok.glob];exact I.mod.glob.keeps I.bk) a h) hd
theorem IH{pos:Pos}(I:Inv X Zd Z H s)(d:Gl X x)(c:X.mg x=none)(a:bootBuiltins x=some u)(h:Q u s)
  (b:x ≠"__name__" := by decide) (hd:(x == ("__debug__":Str))=false:=by decide):wpAny (model X.prog X.w) X.A (eval (.Name x pos) X.env) Q E s:=by
 obtain⟨mb,h1,h2⟩:=I.mod.blt;exact zI I.ok.kind d (Calls.loadGlobal_builtin (by rw[I.ok.glob];exact I.mod.glob.keeps I.bk) c (by rw[I.ok.blt];exact h1.keeps I.bk) ((h2 x b).trans a) h) hd
theorem jM{pos:Pos}(d:Gl X x)(c:X.mg x=none)(a:bootBuiltins x=some u)(r:RelV v u)(b:x ≠"__name__" := by decide)(hd:(x == ("__debug__":Str))=false:=by decide):PE X (.Name x pos) (tC v):=
 λ_ _ _ H _ I h=>IH I d c a ⟨v,H,I,r,h⟩ b hd
variable{a b:Expr}{pos:Pos}
def PC(X:Cx)(op:CmpOp)(a b:Expr)(t:TE):Prop:=
 ∀(Zd:ZAf)(s:Shared)(Z:St)(H:Hp)(Q:VK),Inv X Zd Z H s->t Z H Q->
  wpAny (model X.prog X.w) X.A (eval a X.env) (λv d=>wpAny (model X.prog X.w) X.A (eval b X.env) (λu c=>wpAny (model X.prog X.w) X.A (compareOp op v u) (EP X Zd Z Q) X.xe c) X.xe d) X.xe s
theorem lT(b:Expr)(h:op≠.In)(h2:op≠.NotIn):behindInMarks op b=false:=by
 have c:(op == CmpOp.In)=false:=by cases op <;> first|rfl|exact absurd rfl h
 have a:(op == CmpOp.NotIn)=false:=by cases op <;> first|rfl|exact absurd rfl h2
 cases b <;> simp[behindInMarks,c,a]
def tB(t:TE):TT:=λZ H Q=>t Z H λx H1=>∃c,x=.bl c/\Q c H1
theorem qP{t:TE}(h:PC X op a b t)(h1:behindInMarks op b=false:=by first|exact lT _ (by decide) (by decide)|rfl):PT X (.Compare a [op] [b] pos) (tB t):=by
 intro Zd s Z H Q I hw;refine wpAny_isTrue_Compare1 (AG (h Zd s Z H _ I hw) λv i h1=>AG h1 λu s2 h2=>AG h2 λc g⟨x,H1,I1,e,f⟩=>?_) h1;obtain⟨d,rfl,q⟩:=f;cases e;exact jN ⟨H1,I1,q⟩
variable{tA Hr:TT}
def Vt(t u:TT):TT:=λZ H Q=>t Z H λc H1=>if c=true then u Z H1 Q else Q false H1
def TK(t u:TT):TT:=λZ H Q=>t Z H λc H1=>if c=true then Q true H1 else u Z H1 Q
def Vv(t:TT):TT:=λZ H Q=>t Z H λc H1=>Q (!c) H1
def Ui(ta tb:TE):TE:=λZ H Q=>ta Z H λx H1=>∃c,x=.bl c/\if c=true then tb Z H1 Q else Q (.bl false) H1
def Tt(ta tb:TE):TE:=λZ H Q=>ta Z H λx H1=>∃c,x=.bl c/\if c=true then Q (.bl true) H1 else tb Z H1 Q
def Qk(ta:TE):TE:=λZ H Q=>ta Z H λx H1=>∃c,x=.bl c/\Q (.bl (!c)) H1
def Nk(t:TT)(ta tb:TE):TE:=λZ H Q=>t Z H λc H1=>if c=true then ta Z H1 Q else tb Z H1 Q
end
def AN(K:ZAe)(H:Hp)(a:Addr)(xs:List V):Prop:=
 Rd H a (.lst xs)∨
  ∃(o:Obj)(A2:Array Value)(n:Nat),K.lookup a=some o/\o.cls=.type "list" /\ o.dict=none/\o.data=.seq A2 n/\A2.size<=sizeLine/\Vals xs A2.toList
def Al(K:ZAe)(H:Hp)(a:Addr)(xs:List V):Prop:=
 Rd H a (.tup xs)∨
  ∃(o:Obj)(A2:Array Value)(n:Nat),K.lookup a=some o/\o.cls=.type "tuple" /\ o.data=.seq A2 n/\A2.size<=sizeLine/\Vals xs A2.toList
def wO:Value->Option V
 | .none=>some .A5
 | .bool b=>some (.bl b)
 | .int i _=>some (.int i)
 | .str x _=>some (.str x)
 | .bytes b _=>some (.FQ b)
 | .float b _=>some (.HR b)
 | .ref a=>some (.ref a)
 | .type n=>some (.ty n)
 |_=>none
theorem RelV.abs{x:V}(r:RelV x u):wO u=some x:=by
 cases x with
 |A5=>cases r;rfl
 |bl _=>cases r;rfl
 |int _=>obtain⟨t,rfl⟩:=r;rfl
 |str _=>obtain⟨t,rfl⟩:=r;rfl
 |FQ _=>obtain⟨t,rfl⟩:=r;rfl
 |HR _=>obtain⟨t,rfl⟩:=r;rfl
 |ref _=>cases r;rfl
 |ty _=>cases r;rfl
theorem RelV.inj{x y:V}{u:Value}(r:RelV x u)(q:RelV y u):x=y:=B4 (r.abs.symm.trans q.abs)
theorem Vals.inj:∀{xs ys:List V}{us:List Value},Vals xs us->Vals ys us->xs=ys
 |_,_,_,.nil,.nil=>rfl
 |_,_,_,.cons r t,.cons r' t'=>by rw[r.inj r',Vals.inj t t']
section
variable{ys:List V}
theorem AN.of{K:ZAe}(h:H a=some (.lst xs)):AN K H a xs:=.inl (.inl h)
theorem Al.of{K:ZAe}(h:H a=some (.tup xs)):Al K H a xs:=.inl (.inl h)
theorem Inv.list(I:Inv X Zd Z H s)(h:AN X.K H a xs):∃A2:List Value,Vals xs A2/\PlainL s.heap a A2.toArray/\xs.length<=sizeLine:=by
 rcases h with h|⟨o,A2,n,hk,hc,hd,hs,hz,r⟩
 .obtain⟨z,A2,n,r,e⟩:=h.ok I.AB;exact⟨A2,r,⟨_,n,e,rfl,rfl,rfl⟩,z⟩
 .refine⟨A2.toList,r,⟨o,n,I.Ay a o hk,hc,hd,by simpa using hs⟩,?_⟩
  have e:=r.length;simp only[CK]at e;omega
theorem Inv.tuple(I:Inv X Zd Z H s)(h:Al X.K H a xs):∃A2:List Value,Vals xs A2/\IsTup s.heap a A2.toArray/\xs.length<=sizeLine:=by
 rcases h with h|⟨o,A2,n,hk,hc,hs,hz,r⟩
 .obtain⟨z,A2,r,p⟩:=h.ok I.AB;exact⟨A2,r,p.1,z⟩
 .refine⟨A2.toList,r,⟨o,I.Ay a o hk,hc,n,by simpa using hs⟩,?_⟩
  have e:=r.length;simp only[CK]at e;omega
theorem Inv.dA(I:Inv X Zd Z H s)(h:AN X.K H a xs)(h':AN X.K H a ys):xs=ys:=by
 obtain⟨A2,r,⟨o,n,e,_,_,d⟩,_⟩:=I.list h;obtain⟨its',c,⟨o',f,b,_,_,d'⟩,_⟩:=I.list h';rw[e]at b;cases b;rw[d]at d';injection d' with d1 _
 have:A2=its':=by simpa using iK Array.toList d1
 subst this;exact r.inj c
theorem Inv.MN(I:Inv X Zd Z H s)(h:Al X.K H a xs)(h':Al X.K H a ys):xs=ys:=by
 obtain⟨A2,r,⟨o,e,_,n,d⟩,_⟩:=I.tuple h;obtain⟨its',c,⟨o',b,_,f,d'⟩,_⟩:=I.tuple h';rw[e]at b;cases b;rw[d]at d';injection d' with d1 _
 have:A2=its':=by simpa using iK Array.toList d1
 subst this;exact r.inj c
end
abbrev Cx.GS(X:Cx)(E:Value->Shared->Prop):Cx:={ X with xe:=E }
abbrev Cx.Mx(X:Cx):Cx:=X.GS λ_ _=>False
theorem Cx.Ok.GS(ok:X.Ok)(E:Value->Shared->Prop):(X.GS E).Ok:=
 ⟨ok.mod,ok.kind,ok.glob,ok.blt,ok.above,ok.inj,ok.has,ok.Hy,ok.hd,ok.frames,ok.GU,ok.HP,ok.bs,ok.FJ,ok.J0,ok.HQ,ok.EL,ok.Gn⟩
theorem Cx.Ok.J7(ok:(X.GS E).Ok):X.Ok:=
 ⟨ok.mod,ok.kind,ok.glob,ok.blt,ok.above,ok.inj,ok.has,ok.Hy,ok.hd,ok.frames,ok.GU,ok.HP,ok.bs,ok.FJ,ok.J0,ok.HQ,ok.EL,ok.Gn⟩
section
theorem Inv.GS(I:Inv X Zd Z H s)(E:Value->Shared->Prop):Inv (X.GS E) Zd Z H s:=⟨I.ok.GS E,I.os,I.bare,I.base,I.loc,I.cell,I.free,I.DO,I.pin,I.AB,I.len⟩
theorem Inv.J7(I:Inv (X.GS E) Zd Z H s):Inv X Zd Z H s:=⟨I.ok.J7,I.os,I.bare,I.base,I.loc,I.cell,I.free,I.DO,I.pin,I.AB,I.len⟩
theorem SP.J7{D:Ends}{f:Flow}(h:SP (X.GS E) Zd D f s'):SP X Zd D f s':=by
 cases f with
 |next=>obtain⟨σ',H',I,q⟩:=h;exact⟨σ',H',I.J7,q⟩
 |brk=>obtain⟨σ',H',I,q⟩:=h;exact⟨σ',H',I.J7,q⟩
 |cont=>obtain⟨σ',H',I,q⟩:=h;exact⟨σ',H',I.J7,q⟩
 |ret u=>obtain⟨v,σ',H',I,r,q⟩:=h;exact⟨v,σ',H',I.J7,r,q⟩
theorem DE.Mx{st:List Stmt}{t:TS}(h:DE X.Mx st t):DE X st t:=λZd s Z H D I hw=>
 i9 (h Zd s Z H D (I.GS _) hw) (λ_ _ q=>q.J7) λ_ _ z=>False.elim z
variable{st:Stmt}{rest:List Stmt}{t u:TS}{pos:Pos}
def Q5:TS:=λD Z H=>D.nx Z H
def Jn(t u:TS):TS:=λD Z H=>t { D with nx:=u D } Z H
theorem Zj:DE X [] Q5:=λ_ _ Z H _ I h=>sU ⟨Z,H,I,h⟩
theorem TX(h1:PS X st t)(h2:DE X rest u):DE X (st::rest) (Jn t u):=by
 intro Zd s Z H D I h;refine wpAny_execs_cons (AG (h1 Zd s Z H { D with nx:=u D } I h) λf a q=>?_)
 cases f with
 |next=>
  obtain⟨σ',H',I',q⟩:=q;exact h2 Zd a σ' H' D I' q
 |ret v=>exact q
 |brk=>exact q
 |cont=>exact q
theorem ng(h1:PS X st t):DE X [st] t:=by
 intro Zd s Z H D I h;refine wpAny_execs_cons (AG (h1 Zd s Z H D I h) λf a q=>?_);cases f with
 |next=>exact sU q
 |ret v=>exact q
 |brk=>exact q
 |cont=>exact q
theorem Inv.quiet(I:Inv X Zd Z H s):interactive X.env=false:=by simp[interactive,I.ok.kind]
def L9(te:TE):TS:=λD Z H=>te Z H λ_ H1=>D.nx Z H1
theorem bo(c:PE X e te)(b:swapsWith e none pos.line X.env=pure false:=by rfl):PS X (.Expr e pos) (L9 te):=by
 intro Zd s Z H D I h;exact wpAny_Expr_any (AG (c Zd s Z H _ I h) λv d A6=>by obtain⟨x,H1,I1,f,a⟩:=A6;exact⟨Z,H1,I1,a⟩) I.quiet b
def N2(te:TE):TS:=λD Z H=>te Z H D.rt
def VV(c:TT)(t u:TS):TS:=λD Z H=>c Z H λb H1=>if b=true then t D Z H1 else u D Z H1
end
abbrev TG:=V->St->Hp->(St->Hp->Prop)->Prop
abbrev EY:=List V->St->Hp->(St->Hp->Prop)->Prop
def PG(X:Cx)(a:Expr)(t:TG):Prop:=
 ∀(Zd:ZAf)(s:Shared)(Z:St)(H:Hp)(v:V)(u:Value)(Q:St->Hp->Prop),Inv X Zd Z H s->RelV v u->t v Z H Q->
  wpAny (model X.prog X.w) X.A (assign a X.env u) (λ_ s'=>∃ σ' H',Inv X Zd σ' H' s'/\Q σ' H') X.xe s
def JO(X:Cx)(ts:List Expr)(t:EY):Prop:=
 ∀(Zd:ZAf)(s:Shared)(Z:St)(H:Hp)(vs:List V)(us:List Value)(Q:St->Hp->Prop),Inv X Zd Z H s->Vals vs us->t vs Z H Q->
  wpAny (model X.prog X.w) X.A (assignInOrder ((assignEach ts X.env).map (·.2)) us) (λ_ s'=>∃ σ' H',Inv X Zd σ' H' s'/\Q σ' H') X.xe s
abbrev Ph:=V->V->V->Hp->(Hp->Prop)->Prop
def TQ(X:Cx)(t:Ph):Prop:=
 ∀(Zd:ZAf)(s:Shared)(Z:St)(H:Hp)(o i v:V)(a b u:Value)(Q:Hp->Prop),Inv X Zd Z H s->RelV o a->RelV i b->RelV v u->t o i v H Q->
  wpAny (model X.prog X.w) X.A (setItem a b u) (λ_ s'=>∃H',Inv X Zd Z H' s'/\Q H') X.xe s
section
variable{pos:Pos}
def D1(i:Nat):TG:=λv Z H Q=>Q (Z.set i (some v)) H
theorem Ti(b:X.N.Nodup)(hi:X.N[i]?=some x)(hx:Loc X.env.scope x)(a:X.fn x=true∨X.env.scope.names.lookup x=some .local:=by first|exact .inl rfl|exact .inr rfl|assumption):PG X (.Name x pos) (D1 i):=by
 intro Zd s Z H v u Q I r h;exact wpAny_assign_Name (Su I b hi hx r (λs' I'=>⟨_,H,I',h⟩) a)
def MG:EY:=λvs Z H Q=>vs=[]/\Q Z H
def KS(t:TG)(u:EY):EY:=λvs Z H Q=>∃v r,vs=v::r/\t v Z H λσ' H'=>u r σ' H' Q
theorem bG:JO X [] MG:=by
 intro Zd s Z H vs us Q I r h;obtain⟨e,h⟩:=h;subst e;cases r;exact assignInOrder_nil ⟨Z,H,I,h⟩
theorem YA{t:TG}{u:EY}(h1:PG X e t)(h2:JO X es u)
  (f:(assignEach (e::es) X.env).map (·.2)=assign e X.env::(assignEach es X.env).map (·.2):=by rfl):JO X (e::es) (KS t u):=by
 intro Zd s Z H vs us Q I r h;obtain⟨v,i,g,h⟩:=h;subst g;cases r with
 |cons r c=>
  rw[f];refine assignInOrder_cons (AG (h1 Zd s Z H _ _ _ I r h) λ_ b a=>?_);obtain⟨σ1,H1,I1,d⟩:=a;exact h2 Zd b σ1 H1 _ _ Q I1 c d
def Md(K:ZAe)(n:Nat)(t:EY):TG:=λv Z H Q=>∃a xs,v=.ref a/\Al K H a xs/\xs.length=n/\t xs Z H Q
theorem X3{t:EY}(i:X.calm=true)(h:JO X es t)
  (g:(assignEach es X.env).length=n:=by rfl) (As:(assignEach es X.env).findIdx? (·.1)=none:=by rfl):PG X (.Tuple es k pos) (Md X.K n t):=by
 intro Zd s Z H v u Q I r hw;obtain⟨a,xs,j,f,hl,hw⟩:=hw;subst j;cases r;obtain⟨A2,c,d,m⟩:=I.tuple f;refine assign_Tuple_tuple (I.ok.hd i) d (by simp[g,<- hl,c.length]) As λh' hx=>?_;have l:Inv X Zd Z H { s with heap:=h' }:=I.kept (t':=s.toks) λb o e=>hx b o (BZ (AX e)) e
 exact h Zd _ Z H xs _ Q l (by simpa using c) hw
def Qs(to ti:TE)(t:Ph):TG:=λv Z H Q=>to Z H λo H1=>ti Z H1 λi H2=>t o i v H2 λH3=>Q Z H3
def EW(te:TE)(g:TG):TS:=λD Z H=>te Z H λx H1=>g x Z H1 D.nx
def ZZ(c:TT)(tb:TS):TS:=λD Z H=>∃W:Nat->St->Hp->Prop,(∃m,W m Z H)/\∀m Z H,W m Z H->
 c Z H λb H1=>if b=true then ∃N:St->Hp->Prop,(∀ σ' H',N σ' H'->∃a,a < m/\W a σ' H')/\tb { D with nx:=N,ct:=N,bk:=D.nx } Z H1 else D.nx Z H1
end
structure It where
 go:Nat->Hp->Prop
 Dg:Nat->Hp->V->Hp->Prop
 stop:Nat->Hp->Prop
def CG(X:Cx)(Zd:ZAf)(H:Hp)(b:Addr):Prop:=
 H b=none/\b≠X.env.locals/\b∉X.fs/\(b∈X.ex∨X.s₀.heap.objs.size<=b)/\(∀x c,X.env.cells.lookup x=some c->c≠b)/\∀p∈X.pn++Zd,p.1≠b
theorem Inv.J1(I:Inv X Zd Z H s)(a:s.heap.objs.size<=b)(f:H' b=none):CG X Zd H' b:=by
 refine⟨f,Fo (C4 I.lt a),I.pZ a,.inr (Ax I.sz a),λx c e z=>?_,λp d z=>?_⟩
 .obtain⟨v,q⟩:=I.cell x c e;exact absurd (C4 q.lt (by rw[z];exact a)) (Na _)
 .exact absurd (C4 (AX (I.pin p d).1) (by rw[z];exact a)) (Na _)
structure Turn (P:Program) (w:World) (K:ZAe) (tg:Expr) (J:It) (fp:List Addr) (it:Addr) (tn:Nat->Heap->Prop):Prop where
 mem:it∈fp
 obj:∀i h,tn i h->∀b∈fp,∃o,h.get? b=some o/\∀v,o.data≠.cell v
 keep:∀i h h',tn i h->(∀b∈fp,∀o,h.get? b=some o->h'.get? b=some o)->tn i h'
 item:∀(X:Cx),X.prog=P->X.w=w->X.K=K->X.calm=true->∀(i:Nat)(Zd:ZAf)(s:Shared)(Z:St)(H:Hp)(E:Value->Shared->Prop),Inv X Zd Z H s->(∀b∈fp,CG X Zd H b)->tn i s.heap->J.go i H->
  wpAny (model P w) X.A (pyNext (.ref it)) (λr s1=>∃u,r=some u/\
   wpAny (model P w) X.A (letOwnedTupleGo tg (.ref it) u) (λ_ s2=>∃x H',Inv X Zd Z H' s2/\RelV x u/\J.Dg i H x H'/\tn (i+1) s2.heap/\∀b∈fp,H' b=none) E s1) E s
 done:∀(X:Cx),X.prog=P->X.w=w->X.K=K->X.calm=true->∀(i:Nat)(Zd:ZAf)(s:Shared)(Z:St)(H:Hp)(E:Value->Shared->Prop),Inv X Zd Z H s->(∀b∈fp,CG X Zd H b)->tn i s.heap->J.stop i H->
  wpAny (model P w) X.A (pyNext (.ref it)) (λr s1=>r=none/\Inv X Zd Z H s1) E s
 self:∀(A:Around)(i:Nat)(s:Shared)(Q:Value->Shared->Prop)(E:Value->Shared->Prop),tn i s.heap->Q (.ref it) s->wpAny (model P w) A (pyIter (.ref it)) Q E s
abbrev TI:=St->Hp->(It->Hp->Prop)->Prop
def ZA(X:Cx)(Zd:ZAf)(Z:St)(tg:Expr)(R:It->Hp->Prop)(NQ:Value)(s2:Shared):Prop:=
 ∃(it:Addr)(fp:List Addr)(tn:Nat->Heap->Prop)(J:It)(H':Hp),NQ=.ref it/\Inv X Zd Z H' s2/\Turn X.prog X.w X.K tg J fp it tn/\tn 0 s2.heap/\(∀b∈fp,CG X Zd H' b)/\R J H'
def PI(X:Cx)(tg iter:Expr)(wi:TI):Prop:=
 ∀(Zd:ZAf)(s:Shared)(Z:St)(H:Hp)(R:It->Hp->Prop),Inv X Zd Z H s->wi Z H R->
  wpAny (model X.prog X.w) X.A (eval iter X.env) (λv a=>wpAny (model X.prog X.w) X.A (pyIter v) (ZA X Zd Z tg R) X.xe a) X.xe s
theorem QD{o:Obj}{n:String}{vs:Array Value}{Q:Unit->Shared->Prop}(ho:s.heap.get? it=some o)(c:o.cls=.type n)(hd:o.data=.fields vs)
  (b:["enumerate","zip","dict_itemiterator","dict_reverseitemiterator","odict_iterator","itertools.zip_longest","itertools.pairwise"].contains n=false) (a:Q () s):wpAny M A (letOwnedTupleGo tg (.ref it) u) Q E s:=by
 unfold letOwnedTupleGo;cases tg <;> first
  |exact fv a
  | (cases u <;> first
    |exact fv a
    | (
      refine fq (wpAny_load ho ?_);rw[c,hd];show wpAny M A (if(["enumerate","zip","dict_itemiterator","dict_reverseitemiterator","odict_iterator","itertools.zip_longest","itertools.pairwise"].contains n && vs[0]? == some (rawInt _))=true then _ else _) Q E s
      rw[hZ (by intro h;rw[b,eS]at h;cases h)];exact fv a))
def rh(K:ZAe)(a:Addr):It:=
 ⟨λi H=>∃xs x,AN K H a xs/\xs[i]?=some x,λi H x H'=>H'=H/\∀xs,AN K H a xs->xs[i]?=some x,λi H=>∃xs,AN K H a xs/\xs.length<=i⟩
def sj(K:ZAe)(a:Addr):It:=
 ⟨λi H=>∃xs x,Al K H a xs/\xs[i]?=some x,λi H x H'=>H'=H/\∀xs,Al K H a xs->xs[i]?=some x,λi H=>∃xs,Al K H a xs/\xs.length<=i⟩
def Jf(lo:Int)(n:Nat):It:=⟨λi _=>i<n,λi H x H'=>H'=H/\x=.int (lo+i),λi _=>n<=i⟩
theorem Mk{K:ZAe}(a it:Addr):Turn P w K tg (rh K a) [it] it (λi h=>h.IsListIter it a i) where
 mem:=by simp
 obj:=λi h st b f=>by
  have e:b=it:=by simpa using f
  subst e;obtain⟨o,e,c,d⟩:=st;exact⟨o,e,λv z=>by rw[d]at z;cases z⟩
 keep:=λi h h' st k=>st.at λo e=>k it (by simp) o e
 item:=by
  intro X n hw q B i Zd s Z H E I j st m;subst n hw q;obtain⟨xs,x,g,hx⟩:=m;obtain⟨A2,l,p,F⟩:=I.list g;obtain⟨u,J,D⟩:=l.get hx;obtain⟨f0,A,L,y,t,r⟩:=j it (by simp);refine wpAny_pyNext_list_item st p.isList (x:=u) (by simpa using J) λh' Dk C=>?_
  have N:Inv X Zd Z H { s with heap:=h' }:=I.turned (t':=s.toks) (λb o f e=>(C.2 b f).trans e) f0 A y t r
  obtain⟨o,e,c,d⟩:=id Dk;exact⟨u,rfl,QD (s:={ s with heap:=h' }) e c d (by decide) ⟨x,H,N,D,⟨rfl,λys G=>by rw[I.dA G g];exact hx⟩,Dk,λb f=>(j b f).1⟩⟩
 done:=by
  intro X n hw q B i Zd s Z H E I j st m;subst n hw q;obtain⟨xs,g,hx⟩:=m;obtain⟨A2,l,p,F⟩:=I.list g;obtain⟨f0,A,L,y,t,r⟩:=j it (by simp);have hl:=l.length;exact wpAny_pyNext_list_end (I.ok.hd B) st p.isList (by simp;omega) λh' M=>⟨rfl,I.turned (t':=s.toks) (λb o f e=>M b o f e) f0 A y t r⟩
 self:=λ_ _ _ _ _ st h=>wpAny_pyIter_listiter st h
theorem NA{K:ZAe}(a it:Addr):Turn P w K tg (sj K a) [it] it (λi h=>h.IsTupleIter it a i) where
 mem:=by simp
 obj:=λi h st b f=>by
  have e:b=it:=by simpa using f
  subst e;obtain⟨o,e,c,d⟩:=st;exact⟨o,e,λv z=>by rw[d]at z;cases z⟩
 keep:=λi h h' st k=>st.at λo e=>k it (by simp) o e
 item:=by
  intro X n hw q B i Zd s Z H E I j st m;subst n hw q;obtain⟨xs,x,g,hx⟩:=m;obtain⟨A2,l,p,F⟩:=I.tuple g;obtain⟨u,J,D⟩:=l.get hx;obtain⟨f0,A,L,y,t,r⟩:=j it (by simp);refine wpAny_pyNext_tuple_item st (show s.heap.IsTuple a A2.toArray from p) (x:=u) (by simpa using J) λh' Dk C=>?_
  have N:Inv X Zd Z H { s with heap:=h' }:=I.turned (t':=s.toks) (λb o f e=>(C.2 b f).trans e) f0 A y t r
  obtain⟨o,e,c,d⟩:=id Dk;exact⟨u,rfl,QD (s:={ s with heap:=h' }) e c d (by decide) ⟨x,H,N,D,⟨rfl,λys G=>by rw[I.MN G g];exact hx⟩,Dk,λb f=>(j b f).1⟩⟩
 done:=by
  intro X n hw q B i Zd s Z H E I j st m;subst n hw q;obtain⟨xs,g,hx⟩:=m;obtain⟨A2,l,p,F⟩:=I.tuple g;obtain⟨f0,A,L,y,t,r⟩:=j it (by simp);have hl:=l.length;exact wpAny_pyNext_tuple_end (I.ok.hd B) st (show s.heap.IsTuple a A2.toArray from p) (by simp;omega) λh' M=>⟨rfl,I.turned (t':=s.toks) (λb o f e=>M b o f e) f0 A y t r⟩
 self:=λ_ _ _ _ _ st h=>wpAny_pyIter_tupleiter st h
theorem nL{K:ZAe}(it:Addr)(lo:Int)(n:Nat):Turn P w K tg (Jf lo n) [it] it (λi h=>IsRangeIter h it (lo+(i:Nat) * 1) ((n:Int) - (i:Nat)) 1) where
 mem:=by simp
 obj:=λi h st b a=>by
  have e:b=it:=by simpa using a
  subst e;exact⟨_,st,λv z=>by
   have r:Data.fields _=Data.cell v:=z;cases r⟩
 keep:=λi h h' st k=>k it (by simp) _ st
 item:=by
  intro X g hw j f i Zd s Z H E I c st d;subst g hw j;obtain⟨f0,q,x,p,m,l⟩:=c it (by simp);have W:=Walks.range (prog:=X.prog) (w:=X.w) (I.ok.hd f) it lo 1 n;refine W.item i s _ _ d st λv h' tk u Dk kk=>?_;obtain⟨t,rfl⟩:=u;have A:Inv X Zd Z H { s with heap:=h',toks:=tk }:=I.turned (λb o a e=>kk b o (by simpa using a) e) f0 q p m l
  refine⟨_,rfl,QD (s:={ s with heap:=h',toks:=tk }) (n:="range_iterator") Dk rfl rfl (by decide) ⟨.int (lo+i),H,A,⟨t,?_⟩,⟨rfl,rfl⟩,Dk,λb a=>(c b a).1⟩⟩
  rw[Int.mul_one]
 done:=by
  intro X g hw j f i Zd s Z H E I c st d;subst g hw j;obtain⟨f0,q,x,p,m,l⟩:=c it (by simp);exact wpAny_pyNext_range_end (I.ok.hd f) st (by have:n<=i:=d;omega) λh' y=>⟨rfl,I.turned (t':=s.toks) (λb o a e=>y b o a e) f0 q p m l⟩
 self:=λ_ _ _ _ _ st h=>wpAny_pyIter_rangeiter st h
theorem bT{R:It->Hp->Prop}{lo hi:Int}{t u v:Tok}(I:Inv X Zd Z H s)(h1:-(2 ^ 62)<=lo)(h2:lo<2 ^ 62)(f:-(2 ^ 62)<=hi)(d:hi<2 ^ 62)
  (q:R (Jf lo (hi - lo).toNat) H):wpAny (model X.prog X.w) X.A (pyIter (.ref s.heap.objs.size)) (ZA X Zd Z tg R) E { s with heap:=s.heap.push { cls:=.type "range", data:=.fields #[.int lo t,.int hi u,.int 1 v] },toks:=tk }:=by
 refine wpAny_pyIter_range (IsRange.new ..) (small_one h1 h2 f d) ?_;have a:Inv X Zd Z H { s with heap:=s.heap.push { cls:=.type "range", data:=.fields #[.int lo t,.int hi u,.int 1 v] },toks:=tk }:=I.kept λb o e=>Ao _ e
 refine⟨(s.heap.push { cls:=.type "range", data:=.fields #[.int lo t,.int hi u,.int 1 v] }).objs.size,[(s.heap.push { cls:=.type "range", data:=.fields #[.int lo t,.int hi u,.int 1 v] }).objs.size],_,_,H,rfl,
  a.kept (t':=tk) λb o e=>Ao _ e,nL _ lo (hi - lo).toNat,?_,λb c=>?_,q⟩
 .have h:lo+((0:Nat):Int) * 1=lo:=by simp
  have g:(((hi - lo).toNat:Nat):Int) - ((0:Nat):Int)=Builtin.Range.rangeSize lo hi 1:=by rw[rangeSize_one];split <;> omega
  show IsRangeIter _ _ (lo+((0:Nat):Int) * 1) ((((hi - lo).toNat:Nat):Int) - ((0:Nat):Int)) 1;rw[h,g];exact BE _ rfl
 .have e:b=(s.heap.push { cls:=.type "range", data:=.fields #[.int lo t,.int hi u,.int 1 v] }).objs.size:=by simpa using c
  subst e;exact a.J1 (AZ _) (a.AB.fresh (AZ _))
def VD(ta:TA):TI:=λZ H R=>ta Z H λvs H1=>∃j:Int,vs=[.int j]/\-(2 ^ 62)<=j/\j<2 ^ 62/\R (Jf 0 j.toNat) H1
def Qn(ta:TA):TI:=λZ H R=>ta Z H λvs H1=>∃i j:Int,vs=[.int i,.int j]/\(-(2 ^ 62)<=i/\i<2 ^ 62/\-(2 ^ 62)<=j/\j<2 ^ 62)/\R (Jf i (j - i).toNat) H1
def Tn(wi:TI)(g:TG)(tb:TS):TS:=λD Z H=>wi Z H λJ H1=>∃W:Nat->Nat->St->Hp->Prop,(∃m,W 0 m Z H1)/\∀i m Z H,W i m Z H->
 (J.stop i H/\D.nx Z H)∨(J.go i H/\∃N:St->Hp->Prop,(∀ σ' H',N σ' H'->∃a,a < m/\W (i+1) a σ' H')/\∀x H',J.Dg i H x H'->g x Z H' λσ2 H2=>tb { D with nx:=N,ct:=N,bk:=D.nx } σ2 H2)
def K4(fp:List Addr)(h:Heap):ZAf:=fp.filterMap λb=>(h.get? b).map λo=>(b,o)
theorem KP{h:Heap}{o:Obj}(a:b∈fp)(e:h.get? b=some o):(b,o)∈K4 fp h:=List.mem_filterMap.mpr ⟨b,a,by rw[e];rfl⟩
theorem oF{h:Heap}{p:Addr×Obj}(a:p∈K4 fp h):p.1∈fp/\h.get? p.1=some p.2:=by
 obtain⟨b,c,e⟩:=List.mem_filterMap.mp a;cases q:h.get? b with
 |none=>rw[q]at e;cases e
 |some o=>
  rw[q]at e;have d:(b,o)=p:=B4 e;subst d;exact⟨c,q⟩
theorem Inv.pinned(I:Inv X Zd Z H s)(g:∀b∈fp,CG X Zd H b)(ho:∀b∈fp,∃o,s.heap.get? b=some o/\∀v,o.data≠.cell v):Inv X (Zd++K4 fp s.heap) Z H s:=
 I.Z2 λp f=>(List.mem_append.mp f).elim (λz=>I.pin p (DU _ z)) λz=>by
  obtain⟨a,e⟩:=oF z;obtain⟨f0,i,h,_⟩:=g p.1 a;obtain⟨o,c,d⟩:=ho p.1 a;rw[e]at c;cases c;exact⟨e,f0,i,h,d⟩
theorem Inv.K0{pl:ZAf}(I:Inv X (Zd++pl) Z H s):Inv X Zd Z H s:=I.Z2 λp a=>I.pin p (DU _ (Ke _ a))
theorem sN{lo:Int}{g:TG}{tb:TS}{D:Ends}(Pv:Nat->St->Hp->Prop)(f:Pv 0 Z H)
  (d:∀i Z H,i<n->Pv i Z H->g (.int (lo+i)) Z H λσ2 H2=>tb { D with nx:=Pv (i+1),ct:=Pv (i+1),bk:=D.nx } σ2 H2) (hd:∀ Z H,Pv n Z H->D.nx Z H) :
  ∃W:Nat->Nat->St->Hp->Prop,(∃m,W 0 m Z H)/\∀i m Z H,W i m Z H->
   ((Jf lo n).stop i H/\D.nx Z H)∨((Jf lo n).go i H/\∃N:St->Hp->Prop,(∀ σ' H',N σ' H'->∃b,b < m/\W (i+1) b σ' H')/\∀x H',(Jf lo n).Dg i H x H'->g x Z H' λσ2 H2=>tb { D with nx:=N,ct:=N,bk:=D.nx } σ2 H2):=by
 refine⟨λi m Z H=>m=n - i/\i<=n/\Pv i Z H,⟨n,by simp,DV _,f⟩,?_⟩;rintro i m Z H⟨rfl,hi,p⟩
 by_cases a:i<n
 .refine .inr ⟨a,Pv (i+1),λσ' H' c=>⟨n - (i+1),by omega,rfl,a,c⟩,λx H' y=>?_⟩;obtain⟨e,y⟩:=y;subst e y;exact d i Z _ a p
 .have e:i=n:=by omega
  subst e;exact .inl ⟨AZ _,hd Z H p⟩
abbrev R2:=V->V->Hp->VK->Prop
def Ar(X:Cx)(f:Value->Value->Sem Value)(r:R2):Prop:=
 ∀(Zd:ZAf)(s:Shared)(Z:St)(H:Hp)(x y:V)(v u:Value)(Q:VK),Inv X Zd Z H s->RelV x v->RelV y u->r x y H Q->
  wpAny (model X.prog X.w) X.A (f v u) (EP X Zd Z Q) X.xe s
def Be(X:Cx)(f:Value)(r:List V->Hp->VK->Prop):Prop:=
 ∀(Zd:ZAf)(s:Shared)(Z:St)(H:Hp)(xs:List V)(us:List Value)(Q:VK),Inv X Zd Z H s->Vals xs us->r xs H Q->
  wpAny (model X.prog X.w) X.A (call f us) (EP X Zd Z Q) X.xe s
def BQ(r:R2)(ta tb:TE):TE:=λZ H Q=>ta Z H λx H1=>tb Z H1 λy H2=>r x y H2 Q
def rI(C:Int->Int->Prop)(g:Int->Int->V):R2:=λx y H Q=>∃i j,x=.int i/\y=.int j/\C i j/\Q (g i j) H
def FT(g:Int->Int->V):R2:=λx y H Q=>∃i j,x=.int i/\y=.int j/\Q (g i j) H
section
variable{a b c:Expr}{pos:Pos}
theorem TM(ha:PE X a ta)(m:PE X b tb){R:V->V->Hp->Prop}(I:Inv X Zd Z H s)
  (h:ta Z H λx H1=>tb Z H1 λy H2=>R x y H2)
  (l:∀v u s2 x y H2,Inv X Zd Z H2 s2->RelV x v->RelV y u->R x y H2->wpAny (model X.prog X.w) X.A (f v u) Q X.xe s2) :
  wpAny (model X.prog X.w) X.A (eval a X.env) (λv d=>wpAny (model X.prog X.w) X.A (eval b X.env) (λu c=>wpAny (model X.prog X.w) X.A (f v u) Q X.xe c) X.xe d) X.xe s:=by
 refine AG (ha Zd s Z H _ I h) λv e Mq=>?_;obtain⟨x,H1,I1,i,k⟩:=Mq;refine AG (m Zd e Z H1 _ I1 k) λu s2 n=>?_;obtain⟨y,H2,I2,g,j⟩:=n;exact l v u s2 x y H2 I2 i g j
theorem OI{C:Int->Int->Prop}{g:Int->Int->Int}
  (rule:∀(i j:Int)(t u:Tok)(s:Shared)(Q:Value->Shared->Prop)(E:Value->Shared->Prop),C i j->Q (.int (g i j) s.toks) { s with toks:=s.toks+1 }->wpAny (model X.prog X.w) X.A (f (.int i t) (.int j u)) Q E s) :
  Ar X f (rI C λi j=>.int (g i j)):=by
 intro Zd s Z H x y v u Q I b a h;obtain⟨i,j,rfl,rfl,c,q⟩:=h;obtain⟨t,rfl⟩:=b;obtain⟨t',rfl⟩:=a;exact rule i j t t' s _ _ c ⟨.int (g i j),H,I.tok _,⟨_,rfl⟩,q⟩
theorem ao{g:Int->Int->Int}
  (rule:∀(i j:Int)(t u:Tok)(s:Shared)(Q:Value->Shared->Prop)(E:Value->Shared->Prop),Q (.int (g i j) s.toks) { s with toks:=s.toks+1 }->wpAny (model X.prog X.w) X.A (f (.int i t) (.int j u)) Q E s) :
  Ar X f (FT λi j=>.int (g i j)):=by
 intro Zd s Z H x y v u Q I b a h;obtain⟨i,j,rfl,rfl,q⟩:=h;obtain⟨t,rfl⟩:=b;obtain⟨t',rfl⟩:=a;exact rule i j t t' s _ _ ⟨.int (g i j),H,I.tok _,⟨_,rfl⟩,q⟩
theorem Pt{g:Int->Int->Bool}
  (rule:∀(i j:Int)(t u:Tok)(s:Shared)(Q:Value->Shared->Prop)(E:Value->Shared->Prop),Q (.bool (g i j)) s->wpAny (model X.prog X.w) X.A (f (.int i t) (.int j u)) Q E s) :
  Ar X f (FT λi j=>.bl (g i j)):=by
 intro Zd s Z H x y v u Q I b a h;obtain⟨i,j,rfl,rfl,q⟩:=h;obtain⟨t,rfl⟩:=b;obtain⟨t',rfl⟩:=a;exact rule i j t t' s _ _ ⟨.bl (g i j),H,I,rfl,q⟩
def xk(i j:Int):Prop:=0<=j/\j<=1000000/\i.natAbs<2 ^ 64
theorem EZ:Ar X (binaryOp .Add) (FT λi j=>.int (i+j)):=ao λ_ _ _ _ _ _ _ q=>add_int q
theorem eA:Ar X (binaryOp .Sub) (FT λi j=>.int (i - j)):=ao λ_ _ _ _ _ _ _ q=>sub_int q
theorem IZ:Ar X (binaryOp .Mod) (rI (λ_ j=>0<j) λi j=>.int (i % j)):=OI λi j _ _ _ _ _ a q=>by
 have h1:(0:Int)<j:=a;exact mod_int' (by omega) (by rw[Int.fmod_eq_emod_of_nonneg i (by omega)];exact q)
theorem Im:Ar X (binaryOp .Pow) (rI xk λi j=>.int (i ^ j.toNat)):=OI λ_ _ _ _ _ _ _ a q=>pow_int_small a.1 a.2.1 a.2.2 q
end
def UG:V->V->Bool
 | .A5,.A5=>true | .A5,.int _=>true | .int _,.A5=>true | .A5,.bl _=>true | .bl _,.A5=>true | .A5,.str _=>true | .str _,.A5=>true
 | .int _,.int _=>true | .bl _,.bl _=>true | .str _,.str _=>true | .FQ _,.FQ _=>true
 | .int _,.str _=>true | .str _,.int _=>true | .bl _,.str _=>true | .str _,.bl _=>true
 |_,_=>false
def Xf:R2:=λx y H Q=>UG x y=true/\Q (.bl (decide (x=y))) H
def ah:R2:=λx y H Q=>UG x y=true/\Q (.bl (!decide (x=y))) H
theorem Xm{i j:Int}:decide (V.int i=V.int j)=(i == j):=by
 rw[NS];simp
theorem aB{i j:Bool}:decide (V.bl i=V.bl j)=(i == j):=by
 rw[NS];simp
theorem ZP{i j:Str}:decide (V.str i=V.str j)=(i == j):=by
 rw[NS];simp
theorem bK{i j:Array UInt8}:decide (V.FQ i=V.FQ j)=(i.toList == j.toList):=by
 rw[NS];cases i;cases j;simp
section
variable{a b c:Expr}{pos:Pos}
theorem BN{Q:VK}{k a:Bool}(I:Inv X Zd Z H s)(q:Q (.bl k) H)(e:k=a):EP X Zd Z Q (.bool a) s:=by
 subst e;exact⟨.bl k,H,I,rfl,q⟩
theorem BL:Ar X (compareOp .Eq) Xf:=by
 intro Zd s Z H x y v u Q I c a h;obtain⟨b,q⟩:=h;cases x with
 |A5=>
  cases c;cases y with
  |A5=>cases a;exact PySem.EqNone.eq_none_none (BN I q (by simp))
  |bl j=>cases a;exact PySem.EqNone.eq_none_bool (BN I q (by simp))
  |int j=>obtain⟨t',rfl⟩:=a;exact PySem.EqNone.eq_none_int (BN I q (by simp))
  |str j=>obtain⟨t',rfl⟩:=a;exact PySem.EqNone.eq_none_str (BN I q (by simp))
  |_=>exact absurd (show false=true from b) Bt
 |bl i=>
  cases c;cases y with
  |A5=>cases a;exact PySem.EqNone.eq_bool_none (BN I q (by simp))
  |bl j=>cases a;exact eq_bool (BN I q aB)
  |str j=>obtain⟨t',rfl⟩:=a;exact PySem.EqMixed.eq_bool_str (BN I q (by simp))
  |_=>exact absurd (show false=true from b) Bt
 |int i=>
  obtain⟨t,rfl⟩:=c;cases y with
  |A5=>cases a;exact PySem.EqNone.eq_int_none (BN I q (by simp))
  |int j=>obtain⟨t',rfl⟩:=a;exact eq_int (BN I q Xm)
  |str j=>obtain⟨t',rfl⟩:=a;exact PySem.EqMixed.eq_int_str (BN I q (by simp))
  |_=>exact absurd (show false=true from b) Bt
 |str i=>
  obtain⟨t,rfl⟩:=c;cases y with
  |A5=>cases a;exact PySem.EqNone.eq_str_none (BN I q (by simp))
  |bl j=>cases a;exact PySem.EqMixed.eq_str_bool (BN I q (by simp))
  |int j=>obtain⟨t',rfl⟩:=a;exact PySem.EqMixed.eq_str_int (BN I q (by simp))
  |str j=>obtain⟨t',rfl⟩:=a;exact eq_str (BN I q ZP)
  |_=>exact absurd (show false=true from b) Bt
 |FQ i=>
  obtain⟨t,rfl⟩:=c;cases y with
  |FQ j=>obtain⟨t',rfl⟩:=a;exact PySem.W.eq_bytes (BN I q bK)
  |_=>exact absurd (show false=true from b) Bt
 |_=>cases y <;> exact absurd (show false=true from b) Bt
theorem Vr:Ar X (compareOp .NotEq) ah:=by
 intro Zd s Z H x y v u Q I c a h;obtain⟨b,q⟩:=h;cases x with
 |A5=>
  cases c;cases y with
  |A5=>cases a;exact PySem.EqNone.ne_none_none (BN I q (by simp))
  |bl j=>cases a;exact PySem.EqNone.ne_none_bool (BN I q (by simp))
  |int j=>obtain⟨t',rfl⟩:=a;exact PySem.EqNone.ne_none_int (BN I q (by simp))
  |str j=>obtain⟨t',rfl⟩:=a;exact PySem.EqNone.ne_none_str (BN I q (by simp))
  |_=>exact absurd (show false=true from b) Bt
 |bl i=>
  cases c;cases y with
  |A5=>cases a;exact PySem.EqNone.ne_bool_none (BN I q (by simp))
  |bl j=>cases a;exact ne_bool (BN I q (iK not aB))
  |str j=>obtain⟨t',rfl⟩:=a;exact PySem.EqMixed.ne_bool_str (BN I q (by simp))
  |_=>exact absurd (show false=true from b) Bt
 |int i=>
  obtain⟨t,rfl⟩:=c;cases y with
  |A5=>cases a;exact PySem.EqNone.ne_int_none (BN I q (by simp))
  |int j=>obtain⟨t',rfl⟩:=a;exact ne_int (BN I q (iK not Xm))
  |str j=>obtain⟨t',rfl⟩:=a;exact PySem.EqMixed.ne_int_str (BN I q (by simp))
  |_=>exact absurd (show false=true from b) Bt
 |str i=>
  obtain⟨t,rfl⟩:=c;cases y with
  |A5=>cases a;exact PySem.EqNone.ne_str_none (BN I q (by simp))
  |bl j=>cases a;exact PySem.EqMixed.ne_str_bool (BN I q (by simp))
  |int j=>obtain⟨t',rfl⟩:=a;exact PySem.EqMixed.ne_str_int (BN I q (by simp))
  |str j=>obtain⟨t',rfl⟩:=a;exact ne_str (BN I q (iK not ZP))
  |_=>exact absurd (show false=true from b) Bt
 |FQ i=>
  obtain⟨t,rfl⟩:=c;cases y with
  |FQ j=>obtain⟨t',rfl⟩:=a;exact PySem.W.ne_bytes (BN I q (iK not bK))
  |_=>exact absurd (show false=true from b) Bt
 |_=>cases y <;> exact absurd (show false=true from b) Bt
theorem Uu:Ar X (compareOp .Lt) (FT λi j=>.bl (decide (i<j))):=Pt λ_ _ _ _ _ _ _ q=>lt_int q
theorem HF:Ar X (compareOp .LtE) (FT λi j=>.bl (decide (i<=j))):=Pt λ_ _ _ _ _ _ _ q=>le_int q
theorem LF:Ar X (compareOp .Gt) (FT λi j=>.bl (decide (j<i))):=Pt λ_ _ _ _ _ _ _ q=>gt_int q
theorem kq:Ar X (compareOp .GtE) (FT λi j=>.bl (decide (j<=i))):=Pt λ_ _ _ _ _ _ _ q=>ge_int q
theorem Q8:Ar X (compareOp .In) (λx y H Q=>∃i j,x=.str i/\y=.str j/\Q (.bl (!(Builtin.Str.occurrences j i 0 j.length 1).isEmpty)) H):=by
 intro Zd s Z H x y v u Q I b a h;obtain⟨i,j,rfl,rfl,q⟩:=h;obtain⟨t,rfl⟩:=b;obtain⟨t',rfl⟩:=a;exact in_str (BN I q rfl)
theorem l0:Ar X (compareOp .Is) (λx y H Q=>y=.A5/\Q (.bl (decide (x=.A5))) H):=by
 intro Zd s Z H x y v u Q I a b h;obtain⟨rfl,q⟩:=h;cases b;refine is_none_gen (BN I q ?_);cases x <;> first
  | (cases a;rfl)
  | (obtain⟨t,rfl⟩:=a;rfl)
theorem Ar.or{r c:R2}(h:Ar X f r)(h':Ar X f c):Ar X f (λx y H Q=>r x y H Q∨c x y H Q):=by
 intro Zd s Z H x y v u Q I b a q;rcases q with q|q
 .exact h Zd s Z H x y v u Q I b a q
 .exact h' Zd s Z H x y v u Q I b a q
theorem br(b:Expr)(h:op≠.In:=by decide)(h2:op≠.NotIn:=by decide):behindInMarks op b=false:=by
 have c:(op == CmpOp.In)=false:=by cases op <;> first|rfl|exact absurd rfl h
 have a:(op == CmpOp.NotIn)=false:=by cases op <;> first|rfl|exact absurd rfl h2
 cases b <;> simp[behindInMarks,c,a]
def LM(t:TE):TT:=λZ H Q=>t Z H λx H'=>∃k,x=.bl k/\Q k H'
theorem iT{r:R2}(ho:Ar X (compareOp op) r)(ha:PE X a ta)(o:PE X b tb)(n:behindInMarks op b=false):PT X (.Compare a [op] [b] pos) (LM (BQ r ta tb)):=by
 intro Zd s Z H Q I h;refine wpAny_isTrue_Compare1 (AG (ha Zd s Z H _ I h) λv d⟨x,H1,I1,i,m⟩=>AG (o Zd d Z H1 _ I1 m) λu s2⟨y,H2,I2,g,l⟩=>
  AG (ho Zd s2 Z H2 x y v u _ I2 i g l) λc p⟨z,H3,I3,f,k,e,j⟩=>?_) n
 subst e;cases f;exact jN ⟨H3,I3,j⟩
def MP(r b:R2)(ta tb tc:TE):TE:=λZ H Q=>ta Z H λx H1=>tb Z H1 λy H2=>r x y H2 λz H3=>∃k,z=.bl k/\
 (if k=true then tc Z H3 λa H4=>b y a H4 Q else Q (.bl false) H3)
theorem Jz:(sizeLine:Nat)<2 ^ 63:=by rw[sizeLine_eq];decide
theorem MU:Ar X (binaryOp .Add) (λx y H Q=>∃i j,x=.str i/\y=.str j/\i.length+j.length<=sizeLine/\Q (.str (i++j)) H):=by
 intro Zd s Z H x y v u Q I b a h;obtain⟨i,j,rfl,rfl,c,q⟩:=h;obtain⟨t,rfl⟩:=b;obtain⟨t',rfl⟩:=a;exact add_str (λt' tk=>⟨.str (i++j),H,I.tok _,⟨_,rfl⟩,q⟩) c
theorem vals1{x:V}(r:Vals [x] us):∃u,us=[u]/\RelV x u:=by
 cases r with
 |cons b a=>cases a;exact⟨_,rfl,b⟩
theorem vals2{x y:V}(r:Vals [x,y] us):∃u a,us=[u,a]/\RelV x u/\RelV y a:=by
 cases r with
 |cons e d=>
  cases d with
  |cons c b=>cases b;exact⟨_,_,rfl,e,c⟩
theorem jv(b:X.calm=true):Be X (.builtin "max") (λxs H Q=>∃i j,xs=[.int i,.int j]/\Q (.int (if j > i then j else i)) H):=by
 intro Zd s Z H xs us Q I r h;obtain⟨i,j,rfl,q⟩:=h;obtain⟨u,c,rfl,⟨t,rfl⟩,⟨t',rfl⟩⟩:=vals2 r;refine max_two_ints (I.ok.hd b) λh' tk k=>⟨_,H,I.kept k,?_,q⟩
 by_cases a:j > i
 .rw[i6 a,i6 a];exact⟨_,rfl⟩
 .rw[hZ a,hZ a];exact⟨_,rfl⟩
theorem wW(b:X.calm=true):Be X (.builtin "min") (λxs H Q=>∃i j,xs=[.int i,.int j]/\Q (.int (if j<i then j else i)) H):=by
 intro Zd s Z H xs us Q I r h;obtain⟨i,j,rfl,q⟩:=h;obtain⟨u,c,rfl,⟨t,rfl⟩,⟨t',rfl⟩⟩:=vals2 r;refine min_two_ints (I.ok.hd b) λh' tk k=>⟨_,H,I.kept k,?_,q⟩
 by_cases a:j<i
 .rw[i6 a,i6 a];exact⟨_,rfl⟩
 .rw[hZ a,hZ a];exact⟨_,rfl⟩
theorem da:Be X (.type "int") (λxs H Q=>(∃i,xs=[.int i]/\Q (.int i) H)∨∃k,xs=[.bl k]/\Q (.int (if k then 1 else 0)) H):=by
 intro Zd s Z H xs us Q I r h;rcases h with⟨i,rfl,q⟩|⟨k,rfl,q⟩
 .obtain⟨u,rfl,t,rfl⟩:=vals1 r;exact call_int_int ⟨.int i,H,I,⟨_,rfl⟩,q⟩
 .obtain⟨u,rfl,a⟩:=vals1 r;cases a;exact call_int_bool ⟨.int (if k then 1 else 0),H,I.tok _,⟨_,rfl⟩,q⟩
theorem mO:Be X (.type "str") (λxs H Q=>∃i,xs=[.int i]/\i.natAbs.log2<1920/\Q (.str (toString i)) H):=by
 intro Zd s Z H xs us Q I r h;obtain⟨i,rfl,a,q⟩:=h;obtain⟨u,rfl,t,rfl⟩:=vals1 r;exact PySem.P.str_of_int a ⟨.str _,H,I.tok _,⟨_,rfl⟩,q⟩
end
structure WM (h:Heap) (x dx C:Addr) (mA:ZAg):Prop where
 obj:h.get? x=some (PySem.W.instObj C dx)
 ns:h.Ns1 dx mA
 ne:dx≠x
theorem YX{h:Heap}(n:h.Ns1 dx mA):∃od,h.get? dx=some od/\∀name,PySem.W.lookIn name od=some (mA name):=by
 obtain⟨o,es,ep,ho,hd,d,_,c⟩:=n;refine⟨o,ho,λname=>?_⟩;have e:=c name;unfold nsFind findBy at e;rw[<- zE]at e;unfold PySem.W.lookIn;rw[hd];dsimp only;split
 .rename_i y q;rw[q]at e;exact iK some e
 .rename_i q;rw[q]at e;have a:es.toList.any (·.refKey)=false:=by
   rw[List.any_eq_false];intro y b;obtain⟨z,t,HZ⟩:=d y (Array.mem_toList_iff.mp b);simp[DictEntry.refKey,HZ]
  have f:¬ es.toList.any (·.refKey)=true:=by rw[a];exact Bt
  rw[hZ f];exact iK some e
theorem WM.look{h:Heap}{x:Addr}(I:WM h x dx C mA):∃od,PySem.W.InstAt h x (PySem.W.instObj C dx) C (some od)/\∀name,PySem.W.lookIn name od=some (mA name):=
 let ⟨od,ho,hl⟩:=YX I.ns
 ⟨od,⟨I.obj,rfl,rfl,ho⟩,hl⟩
theorem GA.some_of{o:Option Value}(r:GA (some v) o):∃u,o=some u/\RelV v u:=by
 cases o with
 |none=>exact(show False from r).elim
 |some u=>exact⟨u,rfl,r⟩
theorem yU(r:RelV v u):PySem.W.handedIn u=true:=by
 cases v with
 |A5=>cases(show u=Value.none from r);rfl
 |bl b=>cases(show u=Value.bool b from r);rfl
 |int i=>obtain⟨t,e⟩:=(show ∃t,u=Value.int i t from r);cases e;rfl
 |str x=>obtain⟨t,e⟩:=(show ∃t,u=Value.str x t from r);cases e;rfl
 |FQ b=>obtain⟨t,e⟩:=(show ∃t,u=Value.bytes b t from r);cases e;rfl
 |HR b=>obtain⟨t,e⟩:=(show ∃t,u=Value.float b t from r);cases e;rfl
 |ref a=>cases(show u=Value.ref a from r);rfl
 |ty n=>cases(show u=Value.type n from r);rfl
section
variable{h:Heap}{fs W2:List (Str×V)}
theorem lW(AB:BY P w H h)(e:H a=some (.ins C dx fs)):∃mA,WM h a dx C mA/\(∀f,GA (fs.lookup f) (mA f))/\PySem.Within mA (fs.map (·.1))/\fs.length<=1000/\H dx=some (.own a):=by
 obtain⟨d,z,ne,ob,mA,n,r,q⟩:=(show Bz P w H h a (.ins C dx fs)from AB a _ e);exact⟨mA,⟨ob,n,ne⟩,r,q,z,d⟩
end
structure VP (K:ZAe) (C:Addr):Prop where
 pg:PySem.W.plainGet K C Str.empty=true
 hd:PySem.W.hasDictIn K C=true
 po:PySem.W.plainOver K C=true
 sa:PySem.W.findIn K (.ref C) "__setattr__"=some (some (.builtin "object.__setattr__"))
theorem VP.get{K:ZAe}{C:Addr}(c:VP K C)(f:Str):PySem.W.plainGet K C f=true:=c.pg
def Rt(K:ZAe)(C:Addr)(f:Str):Prop:=PySem.W.findIn K (.ref C) f=some none
structure Et (K:ZAe) (C:Addr) (f:Str) (v:V) (u:Value):Prop where
 at_:PySem.W.findIn K (.ref C) f=some (some u)
 rel:RelV v u
 get:PySem.W.specialIn K u "__get__"=some none
 cp:PySem.W.copiedNames.contains f=false
section
variable{fs:List (Str×V)}{f:Str}
theorem tE{env:Env}{pos:Pos}(b:attributeBase e f env (eval e env)=eval e env)
  (h:wpAny (model prog w) A (eval e env) (λo a=>wpAny (model prog w) A (getAttr o f true) Q E a) E s):wpAny (model prog w) A (eval (.Attribute e f pos) env) Q E s:=
 Attribute_any_ h (by rw[arm_eval_Attribute,b])
variable{o value:Expr}{pos pos' VX:Pos}{tv:TE}
variable{b:Bool}
inductive Dt (K:ZAe) (H:Hp):V->Value->Prop where
 |A5:Dt K H .A5 (.type "NoneType")
 |bl (x:Bool):Dt K H (.bl x) (.type "bool")
 |int (i:Int):Dt K H (.int i) (.type "int")
 |str (x:Str):Dt K H (.str x) (.type "str")
 |HR (x:UInt64):Dt K H (.HR x) (.type "float")
 |lst {a:Addr}{xs:List V}(e:H a=some (.lst xs)):Dt K H (.ref a) (.type "list")
 |EI {a:Addr}{o:Obj}{xs:List V}(e:H a=some (.EI o (.lst xs))):Dt K H (.ref a) (.type "list")
 |tup {a:Addr}{xs:List V}(e:H a=some (.tup xs)):Dt K H (.ref a) (.type "tuple")
 |dK {a:Addr}{AA:List (Key×V)}(e:H a=some (.dK AA)):Dt K H (.ref a) (.type "dict")
 |dT {a:Addr}{AA:List (List Key×V)}(e:H a=some (.dT AA)):Dt K H (.ref a) (.type "dict")
 |ins {a C dx:Addr}{fs:List (Str×V)}(e:H a=some (.ins C dx fs)) (cl:VP K C) (ha:PySem.W.findIn K (.ref C) "__class__"=some (some (.builtin "object.__class__")))
   (hn:PySem.W.specialIn K (.builtin "object.__class__") "__get__"=some (some (.builtin "getset_descriptor.__get__"))) (Gv:PySem.W.takesIn K (.builtin "object.__class__")=some true)
   (hm:PySem.W.mroIn K C (.type "object")=some true):Dt K H (.ref a) (.ref C)
theorem Yw{x:V}{t:Value}(I:Inv X Zd Z H s)(d:RelV x u)(ty:Dt X.K H x t)(e:PySem.W.kitOne X.K t c=some b)(h:∀tk,Q (.bool b) { s with toks:=tk }):
  wpAny (model X.prog X.w) A (call (.builtin "isinstance") [u,c]) Q E s:=by
 cases ty with
 |A5=>cases(show u=Value.none from d);exact GR PySem.W.kitx_none I.Ay True.intro e (λz=>nomatch z) h
 |bl y=>cases(show u=Value.bool y from d);exact GR PySem.W.kitx_bool I.Ay True.intro e (λz=>nomatch z) h
 |int i=>obtain⟨t,q⟩:=(show ∃t,u=Value.int i t from d);cases q;exact GR PySem.W.kitx_int I.Ay True.intro e (λz=>nomatch z) h
 |str y=>obtain⟨t,q⟩:=(show ∃t,u=Value.str y t from d);cases q;exact GR PySem.W.kitx_str I.Ay True.intro e (λz=>nomatch z) h
 |HR y=>obtain⟨t,q⟩:=(show ∃t,u=Value.float y t from d);cases q;exact GR PySem.W.kitx_float I.Ay True.intro e (λz=>nomatch z) h
 |@lst a xs ea=>
  cases(show u=Value.ref a from d);obtain⟨_,_,n,_,h1⟩:=(show Bz X.prog X.w H s.heap a (.lst xs)from I.AB a _ ea);exact GR zu I.Ay ⟨_,h1,rfl⟩ e (λz=>nomatch z) h
 |@EI a ob xs ea=>
  cases(show u=Value.ref a from d);obtain⟨_,_,_,n,_,h1⟩:=(show Bz X.prog X.w H s.heap a (.EI ob (.lst xs))from I.AB a _ ea);exact GR zu I.Ay ⟨_,h1,rfl⟩ e (λz=>nomatch z) h
 |@tup a xs ea=>
  cases(show u=Value.ref a from d);obtain⟨_,_,_,p⟩:=(show Bz X.prog X.w H s.heap a (.tup xs)from I.AB a _ ea);obtain⟨o,h1,h2,_⟩:=p.1;exact GR PySem.W.kitx_tuple I.Ay ⟨o,h1,h2⟩ e (λz=>nomatch z) h
 |@dK a AA ea=>
  cases(show u=Value.ref a from d);obtain⟨_,_,vs,_,p⟩:=(show Bz X.prog X.w H s.heap a (.dK AA)from I.AB a _ ea);obtain⟨o,es,ep,h1,h2,_⟩:=p;exact GR zt I.Ay ⟨o,h1,h2.1⟩ e (λz=>nomatch z) h
 |@dT a AA ea=>
  cases(show u=Value.ref a from d);obtain⟨_,_,xs,_,o,es,ep,h1,h2,_⟩:=(show Bz X.prog X.w H s.heap a (.dT AA)from I.AB a _ ea);exact GR zt I.Ay ⟨o,h1,h2.1⟩ e (λz=>nomatch z) h
 |@ins a C dx fs ea cl ha f Gv g=>
  cases(show u=Value.ref a from d);obtain⟨mA,O,_⟩:=lW I.AB ea;obtain⟨od,J,_⟩:=O.look;exact GR (PySem.W.kitx_own (cl.get _) cl.hd ha f Gv g) I.Ay J e (λz=>nomatch z) h
end
structure BJ (k:Nat) (A:Around):Prop where
 hd:A.handled=none
 dp:A.depth+3 * k+5<recursionLimit
 un:A.units+16 * k+200<cLine
theorem BJ.mono(r:BJ k A)(h:j<=k):BJ j A:=⟨r.hd,by have:=r.dp;omega,by have:=r.un;omega⟩
theorem BJ.deeper(r:BJ (k+1) A)(env:Env):BJ k (A.deeper env):=
 ⟨r.hd,by have:=r.dp;show A.depth+1+3 * k+5<_;omega,by have:=r.un;show A.units+3+16 * k+200<_;omega⟩
theorem rD:(A.under (.builtin "type.__call__" ⟨.ref C::us,kw⟩)).depth=A.depth+1:=by
 first|rfl|simp[Around.under,Code.weight,Code.isCreation,Code.isGuard,Code.isCaller,Code.frames,Code.isFrame,guardIds]
theorem jb:(A.under (.builtin "type.__call__" ⟨.ref C::us,kw⟩)).units=A.units+1:=by
 first|rfl|simp[Around.under,Code.cUnits,Code.frames,Code.isFrame]
theorem BJ.make(r:BJ (k+1) A)(C:Addr)(us:List Value)(kw:List (Str×Value)):BJ k (A.under (.builtin "type.__call__" ⟨.ref C::us,kw⟩)):=
 ⟨r.hd,by have:=r.dp;rw[rD];omega,by have:=r.un;rw[jb];omega⟩
theorem BJ.depth(r:BJ k A):A.depth<recursionLimit:=by have:=r.dp;omega
theorem BJ.units(r:BJ k A):A.units+64<cLine:=by have:=r.un;omega
theorem BJ.WQ(r:BJ k A):A.units<cLine:=by have:=r.un;omega
def B0:TA:=λ_ H Q=>Q [] H
def Ab(ta:TE)(a:TA):TA:=λZ H Q=>ta Z H λx H1=>a Z H1 λxs H2=>Q (x::xs) H2
section
variable{t:TA}{pos:Pos}
theorem ZR:PA X [] B0:=λ_ _ _ _ H Q I h=>Calls.spliced_nil ⟨[],H,I,.nil,h⟩
theorem S9(ha:PE X e te)(i:PA X es t)(g:starEach (e::es) X.env=(false,eval e X.env)::starEach es X.env:=by rfl):PA X (e::es) (Ab te t):=by
 intro pos Zd s Z H Q I h;rw[g];show wpAny _ _ (spliced ((false,eval e X.env)::backTo pos (starEach es X.env))) _ _ s;refine Calls.spliced_cons (AG (ha Zd s Z H _ I h) λu a Mq=>?_);obtain⟨x,H1,I1,c,f⟩:=Mq;exact AG (i pos Zd a Z H1 _ I1 f) λus s2 A6=>by obtain⟨xs,H2,I2,b,d⟩:=A6;exact⟨x::xs,H2,I2,.cons c b,d⟩
def WH(t:TA):TE:=λZ H Q=>t Z H λxs H1=>xs.length<=sizeLine/\∀p,H1 p=none->Q (.ref p) (upd H1 p (.tup xs))
def WV(t:TA):TE:=λZ H Q=>t Z H λxs H1=>xs.length<=sizeLine/\∀p,H1 p=none->Q (.ref p) (upd H1 p (.lst xs))
theorem vT{x1}(h:PA X es t):PE X (.Tuple es x1 pos) (WH t):=by
 intro Zd s Z H Q I d;refine wpAny_Tuple_spliced (AG (h pos Zd s Z H _ I d) λus a⟨xs,H1,I1,r,z,q⟩=>⟨by rw[<- r.length];exact z,?_⟩);have f:H1 a.heap.objs.size=none:=I1.AB.fresh (AZ _);refine⟨.ref a.heap.objs.size,upd H1 a.heap.objs.size (.tup xs),I1.laid (t':=a.toks) (λb u e=>Ao _ e) (AZ _) ?_,rfl,q _ f⟩;exact⟨z,us,r,⟨_,BE _ rfl,rfl,_,rfl⟩,λg c=>by rw[BE _ rfl]at c;cases c;rfl⟩
theorem qZ(h:PA X es t):PE X (.List es pos) (WV t):=by
 intro Zd s Z H Q I c;refine wpAny_List_spliced (AG (h pos Zd s Z H _ I c) λus a⟨xs,H1,I1,r,z,q⟩=>⟨by rw[<- r.length];exact z,?_⟩);have d:H1 a.heap.objs.size=none:=I1.AB.fresh (AZ _);refine⟨.ref a.heap.objs.size,upd H1 a.heap.objs.size (.lst xs),I1.laid (t':=a.toks) (λb u e=>Ao _ e) (AZ _) ?_,rfl,q _ d⟩;exact⟨z,us,0,r,BE _ rfl⟩
end
abbrev Sp:=List V->Hp->VK->XK->Prop
abbrev EV:=List Env->Hp->Shared->XK->Value->Shared->Prop
variable{CX:EV}
structure JW (P:Program) (w:World) (K:ZAe) (mg:ZAg) (Zk:Heap) (A:Around) (outer:List Env) (s:Shared) (H:Hp):Prop where
 frames:A.frames=some outer
 mod:Mod K mg Zk
 bs:∀b o,Zk.get? b=some o->s.heap.get? b=some o/\H b=none
 FJ:Zk.objs.size<=s.heap.objs.size
 EL:s.heap.FunFrames Zk outer
 Gn:∀b∈Bf outer,H b=none
 AB:BY P w H s.heap
 bare:AllBare s.gens
def CE(outer:List Env)(P:Program)(w:World)(H:Hp)(s:Shared)(Q:VK)(u:Value)(s':Shared):Prop:=
 ∃v H',s'.os=s.os/\AllBare s'.gens/\Un (Bf outer) [] H H' s.heap s'.heap/\BY P w H' s'.heap/\RelV v u/\Q v H'
def CR(CX:EV)(outer:List Env)(P:Program)(w:World)(H:Hp)(s:Shared)(Q:VK)(E:XK)(r:Result)(s':Shared):Prop:=
 match r with
 | .ok (.ret u)=>CE outer P w H s Q u s'
 | .ok _=>False
 | .error e=>CX outer H s E e s'
structure C5 (P:Program) (w:World) (K:ZAe) (mg:ZAg) (Zk:Heap) (CX:EV) (k:Nat) (f:Addr) (fd:FuncData) (ps:List Str) (sp:Sp):Prop where
 len:∀vs H Q E,sp vs H Q E->vs.length=ps.length
 run:∀(A:Around)(outer:List Env)(s:Shared)(H:Hp)(args:Args)(us:List Value)(vs:List V)(Q:VK)(E:XK),BJ k A->JW P w K mg Zk A outer s H->BindsTo s fd args (ps.zip us)->Vals vs us->sp vs H Q E->
  codeAny (model P w) A (.call (.ref f) args) (CR CX outer P w H s Q E) s
theorem C5.mono{K:ZAe}{f:Addr}{sp:Sp}(F:C5 P w K mg Zk CX j f fd ps sp)(h:j<=k):
  C5 P w K mg Zk CX k f fd ps sp:=⟨F.len,λA outer s H args us vs Q E a=>F.run A outer s H args us vs Q E (a.mono h)⟩
theorem C5.imp{P:Program}{w:World}{K:ZAe}{mg:ZAg}{Zk:Heap}{CX:EV}{k:Nat}{f:Addr}{fd:FuncData}{ps:List Str}{sp a:Sp}(F:C5 P w K mg Zk CX k f fd ps sp)
  (h:∀vs H Q E,a vs H Q E->sp vs H Q E):C5 P w K mg Zk CX k f fd ps a:=
 ⟨λvs H Q E q=>F.len vs H Q E (h _ _ _ _ q),λA outer s H args us vs Q E d e g b c=>F.run A outer s H args us vs Q E d e g b (h _ _ _ _ c)⟩
theorem JW.make{K:ZAe}(e:JW P w K mg Zk A outer s H)(C:Addr)(us:List Value)(kw:List (Str×Value)):
  JW P w K mg Zk (A.under (.builtin "type.__call__" ⟨.ref C::us,kw⟩)) outer s H:=⟨by first|exact e.frames|(simpa[Around.under,Code.envs,Code.isFrame,pushEnvs]using e.frames),e.mod,e.bs,e.FJ,e.EL,e.Gn,e.AB,e.bare⟩
theorem Inv.U8(I:Inv X Zd Z H s):JW X.prog X.w X.K X.mg X.base X.A X.stack s H:=
 ⟨I.ok.frames,I.ok.mod,I.bs,Ax I.ok.FJ I.sz,I.stack,I.Pj,I.AB,I.bare⟩
theorem Inv.after{Q:VK}(I:Inv X Zd Z H s)(h:CE X.stack X.prog X.w H s Q u s'):EP X Zd Z Q u s':=by
 obtain⟨v,H',os,bare,un,AB,r,q⟩:=h;obtain⟨hh,g,d,t,KN⟩:=s';obtain rfl:KN=s.os:=os;exact⟨v,H',I.call (h':=hh) (g':=g) (d':=d) (t':=t) (ch:=[]) un AB bare (λb z=>absurd z (by simp)),r,q⟩
def EE(sp:Sp)(Hz:List V)(E:XK)(t:TA):TE:=λZ H Q=>t Z H λvs H1=>sp (vs++Hz) H1 Q E
def Binds(K:ZAe)(fd:FuncData)(ps:List Str)(ds:List Value):Prop:=
 ∀(s:Shared)(us:List Value),K.In s.heap->(us++ds).length=ps.length->BindsTo s fd ⟨us,[]⟩ (ps.zip (us++ds))
theorem Binds.all{K:ZAe}(h:∀us:List Value,us.length=ps.length->bindArgs fd ⟨us,[]⟩=pure (ps.zip us)):Binds K fd ps []:=λs us _ hl=>by
 rw[Hu]at hl ⊢;exact .of_eq (h us hl)
def Passes(CX:EV)(X:Cx)(E:XK):Prop:=∀(Zd:ZAf)(Z:St)(H:Hp)(s:Shared)(e:Value)(s':Shared),Inv X Zd Z H s->CX X.stack H s E e s'->X.xe e s'
section
variable{f:Addr}{sp:Sp}{E:XK}{m:Str}{p pos apos:Pos}{o:Expr}{t:TA}
theorem oN{Q:VK}(F:C5 X.prog X.w X.K X.mg X.base CX k f fd ps sp)(c:BJ k X.A)(d:Binds X.K fd ps ds)(hd:Vals Hz ds)(hx:Passes CX X E)
  (I:Inv X Zd Z H s) (r:Vals vs us) (h:sp (vs++Hz) H Q E):wpAny (model X.prog X.w) X.A (call (.ref f) us) (EP X Zd Z Q) X.xe s:=by
 have b:Vals (vs++Hz) (us++ds):=r.append hd;have hl:(us++ds).length=ps.length:=by rw[<- b.length];exact F.len _ _ _ _ h
 refine qh (my (F.run X.A X.stack s H ⟨us,[]⟩ (us++ds) (vs++Hz) Q E c I.U8 (d s us I.Ay hl) b h) λr s' a=>?_);cases r with
 |error e=>exact hx Zd Z H s e s' I a
 |ok g=>
  cases g with
  |ret u=>exact I.after a
  |next=>exact False.elim a
  |brk=>exact False.elim a
  |cont=>exact False.elim a
theorem gO(F:C5 X.prog X.w X.K X.mg X.base CX k f fd ps sp)(a:BJ k X.A)(d:Gl X x)(b:X.mg x=some (.ref f))(c:PySem.W.keepIn X.K (.ref f)=true)(g:Binds X.K fd ps ds)(hd:Vals Hz ds)(hx:Passes CX X E)
  (ha:PA X (e::es) t) (B7:(x == ("__debug__":Str))=false:=by decide) (he:starEach (e::es) X.env=(false,eval e X.env)::starEach es X.env:=by rfl) (B1:(backTo pos (starEach es X.env)).any (·.1)=false:=by rfl) :
  PE X (.Call (.Name x p) (e::es) [] pos) (EE sp Hz E t):=by
 intro Zd s Z H Q I h;refine jZ (LO I d b ?_ B7);refine fX (h₀:=X.base) I.ok.mod.Jj c (AG (ha pos Zd s Z H _ I h) λus i⟨vs,H1,I1,r,q⟩=>⟨I1.Ay,?_⟩) he B1;exact oN F a g hd hx I1 r q
variable{ZAT:Pos}{KA:List Keyword}{tk:TA}{nm:Option Str}{g:List Value->List Value->List Value}{gV:List V->List V->List V}
end
structure B8 (N P:List Str) (sc:Scope):Prop where
 kind:sc.kind=.function
 co:sc.isCoroutine=false
 gen:sc.isGenerator=false
 nd:N.Nodup
 pre:N.take P.length=P
 par:∀x∈P,sc.names.lookup x=some .local∨sc.names.lookup x=some .cell
 ud:∀y∈sc.names,y.2≠.free
theorem cj{a:Str->Option NameKind}{x:Str}:∀{binds:List (Str×Value)}{m:ZAg},(∀v,(x,v)∉binds)->bindL a binds m x=m x
 | [],_,_=>rfl
 | (n,v)::r,m,h=>by
  unfold bindL;rw[cj λw hw=>h w (By _ hw)];split
  .have:x≠n:=by rintro rfl;exact h v FH
   simp[this]
  .rfl
theorem dC{a:Str->Option NameKind}{x:Str}:∀{binds:List (Str×Value)}{m:ZAg},(∀v,(x,v)∉binds)->bindC a binds m x=m x
 | [],_,_=>rfl
 | (n,v)::r,m,h=>by
  unfold bindC;rw[dC λw hw=>h w (By _ hw)];split
  .rfl
  .have:x≠n:=by rintro rfl;exact h v FH
   simp[this]
theorem Xs{a:Str->Option NameKind}{x:Str}{v:Value}:∀{P:List Str}{vs:List Value}{i:Nat}{m:ZAg},P.Nodup->P[i]?=some x->vs[i]?=some v->a x=some .local->
  bindL a (P.zip vs) m x=some v
 | [],_,_,_,_,h,_,_=>by simp at h
 |_::_,[],_,_,_,_,h,_=>by simp at h
 |p::P,w::vs,0,m,nd,h1,h2,hk=>by
  simp at h1 h2;subst h1;subst h2;show bindL a ((p,w)::P.zip vs) m p=_;unfold bindL;rw[cj λv b=>(List.nodup_cons.mp nd).1 (fL b).1,i6 hk];simp
 |p::P,w::vs,i+1,m,nd,h1,h2,hk=>by
  show bindL a ((p,w)::P.zip vs) m x=_;unfold bindL;exact Xs (i:=i) (List.nodup_cons.mp nd).2 (by simpa using h1) (by simpa using h2) hk
theorem cM{a:Str->Option NameKind}{x:Str}{v:Value}:∀{P:List Str}{vs:List Value}{i:Nat}{m:ZAg},P.Nodup->P[i]?=some x->vs[i]?=some v->a x≠some .local->
  bindC a (P.zip vs) m x=some v
 | [],_,_,_,_,h,_,_=>by simp at h
 |_::_,[],_,_,_,_,h,_=>by simp at h
 |p::P,w::vs,0,m,nd,h1,h2,hk=>by
  simp at h1 h2;subst h1;subst h2;show bindC a ((p,w)::P.zip vs) m p=_;unfold bindC;rw[dC λv b=>(List.nodup_cons.mp nd).1 (fL b).1,hZ hk];simp
 |p::P,w::vs,i+1,m,nd,h1,h2,hk=>by
  show bindC a ((p,w)::P.zip vs) m x=_;unfold bindC;exact cM (i:=i) (List.nodup_cons.mp nd).2 (by simpa using h1) (by simpa using h2) hk
def start(N:List Str)(vs:List V):St:=vs.map some++List.replicate (N.length - vs.length) none
def Eh(CX:EV)(P:Program)(w:World)(K:ZAe)(mg:ZAg)(Zk:Heap)(N:List Str)(qual:Str)(scope:Scope)(f:Addr)(cd:Value)(A:Around)(outer:List Env)(s:Shared)(H:Hp)(E:XK):Cx where
 prog:=P
 w:=w
 K:=K
 mg:=mg
 base:=Zk
 A:=A.deeper (envOfC qual scope s.heap.objs.size f cd)
 N:=N
 s₀:=s
 H₀:=H
 env:=envOfC qual scope s.heap.objs.size f cd
 outer:=outer
 stack:=envOfC qual scope s.heap.objs.size f cd::outer
 ex:=[]
 calm:=true
 fn:=λ_=>true
 pn:=[]
 xe:=λe s'=>wpAny (model P w) (A.deeper (envOfC qual scope s.heap.objs.size f cd)) (leaving (envOfC qual scope s.heap.objs.size f cd) e) (λ_ JS=>CX outer H s E e JS) (λa JS=>CX outer H s E a JS) s'
theorem Y9(h:sc.names.lookup x=some .cell):∃c,(cellsFrom n sc.names []).lookup x=some c:=by
 have q:=zq sc.names n [] (.inl h);exact Option.isSome_iff_exists.mp q
theorem oB{K:ZAe}{f:Addr}{l:Shared}{E:XK}
  (S:B8 N ps scope) (hd:A.handled=none) (e0:JW P w K mg Zk A outer s H) (hl:vs.length=ps.length) (r:Vals vs us)
  (x:InCallC s s.heap.objs.size (bindL (envOfC qual scope s.heap.objs.size f cd).kindOf (ps.zip us) λ_=>none) (cellsFrom (s.heap.objs.size+1) scope.names []) (bindC (envOfC qual scope s.heap.objs.size f cd).kindOf (ps.zip us) λ_=>none) l) :
  Inv (Eh CX P w K mg Zk N qual scope f cd A outer s H E) [] (start N vs) H l:=by
 have D:ps.length<=N.length:=by have:=iK List.length S.pre;rw[Em]at this;omega
 obtain⟨h1,tk,rfl,o⟩:=x.done;have j:∀b:Addr,b∉(Eh CX P w K mg Zk N qual scope f cd A outer s H E).ex:=λb z=>absurd (show b∈([]:List Addr)from z) (by simp);refine⟨⟨e0.mod,S.kind,rfl,rfl,AZ _,λy z c h1 h2=>?_,λy d=>?_,λy c _ h=>?_,λ_=>hd,Around.frames_deeper e0.frames,.inr ⟨rfl,rfl⟩,λb z=>absurd z (j b),e0.bs,e0.FJ,λb _ _=>j b,λb z=>absurd z (j b),e0.EL,e0.Gn⟩,
  rfl,e0.bare,Un.kept o,⟨_,x.toInCall.ns,λi y v h1 h2 C=>?_⟩,λy c h=>⟨_,x.cell y c h⟩,e0.AB.fresh (AZ _),λy c h=>?_,λp g=>absurd (show p∈([]:ZAf)from g) (by simp),e0.AB.kept o,?_⟩
 .exact name_of_addr x.apart (Kj h1) (Kj h2)
 .have d:scope.names.lookup y=some .cell∨scope.names.lookup y=some .free:=d;rcases d with d|d
  .exact Y9 d
  .exact absurd rfl (S.ud _ (Kj d))
 .exact Wv (x.above y c (Kj h))
 .have hi:i<vs.length:=by
   unfold start at h2
   by_cases hi:i<vs.length
   .exact hi
   .rw[JK (by simpa using hi)]at h2
    rw[fF]at h2;split at h2 <;> cases h2
  have ha:vs[i]?=some v:=by
   unfold start at h2;rw[Fm (by simpa using hi),B3]at h2
   cases e:vs[i]? with
   |none=>rw[e]at h2;cases h2
   |some a=>rw[e]at h2;cases h2;rfl
  obtain⟨u,m,B⟩:=r.get ha;have g:ps[i]?=some y:=by
   rw[<- S.pre,List.getElem?_take_of_lt (by omega)];exact h1
  have t:ps.Nodup:=by rw[<- S.pre];exact S.nd.sublist (ze _ _)
  refine⟨u,B,?_⟩;rcases S.par y (DJ g)with k|k
  .exact .inl ⟨k,Xs t g m k⟩
  .obtain⟨c,e⟩:=Y9 (n:=s.heap.objs.size+1) k;refine .inr ⟨.inl k,c,e,?_⟩;have q:=x.cell y c e;rw[cM t g m (by show scope.names.lookup y≠_;rw[k];decide)]at q;exact q
 .exact e0.AB.fresh (Wv (x.above y c (Kj h)))
 .unfold start;show _=N.length;rw[Cm,AH,QP];omega
theorem cG{K:ZAe}{f:Addr}{a:Arguments}{body:List Stmt}{p kV g m AS ct D:Value}{z od:Option Addr}
  {Fd:Array (Option Value)}{sp:Sp}(F:K.lookup f=some ⟨D,od,.func (PySem.W.fnOf name qual a body scope p kV g m z AS ct),Fd⟩) (E9:PySem.W.codeIn K AS qual=true) (S:B8 N ps scope)
  (len:∀vs H Q E,sp vs H Q E->vs.length=ps.length)
  (JP:∀(A:Around)(outer:List Env)(s:Shared)(H:Hp)(vs:List V)(Q:VK)(E:XK),BJ k (A.deeper (envOfC qual scope s.heap.objs.size f AS))->sp vs H Q E->
   ∃t,DE (Eh CX P w K mg Zk N qual scope f AS A outer s H E) body t/\t { nx:=λ_ H'=>Q .A5 H',rt:=Q } (start N vs) H) :
  C5 P w K mg Zk CX (k+1) f (PySem.W.fnOf name qual a body scope p kV g m z AS ct) ps sp:=by
 refine⟨len,λA outer s H args us vs Q E j e0 R r D9=>?_⟩;have hl:=len _ _ _ _ D9;have B:K.In s.heap:=e0.mod.Jj.keeps λb o e=>(e0.bs b o e).1;have i:s.heap.NoLimit:=e0.mod.nolimit.keeps λb o e=>(e0.bs b o e).1;have C:∀y∈ps.zip us,scope.names.lookup y.1=some .local∨(scope.names.lookup y.1=some .cell/\((cellsFrom (s.heap.objs.size+1) scope.names []).lookup y.1).isSome=true):=λ⟨n,v⟩G=>by
  rcases S.par n (fL G).1 with q|q
  .exact .inl q
  .exact .inr ⟨q,zq _ _ _ (.inl q)⟩
 refine codeAny_call_function j.depth (B _ _ F) rfl S.co S.gen rfl (PySem.W.codeRec_of B E9) (R _ _ _ _ ?_);refine wpAny_newFunctionEnv_cells S.kind C λenv O l x=>?_;subst O;refine⟨i.keeps x.toInCall.keep,codeAny_func ?_⟩;obtain⟨t,L,M⟩:=JP A outer s H vs Q E (j.deeper _) D9;have I:Inv (Eh CX P w K mg Zk N qual scope f AS A outer s H E) [] (start N vs) H l:=oB S j.hd e0 hl r x;refine i9 (L [] l (start N vs) H _ I M) (λT s' c=>?_) λe s' c=>c;have d:∀{σ':St}{H':Hp}{v:V}{u:Value},Inv (Eh CX P w K mg Zk N qual scope f AS A outer s H E) [] σ' H' s'->RelV v u->Q v H'->CE outer P w H s Q u s':=
  λ{σ' H' v u}J h q=>⟨v,H',J.os,J.bare,J.base,J.AB,h,q⟩
 cases T with
 |ret u=>
  obtain⟨v,σ',H',J,h,q⟩:=c;exact d J h q
 |next=>
  obtain⟨σ',H',J,q⟩:=c;exact d (v:=V.A5) (u:=Value.none) J rfl q
 |brk=>
  obtain⟨_,_,_,q⟩:=c;exact False.elim q
 |cont=>
  obtain⟨_,_,_,q⟩:=c;exact False.elim q
section
variable{p pos:Pos}{t:TA}{id T:String}{r:List V->Hp->VK->Prop}
def CJ(r:List V->Hp->VK->Prop)(t:TA):TE:=λZ H Q=>t Z H λvs H1=>r vs H1 Q
end
end L2
namespace HT
section
open PySem.SeqAt
open PySem.AutoSeq1 (wpAny_loadPart')
open PySem.MeetsSeq PySem.MeetsSeq2 PySem.MeetsSeq3
end
section
variable{prog:Program}{w:World}{A:Around}{E:Value->Shared->Prop}{s:Shared}
def D4(n d:Nat):Option Int->Nat
 |none=>d
 |some v=>if v<0 then(v+(n:Int)).toNat else min v.toNat n
theorem Zy(n d:Nat):D4 n d none=d:=rfl
theorem e6(n d k:Nat):D4 n d (some (k:Int))=min k n:=by
 show(if(k:Int)<0 then((k:Int)+(n:Int)).toNat else min (k:Int).toNat n)=min k n
 rw[hZ (by omega),GO]
end
end HT
namespace L2
variable{X:Cx}{r:V->List V->Hp->VK->Prop}{α:Type}{j n t':Nat}{i:Int}{Zd:ZAf}{Z:St}{H:Hp}{s:Shared}{xs ys:List V}{A2 its' us:List Value}{A:Around}{x y:V}{u v:Value}{T:String}
abbrev TO:=St->Hp->(Option Int->Hp->Prop)->Prop
def PO(X:Cx)(e:Option Expr)(t:TO):Prop:=
 ∀(Zd:ZAf)(s:Shared)(Z:St)(H:Hp)(Q:Option Int->Hp->Prop),Inv X Zd Z H s->t Z H Q->
  wpAny (model X.prog X.w) X.A (evalPart e X.env) (λu s'=>∃o H',Inv X Zd Z H' s'/\IsPart u o/\Q o H') X.xe s
def Ru:TO:=λ_ H Q=>Q none H
def Tp(t:TE):TO:=λZ H Q=>t Z H λx H1=>∃i,x=.int i/\Q (some i) H1
section
variable{e:Expr}{te:TE}{lo hi:Option Expr}{tl th:TO}{pos p2:Pos}
def IC(X:Cx)(r:V->Option Int->Option Int->Hp->VK->Prop):Prop:=
 ∀(Zd:ZAf)(s:Shared)(Z:St)(H:Hp)(x:V)(v b a:Value)(lo hi:Option Int)(c:Addr)(Q:VK),Inv X Zd Z H s->RelV x v->s.heap.IsSliceOf c b a .none->IsPart b lo->IsPart a hi->r x lo hi H Q->
  ∃T id,typeLookup (.type T) "__getitem__"=pure (some (.builtin id))/\s.TypeIs v T/\wpAny (model X.prog X.w) X.A (getItem v (.ref c)) (EP X Zd Z Q) X.xe s
theorem IC.or{r e:V->Option Int->Option Int->Hp->VK->Prop}(h:IC X r)(h':IC X e):IC X (λx lo hi H Q=>r x lo hi H Q∨e x lo hi H Q):=by
 intro Zd s Z H x v b a lo hi c Q I d g pl f q;rcases q with q|q
 .exact h Zd s Z H x v b a lo hi c Q I d g pl f q
 .exact h' Zd s Z H x v b a lo hi c Q I d g pl f q
def Vo(r:V->Option Int->Option Int->Hp->VK->Prop)(te:TE)(tl th:TO):TE:=λZ H Q=>te Z H λx H1=>tl Z H1 λl H2=>th Z H2 λu H3=>r x l u H3 Q
def Ji(xs:List V)(lo hi:Option Int):List V:=(xs.drop (HT.D4 xs.length 0 lo)).take (HT.D4 xs.length xs.length hi - HT.D4 xs.length 0 lo)
theorem xj(xs:List V)(lo hi:Option Int):(Ji xs lo hi).length<=xs.length:=by
 unfold Ji;rw[Em,Kd];omega
end
def G3(n:Nat)(i:Int):Option Nat:=if 0<=i then(if i<n then some i.toNat else none)else if -(n:Int)<=i then some (i+n).toNat else none
def BA(xs:List α)(i:Int):Option α:=(G3 xs.length i).bind λj=>xs[j]?
theorem WB(h:G3 n i=some j):seqIndex? i n=some j/\j<n/\-(n:Int)<=i/\i<n:=by
 unfold G3 at h
 by_cases a:0<=i
 .rw[i6 a]at h
  by_cases h1:i<n
  .rw[i6 h1]at h;have e:i.toNat=j:=B4 h;exact⟨by rw[seqIndex_of a h1,e],by omega,by omega,h1⟩
  .rw[hZ h1]at h;cases h
 .rw[hZ a]at h
  by_cases h1:-(n:Int)<=i
  .rw[i6 h1]at h;have e:(i+n).toNat=j:=B4 h;exact⟨by rw[seqIndex_neg (by omega) h1,e],by omega,h1,by omega⟩
  .rw[hZ h1]at h;cases h
theorem UL{xs:List α}{v:α}(h:BA xs i=some v):∃j,seqIndex? i xs.length=some j/\xs[j]?=some v/\j<xs.length/\-(xs.length:Int)<=i/\i<xs.length:=by
 unfold BA at h;cases e:G3 xs.length i with
 |none=>rw[e]at h;cases h
 |some j=>
  rw[e]at h;obtain⟨h1,h2,b,a⟩:=WB e;exact⟨j,h1,h,h2,b,a⟩
theorem Ez{xs:List α}{v:α}(h:xs[j]?=some v):BA xs (j:Int)=some v:=by
 have a:j<xs.length:=(List.getElem?_eq_some_iff.mp h).1;have e:G3 xs.length (j:Int)=some j:=by
  unfold G3;rw[i6 (by omega),i6 (by omega)];simp
 unfold BA;rw[e];exact h
def SN(b:Expr):Prop:=∀o i,subscripted b false o i=operate [o,i] (getItem o i)
def Gb(X:Cx)(r:R2):Prop:=
 ∀(value a:Expr)(Zd:ZAf)(s:Shared)(Z:St)(H:Hp)(x y:V)(v u:Value)(Q:VK),Inv X Zd Z H s->RelV x v->RelV y u->r x y H Q->
  subscripted a false v u=operate [v,u] (getItem v u)->wpAny (model X.prog X.w) X.A (subscriptTail value a v u) (EP X Zd Z Q) X.xe s
def FW(X:Cx)(id:String)(r:V->List V->Hp->VK->Prop):Prop:=
 ∀(Zd:ZAf)(s:Shared)(Z:St)(H:Hp)(x:V)(xs:List V)(v:Value)(us:List Value)(Q:VK),Inv X Zd Z H s->RelV x v->Vals xs us->r x xs H Q->
  wpAny (model X.prog X.w) X.A (call (.builtin id) (v::us)) (EP X Zd Z Q) X.xe s
section
variable{a b:Expr}{ta tb:TE}{pos:Pos}
theorem Gb.or{r d:R2}(h:Gb X r)(h':Gb X d):Gb X (λx y H Q=>r x y H Q∨d x y H Q):=by
 intro value a Zd s Z H x y v u Q I c b q e;rcases q with q|q
 .exact h value a Zd s Z H x y v u Q I c b q e
 .exact h' value a Zd s Z H x y v u Q I c b q e
theorem FW.or{id:String}{b:V->List V->Hp->VK->Prop}(h:FW X id r)(h':FW X id b):FW X id (λx xs H Q=>r x xs H Q∨b x xs H Q):=by
 intro Zd s Z H x xs v us Q I a rs q;rcases q with q|q
 .exact h Zd s Z H x xs v us Q I a rs q
 .exact h' Zd s Z H x xs v us Q I a rs q
def Z9(K:ZAe):R2:=λx y H Q=>∃p xs i v,x=.ref p/\y=.int i/\AN K H p xs/\BA xs i=some v/\Q v H
def Y1(K:ZAe):R2:=λx y H Q=>∃p xs i v,x=.ref p/\y=.int i/\Al K H p xs/\BA xs i=some v/\Q v H
def dH:R2:=λx y H Q=>∃z i c,x=.str z/\y=.int i/\z.length<=sizeLine/\BA z.cps.toList i=some c/\Q (.str ⟨#[c]⟩) H
theorem Bv:Gb X (Z9 X.K):=by
 intro value b Zd s Z H x y v u Q I k g h d;obtain⟨p,xs,i,z,rfl,rfl,l,m,q⟩:=h;cases k;obtain⟨t,rfl⟩:=g;obtain⟨A2,r,pl,A⟩:=I.list l;obtain⟨j,h1,h2,C,o,n⟩:=UL m;obtain⟨w,f,MK⟩:=r.get h2;have hl:=r.length;have B:=Jz;have a:EP X Zd Z Q w s:=⟨z,H,I,MK,q⟩
 by_cases e:0<=i
 .have c:i.toNat=j:=by
   rw[seqIndex_of e n]at h1;exact B4 h1
  exact item_listR pl.isList e (by omega) (by rw[c];simpa using f) a d
 .have c:(i+(A2.toArray.size:Int)).toNat=j:=by
   rw[seqIndex_neg (by omega) o]at h1;rw[Bh,<- hl];exact B4 h1
  exact subscriptTail_builtinR (x:=w) pl.isList.typeIs slot_list_getitem.lookup
   (wpAny_getItem_list_neg (Q:=λr s'=>r=w/\EP X Zd Z Q r s') pl.isList (by omega) (by rw[Bh] <;> omega) (by omega) (by rw[c];simpa using f) ⟨rfl,a⟩) d
theorem Ff:Gb X (Y1 X.K):=by
 intro value a Zd s Z H x y v u Q I d c h e;obtain⟨p,xs,i,z,rfl,rfl,f,g,q⟩:=h;cases d;obtain⟨t,rfl⟩:=c;obtain⟨A2,r,pl,l⟩:=I.tuple f;obtain⟨j,h1,h2,A,o,n⟩:=UL g;obtain⟨w,k,MK⟩:=r.get h2;have hl:=r.length;have m:=Jz;have b:EP X Zd Z Q w s:=⟨z,H,I,MK,q⟩;exact subscriptTail_builtinR (x:=w) pl.typeIs slot_tuple_getitem.lookup
  (getItem_tuple (j:=j) (Q:=λr s'=>r=w/\EP X Zd Z Q r s') pl (by omega) (by omega) (by rw[Bh,<- hl];exact h1) (by simpa using k) ⟨rfl,b⟩) e
theorem US:Gb X dH:=by
 intro value a Zd s Z H x y v u Q I d b h e;obtain⟨z,i,c,rfl,rfl,n,f,q⟩:=h;obtain⟨t,rfl⟩:=d;obtain⟨t',rfl⟩:=b;obtain⟨j,h1,h2,p,k,g⟩:=UL f;have hl:z.cps.toList.length=z.length:=by simp[Str.length]
 rw[hl]at h1 k g;have o:=Jz;exact tail_any (xt s z t) slot_str_getitem.lookup (getItem_str (c:=c) (by
  have m:decide (i < -(2 ^ 63:Int))=false:=j5 (by omega);have l:decide (i>=2 ^ 63)=false:=j5 (by omega);rw[m,l,Bool.or_false]) (by rw[h1];simpa using h2) ⟨.str ⟨#[c]⟩,H,I.tok _,⟨_,rfl⟩,q⟩) e
theorem wF(A2:List Value)(n j:Nat)(u:Value):Obj.mapSeq (·.setIfInBounds j u) { cls:=.type "list", data:=.seq A2.toArray n }={ cls:=.type "list", data:=.seq (A2.set j u).toArray n }:=by
 simp[Obj.mapSeq]
theorem Inv.lst{Zd:ZAf}{Z:St}{H:Hp}{s:Shared}{p:Addr}{xs:List V}(I:Inv X Zd Z H s)(h:H p=some (.lst xs)):
  ∃(A2:List Value)(n:Nat),Vals xs A2/\s.heap.get? p=some { cls:=.type "list", data:=.seq A2.toArray n }/\xs.length<=sizeLine:=by
 obtain⟨z,A2,n,r,e⟩:=I.AB p _ h;exact⟨A2,n,r,e,z⟩
theorem Inv.iJ{p:Addr}{a:Nat}{f:Obj->Obj}(I:Inv X Zd Z H s)(h:H p=some (.lst xs))
  (ho:s.heap.get? p=some { cls:=.type "list", data:=.seq A2.toArray n }) (hf:f { cls:=.type "list", data:=.seq A2.toArray n }={ cls:=.type "list", data:=.seq its'.toArray a }) (r:Vals ys its') (hz:ys.length<=sizeLine) (t:Nat) :
  Inv X Zd Z (upd H p (.lst ys)) { s with heap:=s.heap.update p f,toks:=t }:=by
 have e:(s.heap.update p f).get? p=some { cls:=.type "list", data:=.seq its'.toArray a }:=by
  rw[Ln f ho (by rw[hf] <;> rfl),hf]
 refine I.write (x:=p) (e:=p) (by rw[h];trivial) (.inl rfl) (λb u c q=>(Ht _ _ (BS c)).trans q) ⟨_,e⟩ ?_;exact⟨hz,its',a,r,e⟩
def d4:V->V->V->Hp->(Hp->Prop)->Prop:=λo i v H Q=>∃p xs k j,o=.ref p/\i=.int k/\H p=some (.lst xs)/\G3 xs.length k=some j/\Q (upd H p (.lst (xs.set j v)))
theorem set_list:TQ X d4:=by
 intro Zd s Z H o i v y z u Q I l m g h;obtain⟨p,xs,k,j,rfl,rfl,b,x,q⟩:=h;cases l;obtain⟨t,rfl⟩:=m;obtain⟨A2,n,r,ho,w⟩:=I.lst b;obtain⟨h1,h2,d,c⟩:=WB x;have hl:=r.length;have A:=Jz;have f:Inv X Zd Z (upd H p (.lst (xs.set j v))) { s with heap:=s.heap.update p (Obj.mapSeq (·.setIfInBounds j u)) }:=
  I.iJ b ho (wF A2 n j u) (r.set g j) (by rw[Hv];exact w) s.toks
 by_cases e:0<=k
 .have a:k.toNat=j:=by
   rw[seqIndex_of e c]at h1;exact B4 h1
  exact PySem.W.ki_setAt ho e (by omega) (by rw[Bh,<- hl];exact c) (by rw[a];exact⟨_,f,q⟩)
 .have a:(k+(A2.toArray.size:Int)).toNat=j:=by
   rw[seqIndex_neg (by omega) d]at h1;rw[Bh,<- hl];exact B4 h1
  exact PySem.W.ki_setBack ho (by omega) (by rw[Bh,<- hl];exact d) (by omega) (by rw[a];exact⟨_,f,q⟩)
theorem iC(lo hi:Option Int)(n:Nat):(sliceBounds lo hi none n).1=((HT.D4 n 0 lo:Nat):Int)/\(sliceBounds lo hi none n).2.1=((HT.D4 n n hi:Nat):Int)/\(sliceBounds lo hi none n).2.2=1:=by
 refine⟨?_,?_,rfl⟩
 .cases lo with
  |none=>simp[sliceBounds,HT.D4]
  |some i=>
   simp only[sliceBounds,HT.D4,fU,show(1:Int) > 0 by decide,vh]
   by_cases h:i<0
   .simp only[h,vh] <;> omega
   .simp only[h,ZA4] <;> omega
 .cases hi with
  |none=>simp[sliceBounds,HT.D4]
  |some i=>
   simp only[sliceBounds,HT.D4,fU,show(1:Int) > 0 by decide,vh]
   by_cases h:i<0
   .simp only[h,vh] <;> omega
   .simp only[h,ZA4] <;> omega
theorem nB(A2:List Value)(lo hi:Option Int):slicePick A2.toArray lo hi none=((A2.drop (HT.D4 A2.length 0 lo)).take (HT.D4 A2.length A2.length hi - HT.D4 A2.length 0 lo)).toArray:=by
 obtain⟨h1,h2,a⟩:=iC lo hi A2.toArray.size;unfold slicePick;rw[h1,h2,a];simp only[sliceRange_one,pick_run,Bh] <;> rfl
def dG(K:ZAe):V->Option Int->Option Int->Hp->VK->Prop:=λx lo hi H Q=>∃a xs,x=.ref a/\AN K H a xs/\∀p,H p=none->Q (.ref p) (upd H p (.lst (Ji xs lo hi)))
theorem JF:IC X (dG X.K):=by
 intro Zd s Z H x v k j lo hi l Q I e i pl f h;obtain⟨a,xs,rfl,hx,q⟩:=h;cases e;obtain⟨A2,r,d,g⟩:=I.list hx;have c:=r.length;refine⟨"list", _,slot_list_getitem.lookup,d.isList.typeIs,?_⟩;refine wpAny_getItem_list_slice d.isList i pl f .none (by simp) ?_ (by rw[Bh] <;> omega)
 rw[nB,<- c];refine⟨.ref s.heap.objs.size,_,I.laid (t':=s.toks) (o:=.lst (Ji xs lo hi)) (λb ob q=>Ao _ q) (AZ _) ?_,rfl,q _ (I.AB.fresh (AZ _))⟩;exact⟨Ax (xj xs lo hi) g,_,0,(r.drop (HT.D4 xs.length 0 lo)).take (HT.D4 xs.length xs.length hi - HT.D4 xs.length 0 lo),BE _ rfl⟩
def C6:V->Bool
 | .A5=>true
 | .bl _=>true
 | .int _=>true
 | .str _=>true
 |_=>false
def Dj:V->V->Bool
 | .A5,.A5=>true
 | .bl a,.bl b=>a == b
 | .bl a,.int b=>(if a then 1 else 0) == b
 | .int a,.bl b=>a == (if b then 1 else 0)
 | .int a,.int b=>a == b
 | .str a,.str b=>a == b
 |_,_=>false
theorem O5(d:RelV y u)(c:RelV x v)(f:C6 y=true)(e:C6 x=true):SeqAt.EqAt A s u v (Dj y x):=by
 cases y with
 |A5=>
  cases d;cases x with
  |A5=>cases c;exact SeqAt.EqAt.same _
  |bl b=>cases c;exact SeqAt.EqAt.none_bool b
  |int b=>obtain⟨t,rfl⟩:=c;exact SeqAt.EqAt.none_int b t
  |str b=>obtain⟨t,rfl⟩:=c;exact SeqAt.EqAt.none_str b t
  |_=>exact absurd (show false=true from e) Bt
 |bl a=>
  cases d;cases x with
  |A5=>cases c;exact SeqAt.EqAt.bool_none a
  |bl b=>cases c;exact SeqAt.EqAt.bool_bool a b
  |int b=>obtain⟨t,rfl⟩:=c;exact SeqAt.EqAt.bool_int a b t
  |str b=>obtain⟨t,rfl⟩:=c;exact SeqAt.EqAt.bool_str a b t
  |_=>exact absurd (show false=true from e) Bt
 |int a=>
  obtain⟨t',rfl⟩:=d;cases x with
  |A5=>cases c;exact SeqAt.EqAt.int_none a t'
  |bl b=>cases c;exact SeqAt.EqAt.int_bool a t' b
  |int b=>obtain⟨t,rfl⟩:=c;exact SeqAt.EqAt.int_int a t' b t
  |str b=>obtain⟨t,rfl⟩:=c;exact SeqAt.EqAt.int_str a t' b t
  |_=>exact absurd (show false=true from e) Bt
 |str a=>
  obtain⟨t',rfl⟩:=d;cases x with
  |A5=>cases c;exact SeqAt.EqAt.str_none a t'
  |bl b=>cases c;exact SeqAt.EqAt.str_bool a t' b
  |int b=>obtain⟨t,rfl⟩:=c;exact SeqAt.EqAt.str_int a t' b t
  |str b=>obtain⟨t,rfl⟩:=c;exact SeqAt.EqAt.str_str a t' b t
  |_=>exact absurd (show false=true from e) Bt
 |_=>exact absurd (show false=true from f) Bt
def GI(x:V)(u:Value):Bool:=match u with
 | .none=>Dj .A5 x
 | .bool b=>Dj (.bl b) x
 | .int i _=>Dj (.int i) x
 | .str z _=>Dj (.str z) x
 |_=>false
theorem UP(r:RelV y u)(f:C6 y=true):GI x u=Dj y x:=by
 cases y with
 |A5=>cases r;rfl
 |bl b=>cases r;rfl
 |int i=>obtain⟨t,rfl⟩:=r;rfl
 |str z=>obtain⟨t,rfl⟩:=r;rfl
 |_=>exact absurd (show false=true from f) Bt
theorem V9{x:V}:∀{xs:List V}{us:List Value},Vals xs us->xs.all C6=true->us.any (GI x)=xs.any λy=>Dj y x
 |_,_,.nil,_=>rfl
 |y::xs,u::us,.cons r t,f=>by
  rw[NU,DT]at f;rw[QK,QK,UP r f.1,V9 t f.2]
theorem Ob{A:Around}{s:Shared}{x:V}{v:Value}(b:RelV x v)(c:C6 x=true):∀{xs:List V}{us:List Value},Vals xs us->xs.all C6=true->∀u∈us,SeqAt.EqAt A s u v (GI x u)
 |_,_,.nil,_=>λu a=>by cases a
 |y::xs,u::us,.cons r t,f=>λd a=>by
  rw[NU,DT]at f;rcases List.mem_cons.mp a with rfl|a
  .rw[UP r f.1];exact O5 r b f.1 c
  .exact Ob b c t f.2 d a
def P8(x:V)(xs:List V):Bool:=xs.any λy=>Dj y x
def Q9(K:ZAe)(neg:Bool):R2:=λx y H Q=>∃p xs,y=.ref p/\(AN K H p xs∨Al K H p xs)/\C6 x=true/\xs.all C6=true/\Q (.bl (if neg then !P8 x xs else P8 x xs)) H
theorem Sh:Ar X (compareOp .In) (Q9 X.K false):=by
 intro Zd s Z H x y v u Q I b d h;obtain⟨p,xs,rfl,a,c,fs,q⟩:=h;cases d;rcases a with a|a
 .obtain⟨A2,r,pl,e⟩:=I.list a;refine SeqAt.in_listAt (GI x) pl.isList (λw hw=>Ob b c r fs w (by simpa using hw)) ⟨.bl _,H,I,rfl,?_⟩
  rw[show A2.toArray.any (GI x)=A2.any (GI x) by simp,V9 r fs];exact q
 .obtain⟨A2,r,pl,e⟩:=I.tuple a;refine SeqAt.in_tupleAt (GI x) pl (λw hw=>Ob b c r fs w (by simpa using hw)) ⟨.bl _,H,I,rfl,?_⟩
  rw[show A2.toArray.any (GI x)=A2.any (GI x) by simp,V9 r fs];exact q
theorem LP:Be X (.builtin "len") (λxs H Q=>∃p ys,xs=[.ref p]/\(AN X.K H p ys∨Al X.K H p ys)/\Q (.int ys.length) H):=by
 intro Zd s Z H xs us Q I r h;obtain⟨p,ys,rfl,b,q⟩:=h;obtain⟨u,rfl,d⟩:=vals1 r;cases d;have f:=Jz;rcases b with b|b
 .obtain⟨A2,c,pl,e⟩:=I.list b;have a:=c.length;exact Calls.call_len_list pl.isList (by simp only[Bh] <;> omega) ⟨.int ys.length,H,I.tok _,⟨s.toks+1,by rw[Bh,a]⟩,q⟩
 .obtain⟨A2,c,pl,e⟩:=I.tuple b;have a:=c.length;exact len_tuple pl (by simp only[Bh] <;> omega) ⟨.int ys.length,H,I.tok _,⟨s.toks+1,by rw[Bh,a]⟩,q⟩
theorem Kk:Be X (.builtin "len") (λxs H Q=>∃z,xs=[.str z]/\z.length<=sizeLine/\Q (.int z.length) H):=by
 intro Zd s Z H xs us Q I r h;obtain⟨z,rfl,a,q⟩:=h;obtain⟨u,rfl,t,rfl⟩:=vals1 r;have b:=Jz;exact len_str (by omega) ⟨.int z.length,H,I.tok _,⟨_,rfl⟩,q⟩
theorem Be.or{f:Value}{r a:List V->Hp->VK->Prop}(h:Be X f r)(h':Be X f a):Be X f (λxs H Q=>r xs H Q∨a xs H Q):=by
 intro Zd s Z H xs us Q I rs q;rcases q with q|q
 .exact h Zd s Z H xs us Q I rs q
 .exact h' Zd s Z H xs us Q I rs q
theorem kU:Be X (.type "list") (λxs H Q=>∃p ys,xs=[.ref p]/\(AN X.K H p ys∨Al X.K H p ys)/\∀l,H l=none->Q (.ref l) (upd H l (.lst ys))):=by
 intro Zd s Z H xs us Q I r h;obtain⟨p,ys,rfl,f,q⟩:=h;obtain⟨u,rfl,k⟩:=vals1 r;cases k;have i:∀(A2:List Value),Vals ys A2->ys.length<=sizeLine->∀(h':Heap)(c:Nat),(∀b o',s.heap.get? b=some o'->h'.get? b=some o')->
   h'.get? s.heap.objs.size=some { cls:=.type "list", dict:=none,data:=.seq A2.toArray c,slots:=#[] }->EP X Zd Z Q (.ref s.heap.objs.size) { s with heap:=h' }:=λA2 a d h' c kp e=>
  ⟨.ref s.heap.objs.size,_,I.laid (t':=s.toks) kp (AZ _) (show Bz X.prog X.w _ h' _ (.lst ys)from⟨d,A2,c,a,e⟩),rfl,q _ (I.AB.fresh (AZ _))⟩
 rcases f with f|f
 .obtain⟨A2,a,pl,d⟩:=I.list f;have g:=a.length;obtain⟨o,ho,j,n,hd⟩:=pl.isList;exact call_list_seq p (.inl rfl) ho j hd (λh' c kp e=>i A2 a d h' c kp e) (by simp only[Bh] <;> omega)
 .obtain⟨A2,a,pl,d⟩:=I.tuple f;have g:=a.length;obtain⟨o,ho,j,n,hd⟩:=pl;exact call_list_seq p (.inr rfl) ho j hd (λh' c kp e=>i A2 a d h' c kp e) (by simp only[Bh] <;> omega)
theorem dS:Be X (.type "tuple") (λxs H Q=>∃p ys,xs=[.ref p]/\((AN X.K H p ys/\∀l,H l=none->Q (.ref l) (upd H l (.tup ys)))∨(Al X.K H p ys/\Q (.ref p) H))):=by
 intro Zd s Z H xs us Q I r h;obtain⟨p,ys,rfl,h⟩:=h;obtain⟨u,rfl,j⟩:=vals1 r;cases j;rcases h with⟨c,q⟩|⟨c,q⟩
 .obtain⟨A2,a,pl,d⟩:=I.list c;have f:=a.length;refine call_tuple_list pl.isList (λh' kp=>?_) (by simp only[Bh] <;> omega)
  have i:Inv X Zd Z H { s with heap:=h' }:=I.kept (t':=s.toks) kp
  have k:Inv X Zd Z (upd H h'.objs.size (.tup ys)) { s with heap:=h'.push { cls:=.type "tuple", data:=.seq A2.toArray } }:=
   i.laid (t':=s.toks) (λb o e=>Ao _ e) (AZ _) (show Bz X.prog X.w _ _ _ (.tup ys)from⟨d,A2,a,⟨IsTup.new _ _,λm g=>by rw[BE _ rfl]at g;cases g;rfl⟩⟩)
  exact⟨.ref h'.objs.size,_,k,rfl,q _ (i.AB.fresh (AZ _))⟩
 .obtain⟨A2,a,pl,d⟩:=I.tuple c;exact call_tuple_same pl ⟨.ref p,H,I,rfl,q⟩
def JR(K:ZAe)(T:String)(x:V)(H:Hp):Prop:=match x with
 | .str _=>T="str"
 | .int _=>T="int"
 | .ref p=>(T="list" /\ ∃xs,AN K H p xs)∨(T="tuple" /\ ∃o,K.lookup p=some o/\o.cls=.type "tuple" /\ o.dict=none)∨
   (T="dict" /\ ((∃AA,H p=some (.dK AA))∨∃AA,H p=some (.dT AA)))∨(T="set" /\ ∃S n,H p=some (.set S n))∨(T="tuple" /\ ∃xs,H p=some (.tup xs))
 |_=>False
theorem ie(I:Inv X Zd Z H s)(r:RelV x v)(ty:JR X.K T x H):
  s.TypeIs v T/\∀a,v=.ref a->∃ob,s.heap.get? a=some ob/\ob.dict=none:=by
 cases x with
 |str z=>
  obtain⟨t,rfl⟩:=r;cases(show T="str" from ty);exact⟨xt s z t,λ_ e=>nomatch e⟩
 |int i=>
  obtain⟨t,rfl⟩:=r;cases(show T="int" from ty);exact⟨typeIs_int s i t,λ_ e=>nomatch e⟩
 |ref p=>
  cases r;rcases ty with⟨rfl,xs,f⟩|⟨rfl,o,b,g,hd⟩|⟨rfl,b⟩|⟨rfl,S,n,b⟩|⟨rfl,xs,b⟩
  .obtain⟨A2,_,pl,_⟩:=I.list f;refine⟨pl.isList.typeIs,λa e=>?_⟩;cases e;obtain⟨o,n,e,c,hd,_⟩:=pl;exact⟨o,e,hd⟩
  .refine⟨⟨o,I.Ay p o b,g⟩,λa e=>?_⟩;cases e;exact⟨o,I.Ay _ o b,hd⟩
  .have z:∃o,s.heap.get? p=some o/\o.ExactDict:=by
    rcases b with⟨AA,b⟩|⟨AA,b⟩
    .obtain⟨_,_,_,_,o,_,_,e,ex,_⟩:=I.AB p _ b;exact⟨o,e,ex⟩
    .obtain⟨_,_,_,_,o,_,_,e,ex,_⟩:=I.AB p _ b;exact⟨o,e,ex⟩
   obtain⟨o,e,ex⟩:=z;refine⟨⟨o,e,ex.1⟩,λa d=>?_⟩;cases d;exact⟨o,e,ex.2.1⟩
  .obtain⟨o,_,_,_,e,ex,_⟩:=I.AB p _ b;refine⟨⟨o,e,ex.1⟩,λa d=>?_⟩;cases d;exact⟨o,e,ex.2.1⟩
  .obtain⟨_,A2,_,⟨o,e,c,_⟩,h⟩:=I.AB p _ b;refine⟨⟨o,e,c⟩,λa d=>?_⟩;cases d;exact⟨o,e,h o e⟩
 |_=>exact False.elim ty
def Iz(K:ZAe)(T:String)(r:V->List V->Hp->VK->Prop)(to:TE)(t:TA):TE:=λZ H Q=>to Z H λx H1=>JR K T x H1/\t Z H1 λxs H2=>r x xs H2 Q
variable{o e:Expr}{es:List Expr}{to:TE}{t:TA}{name:Str}{apos Bs:Pos}{id:String}
end
def Om(X:Cx)(id:String)(r:V->List V->Hp->VK->Prop):Prop:=
 ∀(Zd:ZAf)(s:Shared)(Z:St)(H:Hp)(x:V)(xs:List V)(v:Value)(us:List Value)(Q:VK),Inv X Zd Z H s->RelV x v->Vals xs us->r x xs H Q->
  wpAny (model X.prog X.w) X.A (call (.builtin id) (v::us)) (EP X Zd Z Q) X.xe s
theorem Vals.one:∀{x:V}{us:List Value},Vals [x] us->∃u,us=[u]/\RelV x u:=λr=>vals1 r
theorem Vals.two:∀{x y:V}{us:List Value},Vals [x,y] us->∃u v,us=[u,v]/\RelV x u/\RelV y v:=λr=>vals2 r
theorem Vals.eraseIdx:∀{xs:List V}{us:List Value}(i:Nat),Vals xs us->Vals (xs.eraseIdx i) (us.eraseIdx i)
 |_,_,_,.nil=>.nil
 |_,_,0,.cons _ t=>t
 |_,_,i+1,.cons r t=>.cons r (Vals.eraseIdx i t)
theorem Vals.reverse(h:Vals xs us):Vals xs.reverse us.reverse:=by
 induction h with
 |nil=>exact .nil
 |cons r t a=>rw[QV,QV];exact Vals.append a (.cons r .nil)
theorem Vals.rep{xs:List V}{us:List Value}(h:Vals xs us):∀k:Nat,Vals (List.replicate k xs).flatten (List.replicate k us).flatten
 | 0=>.nil
 |k+1=>by
  rw[Hw,Hw,Lo,Lo];exact Vals.append h (Vals.rep h k)
theorem bM{α:Type}:∀(l:List α)(i:Nat),(l.eraseIdx i).length<=l.length
 | [],_=>AZ _
 |_::_,0=>GQ _
 |_::r,i+1=>zh (bM r i)
theorem foldl_rep(A2:List Value):∀(k:Nat)(acc:List Value),
  List.foldl (λb a=>b++a) acc.toArray (List.replicate k A2.toArray)=(acc++(List.replicate k A2).flatten).toArray
 | 0,acc=>by simp
 |k+1,acc=>by
  have e:acc.toArray++A2.toArray=(acc++A2).toArray:=by simp
  have c:(acc++A2)++(List.replicate k A2).flatten=acc++(List.replicate (k+1) A2).flatten:=by
   rw[Hw,Lo,JI]
  rw[<- c,<- foldl_rep A2 k (acc++A2),<- e,Hw,NW]
section
variable{l b:Addr}{zs:List V}
theorem Inv.Od{f:Array Value->Array Value}(I:Inv X Zd Z H s)(c:H l=some (.lst xs))
  (e:s.heap.get? l=some { cls:=.type "list", data:=.seq A2.toArray n }) (hf:f A2.toArray=its'.toArray) (hv:Vals ys its') (hz:ys.length<=sizeLine) :
  Inv X Zd Z (upd H l (.lst ys)) { s with heap:=s.heap.update l (Obj.mapSeq f),toks:=t' }:=by
 have q:=PySem.IsL.update e f;rw[hf]at q;refine I.write (x:=l) (e:=l) (by rw[c];exact trivial) (.inl rfl) (λd u b a=>(Ht s.heap (Obj.mapSeq f) (BS b)).trans a) ⟨_,q⟩ ?_;exact⟨hz,its',_,hv,q⟩
theorem Inv.Mt(I:Inv X Zd Z H s)(b:Vals ys A2)(a:ys.length<=sizeLine):
  Inv X Zd Z (upd H s.heap.objs.size (.lst ys)) { s with heap:=s.heap.push { cls:=.type "list", data:=.seq A2.toArray },toks:=t' }:=
 I.laid (λ_ _ q=>Ao _ q) (AZ _) ⟨a,A2,0,b,BE _ rfl⟩
theorem Inv.fresh(I:Inv X Zd Z H s):H s.heap.objs.size=none:=I.AB.fresh (AZ _)
theorem Inv.I0(I:Inv X Zd Z H s)(a:H l=some (.lst xs)):xs.length<=sizeLine/\∃(A2:List Value)(n:Nat),Vals xs A2/\xs.length=A2.length/\s.heap.get? l=some { cls:=.type "list", data:=.seq A2.toArray n }:=by
 obtain⟨z,A2,n,r,e⟩:=I.AB l _ a;exact⟨z,A2,n,r,r.length,e⟩
theorem lB(h:n<=sizeLine):Builtin.List.listTooLong n=false:=by
 unfold Builtin.List.listTooLong;exact j5 (by omega)
def Rx:V->List V->Hp->VK->Prop:=λx vs H Q=>∃l xs y,x=.ref l/\vs=[y]/\H l=some (.lst xs)/\xs.length<sizeLine/\Q .A5 (upd H l (.lst (xs++[y])))
theorem Qo:Om X "list.append" Rx:=by
 intro Zd s Z H x vs v us Q I b c h;obtain⟨l,xs,y,rfl,rfl,a,f,q⟩:=h;cases b;obtain⟨u,rfl,d⟩:=c.one;obtain⟨z,A2,n,r,hl,e⟩:=I.I0 a;refine qm F.slot_list_append ⟨_,e,rfl⟩ F.entry_list_append (F.args_list_append_2 _ _) (PySem.list_append l A2.toArray n u (by rw[Bh];omega)) ⟨e,?_⟩;refine⟨.A5,_,I.Od (its':=A2++[u]) a e (by simp) (r.append (.cons d .nil)) ?_,rfl,q⟩;rw[Cm,fJ];omega
def Um:V->List V->Hp->VK->Prop:=λx vs H Q=>∃l xs i k y,x=.ref l/\vs=[.int i]/\H l=some (.lst xs)/\-(2 ^ 63)<=i/\i<2 ^ 63/\seqIndex? i xs.length=some k/\xs[k]?=some y/\Q y (upd H l (.lst (xs.eraseIdx k)))
theorem xf:Om X "list.pop" Um:=by
 intro Zd s Z H x vs v us Q I b c h;obtain⟨l,xs,i,k,y,rfl,rfl,a,h1,h2,g,f,q⟩:=h;cases b;obtain⟨u,rfl,d⟩:=c.one;obtain⟨t,rfl⟩:=d;obtain⟨z,A2,n,r,hl,e⟩:=I.I0 a;obtain⟨w,hw,MK⟩:=r.get f;refine qm F.slot_list_pop ⟨_,e,rfl⟩ F.entry_list_pop (F.args_list_pop_2 _ _)
  (MeetsSeq.list_pop_at l A2.toArray n i t k w (fitsIndex_both h1 h2) (by rw[Bh,<- hl];exact g) (by rw[<- QH];exact hw) (by rw[Bh];omega)) ⟨e,?_⟩
 refine⟨y,_,I.Od (its':=A2.eraseIdx k) a e ?_ (r.eraseIdx k) ?_,MK,q⟩
 .show A2.toArray.eraseIdxIfInBounds k=(A2.eraseIdx k).toArray;rw[List.eraseIdxIfInBounds_toArray]
 .have:=bM xs k;omega
def Xk:R2:=λx y H Q=>∃l b xs zs,x=.ref l/\y=.ref b/\H l=some (.lst xs)/\H b=some (.lst zs)/\xs.length+zs.length<=sizeLine/\∀p,H p=none->Q (.ref p) (upd H p (.lst (xs++zs)))
theorem Il:Ar X (binaryOp .Add) Xk:=by
 intro Zd s Z H x y v u Q I c a h;obtain⟨l,b,xs,zs,rfl,rfl,f,g,m,q⟩:=h;cases c;cases a;obtain⟨z,A2,n,r,hl,e⟩:=I.I0 f;obtain⟨j,B5,k,d,C9,i⟩:=I.I0 g;refine PySem.P.add_list e i ?_ (by rw[Bh,Bh];omega);have ea:A2.toArray++B5.toArray=(A2++B5).toArray:=by simp
 rw[ea];exact⟨.ref _,_,I.Mt (t':=s.toks) (r.append d) (by rw[Cm];omega),rfl,q _ I.fresh⟩
def bu:R2:=λx y H Q=>∃l k xs,x=.ref l/\y=.int k/\H l=some (.lst xs)/\-(2 ^ 63)<=k/\k<2 ^ 63/\xs.length * k.toNat<=sizeLine/\
 ∀p,H p=none->Q (.ref p) (upd H p (.lst (List.replicate k.toNat xs).flatten))
theorem len_rep(xs:List α)(k:Nat):(List.replicate k xs).flatten.length=k * xs.length:=by
 induction k with
 |zero=>simp
 |succ k a=>rw[Hw,Lo,Cm,a,Nat.succ_mul,Nat.add_comm]
theorem mF:Ar X (binaryOp .Mult) bu:=by
 intro Zd s Z H x y v u Q I o j h;obtain⟨l,k,xs,rfl,rfl,w,h1,h2,f,q⟩:=h;cases o;obtain⟨t,rfl⟩:=j;obtain⟨z,A2,n,r,hl,e⟩:=I.I0 w;have b:A2.toArray.size * k.toNat<=sizeLine:=by rw[Bh,<- hl];exact f
 have i:¬ A2.toArray.size * k.toNat > (2 ^ 63 - 1) / 8:=by
  have:(sizeLine:Nat)<=(2 ^ 63 - 1) / 8:=by decide
  omega
 have A:¬ (!Builtin.List.listFitsIndex k)=true:=by
  rw[fitsIndex_both h1 h2];exact Bt
 have g:¬ Builtin.List.listTooLong (A2.toArray.size * k.toNat)=true:=by
  rw[lB b];exact Bt
 have p:List.foldl (λd c=>d++c) #[] (List.replicate (if A2.toArray.isEmpty=true then 0 else k.toNat) A2.toArray)=(List.replicate k.toNat A2).flatten.toArray:=by
  have f0:∀m:Nat,List.foldl (λd c=>d++c) #[] (List.replicate m A2.toArray)=(List.replicate m A2).flatten.toArray:=λm=>by
   have:=foldl_rep A2 m [];rw[List.nil_append]at this;exact this
  rw[f0];cases A2 with
  |nil=>simp
  |cons a B=>rw[hZ (by simp)]
 refine wpAny_binaryOp_repeat_ref (T:="list") (U:="int") (by decide) ⟨_,e,rfl⟩ (λs'=>typeIs_int s' k t) noFill_list_mul F.fills_int_mul F.slot_int_rmul repeat_list F.slot_int_index.lookup
  (qm F.slot_int_rmul (typeIs_int s k t) F.entry_int_rmul (F.args_int_rmul_2 _ _) (int___rmul___int_list k t l A2.toArray n)
   ⟨e,rfl,⟨_,e,rfl⟩,qm F.slot_list_mul ⟨_,e,rfl⟩ F.entry_list_mul (F.args_list_mul_2 _ _) (AutoListH.list___mul___list_int_3 l A2.toArray n k t A i g) ⟨e,?_⟩⟩)
 rw[p];exact⟨.ref _,_,I.Mt (t':=s.toks) (r.rep k.toNat) (by rw[len_rep,Nat.mul_comm];exact f),rfl,q _ I.fresh⟩
variable{prog:Program}{w:World}{E:Value->Shared->Prop}
set_option maxRecDepth 100000 in
end
end L2
namespace Yo
open PySem.W PySem.Calls
variable{P:Params}{l:OpenLaw}{n:Nat}{prog q:Program}
theorem sV{h:Heap}:∀(ns:List Int)(vs:List Value),WellAll P h vs (ns.map WData.int)->IntsAre vs ns:=by
 intro ns
 induction ns with
 |nil=>
  intro vs w;rw[List.map_nil]at w;cases w;exact .nil
 |cons n ns c=>
  intro vs w;rw[Cn]at w;cases w with
  |cons a b=>
   cases a;exact .cons _ _ (c _ b)
theorem mC(m:l.most=some n){h:Heap}{args:List WData}{vals:List Value}
  (O2:l.row.toRowW.claim.pre args=true) (UO:WellAll P h vals args) :
  ∃a vs ns,vals=[Value.ref a]/\args=[WData.list (ns.map WData.int)]/\h.get? a=some { cls:=.type "list", data:=.seq vs.toArray }/\IntsAre vs ns/\ns.length<=n:=by
 have j:WShape.hasAll [] args [.list .int]=true:=(pre_splitW O2).1;have f:l.pre.holds [] { args:=args }=true:=(pre_splitW O2).2;obtain⟨d,r,rfl,h1,h2⟩:=hasAllW_cons j;obtain rfl:=hasAllW_nil h2;obtain⟨xs,rfl,o⟩:=hasW_list h1;obtain⟨ns,rfl⟩:=items_int o;have b:ns.length<=n:=by
  unfold OpenLaw.pre at f;have e:(WTm.not (.lt (.lit (.int (n:Int))) (.len (.arg 0)))).holds [] { args:=[.list (ns.map .int)] }=true:=by
   have e:=(holds_andW f).1;rw[m]at e;exact e
  have c:=condW_of e (w_not (w_lt w_lit (w_len_list (w_arg rfl))));rw[AH]at c;refine QX λq=>?_;have k:(n:Int)<((ns.length:Nat):Int):=by omega
  first
   | (rw[gS k]at c;exact absurd c (by decide))
   | (simp at c;omega)
 cases UO with
 |cons i g=>
  cases g;cases i with
  |list ho J6=>exact⟨_,_,ns,rfl,rfl,ho,sV ns _ J6,b⟩
theorem vX(l:OpenLaw)(args:List WData):l.row.toRowW.claim.post args (.bool true) args=true:=
 postW_of (r:=l.row.toRowW) (X:=(true == true))
  (show WShape.has [] (.bool true) .bool=true by first|rfl|decide|simp[WShape.has,WShape.arms,WShape.armsAll])
  (show(WTm.eq .res (.lit (.bool true))).value [] { args:=args,res:=some (.bool true),after:=args }=some (.bool (true == true))from w_eq_bool (w_res rfl) w_lit) rfl
theorem kR{loose:List Str}{XP:(ZAg)->Heap->Prop}{YP:World->Heap->Prop}{d:DefRec}
  (m:l.most=some n) (MH:d.params.defaults=[])
  (call:∀(w:World)(s₀ b:Shared)(mg mb:ZAg)(h:Addr)(o:Obj)(i cd e:Value)(a:Addr)(vs:List Value)(ns:List Int),
   Ground q loose [] XP w s₀ mg mb b.heap->YP w b.heap->
   b.heap.get? h=some o->o.data=.func (docDef d.name d.params d.body d.scope i cd e)->b.heap.CodeRec cd d.name->mg d.name=some (.ref h)->
   b.heap.get? a=some { cls:=.type "list", data:=.seq vs.toArray }->IntsAre vs ns->ns.length<=n->b.gens=#[]->
   codeAny (model l.prog w) callerA (.call (.ref h) ⟨[.ref a],[]⟩) (λr s'=>r=.ok (.ret (.bool true))/\OldK b.heap s'.heap/\s'.os=b.os/\AllBare s'.gens) b) :
  WalkO q loose XP YP l.row.toRowW d [] (λf vs=>PySem.call f vs):=by
 intro w s₀ b mg mb G Y h o i cd e x kV ho hd E9 j M3 t args vals z O2 ZA8 y UO s;obtain rfl:x=.none:=Dflts.none j MH;obtain rfl:kV=.none:=Dflts.noKw j;obtain⟨a,vs,ns,rfl,rfl,Vi,c,g⟩:=mC m O2 UO;refine enter_call (my (call w s₀ b mg mb h o i cd e a vs ns G Y ho (fd_plain hd) E9 M3 Vi c g t) λr s' k=>?_);obtain⟨rfl,h2,v,u⟩:=k;exact⟨.inl ⟨.bool true,.bool true,[],rfl,λ_=>rfl,.bool true,vX l _,λ_=>⟨List.Pairwise.nil,λ_ p=>(nomatch p)⟩⟩,h2,v,u⟩
end Yo
namespace L2
variable{P q:Program}{w:World}{mg:ZAg}{k:Nat}{a f:Addr}{fd:FuncData}{qual x:Str}{sp:Sp}{loose ps:List Str}{X:Cx}{A B:Prop}
theorem Xz:∀{vs:List Value}{ns:List Int},IntsAre vs ns->Vals (ns.map V.int) vs
 |_,_,.nil=>.nil
 |_,_,.cons n t h=>.cons ⟨t,rfl⟩ (Xz h)
def S8(H:Hp):Prop:=∀b,H b=none∨∃o xs,H b=some (.EI o (.lst xs))
theorem kM{K:ZAe}{mb:ZAg}{CX:EV}{p:Addr}{c:Shared}{vs:List Value}{ns:List Int}
  (KX:K.In c.heap) (Iy:c.heap.Ns mainGlobals mg) (f:c.heap.Ns builtinsNs mb) (J:∀x:Str,x ≠"__name__" -> mb x=bootBuiltins x) (M:c.heap.NoLimit) (Q:c.gens=#[])
  (ha:c.heap.get? a=some { cls:=.type "list", data:=.seq vs.toArray }) (hi:IntsAre vs ns) (hl:ns.length<=sizeLine) (hr:BJ k callerA)
  (F:∀Zk:Heap,K.In Zk->Zk.Ns mainGlobals mg->C5 P w K mg Zk CX k p fd [x] sp) (o6:∀(s:Shared)(u:Value),BindsTo s fd ⟨[u],[]⟩ [(x,u)])
  (D9:∀H:Hp,S8 H->AN K H a (ns.map V.int)->sp [.ref a] H (λv _=>v=.bl true) λ_ _ _=>False)
  (Tx:∀H e s',CX [] H c (λ_ _ _=>False) e s'->False) :
  codeAny (model P w) callerA (.call (.ref p) ⟨[.ref a],[]⟩) (λr s'=>r=.ok (.ret (.bool true))/\OldK c.heap s'.heap/\s'.os=c.os/\AllBare s'.gens) c:=by
 have y:=Xz hi;have L:=hi.length
 -- from an abstract heap in ZAa nothing but GK aM may be tracked
 have g:∀H:Hp,S8 H->AN K H a (ns.map V.int)->BY P w H c.heap->(∀b,H b≠none->b=a)->(H a≠none->K.lookup a=none)->
   codeAny (model P w) callerA (.call (.ref p) ⟨[.ref a],[]⟩) (λr s'=>r=.ok (.ret (.bool true))/\OldK c.heap s'.heap/\s'.os=c.os/\AllBare s'.gens) c:=by
  intro H A R AB B T;have E:∀{b:Addr}{o:Obj},c.heap.get? b=some o->H b=none->(HW c.heap H).get? b=some o:=λe n=>w6 e n;have X:∀{b:Addr}{o:Obj}{es:Array DictEntry}{ep:Nat},c.heap.get? b=some o->o.data=.dict es ep->H b=none:=λ{b o es ep}e d=>by
   cases q:H b with
   |none=>rfl
   |some u=>
    have t:b=a:=B b (by rw[q];simp);subst t;rw[ha]at e;cases e;have d':Data.seq vs.toArray _=Data.dict es ep:=d;cases d'
  have j:∀{b:Addr}{m:ZAg},c.heap.Ns b m->(HW c.heap H).Ns b m:=λ{b m}A6=>by obtain⟨o,es,ep,e,d,r⟩:=A6;exact⟨o,es,ep,E e (X e d),d,r⟩
  have D:K.In (HW c.heap H):=λb o e=>E (KX b o e) (by
   cases q:H b with
   |none=>rfl
   |some u=>
    have t:b=a:=B b (by rw[q];simp);subst t;rw[T (by rw[q];simp)]at e;cases e)
  have S:Mod K mg (HW c.heap H):=⟨D,j Iy,⟨mb,j f,J⟩,let ⟨mc,h1,h2⟩:=M;⟨mc,j h1,h2⟩⟩;have e0:JW P w K mg (HW c.heap H) callerA [] c H:=⟨rfl,S,λb o e=>mf e,fN (gu _ _),trivial,λb f=>absurd (show b∈([]:List Addr)from f) (by simp),AB,.of_eq Q⟩;refine my ((F _ D (j Iy)).run callerA [] c H ⟨[.ref a],[]⟩ [.ref a] [.ref a] _ _ hr e0 (o6 c (.ref a)) (.cons rfl .nil) (D9 H A R)) λr s' h=>?_;cases r with
  |error e=>exact(Tx H e s' h).elim
  |ok U=>
   cases U with
   |next=>exact False.elim h
   |brk=>exact False.elim h
   |cont=>exact False.elim h
   |ret u=>
    obtain⟨v,H',os,bare,un,I,N,q⟩:=h;have O:v=.bl true:=q;subst O;obtain rfl:u=Value.bool true:=N;refine⟨rfl,OldK.of_keep λb o e=>?_,os,bare⟩;cases q:H b with
    |none=>exact un.keep b o e q (by intro z;exact absurd (show b∈([]:List Addr)from z) (by simp)) (by simp)
    |some u=>
     rcases A b with z|⟨ob,xs,z⟩
     .rw[q]at z;cases z
     .have G:=un.EH b ob _ z;obtain⟨C,_⟩:=AB b _ z;obtain⟨W,_⟩:=I b _ G;rw[e]at C;cases C;exact W
 cases l:K.lookup a with
 |some o=>
  -- GK aM is one of GK ZAb own objects
  have e:=KX a o l;rw[ha]at e;cases e;refine g (λ_=>none) (λ_=>.inl rfl) (.inr ⟨_,vs.toArray,_,l,rfl,rfl,rfl,by rw[Bh,L];exact hl,by simpa using y⟩) (λb u z=>by have i:(none:Option HO)=some u:=z;cases i) (λb z=>absurd rfl z) λz=>absurd rfl z
 |none=>
  refine g (λb=>if b=a then some (.EI { cls:=.type "list", data:=.seq vs.toArray } (.lst (ns.map V.int)))else none) (λb=>?_) (.inl (.inr ⟨{ cls:=.type "list", data:=.seq vs.toArray },i6 rfl⟩)) (λb u z=>?_) (λb z=>?_) λ_=>l
  .by_cases f:b=a
   .exact .inr ⟨_,_,i6 f⟩
   .exact .inl (hZ f)
  .by_cases f:b=a
   .have i:=(i6 f).symm.trans z;cases i;subst f;exact⟨ha,by rw[AH];exact hl,vs,_,y,ha⟩
   .have i:=(hZ f).symm.trans z;cases i
  .by_cases f:b=a
   .exact f
   .exact absurd (hZ f) z
theorem p8{l:PySem.W.OpenLaw}{n:Nat}{XP:(ZAg)->Heap->Prop}{YP:World->Heap->Prop}{d:DefRec}{K:Params->ZAe}{CX:World->EV}{sp:World->Sp}
  (t:l.most=some n) (Fi:n<=sizeLine) (MH:d.params.defaults=[]) (r:BJ k callerA)
  (A:∀(w:World)(h:Heap),YP w h->(K w.params).In h)
  (F:∀(w:World)(mg:ZAg)(j:Addr)(h:Heap),(K w.params).In h->h.Ns mainGlobals mg->mg d.name=some (.ref j)->
   ∃fd:FuncData,(∀(s:Shared)(u:Value),BindsTo s fd ⟨[u],[]⟩ [(x,u)])/\
    ∀Zk:Heap,(K w.params).In Zk->Zk.Ns mainGlobals mg->C5 l.prog w (K w.params) mg Zk (CX w) k j fd [x] (sp w))
  (D9:∀(w:World)(H:Hp)(a:Addr)(ns:List Int),ns.length<=n->S8 H->AN (K w.params) H a (ns.map V.int)->sp w [.ref a] H (λv _=>v=.bl true) λ_ _ _=>False)
  (Tx:∀(w:World)(H:Hp)(s:Shared)(e:Value)(s':Shared),CX w [] H s (λ_ _ _=>False) e s'->False) :
  PySem.W.WalkO q loose XP YP l.row.toRowW d [] (λf vs=>PySem.call f vs):=by
 refine Yo.kR t MH λw s₀ p mg mb j o I cd E a vs ns G Y ho hd E9 M3 Vi i c y=>?_;have m:=A w _ Y;obtain⟨fd,z,D⟩:=F w mg j _ m G.T.g M3;exact kM m G.T.g G.T.b G.T.builtins G.T.nolimit y Vi i (Ax c Fi) r D z (λH C B=>D9 w H a ns c C B) λH e s'=>Tx w H p e s'
def NC(s:Stmt):Arguments:=match s with
 | .FunctionDef _ a _ _ _ _ _ _ _ _=>a
 |_=>{ posonlyargs:=[],args:=[],vararg:=none,kwonlyargs:=[],kw_defaults:=[],kwarg:=none,defaults:=[] }
def IL(s:Stmt):List Stmt:=match s with
 | .FunctionDef _ _ b _ _ _ _ _ _ _=>b
 |_=>[]
def AW(s:Stmt):Scope:=match s with
 | .FunctionDef _ _ _ _ _ _ sc _ _ _=>sc
 |_=>{ kind:=.function,names:=[],isGenerator:=false,isCoroutine:=false }
abbrev ET:EV:=λ_ _ _ _ _ _=>False
abbrev E0:XK:=λ_ _ _=>False
theorem ua:Passes ET X E0:=λ_ _ _ _ _ _ _ h=>h.elim
structure AM (K:ZAe) (x qual:Str) (st:Stmt) (f:Addr) (fd:FuncData):Prop where
 ex:∃(oc:Value)(od:Option Addr)(kV doc pm:Value)(an:Option Addr)(AS ct:Value)(Fd:Array (Option Value)),
  fd=PySem.W.fnOf x qual (NC st) (IL st) (AW st) .none kV doc pm an AS ct/\K.lookup f=some ⟨oc,od,.func fd,Fd⟩/\PySem.W.codeIn K AS qual=true
 kp:PySem.W.keepIn K (.ref f)=true
section
variable{K:ZAe}{Zk:Heap}
theorem AM.ok{st:Stmt}{N:List Str}(F:AM K x qual st f fd)(S:B8 N ps (AW st))(len:∀vs H Q E,sp vs H Q E->vs.length=ps.length)
  (JP:∀(AS:Value)(A:Around)(outer:List Env)(s:Shared)(H:Hp)(vs:List V)(Q:VK)(E:XK),BJ k (A.deeper (envOfC qual (AW st) s.heap.objs.size f AS))->sp vs H Q E->
   ∃t,DE (Eh ET P w K mg Zk N qual (AW st) f AS A outer s H E).Mx (IL st) t/\t { nx:=λ_ H'=>Q .A5 H',rt:=Q } (start N vs) H):C5 P w K mg Zk ET (k+1) f fd ps sp:=by
 obtain⟨e,od,kV,c,d,g,AS,ct,Fd,rfl,a,E9⟩:=F.ex;refine cG a E9 S len λA outer s H vs Q E b D9=>?_;obtain⟨t,h,q⟩:=JP AS A outer s H vs Q E b D9;exact⟨t,h.Mx,q⟩
theorem AM.binds{st:Stmt}(F:AM K x qual st f fd)
  (h:∀(kV a b:Value)(c:Option Addr)(AS ct:Value)(us:List Value),us.length=ps.length->bindArgs (PySem.W.fnOf x qual (NC st) (IL st) (AW st) .none kV a b c AS ct) ⟨us,[]⟩=pure (ps.zip us)):Binds K fd ps []:=by
 obtain⟨d,od,kV,a,b,c,AS,ct,Fd,rfl,e,E9⟩:=F.ex;exact .all (h kV a b c AS ct)
theorem xO{st:Stmt}{e:Value}{od d:Option Addr}{Fd:Array (Option Value)}{kV a b AS ct:Value}(l:K.lookup f=some ⟨e,od,.func (PySem.W.fnOf x qual (NC st) (IL st) (AW st) .none kV a b d AS ct),Fd⟩)
  (c:PySem.W.codeIn K AS qual=true) (k:PySem.W.keepIn K (.ref f)=true):AM K x qual st f (PySem.W.fnOf x qual (NC st) (IL st) (AW st) .none kV a b d AS ct):=⟨⟨e,od,kV,a,b,d,AS,ct,Fd,rfl,l,c⟩,k⟩
theorem pv(i:Nat){pos:Pos}(a:X.N[i]?=some x:=by rfl)(hv:OJ X.env.scope x:=by first|exact Or.inl rfl|exact Or.inr (Or.inl rfl)|exact Or.inr (Or.inr rfl))(hd:(x == ("__debug__":Str))=false:=by decide)
  (E9:(x == ("__classdict__":Str))=false:=by decide):PE X (.Name x pos) (Br i):=dB a hv hd E9
end
theorem LB(h:B):if false=true then A else B:=by
 rw[hZ Bt];exact h
theorem TJ(h:A):if true=true then A else B:=by
 rw[i6 rfl];exact h
theorem Ag{c:Prop}[Decidable c](h1:c->A)(h2:¬ c->B):if c then A else B:=by
 by_cases h:c
 .rw[i6 h];exact h1 h
 .rw[hZ h];exact h2 h
def A9(H H':Hp):Prop:=∀b o,H b=some o->H' b=some o
theorem A9.refl(H:Hp):A9 H H:=λ_ _ h=>h
theorem A9.trans{H H1 H2:Hp}(a:A9 H H1)(b:A9 H1 H2):A9 H H2:=λc o h=>b c o (a c o h)
theorem A9.seq{K:ZAe}{H H':Hp}{xs:List V}(e:A9 H H')(h:AN K H a xs):AN K H' a xs:=by
 rcases h with(h|⟨o,h⟩)|h
 .exact .inl (.inl (e _ _ h))
 .exact .inl (.inr ⟨o,e _ _ h⟩)
 .exact .inr h
end L2
set_option maxHeartbeats 4000000
namespace L2
variable{α κ:Type}{k:Key}{o:Option V}{u v:Value}{y:V}{P prog:Program}{w:World}{H H' H1 H2 H4:Hp}{xs:List (List Key×Addr×Value)}{C a acc b it n:Addr}{X Y:Cx}{Zd:ZAf}{ws Z:St}{s s2 s4:Shared}{A:Around}{E Q:Value->Shared->Prop}{env:Env}{e elt tg value:Expr}{i j n0 t' tk:Nat}{td te:TE}{outer scope:Scope}{cl closure:List (Str×Addr)}{qual x z:Str}{ce:Option Str}{es ifs:List Expr}{R:Result->Shared->Prop}{js:List Nat}{tt:TT}{J:It}{tn:Nat->Heap->Prop}{wi:TI}{CW:It->St->Hp->Addr->VK->Prop}{IU px py:Pos}{N:List Str}{tp:Bool}{ys:List V}{A2:List Value}
section
variable[DecidableEq κ]
def Ho(AA:List (κ×V))(k:κ):Option V:=(AA.find? λa=>decide (a.1=k)).map (·.2)
def putK(AA:List (κ×V))(k:κ)(v:V):List (κ×V):=
 if(AA.any λa=>decide (a.1=k))=true then AA.map (λa=>if a.1=k then(a.1,v)else a)else AA++[(k,v)]
def dF(AA:List (κ×V))(k:κ):List (κ×V):=AA.filter λa=>decide (a.1≠k)
theorem Oo{p:κ×V}{r:List (κ×V)}{k:κ}(e:p.1=k):Ho (p::r) k=some p.2:=by simp[Ho,GP,e]
theorem Q2{p:κ×V}{r:List (κ×V)}{k:κ}(e:¬ p.1=k):Ho (p::r) k=Ho r k:=by simp[Ho,GP,e]
theorem Zi(k:κ):∀AA:List (κ×V),(AA.any λa=>decide (a.1=k))=(Ho AA k).isSome
 | []=>rfl
 |p::r=>by
  rw[QK]
  by_cases e:p.1=k
  .simp only[Oo e,gS e,Bool.true_or,zj]
  .rw[Q2 e,j5 e,eU];exact Zi k r
theorem GA.mU{u:Option Value}(r:GA o u):o.isSome=u.isSome:=by
 cases o with
 |none=>cases u with
  |none=>rfl
  |some _=>exact(show False from r).elim
 |some _=>cases u with
  |none=>exact(show False from r).elim
  |some _=>rfl
theorem KV.val{AA:List (κ×V)}{vs:List (κ×Value)}(r:KV AA vs)(k:κ):GA (Ho AA k) (valueAt vs k):=by
 unfold KV at r
 induction r with
 |nil=>exact True.intro
 |@cons p q ps qs h t c=>
  obtain⟨h1,h2⟩:=h
  by_cases e:p.1=k
  .have a:q.1=k:=h1.symm.trans e;have b:valueAt (q::qs) k=some q.2:=by simp[valueAt,GP,a]
   rw[Oo e,b];exact h2
  .have a:¬ q.1=k:=λz=>e (h1.trans z);have b:valueAt (q::qs) k=valueAt qs k:=by simp[valueAt,GP,a]
   rw[Q2 e,b];exact c
theorem KV.any{AA:List (κ×V)}{vs:List (κ×Value)}(r:KV AA vs)(k:κ):(AA.any λa=>decide (a.1=k))=vs.any λa=>decide (a.1=k):=by
 unfold KV at r
 induction r with
 |nil=>rfl
 |cons h t b=>rw[QK,QK,b,h.1]
theorem KV.VU{AA:List (κ×V)}{vs:List (κ×Value)}(r:KV AA vs)(k:κ)(b:RelV y u):
  KV (AA.map λa=>if a.1=k then(a.1,y)else a) (vs.map λa=>if a.1=k then(a.1,u)else a):=by
 unfold KV at r ⊢
 induction r with
 |nil=>exact .nil
 |@cons p q ps qs h t c=>
  rw[Cn,Cn];refine .cons ?_ c;obtain⟨h1,h2⟩:=h
  by_cases e:p.1=k
  .rw[i6 e,i6 (h1.symm.trans e)];exact⟨h1,b⟩
  .rw[hZ e,hZ (λz=>e (h1.trans z))];exact⟨h1,h2⟩
theorem KV.put{AA:List (κ×V)}{vs:List (κ×Value)}(r:KV AA vs)(k:κ)(a:RelV y u):KV (putK AA k y) (stored vs k u):=by
 unfold putK stored;rw[r.any k]
 by_cases e:(vs.any λb=>decide (b.1=k))=true
 .rw[i6 e,i6 e];exact r.VU k a
 .rw[hZ e,hZ e];exact Paired.snoc r ⟨rfl,a⟩
theorem KV.drop{AA:List (κ×V)}{vs:List (κ×Value)}(r:KV AA vs)(k:κ):KV (dF AA k) (without vs k):=by
 unfold KV at r ⊢;unfold dF without
 induction r with
 |nil=>exact .nil
 |@cons p q ps qs h t c=>
  obtain⟨h1,h2⟩:=h;rw[zU,zU]
  by_cases e:p.1=k
  .have a:¬ decide (p.1≠k)=true:=by simp[e]
   have b:¬ decide (q.1≠k)=true:=by simp[h1.symm.trans e]
   rw[hZ a,hZ b];exact c
  .have d:¬ q.1=k:=λz=>e (h1.trans z);have a:decide (p.1≠k)=true:=by simp[e]
   have b:decide (q.1≠k)=true:=by simp[d]
   rw[i6 a,i6 b];exact .cons ⟨h1,h2⟩ c
theorem KV.length{AA:List (κ×V)}{vs:List (κ×Value)}(r:KV AA vs):AA.length=vs.length:=Paired.length r
end
theorem XS(r:RelV (kV k) u):(KL P w).is k u=true:=by
 cases k with
 |inl i=>obtain⟨t,e⟩:=(show ∃t,u=Value.int i t from r);subst e;exact oO P w i t
 |inr x=>obtain⟨t,e⟩:=(show ∃t,u=Value.str x t from r);subst e;exact tf P w x t
abbrev KT(H:Hp):List (List Key×V)->List (List Key×Addr×Value)->Prop:=Paired λp q=>p.1=q.1/\H q.2.1=some (.tup (p.1.map kV))/\RelV p.2 q.2.2
theorem KT.val{AA:List (List Key×V)}(r:KT H AA xs)(k:List Key):GA (Ho AA k) ((atKey xs k).map (·.2)):=by
 induction r with
 |nil=>exact True.intro
 |@cons p q ps qs h t c=>
  obtain⟨h1,_,h2⟩:=h
  by_cases e:p.1=k
  .have a:q.1=k:=h1.symm.trans e;have b:atKey (q::qs) k=some q.2:=by simp[atKey,GP,a]
   rw[Oo e,b];exact h2
  .have a:¬ q.1=k:=λz=>e (h1.trans z);have b:atKey (q::qs) k=atKey qs k:=by simp[atKey,GP,a]
   rw[Q2 e,b];exact c
theorem KT.VU{AA:List (List Key×V)}(r:KT H AA xs)(k:List Key)(b:RelV y u):
  KT H (AA.map λa=>if a.1=k then(a.1,y)else a) (xs.map (putAt k u)):=by
 induction r with
 |nil=>exact .nil
 |@cons p q ps qs h t c=>
  rw[Cn,Cn];refine .cons ?_ c;obtain⟨h1,h2,d⟩:=h;unfold putAt
  by_cases e:p.1=k
  .rw[i6 e,i6 (h1.symm.trans e)];exact⟨h1,h2,b⟩
  .rw[hZ e,hZ (λz=>e (h1.trans z))];exact⟨h1,h2,d⟩
theorem KT.put{AA:List (List Key×V)}(r:KT H AA xs)(k:List Key)(d:H b=some (.tup (k.map kV)))(a:RelV y u):
  KT H (putK AA k y) (storedH xs k b u):=by
 have e:(AA.any λc=>decide (c.1=k))=(atKey xs k).isSome:=by
  rw[Zi,(r.val k).mU,zi]
 unfold putK storedH;rw[e]
 by_cases q:(atKey xs k).isSome=true
 .rw[i6 q,i6 q];exact r.VU k a
 .rw[hZ q,hZ q];exact Paired.snoc r ⟨rfl,d,a⟩
theorem KT.keeps{AA:List (List Key×V)}(r:KT H AA xs)(a:∀b ys,H b=some (.tup ys)->H' b=some (.tup ys)):KT H' AA xs:=
 Paired.Nt r λ_ _ z=>⟨z.1,a _ _ z.2.1,z.2.2⟩
def RE(i:Expr):Prop:=∀a b,subscripted i false a b=operate [a,b] (getItem a b)
theorem xY{a:Expr}{pos:Pos}{T id:String}
  (hl:typeLookup (.type T) "__getitem__"=pure (some (.builtin id))) (l:RE a)
  (h:wpAny (model prog w) A (eval value env) (λo f=>wpAny (model prog w) A (eval a env) (λi c=>c.TypeIs o T/\wpAny (model prog w) A (getItem o i) Q E c) E f) E s) :
  wpAny (model prog w) A (eval (.Subscript value a pos) env) Q E s:=by
 refine Subscript_ (i9 h (λo f k=>i9 k (λi c d=>?_) λ_ _ x=>x) λ_ _ x=>x);obtain⟨g,d⟩:=d;unfold subscriptTail;refine fq ?_;rw[getitemInPython_of_ne g.not_modules];refine fq (sL g hl ?_);have b:wpAny (model prog w) A (subscripted a false o i) (λr e=>wpAny (model prog w) A (letTemporaryGo value o r >>= λ_=>pure r) Q E e) E c:=by
  rw[l o i];exact wpAny_operating (i9 d (λr e j=>fq (wpAny_letTemporaryGo (fv j))) λ_ _ x=>x)
 first
  |exact fv (fq b)
  |exact fq (fv (fq b))
  |exact fq b
theorem vL{β:Type}{l:List α}{f:α->β->Sem (ForInStep β)}(g:β->α->β)(h:∀x∈l,∀c,f x c=pure (.yield (g c x))):∀c,forIn l c f=pure (l.foldl g c):=by
 induction l with
 |nil=>intro c;rfl
 |cons x l a=>
  intro c;rw[QM,h x FH,pure_bind];exact a (λy b=>h y (By _ b)) (g c x)
def Jg(cells:List (Str×Addr))(cs:List (Str×Addr))(x:Str×NameKind):List (Str×Addr):=
 if x.2=.free then(x.1,(cells.lookup x.1).getD 0)::cs else cs
def Au(cells:List (Str×Addr))(names:List (Str×NameKind)):List (Str×Addr):=names.foldl (Jg cells) []
theorem jE(h:∀x∈scope.names,x.2=.free->(env.cells.lookup x.1).isSome=true):closureFor scope env=pure (Au env.cells scope.names):=by
 simp only[closureFor];rw[vL (Jg env.cells) (λx hx c=>by
  obtain⟨n,k⟩:=x;unfold Jg
  by_cases b:k=NameKind.free
  .subst b;have q:=h _ hx rfl;obtain⟨a,ha⟩:=Option.isSome_iff_exists.mp q;have d:env.cells.lookup n=some a:=ha;have e:cellOf env n=pure a:=by unfold cellOf;rw[d]
   simp[e,d]
  .have:(k == NameKind.free)=false:=by simpa using b
   simp[this,b])]
 rfl
theorem bC{cells:List (Str×Addr)}:∀(names:List (Str×NameKind))(acc:List (Str×Addr)),(∀y∈names,y.2=.free->(cells.lookup y.1).isSome=true)->
  (∀x c,acc.lookup x=some c->cells.lookup x=some c)->∀x c,(names.foldl (Jg cells) acc).lookup x=some c->cells.lookup x=some c
 | [],acc,_,ha,x,c,e=>ha x c e
 | (n,k)::r,acc,hs,ha,x,c,e=>by
  rw[NW]at e;refine bC r _ (λy f=>hs y (By _ f)) (λx c e=>?_) x c e;unfold Jg at e
  by_cases b:k=NameKind.free
  .rw[i6 b]at e;have q:=hs _ FH b;obtain⟨a,q⟩:=Option.isSome_iff_exists.mp q;have d:cells.lookup n=some a:=q;rw[HA]at e
   by_cases hx:x=n
   .subst hx;simp only[jR,d,Option.getD_some]at e;rw[d,<- e]
   .have g:(x == n)=false:=by simpa using hx
    rw[g]at e;exact ha x c e
  .rw[hZ b]at e;exact ha x c e
theorem Ry{cells:List (Str×Addr)}{x:Str}:∀(names:List (Str×NameKind))(acc:List (Str×Addr)),((acc.lookup x).isSome=true∨(x,NameKind.free)∈names)->
  ((names.foldl (Jg cells) acc).lookup x).isSome=true
 | [],acc,h=>by
  rcases h with h|h
  .exact h
  .cases h
 | (n,k)::r,acc,h=>by
  rw[NW];refine Ry r _ ?_;unfold Jg;rcases h with h|h
  .refine .inl ?_;split
   .rw[HA];split
    .rfl
    .exact h
   .exact h
  .rcases List.mem_cons.mp h with e|h
   .cases e;refine .inl ?_;rw[i6 rfl,HA];simp
   .exact .inr h
theorem Ny{env:Env}:∀(names:List (Str×NameKind))(x:Str),
  (names.map λ(n,k)=>if(k == NameKind.free && env.scope.kind == .function && env.kindOf n == some .cell)then(n,NameKind.cell)else(n,k)).lookup x =
   (names.lookup x).map λk=>if(k == NameKind.free && env.scope.kind == .function && env.kindOf x == some .cell)then NameKind.cell else k
 | [],x=>rfl
 | (n,k)::r,x=>by
  have c:=Ny (env:=env) r x;rw[Cn]
  by_cases a:(k == NameKind.free && env.scope.kind == .function && env.kindOf n == some .cell)=true
  .show List.lookup x ((if(k == NameKind.free && env.scope.kind == .function && env.kindOf n == some .cell)=true then(n,NameKind.cell)else(n,k))::_)=_
   rw[i6 a,HA,HA]
   by_cases hx:x=n
   .subst hx;simp only[jR,Qd];rw[i6 a]
   .have b:(x == n)=false:=by simpa using hx
    rw[b];exact c
  .show List.lookup x ((if(k == NameKind.free && env.scope.kind == .function && env.kindOf n == some .cell)=true then(n,NameKind.cell)else(n,k))::_)=_
   rw[hZ a,HA,HA]
   by_cases hx:x=n
   .subst hx;simp only[jR,Qd];rw[hZ a]
   .have b:(x == n)=false:=by simpa using hx
    rw[b];exact c
abbrev ED(X:Cx)(N:List Str)(scope:Scope)(cl:List (Str×Addr))(C:Addr)(s:Shared)(H:Hp)(fp:List Addr):Cx:=
 { X with N:=N,s₀:=s,H₀:=H,env:=compEnvC scope cl C X.env,outer:=X.stack,ex:=fp,fn:=λ_=>false,pn:=[],xe:=λ_ _=>False }
def Aq(js:List Nat)(Z:St):St:=js.map λj=>(Z[j]?).join
structure DN (N:List Str) (outer scope:Scope) (x:Str) (A8:List Str) (js:List Nat):Prop where
 kind:scope.kind=.function
 Jh:∀y∈scope.names,y.2≠.cell
 loc:∀y∈scope.names,y.2=.local->scope.names.lookup y.1=some .local
 Io:scope.names.lookup x=some .local
 at':js.map (λj=>N[j]?)=A8.map some
 cell:∀y∈A8,outer.names.lookup y=some .cell
 free:∀y∈A8,scope.names.lookup y=some .free
 all:∀y∈scope.names,y.2=.free->outer.names.lookup y.1=some .cell
 nd:(A8++[x]).Nodup
def FL(X:Cx)(ifs:List Expr)(t:TT):Prop:=
 ∀(Zd:ZAf)(s:Shared)(Z:St)(H:Hp)(Q:Bool->Hp->Prop),Inv X Zd Z H s->t Z H Q->
  wpAny (model X.prog X.w) X.A (forIn ifs true λc r=>if r=true then do let ok <- isTrue c X.env (eval c X.env);pure (ForInStep.yield ok)else pure (ForInStep.yield r)) (TP X Zd Z Q) X.xe s
def RK:TT:=λ_ H Q=>Q true H
def KI(J:It)(js:List Nat)(tt:TT)(te:TE)(Z:St)(H1:Hp)(acc:Addr)(Q:VK):Prop:=
 ∃W:Nat->Nat->Hp->Prop,(∃m,W 0 m (upd H1 acc (.lst [])))/\∀i m H2,W i m H2->
  (J.stop i H2/\Q (.ref acc) H2)∨(J.go i H2/\∀x H3,J.Dg i H2 x H3->tt (Aq js Z++[some x]) H3 λb H4=>
   if b=true then te (Aq js Z++[some x]) H4 λy H5=>∃ys,H5 acc=some (.lst ys)/\ys.length<sizeLine/\∃a,a < m/\W (i+1) a (upd H5 acc (.lst (ys++[y])))
   else ∃a,a < m/\W (i+1) a H4)
def KO(wi:TI)(js:List Nat)(tt:TT)(te:TE):TE:=λZ H Q=>wi Z H λJ H1=>∀acc,H1 acc=none->KI J js tt te Z H1 acc Q
theorem uo(l:List α)(a b:α):(l++[a]).set l.length b=l++[b]:=by
 induction l with
 |nil=>rfl
 |cons x l c=>simp[c]
def GB:Option Str->Addr->List (Str×Addr)
 |none,_=>[]
 |some x,n=>[(x,n)]
def Mj:Option Str->Heap->Heap
 |none,h=>h
 |some _,h=>h.push { cls:=.type "cell", data:=.cell none }
structure Di (N:List Str) (outer scope:Scope) (ce:Option Str) (zs A8:List Str) (js:List Nat):Prop where
 kind:scope.kind=.function
 loc:∀y∈scope.names,y.2=.local->scope.names.lookup y.1=some .local
 one:∀y∈scope.names,y.2=.cell->ce=some y.1
 sub:∀x,ce=some x->x∈zs
 cf:∀(n:Nat)(cl:List (Str×Addr)),cellsFrom n scope.names cl=GB ce n++cl
 pc:∀h:Heap,pushCells h scope.names=Mj ce h
 at':js.map (λj=>N[j]?)=A8.map some
 cell:∀y∈A8,outer.names.lookup y=some .cell
 free:∀y∈A8,scope.names.lookup y=some .free
 all:∀y∈scope.names,y.2=.free->outer.names.lookup y.1=some .cell
 nd:(A8++zs).Nodup
abbrev CB(X:Cx)(N:List Str)(scope:Scope)(ce:Option Str)(cl:List (Str×Addr))(C:Addr)(s:Shared)(H:Hp)(fp:List Addr):Cx:=
 { X with N:=N,s₀:=s,H₀:=H,env:=compEnvC scope (GB ce (C+1)++cl) C X.env,outer:=X.stack,ex:=fp,fn:=λy=>ce == some y,pn:=[],xe:=λ_ _=>False }
theorem aN{M:Model}{a:Addr}{b:Option Addr}{c:Value}{outer:Env}{Q:Env->Shared->Prop}
  (cf:∀(n:Nat)(cl:List (Str×Addr)),cellsFrom n scope.names cl=GB ce n++cl) (pc:∀h:Heap,pushCells h scope.names=Mj ce h)
  (d:Q (newEnv scope s.heap.objs.size a (GB ce (s.heap.objs.size+1)++closure) qual b c (some outer) builtinsNs) { s with heap:=Mj ce (s.heap.push { cls:=.type "dict", data:=.dict #[] }) }) :
  wpAny M A (newFunctionEnv scope a closure [] qual b c (some outer)) Q E s:=by
 simp only[newFunctionEnv,zj,vh];refine fq (wpAny_alloc ?_);refine fq (wpAny_layCells _ (λname kind cells=>by cases e:kind == NameKind.cell <;> simp[e]) _ _ _ _ ?_)
 rw[cf,pc];rw[show({ s with heap:=s.heap.push { cls:=.type "dict", data:=.dict #[] } }:Shared).heap.objs.size=s.heap.objs.size+1 from Dm ..]
 refine fq ?_;rw[NX];exact fv (fv d)
theorem mI{y:Str}{c:Addr}(h:(GB ce n++cl).lookup y=some c):(ce=some y/\c=n)∨(ce≠some y/\cl.lookup y=some c):=by
 cases ce with
 |none=>exact .inr ⟨λz=>(by cases z),h⟩
 |some x=>
  have h:((x,n)::cl).lookup y=some c:=h;rw[HA]at h
  by_cases e:y=x
  .subst e;simp only[jR]at h;exact .inl ⟨rfl,(B4 h).symm⟩
  .have a:(y == x)=false:=by simpa using e
   rw[a]at h;exact .inr ⟨λz=>e (B4 z).symm,h⟩
theorem eF{y:Str}(h:ce≠some y):(GB ce n++cl).lookup y=cl.lookup y:=by
 cases ce with
 |none=>rfl
 |some x=>
  show((x,n)::cl).lookup y=_;have a:(y == x)=false:=beq_eq_false_iff_ne.mpr λz=>h (by rw[z]);rw[HA,a]
theorem lS:(GB (some x) n++cl).lookup x=some n:=by
 show((x,n)::cl).lookup x=_;rw[HA,jR]
theorem Yq{iter:Expr}{pos:Pos}{it acc:Value}(I:Nat->Shared->Prop)
  (a:∀n s,I n s->wpAny (model prog w) A (pyNext it) (λr d=>match r with
   |none=>R (.ok .next) d
   |some v=>wpAny (model prog w) A (letOwnedTupleGo tg it v) (λ_ s2=>wpAny (model prog w) A (assign tg env v) (λ_ i=>
     wpAny (model prog w) A (forIn ifs true λc r=>if r=true then do let ok <- isTrue c env (eval c env);pure (ForInStep.yield ok)else pure (ForInStep.yield r)) (λok s4=>if ok=true then
      wpAny (model prog w) A (eval elt env) (λx g=>wpAny (model prog w) A (call (.builtin "list.append") [acc,x]) (λ_ f=>∃m,m<n/\I m f) (notedBy (model prog w) A env λe s'=>R (.error e) s') g) (notedBy (model prog w) A env λe s'=>R (.error e) s') s4
      else ∃m,m<n/\I m s4) (notedBy (model prog w) A env λe s'=>R (.error e) s') i)
     (notedBy (model prog w) A env λe s'=>R (.error e) s') s2) (notedBy (model prog w) A env λe s'=>R (.error e) s') d) (notedBy (model prog w) A env λe s'=>R (.error e) s') s)
  (n:Nat) (h:I n s):codeAny (model prog w) A (.compLoop (.ListComp elt [⟨tg,iter,ifs,0⟩] scope pos) 0 it acc env) R s:=by
 refine codeAny_loop rfl I (λn s q=>(show wpAny _ A ((compTurn (.ListComp elt [⟨tg,iter,ifs,0⟩] scope pos) 0 it acc env).onRaise (λx=>do noteFrame x env;theTreesLotGoes x)) _ _ s from wpAny_noted ?_)) n h
 rw[compTurn_list];refine fq (nj (fq (i9 (a n s q) (λr d j=>?_) λ_ _ z=>z)));cases r with
 |none=>exact fv j
 |some v=>
  refine fq (i9 j (λ_ s2 p=>fq (i9 p (λ_ i o=>fq (i9 o (λok s4 b=>?_) λ_ _ z=>z)) λ_ _ z=>z)) λ_ _ z=>z);cases ok with
  |false=>
   rw[hZ (by decide)]at b;exact fq (fv (fv ⟨rfl,b⟩))
  |true=>
   rw[i6 rfl]at b;exact fq (fq (i9 b (λx g l=>fq (i9 l (λ_ f k=>fv (fv ⟨rfl,k⟩)) λ_ _ z=>z)) λ_ _ z=>z))
abbrev O4(tt:TT)(te:TE)(acc:Addr)(W:Nat->Nat->Hp->Prop)(i m:Nat)(Z:St)(H:Hp):Prop:=
 tt Z H λb H4=>if b=true then te Z H4 λy H5=>∃ys,H5 acc=some (.lst ys)/\ys.length<sizeLine/\∃m',m' < m/\W (i+1) m' (upd H5 acc (.lst (ys++[y])))
  else ∃m',m' < m/\W (i+1) m' H4
def Jm(g:TG)(n:Nat)(J:It)(js:List Nat)(tt:TT)(te:TE)(Z:St)(H1:Hp)(acc:Addr)(Q:VK):Prop:=
 ∃W:Nat->Nat->Hp->Prop,(∃m,W 0 m (upd H1 acc (.lst [])))/\∀i m H2,W i m H2->
  (J.stop i H2/\Q (.ref acc) H2)∨(J.go i H2/\∀x H3,J.Dg i H2 x H3->∀ws,ws.length=n->g x (Aq js Z++ws) H3 λσ8 H8=>∃us,us.length=n/\σ8=Aq js Z++us/\O4 tt te acc W i m σ8 H8)
def WI(CW:It->St->Hp->Addr->VK->Prop)(wi:TI):TE:=λZ H Q=>wi Z H λJ H1=>∀acc,H1 acc=none->CW J Z H1 acc Q
section
variable{iter:Expr}{pos:Pos}{zs A8:List Str}{fp:List Addr}{g:TG}
theorem jA(h:scope.names.lookup x=some .cell):(relabel scope env).names.lookup x=some .cell:=by
 refine(Ny (env:=env) scope.names x).trans ?_;rw[h];simp
theorem iN{n:Nat}{v:V}(h:(List.replicate n (none:Option V))[i]?=some (some v)):False:=by
 rw[fF]at h
 by_cases c:i<n
 .rw[i6 c]at h;cases h
 .rw[hZ c]at h;cases h
theorem aG(S:Di X.N X.env.scope scope ce zs A8 js)(I3:Inv X Zd Z H2 s2)(F:∀b∈fp,CG X Zd H2 b)(M:∀b∈fp,b<s2.heap.objs.size){h1:Heap}
  {m:ZAg}(Iy:h1.Ns s2.heap.objs.size m) (old:∀b o,s2.heap.get? b=some o->h1.get? b=some o) (E:∀x,ce=some x->h1.IsCell (s2.heap.objs.size+1) none) :
  Inv (CB X (A8++zs) scope ce (Au X.env.cells scope.names) s2.heap.objs.size s2 H2 fp) [] (Aq js Z++List.replicate zs.length none) H2 { s2 with heap:=h1,toks:=t' }:=by
 have U:∀y∈scope.names,y.2=.free->(X.env.cells.lookup y.1).isSome=true:=λy g C=>by
  obtain⟨c,e⟩:=I3.ok.has y.1 (.inl (S.all y g C));rw[e];rfl
 have Q:∀y c,(Au X.env.cells scope.names).lookup y=some c->X.env.cells.lookup y=some c:=bC scope.names [] U (λ_ _ e=>by cases e);have P:∀y k,(relabel scope X.env).names.lookup y=some k->k=.cell∨k=.free->scope.names.lookup y=some .free∨ce=some y:=λy k e C=>by
  have t:=(Ny (env:=X.env) scope.names y).symm.trans e;cases q:scope.names.lookup y with
  |none=>rw[q]at t;cases t
  |some k0=>
   rw[q]at t;cases k0 with
   |free=>exact .inl rfl
   |cell=>exact .inr (S.one _ (Kj q) rfl)
   |_=>simp at t;rcases C with rfl|rfl <;> cases t
 have n:js.length=A8.length:=by have:=iK List.length S.at';simpa using this
 have O:∀y c,X.env.cells.lookup y=some c->c<s2.heap.objs.size:=λy c e=>by
  obtain⟨v,o,ho,_⟩:=I3.cell y c e;exact AX ho
 have f:∀c v,s2.heap.IsCell c v->h1.IsCell c v:=λc v A6=>by obtain⟨o,ho,hd⟩:=A6;exact⟨o,old c o ho,hd⟩
 have A:∀y c,(GB ce (s2.heap.objs.size+1)++Au X.env.cells scope.names).lookup y=some c->(ce=some y/\c=s2.heap.objs.size+1)∨(ce≠some y/\X.env.cells.lookup y=some c):=λy c e=>(mI e).imp id λz=>⟨z.1,Q y c z.2⟩;have R:∀y∈A8,ce≠some y:=λy g z=>(List.nodup_append.mp S.nd).2.2 y g y (S.sub y z) rfl;refine⟨⟨I3.ok.mod,S.kind,I3.ok.glob,I3.ok.blt,AZ _,λy z c J D=>?_,λy g=>?_,λy c I e=>?_,I3.ok.hd,I3.ok.frames,.inl rfl,λb s=>⟨BZ (M b s),λy c e=>?_⟩,
  λb o e=>I3.bs b o e,Ax I3.ok.FJ I3.sz,λb o e s=>?_,λb s V=>?_,I3.stack,I3.Pj⟩,rfl,I3.bare,Un.kept old,⟨m,Iy,λi y v J D e3=>?_⟩,λy c e=>?_,I3.AB.fresh (AZ _),λy c e=>?_,λp W=>(by cases W),I3.AB.kept old,?_⟩
 .rcases A y c J with⟨a1,rfl⟩|⟨_,D2⟩
  .rcases A z _ D with⟨a2,_⟩|⟨_,EN⟩
   .exact B4 (a1.symm.trans a2)
   .exact absurd (O z _ EN) (zg (GQ _))
  .rcases A z c D with⟨_,rfl⟩|⟨_,EN⟩
   .exact absurd (O y _ D2) (zg (GQ _))
   .exact I3.ok.inj y z c D2 EN
 .have I:scope.names.lookup y=some .free∨ce=some y:=g.elim (λg=>P y _ g (.inl rfl)) λg=>P y _ g (.inr rfl);show ∃c,List.lookup y (GB ce (s2.heap.objs.size+1)++Au X.env.cells scope.names)=some c
  by_cases ex:ce=some y
  .rw[ex];exact⟨_,lS⟩
  .rw[eF ex];exact Option.isSome_iff_exists.mp (Ry scope.names [] (.inr (Kj (I.resolve_right ex))))
 .rcases A y c e with⟨_,rfl⟩|⟨T,_⟩
  .exact GQ _
  .exact absurd (eq_of_beq I) T
 .rcases A y c e with⟨_,rfl⟩|⟨_,D2⟩
  .exact Fo (Nb (M b s))
  .exact(F b s).2.2.2.2.1 y c D2
 .rcases(F b s).2.2.2.1 with z|z
  .exact I3.ok.J0 b o e z
  .exact absurd (C4 (C4 (AX e) I3.ok.FJ) z) (Na _)
 .rcases List.mem_cons.mp (I3.LU b V)with z|z
  .exact(F b s).2.1 z
  .exact(F b s).2.2.1 z
 .have E:(Aq js Z).length=A8.length:=by unfold Aq;rw[AH,n]
  have hi:i<A8.length:=by
   by_cases hi:i<A8.length
   .exact hi
   .have d:(Aq js Z++List.replicate zs.length none)[i]?=some (some v):=D;rw[JK (by rw[E];omega),E]at d;exact(iN d).elim
  have G:A8[i]?=some y:=by
   have G:(A8++zs)[i]?=some y:=J
   rwa [Fm hi]at G
  have d:(Aq js Z)[i]?=some (some v):=by
   have d:(Aq js Z++List.replicate zs.length none)[i]?=some (some v):=D
   rwa [Fm (by rw[E];exact hi)]at d
  have B:y∈A8:=DJ G;unfold Aq at d;rw[B3]at d;cases H:js[i]? with
  |none=>rw[H]at d;cases d
  |some j=>
   rw[H]at d;have σ:X.N[j]?=some y:=by
    have q:=iK (λl=>l[i]?) S.at';simp only[B3,H,G,Qd]at q;exact B4 q
   have hσ:Z[j]?=some (some v):=by
    simp only[Qd,Qe]at d;cases q:Z[j]? with
    |none=>rw[q]at d;cases d
    |some w=>rw[q]at d;simp at d;rw[d]
   obtain⟨m0,Y,dP⟩:=I3.loc;obtain⟨u,r,l⟩:=dP j y v σ hσ (.inr (.inl (S.cell y B)));refine⟨u,r,?_⟩;rcases l with⟨k,_⟩|⟨_,c,e,z⟩
   .have K:X.env.scope.names.lookup y=some .local:=k;rw[S.cell y B]at K;cases K
   .have Rf:X.env.kindOf y=some .cell:=S.cell y B;have C:(relabel scope X.env).names.lookup y=some .cell:=by
     refine(Ny (env:=X.env) scope.names y).trans ?_;rw[S.free y B];simp[I3.ok.kind,Rf]
    obtain⟨c',t⟩:=Option.isSome_iff_exists.mp (Ry (cells:=X.env.cells) scope.names [] (.inr (Kj (S.free y B))));have L:=Q y c' t;rw[e]at L;cases L;exact .inr ⟨.inl C,c,(eF (R y B)).trans t,f c _ z⟩
 .rcases A y c e with⟨a,rfl⟩|⟨_,D2⟩
  .exact⟨none,E _ a⟩
  .obtain⟨v,z⟩:=I3.cell y c D2;exact⟨v,f c v z⟩
 .rcases A y c e with⟨_,rfl⟩|⟨_,D2⟩
  .exact I3.AB.fresh (GQ _)
  .exact I3.DO y c D2
 .show(Aq js Z++List.replicate zs.length none).length=(A8++zs).length;unfold Aq;simp[n]
theorem vb(j:Y.prog=X.prog)(hw:Y.w=X.w)(H:Y.K=X.K)(hA:Y.A=X.A)(Vn:Y.xe=λ_ _=>False)(G:Y.calm=true)
  (hg:PG Y tg g) (Bo:FL Y ifs tt) (Bl:PE Y elt te)
  (T:Turn X.prog X.w X.K tg J fp it tn) (U6:∀b∈fp,Y.Ok->CG Y [] (λ_=>none) b)
  (W:Nat->Nat->Hp->Prop) (Q:VK)
  (h:∀i m H2,W i m H2->(J.stop i H2/\Q (.ref acc) H2)∨(J.go i H2/\∀x H3,J.Dg i H2 x H3->∀ws,ws.length=n0->g x (Aq js Z++ws) H3 λσ8 H8=>∃us,us.length=n0/\σ8=Aq js Z++us/\O4 tt te acc W i m σ8 H8))
  (I4:Inv Y [] (Aq js Z++ws) H4 s4) (HH:tn 0 s4.heap) (Ua:∀b∈fp,H4 b=none) (F:Nat) (O:W 0 F H4)
  (N0:ws.length=n0) (hR:∀H' s' ws,Inv Y [] (Aq js Z++ws) H' s'->Q (.ref acc) H'->R (.ok .next) s') :
  codeAny (model X.prog X.w) X.A (.compLoop (.ListComp elt [⟨tg,iter,ifs,0⟩] scope pos) 0 (.ref it) (.ref acc) Y.env) R s4:=by
 have AB:=I4.ok;have B:∀{H':Hp},(∀b∈fp,H' b=none)->∀b∈fp,CG Y [] H' b:=λhn b c=>⟨hn b c,(U6 b c AB).2⟩;rw[<- j,<- hw,<- hA];have k:∀{σ:Value->Shared->Prop}v s,Y.xe v s->σ v s:=λv s z=>by rw[Vn]at z;exact z.elim
 refine Yq (λn s'=>∃i ws H',ws.length=n0/\Inv Y [] (Aq js Z++ws) H' s'/\tn i s'.heap/\(∀b∈fp,H' b=none)/\W i n H') ?_ F ⟨0,ws,H4,N0,I4,HH,Ua,O⟩;rintro n E⟨i,M6,H5,VT,I5,HK,JV,N⟩;rcases h i n H5 N with⟨stop,q⟩|⟨go,step⟩
 .have d:=T.done Y j hw H G i [] E _ H5 (λ_ _=>False) I5 (B JV) HK stop;rw[<- j,<- hw]at d;refine i9 d (λr D⟨p,I6⟩=>?_) λ_ _ z=>z.elim;subst p;exact hR H5 D M6 I6 q
 .have d:=T.item Y j hw H G i [] E _ H5 (λ_ _=>False) I5 (B JV) HK go;rw[<- j,<- hw]at d;refine i9 d (λr D⟨u,p,h6⟩=>?_) λ_ _ z=>z.elim;subst p;refine i9 h6 (λ_ C⟨v,H7,I7,U,L,J2,R4⟩=>?_) λ_ _ z=>z.elim;have RA:=I7.pinned (B R4) (T.obj _ _ J2);refine i9 (hg _ C _ H7 v u _ RA U (step v H7 L M6 VT)) (λ_ S⟨σ8,H8,I8,us,M7,e8,Vs⟩=>?_) k;subst e8;have a:∀{σa:St}{Ha:Hp}{sa:Shared},Inv Y ([]++K4 fp C.heap) σa Ha sa->tn (i+1) sa.heap/\(∀b∈fp,Ha b=none):=λ{σa Ha sa}Ia=>by
   refine⟨T.keep _ _ _ J2 λb c o e=>(Ia.pin (b,o) (DU _ (DU _ (KP c e)))).1,λb c=>?_⟩;obtain⟨o,e,d⟩:=T.obj _ _ J2 b c;exact(Ia.pin (b,o) (DU _ (DU _ (KP c e)))).2.1
  refine i9 (Bo _ S _ H8 _ I8 Vs) (λb P⟨H9,I9,l⟩=>?_) k;cases b with
  |false=>
   have R3:∃f,f < n/\W (i+1) f H9:=l;obtain⟨f,t,M⟩:=R3;rw[hZ (by decide)];exact⟨f,t,i+1,_,H9,M7,I9.K0,(a I9).1,(a I9).2,M⟩
  |true=>
   rw[i6 rfl];rw[i6 rfl]at l;refine i9 (Bl _ P _ H9 _ I9 l) (λI VS⟨y,MS,Vq,Sa,ys,Am,V,f,t,Vm⟩=>?_) k;refine i9 (Qo (X:=Y) _ VS _ MS (.ref acc) [y] (.ref acc) [I] (λ_ MY=>MY=upd MS acc (.lst (ys++[y]))) Vq rfl (.cons Sa .nil) ⟨acc,ys,y,rfl,rfl,Am,V,rfl⟩)
    (λ_ vJ⟨_,MY,Jb,_,Ut⟩=>?_) k
   subst Ut;exact⟨f,t,i+1,_,_,M7,Jb.K0,(a Jb).1,(a Jb).2,Vm⟩
theorem X7{RR:Value->Addr->Result->Shared->Prop}(D:X.calm=true)(S:Di X.N X.env.scope scope ce zs A8 js)
  (B:∀C s H,PG (CB X (A8++zs) scope ce (Au X.env.cells scope.names) C s H fp) tg g)
  (Bo:∀C s H,FL (CB X (A8++zs) scope ce (Au X.env.cells scope.names) C s H fp) ifs tt) (Bl:∀C s H,PE (CB X (A8++zs) scope ce (Au X.env.cells scope.names) C s H fp) elt te)
  (T:Turn X.prog X.w X.K tg J fp it tn) (I2:Inv X Zd Z H2 s2) (FE:tn 0 s2.heap) (j:∀b∈fp,CG X Zd H2 b) (Q:VK) (F:∀acc,H2 acc=none->Jm g zs.length J js tt te Z H2 acc Q)
  (WD:∀acc C H' s' m,Inv X Zd Z H' s'->CG X Zd H' C->s'.heap.Ns C m->Q (.ref acc) H'->RR (.ref acc) C (.ok .next) s') :
  wpAny (model X.prog X.w) X.A (newList []) (λacc a=>wpAny (model X.prog X.w) X.A (newFunctionEnv scope X.env.globals (Au X.env.cells scope.names) [] X.env.qual none .none (some X.env)) (λFj s4=>
   codeAny (model X.prog X.w) X.A (.compStart (.ListComp elt [⟨tg,iter,ifs,0⟩] scope pos) 0 (.ref it) acc { Fj with scope:=relabel scope X.env }) (RR acc Fj.locals) s4) E a) E s2:=by
 refine pA (aN S.cf S.pc ?_);have i:Inv X Zd Z (upd H2 s2.heap.objs.size (.lst [])) { s2 with heap:=s2.heap.push { cls:=.type "list", data:=.seq ([]:List Value).toArray } }:=I2.Mt (t':=s2.toks) .nil (DV _)
 have t:∀b∈fp,b<s2.heap.objs.size:=λb c=>by
  obtain⟨o,e,_⟩:=T.obj _ _ FE b c;exact AX e
 have P:(s2.heap.push { cls:=.type "list", data:=.seq ([]:List Value).toArray }).objs.size=s2.heap.objs.size+1:=Dm ..;have f:∀b∈fp,CG X Zd (upd H2 s2.heap.objs.size (.lst [])) b:=λb c=>⟨by rw[AJ (BZ (t b c))];exact(j b c).1,(j b c).2⟩;generalize I:({ s2 with heap:=s2.heap.push { cls:=.type "list", data:=.seq ([]:List Value).toArray } }:Shared)=a at i ⊢
 have k:a.heap=s2.heap.push { cls:=.type "list", data:=.seq ([]:List Value).toArray }:=by rw[<- I]
 have G:∀b∈fp,b<a.heap.objs.size:=λb c=>by rw[k,P];exact Nb (t b c)
 generalize n:Mj ce (a.heap.push { cls:=.type "dict", data:=.dict #[] })=h1;have l:∀b o,(a.heap.push { cls:=.type "dict", data:=.dict #[] }).get? b=some o->h1.get? b=some o:=λb o e=>by
  rw[<- n];cases ce with
  |none=>exact e
  |some _=>exact Ao _ e
 have old:∀b o,a.heap.get? b=some o->h1.get? b=some o:=λb o e=>l b o (Ao _ e);have L:∀b o,s2.heap.get? b=some o->h1.get? b=some o:=λb o e=>old b o (by rw[k];exact Ao _ e);have M:h1.Ns a.heap.objs.size (λ_=>none):=(Heap.Ns.new a.heap (.type "dict")).keeps l;have R:∀x,ce=some x->h1.IsCell (a.heap.objs.size+1) none:=λx hx=>by
  subst hx;rw[<- n];have e:(a.heap.push { cls:=.type "dict", data:=.dict #[] }).objs.size=a.heap.objs.size+1:=Dm ..;exact⟨_,by rw[<- e];exact BE _ rfl,rfl⟩
 have O:=aG S i f G M old R (t':=a.toks);have r:tn 0 h1:=T.keep _ _ _ FE λb _ o e=>L b o e;obtain⟨W,⟨v,u⟩,h⟩:=F s2.heap.objs.size (I2.AB.fresh (AZ _));have d:codeAny (model X.prog X.w) X.A (.compLoop (.ListComp elt [⟨tg,iter,ifs,0⟩] scope pos) 0 (.ref it) (.ref s2.heap.objs.size) (compEnvC scope (GB ce (a.heap.objs.size+1)++Au X.env.cells scope.names) a.heap.objs.size X.env))
   (RR (.ref s2.heap.objs.size) a.heap.objs.size) { a with heap:=h1 }:=by
  refine vb (X:=X) (Y:=CB X (A8++zs) scope ce (Au X.env.cells scope.names) a.heap.objs.size a (upd H2 s2.heap.objs.size (.lst [])) fp) (acc:=s2.heap.objs.size) (Q:=Q) rfl rfl rfl rfl rfl D (B _ _ _) (Bo _ _ _) (Bl _ _ _) T (λb c ok=>⟨rfl,(ok.HP b c).1,ok.HQ b c,.inl c,(ok.HP b c).2,λp y=>by cases y⟩) W h O r (λb c=>(f b c).1) v u (QP ..) λH' s' w I' q=>?_;obtain⟨m,z,_⟩:=I'.loc;exact WD _ _ H' s' m (i.dY (ch:=fp) I'.os I'.base I'.AB I'.bare λb c=>⟨(f b c).2.2.2.1,(f b c).2.1,(f b c).2.2.2.2.1,(f b c).2.2.2.2.2⟩) (i.J1 (AZ _) I'.free) z q
 exact codeAny_compStart_list d (T.self X.A 0 _ _ _ r d)
theorem RN(S:Di X.N X.env.scope scope ce zs A8 js)(I:Inv X Zd Z H s):closureFor scope X.env=pure (Au X.env.cells scope.names):=jE λy a b=>by
 obtain⟨c,e⟩:=I.ok.has y.1 (.inl (S.all y a b));rw[e];rfl
theorem X2(k:∀J Z H1 acc Q,CW J Z H1 acc Q->Jm g zs.length J js tt te Z H1 acc Q)(i:X.calm=true)(S:Di X.N X.env.scope scope ce zs A8 js)(hi:PI X tg iter wi)
  (f:∀fp C s H,PG (CB X (A8++zs) scope ce (Au X.env.cells scope.names) C s H fp) tg g)
  (Bo:∀fp C s H,FL (CB X (A8++zs) scope ce (Au X.env.cells scope.names) C s H fp) ifs tt) (Bl:∀fp C s H,PE (CB X (A8++zs) scope ce (Au X.env.cells scope.names) C s H fp) elt te)
  (c:∀v,foldedSetIterable iter X.env v=pure v):PE X (.ListComp elt [⟨tg,iter,ifs,0⟩] scope pos) (WI CW wi):=by
 intro Zd s Z H Q I h;rw[eval_ListComp];refine rV (use:=none) rfl c (RN S I) S.kind S.loc (AG (hi Zd s Z H _ I h) λv n h1=>AG h1 λNQ s2 h2=>?_);obtain⟨it,fp,tn,J,H2,e,I2,T,FE,l,hw⟩:=h2;subst e;refine X7 (RR:=λacc C=>compPost (model X.prog X.w) X.A X.xe none (EP X Zd Z Q) acc C) i S (f fp) (Bo fp) (Bl fp) T I2 FE l Q (λacc ha=>k _ _ _ _ _ (hw acc ha)) λacc C H' s' m I' a d q=>⟨m,d,λh' Gf=>?_⟩;exact⟨.ref acc,H',I'.turned (t':=s'.toks) (λb o j e=>(Gf.2 b j).trans e) a.1 a.2.1 a.2.2.2.1 a.2.2.2.2.1 a.2.2.2.2.2,rfl,q⟩
theorem lV(x:∀J Z H1 acc Q,CW J Z H1 acc Q->Jm g zs.length J js tt te Z H1 acc Q){y:Str}(B:X.N.Nodup)(Cr:X.N[i]?=some y)(j:Loc X.env.scope y)(t:X.calm=true)(S:Di X.N X.env.scope scope ce zs A8 js)(hi:PI X tg iter wi)
  (p:∀fp C s H,PG (CB X (A8++zs) scope ce (Au X.env.cells scope.names) C s H fp) tg g)
  (Bo:∀fp C s H,FL (CB X (A8++zs) scope ce (Au X.env.cells scope.names) C s H fp) ifs tt) (Bl:∀fp C s H,PE (CB X (A8++zs) scope ce (Au X.env.cells scope.names) C s H fp) elt te)
  (Ly:swapsWith (.ListComp elt [⟨tg,iter,ifs,0⟩] scope pos) (some (.Name y py)) IU.line X.env=pure true)
  (r:X.fn y=true∨X.env.scope.names.lookup y=some .local)
  (k:∀v,foldedSetIterable iter X.env v=pure v):PS X (.Assign [.Name y py] (.ListComp elt [⟨tg,iter,ifs,0⟩] scope pos) IU) (EW (WI CW wi) (D1 i)):=by
 intro Zd s Z H D I h;rw[exec_Assign_Name_used _ _ _ _ Ly];refine fq (nj (fq ?_));show wpAny _ X.A (do let _ <- comprehension (.ListComp elt [⟨tg,iter,ifs,0⟩] scope pos) scope X.env _ (newList []) false (eval iter X.env) (some (assign (.Name y py) X.env))) _ _ s
 refine fq (i9 (rV (use:=some (assign (.Name y py) X.env)) (Q:=λ_ s'=>SP X Zd D .next s') rfl k (RN S I) S.kind S.loc
  (AG (hi Zd s Z H _ I h) λv G h1=>AG h1 λNQ s2 h2=>?_)) (λ_ s' l=>fv (fv l)) λ_ _ e=>e)
 obtain⟨it,fp,tn,J,H2,e,I2,T,FE,E,hw⟩:=h2;subst e;refine X7 (RR:=λacc C=>compPost (model X.prog X.w) X.A X.xe (some (assign (.Name y py) X.env)) (λ_ s'=>SP X Zd D .next s') acc C) t S (p fp) (Bo fp) (Bl fp) T I2 FE E _ (λacc ha=>x _ _ _ _ _ (hw acc ha)) λacc C H' s' m I' c n q=>?_;show wpAny _ X.A (assign (.Name y py) X.env (.ref acc)) _ _ s';refine wpAny_assign_Name (RU (v:=.ref acc) I' B Cr j rfl (λJS d⟨a,f,ha⟩=>?_) r);have F:C≠a:=by
  rcases ha with z|z
  .rw[z];exact c.2.1
  .exact(c.2.2.2.2.1 y a z).symm
 refine⟨m,n.sameBut f F,λh' Gf=>?_⟩;exact⟨_,H',d.turned (t':=JS.toks) (λb o u e=>(Gf.2 b u).trans e) c.1 c.2.1 c.2.2.2.1 c.2.2.2.2.1 c.2.2.2.2.2,q⟩
theorem XA{n:Nat}{cl:List (Str×Addr)}:∀{names:List (Str×NameKind)},(∀y∈names,y.2≠.cell)->cellsFrom n names cl=cl
 | [],_=>rfl
 | (x,k)::r,h=>by
  have b:(k == NameKind.cell)=false:=beq_eq_false_iff_ne.mpr (h _ FH);rw[cellsFrom,b];exact XA λy a=>h y (By _ a)
theorem bJ{a:Heap}:∀{names:List (Str×NameKind)},(∀y∈names,y.2≠.cell)->pushCells a names=a
 | [],_=>rfl
 | (x,k)::r,h=>by
  have c:(k == NameKind.cell)=false:=beq_eq_false_iff_ne.mpr (h _ FH);rw[pushCells,c];exact bJ λy b=>h y (By _ b)
theorem Di.eO(kind:scope.kind=.function)(Jh:∀y∈scope.names,y.2≠.cell)(loc:∀y∈scope.names,y.2=.local->scope.names.lookup y.1=some .local)
  (at':js.map (λj=>N[j]?)=A8.map some) (cell:∀y∈A8,outer.names.lookup y=some .cell) (free:∀y∈A8,scope.names.lookup y=some .free)
  (all:∀y∈scope.names,y.2=.free->outer.names.lookup y.1=some .cell) (nd:(A8++zs).Nodup):Di N outer scope none zs A8 js:=
 ⟨kind,loc,λy a e=>absurd e (Jh y a),λx e=>(by cases e),λn cl=>XA Jh,λh=>bJ Jh,at',cell,free,all,nd⟩
theorem Di.len(S:Di N outer scope ce zs A8 js)(Z:St):(Aq js Z).length=A8.length:=by
 unfold Aq;rw[AH];have:=iK List.length S.at';simpa using this
theorem Xq(S:Di N outer scope ce [x] A8 js)(J:It)(Z:St)(H1:Hp)(acc:Addr)(Q:VK)(h:KI J js tt te Z H1 acc Q):Jm (D1 A8.length) 1 J js tt te Z H1 acc Q:=by
 obtain⟨W,a,h⟩:=h;refine⟨W,a,λi m H2 w=>(h i m H2 w).imp id λz=>⟨z.1,λx H3 y ws hw=>?_⟩⟩
 match ws,hw with
 | [w],_=>
  have e:(Aq js Z++[w]).set A8.length (some x)=Aq js Z++[some x]:=by rw[<- S.len Z];exact uo _ _ _
  exact⟨[some x],rfl,e,by rw[e];exact z.2 x H3 y⟩
theorem Ya(S:Di X.N X.env.scope scope ce [x] A8 js)(hx:scope.names.lookup x=some .local∨(ce=some x/\scope.names.lookup x=some .cell)):
  PG (CB X (A8++[x]) scope ce cl C s H fp) (.Name x px) (D1 A8.length):=
 Ti S.nd (by simp) (hx.imp (λh=>rE h) λh=>jA h.2) (hx.symm.imp (λh=>by show(ce == some x)=true;rw[h.1];exact jR _) λh=>rE h)
inductive Ir:List Str->List Expr->Prop
 |nil:Ir [] []
 |cons {x zs p es}:Ir zs es->Ir (x::zs) (.Name x p::es)
def Ku(i:Nat):Nat->EY
 | 0=>MG
 |n+1=>KS (D1 i) (Ku (i+1) n)
theorem YU{Q:St->Hp->Prop}{H:Hp}:∀{us:List V}{l ws:St},ws.length=us.length->Q (l++us.map some) H->Ku l.length us.length us (l++ws) H Q
 | [],l,ws,h,q=>by
  rw[List.length_eq_zero_iff.mp h];exact⟨rfl,q⟩
 |u::us,l,w::ws,h,q=>by
  refine⟨u,us,rfl,?_⟩;show Ku (l.length+1) us.length us ((l++w::ws).set l.length (some u)) H Q;have e:(l++w::ws).set l.length (some u)=(l++[some u])++ws:=by
   rw[List.set_append_right _ _ (AZ _),Nat.sub_self];simp
  have a:l.length+1=(l++[some u]).length:=by simp
  rw[e,a];refine YU (l:=l++[some u]) (by simpa using h) ?_
  rw[JI];exact q
theorem X9{X:Cx}(a:X.N.Nodup):∀{zs:List Str}{es:List Expr}{i:Nat},Ir zs es->(∀(j:Nat)x,zs[j]?=some x->X.N[i+j]?=some x/\Loc X.env.scope x/\X.env.scope.names.lookup x=some .local)->JO X es (Ku i zs.length)
 |_,_,_,.nil,_=>bG
 |_,_,i,.cons (x:=x) (zs:=zs) r,h=>by
  obtain⟨h1,h2,c⟩:=h 0 _ rfl;refine YA (Ti a h1 h2 (.inr c)) (X9 a r λj y b=>?_);have:=h (j+1) y b
  rwa [show i+(j+1)=i+1+j by omega]at this
def Ou(K:ZAe)(n:Nat)(J:It)(js:List Nat)(tt:TT)(te:TE)(Z:St)(H1:Hp)(acc:Addr)(Q:VK):Prop:=
 ∃W:Nat->Nat->Hp->Prop,(∃m,W 0 m (upd H1 acc (.lst [])))/\∀i m H2,W i m H2->
  (J.stop i H2/\Q (.ref acc) H2)∨(J.go i H2/\∀x H3,J.Dg i H2 x H3->∃a us,x=.ref a/\Al K H3 a us/\us.length=n/\O4 tt te acc W i m (Aq js Z++us.map some) H3)
theorem c8{K:ZAe}(S:Di N outer scope ce zs A8 js)(J:It)(Z:St)(H1:Hp)(acc:Addr)(Q:VK)(h:Ou K zs.length J js tt te Z H1 acc Q):Jm (Md K zs.length (Ku A8.length zs.length)) zs.length J js tt te Z H1 acc Q:=by
 obtain⟨W,d,h⟩:=h;refine⟨W,d,λi m H2 w=>(h i m H2 w).imp id λz=>⟨z.1,λx H3 y ws hw=>?_⟩⟩;obtain⟨a,us,e,c,b,q⟩:=z.2 x H3 y;refine⟨a,us,e,c,b,?_⟩;rw[<- b,<- S.len Z];exact YU (by rw[hw,b]) ⟨us.map some,AH ..,rfl,q⟩
theorem cH{tp:Pos}(c:X.calm=true)(S:Di X.N X.env.scope scope ce zs A8 js)(Io:∀x∈zs,scope.names.lookup x=some .local)(He:Ir zs es)(Gu:∀e,(assignEach es e).length=zs.length)(Fi:∀e,(assignEach es e).findIdx? (·.1)=none):
  PG (CB X (A8++zs) scope ce cl C s H fp) (.Tuple es tk tp) (Md X.K zs.length (Ku A8.length zs.length)):=
 X3 (X:=CB X (A8++zs) scope ce cl C s H fp) c (X9 S.nd (i:=A8.length) He λj y b=>by
  have a:=DJ b;exact⟨by show(A8++zs)[A8.length+j]?=_;rw[JK (by omega),Nat.add_sub_cancel_left];exact b,.inl (rE (Io y a)),rE (Io y a)⟩) (Gu _) (Fi _)
theorem DN.G(S:DN N outer scope x A8 js):Di N outer scope none [x] A8 js:=.eO S.kind S.Jh S.loc S.at' S.cell S.free S.all S.nd
theorem qI(b:X.calm=true)(S:DN X.N X.env.scope scope x A8 js)(hi:PI X (.Name x px) iter wi)
  (Bo:∀fp C s H,FL (ED X (A8++[x]) scope (Au X.env.cells scope.names) C s H fp) ifs tt) (Bl:∀fp C s H,PE (ED X (A8++[x]) scope (Au X.env.cells scope.names) C s H fp) elt te)
  (a:∀v,foldedSetIterable iter X.env v=pure v:=by intro _;rfl):PE X (.ListComp elt [⟨.Name x px,iter,ifs,0⟩] scope pos) (KO wi js tt te):=
 X2 (CW:=λJ Z H1 acc Q=>KI J js tt te Z H1 acc Q) (Xq S.G) b S.G hi (λ_ _ _ _=>Ya S.G (.inl S.Io)) Bo Bl a
theorem yO{y:Str}(c:X.N.Nodup)(Cr:X.N[i]?=some y)(a:Loc X.env.scope y)(b:X.calm=true)(S:DN X.N X.env.scope scope x A8 js)(hi:PI X (.Name x px) iter wi)
  (Bo:∀fp C s H,FL (ED X (A8++[x]) scope (Au X.env.cells scope.names) C s H fp) ifs tt) (Bl:∀fp C s H,PE (ED X (A8++[x]) scope (Au X.env.cells scope.names) C s H fp) elt te)
  (Ly:swapsWith (.ListComp elt [⟨.Name x px,iter,ifs,0⟩] scope pos) (some (.Name y py)) IU.line X.env=pure true:=by rfl)
  (hf:X.fn y=true∨X.env.scope.names.lookup y=some .local:=by first|exact .inl rfl|exact .inr rfl|assumption)
  (hs:∀v,foldedSetIterable iter X.env v=pure v:=by intro _;rfl):PS X (.Assign [.Name y py] (.ListComp elt [⟨.Name x px,iter,ifs,0⟩] scope pos) IU) (EW (KO wi js tt te) (D1 i)):=
 lV (CW:=λJ Z H1 acc Q=>KI J js tt te Z H1 acc Q) (Xq S.G) c Cr a b S.G hi (λ_ _ _ _=>Ya S.G (.inl S.Io)) Bo Bl Ly hf hs
end
def D7(K:ZAe)(tp:Bool)(H:Hp)(a:Addr)(xs:List V):Prop:=match tp with
 |false=>AN K H a xs
 |true=>Al K H a xs
theorem D7.or{K:ZAe}{xs:List V}(h:D7 K tp H a xs):AN K H a xs∨Al K H a xs:=by
 cases tp
 .exact .inl h
 .exact .inr h
def Ma(K:ZAe)(tp:Bool)(a:Addr)(xs:List V):It:=
 ⟨λi H=>D7 K tp H a xs/\i<xs.length,λi H x H'=>H'=H/\xs[i]?=some x,λi H=>D7 K tp H a xs/\xs.length<=i⟩
theorem qV{K:ZAe}(a it:Addr)(xs:List V):Turn P w K tg (Ma K false a xs) [it] it (λi h=>h.IsListIter it a i) where
 mem:=by simp
 obj:=(Mk (P:=P) (w:=w) (K:=K) (tg:=tg) a it).obj
 keep:=(Mk (P:=P) (w:=w) (K:=K) (tg:=tg) a it).keep
 item:=by
  intro X f hw g d i Zd s Z H E I c st b;obtain⟨j,hi⟩:=b;refine AG ((Mk (P:=P) (w:=w) (K:=K) (tg:=tg) a it).item X f hw g d i Zd s Z H E I c st ⟨xs,xs[i],j,by simp[hi]⟩) λr m A6=>by obtain⟨u,e,h⟩:=A6;exact⟨u,e,AG h λ_ s2 C3=>by obtain⟨x,H',I',k,y,Dk,l⟩:=C3;exact⟨x,H',I',k,⟨y.1,y.2 xs j⟩,Dk,l⟩⟩
 done:=by
  intro X f hw g d i Zd s Z H E I c st b;exact(Mk (P:=P) (w:=w) (K:=K) (tg:=tg) a it).done X f hw g d i Zd s Z H E I c st ⟨xs,b.1,b.2⟩
 self:=(Mk (P:=P) (w:=w) (K:=K) (tg:=tg) a it).self
theorem wQ{K:ZAe}(a it:Addr)(xs:List V):Turn P w K tg (Ma K true a xs) [it] it (λi h=>h.IsTupleIter it a i) where
 mem:=by simp
 obj:=(NA (P:=P) (w:=w) (K:=K) (tg:=tg) a it).obj
 keep:=(NA (P:=P) (w:=w) (K:=K) (tg:=tg) a it).keep
 item:=by
  intro X f hw g d i Zd s Z H E I c st b;obtain⟨j,hi⟩:=b;refine AG ((NA (P:=P) (w:=w) (K:=K) (tg:=tg) a it).item X f hw g d i Zd s Z H E I c st ⟨xs,xs[i],j,by simp[hi]⟩) λr m A6=>by obtain⟨u,e,h⟩:=A6;exact⟨u,e,AG h λ_ s2 C3=>by obtain⟨x,H',I',k,y,Dk,l⟩:=C3;exact⟨x,H',I',k,⟨y.1,y.2 xs j⟩,Dk,l⟩⟩
 done:=by
  intro X f hw g d i Zd s Z H E I c st b;exact(NA (P:=P) (w:=w) (K:=K) (tg:=tg) a it).done X f hw g d i Zd s Z H E I c st ⟨xs,b.1,b.2⟩
 self:=(NA (P:=P) (w:=w) (K:=K) (tg:=tg) a it).self
def RT(K:ZAe)(tl:TE):TI:=λZ H R=>tl Z H λx H1=>∃tp a xs,x=.ref a/\D7 K tp H1 a xs/\R (Ma K tp a xs) H1
def Tq(z:Str):It:=⟨λi _=>i<z.cps.size,λi H x H'=>H'=H/\∃c,z.cps[i]?=some c/\x=.str ⟨#[c]⟩,λi _=>i=z.cps.size⟩
theorem cm{K:ZAe}{t:Tok}{ty:String}
  (C:["enumerate","zip","dict_itemiterator","dict_reverseitemiterator","odict_iterator","itertools.zip_longest","itertools.pairwise"].contains ty=false)
  (W:∀A:Around,A.handled=none->Walks P w A it [it] [it] z.cps.size (SignAt z) (λi h=>h.IsStrIter it ty z t i))
  (self:∀(A:Around)(i:Nat)(s:Shared)(Q:Value->Shared->Prop)(E:Value->Shared->Prop),s.heap.IsStrIter it ty z t i->Q (.ref it) s->wpAny (model P w) A (pyIter (.ref it)) Q E s) :
  Turn P w K tg (Tq z) [it] it (λi h=>h.IsStrIter it ty z t i) where
 mem:=by simp
 obj:=λi h st b a=>by
  have e:b=it:=by simpa using a
  subst e;obtain⟨o,e,c,d⟩:=st;exact⟨o,e,λv z=>by rw[d]at z;cases z⟩
 keep:=λi h h' st k=>let ⟨o,e,r⟩:=st;⟨o,k it (by simp) o e,r⟩
 item:=by
  intro X l hw m j i Zd s Z H E I f st g;subst l hw m;obtain⟨f0,x,D,q,p,n⟩:=f it (by simp);refine(W X.A (I.ok.hd j)).item i s _ _ g st λv h' tk⟨c,u,Pu,B⟩Dk kp=>?_;subst B;have F:Inv X Zd Z H { s with heap:=h',toks:=tk }:=I.turned (t':=tk) (λb o a e=>kp b o (by simpa using a) e) f0 x q p n
  obtain⟨o,e,cl,d⟩:=id Dk;exact⟨_,rfl,QD (s:={ s with heap:=h',toks:=tk }) e cl d C ⟨.str ⟨#[c]⟩,H,F,⟨u,rfl⟩,⟨rfl,c,Pu,rfl⟩,Dk,λb a=>(f b a).1⟩⟩
 done:=by
  intro X l hw m j i Zd s Z H E I f st g;subst l hw m;obtain⟨f0,x,D,q,p,n⟩:=f it (by simp);have y:i=z.cps.size:=g;subst y;exact(W X.A (I.ok.hd j)).done s _ _ st λh' tk kp=>⟨rfl,I.turned (t':=tk) (λb o a e=>kp b o (by simpa using a) e) f0 x q p n⟩
 self:=self
def T4(tl:TE):TI:=λZ H R=>tl Z H λx H1=>∃z,x=.str z/\R (Tq z) H1
theorem CH{p:Addr}(h:H p=none)(o:HO):A9 H (upd H p o):=λb u q=>by rw[AJ (Ct q h)];exact q
theorem A9.LN{K:ZAe}{xs:List V}(e:A9 H H')(h:Al K H a xs):Al K H' a xs:=by
 rcases h with(h|⟨o,h⟩)|h
 .exact .inl (.inl (e _ _ h))
 .exact .inl (.inr ⟨o,e _ _ h⟩)
 .exact .inr h
theorem A9.sq{K:ZAe}{xs:List V}(e:A9 H H')(h:D7 K tp H a xs):D7 K tp H' a xs:=by
 cases tp
 .exact A9.seq e h
 .exact A9.LN e h
theorem eM{Q:VK}(xs:List V)(f:V->Bool)(g:V->V)(Am:H1 acc=none)(w:xs.length<=sizeLine)
  (l:∀i H,A9 H1 H->i<xs.length->J.go i H) (As:∀H,A9 H1 H->J.stop xs.length H) (n:∀i H x H',J.Dg i H x H'->H'=H/\xs[i]?=some x)
  (p:∀(i:Nat)(x:V)(H':Hp)(Q':Bool->Hp->Prop),xs[i]?=some x->A9 H1 H'->(∀DG,A9 H' DG->Q' (f x) DG)->tt (Aq js Z++[some x]) H' Q')
  (r:∀(i:Nat)(x:V)(H':Hp)(Q':VK),xs[i]?=some x->f x=true->A9 H1 H'->(∀DG,A9 H' DG->Q' (g x) DG)->te (Aq js Z++[some x]) H' Q')
  (hd:∀H',A9 H1 H'->H' acc=some (.lst ((xs.filter f).map g))->Q (.ref acc) H'):KI J js tt te Z H1 acc Q:=by
 refine⟨λi m H=>m=xs.length - i/\i<=xs.length/\A9 H1 H/\H acc=some (.lst (((xs.take i).filter f).map g)),⟨xs.length,by simp,DV _,CH Am _,AY⟩,?_⟩;rintro i m H2⟨rfl,hi,a,ha⟩
 by_cases h:i<xs.length
 .refine .inr ⟨l i H2 a h,λx H3 y=>?_⟩;obtain⟨e,hx⟩:=n i H2 x H3 y;subst e;have v:(xs.take (i+1))=xs.take i++[x]:=by
   have t:xs[i]=x:=by
    rw[Aw h]at hx;exact B4 hx
   rw[Lq h,t]
  have k:List.filter f (xs.take (i+1))=(xs.take i).filter f++(if f x=true then[x]else[]):=by
   rw[v,fD];congr 1
   by_cases c:f x=true <;> simp[c]
  refine p i x _ _ hx a λH4 s4=>?_
  by_cases c:f x=true
  .rw[i6 c];refine r i x H4 _ hx c (a.trans s4) λH5 j=>?_;have d:(((xs.take i).filter f).map g).length<sizeLine:=by
    rw[AH];have:=fG f (xs.take i);rw[Em]at this;omega
   refine⟨_,j _ _ (s4 _ _ ha),d,xs.length - (i+1),by omega,rfl,h,λb o q=>?_,?_⟩
   .have s:b≠acc:=by rintro rfl;rw[Am]at q;cases q
    rw[AJ s];exact j _ _ (s4 _ _ (a b o q))
   .rw[AY,k,i6 c,En];rfl
  .have u:f x=false:=by simpa using c
   rw[u];rw[hZ (by decide)];refine⟨xs.length - (i+1),by omega,rfl,h,a.trans s4,?_⟩;rw[k,hZ c,Hu];exact s4 _ _ ha
 .have e:i=xs.length:=by omega
  subst e;refine .inl ⟨As H2 a,hd H2 a ?_⟩;rw[JL]at ha;exact ha
theorem rQ{K:ZAe}{xs:List V}{Q:VK}(f:V->Bool)(g:V->V)(b:D7 K tp H1 a xs)(Am:H1 acc=none)(c:xs.length<=sizeLine)
  (d:∀(i:Nat)(x:V)(H':Hp)(Q':Bool->Hp->Prop),xs[i]?=some x->A9 H1 H'->(∀DG,A9 H' DG->Q' (f x) DG)->tt (Aq js Z++[some x]) H' Q')
  (e:∀(i:Nat)(x:V)(H':Hp)(Q':VK),xs[i]?=some x->f x=true->A9 H1 H'->(∀DG,A9 H' DG->Q' (g x) DG)->te (Aq js Z++[some x]) H' Q')
  (hd:∀H',A9 H1 H'->H' acc=some (.lst ((xs.filter f).map g))->Q (.ref acc) H'):KI (Ma K tp a xs) js tt te Z H1 acc Q:=
 eM xs f g Am c (λi H s hi=>⟨s.sq b,hi⟩) (λH s=>⟨s.sq b,AZ _⟩) (λi H x H' y=>y) d e hd
def Fe(z:Str):List V:=z.cps.toList.map λc=>.str ⟨#[c]⟩
theorem UK(z:Str):(Fe z).length=z.cps.size:=by unfold Fe;simp
theorem bN{Q:VK}(f:V->Bool)(g:V->V)(Am:H1 acc=none)(a:z.cps.size<=sizeLine)
  (b:∀(i:Nat)(x:V)(H':Hp)(Q':Bool->Hp->Prop),(Fe z)[i]?=some x->A9 H1 H'->(∀DG,A9 H' DG->Q' (f x) DG)->tt (Aq js Z++[some x]) H' Q')
  (d:∀(i:Nat)(x:V)(H':Hp)(Q':VK),(Fe z)[i]?=some x->f x=true->A9 H1 H'->(∀DG,A9 H' DG->Q' (g x) DG)->te (Aq js Z++[some x]) H' Q')
  (hd:∀H',A9 H1 H'->H' acc=some (.lst (((Fe z).filter f).map g))->Q (.ref acc) H'):KI (Tq z) js tt te Z H1 acc Q:=by
 refine eM (Fe z) f g Am (by rw[UK];exact a) (λi H s hi=>?_) (λH s=>?_) (λi H x H' y=>?_) b d hd
 .rw[UK]at hi;exact hi
 .show(Fe z).length=z.cps.size;exact UK z
 .obtain⟨e,c,h,hx⟩:=y;refine⟨e,?_⟩;subst hx;unfold Fe;rw[B3,QH,h];rfl
def Ik(xs ys:List V):Bool:=xs.length == ys.length && (List.range xs.length).all λj=>Dj (xs.getD j .A5) (ys.getD j .A5)
theorem cU{xs:List V}{x:V}(h:xs[j]?=some x):xs.getD j .A5=x:=by rw[Lp,h];rfl
theorem YE{xs:List V}{x:V}(h:xs.all C6=true)(e:xs[j]?=some x):C6 x=true:=List.all_eq_true.mp h x (DJ e)
theorem aL{xs:List V}{B5:List Value}(d:Vals xs A2)(c:Vals ys B5)(k:xs.all C6=true)(i:ys.all C6=true):
  ∀j(h1:j<A2.toArray.size)(h2:j<B5.toArray.size),SeqAt.EqAt A s A2.toArray[j] B5.toArray[j] (Dj (xs.getD j .A5) (ys.getD j .A5)):=λj h1 h2=>by
 have l1:=d.length;have l2:=c.length;have o:j<A2.length:=by simpa using h1
 have n:j<B5.length:=by simpa using h2
 have b:xs[j]?=some (xs[j]'(by omega)):=Aw _;have a:ys[j]?=some (ys[j]'(by omega)):=Aw _;obtain⟨u,f,h⟩:=d.get b;obtain⟨v,e,g⟩:=c.get a;rw[Aw o]at f;rw[Aw n]at e;have m:A2[j]=u:=B4 f;have l:B5[j]=v:=B4 e;rw[cU b,cU a];have q:=O5 (A:=A) (s:=s) h g (YE k b) (YE i a);rw[<- m,<- l]at q
 simpa using q
def lI(K:ZAe)(neg:Bool):R2:=λx y H Q=>∃p q xs ys,x=.ref p/\y=.ref q/\((AN K H p xs/\AN K H q ys)∨(Al K H p xs/\Al K H q ys))/\xs.all C6=true/\ys.all C6=true/\
 Q (.bl (if neg then !Ik xs ys else Ik xs ys)) H
theorem VH{xs:List V}(h:xs.length≠ys.length):Ik xs ys=false:=by
 unfold Ik;have:(xs.length == ys.length)=false:=by simpa using h
 rw[this,eS]
theorem Xo{xs:List V}(h:xs.length=ys.length):Ik xs ys=(List.range xs.length).all λj=>Dj (xs.getD j .A5) (ys.getD j .A5):=by
 unfold Ik;have:(xs.length == ys.length)=true:=by simpa using h
 rw[this,El]
theorem Vj(d:X.A.units<cLine):Ar X (compareOp .NotEq) (lI X.K true):=by
 intro Zd s Z H x y v u Q I n m h;obtain⟨p,q,xs,ys,rfl,rfl,o,i,g,r⟩:=h;cases n;cases m;have a:Q (.bl (!Ik xs ys)) H:=r;rcases o with⟨ha,f⟩|⟨ha,f⟩
 .obtain⟨A2,c,p1,l⟩:=I.list ha;obtain⟨B5,b,p2,k⟩:=I.list f;have l1:=c.length;have l2:=b.length
  by_cases hl:xs.length=ys.length
  .refine SeqAt.RcNeAt.lists (e:=λj=>Dj (xs.getD j .A5) (ys.getD j .A5)) p1.isList p2.isList (by simp;omega) d (aL c b i g) _ _ _ _ ⟨.bl _,H,I,rfl,?_⟩;rw[Xo hl]at a;simp only[Bh,<- l1];exact a
  .rw[VH hl]at a;exact ZA1 p1.isList p2.isList (by simp;omega) d _ _ _ _ ⟨.bl true,H,I,rfl,a⟩
 .obtain⟨A2,c,p1,l⟩:=I.tuple ha;obtain⟨B5,b,p2,k⟩:=I.tuple f;have l1:=c.length;have l2:=b.length;refine SeqAt.RcNeAt.tuples (e:=λj=>Dj (xs.getD j .A5) (ys.getD j .A5)) p1 p2 d (aL c b i g) _ _ _ _ ⟨.bl _,H,I,rfl,?_⟩;simp only[Bh,<- l1,<- l2]
  by_cases hl:xs.length=ys.length
  .rw[Xo hl]at a;have:(xs.length == ys.length)=true:=by simpa using hl
   rw[this,Bool.and_true,<- hl,Nat.min_self];exact a
  .rw[VH hl]at a;have:(xs.length == ys.length)=false:=by simpa using hl
   rw[this,WX];exact a
theorem ly:Be X (.builtin "isinstance") (λxs H Q=>∃x n t b,xs=[x,.ty n]/\Dt X.K H x t/\PySem.W.kitOne X.K t (.type n)=some b/\Q (.bl b) H):=by
 intro Zd s Z H xs us Q I r h;obtain⟨x,n,t,b,rfl,ty,e,q⟩:=h;obtain⟨u,c,rfl,a,rt⟩:=vals2 r;cases rt;exact Yw I a ty e λtk=>⟨.bl b,H,I.tok tk,rfl,q⟩
theorem mJ{bs:List Bool}(r:Vals (bs.map V.bl) A2)(e:A2[i]?=some v):v=.bool (bs.getD i false):=by
 have hl:=r.length;rw[AH]at hl;have hi:i<A2.length:=(List.getElem?_eq_some_iff.mp e).1;have c:(bs.map V.bl)[i]?=some (.bl (bs[i]'(by omega))):=by rw[B3,Aw (by omega)];rfl
 obtain⟨u,a,b⟩:=r.get c;rw[e]at a;cases a;cases b;rw[Lp,Aw (by omega)];rfl
theorem range_all(bs:List Bool):(List.range bs.length).all (λi=>bs.getD i false)=bs.all id:=by
 rw[NS,JH,JH];constructor
 .intro h x hx;obtain⟨i,hi,rfl⟩:=List.mem_iff_getElem.mp hx;have:=h i (List.mem_range.mpr hi);rw[Lp,Aw hi]at this;exact this
 .intro h i hi;rw[Lp,Aw (List.mem_range.mp hi)];exact h _ (Gz _)
theorem GX(g:X.calm=true):Be X (.builtin "all") (λxs H Q=>∃(p:Addr)(bs:List Bool),xs=[.ref p]/\AN X.K H p (bs.map V.bl)/\Q (.bl (bs.all id)) H):=by
 intro Zd s Z H xs us Q I r h;obtain⟨p,bs,rfl,f,q⟩:=h;obtain⟨u,rfl,c⟩:=vals1 r;cases c;obtain⟨A2,a,pl,l⟩:=I.list f;have hl:=a.length;rw[AH]at hl;refine call_all_walk (jU pl.isList ?_);obtain⟨o,n,ho,_⟩:=id pl;have k:p≠s.heap.objs.size:=BZ (AX ho);refine⟨s.heap.objs.size,_,_,_,_,_,λi=>bs.getD i false,rfl,Walks.list (by rw[eR];exact I.ok.hd g) _ p k A2.toArray,⟨⟨_,BE _ rfl,rfl,rfl⟩,pl.isList.push _⟩,λi v s' Q' E' d Gk=>?_,λh' tk kp=>?_⟩
 .have j:v=.bool (bs.getD i false):=mJ a (by simpa using d)
  rw[j];exact jN Gk
 .refine⟨.bl _,H,I.kept (t':=tk) λb ob e=>kp b ob (by simpa using BZ (AX e)) (Ao _ e),rfl,?_⟩
  rw[Bh,<- hl,range_all];exact q
def WA:V->List V->Hp->VK->Prop:=λx vs H Q=>∃(l:Addr)(xs:List V)(j:Int)(y:V),x=.ref l/\vs=[.int j,y]/\H l=some (.lst xs)/\0<=j/\j<=xs.length/\xs.length<sizeLine/\Q .A5 (upd H l (.lst (xs.take j.toNat++y::xs.drop j.toNat)))
theorem j4:Om X "list.insert" WA:=by
 intro Zd s Z H x vs v us Q I d f h;obtain⟨l,xs,j,y,rfl,rfl,b,m,k,A,q⟩:=h;cases d;obtain⟨w,a,rfl,g,c⟩:=f.two;obtain⟨t,rfl⟩:=g;obtain⟨z,A2,n,r,hl,e⟩:=I.I0 b;have h2:j<2 ^ 63:=by
  have B:(xs.length:Int)<=(sizeLine:Int):=Int.ofNat_le.mpr z;have C:((sizeLine:Nat):Int)<2 ^ 63:=by exact_mod_cast Jz
  omega
 have p:(!Builtin.List.listFitsIndex j)=true->False:=by
  have h1:Builtin.List.listFitsIndex j=true:=by
   unfold Builtin.List.listFitsIndex;rw[DT];exact⟨gS (by omega),gS h2⟩
  rw[h1];exact λh=>nomatch h
 have u:A2.toArray.size<=sizeLine:=Ax (fN (List.size_toArray.trans hl.symm)) z;refine qm Wy ⟨_,e,rfl⟩ PySem.F.entry_list_insert (PySem.F.args_list_insert_3 _ _ _) (PySem.AutoSeq1.list_insert_list_int_val_1 l A2.toArray n j t a p u) ⟨e,?_⟩;refine⟨.A5,_,I.Od (its':=A2.take j.toNat++a::A2.drop j.toNat) b e ?_ ((r.take _).append (.cons c (r.drop _))) ?_,rfl,q⟩
 .have o:¬ (j<0):=by omega
  have i:min j.toNat A2.toArray.size=j.toNat:=by simp;omega
  simp only[o,ZA4,i];apply Array.toList_inj.mp;simp;exact Kf (by simp)
 .rw[Cm,B6,Em,Kd];omega
def Lz(x:V)(xs:List V):Nat:=xs.countP λy=>Dj y x
theorem au{x:V}:∀{xs:List V}{us:List Value},Vals xs us->xs.all C6=true->us.countP (GI x)=Lz x xs
 |_,_,.nil,_=>rfl
 |y::xs,u::us,.cons r t,h=>by
  have h1:C6 y=true/\xs.all C6=true:=by simpa[NU]using h
  unfold Lz;rw[zS,zS,UP r h1.1,au t h1.2];rfl
def To(K:ZAe):V->List V->Hp->VK->Prop:=λx vs H Q=>∃l xs y,x=.ref l/\vs=[y]/\AN K H l xs/\C6 y=true/\xs.all C6=true/\Q (.int (Lz y xs)) H
theorem mH:Om X "list.count" (To X.K):=by
 intro Zd s Z H x vs v us Q I e f h;obtain⟨l,xs,y,rfl,rfl,i,j,fs,q⟩:=h;cases e;obtain⟨u,rfl,g⟩:=f.one;obtain⟨A2,r,pl,k⟩:=I.list i;obtain⟨⟨c,d,m,b⟩,n,ho,a,hd,J3⟩:=id pl;simp only at a hd J3;subst a;subst hd;subst J3;refine qm F.slot_list_count ⟨_,ho,rfl⟩ F.entry_list_count (F.args_list_count_2 _ _) (SeqAt.list_countAt l A2.toArray n none b u (GI y)) ⟨ho,λz M1=>Ob g j r fs z (by simpa using M1),?_⟩
 refine⟨.int _,H,I.tok _,⟨_,rfl⟩,?_⟩;rw[List.toList_toArray,au r fs];exact q
def yq:V->Option Int->Option Int->Hp->VK->Prop:=λx lo hi H Q=>∃z,x=.str z/\z.length<=sizeLine/\Q (.str (Txt.slice z lo hi)) H
theorem part_of{o:Option Int}(p:IsPart v o):∃l:Option (Int×Tok),v=partValue l/\l.map (·.1)=o:=by
 cases p with
 |none=>exact⟨none,rfl,rfl⟩
 |int i t=>exact⟨some (i,t),rfl,rfl⟩
theorem aq:IC X yq:=by
 intro Zd s Z H x v g f lo hi i Q I a e pl b h;obtain⟨z,rfl,c,q⟩:=h;obtain⟨t,rfl⟩:=a;obtain⟨l,rfl,hl⟩:=part_of pl;obtain⟨u,rfl,d⟩:=part_of b;subst hl;subst d;refine⟨"str", _,F.slot_str_getitem.lookup,xt _ _ _,wpAny_getItem_str_slice (l:=l) (u:=u) (st:=none) e rfl (post_val_or_str ⟨Ax (Txt.slice_le z _ _) c,λt' k=>?_⟩)⟩;exact⟨.str _,H,I.tok k,⟨t',rfl⟩,q⟩
theorem Zw:Ar X (binaryOp .Mult) (λx y H Q=>∃(z:Str)(n:Int),x=.str z/\y=.int n/\MulOk z n/\Q (.str (Txt.mul z n)) H):=by
 intro Zd s Z H x y v u Q I c b h;obtain⟨z,n,rfl,rfl,d,q⟩:=h;obtain⟨t,rfl⟩:=c;obtain⟨t',rfl⟩:=b;exact SB.mul d λa k=>⟨.str _,H,I.tok k,⟨a,rfl⟩,q⟩
end L2
set_option exponentiation.threshold 5000
namespace L2
variable{j k n:Nat}{a f p:Addr}{H H':Hp}
def AD(P:Program)(w:World)(K:ZAe)(mg:ZAg)(Zk:Heap)(x:Str)(k:Nat)(ps:List Str)(sp:Sp):Prop:=
 ∃f fd,C5 P w K mg Zk ET k f fd ps sp/\Binds K fd ps []/\PySem.W.keepIn K (.ref f)=true/\mg x=some (.ref f)
section
variable{P:Program}{w:World}{K:ZAe}{mg:ZAg}{Zk:Heap}{x qual:Str}{ps:List Str}{sp:Sp}{st:Stmt}{fd:FuncData}
theorem AD.mk(F:AM K x qual st f fd)(b:Binds K fd ps [])(m:mg x=some (.ref f))(h:C5 P w K mg Zk ET k f fd ps sp):AD P w K mg Zk x k ps sp:=⟨f,fd,h,b,F.kp,m⟩
variable{X:Cx}{p pos:Pos}{e:Expr}{es:List Expr}{t:TA}
def OY(K:ZAe):List V->Hp->VK->Prop:=λxs H Q=>∃(p:Addr)(ys:List V),xs=[.ref p]/\(AN K H p ys∨Al K H p ys)/\Q (.int ys.length) H
theorem Ds:Be X (.builtin "len") (OY X.K):=LP
def NM(K:ZAe):List V->Hp->VK->Prop:=λxs H Q=>∃(x:V)(n:String)(t:Value)(b:Bool),xs=[x,.ty n]/\Dt K H x t/\PySem.W.kitOne K t (.type n)=some b/\Q (.bl b) H
theorem IB:Be X (.builtin "isinstance") (NM X.K):=ly
theorem PX:FW X "list.append" Rx:=Qo
theorem UI:FW X "list.insert" WA:=j4
theorem ya:FW X "list.count" (To X.K):=mH
def nP(i j:Int):Prop:=i.natAbs<2 ^ 1000/\j.natAbs<2 ^ 1000
theorem Va(h:n<2 ^ 1000):n.log2<1000:=by
 rcases Nat.eq_zero_or_pos n with e|e
 .subst e;exact(show(0:Nat).log2<1000 by decide)
 .exact(fP (Fo e)).mpr h
theorem bits_le{i:Int}(h:i.natAbs<2 ^ 1000):Builtin.Int.intBits i<=2 ^ 20:=by
 unfold Builtin.Int.intBits;split
 .exact DV _
 .have:=Va h;have e:(2:Nat) ^ 20=1048576:=by decide
  omega
theorem K8:Ar X (binaryOp .Mult) (rI nP λi j=>.int (i * j)):=OI λ_ _ _ _ _ _ _ a q=>mul_int q (.of_bits (bits_le a.1) (bits_le a.2))
theorem Ub:Ar X (binaryOp .FloorDiv) (rI (λ_ j=>0<j/\j.natAbs<2 ^ 1000) λi j=>.int (i / j)):=OI λi j _ _ _ _ _ a q=>by
 have h1:(0:Int)<j:=a.1;have h2:=Va a.2;exact floordiv_int (by omega) (by rw[Int.fdiv_eq_ediv_of_nonneg i (by omega)];exact q) (.inl (PyProof.noPylong_of_log2 (by omega)))
theorem pX{body rest:List Stmt}{t u:TS}(e:body=st::rest)(h:PS X st t)(h2:DE X rest u):DE X body (Jn t u):=by rw[e];exact TX h h2
def R6(t:TS):TS:=λD Z H=>∃J:St->Hp->Prop,t { D with nx:=J } Z H/\∀ σ' H',J σ' H'->D.nx σ' H'
end
def Eg(p:Addr)(H H':Hp):Prop:=∀b o,b≠p->H b=some o->H' b=some o
theorem Eg.trans{H1 H2:Hp}(a:Eg p H H1)(b:Eg p H1 H2):Eg p H H2:=λc o d e=>b c o d (a c o d e)
theorem Eg.of(a:A9 H H'):Eg p H H':=λc o _ e=>a c o e
theorem Eg.upd{o:HO}:Eg p H (upd H p o):=λc u a e=>by rw[AJ a];exact e
theorem Eg.LN{K:ZAe}{xs:List V}(e:Eg p H H')(Ai:a≠p)(h:Al K H a xs):Al K H' a xs:=by
 rcases h with(h|⟨o,h⟩)|h
 .exact .inl (.inl (e _ _ Ai h))
 .exact .inl (.inr ⟨o,e _ _ Ai h⟩)
 .exact .inr h
end L2
set_option maxHeartbeats 8000000
namespace L2
variable{I l:Addr}{i n nl:Nat}{ss:List Str}{E Q:Value->Shared->Prop}
def EC(acc:List Str)(x:Str):List Str:=if acc.any (· == x)then acc else acc++[x]
def dd(ss:List Str):List Str:=ss.foldl EC []
theorem yg(acc:List Str)(x k:Str):(EC acc x).any (· == k)=(acc.any (· == k) || decide (k=x)):=by
 unfold EC
 by_cases h:acc.any (· == x)=true
 .rw[i6 h]
  by_cases e:k=x
  .subst e;rw[h];simp
  .simp[e]
 .rw[hZ h,List.any_append]
  by_cases e:k=x
  .subst e;simp
  .have a:(x == k)=false:=by simpa[ZAA]using(λh':x=k=>e h'.symm)
   simp[a,e]
theorem Ur(acc:List Str)(x:Str):(EC acc x).length=if acc.any (· == x)then acc.length else acc.length+1:=by
 unfold EC;split <;> simp
theorem ZS(ss:List Str)(i:Nat)(h:i<ss.length):dd (ss.take (i+1))=EC (dd (ss.take i)) ss[i]:=by
 unfold dd;rw[Lq h,List.foldl_append];rfl
theorem Zg(ss:List Str):(dd ss).length<=ss.length:=by
 have:∀(l acc:List Str),(l.foldl EC acc).length<=acc.length+l.length:=by
  intro l
  induction l with
  |nil=>intro acc;simp
  |cons x r a=>
   intro acc;rw[NW];have h1:=a (EC acc x);rw[Ur]at h1;simp only[B6];split at h1 <;> omega
 have q:=this ss [];simp only[Wk,Nat.zero_add]at q;exact q
section
variable{prog:Program}{w:World}{A:Around}{R:Result->Shared->Prop}{fp wr:List Addr}{G:Array GenState->Array GenState->Prop}{P:Nat->Value->Prop}{St:Nat->Shared->Prop}
theorem kB(W:WalksS prog w A.in1 I fp wr G ss.length P St)(S:Addr)(P4:S∉fp)(Ud:∀i v,P i v->∃(h:i<ss.length)(t:Tok),v=.str ss[i] t)(a:ss.length+1<scanBound):
  ∀(k i:Nat)(s:Shared),ss.length - i=k->i<=ss.length->St i s->s.heap.SetOf (strKind prog w) S (λg=>(dd (ss.take i)).any (· == g)) (dd (ss.take i)).length->
   (∀s',Moved (S::wr) G s s'->s'.heap.SetOf (strKind prog w) S (λg=>(dd ss).any (· == g)) (dd ss).length->R (.ok (.ret .none)) s')->
   codeAny (model prog w) A (.builtin "set.update.loop" ⟨[.ref S,.ref I],[]⟩) R s:=by
 have B:S∉wr:=λh=>P4 (W.sub _ h);have n:∀{s s':Shared}{f:Str->Bool}{m:Nat},Moved wr G s s'->s.heap.SetOf (strKind prog w) S f m->s'.heap.SetOf (strKind prog w) S f m:=λc j=>by
  obtain⟨o,es,ep,t,ho,r⟩:=j;exact⟨o,es,ep,t,c.heap S _ B ho,r⟩
 intro k
 induction k with
 |zero=>
  intro i s D hi As j d;have e:i=ss.length:=by omega
  subst e;refine wu zk (by
   rw[Around.under_plainId fV _];show wpAny _ A.in1 (pyNext (.ref I) >>= _) _ _ s;refine fq (W.done s _ _ As λs' c=>?_);show wpAny _ A.in1 (ret Value.none) _ _ s';rw[JL]at j;exact fv (d s' (c.mono λb a=>By _ a) (n c j)))
 |succ k C=>
  intro i s D hi As j d;have l:i<ss.length:=by omega
  refine wu zk ?_;rw[Around.under_plainId fV _];show wpAny _ A.in1 (pyNext (.ref I) >>= _) _ _ s;refine fq (W.item i s _ _ l As λv s' E u c=>?_);obtain⟨_,t,rfl⟩:=Ud i v E;have F:=n c j;show wpAny _ A.in1 (holding [Value.str ss[i] t] (setAdd S (.str ss[i] t)) >>= _) _ _ s';refine fq (iZ ?_);unfold setAdd;have p:(strKind prog w).is ss[i] (.str ss[i] t)=true:=strKind_is prog w ss[i] t;refine iZ (fq ((strKind prog w).pyHash p ?_));have H:(dd (ss.take i)).length+1<scanBound:=by
   have:=Zg (ss.take i);rw[Em]at this;omega
  refine wpAny_setAddHashed_of (knd:=strKind prog w) (s:={ s' with toks:=s'.toks+1 }) p rfl F H λh' Gf q=>?_
  have y:h'.SetOf (strKind prog w) S (λg=>(dd (ss.take (i+1))).any (· == g)) (dd (ss.take (i+1))).length:=
   SetOf_congr q (λg=>by rw[ZS ss i l,yg]) (by rw[ZS ss i l,Ur])
  refine fv ⟨plainId_quiet fV _,C (i+1) _ (by omega) l (W.frame _ s' _ _ u (GQ _) λb a o e=>?_) y λJS x z=>?_⟩
  .rw[Gf.2 b (by rintro rfl;exact P4 a)];exact e
  .refine d JS (Moved.trans W.gtrans ((c.mono λb a=>By _ a).then_heap (GQ _) λb o a e=>?_) x) z;rw[Gf.2 b (by rintro rfl;exact a FH)];exact e
variable{s:Shared}
theorem sub_tuple_set:isSubtype (.type "tuple") (.type "set")=pure false:=by rw[isSubtype_type];kernel_rfl
theorem sub_tuple_frozenset:isSubtype (.type "tuple") (.type "frozenset")=pure false:=by rw[isSubtype_type];kernel_rfl
theorem Xx{T:String}{items:Array Value}{od:Option Addr}{Fd:Array (Option Value)}(ho:s.heap.get? l=some { cls:=.type T,dict:=od,data:=.seq items nl,slots:=Fd })
  (hs1:isSubtype (.type T) (.type "set")=pure false) (DX:isSubtype (.type T) (.type "frozenset")=pure false) (Ai:(Value.type T == Value.type "dict")=false) (hb:ss.length+1<scanBound)
  (hit:∀(f:Shared)(A1:Around)(Q1:Value->Shared->Prop),A1.handled=A.handled->f.heap.get? l=s.heap.get? l->l<f.heap.objs.size->
   (∀ob St P,WalksS prog w A1.in1 f.heap.objs.size [f.heap.objs.size,l] [f.heap.objs.size] (λa b=>b=a) ss.length P St->(∀i v,P i v->∃(h:i<ss.length)(t:Tok),v=.str ss[i] t)->St 0 { f with heap:=f.heap.push ob }->Q1 (.ref f.heap.objs.size) { f with heap:=f.heap.push ob })->
   wpAny (model prog w) A1 (pyIter (.ref l)) Q1 E f)
  (h:∀(h':Heap)(tk:Nat),h'.SetOf (strKind prog w) s.heap.objs.size (λk=>(dd ss).any (· == k)) (dd ss).length->(∀b o,b<s.heap.objs.size->s.heap.get? b=some o->h'.get? b=some o)->Q (.ref s.heap.objs.size) { s with heap:=h',toks:=tk }) :
  wpAny (model prog w) A (call (.type "set") [.ref l]) Q E s:=by
 have z:l<s.heap.objs.size:=AX ho;obtain⟨c,tl,S⟩:=PySem.F.called_set.mro;have σ:=PySem.F.called_set.made;have Y:=PySem.F.called_set.sub;refine qh (ZAB (by
  show wpAny _ _ (callAny (.type "set") _) _ _ _;refine fv ⟨WZ _ (by decide +kernel),wu PySem.F.entry_type_call ?_⟩;rw[Around.under_plain (weight_type_call_type "set" [.ref l] []) rfl];have h1:=PySem.F.called_set.notType;have h2:=PySem.F.called_set.canCreate;have V:=PySem.F.typeCall_set_1 (.ref l)
  repeat (any_goals (first|assumption|wp_step))
  refine my (code_set_new_1 (.ref l) (E:=E) (Q₁:=λobj x=>∃d:Bool,obj=.ref s.heap.objs.size/\x={ s with heap:=s.heap.push { cls:=.type "set", dict:=none,data:=.set #[] 0 (.fresh 0 0 d) } }) λd=>⟨d,rfl,rfl⟩) λr x m=>?_
  cases r with
  |error e=>exact m
  |ok J=>
   cases J with
   |ret obj=>
    obtain⟨d,rfl,rfl⟩:=m;generalize p:({ cls:=.type "set", dict:=none,data:=.set #[] 0 (.fresh 0 0 d) }:Obj)=so;have q:(s.heap.push so).objs.size=s.heap.objs.size+1:=Dm ..;have y:(s.heap.push so).get? s.heap.objs.size=some so:=BE _ (by rw[<- p];rfl);have I:Shared.TypeIs { s with heap:=s.heap.push so } (.ref s.heap.objs.size) "set" := ⟨_,y,by rw[<- p]⟩
    have U:=PySem.F.called_set.init.lookup;have X:=PySem.F.called_set.init.bind (.ref s.heap.objs.size)
    repeat (any_goals (first|assumption|wp_step))
    refine my (k9 (R:=wants (λr u=>r=.none/\∃h' tk,u={ s with heap:=h',toks:=tk }/\h'.SetOf (strKind prog w) s.heap.objs.size (λk=>(dd ss).any (· == k)) (dd ss).length/\
      (∀b o,b<s.heap.objs.size->s.heap.get? b=some o->h'.get? b=some o)) E) PySem.F.called_set.init.plain PySem.F.entry_set_init (check_set_init_1 I ?_)) λB u g=>?_
    .have O:(s.heap.push so).get? l=some { cls:=.type T,dict:=od,data:=.seq items nl,slots:=Fd }:=Ao _ ho;subst p;unfold Builtin.«set.__init__» noKeywords Builtin.Frozenset.updateFrom;generalize C:pyIter=PI
     wp_walk
     subst C;refine hit { s with heap:=s.heap.push _ } _ _ rfl (O.trans ho.symm) (Nat.lt_of_lt_of_eq (Nb z) q.symm) λob St P W Ud D=>?_
     refine fq (wpAny_runValue ?_);have N:s.heap.objs.size∉[(s.heap.push { cls:=.type "set", dict:=none,data:=.set #[] 0 (.fresh 0 0 d) }).objs.size,l]:=by
      rw[q];simp only[Dn,Bg,m9,not_or];exact⟨BZ (zf _),Fo z⟩
     refine kB W s.heap.objs.size N Ud hb (ss.length - 0) 0 _ rfl (DV _) D ?_ ?_
     .have H:=Ao ob y;exact SetOf_congr ((setObjOf_fresh (knd:=strKind prog w) d).setOf H (by unfold scanBound;omega)) (λ_=>rfl) rfl
     .intro s' j MQ;obtain⟨h',g',d',G,KN⟩:=s';have L:g'=s.gens:=j.gens;have M:d'=s.drawn:=j.drawn;have K:KN=s.os:=j.os;subst L;subst M;subst K;show wpAny _ _ _ _ _ _;refine fv ?_;show wpAny _ _ (ret Value.none) _ _ _;refine fv ⟨rfl,h',G,rfl,MQ,λb o Lf e=>?_⟩;refine j.heap b o ?_ (Ao _ (Ao _ e));rw[q];simp only[Dn,Bg,m9,not_or];exact⟨BZ Lf,BZ (Nb Lf)⟩
    .cases B with
     |error e=>exact g
     |ok n=>
      cases n with
      |ret r=>
       obtain⟨rfl,h',tk,rfl,MQ,ME⟩:=g
       repeat (any_goals (first|assumption|wp_step))
       exact h _ _ MQ ME
      |_=>exact g.elim
   |_=>exact m.elim))
end
def ID(P:Program)(w:World)(a:Addr)(f:Str->Bool)(n:Nat):HO:=.ext λh=>h.SetOf (strKind P w) a f n
section
variable{X:Cx}
theorem ZV{A2:List Value}(r:Vals (ss.map V.str) A2){v:Value}(e:A2[i]?=some v):∃(h:i<ss.length)(t:Tok),v=.str ss[i] t:=by
 have hl:=r.length;rw[AH]at hl;have hi:i<A2.length:=(List.getElem?_eq_some_iff.mp e).1;have b:i<ss.length:=by omega
 have d:(ss.map V.str)[i]?=some (.str ss[i]):=by rw[B3,Aw b];rfl
 obtain⟨u,a,c⟩:=r.get d;rw[e]at a;cases a;obtain⟨t,q⟩:=c;exact⟨b,t,q⟩
theorem aj(B:X.calm=true):Be X (.type "set") (λxs H Q=>∃(p:Addr)(tp:Bool)(ss:List Str),xs=[.ref p]/\D7 X.K tp H p (ss.map V.str)/\ss.length<4000/\
  ∀l,H l=none->Q (.ref l) (upd H l (ID X.prog X.w l (λm=>(dd ss).any (· == m)) (dd ss).length))):=by
 intro Zd s Z H xs us Q I r h;obtain⟨p,tp,ss,rfl,z,M,q⟩:=h;obtain⟨u,rfl,G⟩:=vals1 r;cases G;have C:ss.length+1<scanBound:=by unfold scanBound;omega
 have g:∀(h':Heap)(tk:Nat),h'.SetOf (strKind X.prog X.w) s.heap.objs.size (λm=>(dd ss).any (· == m)) (dd ss).length->(∀b o,b<s.heap.objs.size->s.heap.get? b=some o->h'.get? b=some o)->
   EP X Zd Z Q (.ref s.heap.objs.size) { s with heap:=h',toks:=tk }:=λh' tk D kp=>by
  refine⟨.ref s.heap.objs.size,_,I.laid (t':=tk) (λb o e=>kp b o (AX e) e) (AZ _) (show Bz X.prog X.w _ h' _ (ID X.prog X.w s.heap.objs.size _ _)from⟨D,?_,λh1 h2 Ox J=>?_⟩),rfl,q _ (I.AB.fresh (AZ _))⟩
  .obtain⟨o,_,_,_,ho,_⟩:=D;exact⟨o,ho⟩
  .obtain⟨o,es,ep,t,ho,r⟩:=Ox;exact⟨o,es,ep,t,J o ho,r⟩
 cases tp with
 |false=>
  obtain⟨A2,f,pl,M1⟩:=I.list z;have hl:=f.length;rw[AH]at hl;obtain⟨⟨c,d,L,E⟩,n,ho,Df,hd,J3⟩:=id pl;simp only at Df hd J3;subst Df;subst hd;subst J3;refine Xx ho PySem.F.sub_list_set PySem.F.sub_list_frozenset (by decide) C (λa A1 Q1 x j l1 Rc=>?_) g;have k:a.heap.IsList p A2.toArray:=⟨_,j.trans ho,rfl,n,rfl⟩;have y:A2.toArray.size=ss.length:=List.size_toArray.trans hl.symm;refine jU k (Rc _ (λi s=>s.heap.IsListIter a.heap.objs.size p i/\s.heap.IsList p A2.toArray) (λi v=>A2.toArray[i]?=some v) (by
   have W:=(Walks.list (prog:=X.prog) (w:=X.w) (A:=A1.in1) (by rw[eR,x];exact I.ok.hd B) a.heap.objs.size p (BZ l1) A2.toArray).toS;rw[y]at W;exact W) (λi v e=>ZV f (by simpa using e)) ⟨⟨_,BE _ rfl,rfl,rfl⟩,k.push _⟩)
 |true=>
  obtain⟨A2,f,pl,M1⟩:=I.tuple z;have hl:=f.length;rw[AH]at hl;obtain⟨⟨c,d,L,E⟩,ho,Df,n,J3⟩:=id pl;simp only at Df J3;subst Df;subst J3;refine Xx ho sub_tuple_set sub_tuple_frozenset (by decide) C (λa A1 Q1 x j l1 Rc=>?_) g;have k:a.heap.IsTuple p A2.toArray:=⟨_,j.trans ho,rfl,n,rfl⟩;have y:A2.toArray.size=ss.length:=List.size_toArray.trans hl.symm;refine xv k (Rc _ (λi s=>s.heap.IsTupleIter a.heap.objs.size p i/\s.heap.IsTuple p A2.toArray) (λi v=>A2.toArray[i]?=some v) (by
   have W:=(Walks.tuple (prog:=X.prog) (w:=X.w) (A:=A1.in1) (by rw[eR,x];exact I.ok.hd B) a.heap.objs.size p (BZ l1) A2.toArray).toS;rw[y]at W;exact W) (λi v e=>ZV f (by simpa using e)) ⟨⟨_,BE _ rfl,rfl,rfl⟩,?_⟩)
  exact⟨_,Ao _ (j.trans ho),rfl,n,rfl⟩
theorem call_len_set:Be X (.builtin "len") (λxs H Q=>∃l f n,xs=[.ref l]/\H l=some (ID X.prog X.w l f n)/\Q (.int n) H):=by
 intro Zd s Z H xs us Q I r h;obtain⟨l,f,n,rfl,e,q⟩:=h;obtain⟨u,rfl,b⟩:=vals1 r;cases b;obtain⟨⟨o,es,ep,t,ho,a,hd,_,_,Gf,d,c⟩,_,_⟩:=I.AB l _ e;subst c;refine PySem.call_len_set ho a hd d ?_ ⟨.int _,H,I.tok _,⟨_,rfl⟩,q⟩;have:es.size<4096:=Gf;have h2:(4096:Int)<2 ^ 63:=by decide
 omega
end
end L2
set_option maxHeartbeats 4000000
namespace L2
variable{X:Cx}{a c e l o tg:Expr}{es ifs:List Expr}{body rest:List Stmt}{t tb:TS}{tc tt:TT}{te tl to:TE}{p pos' px:Pos}{name x y:Str}{EO op:CmpOp}{r:List V->Hp->VK->Prop}{i k n:Nat}{ps:List Str}{sp:Sp}{T:String}{wi:TI}{g:TG}{w:World}{I f:Addr}
structure QE (X:Cx) (e:Expr) (t:TE):Prop where h:PE X e t
structure QT (X:Cx) (e:Expr) (t:TT):Prop where h:PT X e t
structure QW (X:Cx) (e:Expr) (t:TT):Prop where h:PW X e t
structure QA (X:Cx) (es:List Expr) (t:TA):Prop where h:PA X es t
structure QS (X:Cx) (st:Stmt) (t:TS):Prop where h:PS X st t
structure FN (X:Cx) (st:List Stmt) (t:TS):Prop where h:DE X st t
structure QG (X:Cx) (tg:Expr) (t:TG):Prop where h:PG X tg t
structure NG (X:Cx) (ts:List Expr) (t:EY):Prop where h:JO X ts t
structure QI (X:Cx) (tg iter:Expr) (wi:TI):Prop where h:PI X tg iter wi
structure Mw (X:Cx) (ifs:List Expr) (t:TT):Prop where h:FL X ifs t
structure QO (X:Cx) (e:Option Expr) (t:TO):Prop where h:PO X e t
section
variable{b:Expr}{rest:List Expr}{ta tb tc:TE}{tA Hr:TT}{t:TA}{pos p2 apos Bs:Pos}
theorem qv(i:Nat)(a:X.N[i]?=some x:=by rfl)(hv:OJ X.env.scope x:=by first|exact Or.inl rfl|exact Or.inr (Or.inl rfl)|exact Or.inr (Or.inr rfl))(hd:(x == ("__debug__":Str))=false:=by decide)
  (E9:(x == ("__classdict__":Str))=false:=by decide):QE X (.Name x pos) (Br i):=⟨dB a hv hd E9⟩
theorem A4{i j pos}:QE X (.Constant (.int i) j pos) (tC (.int i)):=⟨λ_ _ _ H _ I h=>wpAny_Constant_int ⟨.int i,H,I.tok _,⟨_,rfl⟩,h⟩⟩
theorem Hd{b j pos}:QE X (.Constant (.bool b) j pos) (tC (.bl b)):=⟨λ_ _ _ H _ I h=>Constant_bool ⟨.bl b,H,I,rfl,h⟩⟩
theorem Rv{j pos}:QE X (.Constant .none j pos) (tC .A5):=⟨λ_ _ _ H _ I h=>Constant_none ⟨.A5,H,I,rfl,h⟩⟩
theorem AI{x j pos}:QE X (.Constant (.str x) j pos) (tC (.str x)):=⟨λ_ _ _ H _ I h=>Calls.Constant_str ⟨.str x,H,I.tok _,⟨_,rfl⟩,h⟩⟩
theorem Bj{v:V}{u:Value}(b:Gl X x)(a:X.mg x=some u)(r:RelV v u)(hd:(x == ("__debug__":Str))=false:=by decide):QE X (.Name x pos) (tC v):=⟨λ_ _ _ H _ I h=>LO I b a ⟨v,H,I,r,h⟩ hd⟩
theorem HV(T:String)(a:X.mg x=none)(b:Gl X x:=by rfl)(hv:bootBuiltins x=some (.type T):=by decide +kernel)(hn:x ≠"__name__" := by decide)(hd:(x == ("__debug__":Str))=false:=by decide):
  QE X (.Name x pos) (tC (.ty T)):=⟨jM b a hv rfl hn hd⟩
theorem Ae{op:Operator}{r:R2}(ho:Ar X (binaryOp op) r)(ha:QE X a ta)(c:QE X b tb):QE X (.BinOp a op b pos) (BQ r ta tb):=⟨by
 have ha:=ha.h;have c:=c.h;intro Zd s Z H Q I h;exact wpAny_BinOp (TM ha c I h λv u s2 x y H2 I2 e d q=>ho Zd s2 Z H2 x y v u Q I2 e d q)⟩
theorem sI{r:R2}(ho:Ar X (compareOp op) r)(ha:QE X a ta)(c:QE X b tb)(f:behindInMarks op b=false):QE X (.Compare a [op] [b] pos) (BQ r ta tb):=⟨by
 have ha:=ha.h;have c:=c.h;intro Zd s Z H Q I h;exact wpAny_Compare1 (TM ha c I h λv u s2 x y H2 I2 e d q=>ho Zd s2 Z H2 x y v u Q I2 e d q) f⟩
theorem oK{r:R2}(ho:Ar X (compareOp op) r)(ha:QE X a ta)(d:QE X b tb)(c:behindInMarks op b=false):QT X (.Compare a [op] [b] pos) (LM (BQ r ta tb)):=⟨iT ho ha.h d.h c⟩
theorem XR{r j:R2}(ho:Ar X (compareOp op) r)(Cz:Ar X (compareOp EO) j)(ha:QE X a ta)(g:QE X b tb)(f:QE X c tc)
  (D:lastMarks [op,EO] [b,c]=false:=by with_unfolding_all rfl):QE X (.Compare a [op,EO] [b,c] pos) (MP r j ta tb tc):=⟨by
 have ha:=ha.h;have g:=g.h;have f:=f.h;intro Zd s Z H Q I h;refine Compare_chain (AG (ha Zd s Z H _ I h) λv p⟨x,H1,I1,w,C⟩=>chain_link (AG (g Zd p Z H1 _ I1 C) λu s2⟨y,H2,I2,i,B⟩=>
  AG (ho Zd s2 Z H2 x y v u _ I2 w i B) λd o⟨z,H3,I3,t,k,e,l⟩=>?_)) D
 subst e;cases t;refine jN ?_;cases k with
 |false=>exact ite_ff ⟨.bl false,H3,I3,rfl,l⟩
 |true=>exact ite_tt (chain_last (AG (f Zd o Z H3 _ I3 l) λn s4⟨m,H4,I4,q,A⟩=>Cz Zd s4 Z H4 y m u n Q I4 i q A))⟩
theorem Xg{r j:R2}(ho:Ar X (compareOp op) r)(Cz:Ar X (compareOp EO) j)(ha:QE X a ta)(g:QE X b tb)(f:QE X c tc)
  (J:lastMarks [op,EO] [b,c]=false:=by with_unfolding_all rfl):QT X (.Compare a [op,EO] [b,c] pos) (LM (MP r j ta tb tc)):=⟨by
 have ha:=ha.h;have g:=g.h;have f:=f.h;intro Zd s Z H Q I h;refine isTrue_chain (AG (ha Zd s Z H _ I h) λv p⟨x,H1,I1,A,E⟩=>test_link (AG (g Zd p Z H1 _ I1 E) λu s2⟨y,H2,I2,i,D⟩=>
  AG (ho Zd s2 Z H2 x y v u _ I2 A i D) λd o⟨z,H3,I3,w,k,e,l⟩=>?_)) J
 subst e;cases w;refine jN ?_;cases k with
 |false=>
  obtain⟨O,L,F⟩:=l;cases L;exact ite_ff ⟨H3,I3,F⟩
 |true=>
  refine ite_tt (test_last (AG (f Zd o Z H3 _ I3 l) λn s4⟨m,H4,I4,t,C⟩=>AG (Cz Zd s4 Z H4 y m u n _ I4 i t C) λd' N G=>?_));obtain⟨M,H5,I5,q,k2,K,B⟩:=G;subst K;cases q;exact jN ⟨H5,I5,B⟩⟩
theorem G2{op}(h:QE X a ta):QE X (.BoolOp op [a] pos) ta:=⟨by have h:=h.h;exact λZd s Z H Q I hw=>BoolOp_one (h Zd s Z H Q I hw)⟩
theorem Fw(ha:QE X a ta)(e:QE X (.BoolOp .And (b::rest) pos) tb):QE X (.BoolOp .And (a::b::rest) pos) (Ui ta tb):=⟨by
 have ha:=ha.h;have e:=e.h;intro Zd s Z H Q I h;refine BoolOp_and (AG (ha Zd s Z H _ I h) λv f EK=>?_);obtain⟨x,H1,I1,g,d⟩:=EK;obtain⟨c,rfl,d⟩:=d;cases g;refine jN ?_;cases c with
 |true=>exact e Zd f Z H1 Q I1 d
 |false=>exact⟨.bl false,H1,I1,rfl,d⟩⟩
theorem Z0(ha:QE X a ta)(e:QE X (.BoolOp .Or (b::rest) pos) tb):QE X (.BoolOp .Or (a::b::rest) pos) (Tt ta tb):=⟨by
 have ha:=ha.h;have e:=e.h;intro Zd s Z H Q I h;refine BoolOp_or (AG (ha Zd s Z H _ I h) λv f EK=>?_);obtain⟨x,H1,I1,g,d⟩:=EK;obtain⟨c,rfl,d⟩:=d;cases g;refine jN ?_;cases c with
 |false=>exact e Zd f Z H1 Q I1 d
 |true=>exact⟨.bl true,H1,I1,rfl,d⟩⟩
theorem yE(ha:QE X a ta):QE X (.UnaryOp .Not a pos) (Qk ta):=⟨by
 have ha:=ha.h;intro Zd s Z H Q I h;refine UnaryOp_ (AG (ha Zd s Z H _ I h) λv e EK=>?_);obtain⟨x,H1,I1,d,b⟩:=EK;obtain⟨c,rfl,b⟩:=b;cases d;exact not_of (jN ⟨.bl (!c),H1,I1,rfl,b⟩)⟩
theorem Pc(ha:QT X a tA):QW X (.BoolOp .And [a] pos) tA:=⟨by
 have ha:=ha.h;intro b Zd s Z H Q I h;refine isTrue_and (AG (ha Zd s Z H Q I h) λc d e=>?_);cases c with
 |true=>exact isTrue_and_nil e
 |false=>exact e⟩
theorem IP(ha:QT X a tA):QW X (.BoolOp .Or [a] pos) tA:=⟨by
 have ha:=ha.h;intro b Zd s Z H Q I h;refine isTrue_or (AG (ha Zd s Z H Q I h) λc d e=>?_);cases c with
 |false=>exact isTrue_or_nil e
 |true=>exact e⟩
theorem ON(ha:QT X a tA)(d:QW X (.BoolOp .And (b::rest) pos) Hr):QW X (.BoolOp .And (a::b::rest) pos) (Vt tA Hr):=⟨by
 have ha:=ha.h;have d:=d.h;intro f Zd s Z H Q I h;refine isTrue_and (AG (ha Zd s Z H _ I h) λc g EK=>?_);obtain⟨H1,I1,e⟩:=EK;cases c with
 |true=>exact d f Zd g Z H1 Q I1 e
 |false=>exact⟨H1,I1,e⟩⟩
theorem Fh(ha:QT X a tA)(d:QW X (.BoolOp .Or (b::rest) pos) Hr):QW X (.BoolOp .Or (a::b::rest) pos) (TK tA Hr):=⟨by
 have ha:=ha.h;have d:=d.h;intro f Zd s Z H Q I h;refine isTrue_or (AG (ha Zd s Z H _ I h) λc g EK=>?_);obtain⟨H1,I1,e⟩:=EK;cases c with
 |true=>exact⟨H1,I1,e⟩
 |false=>exact d f Zd g Z H1 Q I1 e⟩
theorem QW.pt{t:TT}(h:QW X e t):QT X e t:=⟨h.h.pt⟩
theorem Ei(ha:QT X a tA):QT X (.UnaryOp .Not a pos) (Vv tA):=⟨by
 have ha:=ha.h;intro Zd s Z H Q I h;exact isTrue_not (ha Zd s Z H (λc H1=>Q (!c) H1) I h)⟩
theorem Ey(h:QE X e te)(f:∀a,isTrue e X.env a=(do let v <- a;standAt e.pos;holding [v] (truthy v)):=by intro _;rfl):QT X e (tB te):=⟨by
 have h:=h.h;intro Zd s Z H Q I hw;refine isTrue_plain (AG (h Zd s Z H _ I hw) λv g⟨x,H1,I1,b,c⟩=>?_) (f _);obtain⟨d,rfl,q⟩:=c;cases b;exact jN ⟨H1,I1,q⟩⟩
theorem YJ(e:QT X c tA)(ha:QE X a ta)(f:QE X b tb):QE X (.IfExp c a b pos) (Nk tA ta tb):=⟨by
 have e:=e.h;have ha:=ha.h;have f:=f.h;intro Zd s Z H Q I h;refine wpAny_IfExp (AG (e Zd s Z H _ I h) λd g EK=>?_);obtain⟨H1,I1,i⟩:=EK;cases d with
 |true=>exact ha Zd g Z H1 Q I1 i
 |false=>exact f Zd g Z H1 Q I1 i⟩
theorem A3:QA X [] B0:=⟨ZR⟩
theorem A0(ha:QE X e te)(b:QA X es t)(a:starEach (e::es) X.env=(false,eval e X.env)::starEach es X.env:=by rfl):QA X (e::es) (Ab te t):=⟨S9 ha.h b.h a⟩
theorem Cu{x1}(h:QA X es t):QE X (.Tuple es x1 pos) (WH t):=⟨vT h.h⟩
theorem D3(h:QA X es t):QE X (.List es pos) (WV t):=⟨qZ h.h⟩
theorem Ga:QO X none Ru:=⟨by
 intro Zd s Z H Q I h;rw[evalPart_none];exact fv ⟨none,H,I,.none,h⟩⟩
theorem FO(h:QE X e te):QO X (some e) (Tp te):=⟨by
 have h:=h.h;intro Zd s Z H Q I hw;rw[evalPart_some];refine AG (h Zd s Z H _ I hw) λu d a=>?_;obtain⟨x,H1,I1,b,c⟩:=a;obtain⟨i,rfl,q⟩:=c;obtain⟨t,rfl⟩:=b;exact⟨some i,H1,I1,.int i t,q⟩⟩
theorem Gx{r:V->Option Int->Option Int->Hp->VK->Prop}{lo hi:Option Expr}{tl th:TO}(t:IC X r)(g:QE X e te)(hl:QO X lo tl)(f:QO X hi th):QE X (.Subscript e (.Slice lo hi none p2) pos) (Vo r te tl th):=⟨by
 have g:=g.h;have hl:=hl.h;have f:=f.h;intro Zd s Z H Q I h;refine Subscript_ (AG (g Zd s Z H _ I h) λv i EK=>?_);obtain⟨x,H1,I1,j,n⟩:=EK;refine wpAny_Slice (AG (hl Zd i Z H1 _ I1 n) λd s2⟨l,H2,I2,pl,m⟩=>AG (f Zd s2 Z H2 _ I2 m) λc a Mq=>?_);obtain⟨u,H3,I3,o,k⟩:=Mq;rw[evalPart_none];refine fv ?_;have B:Inv X Zd Z H3 { a with heap:=a.heap.push { cls:=.type "slice", data:=.fields #[d,c,.none] } }:=I3.kept (t':=a.toks) λb ob q=>Ao _ q
 obtain⟨T,id,z,p,y⟩:=t Zd { a with heap:=a.heap.push { cls:=.type "slice", data:=.fields #[d,c,.none] } } Z H3 x v d c l u a.heap.objs.size Q B j (Heap.IsSliceOf.new ..) pl o k
 show wpAny (model X.prog X.w) X.A (subscriptTail e (.Slice lo hi none p2) v (.ref a.heap.objs.size)) (EP X Zd Z Q) X.xe { a with heap:=a.heap.push { cls:=.type "slice", data:=.fields #[d,c,.none] } }
 exact tail_any (ops:=[.ref a.heap.objs.size,v]) p z y (by with_unfolding_all rfl)⟩
theorem vP{r:R2}(g:Gb X r)(ha:QE X a ta)(c:QE X b tb)(f:SN b):QE X (.Subscript a b pos) (BQ r ta tb):=⟨by
 have ha:=ha.h;have c:=c.h;intro Zd s Z H Q I h;exact Subscript_ (TM ha c I h λv u s2 x y H2 I2 e d q=>g a b Zd s2 Z H2 x y v u Q I2 e d q (f _ _))⟩
theorem tS{j:Nat}(h:AD X.prog X.w X.K X.mg X.base x k ps sp)(a:BJ j X.A)(c:k<=j)(ha:QA X (e::es) t)(d:Gl X x:=by rfl)(B7:(x == ("__debug__":Str))=false:=by decide)
  (he:starEach (e::es) X.env=(false,eval e X.env)::starEach es X.env:=by rfl) (B1:(backTo pos (starEach es X.env)).any (·.1)=false:=by rfl):QE X (.Call (.Name x p) (e::es) [] pos) (EE sp [] E0 t):=⟨by
 have ha:=ha.h;obtain⟨f,fd,F,b,kp,m⟩:=h;exact gO (F.mono c) a d m kp b .nil ua ha B7 he B1⟩
theorem uR{id:String}(j:Be X (.builtin id) r)(i:Gl X x)(g:X.mg x=none)(d:bootBuiltins x=some (.builtin id))(ha:QA X (e::es) t)(f:x ≠"__name__" := by decide)(B7:(x == ("__debug__":Str))=false:=by decide)
  (he:starEach (e::es) X.env=(false,eval e X.env)::starEach es X.env:=by rfl) (B1:(backTo pos (starEach es X.env)).any (·.1)=false:=by rfl):QE X (.Call (.Name x p) (e::es) [] pos) (CJ r t):=⟨by
 have ha:=ha.h;intro Zd s Z H Q I h;refine jZ (IH I i g d ?_ f B7);exact PyProof.Rows.callWith_builtin1 (AG (ha pos Zd s Z H _ I h) λus a A6=>by obtain⟨vs,H1,I1,b,c⟩:=A6;exact j Zd a Z H1 vs us Q I1 b c) he B1⟩
theorem rO(j:Be X (.type T) r)(i:Gl X x)(g:X.mg x=none)(d:bootBuiltins x=some (.type T))(ha:QA X (e::es) t)(f:x ≠"__name__" := by decide)(B7:(x == ("__debug__":Str))=false:=by decide)
  (he:starEach (e::es) X.env=(false,eval e X.env)::starEach es X.env:=by rfl) (B1:(backTo pos (starEach es X.env)).any (·.1)=false:=by rfl):QE X (.Call (.Name x p) (e::es) [] pos) (CJ r t):=⟨by
 have ha:=ha.h;intro Zd s Z H Q I h;refine jZ (IH I i g d ?_ f B7);exact Qf (AG (ha pos Zd s Z H _ I h) λus a A6=>by obtain⟨vs,H1,I1,b,c⟩:=A6;exact j Zd a Z H1 vs us Q I1 b c) he B1⟩
theorem CF{id:String}{r:V->List V->Hp->VK->Prop}(j:PlainAttrs T)(slot:Slot T name id)(W0:typeOf (.builtin id)=pure (.type "method_descriptor"))(k:FW X id r)(ho:QE X o to)(ha:QA X (e::es) t)
  (Qw:attributeBase o name X.env (eval o X.env)=eval o X.env:=by rfl)
  (Uq:((backTo Bs (starEach (e::es) X.env)).all (λx=>!x.1) && (backToKw Bs (keywordEach [] X.env)).all (λx=>x.1.isSome)
   && decide ((e::es).length+([]:List Keyword).length+(if([]:List Keyword).isEmpty then 0 else 1)<30))=true:=by rfl)
  (PK:(apos.endLine == Bs.line)=true:=by rfl) (hs:starEach (e::es) X.env=(false,eval e X.env)::starEach es X.env:=by rfl) (Mi:(backTo Bs (starEach es X.env)).any (·.1)=false:=by rfl) :
  QE X (.Call (.Attribute o name apos) (e::es) [] Bs) (Iz X.K T r to t):=⟨by
 have ho:=ho.h;have ha:=ha.h;intro Zd s Z H Q I h;refine wpAny_Call_method_late Qw Uq PK rfl (AG (ho Zd s Z H _ I h) λv d c=>?_);obtain⟨x,H1,I1,a,ty,i⟩:=c;obtain⟨h1,h2⟩:=ie I1 a ty;refine⟨T,id,j,slot,W0,h1,h2,?_⟩;have b:=ha Bs Zd d Z H1 _ I1 i;rw[hs]at b ⊢;refine zJ (by show(false || (backTo Bs (starEach es X.env)).any (·.1))=false;rw[Mi] <;> rfl) (Calls.evalArgs_plain ?_)
 exact AG b λus s2 A6=>by obtain⟨vs,H2,I2,f,g⟩:=A6;exact k Zd s2 Z H2 x vs v us Q I2 a f g⟩
variable{elt iter:Expr}{scope:Scope}{A8:List Str}{js:List Nat}
theorem KR(hl:QE X l tl):QI X tg l (RT X.K tl):=⟨by
 have hl:=hl.h;intro Zd s Z H R I h;refine AG (hl Zd s Z H _ I h) λv c⟨x,H1,I1,i,j⟩=>?_;obtain⟨tp,a,xs,e,f,q⟩:=j;subst e;cases i;have d:∀b∈[c.heap.objs.size],CG X Zd H1 b:=λb m=>by
  have e:b=c.heap.objs.size:=by simpa using m
  subst e;exact I1.J1 (AZ _) (I1.AB.fresh (AZ _))
 cases tp with
 |false=>
  obtain⟨A2,g,p,k⟩:=I1.list f;refine jU p.isList ?_;exact⟨c.heap.objs.size,[c.heap.objs.size],_,_,H1,rfl,I1.kept (t':=c.toks) λb o e=>Ao _ e,qV a _ xs,⟨_,BE _ rfl,rfl,rfl⟩,d,q⟩
 |true=>
  obtain⟨A2,g,p,k⟩:=I1.tuple f;refine xv (show c.heap.IsTuple a A2.toArray from p) ?_;exact⟨c.heap.objs.size,[c.heap.objs.size],_,_,H1,rfl,I1.kept (t':=c.toks) λb o e=>Ao _ e,wQ a _ xs,⟨_,BE _ rfl,rfl,rfl⟩,d,q⟩⟩
theorem Pe(hl:QE X l tl):QI X tg l (T4 tl):=⟨by
 have hl:=hl.h;intro Zd s Z H R I h;refine AG (hl Zd s Z H _ I h) λv a⟨x,H1,I1,f,g⟩=>?_;obtain⟨z,e,q⟩:=g;subst e;obtain⟨t,rfl⟩:=f;have c:∀b∈[a.heap.objs.size],CG X Zd H1 b:=λb i=>by
  have e:b=a.heap.objs.size:=by simpa using i
  subst e;exact I1.J1 (AZ _) (I1.AB.fresh (AZ _))
 have kp:∀(ob:Obj),Inv X Zd Z H1 { a with heap:=a.heap.push ob }:=λob=>I1.kept (t':=a.toks) λb o e=>Ao _ e
 cases ha:z.cps.all (· < 128)
 .refine wpAny_pyIter_wide ha ?_;exact⟨a.heap.objs.size,[a.heap.objs.size],_,_,H1,rfl,kp _,cm (t:=t) (by decide) (λA' d=>Walks.strWide d _ z t) (λ_ _ _ _ _ st h=>wpAny_pyIter_striter_wide st h),⟨_,BE _ rfl,rfl,rfl⟩,c,q⟩
 .refine wpAny_pyIter_ascii ha ?_;exact⟨a.heap.objs.size,[a.heap.objs.size],_,_,H1,rfl,kp _,cm (t:=t) (by decide) (λA' d=>Walks.strAscii d _ z t) (λ_ _ _ _ _ st h=>wpAny_pyIter_striter_ascii st h),⟨_,BE _ rfl,rfl,rfl⟩,c,q⟩⟩
theorem MX{ta:TA}(k:Gl X "range")(i:X.mg "range"=none)(ha:QA X [a] ta)(g:starEach [a] X.env=[(false,eval a X.env)]:=by rfl):QI X tg (.Call (.Name "range" p) [a] [] pos) (VD ta):=⟨by
 have ha:=ha.h;intro Zd s Z H R I h;refine Call_ (IH I k i boot_range (Qf (AG (ha pos Zd s Z H _ I h) λus l⟨vs,H1,I1,d,b⟩=>?_) g rfl));obtain⟨j,e,b,f,q⟩:=b;subst e;cases d with
 |cons r c=>
  cases c;obtain⟨t,rfl⟩:=r;exact call_range_1 (bT I1 (by omega) (by omega) b f (by simpa using q))⟩
theorem Dy:Mw X [] RK:=⟨λZd s Z H Q I h=>by
 rw[NX];exact fv ⟨H,I,h⟩⟩
theorem Fu(b:X.calm=true)(S:DN X.N X.env.scope scope x A8 js)(hi:QI X (.Name x px) iter wi)
  (Bo:∀fp C s H,Mw (ED X (A8++[x]) scope (Au X.env.cells scope.names) C s H fp) ifs tt) (Bl:∀fp C s H,QE (ED X (A8++[x]) scope (Au X.env.cells scope.names) C s H fp) elt te)
  (a:∀v,foldedSetIterable iter X.env v=pure v:=by intro _;rfl):QE X (.ListComp elt [⟨.Name x px,iter,ifs,0⟩] scope pos) (KO wi js tt te):=⟨qI b S hi.h (λfp C s H=>(Bo fp C s H).h) (λfp C s H=>(Bl fp C s H).h) a⟩
theorem fj{py IU:Pos}(c:X.N.Nodup)(Cr:X.N[i]?=some y)(a:Loc X.env.scope y)(b:X.calm=true)(S:DN X.N X.env.scope scope x A8 js)(hi:QI X (.Name x px) iter wi)
  (Bo:∀fp C s H,Mw (ED X (A8++[x]) scope (Au X.env.cells scope.names) C s H fp) ifs tt) (Bl:∀fp C s H,QE (ED X (A8++[x]) scope (Au X.env.cells scope.names) C s H fp) elt te)
  (Ly:swapsWith (.ListComp elt [⟨.Name x px,iter,ifs,0⟩] scope pos) (some (.Name y py)) IU.line X.env=pure true:=by rfl)
  (hf:X.fn y=true∨X.env.scope.names.lookup y=some .local:=by first|exact .inl rfl|exact .inr rfl|assumption)
  (hs:∀v,foldedSetIterable iter X.env v=pure v:=by intro _;rfl):QS X (.Assign [.Name y py] (.ListComp elt [⟨.Name x px,iter,ifs,0⟩] scope pos) IU) (EW (KO wi js tt te) (D1 i)):=
 ⟨yO c Cr a b S hi.h (λfp C s H=>(Bo fp C s H).h) (λfp C s H=>(Bl fp C s H).h) Ly hf hs⟩
theorem mQ(b:X.N.Nodup)(hi:X.N[i]?=some x)(hx:Loc X.env.scope x)(a:X.fn x=true∨X.env.scope.names.lookup x=some .local:=by first|exact .inl rfl|exact .inr rfl|assumption):QG X (.Name x pos) (D1 i):=⟨Ti b hi hx a⟩
theorem Yp:NG X [] MG:=⟨bG⟩
theorem QB{t:TG}{u:EY}(h1:QG X e t)(h2:NG X es u)
  (a:(assignEach (e::es) X.env).map (·.2)=assign e X.env::(assignEach es X.env).map (·.2):=by rfl):NG X (e::es) (KS t u):=⟨YA h1.h h2.h a⟩
theorem yI{t:EY}(b:X.calm=true)(h:NG X es t)(a:(assignEach es X.env).length=n:=by rfl)(As:(assignEach es X.env).findIdx? (·.1)=none:=by rfl):QG X (.Tuple es k pos) (Md X.K n t):=⟨X3 b h.h a As⟩
theorem Kr{i:Expr}{ti:TE}{t:Ph}(ho:QE X o to)(hi:QE X i ti)(l:TQ X t)
  (ha:∀v,assign (.Subscript o i pos) X.env v=(do
   let a <- holding [v] (eval o X.env)
   let b <- holding [v,a] (eval i X.env)
   standAt pos
   holding [v,a,b] (setItem a b v)
   release [v,a,b] []):=by intro _;rfl):QG X (.Subscript o i pos) (Qs to ti t):=⟨by
 have ho:=ho.h;have hi:=hi.h;intro Zd s Z H v u Q I r h;rw[ha];refine fq (iZ (AG (ho Zd s Z H _ I h) λa c k=>?_));obtain⟨x,H1,I1,e,j⟩:=k;refine fq (iZ (AG (hi Zd c Z H1 _ I1 j) λb s2 WK=>?_));obtain⟨y,H2,I2,d,g⟩:=WK;refine fq (nj (fq (iZ (AG (l Zd s2 Z H2 x y v a b u _ I2 e d r g) λ_ n m=>?_))));obtain⟨H3,I3,f⟩:=m;exact wpAny_release ⟨Z,H3,I3,f⟩⟩
end
section
variable{st:Stmt}{u:TS}{pos:Pos}
theorem BD:FN X [] Q5:=⟨Zj⟩
theorem AF(e:body=st::rest)(h:QS X st t)(h2:FN X rest u):FN X body (Jn t u):=⟨pX e h.h h2.h⟩
theorem AL(e:body=[st])(h:QS X st t):FN X body t:=⟨by have h:=h.h;rw[e];exact ng h⟩
theorem J8(b:QE X e te)(a:swapsWith e none pos.line X.env=pure false:=by rfl):QS X (.Expr e pos) (L9 te):=⟨bo b.h a⟩
theorem Ak(a:QE X e te):QS X (.Return (some e) pos) (N2 te):=⟨by
 have a:=a.h;intro Zd s Z H D I h;exact wpAny_Return_some (AG (a Zd s Z H _ I h) λv d A6=>by obtain⟨x,H1,I1,b,c⟩:=A6;exact⟨x,Z,H1,I1,b,c⟩)⟩
theorem B9{a b:List Stmt}(e:QT X c tc)(ha:FN X a t)(f:FN X b u):QS X (.If c a b pos) (VV tc t u):=⟨by
 have e:=e.h;have ha:=ha.h;have f:=f.h;intro Zd s Z H D I h;refine wpAny_If (AG (e Zd s Z H _ I h) λd g EK=>?_);obtain⟨H1,I1,i⟩:=EK;cases d with
 |true=>exact ha Zd g Z H1 D I1 i
 |false=>exact f Zd g Z H1 D I1 i⟩
theorem IF(b:QE X e te)(a:QG X tg g)(i:swapsWithSole [tg] e pos.line X.env=pure false:=by rfl)(hw:swappedStores [tg] e X.env=pure none:=by rfl)
  (h1:(assignEach [tg] X.env).map (·.2)=[assign tg X.env]:=by rfl):QS X (.Assign [tg] e pos) (EW te g):=⟨by
 have b:=b.h;have a:=a.h;intro Zd s Z H D I h;refine wpAny_Assign_stores (AG (b Zd s Z H _ I h) λv c⟨x,H1,I1,d,f⟩=>?_) i hw;rw[h1];exact AG (a Zd c Z H1 x v _ I1 d f) λ_ s2 q=>q⟩
theorem wM(f:X.N.Nodup)(hi:X.N[i]?=some x)(hx:Loc X.env.scope x)(a:QE X e te)(d:swapsWith e (some (.Name x pos')) pos.line X.env=pure false:=by rfl)(hf:X.fn x=true∨X.env.scope.names.lookup x=some .local:=by first|exact .inl rfl|exact .inr rfl|assumption):
  QS X (.Assign [.Name x pos'] e pos) (EW te (D1 i)):=⟨by
 have a:=a.h;intro Zd s Z H D I h;refine wpAny_Assign_Name (AG (a Zd s Z H _ I h) λv g⟨y,H1,I1,b,c⟩=>?_) d;exact Su I1 f hi hx b (λs2 I2=>⟨_,H1,I2,c⟩) hf⟩
theorem ag(o:PassesOwn (model X.prog X.w) X.A X.env X.xe)(l:QT X c tc)(m:FN X body tb):QS X (.While c body [] pos) (ZZ tc tb):=⟨by
 have l:=l.h;have m:=m.h;intro Zd s Z H D I h;obtain⟨W,⟨x,t⟩,a⟩:=h;refine wpAny_While (codeAny_whileLoop (λn s'=>∃ σ' H',Inv X Zd σ' H' s'/\W n σ' H') ?_ x ⟨Z,H,I,t⟩);rintro n u⟨σ1,H1,I1,r⟩;refine mV o (AG (l Zd u σ1 H1 _ I1 (a n σ1 H1 r)) λb s2 q=>?_);obtain⟨H2,I2,e⟩:=q;cases b with
 |true=>
  obtain⟨N,p,e⟩:=e;rw[i6 rfl];refine mV o (AG (m Zd s2 σ1 H2 _ I2 e) λf y d=>?_);cases f with
  |next=>
   obtain⟨σ3,H3,I3,i⟩:=d;obtain⟨j,k,g⟩:=p σ3 H3 i;exact⟨j,k,σ3,H3,I3,g⟩
  |cont=>
   obtain⟨σ3,H3,I3,i⟩:=d;obtain⟨j,k,g⟩:=p σ3 H3 i;exact⟨j,k,σ3,H3,I3,g⟩
  |brk=>exact d
  |ret v=>exact d
 |false=>
  rw[hZ Bt];exact sU ⟨σ1,H2,I2,e⟩⟩
theorem LH{iter:Expr}(p:PassesOwn (model X.prog X.w) X.A X.env X.xe)(E:X.calm=true)(hi:QI X tg iter wi)(y:QG X tg g)(a:FN X body tb)
  (hs:∀x,foldedSetIterable iter X.env x=pure x:=by intro _;rfl):QS X (.For tg iter body [] pos) (Tn wi g tb):=⟨by
 have hi:=hi.h;have y:=y.h;have a:=a.h;intro Zd s Z H D I h;refine wpAny_For (AG (hi Zd s Z H _ I h) λv s1 h1=>AG h1 λNQ s2 h2=>?_) hs;obtain⟨it,fp,tn,J,H2,e,I2,T,FE,F,W,⟨σ,P⟩,k⟩:=h2;subst e
 -- qq stays true of GK ZA7 objects through GK loop
 have z:∀{H':Hp},(∀b∈fp,H' b=none)->∀b∈fp,CG X Zd H' b:=λhn b a=>⟨hn b a,(F b a).2⟩;refine codeAny_forLoop_any (λn s'=>∃i σ' H',Inv X Zd σ' H' s'/\tn i s'.heap/\(∀b∈fp,H' b=none)/\W i n σ' H') ?_ σ ⟨0,Z,H2,I2,FE,λb a=>(F b a).1,P⟩;rintro n C⟨i,σ3,H3,I3,G,XM,O⟩;rcases k i n σ3 H3 O with⟨stop,qn⟩|⟨go,N,hN,step⟩
 .refine mV p (AG (T.done X rfl rfl rfl E i Zd C σ3 H3 X.xe I3 (z XM) G stop) λr s4 WK=>?_);obtain⟨t,I4⟩:=WK;subst t;exact sU ⟨σ3,H3,I4,qn⟩
 .refine mV p (AG (T.item X rfl rfl rfl E i Zd C σ3 H3 X.xe I3 (z XM) G go) λr s4 gp=>?_);obtain⟨u,t,h4⟩:=gp;subst t;refine mV p (AG h4 λ_ B Y=>?_);obtain⟨x,H5,I5,S,K,HK,JV⟩:=Y;have U:=I5.pinned (z JV) (T.obj _ _ HK);refine mV p (AG (y _ B σ3 H5 x u _ U S (step x H5 K)) λ_ Q jB=>?_);obtain⟨σ6,H6,I6,V⟩:=jB;refine mV p (AG (a _ Q σ6 H6 _ I6 V) λf q j=>?_);have c:∀{σ7:St}{H7:Hp},Inv X (Zd++K4 fp B.heap) σ7 H7 q->N σ7 H7->∃m,m<n/\∃i σ' H',Inv X Zd σ' H' q/\tn i q.heap/\(∀b∈fp,H' b=none)/\W i m σ' H':=λ{σ7 H7}I7 l=>by
   obtain⟨m',hm,M⟩:=hN σ7 H7 l;refine⟨m',hm,i+1,σ7,H7,I7.K0,T.keep _ _ _ HK λb a o e=>(I7.pin (b,o) (DU _ (DU _ (KP a e)))).1,λb a=>?_,M⟩;obtain⟨o,e,d⟩:=T.obj _ _ HK b a;exact(I7.pin (b,o) (DU _ (DU _ (KP a e)))).2.1
  cases f with
  |next=>obtain⟨σ7,H7,I7,l⟩:=j;exact c I7 l
  |cont=>obtain⟨σ7,H7,I7,l⟩:=j;exact c I7 l
  |brk=>obtain⟨σ7,H7,I7,j⟩:=j;exact⟨σ7,H7,I7.K0,j⟩
  |ret v=>obtain⟨L,σ7,H7,I7,R,j⟩:=j;exact⟨L,σ7,H7,I7.K0,R,j⟩⟩
theorem C1(h:QS X st t):QS X st (R6 t):=⟨by
 have h:=h.h;intro Zd s Z H D I hw;obtain⟨J,h1,h2⟩:=hw;refine AG (h Zd s Z H _ I h1) λf s' q=>?_;cases f with
 |next=>obtain⟨σ',H',I',q⟩:=q;exact⟨σ',H',I',h2 σ' H' q⟩
 |ret v=>exact q
 |brk=>exact q
 |cont=>exact q⟩
end
theorem AM.BX{P:Program}{K:ZAe}{mg:ZAg}{Zk:Heap}{qual:Str}{st:Stmt}{fd:FuncData}{N:List Str}(F:AM K x qual st f fd)(S:B8 N ps (AW st))(len:∀vs H Q E,sp vs H Q E->vs.length=ps.length)
  (JP:∀(AS:Value)(A:Around)(outer:List Env)(s:Shared)(H:Hp)(vs:List V)(Q:VK)(E:XK),BJ k (A.deeper (envOfC qual (AW st) s.heap.objs.size f AS))->sp vs H Q E->
   ∃t,FN (Eh ET P w K mg Zk N qual (AW st) f AS A outer s H E).Mx (IL st) t/\t { nx:=λ_ H'=>Q .A5 H',rt:=Q } (start N vs) H):C5 P w K mg Zk ET (k+1) f fd ps sp:=
 F.ok S len λAS A outer s H vs Q E a h=>let ⟨t,q,r⟩:=JP AS A outer s H vs Q E a h;⟨t,q.h,r⟩
end L2
namespace L2
variable{X:Cx}{Zd:ZAf}{Z:St}{H:Hp}{s:Shared}{h':Heap}{ep n t':Nat}{fp:List Addr}{I a:Addr}{prog:Program}{w:World}{A:Around}{E:Value->Shared->Prop}
theorem Inv.Qp(I:Inv X Zd Z H s)(d:∀b∈fp,CG X Zd H b)(k:∀b o,b∉fp->s.heap.get? b=some o->h'.get? b=some o):
  Inv X Zd Z H { s with heap:=h',toks:=t' }:=by
 have f:∀b u,H b=some u->b∉fp:=λb u e z=>by rw[(d b z).1]at e;cases e
 refine I.step (g':=s.gens) (d':=s.drawn) (ch:=fp) (λb h=>?_) (λb o _ _ a e _=>k b o a e) (λb o _ _ a e _=>⟨o.slots,k b o a e⟩) (λ_ _ _ _ n=>n)
  (λb o a e=>⟨o,k b o a e⟩) (λ_ _ e=>e) (λ_ _ _ e=>e) (λb ps e=>⟨#[],by rw[e];simp⟩) (λm g=>?_) (λb u e=>?_) I.bare
 .obtain⟨_,h1,_,l,j,i⟩:=d b h;exact⟨l,h1,j,i⟩
 .obtain⟨o,es,ep,ho,r⟩:=g;exact⟨o,es,ep,k _ o (λz=>(d _ z).2.1 rfl) ho,r⟩
 .refine(I.AB b u e).FR (λc v a q=>k c v ?_ q) (λ_ q=>q) λ_ _ q=>q;rcases a with z|z
  .rw[z];exact f b u e
  .exact f c _ z
theorem Inv.Qt{o:HO}(I:Inv X Zd Z H s)(h:∀b∈fp,CG X Zd H b)(k:∀b o,b∉fp->s.heap.get? b=some o->h'.get? b=some o)
  (ha:s.heap.objs.size<=a) (new:Bz X.prog X.w (upd H a o) h' a o):Inv X Zd Z (upd H a o) { s with heap:=h',toks:=t' }:=by
 have j:H a=none:=I.AB.fresh ha;have i:∀b u,H b=some u->b∉fp:=λb u e z=>by rw[(h b z).1]at e;cases e
 have ne:∀b u,H b=some u->b≠a:=λb u e=>Ct e j;have g:∀b u,s.heap.get? b=some u->b≠a:=λb u e=>BZ (C4 (AX e) ha);refine I.step (g':=s.gens) (d':=s.drawn) (ch:=fp) (λb f=>?_) (λb o _ _ d e _=>k b o d e) (λb o _ _ d e _=>⟨o.slots,k b o d e⟩) (λb o _ e n=>by rw[AJ (g b o e)];exact n)
  (λb o d e=>⟨o,k b o d e⟩) (λb _ e=>by rw[AJ (ne b _ e)];exact e) (λb _ _ e=>by rw[AJ (ne b _ e)];exact e) (λb ps e=>⟨#[],by rw[AJ (ne b _ e),e];simp⟩) (λm l=>?_) (λb u e=>?_) I.bare
 .obtain⟨_,h1,_,x,t,p⟩:=h b f;exact⟨x,h1,t,p⟩
 .obtain⟨o,es,ep,ho,r⟩:=l;exact⟨o,es,ep,k _ o (λz=>(h _ z).2.1 rfl) ho,r⟩
 .by_cases f:b=a
  .subst f;rw[AY]at e;cases e;exact new
  .rw[AJ f]at e;refine(I.AB b u e).FR (λc v d q=>k c v ?_ q) (λc q=>by rw[AJ (ne c _ q)];exact q) λc _ q=>by rw[AJ (ne c _ q)];exact q
   rcases d with z|z
   .rw[z];exact i b u e
   .exact i c _ z
theorem kr(t:SetTable)(n:Nat):(t.orStandIn n).led=t.led:=by unfold SetTable.orStandIn;split <;> rfl
theorem XN(t:SetTable)(es:Array (Int×Value))(h:Int)(x:Value):(layNew t es h x).2.1.led=t.led:=by
 unfold layNew;split
 .show(SetTable.orStandIn (t.put _).1 _).led=t.led;rw[kr];rfl
 .rfl
theorem Yc{c b d:Nat}{e a:Bool}{f:Array Int}{p:SetTable×Array Nat}(h:SetTable.laid c b d e a f=some p):p.1.led=e/\p.1.plain=a:=by
 unfold SetTable.laid at h;cases g:SetTable.layClean c f with
 |none=>rw[g]at h;cases h
 |some ow=>rw[g]at h;cases h;exact⟨rfl,rfl⟩
theorem xK(t:SetTable)(es:Array (Int×Value))(n:Nat)(a:t.plain=false):(relayAll t es n).2.1.led=t.led/\(relayAll t es n).2.1.plain=false:=by
 unfold relayAll;split
 .next t' order hr=>
  have q:=Yc (p:=(t',order)) hr;dsimp only at q ⊢;split
  .exact⟨q.1,q.2.trans a⟩
  .exact⟨rfl,rfl⟩
 .exact⟨rfl,rfl⟩
def aV(w:World):Bool:=w.params.followText "set-order"
def TL(prog:Program)(w:World)(h:Heap)(a:Addr)(S:Str->Bool)(n:Nat):Prop:=
 ∃o es ep t,h.get? a=some o/\o.ExactSet/\o.data=.set es ep t/\ElemsOf (PySem.strKind prog w) es.toList/\(∀k,S k=true↔∃e∈es.toList,(PySem.strKind prog w).is k e.2=true)/\
  es.size<scanBound/\t.fits es.size=true/\es.size=n/\(t.led=!aV w)/\(0<es.size->t.plain=false)
theorem O7{h:Heap}{o:Obj}{es:Array (Int×Value)}{t:SetTable}(ho:h.get? a=some o)(hd:o.data=.set es ep t)(Bp:Array (Int×Value))(t':SetTable):
  (h.update a (Obj.putSet Bp t')).get? a=some { o with data:=.set Bp (ep+1) t' }:=by
 have q:=Ln (Obj.putSet Bp t') ho (by rw[putSet_of Bp t' hd];rfl);rw[q,putSet_of Bp t' hd]
theorem TL.put{S:Str->Bool}{k:Str}{tk:Tok}{Q:Bool->Shared->Prop}(hS:TL prog w s.heap a S n)(Hk:n+1<scanBound)
  (h:∀h',Heap.SameBut a s.heap h'->TL prog w h' a (λc=>S c || decide (c=k)) (if S k then n else n+1)->Q (!S k) { s with heap:=h' }) :
  wpAny (model prog w) A (setAddHashed a (.str k tk) ((PySem.strKind prog w).hash k)) Q E s:=by
 obtain⟨o,es,ep,t,ho,f,hd,Hb,Dv,M,B,y,NP,B1⟩:=hS;have G:(PySem.strKind prog w).is k (.str k tk)=true:=PySem.strKind_is prog w k tk;have F:(Value.str k tk).scannable=true:=rfl;have rm:es.size+1<scanBound:=by rw[y];exact Hk
 have N:∀(b:Bool)(u:Shared)(Q1:Unit->Shared->Prop),Q1 () u->wpAny (model prog w) A (match b with|true=>rule "set.scan.the-table-gave-way" |false=>pure ()) Q1 E u:=by
  intro b u Q1 q;cases b
  .exact fv q
  .exact nk q
 unfold setAddHashed setAddHashedIn;refine iZ ?_;refine fq (wpAny_setState_of ho hd B ?_);dsimp only;rw[byScan_of F M Hb];simp only[↓reduceIte];unfold setAddByScan;refine fq ?_;refine fq (nk ?_);refine fq (wpAny_setScan_of G ho hd B Hb ?_);cases K:List.findIdx? (λe=>(PySem.strKind prog w).is k e.2) es.toList with
 |some j=>
  dsimp only;obtain⟨hj,Rk,_⟩:=List.findIdx?_eq_some_iff_getElem.mp K;have g:S k=true:=(Dv k).mpr ⟨es.toList[j],Gz hj,Rk⟩;refine fv ?_;refine fv ?_;have q:=h s.heap (eZ a s.heap) ⟨o,es,ep,t,ho,f,hd,Hb,λc=>by
   rw[<- Dv c,WY,kz];exact⟨λz=>z.elim id λe=>e▸g,Or.inl⟩,M,B,by rw[i6 g];exact y,NP,B1⟩
  rw[g]at q;exact q
 |none=>
  dsimp only;have g:S k=false:=by
   cases e:S k with
   |false=>rfl
   |true=>
    obtain⟨x,hx,σ⟩:=(Dv k).mp e;have q:=List.findIdx?_eq_none_iff.mp K x hx;rw[σ]at q;exact Bool.noConfusion q
  have p1:=layNew_perm t es ((PySem.strKind prog w).hash k) (.str k tk);have p:=layNew_fits t es ((PySem.strKind prog w).hash k) (.str k tk);have l1:=XN t es ((PySem.strKind prog w).hash k) (.str k tk);generalize layNew t es ((PySem.strKind prog w).hash k) (.str k tk)=L at p1 p l1 ⊢;obtain⟨Aj,t1,U,gv⟩:=L;dsimp only at p1 p l1 ⊢;rw[zG]at p1;have TR:ElemsOf (PySem.strKind prog w) Aj.toList:=(Hb.push G F).perm p1;have X:∀c,(S c || decide (c=k))=true↔∃e∈Aj.toList,(PySem.strKind prog w).is c e.2=true:=mem_push_iff G Dv p1;have I:Aj.size=n+1:=by rw[<- CK,p1.length_eq,Cm,CK,y];rfl
  have O:Aj.size<scanBound:=by rw[I];exact Hk
  have i:∀(h':Heap)(o':Obj)(Bp:Array (Int×Value))(G1:Nat)(t':SetTable),Heap.SameBut a s.heap h'->h'.get? a=some o'->o'.ExactSet->o'.data=.set Bp G1 t'->Bp.toList.Perm Aj.toList->t'.fits Bp.size=true->t'.led=t.led->t'.plain=false->
    Q true { s with heap:=h' }:=by
   intro h' o' Bp G1 t' V go T d' l ff Y W;have H:Bp.size=n+1:=by rw[<- I,<- CK,l.length_eq,CK]
   have q:=h h' V ⟨o',Bp,G1,t',go,T,d',TR.perm l,λc=>(X c).trans ⟨λ⟨e,C,q⟩=>⟨e,l.mem_iff.mpr C,q⟩,λ⟨e,C,q⟩=>⟨e,l.mem_iff.mp C,q⟩⟩,by rw[H];exact Hk,ff,by rw[g];exact H,Y.trans NP,λ_=>W⟩;rw[g]at q;exact q
  have d:∀(t2:SetTable),t2.fits Aj.size=true->t2.led=t.led->t2.plain=false->wpAny (model prog w) A (do
    storeSet a Aj t2
    if(
      !U && t2.tooFull)=true then do
      (match(relayAll t2 Aj (SetTable.grown Aj.size)).2.2 with|true=>rule "set.scan.the-table-gave-way" |false=>pure ())
      storeSet a (relayAll t2 Aj (SetTable.grown Aj.size)).1 (relayAll t2 Aj (SetTable.grown Aj.size)).2.1
      pure (some true)
     else pure (some true)) (λr s'=>match r with|some b=>Q b s'|none=>False) E s:=by
   intro t2 f2 l2 DQ;refine fq (uD ho hd ?_ (uW O));have v:=O7 ho hd Aj t2;have P:=NT s.heap a (Obj.putSet Aj t2);split
   .have p3:=relayAll_perm t2 Aj (SetTable.grown Aj.size);have D:=relayAll_fits t2 Aj (SetTable.grown Aj.size);have m:=xK t2 Aj (SetTable.grown Aj.size) DQ;generalize relayAll t2 Aj (SetTable.grown Aj.size)=Rl at p3 D m ⊢;obtain⟨HE,J,g3⟩:=Rl;dsimp only at p3 D m ⊢;have R:HE.size=Aj.size:=by rw[<- CK,p3.length_eq,CK]
    refine fq (N _ _ _ ?_);refine fq (uD v rfl ?_ (uW (by rw[R];exact O)));refine fv ?_;exact i _ _ HE _ J (P.trans (NT _ a _)) (O7 v rfl HE J) f rfl p3 D (m.1.trans l2) m.2
   .exact fv (i _ _ Aj _ t2 P v f rfl (List.Perm.refl _) f2 l2 DQ)
  refine fq (N _ _ _ ?_);split
  .next Pl=>
   refine fq ?_;rw[hashByValue_scannable 8 F];refine fv ?_;refine i9 (d { t1 with plain:=false } (SetTable.fits_plain_off p) l1 rfl) (λr s' q=>?_) λ_ _ e=>e
   cases r with
   |none=>exact q.elim
   |some b=>exact fv q
  .next Pl=>
   refine fq (fv ?_);simp only[↓reduceIte];refine i9 (d t1 p l1 (by simpa using Pl)) (λr s' q=>?_) λ_ _ e=>e
   cases r with
   |none=>exact q.elim
   |some b=>exact fv q
theorem StrsAre.len:∀{vs:List Value}{ss:List Str},StrsAre vs ss->vs.length=ss.length
 |_,_,.nil=>rfl
 |_,_,.cons _ _ h=>by rw[B6,B6,StrsAre.len h]
theorem RP:∀{ss:List Str}{us:List Value},Vals (ss.map V.str) us->StrsAre us ss
 | [],_,.nil=>.nil
 |x::r,_,.cons ⟨t,e⟩ h=>by rw[e];exact .cons x t (RP h)
end L2
namespace HT
open AutoSeq1 (wpAny_loadPart')
variable{E Q:Value->Shared->Prop}{it tu:Addr}{i:Nat}
section
variable{prog:Program}{w:World}{A:Around}{s:Shared}
theorem jd{vals:Array Value}{v:Value}(hi:s.heap.IsTupleIter it tu i)(c:s.heap.IsTuple tu vals)(b:vals[i]?=some v)
  (q:∀h',h'.IsTupleIter it tu (i+1)->Heap.SameBut it s.heap h'->Q v { s with heap:=h' }):wpAny (model prog w) A (Builtin.SmallTypes.nextOf (.ref it)) Q E s:=by
 obtain⟨o,ho,d,hd⟩:=id hi;obtain⟨e,GZ,_,k,a⟩:=c;unfold Builtin.SmallTypes.nextOf;refine fq (jF (name:=Str.ofString "__next__") hi.typeIs Wf (ja Wf hi.typeIs zL ?_ (zK _)));show wpAny _ _ (field (.ref it) 0 >>= _) _ _ s;refine fq (iM ho hd (x:=.ref tu) rfl ?_);show wpAny _ _ (if(Value.ref tu == Value.none)=true then _ else _) _ _ s;rw[hZ (show ¬ ((Value.ref tu == Value.none)=true)from Bt)]
 show wpAny _ _ (field (.ref it) 1 >>= _) _ _ s;refine fq (iM ho hd (x:=.int i 0) rfl ?_);show wpAny _ _ (seqItems? (.ref tu) >>= _) _ _ s;refine fq (ia GZ a ?_);simp only[GO,b];refine fq (uC ho hd (by simp) (fv ⟨v,rfl,fv (q _ ?_ (NT ..))⟩));exact⟨_,Ln _ ho (fT (Qc hd _)),(Obj.cls_mapFields ..).trans d,by rw[Qc hd];simp[rawInt]⟩
theorem oY{vals:Array Value}(hh:A.handled=none)(hi:s.heap.IsTupleIter it tu i)(d:s.heap.IsTuple tu vals)(c:vals[i]?=none)
  (q:∀h' e,Heap.ExtBut it s.heap h'->(∃o,h'.get? e=some o/\o.cls=.type "StopIteration")->E (.ref e) { s with heap:=h' }):wpAny (model prog w) A (Builtin.SmallTypes.nextOf (.ref it)) Q E s:=by
 obtain⟨o,ho,g,hd⟩:=id hi;obtain⟨f,GZ,_,k,b⟩:=d;unfold Builtin.SmallTypes.nextOf;refine fq (jF (name:=Str.ofString "__next__") hi.typeIs Wf (ja Wf hi.typeIs zL ?_ (zK _)));show wpAny _ _ (field (.ref it) 0 >>= _) _ _ s;refine fq (iM ho hd (x:=.ref tu) rfl ?_);show wpAny _ _ (if(Value.ref tu == Value.none)=true then _ else _) _ _ s;rw[hZ (show ¬ ((Value.ref tu == Value.none)=true)from Bt)]
 show wpAny _ _ (field (.ref it) 1 >>= _) _ _ s;refine fq (iM ho hd (x:=.int i 0) rfl ?_);show wpAny _ _ (seqItems? (.ref tu) >>= _) _ _ s;refine fq (ia GZ b ?_);simp only[GO,c];refine fq (nk (fq (uC ho hd (by simp) ?_)));show wpAny _ _ (newExc (.type "StopIteration") [] >>= _) _ _ _;refine fq ?_;simp only[newExc,newTuple];refine fq (pA ?_ (by size_fits));refine fq (m:=firstArgMember _ _) (ZAC (a:=Value.none) (by first|rfl|(simp only[firstArgMember];rfl)) ?_);refine pA ?_ (by size_fits)
 simp only[raiseNew];refine fq (wpAny_handled ?_);first|rw[show A.in1.handled=none from hh]|rw[hh]
 refine fq (fv (wpAny_throw ?_));exact q _ _ (((NT ..).extBut.push _).push _) ⟨_,BE _ rfl,rfl⟩
end
end HT
namespace L2
variable{X:Cx}
inductive KU (K:ZAe) (H:Hp):Nat->V->V->Prop where
 |flat {d:Nat}{x y:V}:C6 x=true->C6 y=true->Dj x y=true->KU K H d x y
 |same {d:Nat}{p:Addr}:KU K H d (.ref p) (.ref p)
 |tup {d:Nat}{p q:Addr}{xs ys:List V}:Al K H p xs->Al K H q ys->xs.length=ys.length->(∀(j:Nat)(x y:V),xs[j]?=some x->ys[j]?=some y->KU K H d x y)->KU K H (d+1) (.ref p) (.ref q)
theorem KU.mono{K:ZAe}{H H':Hp}(s:A9 H H'){d:Nat}{x y:V}(h:KU K H d x y):KU K H' d x y:=by
 induction h with
 |flat a b c=>exact .flat a b c
 |same=>exact .same
 |tup a b c _ e=>exact .tup (s.LN a) (s.LN b) c e
end L2
namespace MA
def MJ:Nat->Nat->List Nat
 | 0,n=>[97+n]
 |k+1,n=>if n<26 then[97+n]else(97+n % 26)::MJ k (n / 26)
theorem Jx:∀(k:Nat){n:Nat},n<26->MJ k n=[97+n]
 | 0,_,_=>rfl
 |_+1,_,h=>i6 h
theorem ZT:∀(k j n:Nat),n<=k->n<=j->MJ k n=MJ j n
 | 0,j,n,h,_=>by rw[Jx 0 (Lr h (by decide)),Jx j (Lr h (by decide))]
 |k+1,0,n,_,h=>by rw[Jx (k+1) (Lr h (by decide)),Jx 0 (Lr h (by decide))]
 |k+1,j+1,n,h1,h2=>by
  by_cases c:n<26
  .rw[Jx _ c,Jx _ c]
  .have d:n / 26<n:=Nat.div_lt_self (C4 (by decide) (QX c)) (by decide);show(if n<26 then _ else _)=(if n<26 then _ else _)
   rw[hZ c,hZ c,ZT k j (n / 26) (fO (C4 d h1)) (fO (C4 d h2))]
def lets(n:Nat):List Nat:=MJ n n
def vals:List Nat->Nat
 | []=>0
 |c::r=>(c - 97)+26 * vals r
theorem L8{n:Nat}(h:n<26):lets n=[97+n]:=Jx n h
theorem N8{n:Nat}(h:¬ n<26):lets n=(97+n % 26)::lets (n / 26):=by
 cases n with
 |zero=>exact absurd (by decide) h
 |succ k=>
  have d:(k+1) / 26<k+1:=Nat.div_lt_self (Nat.succ_pos k) (by decide);show(if k+1<26 then _ else _)=_
  rw[hZ h,ZT k ((k+1) / 26) ((k+1) / 26) (fO d) (AZ _)];rfl
theorem aR:∀n,vals (lets n)=n:=by
 intro n
 induction n using Nat.strongRecOn with
 |_ n a=>
  by_cases h:n<26
  .rw[L8 h];simp[vals]
  .rw[N8 h];have:=a (n / 26) (by omega);simp only[vals,this];omega
theorem yb{a b:Nat}(h:lets a=lets b):a=b:=by rw[<- aR a,h,aR]
theorem R7(n:Nat):1<=(lets n).length:=by
 by_cases h:n<26
 .rw[L8 h];simp
 .rw[N8 h];simp
theorem Ow:∀(k n:Nat),n<26 ^ (k+1)->(lets n).length<=k+1
 | 0,n,h=>by rw[L8 (by simpa using h)];simp
 |k+1,n,h=>by
  by_cases h1:n<26
  .rw[L8 h1];simp
  .rw[N8 h1];have:=Ow k (n / 26) (by rw[Nat.pow_succ]at h;exact Nat.div_lt_of_lt_mul (by rw[Nat.mul_comm];exact h));simp only[B6];omega
theorem uT:∀n,∀c∈lets n,97<=c/\c<=122:=by
 intro n
 induction n using Nat.strongRecOn with
 |_ n b=>
  by_cases h:n<26
  .rw[L8 h];intro c a;simp at a;omega
  .rw[N8 h];intro c a;rcases List.mem_cons.mp a with e|e
   .omega
   .exact b (n / 26) (by omega) c e
theorem b7{α:Type}[DecidableEq α]:∀(k:Nat)(f:Nat->α)(l:List α),(∀i j,i<k->j<k->f i=f j->i=j)->(∀i,i<k->f i∈l)->k<=l.length
 | 0,_,_,_,_=>DV _
 |k+1,f,l,hi,hm=>by
  have h1:=hm k (zf k);have:=b7 k f (l.erase (f k)) (λi j a b e=>hi i j (by omega) (by omega) e) (λi a=>by
   have c:f i≠f k:=λe=>by have:=hi i k (by omega) (by omega) e;omega
   exact(za c).mpr (hm i (by omega)))
  rw[zY h1]at this;have d:=zZ h1;omega
end MA
namespace Lw
open L2
variable{a l p:Addr}{H H' H2:Hp}{xs:List V}{o:HO}{α:Type}{i j k r:Int}{n:Nat}{ns ss:List Str}{x z:Str}
def BK(H:Hp)(p:Addr):Prop:=∃a b:Int,H p=some (.lst [.int a,.int b])/\0<=a/\a<10 ^ 256/\0<=b/\b<2147483647
structure BI (p:Addr) (H H':Hp):Prop where
 AQ:BK H' p
 same:Eg p H H'
theorem BI.trans{H1:Hp}(a:BI p H H1)(b:BI p H1 H2):BI p H H2:=⟨b.AQ,a.same.trans b.same⟩
theorem BI.of(h:BK H p)(s:A9 H H'):BI p H H':=by
 obtain⟨a,b,e,r⟩:=h;exact⟨⟨a,b,s _ _ e,r⟩,Eg.of s⟩
theorem BK.same(h:BK H p)(s:A9 H H'):BK H' p:=(BI.of h s).AQ
theorem BI.Lu{K:ZAe}(s:BI p H H')(h:AN K H a xs)(Ai:a≠p):AN K H' a xs:=by
 rcases h with(h|⟨o,h⟩)|h
 .exact .inl (.inl (s.same _ _ Ai h))
 .exact .inl (.inr ⟨o,s.same _ _ Ai h⟩)
 .exact .inr h
theorem BI.at'(s:BI p H H')(h:H a=some o)(Ai:a≠p):H' a=some o:=s.same _ _ Ai h
theorem NL{a:Int}(c:-(10 ^ 20)<a)(h1:a<10 ^ 20):a.natAbs<2 ^ 1000:=by
 have b:a.natAbs<10 ^ 20:=by omega
 exact Nc b (by decide +kernel)
def Uj(K:ZAe):Sp:=λvs H Q _=>∃(a:Addr)(ns:List Int)(k:Int),vs=[.ref a,.int k]/\AN K H a (ns.map V.int)/\0<=k/\k<=1000/\∀p H',H p=none->A9 H H'->BK H' p->Q (.ref p) H'
def qG:Sp:=λvs H Q _=>∃(p:Addr)(m:Int),vs=[.ref p,.int m]/\BK H p/\0<m/\m<10 ^ 18/\∀r H',0<=r->r<m->BI p H H'->Q (.int r) H'
def C0(l:List Nat):Str:=⟨l.toArray⟩
def Oi:Sp:=λvs H Q _=>∃r:Int,vs=[.int r]/\0<=r/\r<26 ^ 8/\Q (.str (C0 (MA.lets r.toNat))) H
theorem OP{xs:List α}{v:α}(b:0<=k)(h:xs[k.toNat]?=some v):BA xs k=some v:=by
 have a:k=((k.toNat:Nat):Int):=by omega
 have q:=Ez h;rw[<- a]at q;exact q
abbrev LJ:Str:="abcdefghijklmnopqrstuvwxyz"
theorem yj:∀j,j<26->LJ.cps.toList[j]?=some (97+j):=by decide +kernel
theorem YL(a:0<=k)(h1:k<26):BA LJ.cps.toList k=some (97+k.toNat):=OP a (yj _ (by omega))
theorem Zb(l:List Nat)(c:Nat):C0 l++(⟨#[c]⟩:Str)=C0 (l++[c]):=by
 show(⟨l.toArray++#[c]⟩:Str)=⟨(l++[c]).toArray⟩;simp
theorem Px(l:List Nat):(C0 l).length=l.length:=by simp[C0,Str.length]
theorem bw{l:List Nat}:(V.str (C0 l)=V.str (Str.ofString ""))↔l=[]:=by
 constructor
 .intro h;injection h with h
  have h2:=iK (λx=>x.cps.toList) h;have e:(Str.ofString "").cps.toList=[]:=by decide +kernel
  rw[e]at h2
  simpa[C0]using h2
 .rintro rfl;rfl
theorem small(h:n<=100000):n<=sizeLine:=Ax h (by decide +kernel)
theorem XQ{k:Nat}{pre:List Nat}(h:pre++MA.lets k=MA.lets n):(0<k / 26->(pre++[97+k % 26])++MA.lets (k / 26)=MA.lets n)/\(k / 26=0->pre++[97+k % 26]=MA.lets n):=by
 constructor
 .intro h1;rw[MA.N8 (by omega)]at h;rw[<- h,JI];rfl
 .intro h1;have h2:k<26:=by omega
  rw[MA.L8 h2]at h;rw[<- h,Nat.mod_eq_of_lt h2]
def Nm(x:Str):Prop:=1<=x.length/\x.length<=8/\∀c∈x.cps.toList,97<=c/\c<=122
instance (x:Str):Decidable (Nm x):=by unfold Nm;exact inferInstance
theorem G4(x:Str):x.length=x.cps.toList.length:=by simp[Str.length]
theorem Nl(h:n<26 ^ 8):Nm (C0 (MA.lets n)):=by
 refine⟨by rw[Px];exact MA.R7 n,by rw[Px];exact MA.Ow 7 n h,λc a=>MA.uT n c (by simpa[C0]using a)⟩
def menu:List Str:=["put","take","none","ahead","all","over","next","a","ab","abc","abcdefgh","b","step"]
theorem gh:∀x∈menu,Nm x:=by decide +kernel
def PU:List V:=[.str "put", .str "take", .str "none", .str "ahead", .str "all", .str "over", .str "next", .str "a", .str "ab", .str "abc", .str "abcdefgh", .str "b", .str "step"]
theorem oJ(a:0<=i)(h1:i<13):∃x,BA PU i=some (.str x)/\Nm x:=by
 have hl:menu.length=13:=rfl;have hi:i.toNat<menu.length:=by omega
 have e:PU=menu.map V.str:=rfl;refine⟨menu[i.toNat],OP a ?_,gh _ (Gz hi)⟩;rw[e,B3,Aw hi];rfl
theorem aQ(a:0<=i)(h1:i<ns.length):∃x,BA (ns.map V.str) i=some (.str x)/\x∈ns/\ns[i.toNat]?=some x:=by
 have hi:i.toNat<ns.length:=by omega
 exact⟨ns[i.toNat],OP a (by rw[B3,Aw hi];rfl),Gz hi,Aw hi⟩
theorem NN(ns:List Str):(ns.map V.str).all C6=true:=by
 rw[JH];intro x hx;obtain⟨y,_,rfl⟩:=List.mem_map.mp hx;rfl
theorem Us(x:Str)(ns:List Str):P8 (.str x) (ns.map V.str)=decide (x∈ns):=by
 unfold P8;rw[NS,List.any_eq_true,decide_eq_true_iff];constructor
 .rintro⟨v,b,h⟩;obtain⟨y,a,rfl⟩:=List.mem_map.mp b;have h':(y == x)=true:=h;have:y=x:=by simpa using h'
  rw[<- this];exact a
 .intro h;exact⟨.str x,List.mem_map.mpr ⟨x,h,rfl⟩,by show(x == x)=true;simp⟩
theorem dW(xs:List V):Ik xs []=decide (xs=[]):=by
 cases xs with
 |nil=>rfl
 |cons x r=>rw[VH (by simp)];simp
theorem lE(z:Str){a b:Nat}{lo hi:Option Int}(E6:a<=b)(c:b<=z.length)(e:Builtin.Str.strSliceIndices lo hi 1 z.length=Builtin.Str.strSliceIndices (some (a:Int)) (some (b:Int)) 1 z.length):
  (Txt.slice z lo hi).cps.toList=(z.cps.toList.drop a).take (b - a):=by
 have q:=StrLaws.sliced_plain z E6 c;rw[<- e]at q;unfold Txt.slice;split
 .rename_i h;have hl:(Builtin.Str.strSliceIndices lo hi 1 z.length).length=z.length:=by simpa using h
  rw[e,StrLaws.strSliceIndices_plain E6 c,AH,fH]at hl;have h1:a=0:=by omega
  have h2:b=z.length:=by omega
  subst h1;subst h2;rw[Wj,fS,G4,JL]
 .rw[<- q]
theorem jo(h:0<=j):max (0:Int) (min j (n:Int))=max 0 (min ((min j.toNat n:Nat):Int) (n:Int)):=by
 have e:((min j.toNat n:Nat):Int)=min j n:=by
  rcases QY j.toNat n with c|c
  .rw[QZ c,ez h,Int.min_eq_left (by have:=Int.ofNat_le.mpr c;rw[ez h]at this;exact this)]
  .rw[Qa c,Int.min_eq_right (by have:=Int.ofNat_le.mpr c;rw[ez h]at this;exact this)]
 rw[e,Int.min_assoc,Int.min_self]
theorem vk(z:Str)(h:0<=j):(Txt.slice z none (some j)).cps.toList=z.cps.toList.take j.toNat:=by
 have e:=lE z (a:=0) (b:=min j.toNat z.length) (lo:=none) (hi:=some j) (DV _) (Nat.min_le_right _ _) (by
  have h1:¬ j<0:=by omega
  have h2:¬ (((min j.toNat z.length:Nat):Int)<0):=Int.not_lt.mpr (zO _);have c:max (0:Int) (min j (z.length:Int))=max 0 (min ((min j.toNat z.length:Nat):Int) (z.length:Int)):=jo h;simp only[Builtin.Str.strSliceIndices,h1,h2,ZA4,c];rfl)
 rw[e,Wj,fS];rcases QY j.toNat z.length with h1|h1
 .rw[QZ h1]
 .rw[Qa h1,G4,JL,Kf (by rw[<- G4];exact h1)]
theorem cY(h:1<=j)(d:j<=8)(b:1<=z.length)(a:∀c∈z.cps.toList,97<=c/\c<=122):Nm (Txt.slice z none (some j)):=by
 have e:=vk z (j:=j) (by omega);refine⟨?_,?_,λc Ky=>a c ?_⟩
 .rw[G4,e,Em,<- G4];omega
 .rw[G4,e,Em];omega
 .rw[e]at Ky;exact QU Ky
theorem YI(x y:Str):(x++y).cps.toList=x.cps.toList++y.cps.toList:=by
 show(x.cps++y.cps).toList=_;simp
theorem eG(x y:Str):(x++y).length=x.length+y.length:=by rw[G4,YI,Cm,<- G4,<- G4]
def Q3(K:ZAe):Sp:=λvs H Q _=>∃(p q:Addr)(ns:List Str),vs=[.ref p,.ref q]/\BK H p/\AN K H q (ns.map V.str)/\q≠p/\(∀x∈ns,Nm x)/\ns.length<=1000/\∀x H',Nm x->x∉ns->BI p H H'->Q (.str x) H'
theorem mE{k:Nat}(h:∀j,j<k->C0 (MA.lets j)∈ns):k<=ns.length:=
 MA.b7 k (λj=>C0 (MA.lets j)) ns (λi j _ _ e=>MA.yb (by
  have:=iK (λx=>x.cps.toList) e
  simpa[C0]using this)) h
theorem rf:1000<26 ^ 8:=by decide +kernel
theorem uU:(1000:Int)<26 ^ 8:=by decide +kernel
theorem fc:(26:Int) ^ (8:Int).toNat - 26<26 ^ 8:=by decide +kernel
theorem mq:(26:Int)<26 ^ 8:=by decide +kernel
theorem lD:(0:Int)<26 ^ (8:Int).toNat - 26:=by decide +kernel
theorem qR:(26:Int) ^ (8:Int).toNat - 26<10 ^ 18:=by decide +kernel
theorem b8(a:0<=r)(h:r<26 ^ 8):r.toNat<26 ^ 8:=by omega
theorem BI.upd(s:BI p H H2)(h:H l=none)(Ai:l≠p):BI p H (upd H2 l o):=by
 obtain⟨a,b,e,r⟩:=s.AQ;refine⟨⟨a,b,by rw[AJ (BS Ai)];exact e,r⟩,λc u d q=>?_⟩;rw[AJ (Ct q h)];exact s.same c u d q
theorem BI.none(s:BI p H H2)(h:H2 l=none):H l=none:=by
 cases q:H l with
 |none=>rfl
 |some o=>
  by_cases e:l=p
  .obtain⟨a,b,c,_⟩:=s.AQ;rw[<- e,h]at c;cases c
  .rw[s.same l o e q]at h;cases h
theorem BK.ne(h:BK H p)(hl:H l=none):l≠p:=by
 obtain⟨_,_,e,_⟩:=h;exact(Ct e hl).symm
theorem A9.none(s:A9 H H2)(h:H2 l=none):H l=none:=by
 cases q:H l with
 |none=>rfl
 |some o=>rw[s l o q]at h;cases h
def dO:Sp:=λvs H Q _=>∃(p:Addr)(m:Int),vs=[.ref p,.int m]/\BK H p/\0<=m/\m<=100/\
 ∀l H'(ns:List Str),H l=none->BI p H H'->H' l=some (.lst (ns.map V.str))->(ns.length:Int)=m->(∀x∈ns,Nm x)->ns.Nodup->Q (.ref l) H'
def SA:Sp:=λvs H Q _=>∃(p:Addr)(m:Int),vs=[.ref p,.int m]/\BK H p/\1<=m/\m<=100/\
 ∀l H'(ns:List Str),H l=none->BI p H H'->H' l=some (.lst (ns.map V.str))->(ns.length:Int)<=m->(∀x∈ns,Nm x)->ns.Nodup->Q (.ref l) H'
theorem yC{l:List α}{x:α}(h:l.Nodup)(hx:x∉l):(l++[x]).Nodup:=by
 rw[List.nodup_append];exact⟨h,by simp,λa ha b c=>by
  have:b=x:=by simpa using c
  subst this;rintro rfl;exact hx ha⟩
theorem xP{m:Int}(b:0<=j)(h1:j<3)(a:1<=m):∃k:Int,BA [V.int 0,V.int 1,V.int m] j=some (.int k)/\0<=k/\k<=m:=by
 have:j=0∨j=1∨j=2:=by omega
 rcases this with rfl|rfl|rfl
 .exact⟨0,rfl,by omega,by omega⟩
 .exact⟨1,rfl,by omega,by omega⟩
 .exact⟨m,rfl,by omega,by omega⟩
def M9(c:Nat):Bool:=!(Builtin.Str.occurrences LJ ⟨#[c]⟩ 0 LJ.length 1).isEmpty
def isNm(x:Str):Bool:=decide ((1:Int)<=x.length) && (decide ((x.length:Int)<=8) && x.cps.toList.all M9)
def KY:Sp:=λvs H Q _=>∃x:Str,vs=[.str x]/\x.length<=1000/\∀H',A9 H H'->Q (.bl (isNm x)) H'
def D0(ss:List Str):Bool:=decide ((ss.length:Int)<=40) && (ss.all isNm && decide (V.int ((dd ss).length:Int)=V.int (ss.length:Int)))
def VM(K:ZAe):Sp:=λvs H Q _=>∃(a:Addr)(tp:Bool)(ss:List Str),vs=[.ref a]/\D7 K tp H a (ss.map V.str)/\ss.length<=1000/\(∀x∈ss,x.length<=1000)/\∀H',A9 H H'->Q (.bl (D0 ss)) H'
theorem eD(l:List α):l.filter (λ_=>true)=l:=List.filter_eq_self.mpr λ_ _=>rfl
def Rn:V->V
 | .str y=>.bl (!(Builtin.Str.occurrences LJ y 0 LJ.length 1).isEmpty)
 |_=>.bl false
theorem df(x:Str):((Fe x).filter (λ_=>true)).map Rn=(x.cps.toList.map M9).map V.bl:=by
 unfold Fe;rw[eD,CL,CL];rfl
theorem signs_get{i:Nat}{v:V}(h:(Fe x)[i]?=some v):∃c,v=.str ⟨#[c]⟩:=by
 unfold Fe at h;rw[B3]at h;cases q:x.cps.toList[i]? with
 |none=>rw[q]at h;cases h
 |some c=>rw[q]at h;simp at h;exact⟨c,h.symm⟩
theorem all_map{α:Type}(f:α->Bool)(l:List α):(l.map f).all id=l.all f:=by rw[NV];rfl
theorem zA{i:Nat}{v:V}(h:(ss.map V.str)[i]?=some v):∃x,v=.str x/\x∈ss:=by
 rw[B3]at h;cases q:ss[i]? with
 |none=>rw[q]at h;cases h
 |some x=>rw[q]at h;simp at h;exact⟨x,h.symm,DJ q⟩
def bV:V->V
 | .str y=>.bl (isNm y)
 |_=>.bl false
theorem mz(ss:List Str):((ss.map V.str).filter (λ_=>true)).map bV=(ss.map isNm).map V.bl:=by
 rw[eD,CL,CL];rfl
theorem bg:∀(l acc:List Str),(l.foldl EC acc).length<=acc.length+l.length
 | [],acc=>by simp
 |x::r,acc=>by
  rw[NW];have h:=bg r (EC acc x);rw[Ur]at h;simp only[B6];split at h <;> omega
theorem bq:∀(l acc:List Str),(l.foldl EC acc).length=acc.length+l.length↔(l.Nodup/\∀x∈l,x∉acc)
 | [],acc=>by simp
 |x::r,acc=>by
  rw[NW]
  by_cases h:acc.any (· == x)=true
  .have hx:x∈acc:=by
    obtain⟨y,b,e⟩:=List.any_eq_true.mp h;have:y=x:=by simpa using e
    rw[<- this];exact b
   have e:EC acc x=acc:=by unfold EC;rw[i6 h]
   rw[e];constructor
   .intro q;have:=bg r acc;simp only[B6]at q;omega
   .rintro⟨_,q⟩;exact absurd hx (q x FH)
  .have hx:x∉acc:=λa=>h (List.any_eq_true.mpr ⟨x,a,by simp⟩);have e:EC acc x=acc++[x]:=by unfold EC;rw[hZ h]
   rw[e];have c:=bq r (acc++[x]);have g:(acc++[x]).length+r.length=acc.length+(x::r).length:=by simp;omega
   rw[g]at c;rw[c];constructor
   .rintro⟨h1,h2⟩;refine⟨List.nodup_cons.mpr ⟨λa=>h2 x a (by simp),h1⟩,λy b=>?_⟩;rcases List.mem_cons.mp b with rfl|b
    .exact hx
    .exact λa=>h2 y b (by simp[a])
   .rintro⟨h1,h2⟩;obtain⟨f,d⟩:=List.nodup_cons.mp h1;refine⟨d,λy b a=>?_⟩;rcases List.mem_append.mp a with a|a
    .exact h2 y (By _ b) a
    .have:y=x:=by simpa using a
     rw[this]at b;exact f b
theorem kh(ss:List Str):(dd ss).length=ss.length↔ss.Nodup:=by
 have h:=bq ss [];simp only[Wk,Nat.zero_add]at h;refine(show((dd ss).length=ss.length↔_)from h).trans ⟨λq=>q.1,λq=>⟨q,λ_ _=>by simp⟩⟩
theorem JT(K:ZAe)(t:String):PySem.W.kitOne K (.type t) (.type t)=some true:=by
 unfold PySem.W.kitOne;rw[i6 (by simp)]
def N1(K:ZAe):Sp:=λvs H Q _=>∃(a:Addr)(ns:List Int),vs=[.ref a]/\AN K H a (ns.map V.int)/\ns.length<=63/\∀H',Q (.bl true) H'
inductive Dw where
 |put (x:Str) (i:Nat)|take (x:Str)|move (x:Str) (i:Nat)|turn (lo hi:Nat)
def Dw.vals:Dw->List V
 | .put x i=>[.str "put", .str x,.int i]
 | .take x=>[.str "take", .str x]
 | .move x i=>[.str "move", .str x,.int i]
 | .turn lo hi=>[.str "turn", .int lo,.int hi]
def Dw.Ok(m:Nat)(ns:List Str):Dw->Prop
 | .put x i=>Nm x/\x∉ns/\i<=ns.length/\ns.length<m
 | .take x=>x∈ns
 | .move x i=>x∈ns/\i<ns.length
 | .turn lo hi=>lo<=hi/\hi<=ns.length
def ins(ns:List Str)(x:Str)(i:Nat):List Str:=ns.take i++x::ns.drop i
def wo(ns:List Str)(x:Str):List Str:=ns.filter λy=>!decide (y=x)
def mK(ns:List Str)(lo hi:Nat):List Str:=ns.take lo++((ns.drop lo).take (hi - lo)).reverse++ns.drop hi
def Dw.done(ns:List Str):Dw->List Str
 | .put x i=>ins ns x i
 | .take x=>wo ns x
 | .move x i=>ins (wo ns x) x i
 | .turn lo hi=>mK ns lo hi
def Dw.back(ns:List Str):Dw->Dw
 | .put x _=>.take x
 | .take x=>.put x (ns.idxOf x)
 | .move x _=>.move x (ns.idxOf x)
 | .turn lo hi=>.turn lo hi
def D6(tp:Bool)(xs:List V):HO:=match tp with
 |false=>.lst xs
 |true=>.tup xs
theorem D6.sq{K:ZAe}{tp:Bool}(h:H a=some (D6 tp xs)):D7 K tp H a xs:=by
 cases tp
 .exact AN.of h
 .exact Al.of h
theorem Du{c A B:Prop}[Decidable c](h:¬ c)(b:B):if c then A else B:=by rw[hZ h];exact b
theorem kZ:∀j,j<26->M9 (97+j)=true:=by decide +kernel
theorem Sz(h:Nm x):isNm x=true:=by
 obtain⟨h1,h2,f⟩:=h;unfold isNm;rw[gS (by omega),gS (by omega),El,El,JH];intro c d;obtain⟨a,b⟩:=f c d;have:=kZ (c - 97) (by omega);have e:97+(c - 97)=c:=by omega
 rw[e]at this;exact this
theorem ug(K:ZAe):PySem.W.kitOne K (.type "int") (.type "bool")=some false:=by
 unfold PySem.W.kitOne;rw[hZ (by decide)];with_unfolding_all rfl
end Lw
namespace Fz
open L2 Lw
variable{F F' H H':Hp}{v:V}{Dl vs:List V}{i i0 j:Nat}{t:TA}{a l:Addr}{r:List V->Hp->VK->Prop}{Z τ:L2.St}{o:HO}{ta tb tc te:TE}{b neg tp:Bool}{f:Int->Int->Int}{g:TG}{u:TS}{n:String}{wi:TI}{A:List Addr}{Q:VK}{X:XK}
inductive PV where
 |A5|bl (b:Bool)|int (i:Int)|str (x:Str)|lst (xs:List PV)|tup (xs:List PV)
 |Ce (ks:List Key) (xs:List PV)|obj (C:Addr) (ns:List Str) (xs:List PV)|exc (C:Addr) (ns:List Str) (xs:List PV)|con (a:Addr) (xs:List PV)
variable{p:PV}{ps xs:List PV}{k:List PV->Prop}
def G0(a C:Addr)(dx:Option Addr):HO:=.ext λh=>∃ob vs,h.get? a=some ob/\ob.cls=.ref C/\ob.dict=dx/\ob.data=.fields vs
mutual
inductive Rep (F:Hp):V->PV->Prop where
 |A5:Rep F .A5 .A5
 |bl (b:Bool):Rep F (.bl b) (.bl b)
 |int (i:Int):Rep F (.int i) (.int i)
 |str (x:Str):Rep F (.str x) (.str x)
 |lst {a:Addr}{vs:List V}{xs:List PV}:F a=some (.lst vs)->AE F vs xs->Rep F (.ref a) (.lst xs)
 |tup {a:Addr}{vs:List V}{xs:List PV}:F a=some (.tup vs)->AE F vs xs->Rep F (.ref a) (.tup xs)
 |Ce {a:Addr}{ks:List Key}{vs:List V}{xs:List PV}:F a=some (.dK (ks.zip vs))->ks.length=vs.length->AE F vs xs->Rep F (.ref a) (.Ce ks xs)
 |obj {a C dx:Addr}{ns:List Str}{vs:List V}{xs:List PV}:F a=some (.ins C dx (ns.zip vs))->F dx=some (.own a)->ns.length=vs.length->AE F vs xs->Rep F (.ref a) (.obj C ns xs)
 |con {a:Addr}{xs:List PV}:Rep F (.ref a) (.con a xs)
 |Kx {a C:Addr}:F a=some (G0 a C none)->Rep F (.ref a) (.exc C [] [])
 |exc {a C dx:Addr}{ns:List Str}{vs:List V}{xs:List PV}:F a=some (G0 a C (some dx))->F dx=some (.xd (ns.zip vs))->ns.length=vs.length->AE F vs xs->Rep F (.ref a) (.exc C ns xs)
inductive AE (F:Hp):List V->List PV->Prop where
 |nil:AE F [] []
 |cons {v:V}{p:PV}{vs:List V}{ps:List PV}:Rep F v p->AE F vs ps->AE F (v::vs) (p::ps)
end
theorem Rep.mono(s:A9 F F')(r:Rep F v p):Rep F' v p:=
 Rep.rec (motive_1:=λv p _=>Rep F' v p) (motive_2:=λvs ps _=>AE F' vs ps) .A5 .bl .int .str (λh _ i=>.lst (s _ _ h) i) (λh _ i=>.tup (s _ _ h) i) (λh e _ i=>.Ce (s _ _ h) e i) (λh h2 e _ i=>.obj (s _ _ h) (s _ _ h2) e i) .con (λh=>.Kx (s _ _ h)) (λh h2 e _ i=>.exc (s _ _ h) (s _ _ h2) e i) .nil (λ_ _ i k=>.cons i k) r
def nZ(F:Hp)(v:V):PV->Prop
 | .A5=>v=.A5
 | .bl b=>v=.bl b
 | .int i=>v=.int i
 | .str x=>v=.str x
 | .lst xs=>∃a vs,v=.ref a/\F a=some (.lst vs)/\AE F vs xs
 | .tup xs=>∃a vs,v=.ref a/\F a=some (.tup vs)/\AE F vs xs
 | .Ce ks xs=>∃a vs,v=.ref a/\F a=some (.dK (ks.zip vs))/\ks.length=vs.length/\AE F vs xs
 | .obj C ns xs=>∃a dx vs,v=.ref a/\F a=some (.ins C dx (ns.zip vs))/\F dx=some (.own a)/\ns.length=vs.length/\AE F vs xs
 | .con a _=>v=.ref a
 | .exc C ns xs=>(∃a,v=.ref a/\F a=some (G0 a C none)/\ns=[]/\xs=[])∨∃a dx vs,v=.ref a/\F a=some (G0 a C (some dx))/\F dx=some (.xd (ns.zip vs))/\ns.length=vs.length/\AE F vs xs
theorem Rep.inv(r:Rep F v p):nZ F v p:=by
 cases r with
 |lst h r=>exact⟨_,_,rfl,h,r⟩
 |tup h r=>exact⟨_,_,rfl,h,r⟩
 |Ce h l r=>exact⟨_,_,rfl,h,l,r⟩
 |obj h h2 l r=>exact⟨_,_,_,rfl,h,h2,l,r⟩
 |Kx h=>exact .inl ⟨_,rfl,h,rfl,rfl⟩
 |exc h h2 l r=>exact .inr ⟨_,_,_,rfl,h,h2,l,r⟩
 |_=>exact rfl
theorem AE.inv(r:AE F vs (p::ps)):∃v ws,vs=v::ws/\Rep F v p/\AE F ws ps:=by
 cases r with
 |cons r t=>exact⟨_,_,rfl,r,t⟩
theorem AE.DC(r:AE F vs []):vs=[]:=by
 cases r;rfl
theorem AE.mono(s:A9 F F')(r:AE F vs ps):AE F' vs ps:=by
 induction ps generalizing vs with
 |nil=>cases r.DC;exact .nil
 |cons p ps c=>obtain⟨v,ws,rfl,a,b⟩:=r.inv;exact .cons (a.mono s) (c b)
theorem AE.length(r:AE F vs ps):vs.length=ps.length:=by
 induction ps generalizing vs with
 |nil=>cases r.DC;rfl
 |cons p ps c=>obtain⟨v,ws,rfl,a,b⟩:=r.inv;exact iK (· + 1) (c b)
theorem AE.get{F:Hp}{vs:List V}{ps:List PV}{i:Nat}{p:PV}(r:AE F vs ps)(e:ps[i]?=some p):∃v,vs[i]?=some v/\Rep F v p:=by
 induction ps generalizing vs i with
 |nil=>cases e
 |cons q ps c=>
  obtain⟨v,ws,rfl,a,b⟩:=r.inv;cases i with
  |zero=>cases e;exact⟨_,rfl,a⟩
  |succ i=>exact c (vs:=ws) (i:=i) b e
theorem AE.get'(r:AE F vs ps)(e:vs[i]?=some v):∃p,ps[i]?=some p/\Rep F v p:=by
 induction ps generalizing vs i with
 |nil=>cases r.DC;cases e
 |cons q ps c=>
  obtain⟨u,ws,rfl,a,b⟩:=r.inv;cases i with
  |zero=>cases e;exact⟨_,rfl,a⟩
  |succ i=>exact c (vs:=ws) (i:=i) b e
theorem AE.append{ws:List V}{qs:List PV}(r:AE F vs ps)(s:AE F ws qs):AE F (vs++ws) (ps++qs):=by
 induction ps generalizing vs with
 |nil=>cases r.DC;exact s
 |cons p ps c=>obtain⟨v,us,rfl,a,b⟩:=r.inv;exact .cons a (c b)
theorem AE.take(n:Nat)(r:AE F vs ps):AE F (vs.take n) (ps.take n):=by
 induction ps generalizing vs n with
 |nil=>cases r.DC;rw[Wl,Wl];exact .nil
 |cons p ps c=>
  obtain⟨v,us,rfl,a,b⟩:=r.inv;cases n with
  |zero=>exact .nil
  |succ n=>exact .cons a (c n b)
theorem AE.drop(n:Nat)(r:AE F vs ps):AE F (vs.drop n) (ps.drop n):=by
 induction ps generalizing vs n with
 |nil=>cases r.DC;rw[Wh,Wh];exact .nil
 |cons p ps c=>
  cases n with
  |zero=>exact r
  |succ n=>obtain⟨v,us,rfl,a,b⟩:=r.inv;exact c n b
theorem AE.one(r:Rep F v p):AE F [v] [p]:=.cons r .nil
theorem AE.reverse(r:AE F vs ps):AE F vs.reverse ps.reverse:=by
 induction ps generalizing vs with
 |nil=>cases r.DC;exact .nil
 |cons p ps c=>obtain⟨v,us,rfl,a,b⟩:=r.inv;rw[QV,QV];exact(c b).append (.one a)
def flat:PV->Bool
 | .lst _=>false
 | .tup _=>false
 | .Ce _ _=>false
 | .obj _ _ _=>false
 | .exc _ _ _=>false
 | .con _ _=>false
 |_=>true
def enc:PV->V
 | .bl b=>.bl b
 | .int i=>.int i
 | .str x=>.str x
 |_=>.A5
theorem Rep.enc(h:flat p=true)(r:Rep F v p):v=enc p:=by
 cases r <;> first|rfl|cases h
theorem uf(h:flat p=true):Rep F (enc p) p:=by
 cases p with
 |A5=>exact .A5
 |bl b=>exact .bl b
 |int i=>exact .int i
 |str x=>exact .str x
 |lst xs=>cases h
 |tup xs=>cases h
 |Ce ks xs=>cases h
 |obj C ns xs=>cases h
 |exc C ns xs=>cases h
 |con a xs=>cases h
theorem AE.enc(h:ps.all flat=true)(r:AE F vs ps):vs=ps.map enc:=by
 induction ps generalizing vs with
 |nil=>exact r.DC
 |cons p ps c=>
  obtain⟨v,us,rfl,a,b⟩:=r.inv;rw[NU,DT]at h;rw[Cn,<- Rep.enc h.1 a,<- c h.2 b]
theorem UT(h:ps.all flat=true):AE F (ps.map enc) ps:=by
 induction ps with
 |nil=>exact .nil
 |cons p r a=>
  rw[NU,DT]at h;exact .cons (uf h.1) (a h.2)
theorem PB(h:flat p=true):C6 (Fz.enc p)=true:=by cases p <;> first|rfl|cases h
theorem ZE(ns:List Str):(ns.map PV.str).all flat=true:=by
 rw[JH];intro x hx;obtain⟨y,_,rfl⟩:=List.mem_map.mp hx;rfl
theorem kg(ns:List Bool):(ns.map PV.bl).all flat=true:=by
 rw[JH];intro x hx;obtain⟨y,_,rfl⟩:=List.mem_map.mp hx;rfl
theorem VJ(ns:List Str):(ns.map PV.str).map Fz.enc=ns.map V.str:=by rw[CL];rfl
theorem ql(ns:List Bool):(ns.map PV.bl).map Fz.enc=ns.map V.bl:=by rw[CL];rfl
theorem AE.strs{ns:List Str}(r:AE F vs (ns.map PV.str)):vs=ns.map V.str:=(r.enc (ZE ns)).trans (VJ ns)
theorem Te(ns:List Str):AE F (ns.map V.str) (ns.map PV.str):=by rw[<- VJ];exact UT (ZE ns)
theorem AE.Y2{ns:List Bool}(r:AE F vs (ns.map PV.bl)):vs=ns.map V.bl:=(r.enc (kg ns)).trans (ql ns)
inductive NK where
 |lst|Ce (ks:List Key)|obj (C dx:Addr) (ns:List Str)
def NK.ho:NK->List V->HO
 | .lst,vs=>.lst vs
 | .Ce ks,vs=>.dK (ks.zip vs)
 | .obj C dx ns,vs=>.ins C dx (ns.zip vs)
def NK.more:NK->List Addr
 | .obj _ dx _=>[dx]
 |_=>[]
def NK.side(k:NK)(a:Addr)(H:Hp):Prop:=match k with
 | .obj _ dx _=>H dx=some (.own a)
 |_=>True
def NK.fit(k:NK)(n:Nat):Prop:=match k with
 | .Ce ks=>ks.length=n
 | .obj _ _ ns=>ns.length=n
 |_=>True
inductive OV where
 |fz (p:PV)
 |tp (xs:List OV)
 |nd (k:NK) (a:Addr) (xs:List OV)
variable{ts:List OV}
mutual
def OV.addrs:OV->List Addr
 | .fz _=>[]
 | .tp xs=>OV.Dd xs
 | .nd k a xs=>a::(k.more++OV.Dd xs)
def OV.Dd:List OV->List Addr
 | []=>[]
 |x::r=>x.addrs++OV.Dd r
end
mutual
def OV.pv:OV->PV
 | .fz p=>p
 | .tp xs=>.tup (OV.Ej xs)
 | .nd .lst _ xs=>.lst (OV.Ej xs)
 | .nd (.Ce ks) _ xs=>.Ce ks (OV.Ej xs)
 | .nd (.obj C _ ns) _ xs=>.obj C ns (OV.Ej xs)
def OV.Ej:List OV->List PV
 | []=>[]
 |x::r=>x.pv::OV.Ej r
end
mutual
inductive Bq (F H:Hp):V->OV->Prop where
 |fz {v:V}{p:PV}:Rep F v p->Bq F H v (.fz p)
 |tp {a:Addr}{vs:List V}{xs:List OV}:F a=some (.tup vs)->Bi F H vs xs->Bq F H (.ref a) (.tp xs)
 |nd {k:NK}{a:Addr}{vs:List V}{xs:List OV}:H a=some (k.ho vs)->k.side a H->k.fit vs.length->Bi F H vs xs->Bq F H (.ref a) (.nd k a xs)
inductive Bi (F H:Hp):List V->List OV->Prop where
 |nil:Bi F H [] []
 |cons {v:V}{t:OV}{vs:List V}{ts:List OV}:Bq F H v t->Bi F H vs ts->Bi F H (v::vs) (t::ts)
end
def t6(F H:Hp)(v:V):OV->Prop
 | .fz p=>Rep F v p
 | .tp xs=>∃a vs,v=.ref a/\F a=some (.tup vs)/\Bi F H vs xs
 | .nd k a xs=>∃vs,v=.ref a/\H a=some (k.ho vs)/\k.side a H/\k.fit vs.length/\Bi F H vs xs
theorem Bq.inv{t:OV}(r:Bq F H v t):t6 F H v t:=by
 cases r with
 |fz r=>exact r
 |tp h r=>exact⟨_,_,rfl,h,r⟩
 |nd h a b r=>exact⟨_,rfl,h,a,b,r⟩
theorem Bi.inv{t:OV}(r:Bi F H vs (t::ts)):∃v ws,vs=v::ws/\Bq F H v t/\Bi F H ws ts:=by
 cases r with
 |cons r t=>exact⟨_,_,rfl,r,t⟩
theorem Bi.DC(r:Bi F H vs []):vs=[]:=by
 cases r;rfl
theorem OV.Mc{k:NK}{xs:List OV}:(OV.nd k a xs).addrs=a::(k.more++OV.Dd xs):=by rw[OV.addrs]
theorem OV.MV{xs:List OV}:(OV.tp xs).addrs=OV.Dd xs:=by rw[OV.addrs]
theorem OV.ju:(OV.fz p).addrs=[]:=by rw[OV.addrs]
theorem OV.Ip{x:OV}{r:List OV}:OV.Dd (x::r)=x.addrs++OV.Dd r:=by rw[OV.Dd]
theorem OV.sF:OV.Dd []=[]:=by rw[OV.Dd]
theorem NK.m6{k:NK}(h:k.side a H)(s:∀b∈k.more,∀o,H b=some o->H' b=some o):k.side a H':=by
 cases k with
 |obj C dx ns=>exact s dx (by simp[NK.more]) _ h
 |_=>trivial
theorem Bq.mono(f:A9 F F'){t:OV}(r:Bq F H v t):(∀a∈t.addrs,∀o,H a=some o->H' a=some o)->Bq F' H' v t:=
 Bq.rec (motive_1:=λv t _=>(∀a∈t.addrs,∀o,H a=some o->H' a=some o)->Bq F' H' v t) (motive_2:=λvs ts _=>(∀a∈OV.Dd ts,∀o,H a=some o->H' a=some o)->Bi F' H' vs ts)
  (λr _=>.fz (r.mono f))
  (λh _ i s=>.tp (f _ _ h) (i (by rw[OV.MV]at s;exact s)))
  (λh c e _ i s=>by
   rw[OV.Mc]at s;exact .nd (s _ FH _ h) (NK.m6 c λb d=>s b (By _ (Ke _ d))) e (i λa ha=>s a (By _ (DU _ ha))))
  (λ_=>.nil)
  (λ_ _ i k s=>by
   rw[OV.Ip]at s;exact .cons (i λa ha=>s a (Ke _ ha)) (k λa ha=>s a (DU _ ha)))
  r
theorem Bi.mono(f:A9 F F')(r:Bi F H vs ts)(s:∀a∈OV.Dd ts,∀o,H a=some o->H' a=some o):Bi F' H' vs ts:=by
 induction ts generalizing vs with
 |nil=>cases r.DC;exact .nil
 |cons p ps c=>
  obtain⟨v,ws,rfl,a,b⟩:=r.inv;rw[OV.Ip]at s;exact .cons (a.mono f λa ha=>s a (Ke _ ha)) (c b λa ha=>s a (DU _ ha))
theorem Bq.there{t:OV}(r:Bq F H v t):∀a∈t.addrs,H a≠none:=
 Bq.rec (motive_1:=λv t _=>∀a∈t.addrs,H a≠none) (motive_2:=λvs ts _=>∀a∈OV.Dd ts,H a≠none)
  (λ_ a ha=>by rw[OV.ju]at ha;cases ha)
  (λ_ _ i a ha=>i a (by rw[OV.MV]at ha;exact ha))
  (λ{k b vs xs}h c d _ i a ha=>by
   rw[OV.Mc,Dn,fK]at ha;rcases ha with rfl|ha|ha
   .rw[h];exact λz=>by cases z
   .cases k with
    |obj C dx ns=>
     have e:a=dx:=List.mem_singleton.mp ha;rw[e,show H dx=some (.own b)from c];exact λz=>by cases z
    |_=>cases ha
   .exact i a ha)
  (λa ha=>by rw[OV.sF]at ha;cases ha)
  (λ_ _ i k a ha=>by
   rw[OV.Ip,fK]at ha;exact ha.elim (i a) (k a))
  r
theorem Bi.length(r:Bi F H vs ts):vs.length=ts.length:=by
 induction ts generalizing vs with
 |nil=>cases r.DC;rfl
 |cons p ps c=>obtain⟨v,ws,rfl,a,b⟩:=r.inv;exact iK (· + 1) (c b)
inductive Slot where
 |any|is (p:PV)|own (xs:List PV)|AQ|sq (tp:Bool) (xs:List PV)|raw (P:Hp->V->Prop)|ow (lt:Bool) (t:OV)
variable{ss:List Slot}{s:Slot}{aU nx:List Slot->Prop}
structure Ent0 where
 A:List Addr
 F0:Hp
 H0:Hp
 B:List Addr
variable{E:Ent0}
abbrev E3(A:List Addr)(F H:Hp):Ent0:=⟨A,F,H,[]⟩
def Ok(E:Ent0)(F H:Hp):Slot->Option (Option V)->Prop
 | .any,_=>True
 | .is p,o=>∃v,o=some (some v)/\Rep F v p
 | .own xs,o=>∃l vs,o=some (some (.ref l))/\F l=none/\E.H0 l=none/\H l=some (.lst vs)/\AE F vs xs
 | .AQ,o=>∃l,o=some (some (.ref l))/\F l=none/\(E.H0 l=none∨l∈E.A)/\BK H l
 | .sq true xs,o=>∃v,o=some (some v)/\Rep F v (.tup xs)
 | .sq false xs,o=>∃l vs,o=some (some (.ref l))/\(l∉E.A/\l∉E.B)/\E.H0 l=some (.lst vs)/\AE F vs xs
 | .raw P,o=>∃v,o=some (some v)/\P F v/\∀F F',A9 F F'->P F v->P F' v
 | .ow lt t,o=>∃v,o=some (some v)/\Bq F H v t/\t.addrs.Nodup/\∀a∈t.addrs,F a=none/\(E.H0 a=none∨(lt=true/\a∈E.B))
def CD:Slot->Option (Option V)->Addr->Prop
 | .own _,o,l=>o=some (some (.ref l))
 | .AQ,o,l=>o=some (some (.ref l))
 | .ow _ t,_,l=>l∈t.addrs
 |_,_,_=>False
structure Fin (E:Ent0) (F H:Hp):Prop where
 fh:A9 F H
 f0:A9 E.F0 F
 keep:∀a o,(a∉E.A/\a∉E.B)->E.H0 a=some o->H a=some o
 fresh:∀a o,F a=some o->E.F0 a=some o∨E.H0 a=none
 Gs:∀a,a∈E.A->BK H a
 Ld:∀a,a∈E.A->F a=none
 a0:∀a,a∈E.A->E.H0 a≠none
 bF:∀a,a∈E.B->F a=none
 bH:∀a,a∈E.B->H a≠none
 b0:∀a,a∈E.B->E.H0 a≠none/\a∉E.A
structure Sg (E:Ent0) (ss:List Slot) (Z:L2.St) (F H:Hp):Prop extends Fin E F H where
 len:ss.length=Z.length
 ok:∀(i:Nat)s,ss[i]?=some s->Ok E F H s Z[i]?
 EB:∀(i j:Nat)s u l,i≠j->ss[i]?=some s->ss[j]?=some u->CD s Z[i]? l->¬ CD u Z[j]? l
structure Ex where
 C:Addr
 ns:List Str
 xs:List PV
def Ex.at(x:Ex)(F:Hp)(C:Value)(dx:Option Addr):Prop:=
 C=.ref x.C/\((x.ns=[]/\x.xs=[]/\dx=none)∨∃a vs,dx=some a/\F a=some (.xd (x.ns.zip vs))/\x.ns.length=vs.length/\AE F vs x.xs)
class Xw where
 e:L2.St->XK
 J:List Slot->Prop
 D:Ex->Prop
structure Ent [Xw] extends Ent0 where
 hx:∀(ss:List Slot)(Z:L2.St)(F H:Hp)(x:Ex)(C:Value)(dx:Option Addr),Xw.J ss->Sg toEnt0 ss Z F H->Xw.D x->x.at F C dx->Xw.e Z C dx H
instance [Xw]:CoeOut Ent Ent0:=⟨Ent.toEnt0⟩
instance noX:Xw:=⟨λ_=>E0,λ_=>True,λ_=>False⟩
def DR(ss:List Slot)(Z:L2.St)(a:Addr):Prop:=∀i:Nat,ss[i]?=some .AQ->Z[i]?≠some (some (.ref a))
structure Mv (E:Ent0) (ss:List Slot) (Z:L2.St) (F H F' H':Hp):Prop where
 st:Sg E ss Z F' H'
 ff:A9 F F'
 hh:∀a o,DR ss Z a->H a=some o->H' a=some o
 nn:∀a o,F' a=some o->F a=some o∨H a=none
theorem Sg.Jw(S:Sg E ss Z F H)(h:H l=none):DR ss Z l:=λi hi e=>by
 obtain⟨c,b,_,_,_,_,a,_⟩:=S.ok i _ hi;rw[e]at b;cases b;rw[h]at a;cases a
theorem Mv.none(m:Mv E ss Z F H F' H')(h:H' a=none):H a=none:=by
 cases e:H a with
 |none=>rfl
 |some o=>rw[m.hh a o (m.st.Jw h) e]at h;cases h
theorem Mv.refl{E:Ent0}{ss:List Slot}{Z:L2.St}{F H:Hp}(S:Sg E ss Z F H):Mv E ss Z F H F H:=⟨S,A9.refl _,λ_ _ _ e=>e,λ_ _ e=>.inl e⟩
theorem Mv.trans{F1 H1 F2 H2:Hp}(a:Mv E ss Z F H F1 H1)(b:Mv E ss Z F1 H1 F2 H2):Mv E ss Z F H F2 H2:=
 ⟨b.st,a.ff.trans b.ff,λc o n e=>b.hh c o n (a.hh c o n e),λc o e=>(b.nn c o e).elim (λe=>a.nn c o e) λe=>.inr (a.none e)⟩
theorem Sg.Cy(S:Sg E ss Z F H){p:Addr}(h:H p=none):E.H0 p=none:=by
 cases e:E.H0 p with
 |none=>rfl
 |some o=>
  by_cases q:p∈E.A
  .obtain⟨_,_,b,_⟩:=S.Gs p q;rw[h]at b;cases b
  .by_cases a:p∈E.B
   .exact absurd h (S.bH p a)
   .rw[S.keep p o ⟨q,a⟩ e]at h;cases h
theorem Sg.CO(S:Sg E ss Z F H){p:Addr}(h:H p=none):F p=none:=A9.none S.fh h
theorem BK.keep(h:BK H l)(k:∀o,H l=some o->H' l=some o):BK H' l:=by
 obtain⟨a,b,e,r⟩:=h;exact⟨a,b,k _ e,r⟩
theorem Sg.bh(S:Sg E ss Z F H)(h:F l=some o):DR ss Z l:=λi hi e=>by
 obtain⟨c,b,a,_⟩:=S.ok i _ hi;rw[e]at b;cases b;rw[h]at a;cases a
theorem Sg.eI(S:Sg E ss Z F H)(b:l∉E.A)(h:E.H0 l=some o):DR ss Z l:=λi hi e=>by
 obtain⟨c,a,_,q,_⟩:=S.ok i _ hi;rw[e]at a;cases a;rcases q with q|q
 .rw[h]at q;cases q
 .exact b q
theorem Sg.uM(S:Sg E ss Z F H)(h:l∈E.B):DR ss Z l:=λi hi e=>by
 obtain⟨d,a,_,q,_⟩:=S.ok i _ hi;rw[e]at a;cases a;obtain⟨c,b⟩:=S.b0 l h;rcases q with q|q
 .exact c q
 .exact b q
theorem Sg.wU(S:Sg E ss Z F H)(h:ss[i]?=some s)(m:CD s Z[i]? l):H l≠none:=by
 have k:=S.ok i s h;cases s with
 |own xs=>obtain⟨c,vs,a,_,_,b,_⟩:=k;rw[show Z[i]?=some (some (.ref l))from m]at a;cases a;rw[b];simp
 |AQ=>obtain⟨c,a,_,_,_,_,b,_⟩:=k;rw[show Z[i]?=some (some (.ref l))from m]at a;cases a;rw[b];simp
 |ow lt t=>obtain⟨v,_,r,_⟩:=k;exact r.there l m
 |_=>cases m
theorem Sg.K3(S:Sg E ss Z F H)(h:ss[i]?=some s)(hl:H l=none):¬ CD s Z[i]? l:=λm=>S.wU h m hl
theorem Sg.RQ(S:Sg E ss Z F H)(h:ss[i]?=some s)(m:CD s Z[i]? l)(np:s≠.AQ):DR ss Z l:=λj a b=>
 S.EB i j s _ l (by rintro rfl;rw[h]at a;exact np (B4 a)) h a m b
theorem Ok.go(S:Sg E ss Z F H){i:Nat}{s:Slot}(hi:ss[i]?=some s)(ff:A9 F F')(d:∀a o,CD s Z[i]? a->H a=some o->H' a=some o)(CO:∀a,H a≠none->F a=none->F' a=none)(np:s≠.AQ):Ok E F' H' s Z[i]?:=by
 have k:=S.ok i s hi;cases s with
 |any=>trivial
 |is p=>obtain⟨v,e,r⟩:=k;exact⟨v,e,r.mono ff⟩
 |own xs=>
  obtain⟨l,vs,e,c,b,f,r⟩:=k;exact⟨l,vs,e,CO l (by rw[f];simp) c,b,d l _ e f,r.mono ff⟩
 |AQ=>exact absurd rfl np
 |sq tp xs=>
  cases tp with
  |true=>obtain⟨v,e,r⟩:=k;exact⟨v,e,r.mono ff⟩
  |false=>obtain⟨l,vs,e,c,b,r⟩:=k;exact⟨l,vs,e,c,b,r.mono ff⟩
 |raw P=>obtain⟨v,e,r,st⟩:=k;exact⟨v,e,st _ _ ff r,st⟩
 |ow lt t=>
  obtain⟨v,e,r,nd,q⟩:=k;exact⟨v,e,r.mono ff λa ha o=>d a o ha,nd,λa ha=>⟨CO a (r.there a ha) (q a ha).1,(q a ha).2⟩⟩
theorem Sg.step(S:Sg E ss Z F H)(ff:A9 F F')(fh:A9 F' H')(c:∀a o,DR ss Z a->H a=some o->H' a=some o)(f:∀a o,F' a=some o->F a=some o∨H a=none)
  (h:∀(i:Nat)l,ss[i]?=some .AQ->Z[i]?=some (some (.ref l))->BK H' l):Mv E ss Z F H F' H':=by
 have CO:∀a,H a≠none->F a=none->F' a=none:=λa h1 h2=>by
  cases e:F' a with
  |none=>rfl
  |some o=>
   rcases f a o e with q|q
   .rw[h2]at q;cases q
   .exact absurd q h1
 have j:∀a,BK H a->DR ss Z a->BK H' a:=λa p n=>BK.keep p λo e=>c a o n e;refine⟨⟨⟨fh,S.f0.trans ff,λa o b e=>?_,λa o e=>?_,λa b=>?_,λa b=>?_,S.a0,λa d=>CO a (S.bH a d) (S.bF a d),λa d=>?_,S.b0⟩,S.len,λi s hi=>?_,S.EB⟩,ff,c,f⟩
 .exact c a o (S.eI b.1 e) (S.keep a o b e)
 .rcases f a o e with q|q
  .exact S.fresh a o q
  .exact .inr (S.Cy q)
 .by_cases q:∃i:Nat,ss[i]?=some .AQ/\Z[i]?=some (some (.ref a))
  .obtain⟨i,r,k⟩:=q;exact h i a r k
  .exact j a (S.Gs a b) λi h1 h2=>q ⟨i,h1,h2⟩
 .refine CO a ?_ (S.Ld a b);obtain⟨_,_,g,_⟩:=S.Gs a b;rw[g];simp
 .obtain⟨o,e⟩:=Option.ne_none_iff_exists'.mp (S.bH a d);rw[c a o (S.uM d) e];simp
 .by_cases np:s=.AQ
  .subst np;obtain⟨l,e,g,v,u⟩:=S.ok i _ hi;have w:=u;obtain⟨_,_,t,_⟩:=w;exact⟨l,e,CO l (by rw[t];simp) g,v,h i l hi e⟩
  .exact Ok.go S hi ff (λa o m=>c a o (S.RQ hi m np)) CO np
theorem Sg.FC(S:Sg E ss Z F H)(hi:ss[i]?=some .AQ)(e:Z[i]?=some (some (.ref l))):BK H l:=by
 obtain⟨b,a,_,_,p⟩:=S.ok i _ hi;rw[e]at a;cases a;exact p
theorem Sg.alloc(S:Sg E ss Z F H){p:Addr}(h:H p=none)(o:HO):Mv E ss Z F H (upd F p o) (upd H p o):=by
 refine S.step (CH (S.CO h) _) (λa u e=>?_) (λa u _ e=>CH h o a u e) (λa u e=>?_) λi l hi e=>BK.keep (S.FC hi e) λu e=>CH h o l u e
 .by_cases q:a=p
  .subst q;rw[AY]at e ⊢;exact e
  .rw[AJ q]at e ⊢;exact S.fh a u e
 .by_cases q:a=p
  .subst q;exact .inr h
  .rw[AJ q]at e;exact .inl e
theorem Sg.make(S:Sg E ss Z F H){p:Addr}(h:H p=none)(o:HO):Mv E ss Z F H F (upd H p o):=
 S.step (A9.refl _) (S.fh.trans (CH h o)) (λa u _ e=>CH h o a u e) (λa u e=>.inl e) λi l hi e=>BK.keep (S.FC hi e) λu e=>CH h o l u e
theorem Sg.grow(S:Sg E ss Z F H)(s:A9 H H'):Mv E ss Z F H F H':=
 S.step (A9.refl _) (S.fh.trans s) (λa u _ e=>s a u e) (λa u e=>.inl e) λi l hi e=>BK.keep (S.FC hi e) λu e=>s l u e
theorem Sg.setG(S:Sg E ss Z F H)(AB:Ok E F H s (some (some v)))(f:∀l,CD s (some (some v)) l->∀(i:Nat)u,i≠j->ss[i]?=some u->¬ CD u Z[i]? l):Sg E (ss.set j s) (Z.set j (some v)) F H:=by
 refine⟨S.toFin,by rw[Hv,Hv];exact S.len,λi u hi=>?_,λi k u w l Lj hi b d c=>?_⟩
 .by_cases q:i=j
  .subst q;have a:i<ss.length:=by have:=(List.getElem?_eq_some_iff.mp hi).1;simpa using this
   rw[ER a]at hi;cases hi;rw[ER (by rw[<- S.len];exact a)];exact AB
  .rw[E7 (BS q)]at hi ⊢;exact S.ok i u hi
 .by_cases q:i=j
  .subst q;have a:i<ss.length:=by have:=(List.getElem?_eq_some_iff.mp hi).1;simpa using this
   rw[ER a]at hi;rw[ER (by rw[<- S.len];exact a)]at d;cases hi;rw[E7 Lj]at b c;exact f l d k w (BS Lj) b c
  .rw[E7 (BS q)]at hi d
   by_cases e:k=j
   .subst e;have a:k<ss.length:=by have:=(List.getElem?_eq_some_iff.mp b).1;simpa using this
    rw[ER a]at b;cases b;rw[ER (by rw[<- S.len];exact a)]at c;exact f l c i u Lj hi d
   .rw[E7 (BS e)]at b c;exact S.EB i k u w l Lj hi b d c
theorem Sg.Ig(S:Sg E ss Z F H)(r:Rep F v p):Sg E (ss.set j (.is p)) (Z.set j (some v)) F H:=S.setG ⟨v,rfl,r⟩ λ_ h=>by cases h
def Sv(ss:List Slot)(Z:L2.St)(F H:Hp)(v:V):Bool->List PV->Prop
 |true,xs=>Rep F v (.tup xs)
 |false,xs=>∃l vs,v=.ref l/\DR ss Z l/\H l=some (.lst vs)/\AE F vs xs
def Fv(E:Ent0)(F:Hp)(v:V):Bool->List PV->Prop
 |true,xs=>Rep F v (.tup xs)
 |false,xs=>∃l vs,v=.ref l/\(F l=some (.lst vs)∨((l∉E.A/\l∉E.B)/\E.H0 l=some (.lst vs)))/\AE F vs xs
structure Wp [Xw] (ss:List Slot) (t:TE) (k:PV->Prop):Prop where
 go:∀(E:Ent)(Z:L2.St)(F H:Hp)(Q:VK),Sg E ss Z F H->(∀v p F' H',Mv E ss Z F H F' H'->Rep F' v p->k p->Q v H')->t Z H Q
structure Wn [Xw] (ss:List Slot) (t:TE) (k:List PV->Prop):Prop where
 go:∀(E:Ent)(Z:L2.St)(F H:Hp)(Q:VK),Sg E ss Z F H->(∀l vs xs F' H',Mv E ss Z F H F' H'->F' l=none->H l=none->H' l=some (.lst vs)->AE F' vs xs->k xs->Q (.ref l) H')->t Z H Q
structure Wq [Xw] (ss:List Slot) (t:TE) (k:Bool->List PV->Prop):Prop where
 go:∀(E:Ent)(Z:L2.St)(F H:Hp)(Q:VK),Sg E ss Z F H->(∀v tp xs F' H',Mv E ss Z F H F' H'->Sv ss Z F' H' v tp xs->k tp xs->Q v H')->t Z H Q
structure Wz [Xw] (ss:List Slot) (t:TE) (k:Bool->List PV->Prop):Prop where
 go:∀(E:Ent)(Z:L2.St)(F H:Hp)(Q:VK),Sg E ss Z F H->(∀v tp xs F' H',Mv E ss Z F H F' H'->Fv E F' v tp xs->k tp xs->Q v H')->t Z H Q
structure Wt [Xw] (ss:List Slot) (t:TT) (k:Bool->Prop):Prop where
 go:∀(E:Ent)(Z:L2.St)(F H:Hp)(Q:Bool->Hp->Prop),Sg E ss Z F H->(∀b F' H',Mv E ss Z F H F' H'->k b->Q b H')->t Z H Q
def Av(ss:List Slot)(Z:L2.St)(F H:Hp)(v:V):Slot->Prop
 | .is p=>Rep F v p
 | .sq tp xs=>Sv ss Z F H v tp xs
 | .raw P=>P F v/\∀F F',A9 F F'->P F v->P F' v
 |_=>False
inductive Es (ss:List Slot) (Z:L2.St) (F H:Hp):List V->List Slot->Prop where
 |nil:Es ss Z F H [] []
 |cons {v:V}{s:Slot}{vs:List V}{l:List Slot}:Av ss Z F H v s->Es ss Z F H vs l->Es ss Z F H (v::vs) (s::l)
structure Wa [Xw] (ss:List Slot) (t:TA) (k:List Slot->Prop):Prop where
 go:∀(E:Ent)(Z:L2.St)(F H:Hp)(Q:List V->Hp->Prop),Sg E ss Z F H->(∀vs l F' H',Mv E ss Z F H F' H'->Es ss Z F' H' vs l->k l->Q vs H')->t Z H Q
inductive Ah where
 |is (k:PV->Prop)|new (k:List PV->Prop)|AQ|ow (k:OV->Prop)|mt (k:PV->OV->Prop)|uH (k:PV->OV->OV->Prop)
def OV.val:OV->V
 | .nd _ a _=>.ref a
 |_=>.A5
def Ah.ok(R:Ah)(E:Ent0)(F' H':Hp)(v:V):Prop:=match R with
 | .is k=>∃p,Rep F' v p/\k p
 | .new k=>∃l vs xs,v=.ref l/\F' l=none/\E.H0 l=none/\H' l=some (.lst vs)/\AE F' vs xs/\k xs
 | .AQ=>∃l,v=.ref l/\F' l=none/\E.H0 l=none/\BK H' l
 | .ow k=>∃t,Bq F' H' v t/\t.addrs.Nodup/\(∀a∈t.addrs,F' a=none/\E.H0 a=none)/\k t
 | .mt k=>∃p t,Rep F' v p/\Bq F' H' t.val t/\t.addrs.Nodup/\(∀a∈t.addrs,F' a=none/\(E.H0 a=none∨a∈E.B))/\k p t
 | .uH k=>∃p t u,Rep F' v p/\Bq F' H' t.val t/\Bq F' H' u.val u/\(t.addrs++u.addrs).Nodup/\(∀a∈t.addrs++u.addrs,F' a=none/\(E.H0 a=none∨a∈E.B))/\k p t u
structure Ws [Xw] (ss:List Slot) (t:TS) (nx:List Slot->Prop) (R:Ah):Prop where
 go:∀(E:Ent)(D:Ends)(Z:L2.St)(F H:Hp),Sg E ss Z F H->(∀AK σ' F' H',nx AK->Sg E AK σ' F' H'->A9 F F'->D.nx σ' H')->(∀v F' H',Fin E F' H'->R.ok E F' H' v->D.rt v H')->t D Z H
section
variable[Xw]
variable{K:ZAe}{k:PV->Prop}{R:Ah}
theorem Sv.mv(h:Sv ss Z F H v tp xs)(m:Mv E ss Z F H F' H'):Sv ss Z F' H' v tp xs:=by
 cases tp with
 |true=>exact Rep.mono m.ff h
 |false=>
  obtain⟨l,vs,e,n,r,q⟩:=h;exact⟨l,vs,e,n,m.hh l _ n r,q.mono m.ff⟩
theorem Sv.seq(S:Sg E ss Z F H)(h:Sv ss Z F H v tp xs):∃l vs,v=.ref l/\H l=some (D6 tp vs)/\AE F vs xs:=by
 cases tp with
 |true=>cases h with|tup e r=>exact⟨_,_,rfl,S.fh _ _ e,r⟩
 |false=>obtain⟨l,vs,e,_,r,q⟩:=h;exact⟨l,vs,e,r,q⟩
theorem Fv.sv(S:Sg E ss Z F H)(h:Fv E F v tp xs):Sv ss Z F H v tp xs:=by
 cases tp with
 |true=>exact h
 |false=>
  obtain⟨l,vs,e,h1|⟨a,h1⟩,r⟩:=h
  .exact⟨l,vs,e,S.bh h1,S.fh _ _ h1,r⟩
  .exact⟨l,vs,e,S.eI a.1 h1,S.keep _ _ a h1,r⟩
theorem Fv.mono(h:Fv E F v tp xs)(s:A9 F F'):Fv E F' v tp xs:=by
 cases tp with
 |true=>exact Rep.mono s h
 |false=>
  obtain⟨l,vs,e,h1,r⟩:=h;exact⟨l,vs,e,h1.imp (λh=>s _ _ h) id,r.mono s⟩
theorem Av.mv(h:Av ss Z F H v s)(m:Mv E ss Z F H F' H'):Av ss Z F' H' v s:=by
 cases s with
 |is p=>exact Rep.mono m.ff h
 |sq tp xs=>exact Sv.mv h m
 |raw P=>exact⟨h.2 _ _ m.ff h.1,h.2⟩
 |_=>exact h
theorem Es.mv{l:List Slot}(h:Es ss Z F H vs l)(m:Mv E ss Z F H F' H'):Es ss Z F' H' vs l:=by
 induction h with
 |nil=>exact .nil
 |cons a _ b=>exact .cons (a.mv m) b
theorem Wp.mono{a:PV->Prop}(h:Wp ss te k)(i:∀p,k p->a p):Wp ss te a:=⟨λE Z F H Q S q=>h.go E Z F H Q S λv p F' H' m r kk=>q v p F' H' m r (i p kk)⟩
theorem A7(h:ss[i]?=some (.is p))(b:k p):Wp ss (Br i) k:=⟨λE Z F H Q S q=>by
 obtain⟨v,a,r⟩:=S.ok i _ h;exact⟨v,a,q v p F H (.refl S) r b⟩⟩
theorem BG{i:Int}(a:k (.int i)):Wp ss (tC (.int i)) k:=⟨λE Z F H Q S q=>q _ _ F H (.refl S) (.int i) a⟩
theorem BP{x:Str}(a:k (.str x)):Wp ss (tC (.str x)) k:=⟨λE Z F H Q S q=>q _ _ F H (.refl S) (.str x) a⟩
theorem IV(a:k (.bl b)):Wp ss (tC (.bl b)) k:=⟨λE Z F H Q S q=>q _ _ F H (.refl S) (.bl b) a⟩
theorem Uo(a:k .A5):Wp ss (tC .A5) k:=⟨λE Z F H Q S q=>q _ _ F H (.refl S) .A5 a⟩
theorem BW(h:Wn ss te (λxs=>k (.lst xs))):Wp ss te k:=⟨λE Z F H Q S q=>h.go E Z F H Q S λl vs xs F' H' m c hl BM r kk=>by
 have b:=m.st;have fr:Mv E ss Z F H (upd F' l (.lst vs)) H':=by
  have y:∀a,H' a≠none->a≠l->F' a=none->upd F' l (.lst vs) a=none:=λa _ h1 h2=>by rw[AJ h1];exact h2
  refine⟨⟨⟨λa u e=>?_,b.f0.trans (CH c _),b.keep,λa u e=>?_,b.Gs,λa x=>?_,b.a0,λa w=>?_,b.bH,b.b0⟩,b.len,λi s hi=>?_,b.EB⟩,m.ff.trans (CH c _),m.hh,λa u e=>?_⟩
  .by_cases q:a=l
   .subst q;rw[AY]at e;rw[<- e];exact BM
   .rw[AJ q]at e;exact b.fh a u e
  .by_cases q:a=l
   .subst q;exact .inr (S.Cy hl)
   .rw[AJ q]at e;exact b.fresh a u e
  .by_cases q:a=l
   .subst q;obtain⟨_,_,e,_⟩:=S.Gs _ x;rw[hl]at e;cases e
   .rw[AJ q];exact b.Ld a x
  .by_cases q:a=l
   .subst q;exact absurd hl (S.bH _ w)
   .rw[AJ q];exact b.bF a w
  .have n:∀a,CD s Z[i]? a->a≠l:=by
    rintro a m rfl;exact S.K3 hi hl m
   have kk:=b.ok i s hi;cases s with
   |any=>trivial
   |is p=>obtain⟨v,e,r⟩:=kk;exact⟨v,e,r.mono (CH c _)⟩
   |own ys=>
    obtain⟨d,ws,e,g,f,j,r⟩:=kk;exact⟨d,ws,e,by rw[AJ (n d e)];exact g,f,j,r.mono (CH c _)⟩
   |AQ=>
    obtain⟨d,e,g,f,j⟩:=kk;exact⟨d,e,by rw[AJ (n d e)];exact g,f,j⟩
   |sq tp ys=>
    cases tp with
    |true=>obtain⟨v,e,r⟩:=kk;exact⟨v,e,r.mono (CH c _)⟩
    |false=>obtain⟨d,ws,e,g,f,r⟩:=kk;exact⟨d,ws,e,g,f,r.mono (CH c _)⟩
   |raw P=>obtain⟨v,e,r,st⟩:=kk;exact⟨v,e,st _ _ (CH c _) r,st⟩
   |ow lt t=>
    obtain⟨v,e,r,nd,q⟩:=kk;exact⟨v,e,r.mono (CH c _) λa _ o h=>h,nd,λa ha=>⟨by rw[AJ (n a ha)];exact(q a ha).1,(q a ha).2⟩⟩
  .by_cases q:a=l
   .subst q;exact .inr hl
   .rw[AJ q]at e;exact m.nn a u e
 exact q _ _ _ _ fr (.lst AY (r.mono (CH c _))) kk⟩
theorem Bb{k:Bool->List PV->Prop}(h:Wp ss te (λp=>∃xs,(p=.lst xs/\k false xs)∨(p=.tup xs/\k true xs))):Wq ss te k:=⟨λE Z F H Q S q=>h.go E Z F H Q S λv p F' H' m r A6=>by
 obtain⟨xs,h⟩:=A6;rcases h with⟨rfl,kk⟩|⟨rfl,kk⟩
 .cases r with|lst h r=>exact q _ false xs F' H' m ⟨_,_,rfl,m.st.bh h,m.st.fh _ _ h,r⟩ kk
 .exact q v true xs F' H' m r kk⟩
theorem LA{k:Bool->List PV->Prop}(h:ss[i]?=some (.is (.lst xs)))(a:k false xs):Wq ss (Br i) k:=Bb (A7 h ⟨xs,.inl ⟨rfl,a⟩⟩)
theorem NO{k:Bool->List PV->Prop}(h:ss[i]?=some (.is (.tup xs)))(a:k true xs):Wq ss (Br i) k:=Bb (A7 h ⟨xs,.inr ⟨rfl,a⟩⟩)
theorem Ck{k:Bool->List PV->Prop}(h:ss[i]?=some (.own xs))(a:k false xs):Wq ss (Br i) k:=⟨λE Z F H Q S q=>by
 obtain⟨l,vs,e,d,c,b,r⟩:=S.ok i _ h;exact⟨_,e,q _ false xs F H (.refl S) ⟨l,vs,rfl,S.RQ h e (by simp),b,r⟩ a⟩⟩
theorem N5{k:Bool->List PV->Prop}(h:ss[i]?=some (.sq tp xs))(a:k tp xs):Wz ss (Br i) k:=⟨λE Z F H Q S q=>by
 have kk:=S.ok i _ h;cases tp with
 |true=>obtain⟨v,e,r⟩:=kk;exact⟨_,e,q _ true xs F H (.refl S) r a⟩
 |false=>
  obtain⟨l,vs,e,b,c,r⟩:=kk;exact⟨_,e,q _ false xs F H (.refl S) ⟨l,vs,rfl,.inr ⟨b,c⟩,r⟩ a⟩⟩
theorem ND{k:Bool->List PV->Prop}(h:Wp ss te (λp=>∃xs,(p=.lst xs/\k false xs)∨(p=.tup xs/\k true xs))):Wz ss te k:=⟨λE Z F H Q S q=>h.go E Z F H Q S λv p F' H' m r A6=>by
 obtain⟨xs,h⟩:=A6;rcases h with⟨rfl,kk⟩|⟨rfl,kk⟩
 .cases r with|lst h r=>exact q _ false xs F' H' m ⟨_,_,rfl,.inl h,r⟩ kk
 .exact q _ true xs F' H' m r kk⟩
theorem wH{k:Bool->List PV->Prop}(h:Wz ss te k):Wq ss te k:=⟨λE Z F H Q S q=>h.go E Z F H Q S λv tp xs F' H' m f kk=>q v tp xs F' H' m (f.sv m.st) kk⟩
theorem M0{k:Bool->List PV->Prop}(h:ss[i]?=some (.sq tp xs))(a:k tp xs):Wq ss (Br i) k:=wH (N5 h a)
theorem sT{C:Int->Int->Prop}(h:Wp ss ta λx=>∃i,x=.int i/\Wp ss tb λy=>∃j,y=.int j/\C i j/\k (.int (f i j))):Wp ss (BQ (rI C λi j=>.int (f i j)) ta tb) k:=⟨λE Z F H Q S q=>
 h.go E Z F H _ S λv p F1 H1 a d A6=>by
  obtain⟨i,l,h2⟩:=A6;subst l;cases d.inv;exact h2.go E Z F1 H1 _ a.st λm p2 F2 H2 e b C3=>by
   obtain⟨j,g,c,kk⟩:=C3;subst g;cases b.inv;exact⟨i,j,rfl,rfl,c,q _ _ F2 H2 (a.trans e) (.int _) kk⟩⟩
theorem Si(h:Wp ss ta λx=>∃i,x=.int i/\Wp ss tb λy=>∃j,y=.int j/\k (.int (f i j))):Wp ss (BQ (FT λi j=>.int (f i j)) ta tb) k:=⟨λE Z F H Q S q=>
 h.go E Z F H _ S λv p F1 H1 a c A6=>by
  obtain⟨i,g,h2⟩:=A6;subst g;cases c.inv;exact h2.go E Z F1 H1 _ a.st λl p2 F2 H2 d b C3=>by
   obtain⟨j,e,kk⟩:=C3;subst e;cases b.inv;exact⟨i,j,rfl,rfl,q _ _ F2 H2 (a.trans d) (.int _) kk⟩⟩
theorem oR{f:Int->Int->Bool}(h:Wp ss ta λx=>∃i,x=.int i/\Wp ss tb λy=>∃j,y=.int j/\k (.bl (f i j))):Wp ss (BQ (FT λi j=>.bl (f i j)) ta tb) k:=⟨λE Z F H Q S q=>
 h.go E Z F H _ S λv p F1 H1 a c A6=>by
  obtain⟨i,g,h2⟩:=A6;subst g;cases c.inv;exact h2.go E Z F1 H1 _ a.st λl p2 F2 H2 d b C3=>by
   obtain⟨j,e,kk⟩:=C3;subst e;cases b.inv;exact⟨i,j,rfl,rfl,q _ _ F2 H2 (a.trans d) (.bl _) kk⟩⟩
def alike:PV->PV->Bool
 | .int i,.int j=>decide (i=j)
 | .str i,.str j=>decide (i=j)
 | .bl i,.bl j=>decide (i=j)
 | .A5,.A5=>true
 |_,_=>false
def Kz(p q:PV):Bool:=flat p && flat q && UG (Fz.enc p) (Fz.enc q)
theorem bU{q:PV}(h:Kz p q=true):decide (Fz.enc p=Fz.enc q)=alike p q:=by
 unfold Kz at h;rw[DT,DT]at h;obtain⟨⟨h1,h2⟩,a⟩:=h;cases p <;> first|exact Bool.noConfusion h1|skip
 all_goals cases q <;> first|exact Bool.noConfusion h2|exact Bool.noConfusion a|rfl|exact decide_eq_decide.mpr ⟨λe=>by injection e,iK _⟩
theorem Gj(h:Wp ss ta λx=>Wp ss tb λy=>Kz x y=true/\k (.bl (alike x y))):Wp ss (BQ Xf ta tb) k:=⟨λE Z F H Q S q=>
 h.go E Z F H _ S λv p F1 H1 a c h2=>h2.go E Z F1 H1 _ a.st λf p2 F2 H2 d b A6=>by
  obtain⟨sc,kk⟩:=A6;have e:=sc;unfold Kz at sc;rw[DT,DT]at sc;rw[c.enc sc.1.1,b.enc sc.1.2];refine⟨sc.2,?_⟩;rw[bU e];exact q _ _ F2 H2 (a.trans d) (.bl _) kk⟩
theorem Sr(h:Wp ss ta λx=>Wp ss tb λy=>Kz x y=true/\k (.bl (!alike x y))):Wp ss (BQ ah ta tb) k:=⟨λE Z F H Q S q=>
 h.go E Z F H _ S λv p F1 H1 a c h2=>h2.go E Z F1 H1 _ a.st λf p2 F2 H2 d b A6=>by
  obtain⟨sc,kk⟩:=A6;have e:=sc;unfold Kz at sc;rw[DT,DT]at sc;rw[c.enc sc.1.1,b.enc sc.1.2];refine⟨sc.2,?_⟩;rw[bU e];exact q _ _ F2 H2 (a.trans d) (.bl _) kk⟩
theorem JY(h:Wp ss ta λx=>∃c,x=.bl c/\if c=true then Wp ss tb k else k (.bl false)):Wp ss (Ui ta tb) k:=⟨λE Z F H Q S q=>
 h.go E Z F H _ S λv p F1 H1 a d A6=>by
  obtain⟨c,e,h2⟩:=A6;subst e;cases d.inv;refine⟨c,rfl,?_⟩;cases c with
  |true=>rw[i6 rfl]at h2 ⊢;exact h2.go E Z F1 H1 _ a.st λg p2 F2 H2 f b kk=>q _ _ F2 H2 (a.trans f) b kk
  |false=>rw[hZ (by decide)]at h2 ⊢;exact q _ _ F1 H1 a (.bl _) h2⟩
theorem T5(h:Wp ss ta λx=>∃c,x=.bl c/\if c=true then k (.bl true)else Wp ss tb k):Wp ss (Tt ta tb) k:=⟨λE Z F H Q S q=>
 h.go E Z F H _ S λv p F1 H1 a d A6=>by
  obtain⟨c,e,h2⟩:=A6;subst e;cases d.inv;refine⟨c,rfl,?_⟩;cases c with
  |true=>rw[i6 rfl]at h2 ⊢;exact q _ _ F1 H1 a (.bl _) h2
  |false=>rw[hZ (by decide)]at h2 ⊢;exact h2.go E Z F1 H1 _ a.st λg p2 F2 H2 f b kk=>q _ _ F2 H2 (a.trans f) b kk⟩
theorem dw(h:Wp ss ta λx=>∃c,x=.bl c/\k (.bl (!c))):Wp ss (Qk ta) k:=⟨λE Z F H Q S q=>
 h.go E Z F H _ S λv p F1 H1 b a A6=>by obtain⟨c,e,kk⟩:=A6;subst e;cases a.inv;exact⟨c,rfl,q _ _ F1 H1 b (.bl _) kk⟩⟩
theorem jI{t:TT}(h:Wt ss t λc=>if c=true then Wp ss ta k else Wp ss tb k):Wp ss (Nk t ta tb) k:=⟨λE Z F H Q S q=>
 h.go E Z F H _ S λc F1 H1 a h2=>by
  show if c=true then _ else _
  cases c with
  |true=>rw[i6 rfl]at h2 ⊢;exact h2.go E Z F1 H1 _ a.st λe p2 F2 H2 d b kk=>q _ _ F2 H2 (a.trans d) b kk
  |false=>rw[hZ (by decide)]at h2 ⊢;exact h2.go E Z F1 H1 _ a.st λe p2 F2 H2 d b kk=>q _ _ F2 H2 (a.trans d) b kk⟩
theorem RJ{f g:Int->Int->Bool}(h:Wp ss ta λx=>∃i,x=.int i/\Wp ss tb λy=>∃j,y=.int j/\if f i j=true then Wp ss tc (λz=>∃l,z=.int l/\k (.bl (g j l)))else k (.bl false)):
  Wp ss (MP (FT λi j=>.bl (f i j)) (FT λi j=>.bl (g i j)) ta tb tc) k:=⟨λE Z F H Q S q=>
 h.go E Z F H _ S λv p F1 H1 d n A6=>by
  obtain⟨i,u,h2⟩:=A6;subst u;cases n.inv;exact h2.go E Z F1 H1 _ d.st λA p2 F2 H2 b m C3=>by
   obtain⟨j,t,a⟩:=C3;subst t;cases m.inv;refine⟨i,j,rfl,rfl,f i j,rfl,?_⟩;cases c:f i j with
   |true=>
    rw[c,i6 rfl]at a;rw[i6 rfl];exact a.go E Z F2 H2 _ b.st λw p3 F3 H3 r e o=>by
     obtain⟨l,s,kk⟩:=o;subst s;cases e.inv;exact⟨j,l,rfl,rfl,q _ _ F3 H3 (d.trans (b.trans r)) (.bl _) kk⟩
   |false=>
    rw[c,hZ (by decide)]at a;rw[hZ (by decide)];exact q _ _ F2 H2 (d.trans b) (.bl _) a⟩
theorem CC{k:Bool->Prop}(h:Wp ss te λx=>∃c,x=.bl c/\k c):Wt ss (LM te) k:=⟨λE Z F H Q S q=>
 h.go E Z F H _ S λv p F1 H1 b a A6=>by obtain⟨c,e,kk⟩:=A6;subst e;cases a.inv;exact⟨c,rfl,q _ F1 H1 b kk⟩⟩
theorem E2{k:Bool->Prop}(h:Wp ss te λx=>∃c,x=.bl c/\k c):Wt ss (tB te) k:=⟨λE Z F H Q S q=>
 h.go E Z F H _ S λv p F1 H1 b a A6=>by obtain⟨c,e,kk⟩:=A6;subst e;cases a.inv;exact⟨c,rfl,q _ F1 H1 b kk⟩⟩
theorem Eu{k:Bool->Prop}(h:k true):Wt ss RK k:=⟨λE Z F H Q S q=>q _ F H (.refl S) h⟩
theorem Dp{t:TT}{k:Bool->Prop}(h:Wt ss t λc=>k (!c)):Wt ss (Vv t) k:=⟨λE Z F H Q S q=>h.go E Z F H _ S λc F1 H1 a kk=>q _ F1 H1 a kk⟩
theorem VR{t u:TT}{k:Bool->Prop}(h:Wt ss t λc=>if c=true then Wt ss u k else k false):Wt ss (Vt t u) k:=⟨λE Z F H Q S q=>
 h.go E Z F H _ S λc F1 H1 a h2=>by
  show if c=true then _ else _
  cases c with
  |true=>rw[i6 rfl]at h2 ⊢;exact h2.go E Z F1 H1 _ a.st λc2 F2 H2 b kk=>q _ F2 H2 (a.trans b) kk
  |false=>rw[hZ (by decide)]at h2 ⊢;exact q _ F1 H1 a h2⟩
theorem FV{t u:TT}{k:Bool->Prop}(h:Wt ss t λc=>if c=true then k true else Wt ss u k):Wt ss (TK t u) k:=⟨λE Z F H Q S q=>
 h.go E Z F H _ S λc F1 H1 a h2=>by
  show if c=true then _ else _
  cases c with
  |true=>rw[i6 rfl]at h2 ⊢;exact q _ F1 H1 a h2
  |false=>rw[hZ (by decide)]at h2 ⊢;exact h2.go E Z F1 H1 _ a.st λc2 F2 H2 b kk=>q _ F2 H2 (a.trans b) kk⟩
end
structure We [Xw] (ss:List Slot) (t:TA) (k:List PV->Prop):Prop where
 go:∀(E:Ent)(Z:L2.St)(F H:Hp)(Q:List V->Hp->Prop),Sg E ss Z F H->(∀vs ps F' H',Mv E ss Z F H F' H'->AE F' vs ps->k ps->Q vs H')->t Z H Q
structure Wo [Xw] (ss:List Slot) (t:TO) (k:Option Int->Prop):Prop where
 go:∀(E:Ent)(Z:L2.St)(F H:Hp)(Q:Option Int->Hp->Prop),Sg E ss Z F H->(∀o F' H',Mv E ss Z F H F' H'->k o->Q o H')->t Z H Q
section
variable[Xw]
variable{K:ZAe}{k:PV->Prop}{R:Ah}
theorem Ee{k:List PV->Prop}(h:k []):We ss B0 k:=⟨λE Z F H Q S q=>q _ _ F H (.refl S) .nil h⟩
theorem Co{k:List PV->Prop}(h:Wp ss te λp=>We ss t λps=>k (p::ps)):We ss (Ab te t) k:=⟨λE Z F H Q S q=>
 h.go E Z F H _ S λv p F1 H1 b d h2=>h2.go E Z F1 H1 _ b.st λvs ps F2 H2 a c kk=>q _ _ F2 H2 (b.trans a) (.cons (d.mono a.ff) c) kk⟩
theorem Bw{k:List Slot->Prop}(h:k []):Wa ss B0 k:=⟨λE Z F H Q S q=>q _ _ F H (.refl S) .nil h⟩
theorem C7{k:List Slot->Prop}(h:Wp ss te λp=>Wa ss t λl=>k (.is p::l)):Wa ss (Ab te t) k:=⟨λE Z F H Q S q=>
 h.go E Z F H _ S λv p F1 H1 b d h2=>h2.go E Z F1 H1 _ b.st λvs l F2 H2 a c kk=>q _ _ F2 H2 (b.trans a) (.cons (s:=.is p) (d.mono a.ff) c) kk⟩
theorem Jl{k:List Slot->Prop}(h:Wq ss te λtp xs=>Wa ss t λl=>k (.sq tp xs::l)):Wa ss (Ab te t) k:=⟨λE Z F H Q S q=>
 h.go E Z F H _ S λv tp xs F1 H1 b d h2=>h2.go E Z F1 H1 _ b.st λvs l F2 H2 a c kk=>q _ _ F2 H2 (b.trans a) (.cons (s:=.sq tp xs) (d.mv a) c) kk⟩
theorem HG{k:Option Int->Prop}(h:k none):Wo ss Ru k:=⟨λE Z F H Q S q=>q _ F H (.refl S) h⟩
theorem GF{k:Option Int->Prop}(h:Wp ss te λp=>∃i,p=.int i/\k (some i)):Wo ss (Tp te) k:=⟨λE Z F H Q S q=>
 h.go E Z F H _ S λv p F1 H1 b a A6=>by obtain⟨i,e,kk⟩:=A6;subst e;cases a.inv;exact⟨i,rfl,q _ F1 H1 b kk⟩⟩
theorem LV{n:Nat}(h:n<=99999):n<sizeLine:=C4 (Nat.lt_succ_of_le h) (small (AZ 100000))
theorem MC(h:We ss t λps=>ps.length<=100000/\k (.tup ps)):Wp ss (WH t) k:=⟨λE Z F H Q S q=>
 h.go E Z F H _ S λvs ps F1 H1 d b A6=>by obtain⟨e,kk⟩:=A6;exact⟨small (by rw[b.length];exact e),λa ha=>by
  have c:=d.st.alloc ha (.tup vs);exact q _ _ _ _ (d.trans c) (.tup AY (b.mono c.ff)) kk⟩⟩
theorem Ii{k:List PV->Prop}(h:We ss t λps=>ps.length<=100000/\k ps):Wn ss (WV t) k:=⟨λE Z F H Q S q=>
 h.go E Z F H _ S λvs ps F1 H1 b c A6=>by obtain⟨f,kk⟩:=A6;exact⟨small (by rw[c.length];exact f),λa ha=>by
  have d:=b.st.make ha (.lst vs);refine q a vs ps F1 _ (b.trans d) (b.st.CO ha) ?_ AY c kk;cases e:H a with
  |none=>rfl
  |some o=>rw[b.hh a o (b.st.Jw ha) e]at ha;cases ha⟩⟩
theorem XJ(h:Wq ss te λ_ xs=>k (.int xs.length)):Wp ss (CJ (OY K) (Ab te B0)) k:=⟨λE Z F H Q S q=>
 h.go E Z F H _ S λv tp xs F1 H1 a sv kk=>by
  obtain⟨l,vs,rfl,hl,r⟩:=sv.seq a.st;refine⟨l,vs,rfl,(D6.sq (K:=K) hl).or,?_⟩;rw[r.length];exact q _ _ F1 H1 a (.int _) kk⟩
theorem AE.BA{i:Int}(r:AE F vs xs)(h:L2.BA xs i=some p):∃u,L2.BA vs i=some u/\Rep F u p:=by
 unfold L2.BA at h ⊢;rw[r.length];cases e:G3 xs.length i with
 |none=>rw[e]at h;cases h
 |some j=>
  rw[e]at h;exact r.get h
theorem EA(h:Wq ss ta λtp xs=>tp=false/\Wp ss tb λy=>∃i p,y=.int i/\L2.BA xs i=some p/\k p):Wp ss (BQ (Z9 K) ta tb) k:=⟨λE Z F H Q S q=>
 h.go E Z F H _ S λv tp xs F1 H1 b sv⟨g,h2⟩=>h2.go E Z F1 H1 _ b.st λj p2 F2 H2 a d⟨i,p,e,ha,kk⟩=>by
  subst e;cases d.inv;subst g;obtain⟨l,vs,rfl,hl,r⟩:=(sv.mv a).seq a.st;obtain⟨u,f,c⟩:=r.BA ha;exact⟨l,vs,i,u,rfl,rfl,AN.of hl,f,q _ _ F2 H2 (b.trans a) c kk⟩⟩
theorem Kv(h:Wq ss ta λtp xs=>tp=true/\Wp ss tb λy=>∃i p,y=.int i/\L2.BA xs i=some p/\k p):Wp ss (BQ (Y1 K) ta tb) k:=⟨λE Z F H Q S q=>
 h.go E Z F H _ S λv tp xs F1 H1 b sv⟨g,h2⟩=>h2.go E Z F1 H1 _ b.st λj p2 F2 H2 a d⟨i,p,e,ha,kk⟩=>by
  subst e;cases d.inv;subst g;obtain⟨l,vs,rfl,hl,r⟩:=(sv.mv a).seq a.st;obtain⟨u,f,c⟩:=r.BA ha;exact⟨l,vs,i,u,rfl,rfl,Al.of hl,f,q _ _ F2 H2 (b.trans a) c kk⟩⟩
theorem uj(h:Wp ss ta λp=>∃x,p=.str x/\Wq ss tb λ_ ys=>∃ns:List Str,ys=ns.map PV.str/\k (.bl (if neg then !decide (x∈ns)else decide (x∈ns)))):Wp ss (BQ (Q9 K neg) ta tb) k:=⟨λE Z F H Q S q=>
 h.go E Z F H _ S λv p F1 H1 b c A6=>by
  obtain⟨x,e,h2⟩:=A6;subst e;cases c.inv;exact h2.go E Z F1 H1 _ b.st λf tp ys F2 H2 a sv C3=>by
   obtain⟨ns,d,kk⟩:=C3;subst d;obtain⟨l,vs,rfl,hl,r⟩:=sv.seq a.st;rw[r.strs]at hl;refine⟨l,_,rfl,(D6.sq (K:=K) hl).or,rfl,NN ns,?_⟩;rw[Us];exact q _ _ F2 H2 (b.trans a) (.bl _) kk⟩
theorem Xc{k:List PV->Prop}(d:r=λxs H Q=>∃p ys,xs=[.ref p]/\(AN K H p ys∨Al K H p ys)/\∀l,H l=none->Q (.ref l) (upd H l (.lst ys)))(h:Wq ss te λ_ xs=>k xs):Wn ss (CJ r (Ab te B0)) k:=⟨λE Z F H Q S q=>
 h.go E Z F H _ S λv tp xs F1 H1 b sv kk=>by
  subst d;obtain⟨l,vs,rfl,hl,r⟩:=sv.seq b.st;refine⟨l,vs,rfl,(D6.sq (K:=K) hl).or,λa ha=>?_⟩;have c:=b.st.make ha (.lst vs);exact q a vs xs F1 _ (b.trans c) (b.st.CO ha) (b.none ha) AY r kk⟩
theorem UN(d:r=λxs H Q=>∃p ys,xs=[.ref p]/\((AN K H p ys/\∀l,H l=none->Q (.ref l) (upd H l (.tup ys)))∨(Al K H p ys/\Q (.ref p) H)))(h:Wq ss te λ_ xs=>k (.tup xs)):Wp ss (CJ r (Ab te B0)) k:=⟨λE Z F H Q S q=>
 h.go E Z F H _ S λv tp xs F1 H1 b sv kk=>by
  subst d;cases tp with
  |false=>
   obtain⟨l,vs,rfl,hl,r⟩:=sv.seq b.st;refine⟨l,vs,rfl,.inl ⟨AN.of hl,λa ha=>?_⟩⟩;have c:=b.st.alloc ha (.tup vs);exact q _ _ _ _ (b.trans c) (.tup AY (r.mono c.ff)) kk
  |true=>
   have f:Rep F1 v (.tup xs):=sv;cases f with
   |tup e r=>exact⟨_,_,rfl,.inr ⟨Al.of (b.st.fh _ _ e),q _ _ F1 H1 b (.tup e r) kk⟩⟩⟩
theorem N3{k:List PV->Prop}(h:Wq ss ta λtp xs=>tp=false/\Wq ss tb λCA ys=>CA=false/\xs.length+ys.length<=100000/\k (xs++ys)):Wn ss (BQ Xk ta tb) k:=⟨λE Z F H Q S q=>
 h.go E Z F H _ S λv tp xs F1 H1 c sv⟨g,h2⟩=>h2.go E Z F1 H1 _ c.st λi CA ys F2 H2 b Rj⟨S6,f,kk⟩=>by
  subst g;subst S6;obtain⟨l,vs,rfl,hl,r⟩:=(sv.mv b).seq b.st;obtain⟨l2,Ms,rfl,C9,d⟩:=Rj.seq b.st;refine⟨l,l2,vs,Ms,rfl,rfl,hl,C9,small (by rw[r.length,d.length];exact f),λa ha=>?_⟩;have e:=b.st.make ha (.lst (vs++Ms));exact q a _ _ F2 _ (c.trans (b.trans e)) (b.st.CO ha) ((c.trans b).none ha) AY (r.append d) kk⟩
def Eb{α:Type}(xs:List α)(lo hi:Option Int):List α:=(xs.drop (HT.D4 xs.length 0 lo)).take (HT.D4 xs.length xs.length hi - HT.D4 xs.length 0 lo)
theorem AE.cut(r:AE F vs xs)(lo hi:Option Int):AE F (Ji vs lo hi) (Eb xs lo hi):=by
 unfold Ji Eb;rw[r.length];exact(r.drop _).take _
theorem Hn{k:List PV->Prop}{tl th:TO}(h:Wq ss te λtp xs=>tp=false/\Wo ss tl λlo=>Wo ss th λhi=>k (Eb xs lo hi)):Wn ss (Vo (dG K) te tl th) k:=⟨λE Z F H Q S q=>
 h.go E Z F H _ S λv tp xs F1 H1 d sv⟨g,h2⟩=>h2.go E Z F1 H1 _ d.st λlo F2 H2 c f=>f.go E Z F2 H2 _ c.st λhi F3 H3 b kk=>by
  subst g;obtain⟨l,vs,rfl,hl,r⟩:=(sv.mv (c.trans b)).seq b.st;refine⟨l,vs,rfl,AN.of hl,λa ha=>?_⟩;have e:=b.st.make ha (.lst (Ji vs lo hi));exact q a _ _ F3 _ (d.trans (c.trans (b.trans e))) (b.st.CO ha) ((d.trans (c.trans b)).none ha) AY (r.cut lo hi) kk⟩
def tP(tp:Bool)(xs:List PV):PV:=if tp then .tup xs else .lst xs
theorem K5(b:r=λxs H Q=>∃(p:Addr)(bs:List Bool),xs=[.ref p]/\AN K H p (bs.map V.bl)/\Q (.bl (bs.all id)) H)(h:Wq ss te λtp xs=>tp=false/\∃bs:List Bool,xs=bs.map PV.bl/\k (.bl (bs.all id))):Wp ss (CJ r (Ab te B0)) k:=⟨λE Z F H Q S q=>
 h.go E Z F H _ S λv tp xs F1 H1 a sv A6=>by
  obtain⟨c,bs,e,kk⟩:=A6;subst b;subst e;subst c;obtain⟨l,vs,rfl,hl,r⟩:=sv.seq a.st;rw[r.Y2]at hl;exact⟨l,bs,rfl,AN.of hl,q _ _ F1 H1 a (.bl _) kk⟩⟩
def tyP:PV->String
 | .A5 => "NoneType"
 | .bl _ => "bool"
 | .int _ => "int"
 | .str _ => "str"
 | .lst _ => "list"
 | .tup _ => "tuple"
 | .Ce _ _ => "dict"
 |_ => ""
def JR:PV->Value
 | .obj _ _ _=>.none
 | .exc _ _ _=>.none
 | .con _ _=>.none
 |p=>.type (tyP p)
theorem Oa(h:PySem.W.kitOne K .none (.type n)=some b):False:=by
 unfold PySem.W.kitOne PySem.W.kitCls PySem.W.subIn at h;simp at h
theorem Rep.v8(s:A9 F H)(r:Rep F v p)(a:PySem.W.kitOne K (JR p) (.type n)=some b):Dt K H v (JR p):=by
 cases r with
 |A5=>exact .A5
 |bl b=>exact .bl b
 |int i=>exact .int i
 |str x=>exact .str x
 |lst h _=>exact .lst (s _ _ h)
 |tup h _=>exact .tup (s _ _ h)
 |Ce h _ _=>exact .dK (s _ _ h)
 |obj _ _ _ _=>exact(Oa a).elim
 |Kx _=>exact(Oa a).elim
 |con=>exact(Oa a).elim
 |exc _ _ _ _=>exact(Oa a).elim
theorem IA(h:Wp ss te λp=>∃b,PySem.W.kitOne K (JR p) (.type n)=some b/\k (.bl b)):Wp ss (CJ (NM K) (Ab te (Ab (tC (.ty n)) B0))) k:=⟨λE Z F H Q S q=>
 h.go E Z F H _ S λv p F1 H1 a r A6=>by obtain⟨b,c,kk⟩:=A6;exact⟨v,n,_,b,rfl,r.v8 a.st.fh c,c,q _ _ F1 H1 a (.bl _) kk⟩⟩
theorem md(h:Wq ss te λtp xs=>∃b,PySem.W.kitOne K (.type (tyP (tP tp xs))) (.type n)=some b/\k (.bl b)):Wp ss (CJ (NM K) (Ab te (Ab (tC (.ty n)) B0))) k:=⟨λE Z F H Q S q=>
 h.go E Z F H _ S λv tp xs F1 H1 a sv A6=>by
  obtain⟨b,c,kk⟩:=A6;obtain⟨l,vs,rfl,hl,r⟩:=sv.seq a.st;refine⟨_,n,_,b,rfl,?_,c,q _ _ F1 H1 a (.bl _) kk⟩;cases tp
  .exact .lst hl
  .exact .tup hl⟩
theorem nI(e:r=λxs H Q=>∃i j,xs=[.int i,.int j]/\Q (.int (if j > i then j else i)) H)(h:Wp ss ta λx=>∃i,x=.int i/\Wp ss tb λy=>∃j,y=.int j/\k (.int (if j > i then j else i))):Wp ss (CJ r (Ab ta (Ab tb B0))) k:=⟨λE Z F H Q S q=>
 h.go E Z F H _ S λv p F1 H1 a c A6=>by
  obtain⟨i,g,h2⟩:=A6;subst e;subst g;cases c.inv;exact h2.go E Z F1 H1 _ a.st λl p2 F2 H2 d b C3=>by
   obtain⟨j,f,kk⟩:=C3;subst f;cases b.inv;exact⟨i,j,rfl,q _ _ F2 H2 (a.trans d) (.int _) kk⟩⟩
theorem gA(e:r=λxs H Q=>∃i j,xs=[.int i,.int j]/\Q (.int (if j<i then j else i)) H)(h:Wp ss ta λx=>∃i,x=.int i/\Wp ss tb λy=>∃j,y=.int j/\k (.int (if j<i then j else i))):Wp ss (CJ r (Ab ta (Ab tb B0))) k:=⟨λE Z F H Q S q=>
 h.go E Z F H _ S λv p F1 H1 a c A6=>by
  obtain⟨i,g,h2⟩:=A6;subst e;subst g;cases c.inv;exact h2.go E Z F1 H1 _ a.st λl p2 F2 H2 d b C3=>by
   obtain⟨j,f,kk⟩:=C3;subst f;cases b.inv;exact⟨i,j,rfl,q _ _ F2 H2 (a.trans d) (.int _) kk⟩⟩
end
structure Src (E:Ent0) (F1:Hp) (J:It) (xs:List PV):Prop where
 go:∀(ss:List Slot)(Z:L2.St)(F H:Hp)(i:Nat),A9 F1 F->Sg E ss Z F H->i<xs.length->J.go i H
 stop:∀(ss:List Slot)(Z:L2.St)(F H:Hp),A9 F1 F->Sg E ss Z F H->J.stop xs.length H
 Dg:∀(ss:List Slot)(Z:L2.St)(F H:Hp)(i:Nat)(x:V)(H':Hp),A9 F1 F->Sg E ss Z F H->i<xs.length->J.Dg i H x H'->∃p F',xs[i]?=some p/\Mv E ss Z F H F' H'/\Rep F' x p
structure Wi [Xw] (ss:List Slot) (wi:TI) (k:List PV->Prop):Prop where
 go:∀(E:Ent)(Z:L2.St)(F H:Hp)(R:It->Hp->Prop),Sg E ss Z F H->(∀J xs F' H',Mv E ss Z F H F' H'->Src E F' J xs->k xs->R J H')->wi Z H R
structure Wg [Xw] (ss:List Slot) (g:TG) (p:PV) (k:List Slot->Prop):Prop where
 go:∀(E:Ent)(Z:L2.St)(F H:Hp)(v:V)(Q:L2.St->Hp->Prop),Sg E ss Z F H->Rep F v p->(∀AK σ',k AK->Sg E AK σ' F H->Q σ' H)->g v Z H Q
section
variable[Xw]
variable{K:ZAe}{k:PV->Prop}{R:Ah}
theorem ZK(h:∀(ss:List Slot)(Z:L2.St)(F H:Hp),A9 F' F->Sg E ss Z F H->H l=some (D6 tp vs))(r:AE F' vs xs):Src E F' (Ma K tp l vs) xs where
 go:=λss Z F H i s S hi=>⟨D6.sq (h ss Z F H s S),by rw[r.length];exact hi⟩
 stop:=λss Z F H s S=>⟨D6.sq (h ss Z F H s S),by rw[r.length];exact AZ _⟩
 Dg:=λss Z F H i x H' s S hi y=>by
  obtain⟨e,hx⟩:=y;subst e;obtain⟨p,b,a⟩:=r.get' hx;exact⟨p,F,b,.refl S,a.mono s⟩
theorem N9{k:List PV->Prop}(h:Wz ss te λ_ xs=>k xs):Wi ss (RT K te) k:=⟨λE Z F H R S q=>
 h.go E Z F H _ S λv tp xs F1 H1 a f kk=>by
  cases tp with
  |true=>
   have b:Rep F1 v (.tup xs):=f;cases b with
   |tup e r=>exact⟨true,_,_,rfl,Al.of (a.st.fh _ _ e),q _ _ F1 H1 a (ZK (tp:=true) (λss Z F H s S=>S.fh _ _ (s _ _ e)) r) kk⟩
  |false=>
   obtain⟨l,vs,rfl,h1,r⟩:=f;have hl:∀(ss:List Slot)(Z:L2.St)(F H:Hp),A9 F1 F->Sg E ss Z F H->H l=some (.lst vs):=λss Z F H s S=>by
    rcases h1 with h1|⟨hA,h1⟩
    .exact S.fh _ _ (s _ _ h1)
    .exact S.keep _ _ hA h1
   exact⟨false,l,vs,rfl,AN.of (hl ss Z F1 H1 (A9.refl _) a.st),q _ _ F1 H1 a (ZK (tp:=false) hl r) kk⟩⟩
def JD(n:Nat):List PV:=(List.range n).map λi:Nat=>PV.int (i:Int)
theorem KW(n:Nat):(JD n).length=n:=by simp[JD]
theorem Xl{n:Nat}(h:(JD n)[i]?=some p):i<n/\p=.int (i:Int):=by
 have hi:i<n:=by have:=(List.getElem?_eq_some_iff.mp h).1;rwa [KW]at this
 unfold JD at h;rw[B3,QN hi]at h;exact⟨hi,(B4 h).symm⟩
theorem mi{k:List PV->Prop}(h:Wp ss te λp=>∃j:Int,p=.int j/\j<=1000000/\-1000000<=j/\k (JD j.toNat)):Wi ss (VD (Ab te B0)) k:=⟨λE Z F H R S q=>
 h.go E Z F H _ S λv p F1 H1 a r A6=>by
  obtain⟨j,e,h1,h2,kk⟩:=A6;subst e;cases r.inv;refine⟨j,rfl,by omega,by omega,q _ (JD j.toNat) F1 H1 a ⟨λss Z F H i s S hi=>?_,λss Z F H s S=>?_,λss Z F H i x H' s S hi y=>?_⟩ kk⟩
  .rw[KW]at hi;exact hi
  .show _<=_;rw[KW];exact AZ _
  .obtain⟨e,hx⟩:=y;subst e;subst hx;rw[KW]at hi;refine⟨.int (i:Int),F,?_,.refl S,?_⟩
   .unfold JD;rw[B3,QN hi];rfl
   .rw[Int.zero_add];exact .int _⟩
theorem Nr{k:List Slot->Prop}(h:k (ss.set j (.is p))):Wg ss (D1 j) p k:=⟨λE Z F H v Q S r q=>q _ _ h (S.Ig r)⟩
theorem sX{k:List Slot->Prop}(h:∃a b,p=.tup [a,b]/\k ((ss.set i (.is a)).set j (.is b))):Wg ss (Md K 2 (KS (D1 i) (KS (D1 j) MG))) p k:=⟨λE Z F H v Q S r q=>by
 obtain⟨a,b,rfl,kk⟩:=h;obtain⟨_,_,rfl,e,r⟩:=r.inv;obtain⟨_,_,rfl,d,r⟩:=r.inv;obtain⟨_,_,rfl,c,r⟩:=r.inv;obtain rfl:=r.DC;exact⟨_,_,rfl,Al.of (S.fh _ _ e),rfl,_,_,rfl,_,_,rfl,rfl,q _ _ kk ((S.Ig d).Ig c)⟩⟩
theorem BF{t:TS}(h:Ws ss t (λAK=>Ws AK u nx R) R):Ws ss (Jn t u) nx R:=⟨λE D Z F H S c a=>
 h.go E { D with nx:=u D } Z F H S (λAK σ' F' H' w S' s=>w.go E D σ' F' H' S' (λDh σ2 F2 H2 b S2 s2=>c Dh σ2 F2 H2 b S2 (s.trans s2)) a) a⟩
theorem DY{t:TS}(h:Ws ss t nx R):Ws ss (R6 t) nx R:=⟨λE D Z F H S b a=>⟨D.nx,h.go E { D with nx:=D.nx } Z F H S b a,λ_ _ q=>q⟩⟩
theorem Ws.mono{t:TS}(h:Ws ss t nx R)(i:∀s,nx s->aU s):Ws ss t aU R:=⟨λE D Z F H S b a=>h.go E D Z F H S (λAK σ' F' H' n=>b AK σ' F' H' (i _ n)) a⟩
theorem FP{t:TS}(J:List Slot->Prop)(h:Ws ss t J R)(h2:∀AK,J AK->Ws AK u nx R):Ws ss (Jn t u) nx R:=BF (h.mono h2)
theorem JZ(h:Wp ss te λp=>nx (ss.set i (.is p))):Ws ss (EW te (D1 i)) nx R:=⟨λE D Z F H S b c=>
 h.go E Z F H _ S λv p F1 H1 a r kk=>b _ _ F1 H1 kk (a.st.Ig r) a.ff⟩
theorem gF(h:Wp ss te λp=>Wg ss g p nx):Ws ss (EW te g) nx R:=⟨λE D Z F H S b c=>
 h.go E Z F H _ S λv p F1 H1 a r kk=>kk.go E Z F1 H1 v _ a.st r λAK σ' n S'=>b _ _ F1 H1 n S' a.ff⟩
theorem De(h:Wn ss te λxs=>nx (ss.set i (.own xs))):Ws ss (EW te (D1 i)) nx R:=⟨λE D Z F H S d k=>
 h.go E Z F H _ S λl vs xs F1 H1 a f hl Ew r kk=>d _ _ F1 H1 kk (a.st.setG ⟨l,vs,rfl,f,S.Cy hl,Ew,r⟩ λg e j u _ c b=>by cases e;exact S.K3 c hl b) a.ff⟩
theorem BO(h:Wp ss te k):Ws ss (N2 te) nx (.is k):=⟨λE D Z F H S c b=>
 h.go E Z F H _ S λv p F1 H1 a r kk=>b v F1 H1 a.st.toFin ⟨p,r,kk⟩⟩
theorem ay{k:List PV->Prop}(h:Wn ss te k):Ws ss (N2 te) nx (.new k):=⟨λE D Z F H S d b=>
 h.go E Z F H _ S λl vs xs F1 H1 a c hl Ew r kk=>b _ F1 H1 a.st.toFin ⟨l,vs,xs,rfl,c,S.Cy hl,Ew,r,kk⟩⟩
theorem OA{k:List PV->Prop}(h:ss[i]?=some (.own xs))(kk:k xs):Ws ss (N2 (Br i)) nx (.new k):=⟨λE D Z F H S f a=>by
 obtain⟨l,vs,e,d,c,b,r⟩:=S.ok i _ h;exact⟨_,e,a _ F H S.toFin ⟨l,vs,xs,rfl,d,c,b,r,kk⟩⟩⟩
theorem Bx{c:TT}{t:TS}(h:Wt ss c λb=>if b=true then Ws ss t nx R else Ws ss u nx R):Ws ss (VV c t u) nx R:=⟨λE D Z F H S e d=>
 h.go E Z F H _ S λb F1 H1 a w=>by
  show if b=true then _ else _
  cases b with
  |true=>rw[i6 rfl]at w ⊢;exact w.go E D Z F1 H1 a.st (λDh σ2 F2 H2 n S2 s2=>e Dh σ2 F2 H2 n S2 (a.ff.trans s2)) d
  |false=>rw[hZ (by decide)]at w ⊢;exact w.go E D Z F1 H1 a.st (λDh σ2 F2 H2 n S2 s2=>e Dh σ2 F2 H2 n S2 (a.ff.trans s2)) d⟩
theorem BC(h:nx ss):Ws ss Q5 nx R:=⟨λE D Z F H S a b=>a ss Z F H h S (A9.refl _)⟩
theorem Sg.drop(S:Sg E ss Z F H)(i:Nat):Sg E (ss.set i .any) Z F H:=by
 have b:∀(j:Nat)u,(ss.set i .any)[j]?=some u->u=.any∨ss[j]?=some u:=λj u a=>by
  by_cases q:j=i
  .subst q;have g:j<ss.length:=by have:=(List.getElem?_eq_some_iff.mp a).1;simpa using this
   rw[ER g]at a;exact .inl (B4 a).symm
  .rw[E7 (BS q)]at a;exact .inr a
 refine⟨S.toFin,by rw[Hv];exact S.len,λj u a=>?_,λj k u w l e a f d c=>?_⟩
 .rcases b j u a with rfl|h
  .trivial
  .exact S.ok j u h
 .rcases b j u a with rfl|h
  .cases d
  .rcases b k w f with rfl|h2
   .cases c
   .exact S.EB j k u w l e h h2 d c
theorem bW(e:Z[i]?=some (some v)):Z.set i (some v)=Z:=by
 apply fB;intro j
 by_cases q:j=i
 .subst q;rw[ER (List.getElem?_eq_some_iff.mp e).1,e]
 .rw[E7 (BS q)]
theorem Sg.Lx(S:Sg E ss Z F H)(k:F a=none)(c:E.H0 a=none∨a∈E.B)(g:∀(i:Nat)s,ss[i]?=some s->¬ CD s Z[i]? a):Sg E ss Z F (upd H a o):=by
 have f:∀b u,b≠a->H b=some u->upd H a o b=some u:=λb u h e=>by rw[AJ h];exact e
 refine⟨⟨λb u e=>?_,S.f0,λb u d e=>?_,S.fresh,λb d=>?_,S.Ld,S.a0,S.bF,λb j=>?_,S.b0⟩,S.len,λi s hi=>?_,S.EB⟩
 .exact f b u (Ct e k) (S.fh b u e)
 .refine f b u ?_ (S.keep b u d e);rintro rfl;rcases c with c|c
  .rw[c]at e;cases e
  .exact d.2 c
 .refine BK.keep (S.Gs b d) λu e=>f b u ?_ e;rintro rfl;rcases c with c|c
  .exact S.a0 _ d c
  .exact(S.b0 _ c).2 d
 .by_cases q:b=a
  .subst q;rw[AY];simp
  .rw[AJ q];exact S.bH b j
 .by_cases np:s=.AQ
  .subst np;obtain⟨l,e,r,p,n⟩:=S.ok i _ hi;exact⟨l,e,r,p,BK.keep n λu h=>f l u (by rintro rfl;exact g i _ hi e) h⟩
  .exact Ok.go S hi (A9.refl _) (λb u m h=>f b u (by rintro rfl;exact g i _ hi m) h) (λ_ _ h=>h) np
theorem Sg.put(S:Sg E ss Z F H){ys:List PV}(hi:ss[i]?=some (.own xs))(e:Z[i]?=some (some (.ref l)))(f:F l=none)(d:E.H0 l=none)(r:AE F Dl ys):Sg E (ss.set i (.own ys)) Z F (upd H l (.lst Dl)):=by
 have a:∀(j:Nat)s,(ss.set i .any)[j]?=some s->¬ CD s Z[j]? l:=λj s b c=>by
  by_cases q:j=i
  .subst q;have p:j<ss.length:=(List.getElem?_eq_some_iff.mp hi).1;rw[ER p]at b;cases b;cases c
  .rw[E7 (BS q)]at b;exact S.EB j i s _ l q b hi c e
 have n:=(S.drop i).Lx (o:=.lst Dl) f (.inl d) a;have g:=n.setG (j:=i) (s:=.own ys) (v:=.ref l) ⟨l,Dl,rfl,f,d,AY,r⟩ λt m j u b k h=>by cases m;exact a j u k h
 rw[bW e,List.set_set]at g;exact g
theorem PJ(hi:ss[i]?=some (.own xs))(h:Wp ss te λp=>xs.length<=99999/\nx (ss.set i (.own (xs++[p])))):Ws ss (L9 (Iz K "list" Rx (Br i) (Ab te B0))) nx R:=⟨λE D Z F H S g m=>by
 obtain⟨l,vs,e,o,n,j,r⟩:=S.ok i _ hi;refine⟨_,e,.inl ⟨rfl,_,AN.of j⟩,h.go E Z F H _ S λv p F1 H1 a d⟨f,kk⟩=>?_⟩;obtain⟨k,Dl,c,EG,Bk,Ea,b⟩:=a.st.ok i _ hi;rw[e]at c;cases c;refine⟨l,Dl,v,rfl,rfl,Ea,LV (by rw[b.length];exact f),?_⟩;exact g _ Z F1 _ kk (a.st.put hi e EG Bk (b.append (.one d))) a.ff⟩
theorem Nx(hi:ss[i]?=some (.own xs))(h:Wp ss ta λa=>∃j:Int,a=.int j/\0<=j/\j<=xs.length/\Wp ss te λp=>xs.length<=99999/\nx (ss.set i (.own (xs.take j.toNat++p::xs.drop j.toNat)))):
  Ws ss (L9 (Iz K "list" WA (Br i) (Ab ta (Ab te B0)))) nx R:=⟨λE D Z F H S o w=>by
 obtain⟨l,vs,e,y,x,s,r⟩:=S.ok i _ hi;refine⟨_,e,.inl ⟨rfl,_,AN.of s⟩,h.go E Z F H _ S λt p1 F1 H1 d Km⟨j,q,m,k,h2⟩=>?_⟩;subst q;cases Km.inv;refine h2.go E Z F1 H1 _ d.st λv p F2 H2 c g⟨n,kk⟩=>?_;obtain⟨u,Dl,f,EG,Bk,Ea,b⟩:=c.st.ok i _ hi;rw[e]at f;cases f;refine⟨l,Dl,j,v,rfl,rfl,Ea,m,by rw[b.length];exact k,LV (by rw[b.length];exact n),?_⟩;exact o _ Z F2 _ kk (c.st.put hi e EG Bk ((b.take _).append (.cons g (b.drop _)))) (d.ff.trans c.ff)⟩
def KG(F H:Hp)(b:List Addr):Hp:=λa=>if a∈b then H a else F a
theorem Sg.lay(S:Sg E ss Z F H)(b:List Addr)(j:∀a∈b,F a=none/\E.H0 a=none/\H a≠none)(x:∀a∈b,∀(i:Nat)s,ss[i]?=some s->¬ CD s Z[i]? a):Sg E ss Z (KG F H b) H/\A9 F (KG F H b):=by
 have y:∀a,a∈b->KG F H b a=H a:=λa h=>i6 h;have k:∀a,a∉b->KG F H b a=F a:=λa h=>hZ h;have ff:A9 F (KG F H b):=λa o e=>by
  by_cases q:a∈b
  .rw[(j a q).1]at e;cases e
  .rw[k a q];exact e
 have g:∀a,a∉b->F a=none->KG F H b a=none:=λa q h=>by rw[k a q];exact h
 refine⟨⟨⟨λa o e=>?_,S.f0.trans ff,S.keep,λa o e=>?_,S.Gs,λa w=>?_,S.a0,λa u=>?_,S.bH,S.b0⟩,S.len,λi s hi=>?_,S.EB⟩,ff⟩
 .by_cases q:a∈b
  .rw[y a q]at e;exact e
  .rw[k a q]at e;exact S.fh a o e
 .by_cases q:a∈b
  .exact .inr (j a q).2.1
  .rw[k a q]at e;exact S.fresh a o e
 .exact g a (λq=>S.a0 a w (j a q).2.1) (S.Ld a w)
 .exact g a (λq=>(S.b0 a u).1 (j a q).2.1) (S.bF a u)
 .have n:∀a,CD s Z[i]? a->a∉b:=λa m q=>x a q i s hi m;have kk:=S.ok i s hi;cases s with
  |any=>trivial
  |is p=>obtain⟨v,e,r⟩:=kk;exact⟨v,e,r.mono ff⟩
  |own ys=>
   obtain⟨c,ws,q,f,d,l,r⟩:=kk;exact⟨c,ws,q,g c (n c q) f,d,l,r.mono ff⟩
  |AQ=>
   obtain⟨c,q,f,d,l⟩:=kk;exact⟨c,q,g c (n c q) f,d,l⟩
  |sq tp ys=>
   cases tp with
   |true=>obtain⟨v,e,r⟩:=kk;exact⟨v,e,r.mono ff⟩
   |false=>obtain⟨c,ws,q,f,d,r⟩:=kk;exact⟨c,ws,q,f,d,r.mono ff⟩
  |raw P=>obtain⟨v,e,r,st⟩:=kk;exact⟨v,e,st _ _ ff r,st⟩
  |ow lt t=>
   obtain⟨v,e,r,nd,q⟩:=kk;exact⟨v,e,r.mono ff λa _ o h=>h,nd,λa ha=>⟨g a (n a ha) (q a ha).1,(q a ha).2⟩⟩
theorem LD{t:TS}(i:Nat)(hi:ss[i]?=some (.own xs))(h:Ws (ss.set i (.is (.lst xs))) t nx R):Ws ss t nx R:=⟨λE D Z F H S k g=>by
 obtain⟨l,vs,e,u,o,f,r⟩:=S.ok i _ hi;have one:∀a,a∈[l]->a=l:=λa h=>by simpa using h
 obtain⟨S1,d⟩:=(S.drop i).lay [l] (λa h=>by rw[one a h,f];exact⟨u,o,by simp⟩) λa h j s b m=>by
  rw[one a h]at m
  by_cases q:j=i
  .subst q;rw[ER (List.getElem?_eq_some_iff.mp hi).1]at b;cases b;cases m
  .rw[E7 (BS q)]at b;exact S.EB j i s _ l q b hi m e
 have c:=S1.Ig (j:=i) (v:=.ref l) (p:=.lst xs) (.lst (by unfold KG;rw[i6 (by simp)];exact f) (r.mono d));rw[bW e,List.set_set]at c;exact h.go E D Z _ H c (λDh σ2 F2 H2 n c s2=>k Dh σ2 F2 H2 n c (d.trans s2)) g⟩
theorem NR{tb:TS}(I:List PV->Nat->List Slot->Prop)(h:Wi ss wi λxs=>I xs 0 ss/\(∀(i:Nat)p AK,xs[i]?=some p->I xs i AK->Wg AK g p λDh=>Ws Dh tb (I xs (i+1)) R)/\∀AK,I xs xs.length AK->nx AK):Ws ss (Tn wi g tb) nx R:=⟨λE D Z F H S z u=>
 h.go E Z F H _ S λJ xs F1 H1 k d A6=>by
  obtain⟨i0,t,hd⟩:=A6;refine⟨λi m σ' H'=>m=xs.length - i/\i<=xs.length/\∃AK F',I xs i AK/\Sg E AK σ' F' H'/\A9 F1 F',⟨_,rfl,DV _,ss,F1,i0,k.st,A9.refl _⟩,?_⟩;rintro i m σ' H'⟨rfl,hi,AK,F',l,S',s'⟩
  by_cases f:i<xs.length
  .refine .inr ⟨d.go AK σ' F' H' i s' S' f,λσ2 H2=>∃Dh F2,I xs (i+1) Dh/\Sg E Dh σ2 F2 H2/\A9 F1 F2,λσ2 H2 C3=>by obtain⟨Dh,F2,a,b,c⟩:=C3;exact⟨_,by omega,rfl,f,Dh,F2,a,b,c⟩,λx H3 y=>?_⟩;obtain⟨p,F3,v,j,r⟩:=d.Dg AK σ' F' H' i x H3 s' S' f y;refine(t i p AK v l).go E σ' F3 H3 x _ j.st r λo σ4 w S4=>?_;exact w.go E _ σ4 F3 H3 S4 (λn σ5 F5 H5 s S5 q=>⟨n,F5,s,S5,(s'.trans j.ff).trans q⟩) u
  .have e:i=xs.length:=by omega
   subst e;exact .inl ⟨d.stop AK σ' F' H' s' S',z AK σ' F' H' (hd AK l) S' (k.ff.trans s')⟩⟩
end
def BU(js:List Nat)(ss:List Slot):List Slot:=js.map λj=>(ss[j]?).getD .any
def Ml(js:List Nat)(ss:List Slot):Bool:=js.all λj=>match ss[j]? with
 |some .AQ=>false
 |_=>true
section
variable[Xw]
variable{K:ZAe}{js:List Nat}
theorem X6(h:js[i]?=some j)(e:(BU js ss)[i]?=some s):s=(ss[j]?).getD .any:=by
 unfold BU at e;rw[B3,h]at e;exact(B4 e).symm
theorem Sg.A8(S:Sg E ss Z F H)(nd:js.Nodup)(r:AE F vs ps):Sg E (BU js ss++ps.map .is) (Aq js Z++vs.map some) F H:=by
 have hl:(BU js ss).length=js.length:=by simp[BU]
 have d:(Aq js Z).length=js.length:=by simp[Aq]
 have h:∀(i:Nat)(hi:i<js.length),(BU js ss++ps.map .is)[i]?=some ((ss[js[i]]?).getD .any)/\(Aq js Z++vs.map some)[i]?=some ((Z[js[i]]?).join):=λi hi=>by
  rw[Fm (by rw[hl];exact hi),Fm (by rw[d];exact hi)];unfold BU Aq;rw[B3,B3,Aw hi];exact⟨rfl,rfl⟩
 have c:∀(i:Nat)s,js.length<=i->(BU js ss++ps.map .is)[i]?=some s->∃p v,s=.is p/\(Aq js Z++vs.map some)[i]?=some (some v)/\Rep F v p:=λi s hi e=>by
  rw[JK (by rw[hl];exact hi),hl,B3]at e;rw[JK (by rw[d];exact hi),d,B3];cases q:ps[i - js.length]? with
  |none=>rw[q]at e;cases e
  |some p=>
   rw[q]at e;obtain⟨v,g,f⟩:=r.get q;rw[g];exact⟨p,v,(B4 e).symm,rfl,f⟩
 have D:∀(s:Slot)(m:Nat)(l:Addr),CD s (some (Z[m]?).join) l->CD s Z[m]? l:=λs m l o=>by
  have n:∀l,some (Z[m]?).join=some (some (V.ref l))->Z[m]?=some (some (.ref l)):=λl e=>by
   cases q:Z[m]? with
   |none=>rw[q]at e;cases e
   |some o=>rw[q]at e;cases o with
    |none=>cases e
    |some v=>simpa using e
  cases s with
  |own xs=>exact n l o
  |AQ=>exact n l o
  |ow lt t=>exact o
  |_=>exact o
 have k:∀(i:Nat)s l,(BU js ss++ps.map .is)[i]?=some s->CD s (Aq js Z++vs.map some)[i]? l->∃hi:i<js.length,ss[js[i]]?=some s/\CD s Z[js[i]]? l:=λi s l e m=>by
  by_cases hi:i<js.length
  .rw[(h i hi).2]at m;refine⟨hi,?_,D s _ l m⟩;rw[(h i hi).1]at e;cases q:ss[js[i]]? with
   |none=>rw[q]at e;cases e;cases m
   |some u=>rw[q]at e;exact e
  .obtain⟨p,v,rfl,_⟩:=c i s (by omega) e;cases m
 refine⟨S.toFin,?_,λi s e=>?_,λi j s u l EF hi C B A=>?_⟩
 .rw[Cm,Cm,hl,d,AH,AH,r.length]
 .by_cases hi:i<js.length
  .obtain⟨a,b⟩:=h i hi;rw[a]at e;rw[b];cases q:ss[js[i]]? with
   |none=>rw[q]at e;cases e;trivial
   |some u=>
    rw[q]at e;have G:u=s:=B4 e;subst G;have kk:=S.ok _ _ q;cases u with
    |any=>trivial
    |is p=>obtain⟨v,e,r⟩:=kk;rw[e];exact⟨v,rfl,r⟩
    |own xs=>obtain⟨l,vs,e,r⟩:=kk;rw[e];exact⟨l,vs,rfl,r⟩
    |AQ=>obtain⟨l,e,r⟩:=kk;rw[e];exact⟨l,rfl,r⟩
    |sq tp xs=>
     cases tp with
     |true=>obtain⟨v,e,r⟩:=kk;rw[e];exact⟨v,rfl,r⟩
     |false=>obtain⟨l,vs,e,r⟩:=kk;rw[e];exact⟨l,vs,rfl,r⟩
    |raw P=>obtain⟨v,e,r⟩:=kk;rw[e];exact⟨v,rfl,r⟩
    |ow lt t=>obtain⟨v,e,r⟩:=kk;rw[e];exact⟨v,rfl,r⟩
  .obtain⟨p,v,rfl,g,f⟩:=c i s (by omega) e;rw[g];exact⟨v,rfl,f⟩
 .obtain⟨J,x,z⟩:=k i s l hi B;obtain⟨I,w,y⟩:=k j u l C A;refine S.EB js[i] js[j] s u l (λe=>EF ?_) x w z y;exact(zX nd).mp e
theorem Mv.out(S:Sg E ss Z F H)(np:Ml js ss=true)(m:Mv E (BU js ss++ps.map .is) τ F H F' H'):Mv E ss Z F H F' H':=by
 have nn:∀a,DR (BU js ss++ps.map .is) τ a:=λa i hi _=>by
  by_cases h:i<(BU js ss).length
  .rw[Fm h]at hi;have c:i<js.length:=by simpa[BU]using h
   have q:=X6 (Aw c) hi;have z:=List.all_eq_true.mp np js[i] (Gz c);cases w:ss[js[i]]? with
   |none=>rw[w]at q;cases q
   |some u=>rw[w]at q z;cases q;cases z
  .rw[JK (by omega),B3]at hi;cases w:ps[i - (BU js ss).length]? with
   |none=>rw[w]at hi;cases hi
   |some p=>rw[w]at hi;cases hi
 have b:∀a o,H a=some o->H' a=some o:=λa o e=>m.hh a o (nn a) e;exact S.step m.ff m.st.fh (λa o _ e=>b a o e) m.nn λi l hi e=>BK.keep (S.FC hi e) λo e=>b l o e
theorem Y3{tt:TT}(f:PV->Bool)(g:PV->PV)
  (h:Wi ss wi λxs=>xs.length<=100000/\(∀x∈xs,Wt (BU js ss++[.is x]) tt λb=>b=f x)/\(∀x∈xs,f x=true->Wp (BU js ss++[.is x]) te λp=>p=g x)/\k ((xs.filter f).map g))
  (nd:js.Nodup:=by decide) (np:Ml js ss=true:=by rfl):Wn ss (KO wi js tt te) k:=⟨λE Z F H Q S q=>
 h.go E Z F H _ S λJ xs F1 H1 d B⟨hz,T,U,kk⟩acc Am=>by
  have N:DR ss Z acc:=d.st.Jw Am;have K7:=d.st.Cy Am;have KC:∀(i:Nat)s,ss[i]?=some s->¬ CD s Z[i]? acc:=λi s hi=>d.st.K3 hi Am;refine⟨λi m H2=>m=xs.length - i/\i<=xs.length/\∃F2 vs,Mv E ss Z F1 H1 F2 H2/\F2 acc=none/\H2 acc=some (.lst vs)/\AE F2 vs (((xs.take i).filter f).map g),⟨_,rfl,DV _,F1,[],d.st.make Am _,d.st.CO Am,AY,.nil⟩,?_⟩;rintro i m H2⟨rfl,hi,F2,vs,c,I,ha,t⟩
  by_cases r:i<xs.length
  .refine .inr ⟨B.go ss Z F2 H2 i c.ff c.st r,λx H3 y=>?_⟩;obtain⟨p,F3,D,u,G⟩:=B.Dg ss Z F2 H2 i x H3 c.ff c.st r y;have L:p∈xs:=DJ D;have Gv:(xs.take (i+1))=xs.take i++[p]:=by
    have X:xs[i]=p:=by rw[Aw r]at D;exact B4 D
    rw[Lq r,X]
   have K:List.filter f (xs.take (i+1))=(xs.take i).filter f++(if f p=true then[p]else[]):=by
    rw[Gv,fD];congr 1
    by_cases j:f p=true <;> simp[j]
   have M:∀{F4:Hp},(∀a o,F4 a=some o->F2 a=some o∨H2 a=none)->F4 acc=none:=λ{F4}n=>by
    cases e:F4 acc with
    |none=>rfl
    |some o=>
     rcases n acc o e with w|w
     .rw[I]at w;cases w
     .rw[ha]at w;cases w
   have σ:=u.st.A8 (js:=js) nd (.one G);refine(T p L).go E _ F3 H3 _ σ λb F4 H4 C V=>?_;have l:=u.trans (C.out (ps:=[p]) u.st np);show if b=true then _ else _
   rw[V]
   by_cases j:f p=true
   .rw[i6 j];have Y:=l.st.A8 (js:=js) nd (.one (G.mono (C.out (ps:=[p]) u.st np).ff));refine(U p L j).go E _ F4 H4 _ Y λw pw F5 H5 P GY W=>?_;have R:=C.out (ps:=[p]) u.st np;have Jo:=P.out (ps:=[p]) l.st np;have z:=l.trans Jo;have Jy:=z.hh acc _ N ha;have O:=M z.nn;have v:vs.length<=99999:=by
     rw[t.length,AH];have:=fG f (xs.take i);rw[Em]at this;omega
    refine⟨vs,Jy,LV v,xs.length - (i+1),by omega,rfl,r,F5,vs++[w],?_,O,AY,?_⟩
    .have A:=c.trans z;refine⟨A.st.Lx O (.inl K7) KC,A.ff,λa o n e=>?_,A.nn⟩;rw[AJ (Ct e Am)];exact A.hh a o n e
    .rw[K,i6 j,En];rw[W]at GY;exact(t.mono z.ff).append (.one GY)
   .have Mb:f p=false:=by simpa using j
    rw[Mb,hZ (by decide)];refine⟨xs.length - (i+1),by omega,rfl,r,F4,vs,c.trans l,M l.nn,l.hh acc _ N ha,?_⟩;rw[K,hZ j,Hu];exact t.mono l.ff
  .have e:i=xs.length:=by omega
   subst e;refine .inl ⟨B.stop ss Z F2 H2 c.ff c.st,q acc vs _ F2 H2 (d.trans c) I (d.none Am) ha ?_ kk⟩;rw[JL]at t;exact t⟩
end
abbrev Pre:=List Slot->Ah->Prop
def An(pre:Pre):Sp:=λvs H Q _=>∃(ss:List Slot)(R:Ah)(F:Hp)(A:List Addr),pre ss R/\Sg (E3 A F H) ss (vs.map some) F H/\∀v F' H',Fin (E3 A F H) F' H'->R.ok (E3 A F H) F' H' v->Q v H'
section
variable[Xw]
variable{pre:Pre}{k:PV->Prop}
theorem Es.at{l:List Slot}(h:Es ss Z F H vs l):∀{i:Nat}{s:Slot},l[i]?=some s->∃v,vs[i]?=some v/\Av ss Z F H v s:=by
 induction h with
 |nil=>intro i s e;simp at e
 |cons a _ b=>
  intro i s e;cases i with
  |zero=>simp at e;subst e;exact⟨_,rfl,a⟩
  |succ i=>exact b (by simpa using e)
theorem Es.len{l:List Slot}(h:Es ss Z F H vs l):l.length=vs.length:=by
 induction h with
 |nil=>rfl
 |cons a _ b=>rw[B6,B6,b]
theorem Av.ok(S:Sg E ss Z F H)(a:Av ss Z F H v s)(b:∀l,DR ss Z l->l∉A):Ok (E3 A F H) F H s (some (some v))/\∀o l,¬ CD s o l:=by
 cases s with
 |is p=>exact⟨⟨v,rfl,a⟩,λ_ _ z=>z⟩
 |sq tp xs=>
  cases tp with
  |true=>exact⟨⟨v,rfl,a⟩,λ_ _ z=>z⟩
  |false=>obtain⟨l,vs,rfl,n,h,r⟩:=a;exact⟨⟨l,vs,rfl,⟨b l n,Bg⟩,h,r⟩,λ_ _ z=>z⟩
 |raw P=>exact⟨⟨v,rfl,a⟩,λ_ _ z=>z⟩
 |any=>exact a.elim
 |own xs=>exact a.elim
 |AQ=>exact a.elim
 |ow lt t=>exact a.elim
theorem Sg.Pk(S:Sg E ss Z F H){l:List Slot}(a:Es ss Z F H vs l):Sg (E3 [] F H) l (vs.map some) F H:=by
 have nn:∀{p:Prop}(a:Addr),a∈([]:List Addr)->p:=λa h=>absurd h Bg;refine⟨⟨S.fh,A9.refl _,λ_ _ _ e=>e,λ_ _ e=>.inl e,λa h=>nn a h,λa h=>nn a h,λa h=>nn a h,λa h=>nn a h,λa h=>nn a h,λa h=>nn a h⟩,by rw[AH];exact a.len,λi s hi=>?_,λi j s u l EF hi f c d=>?_⟩
 .obtain⟨v,b,q⟩:=a.at hi;rw[B3,b];exact(q.ok S λ_ _ h=>absurd h Bg).1
 .obtain⟨v,b,q⟩:=a.at hi;exact(q.ok S (A:=[]) λ_ _ h=>absurd h Bg).2 _ _ c
theorem Sg.Xy(S:Sg E ss Z F H){p:Addr}(hi:ss[i0]?=some .AQ)(e:Z[i0]?=some (some (.ref p))){l:List Slot}(a:Es ss Z F H vs l):Sg (E3 [p] F H) (.AQ::l) ((V.ref p::vs).map some) F H:=by
 obtain⟨w,g,fp,_,b⟩:=S.ok i0 _ hi;rw[e]at g;cases g;have f:∀l,DR ss Z l->l∉[p]:=λl n h=>by
  have:l=p:=by simpa using h
  subst this;exact n i0 hi e
 have one:∀a,a∈[p]->a=p:=λa h=>by simpa using h
 have nn:∀{p:Prop}(a:Addr),a∈([]:List Addr)->p:=λa h=>absurd h Bg;refine⟨⟨S.fh,A9.refl _,λ_ _ _ e=>e,λ_ _ e=>.inl e,λa h=>(one a h)▸b,λa h=>(one a h)▸fp,λa h=>?_,λa h=>nn a h,λa h=>nn a h,λa h=>nn a h⟩,by rw[AH,B6,B6];rw[a.len],λi s hi=>?_,λi j s u c EF hi t r k=>?_⟩
 .rw[one a h];obtain⟨_,_,q,_⟩:=b;show H p≠none;rw[q];simp
 .cases i with
  |zero=>simp at hi;subst hi;exact⟨p,rfl,fp,.inr (by simp),b⟩
  |succ i=>
   obtain⟨v,d,q⟩:=a.at (i:=i) (s:=s) (by simpa using hi)
   have:((V.ref p::vs).map some)[i+1]?=some (some v):=by rw[Cn,zV,B3,d];rfl
   rw[this];exact(q.ok S f).1
 .have z:∀(i:Nat)s o c,(Slot.AQ::l)[i]?=some s->CD s o c->i=0:=λi s o c h m=>by
   cases i with
   |zero=>rfl
   |succ i=>
    obtain⟨v,d,q⟩:=a.at (i:=i) (s:=s) (by simpa using h)
    exact((q.ok S f).2 _ _ m).elim
  exact absurd ((z i s _ _ hi r).trans (z j u _ _ t k).symm) EF
theorem Sg.back(S:Sg E ss Z F H)(d:∀a,a∈A->∃i:Nat,ss[i]?=some .AQ/\Z[i]?=some (some (.ref a)))(f:Fin (E3 A F H) F' H'):Mv E ss Z F H F' H':=by
 refine S.step f.f0 f.fh (λa o n e=>f.keep a o ⟨λh=>?_,Bg⟩ e) f.fresh λi l hi e=>?_
 .obtain⟨i,c,b⟩:=d a h;exact n i c b
 .by_cases q:l∈A
  .exact f.Gs l q
  .exact BK.keep (S.FC hi e) λo e=>f.keep l o ⟨q,Bg⟩ e
theorem wp_call(h:Wa ss t λl=>∃b,pre l (.is b)/\∀p,b p->k p):Wp ss (EE (An pre) [] E0 t) k:=⟨λE Z F H Q S q=>
 h.go E Z F H _ S λvs l F1 H1 c a⟨b,d,kk⟩=>by
  rw[Hu];refine⟨l,.is b,F1,[],d,c.st.Pk a,λv F' H' f⟨p,r,kp⟩=>?_⟩;exact q v p F' H' (c.trans (c.st.back (λ_ h=>absurd h Bg) f)) r (kk p kp)⟩
theorem YG{k:List PV->Prop}(h:Wa ss t λl=>∃c,pre l (.new c)/\∀xs,c xs->k xs):Wn ss (EE (An pre) [] E0 t) k:=⟨λE Z F H Q S q=>
 h.go E Z F H _ S λvs l F1 H1 b a⟨c,g,kk⟩=>by
  rw[Hu];refine⟨l,.new c,F1,[],g,b.st.Pk a,λv F' H' f⟨l,vs,xs,e,i,hl,BM,r,d⟩=>?_⟩;subst e;exact q l vs xs F' H' (b.trans (b.st.back (λ_ h=>absurd h Bg) f)) i (b.none hl) BM r (kk xs d)⟩
theorem PZ(hi:ss[i]?=some .AQ)(h:Wa ss t λl=>∃b,pre (.AQ::l) (.is b)/\∀p,b p->k p):Wp ss (EE (An pre) [] E0 (Ab (Br i) t)) k:=⟨λE Z F H Q S q=>by
 obtain⟨p,e,_⟩:=S.ok i _ hi;refine⟨_,e,h.go E Z F H _ S λvs l F1 H1 c a⟨b,d,kk⟩=>?_⟩;show An pre ((V.ref p::vs)++[]) H1 Q E0;rw[Hu];refine⟨.AQ::l,.is b,F1,[p],d,c.st.Xy hi e a,λv F' H' f⟨pv,r,kp⟩=>?_⟩;exact q v pv F' H' (c.trans (c.st.back (A:=[p]) (λa h=>⟨i,hi,(show a=p from by simpa using h)▸e⟩) f)) r (kk pv kp)⟩
theorem vm{k:List PV->Prop}(hi:ss[i]?=some .AQ)(h:Wa ss t λl=>∃c,pre (.AQ::l) (.new c)/\∀xs,c xs->k xs):Wn ss (EE (An pre) [] E0 (Ab (Br i) t)) k:=⟨λE Z F H Q S q=>by
 obtain⟨p,e,_⟩:=S.ok i _ hi;refine⟨_,e,h.go E Z F H _ S λvs l F1 H1 b a⟨c,g,kk⟩=>?_⟩;show An pre ((V.ref p::vs)++[]) H1 Q E0;rw[Hu];refine⟨.AQ::l,.new c,F1,[p],g,b.st.Xy hi e a,λv F' H' f⟨l,vs,xs,m,j,hl,BM,r,d⟩=>?_⟩;subst m;exact q l vs xs F' H' (b.trans (b.st.back (A:=[p]) (λa h=>⟨i,hi,(show a=p from by simpa using h)▸e⟩) f)) j (b.none hl) BM r (kk xs d)⟩
theorem Sg.grown(S:Sg E ss Z F H)(n:Nat):Sg E (ss++List.replicate n .any) (Z++List.replicate n none) F H:=by
 have k:∀(i:Nat)s,(ss++List.replicate n .any)[i]?=some s->s≠.any->ss[i]?=some s/\(Z++List.replicate n none)[i]?=Z[i]?:=λi s e o=>by
  by_cases h:i<ss.length
  .rw[Fm h]at e;rw[Fm (by rw[<- S.len];exact h)];exact⟨e,rfl⟩
  .rw[JK (by omega),fF]at e;split at e
   .exact absurd (B4 e).symm o
   .cases e
 refine⟨S.toFin,by simp[S.len],λi s e=>?_,λi j s u l EF hi p g f=>?_⟩
 .cases s with
  |any=>trivial
  |_=>obtain⟨a,b⟩:=k i _ e (by simp);rw[b];exact S.ok i _ a
 .have ns:s≠.any:=by rintro rfl;cases g
  have m:u≠.any:=by rintro rfl;cases f
  obtain⟨a,b⟩:=k i s hi ns;obtain⟨c,d⟩:=k j u p m;rw[b]at g;rw[d]at f;exact S.EB i j s u l EF a c g f
end
section
variable{pre:Pre}{k:PV->Prop}
def cA(E:Ent0):Ent:=⟨E,λ_ _ _ _ _ _ _ _ _ d=>d.elim⟩
theorem Cw{N:List Str}{n:Nat}{t:TS}(h:An pre vs H Q X)(hl:∀ss R,pre ss R->ss.length=n)
  (hw:∀ss R,pre ss R->Ws (ss++List.replicate (N.length - n) .any) t (λ_=>∃k,R=.is k/\k .A5) R):t { nx:=λ_ H'=>Q .A5 H',rt:=Q } (L2.start N vs) H:=by
 obtain⟨ss,R,F,A,a,S,q⟩:=h;have e:vs.length=n:=by have:=S.len;rw[AH]at this;rw[<- this];exact hl ss R a
 unfold L2.start;rw[e];refine(hw ss R a).go (cA (E3 A F H)) _ _ F H (S.grown _) (λAK σ' F' H'⟨k,e,b⟩S' _=>?_) λv F' H' f ok=>q v F' H' f ok;subst e;exact q .A5 F' H' S'.toFin ⟨.A5,.A5,b⟩
theorem Cv{n:Nat}(hl:∀ss R,pre ss R->ss.length=n)(h:An pre vs H Q X):vs.length=n:=by
 obtain⟨ss,R,F,A,a,S,q⟩:=h;have:=S.len;rw[AH]at this;rw[<- this];exact hl ss R a
end
end Fz
namespace L2
section
variable{X:Cx}
def Z5(K:ZAe):R2:=λx y H Q=>∃p q xs,x=.ref p/\y=.ref q/\AN K H p xs/\AN K H q []/\Q (.bl (!decide (xs=[]))) H
theorem kE(a:X.A.units<cLine):Ar X (compareOp .NotEq) (Z5 X.K):=by
 intro Zd s Z H x y v u Q I e d h;obtain⟨p,q,xs,rfl,rfl,ha,b,c⟩:=h;cases e;cases d;obtain⟨A2,g,p1,k⟩:=I.list ha;obtain⟨B5,f,p2,j⟩:=I.list b;have l1:=g.length;have l2:=f.length;cases xs with
 |nil=>exact Vj a Zd s Z H _ _ _ _ Q I (show RelV (.ref p) (.ref p)from rfl) (show RelV (.ref q) (.ref q)from rfl) ⟨p,q,[],[],rfl,rfl,.inl ⟨ha,b⟩,rfl,rfl,c⟩
 |cons y ys=>
  have i:(A2.toArray.size != B5.toArray.size)=true:=by simp only[Bh,<- l1,<- l2];simp
  exact ZA1 p1.isList p2.isList i a _ _ _ _ ⟨.bl true,H,I,rfl,c⟩
end
end L2
namespace Lw
open L2
variable{l lb lp lr t t':Addr}{H H':Hp}{vs ws:List V}{ns rs ss:List Str}{r:Str}{g:Int}
inductive Tr (lr lb:Addr) (H:Hp):List V->List V->Addr->List Str->Prop where
 |Zk {l:Addr}{rs:List Str}:l≠lr->l≠lb->H l=some (.lst (rs.map V.str))->Tr lr lb H [.ref l] [] l rs
 |snoc {vs bs:List V}{l:Addr}{rs:List Str}{l':Addr}{Mh:List Str}{t:Addr}{d:Dw}:Tr lr lb H vs bs l rs->l'≠lr->l'≠lb->t≠lr->t≠lb->H l'=some (.lst (Mh.map V.str))->H t=some (.tup d.vals)->
   d.Ok 40 Mh->Mh.length<=40->d.done Mh=rs->Tr lr lb H (vs++[.ref l']) (bs++[.ref t]) l' Mh
theorem Tr.mono(k:∀b o,b≠lr->b≠lb->H b=some o->H' b=some o){bs:List V}(h:Tr lr lb H vs bs l rs):Tr lr lb H' vs bs l rs:=by
 induction h with
 |Zk a b c=>exact .Zk a b (k _ _ a b c)
 |snoc _ a b c d e f g i j m=>exact .snoc m a b c d (k _ _ a b e) (k _ _ c d f) g i j
theorem Tr.len{bs:List V}(h:Tr lr lb H vs bs l rs):vs.length=bs.length+1:=by
 induction h with
 |Zk a b c=>rfl
 |snoc _ a b c d e f g i j k=>simp[k]
theorem Xr:∀l:List Nat,¬ l<l
 | [],h=>by simp at h
 |a::r,h=>by
  rw[List.cons_lt_cons_iff]at h;rcases h with h|⟨_,h⟩
  .omega
  .exact Xr r h
abbrev T1(a b:Str):Prop:=a.cps.toList<b.cps.toList
abbrev Up(ss:List Str):Prop:=ss.Pairwise T1
theorem wL(h:Up ss):ss.Nodup:=by
 refine zP (λ{a b}(E6:T1 a b)(e:a=b)=>?_) h;subst e;exact Xr _ E6
theorem d6:∀{b bs:List Str},b.Nodup->(∀x∈b,x∈bs)->b.length<=bs.length
 | [],_,_,_=>DV _
 |a::b,bs,nd,h=>by
  obtain⟨h1,h2⟩:=List.nodup_cons.mp nd;have ha:=h a FH;have q:=d6 (bs:=bs.erase a) h2 λx hx=>(za (λe:x=a=>h1 (by rw[<- e];exact hx))).mpr (h x (By _ hx));have e:=zY ha;have p:=zZ ha;simp only[B6];omega
def cy:List Str:=["none","ahead","all"]
def Zt(ss:List Str):Bool:=decide (Up ss)
def X5(ns ss:List Str):Bool:=ss.all λx=>decide (x∈ns)
def XB(n:Nat)(g:Int):Bool:=decide (0<=g) && decide (g<=(n:Int))
def WC(ns:List Str)(r:Str)(g:Int)(ss:List Str):Bool:=decide (r∈cy) && (XB ns.length g && (Zt ss && X5 ns ss))
def LoopAt(K:ZAe)(H:Hp)(t:Addr)(r:Str)(g:Int)(ss:List Str):Prop:=∃c,Al K H t [.str r,.int g,.ref c]/\Al K H c (ss.map V.str)
theorem LoopAt.same{K:ZAe}(s:A9 H H')(h:LoopAt K H t r g ss):LoopAt K H' t r g ss:=by
 obtain⟨c,h1,h2⟩:=h;exact⟨c,s.LN h1,s.LN h2⟩
def Xb(ss:List Str)(x:Str):Bool:=decide (x∈ss)
def P6(ns:List Str)(g:Nat)(ss:List Str):List Str:=(ns.drop g).filter (Xb ss)++(ns.take g).filter (Xb ss)
def HU(H:Hp)(t:Addr)(r:Str)(g:Int)(ss:List Str):Prop:=∃c,H t=some (.tup [.str r,.int g,.ref c])/\H c=some (.tup (ss.map V.str))
theorem HU.same(s:A9 H H')(h:HU H t r g ss):HU H' t r g ss:=by
 obtain⟨c,a,b⟩:=h;exact⟨c,s _ _ a,s _ _ b⟩
structure K2 (ns:List Str) (r:Str) (g:Int) (ss:List Str):Prop where
 rule:r∈cy
 g0:0<=g
 g1:g<=(ns.length:Int)
 up:Up ss
 sub:∀x∈ss,x∈ns
theorem K2.WC(h:K2 ns r g ss):WC ns r g ss=true:=by
 unfold Lw.WC XB Zt X5;rw[gS h.rule,gS h.g0,gS h.g1,gS h.up,El,El,El,El,JH];intro x hx;exact gS (h.sub x hx)
def Sd(ns:List Str)(g:Nat)(ss:List Str):Option Str:=(P6 ns g ss).head?
def vW(ns:List Str)(g:Nat)(ss:List Str):Nat:=match Sd ns g ss with
 |none=>g
 |some x=>ns.idxOf x+1
def kN(ns:List Str)(g:Nat)(ss:List Str):List Str:=match Sd ns g ss with
 |none=>ss
 |some x=>wo ss x
def nt:Option Str->V
 |none=>.A5
 |some x=>.str x
def Ts(H:Hp)(t':Addr)(ns:List Str)(r:Str)(g:Nat)(ss:List Str):Prop:=∃td,H t'=some (.tup [nt (Sd ns g ss),.ref td])/\HU H td r (vW ns g ss:Nat) (kN ns g ss)
theorem Ts.same{g:Nat}(s:A9 H H')(h:Ts H t' ns r g ss):Ts H' t' ns r g ss:=by
 obtain⟨td,a,b⟩:=h;exact⟨td,s _ _ a,b.same s⟩
structure Ent where
 a:Addr
 ns:List Str
 t:Addr
 r:Str
 g:Nat
 ss:List Str
structure Ent.Ok (H:Hp) (lr lp:Addr) (e:Ent):Prop where
 ar:e.a≠lr
 ap:e.a≠lp
 ha:H e.a=some (.lst (e.ns.map V.str))
 hl:HU H e.t e.r e.g e.ss
 good:K2 e.ns e.r e.g e.ss
 len:e.ns.length<=40
theorem HU.mono(h:HU H t r g ss)(d:H lr=some (.lst vs))(f:H lp=some (.lst ws))(k:∀b o,b≠lr->b≠lp->H b=some o->H' b=some o):HU H' t r g ss:=by
 obtain⟨c,a,b⟩:=h;have ne:∀{x y:Addr}{us vs:List V},H x=some (.tup us)->H y=some (.lst vs)->x≠y:=λh1 h2 e=>by subst e;rw[h1]at h2;cases h2
 exact⟨c,k _ _ (ne a d) (ne a f) a,k _ _ (ne b d) (ne b f) b⟩
theorem Ent.Ok.mono{e:Ent}(h:e.Ok H lr lp)(a:H lr=some (.lst vs))(c:H lp=some (.lst ws))(k:∀b o,b≠lr->b≠lp->H b=some o->H' b=some o):e.Ok H' lr lp:=
 ⟨h.ar,h.ap,k _ _ h.ar h.ap h.ha,h.hl.mono a c k,h.good,h.len⟩
theorem Ent.Ok.same{e:Ent}(h:e.Ok H lr lp)(s:A9 H H'):e.Ok H' lr lp:=⟨h.ar,h.ap,s _ _ h.ha,h.hl.same s,h.good,h.len⟩
end Lw
namespace Lw
open L2
variable{ns ss:List Str}{r x:Str}
def ZJ(i g:Nat):Nat:=if i<g then g+1 else g
def bS(p g:Nat):Nat:=if p<g then g - 1 else g
def Dw.gap(ns:List Str)(g:Nat):Dw->Nat
 | .put _ i=>ZJ i g
 | .take x=>bS (ns.idxOf x) g
 | .move x i=>ZJ i (bS (ns.idxOf x) g)
 | .turn _ _=>g
def XI:List Str->Str->List Str
 | [],x=>[x]
 |y::r,x=>if T1 x y then x::y::r else y::XI r x
def O9(r:Str)(g i:Nat):Bool:=if decide (V.str r=V.str "all")=true then true else if decide (V.str r=V.str "ahead")=true then decide ((g:Int)<=(i:Int))else false
def Dw.Oq(r:Str)(g:Nat)(ss:List Str):Dw->List Str
 | .put x i=>if O9 r g i=true then XI ss x else ss
 | .take x=>wo ss x
 | .move _ _=>ss
 | .turn _ _=>ss
theorem K2.len{g:Int}(h:K2 ns r g ss):ss.length<=ns.length:=d6 (wL h.up) h.sub
theorem Zv{g:Nat}{i:Nat}(h:O9 r g i=false):Dw.Oq r g ss (.put x i)=ss:=by show(if _ then _ else _)=_;rw[hZ (by rw[h];decide)]
end Lw
namespace L2
section
variable{X:Cx}{Zd:ZAf}{Z:St}{H2:Hp}{s2:Shared}{elt iter:Expr}{x z:Str}{px pz tp pos:Pos}{tk:Nat}{scope:Scope}{A8:List Str}{js:List Nat}{te:TE}{J:It}{fp:List Addr}{it:Addr}
 {tn:Nat->Heap->Prop}
end
end L2
namespace Fz
open L2 Lw
variable{E:Ent0}{ss:List Slot}{Z:L2.St}{F F' H H':Hp}{js:List Nat}{ta tb te:TE}{k:List PV->Prop}{nx:List Slot->Prop}{R:Ah}{i:Nat}{ns:List Int}{wi:TI}{α:Type}
section
variable[Xw]
variable{K:ZAe}{k:PV->Prop}
theorem Sg.RO(S:Sg E ss Z F H){p:Addr}(hi:ss[i]?=some .AQ)(e:Z[i]?=some (some (.ref p)))(s:BI p H H'):Mv E ss Z F H F H':=by
 obtain⟨g,b,fp,_,f⟩:=S.ok i _ hi;rw[e]at b;cases b;refine S.step (A9.refl _) (λa o q=>s.same a o (Ct q fp) (S.fh a o q)) (λa o n q=>s.same a o (λz=>?_) q) (λa o q=>.inl q) λj l c d=>?_
 .rw[z]at n;exact n i hi e
 .by_cases z:l=p
  .rw[z];exact s.AQ
  .exact BK.keep (S.FC c d) λo q=>s.same l o z q
theorem qA{sp:Sp}{k:List PV->Prop}(D9:sp=SA)(hi:ss[i]?=some .AQ)(h:Wp ss te λx=>∃m,x=.int m/\1<=m/\m<=100/\∀ns:List Str,(ns.length:Int)<=m->(∀x∈ns,Nm x)->ns.Nodup->k (ns.map PV.str)):Wn ss (EE sp [] E0 (Ab (Br i) (Ab te B0))) k:=⟨λE Z F H Q S q=>by
 subst D9;obtain⟨p,e,_⟩:=S.ok i _ hi;refine⟨_,e,h.go E Z F H _ S λv x F1 H1 a r⟨m,g,c,NB,kk⟩=>?_⟩;subst g;cases r.inv;refine⟨p,m,rfl,a.st.FC hi e,c,NB,λl H2 ns hl s C9 d f nd=>?_⟩;have b:=a.st.RO hi e s;exact q l _ _ F1 H2 (a.trans b) (a.st.CO hl) (a.none hl) C9 (Te ns) (kk ns d f nd)⟩
def IJ(K:ZAe)(ns:List Int):Hp->V->Prop:=λF v=>∃a,v=.ref a/\AN K F a (ns.map V.int)
theorem SH(K:ZAe)(ns:List Int):∀(v:V)(F F':Hp),A9 F F'->IJ K ns F v->IJ K ns F' v:=λv F F' s A6=>by obtain⟨a,e,h⟩:=A6;exact⟨a,e,by
 rcases h with(h|⟨o,h⟩)|h
 .exact .inl (.inl (s _ _ h))
 .exact .inl (.inr ⟨o,s _ _ h⟩)
 .exact .inr h⟩
theorem nQ(hi:ss[i]?=some (.raw (IJ K ns)))(h:k (.int ns.length)):Wp ss (CJ (OY K) (Ab (Br i) B0)) k:=⟨λE Z F H Q S q=>by
 obtain⟨v,e,⟨a,c,b⟩,st⟩:=S.ok i _ hi;subst c;obtain⟨d,ea,R8⟩:=SH K ns _ F H S.fh ⟨a,rfl,b⟩;cases ea;refine⟨_,e,a,_,rfl,.inl R8,?_⟩;rw[AH];exact q _ _ F H (.refl S) (.int _) h⟩
theorem jG{j:Nat}(hi:ss[i]?=some (.raw (IJ K ns)))(h:Wp ss te λx=>∃m,x=.int m/\0<=m/\m<=1000/\nx (ss.set j .AQ)):Ws ss (EW (EE (Uj K) [] E0 (Ab (Br i) (Ab te B0))) (D1 j)) nx R:=⟨λE D Z F H S t A=>by
 obtain⟨v,e,⟨a,w,B⟩,st⟩:=S.ok i _ hi;subst w;refine⟨_,e,h.go E Z F H _ S λv x F1 H1 c r⟨m,y,o,NB,kk⟩=>?_⟩;subst y;cases r.inv;obtain⟨z,f,KJ,_⟩:=c.st.ok i _ hi;rw[e]at f;cases f;obtain⟨C,ea,R8⟩:=SH K ns _ F1 H1 c.st.fh KJ;cases ea;refine⟨a,ns,m,rfl,R8,o,NB,λp H2 d s g=>?_⟩;have n:=c.st.grow s;exact t _ _ F1 H2 kk (n.st.setG ⟨p,rfl,c.st.CO d,.inl (c.st.Cy d),g⟩ λl e b u _ q k=>by cases e;exact c.st.K3 q d k) c.ff⟩
end
section
variable{K:ZAe}
theorem jP{N:List Str}{vs:List V}{Q:VK}{X:XK}{t:TS}(h:N1 K vs H Q X)(hw:∀ns:List Int,ns.length<=63->Ws (.raw (IJ K ns)::List.replicate (N.length - 1) .any) t (λ_=>False) (.is λp=>p=.bl true)):t { nx:=λ_ H'=>Q .A5 H',rt:=Q } (L2.start N vs) H:=by
 obtain⟨a,ns,rfl,c,ZL,q⟩:=h;have S:Sg (E3 [] H H) [.raw (IJ K ns)] [some (.ref a)] H H:=by
  have nn:∀{p:Prop}(a:Addr),a∈([]:List Addr)->p:=λa h=>absurd h Bg;refine⟨⟨A9.refl _,A9.refl _,λ_ _ _ e=>e,λ_ _ e=>.inl e,λa h=>nn a h,λa h=>nn a h,λa h=>nn a h,λa h=>nn a h,λa h=>nn a h,λa h=>nn a h⟩,rfl,λi s hi=>?_,λi j s u l EF hi d b=>?_⟩
  .cases i with
   |zero=>cases hi;exact⟨_,rfl,⟨a,rfl,c⟩,SH K ns _⟩
   |succ i=>simp at hi
  .cases i with
   |zero=>cases hi;cases b
   |succ i=>simp at hi
 refine(hw ns ZL).go (cA (E3 [] H H)) _ _ H H (S.grown _) (λ_ _ _ _ h=>h.elim) λv F' H' f ok=>?_;obtain⟨p,r,rfl⟩:=ok;cases r.inv;exact q H'
end
section
variable[Xw]
variable{K:ZAe}{k:PV->Prop}
theorem Wi.mono{k a:List PV->Prop}(h:Wi ss wi k)(i:∀xs,k xs->a xs):Wi ss wi a:=⟨λE Z F H R S q=>h.go E Z F H R S λJ xs F' H' m s kk=>q J xs F' H' m s (i xs kk)⟩
theorem Wt.mono{t:TT}{k a:Bool->Prop}(h:Wt ss t k)(i:∀b,k b->a b):Wt ss t a:=⟨λE Z F H Q S q=>h.go E Z F H Q S λb F' H' m kk=>q b F' H' m (i b kk)⟩
theorem IM{tt:TT}{k:List PV->Prop}(c:α->PV)(f:α->Bool)(g:α->PV)
  (h:Wi ss wi λxs=>∃ns:List α,xs=ns.map c/\ns.length<=100000/\(∀x∈ns,Wt (BU js ss++[.is (c x)]) tt λb=>b=f x)/\(∀x∈ns,f x=true->Wp (BU js ss++[.is (c x)]) te λp=>p=g x)/\k ((ns.filter f).map g))
  (inj:∀x y,c x=c y->x=y) (nd:js.Nodup:=by decide) (np:Ml js ss=true:=by rfl):Wn ss (KO wi js tt te) k:=by
 by_cases hα:Nonempty α
 .obtain⟨x0⟩:=hα;have inv:∀p:PV,∃x:α,∀y,c y=p->y=x:=λp=>by
   by_cases q:∃y,c y=p
   .obtain⟨y,a⟩:=q;exact⟨y,λz i=>inj _ _ (i.trans a.symm)⟩
   .exact⟨x0,λy a=>absurd ⟨y,a⟩ q⟩
  let d:PV->α:=λp=>Classical.choose (inv p)
  have hd:∀x,d (c x)=x:=λx=>(Classical.choose_spec (inv (c x)) x rfl).symm;refine Y3 (λp=>f (d p)) (λp=>g (d p)) (h.mono λxs⟨ns,e,i,h1,h2,kk⟩=>?_) nd np;subst e;refine⟨by rw[AH];exact i,λx hx=>?_,λx hx j=>?_,?_⟩
  .obtain⟨y,a,rfl⟩:=List.mem_map.mp hx;rw[hd];exact h1 y a
  .obtain⟨y,a,rfl⟩:=List.mem_map.mp hx;rw[hd]at j ⊢;exact h2 y a j
  .have e:((ns.map c).filter λp=>f (d p)).map (λp=>g (d p))=(ns.filter f).map g:=by
    rw[List.filter_map,CL]
    congr 1
    .funext x;show g (d (c x))=g x;rw[hd]
    .congr 1;funext x;show f (d (c x))=f x;rw[hd]
   rw[e];exact kk
 .refine Y3 (λ_=>true) (λp=>p) (h.mono λxs⟨ns,e,i,h1,h2,kk⟩=>?_) nd np;have l:ns=[]:=by
   cases ns with
   |nil=>rfl
   |cons x r=>exact absurd ⟨x⟩ hα
  subst l;subst e;exact⟨by simp,λx hx=>absurd hx (by simp),λx hx=>absurd hx (by simp),kk⟩
theorem str_inj:∀x y:Str,PV.str x=PV.str y->x=y:=λ_ _ e=>by injection e
theorem uI(h:Wp ss ta λp=>∃x,p=.str x/\Wq ss tb λ_ ys=>∃ns:List Str,ys=ns.map PV.str/\k (.bl (decide (x∈ns)))):Wp ss (BQ (Q9 K false) ta tb) k:=uj h
theorem Wq.mono{k a:Bool->List PV->Prop}(h:Wq ss te k)(i:∀b xs,k b xs->a b xs):Wq ss te a:=⟨λE Z F H Q S q=>h.go E Z F H Q S λv tp xs F' H' m s kk=>q v tp xs F' H' m s (i tp xs kk)⟩
theorem Wo.mono{t:TO}{k a:Option Int->Prop}(h:Wo ss t k)(i:∀o,k o->a o):Wo ss t a:=⟨λE Z F H Q S q=>h.go E Z F H Q S λo F' H' m kk=>q o F' H' m (i o kk)⟩
theorem KQ{β:Type}(c:α->β)(xs:List α)(lo hi:Option Int):Eb (xs.map c) lo hi=(Eb xs lo hi).map c:=by
 unfold Eb;rw[AH,NZ,NY]
theorem Zx(xs:List α)(g:Nat):Eb xs none (some (g:Int))=xs.take g:=by
 unfold Eb;rw[HT.e6,HT.Zy,Wj,fS];rcases QY g xs.length with h|h
 .rw[QZ h]
 .rw[Qa h,JL,Kf h]
theorem OQ(xs:List α)(g:Nat):Eb xs (some (g:Int)) none=xs.drop g:=by
 unfold Eb;rw[HT.e6,HT.Zy];rcases QY g xs.length with h|h
 .rw[QZ h,Kf (by rw[Kd];omega)]
 .rw[Qa h,zT,List.drop_of_length_le h];simp
theorem gW(g:α->Bool)(xs:List α):xs.map (λx=>PV.bl (g x))=(xs.map g).map PV.bl:=by rw[CL];rfl
variable{xs ys:List PV}
def c6(a:Str×Str):PV:=.tup [.str a.1,.str a.2]
theorem qg{r:List V->Hp->VK->Prop}(c:r=λxs H Q=>(∃i,xs=[.int i]/\Q (.int i) H)∨∃k,xs=[.bl k]/\Q (.int (if k then 1 else 0)) H)(h:Wp ss te λp=>∃b,p=.bl b/\k (.int (if b then 1 else 0))):Wp ss (CJ r (Ab te B0)) k:=⟨λE Z F H Q S q=>
 h.go E Z F H _ S λv p F1 H1 a r A6=>by
  obtain⟨b,e,kk⟩:=A6;subst c;subst e;cases r.inv;exact .inr ⟨b,rfl,q _ _ F1 H1 a (.int _) kk⟩⟩
end
theorem D8{c A B:Prop}[Decidable c](h:c)(a:A):if c then A else B:=by rw[i6 h];exact a
end Fz
namespace L2
theorem wz{X:Cx}{tg:Expr}{a b:Expr}{ta:TA}{p pos:Pos}(u:Gl X "range")(o:X.mg "range"=none)(ha:QA X [a,b] ta)(n:starEach [a,b] X.env=[(false,eval a X.env),(false,eval b X.env)]:=by rfl)(DX:starEach [b] X.env=[(false,eval b X.env)]:=by rfl):QI X tg (.Call (.Name "range" p) [a,b] [] pos) (Qn ta):=⟨by
 have ha:=ha.h;intro Zd s Z H R I h;refine Call_ (IH I u o boot_range (Qf (AG (ha pos Zd s Z H _ I h) λus v⟨vs,H1,I1,f,d⟩=>?_) (by rw[n,DX]) (by rw[DX];rfl)));obtain⟨i,j,e,⟨d,m,l,k⟩,q⟩:=d;subst e;cases f with
 |cons r c=>
  cases c with
  |cons g c=>
   cases c;obtain⟨t,rfl⟩:=r;obtain⟨t',rfl⟩:=g;exact call_range_2 (bT I1 d m l k q)⟩
end L2
namespace Fz
open L2 Lw
section
variable[Xw]
variable{E:Ent0}{ss:List Slot}{Z:L2.St}{F H F' H':Hp}{K:ZAe}{js:List Nat}{ta tb tc te:TE}{k:PV->Prop}{nx:List Slot->Prop}{R:Ah}{xs ys:List PV}
def JX(i:Int)(n:Nat):List PV:=(List.range n).map λj:Nat=>PV.int (i+(j:Int))
theorem M8(i:Int)(n:Nat):(JX i n).length=n:=by simp[JX]
theorem zB{i:Int}{n j:Nat}{p:PV}(h:(JX i n)[j]?=some p):j<n/\p=.int (i+(j:Int)):=by
 have a:j<n:=by have:=(List.getElem?_eq_some_iff.mp h).1;rwa [M8]at this
 unfold JX at h;rw[B3,QN a]at h;exact⟨a,(B4 h).symm⟩
theorem rS{k:List PV->Prop}(h:Wp ss ta λp=>∃i:Int,p=.int i/\Wp ss tb λp=>∃j:Int,p=.int j/\(i<=1000000/\-1000000<=i/\j<=1000000/\-1000000<=j)/\k (JX i (j - i).toNat)):Wi ss (Qn (Ab ta (Ab tb B0))) k:=⟨λE Z F H R S q=>
 h.go E Z F H _ S λv p F1 H1 b r A6=>by
  obtain⟨i,e,h2⟩:=A6;subst e;cases r.inv;exact h2.go E Z F1 H1 _ b.st λg p2 F2 H2 d c C3=>by
   obtain⟨j,f,l,kk⟩:=C3;subst f;cases c.inv;refine⟨i,j,rfl,by omega,q _ (JX i (j - i).toNat) F2 H2 (b.trans d) ⟨λss Z F H n s S a=>?_,λss Z F H s S=>?_,λss Z F H n x H' s S a y=>?_⟩ kk⟩
   .rw[M8]at a;exact a
   .show _<=_;rw[M8];exact AZ _
   .obtain⟨e,hx⟩:=y;subst e;subst hx;rw[M8]at a;refine⟨.int (i+(n:Int)),F,?_,.refl S,.int _⟩;unfold JX;rw[B3,QN a];rfl⟩
theorem Sg.adopt(S:Sg E ss Z F H)(m:Mv E ss Z F H F H'){t:Addr}{o:HO}(b:H t=none)(e:H' t=some o):Mv E ss Z F H (upd F t o) H':=by
 have fn:=S.CO b;refine S.step (CH fn o) (λa u q=>?_) m.hh (λa u q=>?_) λi l hi c=>m.st.FC hi c
 .by_cases z:a=t
  .subst z;rw[AY]at q;rw[<- q];exact e
  .rw[AJ z]at q;exact m.st.fh a u q
 .by_cases z:a=t
  .subst z;exact .inr b
  .rw[AJ z]at q;exact .inl q
end
end Fz
namespace Fz
open L2 Lw
section
variable[Xw]
variable{E:Ent0}{ss:List Slot}{Z:L2.St}{F H F' H':Hp}{K:ZAe}{js:List Nat}{ta tb tc te:TE}{k:PV->Prop}{nx:List Slot->Prop}{R:Ah}{xs ys:List PV}{P:Program}{w:World}
theorem kI(h:Wq ss ta λtp xs=>tp=false/\Wq ss tb λCA ys=>CA=false/\ys=[]/\k (.bl (!decide (xs.length=0)))):Wp ss (BQ (Z5 K) ta tb) k:=⟨λE Z F H Q S q=>
 h.go E Z F H _ S λv tp xs F1 H1 b sv⟨f,h2⟩=>h2.go E Z F1 H1 _ b.st λg CA ys F2 H2 a Rj⟨S6,d,kk⟩=>by
  subst f;subst S6;subst d;obtain⟨l,vs,rfl,hl,r⟩:=(sv.mv a).seq a.st;obtain⟨l2,Ms,rfl,C9,c⟩:=Rj.seq a.st;cases c;refine⟨l,l2,vs,rfl,rfl,AN.of hl,AN.of C9,?_⟩;have e:decide (vs=[])=decide (xs.length=0):=by
   rw[<- r.length];cases vs <;> simp
  rw[e];exact q _ _ F2 H2 (b.trans a) (.bl _) kk⟩
theorem yA(h:Wq ss te λ_ xs=>∃ns:List Str,xs=ns.map PV.str/\ns.length<4000/\k (.int ((dd ns).length:Nat))):
  Wp ss (CJ (λxs H Q=>∃l f n,xs=[.ref l]/\H l=some (ID P w l f n)/\Q (.int (n:Nat)) H) (Ab (CJ (λxs H Q=>∃(p:Addr)(tp:Bool)(ss:List Str),xs=[.ref p]/\D7 K tp H p (ss.map V.str)/\ss.length<4000/\∀l,H l=none->Q (.ref l) (upd H l (ID P w l (λc=>(dd ss).any (· == c)) (dd ss).length))) (Ab te B0)) B0)) k:=⟨λE Z F H Q S q=>
 h.go E Z F H _ S λv tp xs F1 H1 b sv A6=>by
  obtain⟨ns,e,g,kk⟩:=A6;subst e;obtain⟨l,vs,rfl,hl,r⟩:=sv.seq b.st;rw[r.strs]at hl;refine⟨l,tp,ns,rfl,D6.sq hl,g,λa ha=>?_⟩;have d:=b.st.make ha (ID P w a (λc=>(dd ns).any (· == c)) (dd ns).length)
  exact⟨a,_,_,rfl,AY,q _ _ F1 _ (b.trans d) (.int _) kk⟩⟩
end
end Fz
namespace L2
section
variable{X:Cx}{Zd:ZAf}{Z:St}{H:Hp}{s:Shared}
theorem sH:FW X "list.pop" Um:=xf
end
end L2
namespace Lw
open L2
variable{c lh t:Addr}{H H':Hp}{r:Str}{g:Int}{ss:List Str}
def WG(lh:Addr)(H:Hp)(vs:List V):Prop:=∀v∈vs,∃(t f d:Addr)(xs:List Str),v=.ref t/\H t=some (.tup [.ref f,.ref d])/\f≠lh/\d≠lh/\H f=some (.lst (xs.map V.str))/\H d=some (.lst (xs.map V.str))
theorem WG.mono{vs ws:List V}(h:WG lh H vs)(hl:H lh=some (.lst ws))(k:∀b o,b≠lh->H b=some o->H' b=some o):WG lh H' vs:=by
 intro v c;obtain⟨t,f,d,xs,e,h1,h2,a,j,i⟩:=h v c;have g:t≠lh:=λz=>by subst z;rw[h1]at hl;cases hl
 exact⟨t,f,d,xs,e,k _ _ g h1,h2,a,k _ _ h2 j,k _ _ a i⟩
def Gy(H:Hp)(t c:Addr)(r:Str)(g:Int)(ss:List Str):Prop:=H t=some (.tup [.str r,.int g,.ref c])/\H c=some (.tup (ss.map V.str))
theorem Gy.h(h:Gy H t c r g ss):HU H t r g ss:=⟨c,h⟩
theorem Gy.same(s:A9 H H')(h:Gy H t c r g ss):Gy H' t c r g ss:=⟨s _ _ h.1,s _ _ h.2⟩
def wZ(H H':Hp)(t' t:Addr)(ns:List Str)(r:Str)(g:Nat)(ss:List Str):Prop:=
 (P6 ns g ss=[]/\H' t'=some (.tup [.A5,.ref t]))∨∃x a t2 c2,P6 ns g ss=x::a/\H t2=none/\H c2=none/\H' t'=some (.tup [.str x,.ref t2])/\Gy H' t2 c2 r ((ns.idxOf x:Nat)+1) (wo ss x)
end Lw
namespace Fz
open L2 Lw
variable{E:Ent0}{ss:List Slot}{Z:L2.St}{F F' F1 H H':Hp}{js p:List Nat}{ta tb tc te ti:TE}{nx:List Slot->Prop}{R:Ah}{k:PV->Prop}{n t u:OV}{o:HO}{a b c:Addr}{r:Str}{g i j:Nat}{cs ns:List Str}{ps xs ys:List PV}{vs ws:List V}{A:Around}{A2 B5:List Value}{x:V}{CA tp:Bool}{q:PV}{v:Value}
def OG(r:Str)(g:Nat)(ss:List Str):PV:=.tup [.str r,.int g,.tup (ss.map .str)]
section
variable[Xw]
variable{K:ZAe}
theorem Mv.adopt(m:Mv E ss Z F H F1 H')(S:Sg E ss Z F H){t:Addr}(c:H t=Option.none)(e:H' t=some o):Mv E ss Z F H (upd F1 t o) H':=by
 have b:A9 F1 (upd F1 t o):=λa u q=>by
  by_cases z:a=t
  .subst z;have w:=m.st.fh _ _ q;rw[e]at w;rw[AY];exact w
  .rw[AJ z];exact q
 refine S.step (m.ff.trans b) (λa u q=>?_) m.hh (λa u q=>?_) λi l hi d=>m.st.FC hi d
 .by_cases z:a=t
  .subst z;rw[AY]at q;rw[<- q];exact e
  .rw[AJ z]at q;exact m.st.fh a u q
 .by_cases z:a=t
  .subst z;exact .inr c
  .rw[AJ z]at q;exact m.nn a u q
theorem cW{t:Addr}(h:Gy F t c r g cs):Rep F (.ref t) (OG r g cs):=.tup h.1 (.cons (.str _) (.cons (.int _) (.one (.tup h.2 (Te cs)))))
theorem Mv.yl(m:Mv E ss Z F H F1 H')(S:Sg E ss Z F H){t c0:Addr}(k:H t=Option.none)(d:H c=Option.none∨c=c0)(l:F c0=some o)(e:Gy H' t c r g cs):∃F2,Mv E ss Z F H F2 H'/\A9 F1 F2/\Rep F2 (.ref t) (OG r g cs):=by
 have b:∃F2,Mv E ss Z F H F2 H'/\A9 F1 F2/\F2 c=some (.tup (cs.map V.str)):=by
  rcases d with d|rfl
  .refine⟨_,m.adopt S d e.2,λa u q=>?_,AY⟩
   by_cases z:a=c
   .subst z;have w:=m.st.fh _ _ q;rw[e.2]at w;rw[AY];exact w
   .rw[AJ z];exact q
  .refine⟨F1,m,A9.refl _,?_⟩;have w:=m.ff _ _ l;have f:=m.st.fh _ _ w;rw[e.2]at f;rw[w,<- f]
 obtain⟨F2,i,s2,j⟩:=b;have h:A9 F2 (upd F2 t (.tup [.str r,.int g,.ref c])):=λa u q=>by
  by_cases z:a=t
  .subst z;have w:=i.st.fh _ _ q;rw[e.1]at w;rw[AY];exact w
  .rw[AJ z];exact q
 exact⟨_,i.adopt S k e.1,s2.trans h,cW ⟨AY,h _ _ j⟩⟩
def W9(ns:List Str)(r:Str)(g:Nat)(cs:List Str):PV:=match P6 ns g cs with
 | []=>.tup [.A5,OG r g cs]
 |x::_=>.tup [.str x,OG r (ns.idxOf x+1) (wo cs x)]
theorem Mv.ZA3(m:Mv E ss Z F H F1 H')(S:Sg E ss Z F H){t t':Addr}(d:H t'=Option.none)(i:Gy F t c r g cs)(e:wZ H H' t' t ns r g cs):∃F2,Mv E ss Z F H F2 H'/\Rep F2 (.ref t') (W9 ns r g cs):=by
 rcases e with⟨f,e⟩|⟨x,o,t2,c2,f,h2,n,e,l⟩
 .refine⟨_,m.adopt S d e,?_⟩;have b:=(m.adopt S d e).ff;unfold W9;rw[f];exact .tup AY (.cons .A5 (.one (cW (i.same b))))
 .have j:Gy H' t2 c2 r ((ns.idxOf x+1:Nat):Int) (wo cs x):=l;obtain⟨F2,h,_,k⟩:=m.yl S h2 (.inl n) i.1 j;refine⟨_,h.adopt S d e,?_⟩;have b:A9 F2 (upd F2 t' (.tup [.str x,.ref t2])):=λa u q=>by
   by_cases z:a=t'
   .subst z;have w:=h.st.fh _ _ q;rw[e]at w;rw[AY];exact w
   .rw[AJ z];exact q
  unfold W9;rw[f];exact .tup AY (.cons (.str _) (.one (k.mono b)))
theorem eQ{n:Nat}(h:j<n):G3 n (j:Int)=some j:=by
 unfold G3;simp;omega
theorem AE.set:∀{xs:List PV}(j:Nat){v:V}{p:PV},AE F vs xs->Rep F v p->AE F (vs.set j v) (xs.set j p):=by
 intro xs
 induction vs generalizing xs with
 |nil=>intro j v p h r;cases h;exact .nil
 |cons a vs c=>
  intro j v p h r;cases h with
  |cons b t=>
   cases j with
   |zero=>exact .cons r t
   |succ j=>exact .cons b (c j t r)
theorem P5(hi:ss[i]?=some (.own xs))(h:Wp ss te λp=>Wp ss ti λq=>∃j:Nat,q=.int j/\j<xs.length/\nx (ss.set i (.own (xs.set j p)))):Ws ss (EW te (Qs (Br i) ti d4)) nx R:=⟨λE D Z F H S k t=>
 h.go E Z F H _ S λv p F1 H1 b f h2=>by
  obtain⟨l,vs,e,x,w,u,r⟩:=b.st.ok i _ hi;refine⟨_,e,h2.go E Z F1 H1 _ b.st λo q F2 H2 a g⟨j,n,m,kk⟩=>?_⟩;subst n;cases g.inv;obtain⟨s,Dl,d,EG,Bk,Ea,c⟩:=a.st.ok i _ hi;rw[e]at d;cases d;refine⟨l,Dl,_,j,rfl,rfl,Ea,eQ (by rw[c.length];exact m),?_⟩;exact k _ Z F2 _ kk (a.st.put hi e EG Bk (c.set j (f.mono a.ff))) (b.ff.trans a.ff)⟩
end
mutual
def Bc:PV->PV->Bool
 | .lst xs,.lst ys=>C8 xs ys
 | .tup xs,.tup ys=>C8 xs ys
 | .tup xs,.con _ ys=>C8 xs ys
 | .con _ xs,.tup ys=>C8 xs ys
 | .con _ xs,.con _ ys=>C8 xs ys
 | .A5,.A5=>true
 | .bl a,.bl b=>a == b
 | .bl a,.int b=>(if a then 1 else 0) == b
 | .int a,.bl b=>a == (if b then 1 else 0)
 | .int a,.int b=>a == b
 | .str a,.str b=>a == b
 |_,_=>false
def C8:List PV->List PV->Bool
 | [],[]=>true
 |x::r,y::t=>Bc x y && C8 r t
 |_,_=>false
end
theorem P7(x y:PV)(r t:List PV):C8 (x::r) (y::t)=(Bc x y && C8 r t):=by rw[C8]
theorem S7:∀(xs ys:List PV),xs.length≠ys.length->C8 xs ys=false
 | [],[],h=>absurd rfl h
 | [],_::_,_=>by rw[C8];all_goals simp
 |_::_,[],_=>by rw[C8];all_goals simp
 |x::r,y::t,h=>by rw[P7,S7 r t (by simpa using h),WX]
theorem Qu:∀(xs ys:List PV),xs.length=ys.length->C8 xs ys=(List.range xs.length).all λj=>Bc (xs.getD j .A5) (ys.getD j .A5)
 | [],[],_=>by rw[C8];rfl
 |x::r,y::t,h=>by
  rw[P7,Qu r t (by simpa using h),B6,List.range_succ_eq_map,NU,NV]
  rfl
def dat(K:ZAe):Nat->PV->Prop
 |_,.A5=>True
 |_,.bl _=>True
 |_,.int _=>True
 |_,.str _=>True
 |d+1,.lst xs=>∀x∈xs,dat K d x
 |d+1,.tup xs=>∀x∈xs,dat K d x
 |d+1,.con a xs=>(∀x∈xs,dat K d x)/\xs.all flat=true/\∀H,Al K H a (xs.map Fz.enc)
 |_,_=>False
inductive Fg (K:ZAe) (H:Hp):V->PV->Bool->Addr->List V->List PV->Prop where
 |lst {a:Addr}{vs:List V}{xs:List PV}:AN K H a vs->AE H vs xs->Fg K H (.ref a) (.lst xs) false a vs xs
 |tup {a:Addr}{vs:List V}{xs:List PV}:Al K H a vs->AE H vs xs->Fg K H (.ref a) (.tup xs) true a vs xs
 |con {a:Addr}{vs:List V}{xs:List PV}:Al K H a vs->AE H vs xs->Fg K H (.ref a) (.con a xs) true a vs xs
theorem FF{K:ZAe}:∀{d:Nat}{x:V}{p:PV},dat K d p->Rep H x p->(flat p=true/\x=Fz.enc p)∨∃d' tp a vs xs,d=d'+1/\Fg K H x p tp a vs xs/\∀y∈xs,dat K d' y:=by
 intro d x p h r;cases r with
 |A5=>exact .inl ⟨rfl,rfl⟩
 |bl b=>exact .inl ⟨rfl,rfl⟩
 |int b=>exact .inl ⟨rfl,rfl⟩
 |str b=>exact .inl ⟨rfl,rfl⟩
 |lst e r=>cases d with
  |zero=>exact h.elim
  |succ d=>exact .inr ⟨d,_,_,_,_,rfl,.lst (AN.of e) r,h⟩
 |tup e r=>cases d with
  |zero=>exact h.elim
  |succ d=>exact .inr ⟨d,_,_,_,_,rfl,.tup (Al.of e) r,h⟩
 |con=>cases d with
  |zero=>exact h.elim
  |succ d=>obtain⟨h1,h2,c⟩:=h;exact .inr ⟨d,_,_,_,_,rfl,.con (c H) (UT h2),h1⟩
 |Ce _ _ _=>cases d <;> exact h.elim
 |obj _ _ _ _=>cases d <;> exact h.elim
 |Kx _=>cases d <;> exact h.elim
 |exc _ _ _ _=>cases d <;> exact h.elim
section
variable{X:Cx}{Zd:ZAf}{s:Shared}
theorem gk(d:Vals vs A2)(c:Vals ws B5)(f:AE H vs xs)(e:AE H ws ys)
  (h:∀(x y:V)(p q:PV)(u v:Value),p∈xs->q∈ys->Rep H x p->Rep H y q->RelV x u->RelV y v->SeqAt.EqAt A s u v (Bc p q)) :
  ∀j(h1:j<A2.toArray.size)(h2:j<B5.toArray.size),SeqAt.EqAt A s A2.toArray[j] B5.toArray[j] ((λj=>Bc (xs.getD j .A5) (ys.getD j .A5)) j):=λj h1 h2=>by
 have l1:=d.length;have l2:=c.length;have D:=f.length;have C:=e.length;have B:j<A2.length:=by simpa using h1
 have z:j<B5.length:=by simpa using h2
 have b:j<xs.length:=by omega
 have a:j<ys.length:=by omega
 obtain⟨x,hx,m⟩:=f.get (i:=j) (p:=xs[j]) (Aw b);obtain⟨y,r,l⟩:=e.get (i:=j) (p:=ys[j]) (Aw a);obtain⟨u,k,o⟩:=d.get hx;obtain⟨v,g,n⟩:=c.get r;rw[Aw B]at k;rw[Aw z]at g;have w:A2[j]=u:=B4 k;have t:B5[j]=v:=B4 g;have q:=h x y _ _ u v (Gz b) (Gz a) m l o n;rw[<- w,<- t]at q;show SeqAt.EqAt A s _ _ (Bc (xs.getD j .A5) (ys.getD j .A5));rw[Lp,Aw b,Lp,Aw a]
 simpa using q
theorem Pp{p:PV}(h:Fg X.K H x p tp a vs xs)(f:flat q=true):Bc p q=false/\Bc q p=false:=by
 cases h <;> cases q <;> first|exact Bool.noConfusion f|exact⟨rfl,rfl⟩
theorem U9{p:PV}{y:V}(h:Fg X.K H x p tp a vs xs)(h2:Fg X.K H y q CA b ws ys):Bc p q=(if tp=CA then C8 xs ys else false):=by
 cases h <;> cases h2 <;> rfl
theorem OC{p:PV}(h:flat p=true)(h2:flat q=true):Bc p q=Dj (Fz.enc p) (Fz.enc q):=by
 cases p <;> cases q <;> first|exact Bool.noConfusion h|exact Bool.noConfusion h2|rfl
theorem yY{p:PV}{u:Value}(h:flat p=true)(h2:flat q=true)(b:RelV (Fz.enc p) u)(a:RelV (Fz.enc q) v):SeqAt.RcAt A s u v (Bc p q)/\SeqAt.RcNeAt A s u v (!Bc p q):=by
 cases p <;> first|exact Bool.noConfusion h|skip
 all_goals cases q <;> first|exact Bool.noConfusion h2|skip
 .cases b;cases a;exact⟨.none_none,.none_none⟩
 .cases b;cases a;exact⟨.none_bool _,.none_bool _⟩
 .cases b;obtain⟨t,rfl⟩:=a;exact⟨.none_int _ _,.none_int _ _⟩
 .cases b;obtain⟨t,rfl⟩:=a;exact⟨.none_str _ _,.none_str _ _⟩
 .cases b;cases a;exact⟨.bool_none _,.bool_none _⟩
 .cases b;cases a;exact⟨.bool_bool _ _,.bool_bool _ _⟩
 .cases b;obtain⟨t,rfl⟩:=a;exact⟨.bool_int _ _ _,.bool_int _ _ _⟩
 .cases b;obtain⟨t,rfl⟩:=a;exact⟨.bool_str _ _ _,.bool_str _ _ _⟩
 .obtain⟨t,rfl⟩:=b;cases a;exact⟨.int_none _ _,.int_none _ _⟩
 .obtain⟨t,rfl⟩:=b;cases a;exact⟨.int_bool _ _ _,.int_bool _ _ _⟩
 .obtain⟨t,rfl⟩:=b;obtain⟨t2,rfl⟩:=a;exact⟨.int_int _ _ _ _,.int_int _ _ _ _⟩
 .obtain⟨t,rfl⟩:=b;obtain⟨t2,rfl⟩:=a;exact⟨.int_str _ _ _ _,.int_str _ _ _ _⟩
 .obtain⟨t,rfl⟩:=b;cases a;exact⟨.str_none _ _,.str_none _ _⟩
 .obtain⟨t,rfl⟩:=b;cases a;exact⟨.str_bool _ _ _,.str_bool _ _ _⟩
 .obtain⟨t,rfl⟩:=b;obtain⟨t2,rfl⟩:=a;exact⟨.str_int _ _ _ _,.str_int _ _ _ _⟩
 .obtain⟨t,rfl⟩:=b;obtain⟨t2,rfl⟩:=a;exact⟨.str_str _ _ _ _,.str_str _ _ _ _⟩
def OR(h:Heap)(tp:Bool)(a:Addr)(A2:Array Value):Prop:=if tp then IsTup h a A2 else h.IsList a A2
theorem Fg.FK(I:Inv X Zd Z H s){p:PV}(h:Fg X.K H x p tp a vs xs):∃A2:List Value,x=.ref a/\Vals vs A2/\OR s.heap tp a A2.toArray/\AE H vs xs:=by
 cases h with
 |lst h r=>obtain⟨A2,b,p1,_⟩:=I.list h;exact⟨A2,rfl,b,p1.isList,r⟩
 |tup h r=>obtain⟨A2,b,p1,_⟩:=I.tuple h;exact⟨A2,rfl,b,p1,r⟩
 |con h r=>obtain⟨A2,b,p1,_⟩:=I.tuple h;exact⟨A2,rfl,b,p1,r⟩
theorem OW{A2:Array Value}(h:OR s.heap tp a A2)(f:flat q=true)(c:RelV (Fz.enc q) v)(b:A.units<cLine):
  (SeqAt.EqAt A s (.ref a) v false/\SeqAt.EqAt A s v (.ref a) false)/\(SeqAt.RcAt A s (.ref a) v false/\SeqAt.RcAt A s v (.ref a) false)/\(SeqAt.RcNeAt A s (.ref a) v true/\SeqAt.RcNeAt A s v (.ref a) true):=by
 cases tp with
 |false=>
  have h':s.heap.IsList a A2:=h;cases q <;> first|exact Bool.noConfusion f|skip
  .cases c;exact⟨⟨.list_none h' b,.none_list h' b⟩,⟨.list_none h' b,.none_list h' b⟩,⟨.list_none h' b,.none_list h' b⟩⟩
  .cases c;exact⟨⟨.list_bool _ h' b,.bool_list _ h' b⟩,⟨.list_bool _ h' b,.bool_list _ h' b⟩,⟨.list_bool _ h' b,.bool_list _ h' b⟩⟩
  .obtain⟨t,rfl⟩:=c;exact⟨⟨.list_int _ _ h' b,.int_list _ _ h' b⟩,⟨.list_int _ _ h' b,.int_list _ _ h' b⟩,⟨.list_int _ _ h' b,.int_list _ _ h' b⟩⟩
  .obtain⟨t,rfl⟩:=c;exact⟨⟨.list_str _ _ h' b,.str_list _ _ h' b⟩,⟨.list_str _ _ h' b,.str_list _ _ h' b⟩,⟨.list_str _ _ h' b,.str_list _ _ h' b⟩⟩
 |true=>
  have h':IsTup s.heap a A2:=h;cases q <;> first|exact Bool.noConfusion f|skip
  .cases c;exact⟨⟨.tuple_none h' b,.none_tuple h' b⟩,⟨.tuple_none h' b,.none_tuple h' b⟩,⟨.tuple_none h' b,.none_tuple h' b⟩⟩
  .cases c;exact⟨⟨.tuple_bool _ h' b,.bool_tuple _ h' b⟩,⟨.tuple_bool _ h' b,.bool_tuple _ h' b⟩,⟨.tuple_bool _ h' b,.bool_tuple _ h' b⟩⟩
  .obtain⟨t,rfl⟩:=c;exact⟨⟨.tuple_int _ _ h' b,.int_tuple _ _ h' b⟩,⟨.tuple_int _ _ h' b,.int_tuple _ _ h' b⟩,⟨.tuple_int _ _ h' b,.int_tuple _ _ h' b⟩⟩
  .obtain⟨t,rfl⟩:=c;exact⟨⟨.tuple_str _ _ h' b,.str_tuple _ _ h' b⟩,⟨.tuple_str _ _ h' b,.str_tuple _ _ h' b⟩,⟨.tuple_str _ _ h' b,.str_tuple _ _ h' b⟩⟩
theorem Fg.inj(I:Inv X Zd Z H s){x y:V}{p q:PV}{tp CA:Bool}{a:Addr}{vs ws:List V}{xs ys:List PV}(h:Fg X.K H x p tp a vs xs)(h2:Fg X.K H y q CA a ws ys):tp=CA/\vs=ws:=by
 have b:∀{vs ws:List V},AN X.K H a vs->Al X.K H a ws->False:=λ{vs ws}h1 h2=>by
  obtain⟨A2,_,p1,_⟩:=I.list h1;obtain⟨B5,_,p2,_⟩:=I.tuple h2;obtain⟨o,n,e,c,_⟩:=p1;obtain⟨f,d,c2,_⟩:=p2;rw[e]at d;cases d;rw[c]at c2;exact absurd c2 (by decide)
 cases h with
 |lst h r=>cases h2 with
  |lst h2 _=>exact⟨rfl,I.dA h h2⟩
  |tup h2 _=>exact(b h h2).elim
  |con h2 _=>exact(b h h2).elim
 |tup h r=>cases h2 with
  |lst h2 _=>exact(b h2 h).elim
  |tup h2 _=>exact⟨rfl,I.MN h h2⟩
  |con h2 _=>exact⟨rfl,I.MN h h2⟩
 |con h r=>cases h2 with
  |lst h2 _=>exact(b h2 h).elim
  |tup h2 _=>exact⟨rfl,I.MN h h2⟩
  |con h2 _=>exact⟨rfl,I.MN h h2⟩
theorem Zu{p:PV}(h:flat p=true):Dj (Fz.enc p) (Fz.enc p)=true:=by cases p <;> first|exact Bool.noConfusion h|exact jR _|rfl
theorem j9(i:∀(x:V)(p q:PV),Rep H x p->Rep H x q->dat X.K d p->dat X.K d q->Bc p q=true)(f:AE H vs xs)(c:AE H vs ys)(h1:∀x∈xs,dat X.K d x)(h2:∀y∈ys,dat X.K d y):C8 xs ys=true:=by
 induction xs generalizing vs ys with
 |nil=>
  cases f.DC;cases ys with
  |nil=>rfl
  |cons y t=>obtain⟨v,ws,e,_⟩:=c.inv;cases e
 |cons x xs h=>
  obtain⟨v,ws,rfl,a,b⟩:=f.inv;cases ys with
  |nil=>have e:=c.DC;cases e
  |cons y t=>
   obtain⟨l,g,e,k,j⟩:=c.inv;cases e;rw[P7,i _ _ _ a k (h1 _ FH) (h2 _ FH),h b j (λx hx=>h1 x (By _ hx)) (λx hx=>h2 x (By _ hx))];rfl
theorem lX(I:Inv X Zd Z H s):∀(d:Nat)(x:V)(p q:PV),Rep H x p->Rep H x q->dat X.K d p->dat X.K d q->Bc p q=true:=λd=>by
 induction d with
 |zero=>
  intro x p q l h h1 h2;rcases FF h1 l with⟨j,k⟩|⟨d',_,_,_,_,e,_⟩
  .rcases FF h2 h with⟨c,g⟩|⟨d',_,_,_,_,e,_⟩
   .rw[OC j c,<- k,g];exact Zu c
   .cases e
  .cases e
 |succ d r=>
  intro x p q l h h1 h2;rcases FF h1 l with⟨j,k⟩|⟨w,tp,a,vs,xs,e,i,k1⟩
  .rcases FF h2 h with⟨c,g⟩|⟨v,CA,b,ws,ys,e,f,k2⟩
   .rw[OC j c,<- k,g];exact Zu c
   .obtain⟨_,ex,_⟩:=f.FK I;subst ex;cases p <;> first|(cases j;done)|(cases k;done)
  .cases e;rcases FF h2 h with⟨c,g⟩|⟨v,CA,b,ws,ys,e,f,k2⟩
   .obtain⟨_,ex,_⟩:=i.FK I;subst ex;cases q <;> first|(cases c;done)|(cases g;done)
   .cases e;obtain⟨_,ex,_,_,o⟩:=i.FK I;obtain⟨_,m,_,_,n⟩:=f.FK I;rw[ex]at m;cases m;obtain⟨u,t⟩:=i.inj I f;subst t;rw[U9 i f,i6 u];exact j9 r o n k1 k2
theorem sW(b:Vals vs A2)(a:Vals ws B5)(d:AE H vs xs)(c:AE H ws ys):A2.toArray.size=xs.length/\B5.toArray.size=ys.length:=by
 have l1:=b.length;have l2:=a.length;have f:=d.length;have e:=c.length;simp only[Bh];omega
theorem cZ(h1:OR s.heap tp a A2.toArray)(h2:OR s.heap CA b B5.toArray)(l:Vals vs A2)(k:Vals ws B5)(n:AE H vs xs)(m:AE H ws ys)(c:A.units<cLine)
  (h:∀(x y:V)(p q:PV)(u v:Value),p∈xs->q∈ys->Rep H x p->Rep H y q->RelV x u->RelV y v->SeqAt.EqAt A.in1 s u v (Bc p q)) :
  SeqAt.RcAt A s (.ref a) (.ref b) (if tp=CA then C8 xs ys else false)/\SeqAt.RcNeAt A s (.ref a) (.ref b) (!(if tp=CA then C8 xs ys else false)):=by
 obtain⟨g,i⟩:=sW l k n m;have it:=gk (A:=A.in1) l k n m h;cases tp with
 |false=>cases CA with
  |false=>
   rw[i6 rfl];have f:s.heap.IsList a A2.toArray:=h1;have d:s.heap.IsList b B5.toArray:=h2
   by_cases hl:xs.length=ys.length
   .rw[Qu xs ys hl,<- g];exact⟨.lists f d (by omega) c it,.lists f d (by omega) c it⟩
   .rw[S7 xs ys hl];have o:(A2.toArray.size != B5.toArray.size)=true:=by simp only[bne_iff_ne,ne_eq];omega
    exact⟨.lists_lengths f d o c,.lists_lengths f d o c⟩
  |true=>rw[hZ (by decide)];exact⟨.list_tuple h1 h2 c,.list_tuple h1 h2 c⟩
 |true=>cases CA with
  |false=>rw[hZ (by decide)];exact⟨.tuple_list h1 h2 c,.tuple_list h1 h2 c⟩
  |true=>
   rw[i6 rfl];have f:IsTup s.heap a A2.toArray:=h1;have d:IsTup s.heap b B5.toArray:=h2;have e:((List.range (min A2.toArray.size B5.toArray.size)).all (λj=>Bc (xs.getD j .A5) (ys.getD j .A5)) && A2.toArray.size == B5.toArray.size)=C8 xs ys:=by
    by_cases hl:xs.length=ys.length
    .rw[Qu xs ys hl,g,i,<- hl,Nat.min_self,jR,Bool.and_true]
    .rw[S7 xs ys hl,g,i,show(xs.length == ys.length)=false from by simpa using hl,WX]
   have k1:=SeqAt.RcAt.tuples (A:=A) (e:=λj=>Bc (xs.getD j .A5) (ys.getD j .A5)) f d c it;have k2:=SeqAt.RcNeAt.tuples (A:=A) (e:=λj=>Bc (xs.getD j .A5) (ys.getD j .A5)) f d c it;rw[e]at k1 k2;exact⟨k1,k2⟩
theorem iL(I:Inv X Zd Z H s):∀(d:Nat)(x y:V)(p q:PV),Rep H x p->Rep H y q->dat X.K d p->dat X.K d q->∀(A:Around)(u v:Value),RelV x u->RelV y v->A.units+d<cLine->SeqAt.EqAt A s u v (Bc p q):=λd=>by
 induction d with
 |zero=>
  intro x y p q k h h1 h2 A u v f c G;rcases FF h1 k with⟨i,o⟩|⟨_,_,_,_,_,e,_⟩
  .rcases FF h2 h with⟨g,m⟩|⟨_,_,_,_,_,e,_⟩
   .subst o;subst m;rw[OC i g];exact O5 f c (PB i) (PB g)
   .cases e
  .cases e
 |succ d F=>
  intro x y p q k h h1 h2 A u v f c G;rcases FF h1 k with⟨i,o⟩|⟨N,tp,a,vs,xs,e,n,k1⟩
  .rcases FF h2 h with⟨g,m⟩|⟨M,CA,b,ws,ys,e,l,k2⟩
   .subst o;subst m;rw[OC i g];exact O5 f c (PB i) (PB g)
   .obtain⟨A2,r,_,j,_⟩:=l.FK I;subst o;subst r;cases(show v=Value.ref b from c);rw[(Pp l i).2];exact(OW j i f (by omega)).1.2
  .cases e;rcases FF h2 h with⟨g,m⟩|⟨M,CA,b,ws,ys,e,l,k2⟩
   .obtain⟨A2,ex,_,j,_⟩:=n.FK I;subst m;subst ex;cases(show u=Value.ref a from f);rw[(Pp n g).1];exact(OW j g c (by omega)).1.1
   .cases e;obtain⟨A2,ex,C,E,z⟩:=n.FK I;obtain⟨B5,r,B,D,w⟩:=l.FK I;subst ex;subst r;cases(show u=Value.ref a from f);cases(show v=Value.ref b from c)
    by_cases t:a=b
    .subst t;rw[lX I (d+1) _ p q k h h1 h2];exact .same _
    .rw[U9 n l];refine SeqAt.EqAt.of_refs t (cZ E D C B z w (by omega) λx y p q u v L J k h f c=>?_).1;exact F x y p q k h (k1 p L) (k2 q J) A.in1 u v f c (by show A.units+1+d<cLine;omega)
theorem Yk(I:Inv X Zd Z H s)(d:Nat)(x y:V)(p q:PV)(m:Rep H x p)(i:Rep H y q)(h1:dat X.K d p)(h2:dat X.K d q)(A:Around)(u v:Value)(f:RelV x u)(c:RelV y v)(M:A.units+d<cLine):SeqAt.RcAt A s u v (Bc p q)/\SeqAt.RcNeAt A s u v (!Bc p q):=by
 rcases FF h1 m with⟨n,r⟩|⟨t,tp,a,vs,xs,e,k,k1⟩
 .rcases FF h2 i with⟨l,h⟩|⟨L,CA,b,ws,ys,e,g,k2⟩
  .subst r;subst h;exact yY n l f c
  .obtain⟨A2,o,_,j,_⟩:=g.FK I;subst r;subst o;cases(show v=Value.ref b from c);rw[(Pp g n).2];have z:=OW (A:=A) j n f (by omega);exact⟨z.2.1.2,z.2.2.2⟩
 .rcases FF h2 i with⟨l,h⟩|⟨L,CA,b,ws,ys,h,g,k2⟩
  .obtain⟨A2,ex,_,j,_⟩:=k.FK I;subst h;subst ex;cases(show u=Value.ref a from f);rw[(Pp k l).1];have z:=OW (A:=A) j l c (by omega);exact⟨z.2.1.1,z.2.2.1⟩
  .subst e;cases h;obtain⟨A2,ex,D,F,B⟩:=k.FK I;obtain⟨B5,o,C,E,w⟩:=g.FK I;subst ex;subst o;cases(show u=Value.ref a from f);cases(show v=Value.ref b from c);rw[U9 k g];exact cZ F E D C B w (by omega) λx y p q u v J G m i f c=>iL I t x y p q m i (k1 p J) (k2 q G) A.in1 u v f c (by show A.units+1+t<cLine;omega)
def Oh(K:ZAe)(neg:Bool):R2:=λx y H Q=>∃p q,Rep H x p/\Rep H y q/\dat K 40 p/\dat K 40 q/\Q (.bl (if neg then !Bc p q else Bc p q)) H
theorem kl(i:X.A.units+64<cLine):Ar X (compareOp .Eq) (Oh X.K false):=by
 intro Zd s Z H x y v u Q I b a h;obtain⟨p,q,d,c,g,f,e⟩:=h;exact(Yk I 40 x y p q d c g f X.A _ _ b a (by omega)).1 _ _ _ _ ⟨.bl (Bc p q),H,I,rfl,e⟩
theorem oP(i:X.A.units+64<cLine):Ar X (compareOp .NotEq) (Oh X.K true):=by
 intro Zd s Z H x y v u Q I b a h;obtain⟨p,q,d,c,g,f,e⟩:=h;exact(Yk I 40 x y p q d c g f X.A _ _ b a (by omega)).2 _ _ _ _ ⟨.bl (!Bc p q),H,I,rfl,e⟩
end
section
variable[Xw]
variable{K:ZAe}
theorem Y6(h:Wp ss ta λp=>Wp ss tb λq=>dat K 40 p/\dat K 40 q/\k (.bl (Bc p q))):Wp ss (BQ (Oh K false) ta tb) k:=⟨λE Z F H Q S q=>
 h.go E Z F H _ S λv p F1 H1 b d h2=>h2.go E Z F1 H1 _ b.st λg p2 F2 H2 a c⟨f,e,kk⟩=>
  ⟨p,p2,(d.mono a.ff).mono a.st.fh,c.mono a.st.fh,f,e,q _ _ F2 H2 (b.trans a) (.bl _) kk⟩⟩
theorem di(h:Wp ss ta λp=>Wp ss tb λq=>dat K 40 p/\dat K 40 q/\k (.bl (!Bc p q))):Wp ss (BQ (Oh K true) ta tb) k:=⟨λE Z F H Q S q=>
 h.go E Z F H _ S λv p F1 H1 b d h2=>h2.go E Z F1 H1 _ b.st λg p2 F2 H2 a c⟨f,e,kk⟩=>
  ⟨p,p2,(d.mono a.ff).mono a.st.fh,c.mono a.st.fh,f,e,q _ _ F2 H2 (b.trans a) (.bl _) kk⟩⟩
end
def OV.at(t:OV):List Nat->Option OV
 | []=>some t
 |j::p=>match t with
  | .nd _ _ xs=>(xs[j]?).bind λx=>OV.at x p
  | .tp xs=>(xs[j]?).bind λx=>OV.at x p
  | .fz _=>none
def OV.put(t:OV)(l:List Nat)(n:OV):OV:=match l with
 | []=>n
 |j::p=>match t with
  | .nd k a xs=>match xs[j]? with
   |some x=>.nd k a (xs.set j (OV.put x p n))
   |none=>.nd k a xs
  | .tp xs=>match xs[j]? with
   |some x=>.tp (xs.set j (OV.put x p n))
   |none=>.tp xs
  | .fz q=>.fz q
theorem OV.pq:t.at []=some t:=by rw[OV.at]
theorem OV.vD{k:NK}{xs:List OV}:(OV.nd k a xs).at (j::p)=(xs[j]?).bind λx=>x.at p:=by rw[OV.at]
theorem OV.qk{xs:List OV}:(OV.tp xs).at (j::p)=(xs[j]?).bind λx=>x.at p:=by rw[OV.at]
theorem OV.gQ:t.put [] n=n:=by rw[OV.put]
theorem OV.oZ{k:NK}{xs:List OV}{x:OV}(h:xs[j]?=some x):(OV.nd k a xs).put (j::p) n=.nd k a (xs.set j (x.put p n)):=by rw[OV.put,h]
theorem OV.vy{xs:List OV}{x:OV}(h:xs[j]?=some x):(OV.tp xs).put (j::p) n=.tp (xs.set j (x.put p n)):=by rw[OV.put,h]
theorem UZ:∀{xs:List OV}{j:Nat}{x:OV},xs[j]?=some x->∃l r,OV.Dd xs=l++x.addrs++r/\∀y:OV,OV.Dd (xs.set j y)=l++y.addrs++r
 |x::xs,0,z,h=>by
  simp at h;subst h;exact⟨[],OV.Dd xs,by rw[OV.Ip];rfl,λy=>by rw[List.set_cons_zero,OV.Ip];rfl⟩
 |x::xs,j+1,z,h=>by
  obtain⟨l,r,b,a⟩:=UZ (xs:=xs) (j:=j) (x:=z) (by simpa using h)
  refine⟨x.addrs++l,r,by rw[OV.Ip,b];simp[JI],λy=>by rw[List.set_cons_succ,OV.Ip,a];simp[JI]⟩
theorem OV.split{u:OV}:∀{p:List Nat}{t:OV},t.at p=some u->∃l r,t.addrs=l++u.addrs++r/\∀n:OV,(t.put p n).addrs=l++n.addrs++r
 | [],t,h=>by rw[OV.pq]at h;cases h;exact⟨[],[],by simp,λn=>by rw[OV.gQ];simp⟩
 |j::p,.nd k a xs,h=>by
  rw[OV.vD]at h;cases e:xs[j]? with
  |none=>rw[e]at h;cases h
  |some x=>
   rw[e]at h;obtain⟨l,r,g,f⟩:=UZ e;obtain⟨l2,b,d,c⟩:=OV.split (t:=x) h;refine⟨a::(k.more++(l++l2)),b++r,by rw[OV.Mc,g,d];simp[JI],λn=>by rw[OV.oZ e,OV.Mc,f,c];simp[JI]⟩
 |j::p,.tp xs,h=>by
  rw[OV.qk]at h;cases e:xs[j]? with
  |none=>rw[e]at h;cases h
  |some x=>
   rw[e]at h;obtain⟨l,r,g,f⟩:=UZ e;obtain⟨l2,b,d,c⟩:=OV.split (t:=x) h;refine⟨l++l2,b++r,by rw[OV.MV,g,d];simp[JI],λn=>by rw[OV.vy e,OV.MV,f,c];simp[JI]⟩
 |j::p,.fz q,h=>by rw[OV.at]at h;cases h
theorem Bi.get{F H:Hp}{vs:List V}{ts:List OV}{j:Nat}{t:OV}(r:Bi F H vs ts)(e:ts[j]?=some t):∃v,vs[j]?=some v/\Bq F H v t:=by
 induction ts generalizing vs j with
 |nil=>cases e
 |cons q ps c=>
  obtain⟨v,ws,rfl,a,b⟩:=r.inv;cases j with
  |zero=>cases e;exact⟨_,rfl,a⟩
  |succ j=>exact c (vs:=ws) (j:=j) b e
theorem Bi.take{xs:List OV}(n:Nat)(r:Bi F H vs xs):Bi F H (vs.take n) (xs.take n):=by
 induction xs generalizing vs n with
 |nil=>cases r.DC;rw[Wl,Wl];exact .nil
 |cons p ps c=>
  obtain⟨v,us,rfl,a,b⟩:=r.inv;cases n with
  |zero=>exact .nil
  |succ n=>exact .cons a (c n b)
theorem Bi.drop{xs:List OV}(n:Nat)(r:Bi F H vs xs):Bi F H (vs.drop n) (xs.drop n):=by
 induction xs generalizing vs n with
 |nil=>cases r.DC;rw[Wh,Wh];exact .nil
 |cons p ps c=>
  cases n with
  |zero=>exact r
  |succ n=>obtain⟨v,us,rfl,a,b⟩:=r.inv;exact c n b
theorem Bi.fzs(r:Bi F H vs (xs.map .fz)):AE F vs xs:=by
 induction xs generalizing vs with
 |nil=>cases r.DC;exact .nil
 |cons p ps c=>obtain⟨v,us,rfl,a,b⟩:=r.inv;exact .cons a.inv (c b)
section
variable[Xw]
variable{K:ZAe}
theorem OV.kF(h:t.at p=some u):∀a∈u.addrs,a∈t.addrs:=λa ha=>by
 obtain⟨l,r,e,_⟩:=OV.split h;rw[e];simp[ha]
theorem Bq.mv{v:V}(r:Bq F H v u)(S:Sg E ss Z F H)(hi:∃lt,ss[i]?=some (.ow lt t))(h:t.at p=some u)(m:Mv E ss Z F H F' H'):Bq F' H' v u:=
 r.mono m.ff λa ha o e=>m.hh a o (S.RQ hi.choose_spec (OV.kF h a ha) (by simp)) e
theorem Bq.rep(ff:A9 F F1):∀{v:V}{t:OV},Bq F H v t->(∀a∈t.addrs,∀o,H a=some o->F1 a=some o)->Rep F1 v t.pv:=by
 intro v t r h;exact Bq.rec (motive_1:=λv t _=>(∀a∈t.addrs,∀o,H a=some o->F1 a=some o)->Rep F1 v t.pv) (motive_2:=λvs ts _=>(∀a∈OV.Dd ts,∀o,H a=some o->F1 a=some o)->AE F1 vs (OV.Ej ts))
  (λ{v p}r _=>by rw[OV.pv];exact r.mono ff)
  (λ{a vs xs}e _ b h=>by rw[OV.pv];exact .tup (ff _ _ e) (b (by rw[OV.MV]at h;exact h)))
  (λ{k a vs xs}e j f _ b h=>by
   rw[OV.Mc]at h;have d:=b λa ha=>h a (by simp[ha]);have c:=h a (by simp) _ e;cases k with
   |lst=>rw[OV.pv];exact .lst c d
   |Ce ks=>rw[OV.pv];exact .Ce c f d
   |obj C dx ns=>rw[OV.pv];exact .obj c (h dx (by simp[NK.more]) _ j) f d)
  (λ_=>by rw[OV.Ej];exact .nil)
  (λ_ _ g i h=>by
   rw[OV.Ip]at h;rw[OV.Ej];exact .cons (g λa ha=>h a (by simp[ha])) (i λa ha=>h a (by simp[ha])))
  r h
variable{lt:Bool}
theorem AE.erase:∀{vs:List V}{xs:List PV}(n:Nat),AE F vs xs->AE F (vs.eraseIdx n) (xs.eraseIdx n):=by
 intro vs xs n r
 induction xs generalizing vs n with
 |nil=>cases r.DC;exact .nil
 |cons p ps c=>
  obtain⟨v,ws,rfl,a,b⟩:=r.inv;cases n with
  |zero=>exact b
  |succ n=>exact .cons a (c n b)
end
theorem OK:∀{xs:List PV},(∀x∈xs,Bc x x=true)->C8 xs xs=true
 | [],_=>by rw[C8]
 |x::r,h=>by rw[P7,h x (by simp),OK (xs:=r) λy a=>h y (by simp[a])];rfl
theorem Y7{K:ZAe}:∀(d:Nat){p:PV},dat K d p->Bc p p=true:=by
 intro d
 induction d with
 |zero=>intro p h;cases p <;> first|exact h.elim|rfl|exact jR _
 |succ d b=>
  intro p h;cases p with
  |lst xs=>show C8 xs xs=true;exact OK λx hx=>b (h x hx)
  |tup xs=>show C8 xs xs=true;exact OK λx hx=>b (h x hx)
  |con a xs=>show C8 xs xs=true;exact OK λx hx=>b (h.1 x hx)
  |_=>first|exact h.elim|rfl|exact jR _
theorem Ym:∀(xs:List PV),OV.Ej (xs.map .fz)=xs
 | []=>by rw[List.map_nil,OV.Ej]
 |x::r=>by rw[Cn,OV.Ej,OV.pv,Ym r]
theorem wY(a:Addr)(xs:List PV):(OV.nd .lst a (xs.map .fz)).pv=.lst xs:=by rw[OV.pv,Ym]
theorem wV(a b:OV):(OV.tp [a,b]).pv=.tup [a.pv,b.pv]:=by rw[OV.pv,OV.Ej,OV.Ej,OV.Ej]
theorem tV(p:PV):(OV.fz p).pv=p:=by rw[OV.pv]
end Fz
namespace L2
variable{M:Model}{A:Around}{E Q xe:Value->Shared->Prop}{s s':Shared}{Zk h':Heap}{env:Env}{l outer:List Env}{C S a b ea f fI:Addr}{dx fr tb:Option Addr}{o:HO}{vs:Array Value}{cd head u v:Value}{oI oe ox:Obj}{P prog:Program}{w:World}{mN mg:ZAg}{N ps sn:List Str}{n name par qual x:Str}{scope:Scope}{H H':Hp}{e e0:Expr}{X:Cx}{Zd pn:ZAf}{Z:St}{GW r:Option Value}{E':St->XK}{Bs LW np p:Pos}{es:List Expr}{t:TA}{ab hdct:Bool}{PM us:List Value}{od:Option Obj}{tk:Tok}{j k kk t':Nat}{ta te:TE}{fd:FuncData}{b0:Stmt}{LR:(St->XK)->TS}{th:TS}{sp:Sp}
structure DW (h:Heap) (ea:Addr) (C:Value) (dx tb:Option Addr):Prop where
 obj:∃oe vs,h.get? ea=some oe/\oe.cls=C/\oe.dict=dx/\oe.data=.fields vs/\1<vs.size/\vs[1]?=some (tb.elim Value.none Value.ref)
 ent:∀T,tb=some T->T≠ea/\∃oT ts,h.get? T=some oT/\oT.data=.fields ts/\3<ts.size
section
variable{L:Addr}{C:Value}{Q:Unit->Shared->Prop}
theorem xD(o:Obj)(g:Array Value->Array Value):(o.mapFields g).dict=o.dict:=by
 obtain⟨c,d,a,b⟩:=o;cases a <;> rfl
structure Kp (l:List Env) (ea:Addr) (tb:Option Addr) (h h':Heap):Prop where
 keep:∀b o,h.get? b=some o->b∉Bf l->b≠ea->tb≠some b->h'.get? b=some o
 slot:∀b o,h.get? b=some o->b∈Bf l->∃sl,h'.get? b=some { o with slots:=sl }
 size:h.objs.size<=h'.objs.size
theorem cg(hl:s.heap.FunFrames Zk (env::outer)){o:Obj}(ho:s.heap.get? b=some o)(hd:o.data=.fields vs):b∉Bf (env::outer):=λd=>by
 obtain⟨_,u,a,c⟩:=hl.mem d;rw[ho]at a;cases a;exact c vs hd
theorem aw{more:Bool}(IT:A.frames=some (env::outer))(hl:s.heap.FunFrames Zk (env::outer))(r:env.frame=some L)
  (f:s.heap.get? ea=some oe) (t:oe.cls=C) (RF:oe.dict=dx) (hd:oe.data=.fields vs) (c:1<vs.size)
  (h:∀h' T,Kp (env::outer) ea none s.heap h'->s.heap.objs.size<=T->DW h' ea C dx (some T)->Q () { s with heap:=h' }) :
  wpAny M A (do
   let fr <- frameOf env
   let pl <- entryPlaceOf L more
   let b <- EntryCells.newEntry head fr Value.none (rawInt L) Value.none pl
   setField (.ref ea) 1 b) Q E s:=by
 have l:=cg hl f hd;refine fq (wpAny_frameOf_fun IT hl r λg a=>?_);refine fq (wpAny_entryPlaceOf λpl q=>?_);unfold EntryCells.newEntry newFields;refine fq (pA ?_ (q.sizeOk5 _ _ _ _ _));generalize u:([head,Value.ref L,Value.none,rawInt L,Value.none]++(if pl.isEmpty then List.replicate 6 Value.none else pl)).toArray=ts
 have n:3<ts.size:=by
  rw[<- u];simp only[Bh,Cm,B6,Wk];omega
 have j:g.get? ea=some oe:=(a.2.1 ea l).trans f;have v:(g.push { cls:=.type "traceback", dict:=none,data:=.fields ts }).get? g.objs.size=some { cls:=.type "traceback", dict:=none,data:=.fields ts }:=BE g rfl;have i:=Ao (h:=g) { cls:=.type "traceback", dict:=none,data:=.fields ts } j;have m:g.objs.size≠ea:=Fo (AX j);have k:=Qc hd (·.setIfInBounds 1 (Value.ref g.objs.size))
 have x:=Ln (Obj.mapFields (·.setIfInBounds 1 (Value.ref g.objs.size))) i (fT k)
 have y:=(Ht (g.push { cls:=.type "traceback", dict:=none,data:=.fields ts }) (Obj.mapFields (·.setIfInBounds 1 (Value.ref g.objs.size))) (BS m)).trans v
 refine uC i hd c (h _ g.objs.size ⟨λb o d Kw Ek _=>?_,λb o d HN=>?_,?_⟩ ?_ ⟨⟨_,_,x,?_,?_,k,?_,?_⟩,λT w=>?_⟩)
 .have e:g.get? b=some o:=(a.2.1 b Kw).trans d;rw[Ht _ _ (BS Ek)];exact Ao _ e
 .obtain⟨p,e⟩:=a.2.2 b o d;refine⟨p,?_⟩;rw[Ht _ _ (by rintro rfl;exact l HN)];exact Ao _ e
 .rw[QJ,Dm,a.1];exact GQ _
 .rw[a.1];exact AZ _
 .rw[Obj.cls_mapFields];exact t
 .rw[xD];exact RF
 .simpa using c
 .simp[c]
 .cases w;exact⟨m,_,_,y,rfl,n⟩
theorem Kp.refl{l:List Env}{ea:Addr}{tb:Option Addr}{h:Heap}:Kp l ea tb h h:=⟨λ_ _ a _ _ _=>a,λ_ o a _=>⟨o.slots,a⟩,AZ _⟩
theorem ZD(IT:A.frames=some (env::outer))(hl:s.heap.FunFrames Zk (env::outer))(f:env.frame=some L)(hx:DW s.heap ea C dx tb)
  (h:∀h' T,Kp (env::outer) ea tb s.heap h'->s.heap.objs.size<=T∨tb=some T->DW h' ea C dx (some T)->Q () { s with heap:=h' }) :
  wpAny M A (noteFrame (.ref ea) env) Q E s:=by
 obtain⟨oe,vs,g,m,hd,GJ,j,h1⟩:=hx.obj;unfold noteFrame;simp only[f];refine fq (iM g GJ h1 ?_);cases tb with
 |none=>
  rw[hZ (by decide)];exact aw IT hl f g m hd GJ j λh' T k q=>h h' T k (.inl q)
 |some T=>
  obtain⟨Hq,p,ts,c,G6,i⟩:=hx.ent T rfl;show wpAny M A (do if(Value.ref T != Value.none)=true then _ else _) _ _ _
  rw[i6 (show(Value.ref T != Value.none)=true from by simp)];refine fq (iM c G6 (zF i) ?_)
  by_cases l:(ts[3] == rawInt L)=true
  .rw[i6 l];exact fv (h s.heap T Kp.refl (.inr rfl) hx)
  rw[hZ l];refine fq (uC c G6 i ?_);have d:∀b,b≠T->(s.heap.update T (Obj.mapFields (·.setIfInBounds 3 Value.none))).get? b=s.heap.get? b:=λb a=>Ht _ _ (BS a)
  have n:=cg hl c G6;refine aw (s:={ s with heap:=s.heap.update T (Obj.mapFields (·.setIfInBounds 3 Value.none)) }) IT (hl.of_keeps λb o a e=>⟨o,(d b (by rintro rfl;rw[c]at a;cases a;exact e ts G6)).trans a,rfl⟩) f ((d ea (BS Hq)).trans g) m hd GJ j λh' T' k e x=>?_
  refine h h' T' ⟨λb o a Kw Ek La=>k.keep b o ((d b (by rintro rfl;exact La rfl)).trans a) Kw Ek (by simp),λb o a HN=>k.slot b o ((d b (by rintro rfl;exact n HN)).trans a) HN,?_⟩ (.inl ?_) x
  .have z:=k.size;rw[show(s.heap.update T (Obj.mapFields (·.setIfInBounds 3 Value.none))).objs.size=s.heap.objs.size from QJ ..]at z
   exact z
  .have z:=e;rw[show(s.heap.update T (Obj.mapFields (·.setIfInBounds 3 Value.none))).objs.size=s.heap.objs.size from QJ ..]at z
   exact z
theorem RI(x:DW s.heap ea C dx tb)(hl:∀b∈Bf l,∃o,s.heap.get? b=some o/\∀vs,o.data≠.fields vs)
  (h:∀h',Kp l ea tb s.heap h'->DW h' ea C dx tb->Q () { s with heap:=h' }):wpAny M A (setFlight (.ref ea) fr) Q E s:=by
 obtain⟨oe,vs,g,m,hd,GJ,j,h1⟩:=x.obj;unfold setFlight;refine fq (iM g GJ h1 ?_);cases tb with
 |none=>
  rw[hZ (by decide)];exact fv (h s.heap Kp.refl x)
 |some T=>
  obtain⟨Hq,p,ts,c,G6,e⟩:=x.ent T rfl;rw[i6 (show((some T).elim Value.none Value.ref != Value.none)=true from by simp)];generalize (fr.elim Value.none λf=>rawInt f)=mk;have d:∀b,b≠T->(s.heap.update T (Obj.mapFields (·.setIfInBounds 3 mk))).get? b=s.heap.get? b:=λb a=>Ht _ _ (BS a)
  have i:=Ln (Obj.mapFields (·.setIfInBounds 3 mk)) c (fT (Qc G6 _))
  refine uC c G6 e (h _ ⟨λb o a _ _ La=>(d b (by rintro rfl;exact La rfl)).trans a,λb o a HN=>⟨o.slots,(d b ?_).trans a⟩,by rw[QJ];exact AZ _⟩ ⟨⟨oe,vs,(d ea (BS Hq)).trans g,m,hd,GJ,j,h1⟩,λT' n=>?_⟩)
  .rintro rfl;obtain⟨o',Cz,k⟩:=hl b HN;rw[c]at Cz;cases Cz;exact k ts G6
  .cases n;exact⟨Hq,_,_,i,Qc G6 _,by simpa using e⟩
theorem Kp.frames{h:Heap}(k:Kp l ea tb h h')(hl:h.FunFrames Zk l):∀b∈Bf l,∃o,h'.get? b=some o/\∀vs,o.data≠.fields vs:=λb a=>by
 obtain⟨_,o,ho,c⟩:=hl.mem a;obtain⟨d,e⟩:=k.slot b o ho a;exact⟨_,e,c⟩
theorem Kp.trans{T:Addr}{h h1 h2:Heap}(k:Kp l ea tb h h1)(c:h.objs.size<=T∨tb=some T)(k2:Kp l ea (some T) h1 h2):Kp l ea tb h h2:=
 ⟨λb o a Kw Ek La=>k2.keep b o (k.keep b o a Kw Ek La) Kw Ek (λz=>c.elim (λy=>absurd (AX a) (Nat.not_lt.mpr (B4 z▸y))) λy=>La (y.trans z)),
  λb o a HN=>by
  obtain⟨f,e⟩:=k.slot b o a HN;obtain⟨Jk,d⟩:=k2.slot b _ e HN;exact⟨Jk,d⟩,Ax k.size k2.size⟩
theorem dz(IT:A.frames=some (env::outer))(hl:s.heap.FunFrames Zk (env::outer))(c:env.frame=some L)(hx:DW s.heap ea C dx tb)
  (h:∀h' T,Kp (env::outer) ea tb s.heap h'->s.heap.objs.size<=T∨tb=some T->DW h' ea C dx (some T)->Q () { s with heap:=h' }) :
  wpAny M A (noteFrame (.ref ea) env) (λ_ s'=>wpAny M A (setFlight (.ref ea) none) Q E s') E s:=
 ZD IT hl c hx λh1 T k a x=>RI x (k.frames hl) λh2 k2 b=>h h2 T (k.trans a k2) a b
theorem kX(IT:A.frames=some (env::outer))(hl:s.heap.FunFrames Zk (env::outer))(a:env.frame=some L)(hx:DW s.heap ea C dx tb)
  (h:∀h' T,Kp (env::outer) ea tb s.heap h'->s.heap.objs.size<=T∨tb=some T->DW h' ea C dx (some T)->Q () { s with heap:=h' }):wpAny M A (leaving env (.ref ea)) Q E s:=by
 unfold leaving;exact fq (dz IT hl a hx h)
end
def Hg(P:Program)(w:World):EV:=λouter H s E e s'=>∃(ea C:Addr)(dx tb:Option Addr)(H':Hp),e=.ref ea/\s'.os=s.os/\AllBare s'.gens/\Un (Bf outer) [] H H' s.heap s'.heap/\BY P w H' s'.heap/\
 DW s'.heap ea (.ref C) dx tb/\(H' ea=none/\s.heap.get? ea=none)/\(∀T,tb=some T->H' T=none/\s.heap.get? T=none)/\E (.ref C) dx H'
def MI(X:Cx)(E:XK)(e:Value)(s':Shared):Prop:=∃(Zd:ZAf)(Z:St)(H':Hp)(ea C:Addr)(dx tb:Option Addr),e=.ref ea/\Inv X Zd Z H' s'/\
 DW s'.heap ea (.ref C) dx tb/\(H' ea=none/\X.s₀.heap.get? ea=none)/\(∀T,tb=some T->H' T=none/\X.s₀.heap.get? T=none)/\E (.ref C) dx H'
section
variable{K:ZAe}{E:XK}
theorem BY.cV{h:Heap}(ok:BY P w H' h)(k:∀b u,H' b≠none->h.get? b=some u->h'.get? b=some u):BY P w H' h':=λa o e=>
 (ok a o e).FR (λb u c d=>k b u (by rcases c with rfl|c;(rw[e];simp);(rw[c];simp)) d) (λ_ z=>z) λ_ _ z=>z
theorem MI.leave{e:Value}(r:MI (Eh (Hg P w) P w K mg Zk N qual scope f cd A outer s H E) E e s'):(Eh (Hg P w) P w K mg Zk N qual scope f cd A outer s H E).xe e s':=by
 obtain⟨Zd,Z,H',ea,C,dx,tb,rfl,I,x,⟨j,h⟩,g,n⟩:=r;have fr:=I.ok.frames
 change s.heap.get? ea=none at h
 have g:∀T,tb=some T->H' T=none/\s.heap.get? T=none:=g;refine kX (outer:=outer) (L:=s.heap.objs.size) fr I.stack rfl x λh' T kp i l=>?_;have m:∀b o,s.heap.get? b=some o->b≠s.heap.objs.size:=λb o a=>BZ (AX a);have mem:∀b,b∈Bf (envOfC qual scope s.heap.objs.size f cd::outer)->b=s.heap.objs.size∨b∈Bf outer:=λb a=>by
  rcases List.mem_cons.mp (I.LU b a)with z|z
  .exact .inl z
  .exact .inr z
 have old:∀b o,s'.heap.get? b=some o->H' b≠none->h'.get? b=some o:=λb o a c=>kp.keep b o a (λz=>c (I.Pj b z)) (λz=>c (z▸j)) λz=>c (g b z).1;refine⟨ea,C,dx,some T,H',rfl,I.os,I.bare,⟨λb o a c d _=>?_,λb o a c d _=>?_,λb o a c hx=>I.base.free b o a c hx,λb o a hx=>?_,I.base.Ef,I.base.EH,I.base.Ed⟩,I.AB.cV λb u c a=>old b u a c,l,⟨j,h⟩,λT' p=>?_,n⟩
 .refine kp.keep b o (I.base.keep b o a c d (by simp[Eh])) (λz=>(mem b z).elim (m b o a) d) (by rintro rfl;rw[h]at a;cases a) λz=>?_;rw[(g b z).2]at a;cases a
 .obtain⟨t,h1⟩:=I.base.slot b o a c d (by simp[Eh]);have q:b∈Bf (envOfC qual scope s.heap.objs.size f cd::outer):=by
   show b∈List.filterMap _ (_::_);rw[QL];exact By _ d
  obtain⟨Jk,h2⟩:=kp.slot b _ h1 q;exact⟨Jk,h2⟩
 .obtain⟨k,h1⟩:=I.base.there b o a (by simp[Eh])
  by_cases d:b∈Bf (envOfC qual scope s.heap.objs.size f cd::outer)
  .obtain⟨Jk,h2⟩:=kp.slot b _ h1 d;exact⟨_,h2⟩
  .exact⟨k,kp.keep b k h1 d (by rintro rfl;rw[h]at a;cases a) λz=>by rw[(g b z).2]at a;cases a⟩
 .cases p;exact i.elim (λi=>⟨I.AB.fresh i,Lm (Ax I.sz i)⟩) (g T)
theorem MI.of{e:Value}(I:Inv X Zd Z H s)(c:X.ex=[])(h:Hg X.prog X.w X.stack H s E e s'):MI X E e s':=by
 have Cy:∀a,s.heap.get? a=none->X.s₀.heap.get? a=none:=λa ha=>by
  cases q:X.s₀.heap.get? a with
  |none=>rfl
  |some o=>
   obtain⟨n,h1⟩:=I.base.there a o q (by rw[c];simp);rw[ha]at h1;cases h1
 obtain⟨ea,C,dx,tb,H',rfl,os,bare,un,AB,x,⟨k,j⟩,f,l⟩:=h;obtain⟨hh,g,d,t,KN⟩:=s';obtain rfl:KN=s.os:=os;have m:=I.call (h':=hh) (g':=g) (d':=d) (t':=t) (ch:=[]) un AB bare (λb z=>absurd z (by simp));refine⟨Zd,Z,H',ea,C,dx,tb,rfl,m,x,⟨k,Cy _ j⟩,λT i=>⟨(f T i).1,Cy _ (f T i).2⟩,l⟩
end
abbrev ZW:List Value:=[.type "ValueError", .type "Exception", .type "BaseException", .type "object"]
structure iq (h:Heap) (C:Addr) (GW:Option Value):Prop where
 obj:∃bm N nm q bs hdct sn sub ab col dd k0 k1 k2 k3 k5 mN,h.get? C=some (excClassObj nm q C N bs bm hdct sn sub ab col dd k0 k1 k2 k3 k5 "ValueError.__new__")/\h.Ns N mN/\mN "__init__"=GW/\OwnTail h ZW bm
def Ll(K:ZAe)(C:Addr)(GW:Option Value):Bool:=match K.lookup C with
 |some ⟨.type "type", _,.cls cd,sl⟩=>(match cd.mro,sl.toList with
  | .ref C'::bm,[_,_,_,_,some (.builtin n),_]=>C' == C && n == "ValueError.__new__" && !cd.hasDel && PySem.W.tailIn K ZW bm && PySem.W.nsOkIn K cd.ns && PySem.W.nsIn K cd.ns "__init__" == some GW
  |_,_=>false)
 |_=>false
theorem Tf{K:ZAe}{h:Heap}(X:K.In h)(q:Ll K C GW=true):iq h C GW:=by
 unfold Ll at q;split at q
 .rename_i dd cd sl ho;split at q
  .rename_i C' bm k0 k1 k2 k3 n k5 hm hs;simp only[DT,ZAA,eV]at q;obtain⟨⟨⟨⟨⟨rfl,rfl⟩,b⟩,i⟩,AB⟩,FZ⟩:=q;obtain⟨nm,bs,g,ns,qn,hd,sn,sub,ab,col,del⟩:=cd;dsimp only at hm b AB FZ;subst hm b;obtain⟨l⟩:=sl;simp only at hs;subst hs;have G:h.Ns ns (h.nsMap ns):=.of_isNs (PySem.W.isNs_of_in X AB);refine⟨bm,ns,nm,qn,bs,hd,sn,sub,ab,col,dd,k0,k1,k2,k3,k5,_,X _ _ ho,G,?_,PySem.W.tail_of_in X i⟩;cases GW with
   |none=>exact PySem.W.ns_none_of X G FZ
   |some v=>
    obtain⟨o,es,ep,f,a,_,j⟩:=G;unfold PySem.W.nsIn at FZ;split at FZ
    .rename_i c d Bp n' sl q2;have z:=X _ _ q2;rw[f]at z;cases z;cases a;split at FZ
     .rename_i e he;rw[<- j];unfold nsFind findBy;rw[<- zE,he]
      simpa using FZ
     .split at FZ <;> cases FZ
    .cases FZ
  .cases q
 .cases q
theorem Bz.there{h:Heap}(x:Bz P w H h a o):∃u,h.get? a=some u:=by
 induction o with
 |lst xs=>obtain⟨_,_,_,_,e⟩:=x;exact⟨_,e⟩
 |tup xs=>obtain⟨_,_,_,⟨_,e,_⟩,_⟩:=x;exact⟨_,e⟩
 |dK AA=>obtain⟨_,_,_,_,_,_,_,e,_⟩:=x;exact⟨_,e⟩
 |dT AA=>obtain⟨_,_,_,_,_,_,_,e,_⟩:=x;exact⟨_,e⟩
 |set S n=>obtain⟨_,_,_,_,e,_⟩:=x;exact⟨_,e⟩
 |ins C dx fs=>obtain⟨_,_,_,e,_⟩:=x;exact⟨_,e⟩
 |own y=>exact x
 |xd fs=>obtain⟨_,⟨_,_,_,e,_⟩,_⟩:=x;exact⟨_,e⟩
 |met f y=>exact⟨_,x⟩
 |Pw lo hi=>obtain⟨_,_,_,e⟩:=x;exact⟨_,e⟩
 |EI ob u _=>exact⟨_,x.1⟩
 |Iv ps=>exact⟨_,x⟩
 |ext φ=>exact x.2.1
theorem BY.there{h:Heap}(x:BY P w H h)(e:H a=some o):∃u,h.get? a=some u:=(x a o e).there
section
variable{pos:Pos}{E:XK}
def Goes(X:Cx)(E:St->XK):Prop:=∀(Zd:ZAf)(Z:St)(H':Hp)(s':Shared)(ea C:Addr)(dx tb:Option Addr),Inv X Zd Z H' s'->DW s'.heap ea (.ref C) dx tb->(H' ea=none/\X.s₀.heap.get? ea=none)->(∀T,tb=some T->H' T=none/\X.s₀.heap.get? T=none)->
 (∀p∈X.pn++Zd,p.1≠ea/\tb≠some p.1)->E Z (.ref C) dx H'->X.xe (.ref ea) s'
end
abbrev HX(C t:Addr)(dx:Option Addr):Obj:={ cls:=.ref C,dict:=dx,data:=.fields #[.ref t,.none,.none,.none,.bool false,.none] }
section
variable{nm qn:Str}{N:Addr}{bs bm:List Value}{sub:List Value}{col:Option Bool}{dd:Option Addr}{k0 k1 k2 k3 k5:Option Value}{newId:String}
theorem oq{y:Sem Value}{Q:Flow->Shared->Prop}(e:bm.contains (.type "BaseException")=true)(hh:A.handled=none)
  (c:wpAny M A y (λv z=>∃ea t dx,v=.ref ea/\z.heap.get? C=some (excClassObj nm qn C N bs bm hdct sn sub ab col dd k0 k1 k2 k3 k5 newId)/\z.heap.get? ea=some (HX C t dx)/\E (.ref ea) z) E s) :
  wpAny M A (raiseStmt env (some y) none) Q E s:=by
 have h:(Value.ref C::bm).contains (.type "BaseException")=true:=by
  rw[zR,e,Bool.or_true]
 unfold raiseStmt;refine fq (i9 c (λv z b=>?_) λ_ _ q=>q);obtain⟨ea,t,dx,rfl,a,oe,f⟩:=b;obtain⟨i,g,d,tk,os⟩:=z
 repeat (first
  |with_reducible refine pd oe ?_
  |with_reducible refine pd a ?_
  | (with_reducible refine wpAny_isSubtype_exc a ?_;rw[h])
  |wp_step)
 exact wpAny_raiseNew_none hh f
variable{h:Heap}{g:Array GenState}{d:Drawn}{t:Nat}{os:OsState}{B YK:String}
theorem gG(F:ExcBaseFacts B newId YK PM)(T:OwnTail h PM bm){Q:PySem.Fin->Shared->Prop}
  (a:h.get? C=some (excClassObj nm qn C N bs bm hdct sn sub ab col dd k0 k1 k2 k3 k5 newId)) (n:h.Ns N mN) (hi:mN "__init__"=some (.ref fI)) (Tz:h.get? fI=some oI) (Sm:oI.cls=.type "function") (V0:us.length<=sizeLine)
  (m:∀h' ea,h.objs.size<=ea->Heap.MadeExcOf h h' ea (.ref C) us->wpAny (model prog w) A (call (.ref fI) (.ref ea::us)) (λr s'=>r=.none/\Q (.done (.ret (.ref ea))) s') E ⟨h',g,d,t,os⟩) :
  wpAny (model prog w) A (Builtin.«type.__call__» ⟨.ref C::us,[]⟩) Q E ⟨h,g,d,t,os⟩:=by
 repeat (first
  |with_reducible refine pd a ?_
  |with_reducible refine wpAny_madeBy_exc a ?_
  |wp_step)
 refine codeAny_call_builtin_code (WZ _ F.quiet) (wpAny_check_new_subT F T a ?_);refine codeAny_exc_new_subT F T a ?_ V0;show wpAny _ _ _ _ _ _;generalize j:({ cls:=.type "tuple", data:=.seq us.toArray }:Obj)=o1;generalize c:({ cls:=.ref C,data:=.fields #[.ref h.objs.size,.none,.none,.none,.bool false,.none] }:Obj)=o2;have up:∀{b:Addr}{o:Obj},h.get? b=some o->((h.push o1).push o2).get? b=some o:=λe=>Ao _ (Ao _ e);have f:((h.push o1).push o2).get? (h.objs.size+1)=some o2:=by
  rw[<- Dm h o1];exact BE _ (by rw[<- c];rfl)
 have g1:((h.push o1).push o2).get? h.objs.size=some o1:=Ao _ (BE h (by rw[<- j];rfl));have k:((h.push o1).push o2).Ns N mN:=n.keeps λb o e=>up e;have i:=up a;have u:=up Tz;have x:=T.keeps (h':=(h.push o1).push o2) λb o e=>up e;have v:(Value.ref C::bm).contains (.ref C)=true:=by simp
 have y:o2.cls=.ref C:=by rw[<- c]
 unfold isInstance;subst c
 repeat (first
  |with_reducible refine pd f ?_
  | (with_reducible refine wpAny_isSubtype_exc i ?_;rw[v])
  |wp_step)
 show wpAny _ _ (typeLookup (.ref C) _) _ _ _;refine wpAny_typeLookup_tail i k x F.mroIs F.init.lookup ?_;rw[hi];refine iZ (fq ?_);unfold bindSpecial;refine fq (wpAny_typeOf (T:="function") ⟨_,u,Sm⟩ ?_);rw[i6 (by decide)];subst j;refine fv (fq (i9 (m _ (h.objs.size+1) (GQ _) ⟨λb o p=>up p,Lm (GQ _),h.objs.size,f,Lm (AZ _),g1⟩) (λr s' l=>?_) λ_ _ q=>q));obtain⟨rfl,s⟩:=l
 wp_walk
 exact s
theorem qz(F:ExcBaseFacts B newId YK PM)(T:OwnTail h PM bm)
  (a:h.get? C=some (excClassObj nm qn C N bs bm hdct sn sub ab col dd k0 k1 k2 k3 k5 newId)) (c:h.Ns N mN) (hi:mN "__init__"=some (.ref fI)) (Tz:h.get? fI=some oI) (Sm:oI.cls=.type "function") (V0:us.length<=sizeLine)
  (b:∀h' ea,h.objs.size<=ea->Heap.MadeExcOf h h' ea (.ref C) us->wpAny (model prog w) (A.under (.builtin "type.__call__" ⟨.ref C::us,[]⟩)) (call (.ref fI) (.ref ea::us)) (λr s'=>r=.none/\Q (.ref ea) s') E ⟨h',g,d,t,os⟩) :
  wpAny (model prog w) A (call (.ref C) us) Q E ⟨h,g,d,t,os⟩:=by
 have f:=tc_lookup;have e:=tc_bind (.ref C);have ty:(⟨h,g,d,t,os⟩:Shared).TypeIs (.ref C) "type" := ⟨_,a,rfl⟩;refine qh (ZAB ?_);show wpAny _ _ (callAny (.ref C) _) _ _ _
 repeat (any_goals (first
  |assumption
  |with_reducible refine pd a ?_
  |wp_step))
 refine⟨rfl,?_⟩;exact codeAny_call_builtin_at (WZ _ (by decide +kernel)) entry_typeCall (wpAny_check_type_call_sub a (gG F T a c hi Tz Sm V0 b))
end
section
variable{K:ZAe}{x t:Addr}
def KD:List Value->Bool
 | [.type a,.type b,.type c,.type d]=>a == "ValueError" && (b == "Exception" && (c == "BaseException" && d == "object"))
 | .ref _::r=>KD r
 |_=>false
theorem pI(self:Value):PySem.refuseLoop self "__setattr__" [.type "ValueError", .type "Exception", .type "BaseException", .type "object"]=pure ():=by
 first|rfl|kernel_rfl
theorem XY{l:List Value}(h:KD l=true):l=[.type "ValueError", .type "Exception", .type "BaseException", .type "object"]∨∃c r,l=.ref c::r/\KD r=true:=by
 unfold KD at h;split at h
 .simp only[DT,ZAA]at h;obtain⟨rfl,rfl,rfl,rfl⟩:=h;exact .inl rfl
 .exact .inr ⟨_,_,rfl,h⟩
 .cases h
theorem rY(self:Value):∀{l:List Value},KD l=true->PySem.refuseLoop self "__setattr__" l=pure ():=by
 intro l
 induction l with
 |nil=>intro h;cases h
 |cons x r a=>
  intro h;rcases XY h with e|⟨c,r',e,h'⟩
  .rw[e];exact pI self
  .cases e;rw[PySem.refuseLoop_ref];exact a h'
theorem oh:∀{l:List Value},KD l=true->l.contains (.type "object")=true:=by
 intro l
 induction l with
 |nil=>intro h;cases h
 |cons x r a=>
  intro h;rcases XY h with e|⟨c,r',e,h'⟩
  .rw[e];decide
  .cases e;rw[zR,a h',Bool.or_true]
def OZ(K:ZAe)(C:Addr):Bool:=(PySem.W.clsIn K C).any λcd=>KD cd.mro
section
open PySem.Builtin PySem.Builtin.ObjectAttr
theorem oU{R:Result->Shared->Prop}(X:K.In s.heap)(I:PySem.W.InstAt s.heap x ox C od)(m:OZ K C=true)(l:PySem.W.takerIn K C name=some r)
  (h:∀b,wpAny (model prog w) A.in1 (match r with|some a=>setByDescriptor a (.ref x) v|none=>storeInOwnDict (.ref x) (.ref C) (.str name tk) name v b)
   (λg s'=>match g with | .done f=>R (.ok f) s' | .again k=>k.quiet=true/\codeAny (model prog w) A k R s') (λe s'=>R (.error e) s') s) :
  codeAny (model prog w) A (.call (.builtin "object.__setattr__") ⟨[.ref x,.str name tk,v],[]⟩) R s:=by
 have d:=PySem.F.store_object;obtain⟨cd,j,ho⟩:=zp m;have ne:cd.mro.isEmpty=false:=by cases q:cd.mro with|nil=>rw[q]at ho;cases ho|cons _ _=>rfl
 have sub:PySem.W.Looks (model prog w) s.heap (isInstance (.ref x) (.type "object")) true:=I.type.andThen (zy X (by unfold PySem.W.mroIn;rw[j,Ww,hZ (by rw[ne];decide),oh ho]));refine k9 d.slot.plain d.entry (@PySem.W.check_slot (model prog w) _ _ s "object.__setattr__" "object" "__setattr__" (.ref x) [.str name tk,v] [] _ d.kind d.split sub (d.args (.ref x) (.str name tk) v) ?_);obtain⟨c,ha,i⟩:=Option.bind_eq_some_iff.mp l;have n:PySem.W.Looks (model prog w) s.heap (mroOf (.ref C)) cd.mro:=(zw X j).andThen .now;have p:PySem.W.Looks (model prog w) s.heap (storeTaker? c) r:=by
  cases c with
  |none=>cases i;exact .now
  |some a=>
   obtain⟨b,o,rfl⟩:=Option.map_eq_some_iff.mp i;refine(PySem.W.looks_takesIn X o).andThen ?_;cases b <;> exact .now
 rw[PySem.W.osa_eq,PySem.refuse_eq];refine fq (fq (I.type.here (fq (n.here ?_))));rw[rY _ ho];refine fv (fq (I.type.here (fq ((fY X ha).here (fq (p.here ?_))))));exact h _
end
theorem oG(h:Heap):(h.push { cls:=.type "dict", data:=.dict #[] }).Ns1 h.objs.size (λ_=>none):=by
 refine⟨_,#[],_,BE h rfl,rfl,?_⟩;refine⟨λe a=>?_,?_,λ_=>rfl⟩
 .simp at a
 .simp[UniqKeys]
theorem gY{Q:Unit->Shared->Prop}(X:K.In s.heap)(ho:s.heap.get? x=some (HX C t none))
  (l:PySem.W.findIn K (.ref C) "__setattr__"=some (some (.builtin "object.__setattr__"))) (m:OZ K C=true) (k:PySem.W.takerIn K C name=some none) (hh:PySem.W.hasDictIn K C=true)
  (h:∀h' d,s.heap.objs.size<=d->h'.get? x=some (HX C t (some d))->h'.Ns1 d (λy=>if y=name then some v else none)->(∀b o,b≠x->s.heap.get? b=some o->h'.get? b=some o)->s.heap.objs.size<=h'.objs.size->Q () { s with heap:=h',toks:=s.toks+2 }) :
  wpAny (model prog w) A (setAttr (.ref x) name v) Q E s:=by
 have J:PySem.W.InstAt s.heap x (HX C t none) C none:=⟨ho,rfl,rfl,trivial⟩;refine PySem.W.set_plain X J l (oU (s:={ s with toks:=s.toks+1 }) (r:=none) X J m k λb=>?_)
 obtain⟨cd,n,Uv⟩:=zp hh;refine fq (fv (fq (fq (wpAny_loadPart ho (fq (PySem.W.Looks.here (s:={ s with toks:=s.toks+1 }) (zw X n) ?_))))))
 rw[Uv,hZ (by decide)];show wpAny _ _ (do
  let d <- alloc { cls:=Value.type "dict", data:=Data.dict #[] }
  update x λo=>{ o with dict:=some d }
  dictMade (Value.ref C) x d) _ _ _
 have f:x<s.heap.objs.size:=AX ho;refine fq (wpAny_alloc (fq (wpAny_update (Ao _ ho) ?_)));refine fq (fv (fv ?_));generalize a:((s.heap.push { cls:=Value.type "dict", data:=Data.dict #[] }).update x λo=>{ o with dict:=some s.heap.objs.size })=g
 have q:g.get? x=some (HX C t (some s.heap.objs.size)):=by
  rw[<- a];exact Ln _ (Ao _ ho) rfl
 have z:∀b o,b≠x->s.heap.get? b=some o->g.get? b=some o:=λb o c e=>by
  rw[<- a,Ht _ _ (BS c)];exact Ao _ e
 have p:g.objs.size=s.heap.objs.size+1:=by rw[<- a,QJ,Dm]
 have u:g.Ns1 s.heap.objs.size (λ_=>none):=(oG s.heap).at λo e=>by
  rw[<- a,Ht _ _ (BZ f)];exact e
 refine fq (fv (fq ?_));refine wpAny_nsSet1 (s:=⟨g,s.gens,s.drawn,s.toks+1,s.os⟩) u λh' Fi DX=>?_;obtain⟨F,B,D,j,i,HB⟩:=Fi.count (PySem.Within.cons (ns:=[]) name v PySem.Within.nil);refine fq (wpAny_lookBehind j (by rw[i];exact pastItsLine_dict (Ax HB (zh (DV _)))) ?_);exact fv (h h' s.heap.objs.size (AZ _) ((DX.2 x (BZ f)).trans q) Fi (λb o c e=>(DX.2 b (BZ (AX e))).trans (z b o c e)) (by rw[DX.1,p];exact GQ _))
end
def Dr(ea C:Addr)(dx:Option Addr):HO:=.ext λh=>∃t,h.get? ea=some (HX C t dx)
theorem Th{h:Heap}{t:Addr}(e:h.get? ea=some (HX C t dx)):Bz P w H h ea (Dr ea C dx):=
 ⟨⟨t,e⟩,⟨_,e⟩,λ_ _⟨t',a⟩k=>⟨t',k _ a⟩⟩
theorem Inv.exc(I:Inv X Zd Z H s){ea C:Addr}{dx:Option Addr}(e:H ea=some (Dr ea C dx)):∃t,s.heap.get? ea=some (HX C t dx):=(I.AB ea _ e).1
theorem Inv.yR{t:Addr}{dx':Option Addr}(I:Inv X Zd Z H s)(e:H ea=some (Dr ea C dx))(k:∀b u,b≠ea->s.heap.get? b=some u->h'.get? b=some u)(a:h'.get? ea=some (HX C t dx')):
  Inv X Zd Z (upd H ea (Dr ea C dx')) { s with heap:=h',toks:=t' }:=by
 have c:MB (H ea):=by rw[e];trivial
 exact I.write c (.inl rfl) k ⟨_,a⟩ (Th a)
def Ng:V->Prop
 | .str x=>(reprText x).length<=100000
 | .int i=>i.natAbs.log2<1920
 |_=>False
section
variable{pos p1 p2 p3:Pos}{k1 k2:Nat}{c1 c2:Str}
theorem tJ{R:St->Hp->Prop}(f:PE X e te)(I:Inv X Zd Z H s)(h:te Z H λv H1=>Ng v/\R Z H1)
  (b:∀y t c H1,y.length<=200000->Inv X Zd Z H1 c->R Z H1->Q (.str y t) c):wpAny (model X.prog X.w) X.A (eval (.FormattedValue e 114 none pos) X.env) Q X.xe s:=by
 refine wpAny_FormattedValue_repr (AG (f Zd s Z H _ I h) λu c⟨v,H1,I1,d,sv,a⟩=>?_);cases v with
 |str x=>
  obtain⟨t,rfl⟩:=d;have sz:(reprText x).length<=sizeLine:=Ax sv (by decide +kernel);refine wpAny_pyReprObj_str ?_ sz;refine wpAny_formatField_str ?_ ?_ sz
  .exact b _ _ _ H1 (Ax sv (by decide)) (I1.tok _) a
  .exact b _ _ _ H1 (Ax sv (by decide)) (I1.tok _) a
 |int i=>
  obtain⟨t,rfl⟩:=d;have l1:(Str.ofString (toString i)).length<=sizeLine:=int_text_fits sv;have g:i.natAbs.log2<1920:=sv;have l2:(Str.ofString (toString i)).length<=200000:=by
   have h1:i.natAbs<10 ^ 600:=by
    by_cases z:i.natAbs=0
    .rw[z];decide +kernel
    .exact Nc ((fP z).mp g) (by decide +kernel)
   have e:=int_text_length_le10 (k:=600) (by decide) h1;clear h1;rw[ZA0];omega
  refine wpAny_pyReprObj_gives (typeIs_int _ i t) F.slot_int_repr F.entry_int_repr (F.args_int_repr_1 _) (gives_int_repr i t sv) ?_ rfl l1;refine wpAny_formatField_str ?_ ?_ l1
  .exact b _ _ _ H1 l2 (I1.tok _) a
  .exact b _ _ _ H1 l2 (I1.tok _) a
 |_=>exact sv.elim
def b6(te:TE):TE:=λZ H Q=>te Z H λv H1=>Ng v/\∀y,Q (.str y) H1
theorem len_app(a b:Str):(a++b).length=a.length+b.length:=strLen_append a b
theorem iS(b:PE X e te)(h1:c1.length<=1000):PE X (.JoinedStr [.Constant (.str c1) k1 p1,.FormattedValue e 114 none p2] pos) (b6 te):=by
 intro Zd s Z H Q I h;have a:(Str.empty++c1).length<=1000:=by rw[len_app];show 0+_<=_;omega
 refine wpAny_JoinedStr (show wpAny _ _ (eval (.Constant (.str c1) k1 p1) X.env) _ _ s from λ_ _ _=>⟨c1,_,rfl,Ax a (by decide +kernel),?_⟩);refine tJ (R:=λ_ H1=>∀y,Q (.str y) H1) b (I.tok _) h λy t d H1 f I1 c=>⟨y,t,rfl,?_,?_,?_⟩
 .rw[len_app];exact Ax (show _<=201000 by omega) (by decide +kernel)
 .rw[len_app];exact Ax (show _<=201000 by omega) (by decide +kernel)
 .exact⟨.str _,H1,I1.tok _,⟨_,rfl⟩,c _⟩
end
structure cD (K:ZAe) (S:Addr):Prop where
 ga:PySem.W.specialIn K (.ref S) "__getattribute__"=some (some (.builtin "type.__getattribute__"))
 rd:PySem.W.readsIn K S (.type "type")=true
 fd:PySem.W.findCls K (.ref S) (.type "type") "__init__"=some (.val (.builtin "ValueError.__init__"))
 hd:PySem.W.handedIn (.builtin "ValueError.__init__")=true
structure Mg (K:ZAe) (C fI:Addr) (fld:Str):Prop where
 ex:Ll K C (some (.ref fI))=true
 sa:PySem.W.findIn K (.ref C) "__setattr__"=some (some (.builtin "object.__setattr__"))
 po:OZ K C=true
 tk:PySem.W.takerIn K C fld=some none
 hd:PySem.W.hasDictIn K C=true
 fn:PySem.W.isFn K (.ref fI)=true
 kp:PySem.W.keepIn K (.ref C)=true
theorem ax{x:V}{xs:List V}(r:Vals (x::xs) us):∃u XF,us=u::XF/\RelV x u/\Vals xs XF:=by
 cases r with
 |cons a b=>exact⟨_,_,rfl,a,b⟩
theorem xq(h:H a=some o):upd H a o=H:=by
 funext b
 unfold upd;split
 .rename_i e;rw[e,h]
 .rfl
section
variable{fld:Str}
theorem mY{t:Addr}(I:Inv X Zd Z H s)(hx:H ea=some (Dr ea C none))(q:Ll X.K C GW=true)
  (h:∀s',Inv X Zd Z H s'->Q .none s'):wpAny (model X.prog X.w) X.A (call (.builtin "ValueError.__init__") [.ref ea,u]) Q X.xe s:=by
 obtain⟨k,ho⟩:=I.exc hx;obtain⟨bm,N,nm,qn,bs,hdct,sn,sub,ab,col,dd,k0,k1,k2,k3,k5,mN,i,l,FZ,T⟩:=(Tf I.Ay q).obj;have F:=zm;have m:H C=none:=by
  cases z:X.base.get? C with
  |some o=>exact(I.bs C o z).2
  |none=>
   obtain⟨_,_,_,_,_,_,_,_,_,_,_,_,_,_,_,_,_,ZN,_⟩:=(Tf I.mod.Jj q).obj;rw[z]at ZN;cases ZN
 obtain⟨a,g,d,tk,os⟩:=s;refine qh (k9 F.init.plain F.initEntry (wpAny_check_init_subT F T i ho rfl ?_))
 wp_walk
 refine h _ ?_;have c:=I.yR (h':=(a.push { cls:=Value.type "tuple", data:=Data.seq #[u] }).update ea (Obj.mapFields λx=>x.setIfInBounds 0 (Value.ref a.objs.size))) (t':=tk) (t:=a.objs.size) (dx':=none) hx (λb j f e=>by
  rw[Ht _ _ (BS f)];exact Ao _ e) (by
  rw[Ln _ (Ao _ ho) rfl];rfl)
 rw[xq hx]at c;exact c
def Zq(C:Addr)(t:TA):TE:=λZ H Q=>t Z H λvs H1=>∃ea v,vs=[.ref ea,v]/\H1 ea=some (Dr ea C none)/\Q .A5 H1
theorem mM{pl:Sem Bool}{apos pos:Pos}(sp:cD X.K S)(m:Gl X x)(l:X.mg x=some (.ref S))(q:Ll X.K C GW=true)(ha:PA X (e::es) t)
  (B7:(x == ("__debug__":Str))=false:=by decide) (As:starEach (e::es) X.env=(false,eval e X.env)::starEach es X.env:=by rfl) (B1:(backTo pos (starEach es X.env)).any (·.1)=false:=by rfl)
  (ht:eval (.Call (.Attribute (.Name x p) "__init__" apos) (e::es) [] pos) X.env=(do
   let ov <- eval (.Name x p) X.env
   standAt apos.atName
   let (f,first) <- holding [ov] (getMethod ov "__init__" pl)
   callWith pos f first (backTo pos (starEach (e::es) X.env)) (backToKw pos (keywordEach [] X.env))):=by rfl) :
  PE X (.Call (.Attribute (.Name x p) "__init__" apos) (e::es) [] pos) (Zq C t):=by
 intro Zd s Z H Q I h;refine PySem.W.methodCall_KW (pl:=pl) (LO I m l ?_ B7) ht;refine PySem.W.method_cls I.Ay sp.ga (PySem.W.cls_value I.Ay sp.rd sp.fd sp.hd ?_);have a:=ha pos Zd { s with toks:=s.toks+1 } Z H _ (I.tok _) h
 show wpAny _ _ (callWith pos (.builtin "ValueError.__init__") [] (backTo pos (starEach (e::es) X.env)) _) _ _ _;rw[As]at a ⊢;refine zJ (by show(false || (backTo pos (starEach es X.env)).any (·.1))=false;rw[B1] <;> rfl) (Calls.evalArgs_plain ?_)
 refine AG a λus s2⟨vs,H2,I2,k,ea,v,o,hx,n⟩=>?_;subst o;obtain⟨d,c,rfl,g,j⟩:=ax k;obtain⟨r,b,rfl,Ot,i⟩:=ax j;cases i;cases(show d=Value.ref ea from g);exact mY (t:=ea) I2 hx q λs' I'=>⟨.A5,H2,I',rfl,n⟩
def Yd(C:Addr)(f:Str)(ta tv:TE):TS:=λD Z H=>tv Z H λy H1=>ta Z H1 λx H2=>∃ea,x=.ref ea/\H2 ea=some (Dr ea C none)/\∀d,H2 d=none->D.nx Z (upd (upd H2 d (.xd [(f,y)])) ea (Dr ea C (some d)))
theorem i3{o value:Expr}{pos pos':Pos}{tv:TE}(c:Mg X.K C fI fld)(ha:PE X o ta)(A:PE X value tv)(E:swapsWith value (some (.Attribute o fld pos')) pos.line X.env=pure false):PS X (.Assign [.Attribute o fld pos'] value pos) (Yd C fld ta tv):=by
 intro Zd s Z H D I h;refine plainObj_wpAny_Assign_Attribute (AG (A Zd s Z H _ I h) λu p⟨y,H1,I1,r,q⟩=>AG (ha Zd p Z H1 _ I1 q) λw s2⟨x,H2,I2,t,ea,ex,hx,v⟩=>?_) E;subst ex;obtain rfl:w=Value.ref ea:=t;obtain⟨G,ho⟩:=I2.exc hx;refine gY I2.Ay ho c.sa c.po c.tk c.hd λh' d hd l F k J=>?_;have f:H2 d=none:=I2.AB.fresh hd;have L:d≠ea:=by rintro rfl;rw[hx]at f;cases f
 refine⟨Z,_,I2.un (t':=s2.toks+2) (h':=h') ⟨λb o e n _ _=>k b o (by rintro rfl;rw[hx]at n;cases n) e,λb o e n _ _=>⟨o.slots,k b o (by rintro rfl;rw[hx]at n;cases n) e⟩,λb o e n _=>?_,λb o e _=>?_,λb xs e=>?_,λb o' j e=>?_,λb ps e=>?_⟩ ?_,v d f⟩
 .rw[AJ (by rintro rfl;rw[hx]at n;cases n),AJ (by rintro rfl;exact absurd (AX e) (Nat.not_lt.mpr hd))];exact n
 .by_cases z:b=ea
  .subst z;exact⟨_,l⟩
  .exact⟨o,k b o z e⟩
 .rw[AJ (by rintro rfl;rw[hx]at e;cases e),AJ (Ct e f)];exact e
 .rw[AJ (by rintro rfl;rw[hx]at e;cases e),AJ (Ct e f)];exact e
 .exact⟨#[],by rw[AJ (by rintro rfl;rw[hx]at e;cases e),AJ (Ct e f),e];simp⟩
 .intro b o e
  by_cases z:b=ea
  .subst z;rw[AY]at e;cases e;exact Th l
  .rw[AJ z]at e
   by_cases i:b=d
   .subst i;rw[AY]at e;cases e;refine⟨_,F,λm=>?_⟩
    by_cases g:m=fld
    .subst g;rw[i6 rfl,List.lookup_cons_self];exact r
    .rw[hZ g,HA];rw[show(m == fld)=false from by simpa using g]
     exact trivial
   .rw[AJ i]at e;refine(I2.AB b o e).FR (λc j a B=>k c j ?_ B) (λc a=>?_) λc xs a=>?_
    .rcases a with rfl|a
     .exact z
     .rintro rfl;rw[hx]at a;cases a
    .rw[AJ (by rintro rfl;rw[hx]at a;cases a),AJ (Ct a f)];exact a
    .rw[AJ (by rintro rfl;rw[hx]at a;cases a),AJ (Ct a f)];exact a
end
def Lk(C:Addr)(fld:Str):Sp:=λvs H Q _=>∃(ea:Addr)(v:V),vs=[.ref ea,v]/\Ng v/\H ea=some (Dr ea C none)/\∀d,H d=none->Q .A5 (upd (upd H d (.xd [(fld,v)])) ea (Dr ea C (some d)))
def My(C:Addr)(fld:Str)(E:St->XK)(t:TA):TS:=λ_ Z H=>t Z H λvs H1=>∃v,vs=[v]/\Ng v/\∀d,H1 d=none->E Z (.ref C) (some d) (upd H1 d (.xd [(fld,v)]))
def Lh(H:Hp)(a:Addr):Hp:=λb=>if b=a then none else H b
theorem P2(h:b≠a):Lh H a b=H b:=hZ h
theorem RV:Lh H a a=none:=i6 rfl
section
theorem Inv.forget(I:Inv X Zd Z H s){φ:Heap->Prop}(e:H a=some (.ext φ))(k:∀p∈X.pn++Zd,p.1≠a):Inv X Zd Z (Lh H a) s:=by
 have keep:∀b o,b≠a->H b=o->Lh H a b=o:=λb o h q=>by rw[P2 h];exact q
 have f:∀b,H b=none->Lh H a b=none:=λb q=>by
  by_cases z:b=a
  .subst z;exact RV
  .rw[P2 z];exact q
 refine⟨I.ok,I.os,I.bare,⟨I.base.keep,I.base.slot,λb o q n hx=>f b (I.base.free b o q n hx),I.base.there,λb xs q=>?_,λb o u q=>?_,λb ps q=>?_⟩,I.loc,I.cell,f _ I.free,λx c q=>f c (I.DO x c q),λp E5=>?_,λb o q=>?_,I.len⟩
 .have z:=I.base.Ef b xs q;exact keep b _ (by rintro rfl;rw[e]at z;cases z) z
 .have z:=I.base.EH b o u q;exact keep b _ (by rintro rfl;rw[e]at z;cases z) z
 .obtain⟨m,z⟩:=I.base.Ed b ps q;exact⟨m,keep b _ (by rintro rfl;rw[e]at z;cases z) z⟩
 .obtain⟨h1,h2,j⟩:=I.pin p E5;exact⟨h1,f _ h2,j⟩
 .have i:b≠a:=by rintro rfl;rw[RV]at q;cases q
  rw[P2 i]at q;refine(I.AB b o q).FR (λc u _ g=>g) (λc d=>keep c _ (by rintro rfl;rw[e]at d;cases d) d) λc xs d=>keep c _ (by rintro rfl;rw[e]at d;cases d) d
variable{fld:Str}{pos:Pos}
end
section
variable{C:Value}
theorem Inv.PF(I:Inv X Zd Z H s)(As:X.stack=X.env::X.outer)(x:DW s.heap ea C dx tb)(J:H ea=none)(w:X.s₀.heap.get? ea=none)(j:∀T,tb=some T->H T=none/\X.s₀.heap.get? T=none)
  (B:∀p∈X.pn++Zd,p.1≠ea/\tb≠some p.1)(kp:Kp (X.env::X.outer) ea tb s.heap h'):Inv X Zd Z H { s with heap:=h' }:=by
 obtain⟨oe,vs,M,_,_,Jc,_⟩:=x.obj;have mem:∀b,b∈Bf (X.env::X.outer)->b=X.env.locals∨b∈X.fs:=λb a=>by
  rw[<- As]at a;exact List.mem_cons.mp (I.LU b a)
 have G:∀b,b=X.env.locals∨b∈X.fs->b∈Bf (X.env::X.outer):=λb a=>by
  have d:X.env.frame=some X.env.locals:=by
   rcases I.ok.GU with e|⟨_,d⟩
   .rw[e]at As;exact absurd (iK List.length As) (by simp)
   .exact d
  unfold Bf;rw[QL,d];rcases a with rfl|a
  .exact FH
  .exact By _ a
 have g:∀b o,s.heap.get? b=some o->(∀vs,o.data≠.fields vs)->∃h,h'.get? b=some { o with slots:=h }:=λb o a hd=>by
  by_cases d:b∈Bf (X.env::X.outer)
  .exact kp.slot b o a d
  .refine⟨o.slots,kp.keep b o a d (by rintro rfl;rw[M]at a;cases a;exact hd _ Jc) λz=>?_⟩;obtain⟨_,P,ts,N,G6,_⟩:=x.ent b z;rw[N]at a;cases a;exact hd _ G6
 have old:∀b o,s.heap.get? b=some o->H b≠none->h'.get? b=some o:=λb o a f=>kp.keep b o a (λz=>f (I.Pj b (by rw[As];exact z))) (λz=>f (z▸J)) λz=>f (j b z).1;have l:∀b o,X.s₀.heap.get? b=some o->b≠X.env.locals:=λb o a z=>absurd (AX a) (Nat.not_lt.mpr (z▸I.ok.above));have F:∀c v,s.heap.IsCell c v->h'.IsCell c v:=λc v A6=>by
  obtain⟨o,ho,hd⟩:=A6;obtain⟨h,h1⟩:=g c o ho (by rw[hd];intro vs z;cases z);exact⟨_,h1,hd⟩
 refine⟨I.ok,I.os,I.bare,⟨λb o a f d hx=>?_,λb o a f d hx=>?_,I.base.free,λb o a hx=>?_,I.base.Ef,I.base.EH,I.base.Ed⟩,?_,λy c q=>?_,I.free,I.DO,λp E5=>?_,I.AB.cV λb u f a=>old b u a f,I.len⟩
 .exact kp.keep b o (I.base.keep b o a f d hx) (λz=>(mem b z).elim (l b o a) d) (by rintro rfl;rw[w]at a;cases a) λz=>by rw[(j b z).2]at a;cases a
 .obtain⟨h,h1⟩:=I.base.slot b o a f d hx;obtain⟨Jk,h2⟩:=kp.slot b _ h1 (G b (.inr d));exact⟨Jk,h2⟩
 .obtain⟨A,h1⟩:=I.base.there b o a hx
  by_cases d:b∈Bf (X.env::X.outer)
  .obtain⟨Jk,h2⟩:=kp.slot b _ h1 d;exact⟨_,h2⟩
  .exact⟨A,kp.keep b A h1 d (by rintro rfl;rw[w]at a;cases a) λz=>by rw[(j b z).2]at a;cases a⟩
 .obtain⟨m,⟨o,es,ep,ho,r⟩,hl⟩:=I.loc;obtain⟨h,h1⟩:=kp.slot _ _ ho (G _ (.inl rfl));refine⟨m,⟨_,es,ep,h1,r⟩,λi y v hi t L=>?_⟩;obtain⟨u,K,n⟩:=hl i y v hi t L;refine⟨u,K,?_⟩;rcases n with n|⟨k,c,hc,ic⟩
  .exact .inl n
  .exact .inr ⟨k,c,hc,F c _ ic⟩
 .obtain⟨v,t⟩:=I.cell y c q;exact⟨v,F c v t⟩
 .obtain⟨h1,h2,E,D,O⟩:=I.pin p E5;exact⟨kp.keep _ _ h1 (λz=>(mem _ z).elim E D) (B p E5).1 (B p E5).2,h2,E,D,O⟩
end
theorem Inv.unbind{pos:Pos}{Q:Unit->Shared->Prop}(I:Inv X Zd Z H s)(G:X.N.Nodup)(g:X.N[j]?=some n)(r:X.env.scope.names.lookup n=some .local)
  (h:∀s',Inv X Zd (Z.set j none) H s'->Q () s'):wpAny M A (do bindName X.env n .none;unbindBehindTheSuite X.env n pos) Q E s:=by
 refine fq (wpAny_bindName (RU (v:=.A5) I G g (.inl r) rfl (λY I1 _=>?_) (.inr r)));unfold unbindBehindTheSuite;refine m8 ?_;obtain⟨m,F,hl⟩:=id I1.loc;have U:(X.env.scope.kind == .class || (X.env.scope.kind == .module && X.env.locals != X.env.globals))=false:=by rw[I.ok.kind];rfl
 have hjσ:j<Z.length:=by rw[I.len];exact(List.getElem?_eq_some_iff.mp g).1
 obtain⟨u,σ,P⟩:=hl j n .A5 g (ER hjσ) (.inl r);have S:m n=some u:=by
  rcases P with⟨_,e⟩|⟨z,_⟩
  .exact e
  .have V:X.env.kindOf n=some .local:=r;rw[V]at z;rcases z with z|z <;> cases z
 refine wpAny_unbindName_local r F S U λh' W V5 f=>?_;obtain⟨oL,_,_,aJ,_⟩:=id F;have FA:=I1.FA;have a:∀b o,X.s₀.heap.get? b=some o->b≠X.env.locals:=λb o t=>BZ (C4 (AX t) I.ok.above);refine h _ ⟨I1.ok,I1.os,I1.bare,⟨λb o e n t hx=>(f.2 b (a b o e)).trans (I1.base.keep b o e n t hx),λb o e n t hx=>?_,I1.base.free,λb o e hx=>?_,I1.base.Ef,I1.base.EH,I1.base.Ed⟩,⟨_,V5,λi y J l B T=>?_⟩,λy c e=>?_,I1.free,I1.DO,λp R=>?_,λb ob e=>?_,by simpa using I.len⟩
 .obtain⟨K,l⟩:=I1.base.slot b o e n t hx;exact⟨K,(f.2 b (a b o e)).trans l⟩
 .obtain⟨o',l⟩:=I1.base.there b o e hx;exact⟨o',(f.2 b (a b o e)).trans l⟩
 .have C:i≠j:=by
   rintro rfl;rw[ER hjσ]at B;cases B
  rw[E7 (BS C)]at B;obtain⟨w,L,q⟩:=hl i y J l (by rw[E7 (BS C)];exact B) T;refine⟨w,L,?_⟩;rcases q with⟨k,e⟩|⟨k,c,e,z⟩
  .refine .inl ⟨k,?_⟩;have:y≠n:=λe=>C (Vw G l (e▸g));simp[this,e]
  .exact .inr ⟨k,c,e,z.sameBut f (FA y c e)⟩
 .obtain⟨D,z⟩:=I1.cell y c e;exact⟨D,z.sameBut f (FA y c e)⟩
 .obtain⟨e,n,ne,O,d⟩:=I1.pin p R;exact⟨(f.2 p.1 ne).trans e,n,ne,O,d⟩
 .refine(I1.AB b ob e).FR (λc D x q=>(f.2 c ?_).trans q) (λ_ q=>q) λ_ _ q=>q;rintro rfl;have fr:=I1.free;rcases x with rfl|x
  .rw[fr]at e;cases e
  .rw[fr]at x;cases x
theorem Inv.pk(I:Inv X Zd Z H s)(x:DW s.heap ea (.ref C) dx tb)(j:H ea=none)(i:X.s₀.heap.get? ea=none)(t:∀p∈X.pn++Zd,p.1≠ea):Inv X Zd Z (upd H ea (Fz.G0 ea C dx)) s:=by
 obtain⟨oe,vs,f,e,hd,GJ,_⟩:=x.obj;have g:X.env.locals≠ea:=λz=>by
  obtain⟨m,⟨o,es,ep,ho,a,_⟩,_⟩:=I.loc;rw[z,f]at ho;cases ho;rw[GJ]at a;cases a
 have FA:∀y c,X.env.cells.lookup y=some c->c≠ea:=λy c q z=>by
  obtain⟨v,o,ho,a⟩:=I.cell y c q;rw[z,f]at ho;cases ho;rw[GJ]at a;cases a
 have d:∀b o,H b=some o->upd H ea (Fz.G0 ea C dx) b=some o:=λb o q=>by
  rw[AJ (by rintro rfl;rw[j]at q;cases q)];exact q
 refine⟨I.ok,I.os,I.bare,⟨I.base.keep,I.base.slot,λb o q n hx=>?_,I.base.there,λb xs q=>d b _ (I.base.Ef b xs q),λb o u q=>d b _ (I.base.EH b o u q),λb ps q=>?_⟩,I.loc,I.cell,?_,λy c q=>?_,λp E5=>?_,λb o q=>?_,I.len⟩
 .rw[AJ (by rintro rfl;rw[i]at q;cases q)];exact I.base.free b o q n hx
 .obtain⟨m,z⟩:=I.base.Ed b ps q;exact⟨m,d b _ z⟩
 .rw[AJ g];exact I.free
 .rw[AJ (FA y c q)];exact I.DO y c q
 .obtain⟨h1,h2,w⟩:=I.pin p E5;exact⟨h1,by rw[AJ (t p E5)];exact h2,w⟩
 .by_cases z:b=ea
  .subst z;rw[AY]at q;cases q;exact⟨⟨oe,vs,f,e,hd,GJ⟩,⟨_,f⟩,λ_ _⟨o',h,A,r⟩k=>⟨o',h,k _ A,r⟩⟩
  .rw[AJ z]at q;exact(I.AB b o q).FR (λc u _ l=>l) (λc e=>d c _ e) λc xs e=>d c _ e
abbrev Cx.Cp(X:Cx)(pn:ZAf)(xe:Value->Shared->Prop):Cx:={ X with pn:=pn,xe:=xe }
abbrev Cx.DF(X:Cx)(e:Value):Cx:={ X with A:=X.A.mark (some e),calm:=false,xe:=λ_ _=>False }
section
variable{VG:ZAf}{e:Value}
theorem Cx.Ok.Cp(ok:X.Ok):(X.Cp pn xe).Ok:=⟨ok.mod,ok.kind,ok.glob,ok.blt,ok.above,ok.inj,ok.has,ok.Hy,ok.hd,ok.frames,ok.GU,ok.HP,ok.bs,ok.FJ,ok.J0,ok.HQ,ok.EL,ok.Gn⟩
theorem Cx.Ok.HL(ok:(X.Cp pn xe).Ok):X.Ok:=⟨ok.mod,ok.kind,ok.glob,ok.blt,ok.above,ok.inj,ok.has,ok.Hy,ok.hd,ok.frames,ok.GU,ok.HP,ok.bs,ok.FJ,ok.J0,ok.HQ,ok.EL,ok.Gn⟩
theorem Cx.Ok.DF(ok:X.Ok):(X.DF e).Ok:=⟨ok.mod,ok.kind,ok.glob,ok.blt,ok.above,ok.inj,ok.has,ok.Hy,λz=>(by cases z),ok.frames,ok.GU,ok.HP,ok.bs,ok.FJ,ok.J0,ok.HQ,ok.EL,ok.Gn⟩
theorem Inv.Cp(I:Inv X Zd Z H s):Inv (X.Cp (X.pn++Zd) xe) [] Z H s:=⟨I.ok.Cp,I.os,I.bare,I.base,I.loc,I.cell,I.free,I.DO,λp a=>I.pin p (by simpa using a),I.AB,I.len⟩
theorem Inv.HL(I:Inv (X.Cp (X.pn++Zd) xe) VG Z H s):Inv X Zd Z H s:=⟨I.ok.HL,I.os,I.bare,I.base,I.loc,I.cell,I.free,I.DO,λp a=>I.pin p (Ke _ a),I.AB,I.len⟩
theorem Inv.DF(I:Inv X Zd Z H s):Inv (X.DF e) Zd Z H s:=⟨I.ok.DF,I.os,I.bare,I.base,I.loc,I.cell,I.free,I.DO,I.pin,I.AB,I.len⟩
theorem Inv.O0(ok:X.Ok)(I:Inv (X.DF e) Zd Z H s):Inv X Zd Z H s:=⟨ok,I.os,I.bare,I.base,I.loc,I.cell,I.free,I.DO,I.pin,I.AB,I.len⟩
end
def Ends.drop(D:Ends)(j:Nat):Ends:=⟨λZ H=>D.nx (Z.set j none) H,D.rt,λZ H=>D.bk (Z.set j none) H,λZ H=>D.ct (Z.set j none) H⟩
def SE(K:ZAe)(S:Addr)(j:Nat)(tb:(St->XK)->TS)(th:TS):TS:=λD Z H=>∃E1:St->XK,tb E1 D Z H/\
 ∀ σ1 C dx ea H1,E1 σ1 (.ref C) dx H1->H1 ea=none->PySem.W.exmOne K (.ref C) (.ref S)=some true/\th (D.drop j) (σ1.set j (some (.ref ea))) (upd H1 ea (Fz.G0 ea C dx))
def Kl(sp:Sp)(E:St->XK)(t:TA):TE:=λZ H Q=>t Z H λvs H1=>sp vs H1 Q (E Z)
def EJ(P:Program)(w:World)(K:ZAe)(mg:ZAg)(Zk:Heap)(x:Str)(k:Nat)(ps:List Str)(sp:Sp):Prop:=
 ∃f fd,C5 P w K mg Zk (Hg P w) k f fd ps sp/\Binds K fd ps []/\PySem.W.keepIn K (.ref f)=true/\mg x=some (.ref f)
section
variable{K:ZAe}{st:Stmt}
theorem EJ.mk(F:AM K x qual st f fd)(b:Binds K fd ps [])(m:mg x=some (.ref f))(h:C5 P w K mg Zk (Hg P w) k f fd ps sp):EJ P w K mg Zk x k ps sp:=⟨f,fd,h,b,F.kp,m⟩
variable{pos:Pos}{E:St->XK}
theorem Goes.qf(go:Goes X E)(i:∀b∈X.ex,∃p∈X.pn,p.1=b){e:Value}(I:Inv X Zd Z H s)(h:Hg X.prog X.w X.stack H s (E Z) e s'):X.xe e s':=by
 have Cy:∀a,s.heap.get? a=none->X.s₀.heap.get? a=none:=λa ha=>by
  cases q:X.s₀.heap.get? a with
  |none=>rfl
  |some o=>
   by_cases hx:a∈X.ex
   .obtain⟨p,c,rfl⟩:=i a hx;have h1:=(I.pin p (Ke _ c)).1;rw[ha]at h1;cases h1
   .obtain⟨r,h1⟩:=I.base.there a o q hx;rw[ha]at h1;cases h1
 obtain⟨ea,C,dx,tb,H',rfl,os,bare,un,AB,x,⟨l,j⟩,f,m⟩:=h;obtain⟨hh,g,d,t,KN⟩:=s';obtain rfl:KN=s.os:=os;have n:=I.call (h':=hh) (g':=g) (d':=d) (t':=t) (ch:=[]) un AB bare (λb z=>absurd z (by simp));refine go Zd Z H' _ ea C dx tb n x ⟨l,Cy _ j⟩ (λT k=>⟨(f T k).1,Cy _ (f T k).2⟩) (λp c=>⟨λz=>?_,λz=>?_⟩) m
 .have:=(I.pin p c).1;rw[z,j]at this;cases this
 .have:=(I.pin p c).1;rw[(f _ z).2]at this;cases this
theorem sy(a:X.ex=[]):∀b∈X.ex,∃p∈X.pn,p.1=b:=λb c=>by rw[a]at c;cases c
theorem d5(h:EJ X.prog X.w X.K X.mg X.base x k ps sp)(g:BJ j X.A)(i:k<=j)(go:Goes X E)(c:∀b∈X.ex,∃p∈X.pn,p.1=b)(ha:PA X (e::es) t)(l:Gl X x:=by rfl)(B7:(x == ("__debug__":Str))=false:=by decide)
  (he:starEach (e::es) X.env=(false,eval e X.env)::starEach es X.env:=by rfl) (B1:(backTo pos (starEach es X.env)).any (·.1)=false:=by rfl) :
  PE X (.Call (.Name x p) (e::es) [] pos) (Kl sp E t):=by
 obtain⟨f,fd,F,b,kp,m⟩:=h;have F:=F.mono i;intro Zd s Z H Q I h;refine jZ (LO I l m ?_ B7);refine fX (h₀:=X.base) I.ok.mod.Jj kp (AG (ha pos Zd s Z H _ I h) λus d⟨vs,H1,I1,r,q⟩=>⟨I1.Ay,?_⟩) he B1;have hl:us.length=ps.length:=by rw[<- r.length];exact F.len _ _ _ _ q
 refine qh (my (F.run X.A X.stack d H1 ⟨us,[]⟩ us vs Q (E Z) g I1.U8 (by have z:=b d us I1.Ay (by rw[Hu];exact hl);rw[Hu]at z;exact z) r q) λr s' a=>?_);cases r with
 |error e=>exact go.qf c I1 a
 |ok n=>
  cases n with
  |ret u=>exact I1.after a
  |next=>exact False.elim a
  |brk=>exact False.elim a
  |cont=>exact False.elim a
end
section
variable{K:ZAe}{E:XK}
theorem Pz:Goes (Eh (Hg P w) P w K mg Zk N qual scope f cd A outer s H E) (λ_=>E):=λZd Z H' s' ea C dx tb I x u a _ b=>
 MI.leave ⟨Zd,Z,H',ea,C,dx,tb,rfl,I,x,u,a,b⟩
end
theorem AM.Ug{K:ZAe}{st:Stmt}(F:AM K x qual st f fd)(S:B8 N ps (AW st))(len:∀vs H Q E,sp vs H Q E->vs.length=ps.length)
  (JP:∀(AS:Value)(A:Around)(outer:List Env)(s:Shared)(H:Hp)(vs:List V)(Q:VK)(E:XK),BJ k (A.deeper (envOfC qual (AW st) s.heap.objs.size f AS))->sp vs H Q E->
   ∃t,FN (Eh (Hg P w) P w K mg Zk N qual (AW st) f AS A outer s H E) (IL st) t/\t { nx:=λ_ H'=>Q .A5 H',rt:=Q } (start N vs) H):C5 P w K mg Zk (Hg P w) (k+1) f fd ps sp:=by
 obtain⟨e,od,kV,c,d,g,AS,ct,Fd,rfl,a,E9⟩:=F.ex;refine cG a E9 S len λA outer s H vs Q E b D9=>?_;obtain⟨t,h,q⟩:=JP AS A outer s H vs Q E b D9;exact⟨t,h.h,q⟩
section
variable{i:Nat}{pos:Pos}{E:St->XK}{body DF:List Stmt}{fld:Str}
theorem ue(h:EJ X.prog X.w X.K X.mg X.base x k ps sp)(c:BJ j X.A)(d:k<=j)(go:Goes X E)(a:∀b∈X.ex,∃p∈X.pn,p.1=b)(ha:QA X (e::es) t)(f:Gl X x:=by rfl)(B7:(x == ("__debug__":Str))=false:=by decide)
  (he:starEach (e::es) X.env=(false,eval e X.env)::starEach es X.env:=by rfl) (B1:(backTo pos (starEach es X.env)).any (·.1)=false:=by rfl):QE X (.Call (.Name x p) (e::es) [] pos) (Kl sp E t):=⟨d5 h c d go a ha.h f B7 he B1⟩
theorem dU(h:EJ X.prog X.w X.K X.mg X.base x k ps sp)(b:BJ j X.A)(c:k<=j)(go:Goes X E)(a:X.ex=[])(ha:QA X (e::es) t)(d:Gl X x:=by rfl)(B7:(x == ("__debug__":Str))=false:=by decide)
  (he:starEach (e::es) X.env=(false,eval e X.env)::starEach es X.env:=by rfl) (B1:(backTo pos (starEach es X.env)).any (·.1)=false:=by rfl):QE X (.Call (.Name x p) (e::es) [] pos) (Kl sp E t):=⟨by have ha:=ha.h;exact d5 h b c go (sy a) ha d B7 he B1⟩
theorem rM(c:Mg X.K C fI fld)(σ:Gl X x)(Y:X.mg x=some (.ref C))(Fn:C5 X.prog X.w X.K X.mg X.base ET kk fI fd ["self", par] (Lk C fld))(hb:Binds X.K fd ["self", par] [])(U:BJ (kk+1) X.A)(l:X.calm=true)(hex:X.ex=[])(go:Goes X E)(ha:QA X [e0] t)
  (B7:(x == ("__debug__":Str))=false:=by decide) (he:starEach [e0] X.env=(false,eval e0 X.env)::starEach [] X.env:=by rfl) (B1:(backTo Bs (starEach [] X.env)).any (·.1)=false:=by rfl) :
  QS X (.Raise (some (.Call (.Name x np) [e0] [] Bs)) none pos) (My C fld E t):=⟨by
 have ha:=ha.h;intro Zd s Z H D I h;obtain⟨bm,N,nm,qn,bs,hdct,sn,sub,ab,col,dd,k0,k1,k2,k3,k5,mN,q,hN,FZ,T⟩:=(Tf I.mod.Jj c.ex).obj;rw[arm_exec_Raise];show wpAny _ _ (do standAt pos;raiseStmt X.env (some (do let v <- eval (.Call (.Name x np) [e0] [] Bs) X.env;standAt pos;pure v)) none) _ _ s
 refine fq (nj (oq (C:=C) (nm:=nm) (qn:=qn) (N:=N) (bs:=bs) (bm:=bm) (hdct:=hdct) (sn:=sn) (sub:=sub) (ab:=ab) (col:=col) (dd:=dd) (k0:=k0) (k1:=k1) (k2:=k2) (k3:=k3) (k5:=k5) (newId:="ValueError.__new__") (T.hasType rfl) (I.ok.hd l) (fq ?_)));refine jZ (LO I σ Y ?_ B7);refine fX (h₀:=X.base) I.ok.mod.Jj c.kp (AG (ha Bs Zd s Z H _ I h) λus M⟨vs,H1,I1,r,v,ev,sv,hE⟩=>⟨I1.Ay,?_⟩) he B1;subst ev;obtain⟨u,rfl,O⟩:=vals1 r;obtain⟨V,g,d,tk,os⟩:=M;have MO:∃oI,V.get? fI=some oI/\oI.cls=.type "function" := by
  have z:=beq_iff_eq.mp c.fn;unfold PySem.W.typeIn at z;obtain⟨o,ho,l⟩:=Option.map_eq_some_iff.mp z;exact⟨o,I1.Ay _ _ ho,l⟩
 obtain⟨oI,Q,OX⟩:=MO;refine qz zm (T.keeps I1.bk) (I1.bk _ _ q) (hN.keeps I1.bk) FZ Q OX (by show 1<=sizeLine;decide +kernel) λh' ea IE Nz=>?_;obtain⟨t',Sn,_,_⟩:=Nz.there;have F:H1 ea=none:=I1.AB.fresh IE;have m:Inv X Zd Z (upd H1 ea (Dr ea C none)) ⟨h',g,d,tk,os⟩:=I1.laid (t':=tk) Nz.keeps IE (Th Sn);have S:Lk C fld ([.ref ea,v]++[]) (upd H1 ea (Dr ea C none)) (λw H3=>w=.A5/\∃d,H1 d=none/\d≠ea/\H3=upd (upd (upd H1 ea (Dr ea C none)) d (.xd [(fld,v)])) ea (Dr ea C (some d))) E0:=
  ⟨ea,v,rfl,sv,AY,λd hd=>by
   have j:d≠ea:=by rintro rfl;rw[AY]at hd;cases hd
   rw[AJ j]at hd;exact⟨rfl,d,hd,j,rfl⟩⟩
 refine qh (my (Fn.run _ X.stack _ _ ⟨[.ref ea,u],[]⟩ [.ref ea,u] [.ref ea,v] _ E0 (U.make C [u] []) (m.U8.make C [u] []) (hb _ [.ref ea,u] m.Ay rfl) (.cons rfl (.cons O .nil)) S) λP s' i=>?_);cases P with
 |error e=>exact False.elim i
 |ok fl=>
  cases fl with
  |ret G=>
   obtain⟨w3,H3,I3,OS,ew,f,R,j,eH⟩:=m.after i;subst ew;subst eH;cases(show G=Value.none from OS);refine⟨rfl,fq (nj (fv ?_))⟩;obtain⟨L,n⟩:=I3.exc (C:=C) (dx:=some f) AY;refine⟨ea,L,some f,rfl,I3.bk _ _ q,n,?_⟩;have y:∀p∈X.pn++Zd,p.1≠ea:=λp E5 z=>by
    have:=AX (I1.pin p E5).1;rw[z]at this;exact absurd this (Nat.not_lt.mpr IE)
   have B:=I3.forget (a:=ea) AY y;have J:Lh (upd (upd (upd H1 ea (Dr ea C none)) f (.xd [(fld,v)])) ea (Dr ea C (some f))) ea=upd H1 f (.xd [(fld,v)]):=by
    funext b
    by_cases z:b=ea
    .subst z;rw[RV,AJ (BS j),F]
    .rw[P2 z,AJ z]
     by_cases k:b=f
     .subst k;rw[AY,AY]
     .rw[AJ k,AJ k,AJ z]
   rw[J]at B;refine go Zd Z _ s' ea C (some f) none B ⟨⟨_,_,n,rfl,rfl,rfl,by simp,rfl⟩,λT z=>by cases z⟩ ⟨by rw[AJ (BS j)];exact F,?_⟩ (λT z=>by cases z) (λp E5=>⟨y p E5,by simp⟩) (hE f R);exact Lm (Ax I1.sz IE)
  |next=>exact False.elim i
  |brk=>exact False.elim i
  |cont=>exact False.elim i⟩
theorem k6(As:X.stack=X.env::X.outer)(hex:X.ex=[])(B:X.N.Nodup)(t:X.N[j]?=some n)(i:X.env.scope.names.lookup n=some .local)(hg:Gl X x)(hm:X.mg x=some (.ref S))
  (A:∀(pn:ZAf)(xe:Value->Shared->Prop)(E1:St->XK),Goes (X.Cp pn xe) E1->FN (X.Cp pn xe) body (LR E1))
  (hh:∀e,FN (X.DF e) (b0::DF) th) (B7:(x == ("__debug__":Str))=false:=by decide) :
  QS X (.Try body [.ExceptHandler (some (.Name x np)) (some n) (b0::DF) LW] [] [] pos) (SE X.K S j LR th):=⟨by
 have A:=λpn xe E1 g=>(A pn xe E1 g).h;have hh:=λe=>(hh e).h;intro Zd s Z H D I h;obtain⟨E1,h1,h2⟩:=h;have O:X.env.frame=some X.env.locals:=by
  rcases I.ok.GU with e|⟨_,O⟩
  .rw[e]at As;exact absurd (iK List.length As) (by simp)
  .exact O
 refine wpAny_Try_except ?_;refine i9 (A (X.pn++Zd) _ E1 ?_ [] s Z H D I.Cp h1) (λf G q=>?_) (λe G q=>q)
 .intro VG σ1 H1 G ea C dx tb I1 P ⟨F,m⟩ E c hE;have k:Inv X Zd σ1 H1 G:=I1.HL;have m:X.s₀.heap.get? ea=none:=m;have E:∀T,tb=some T->H1 T=none/\X.s₀.heap.get? T=none:=E;have c:∀p∈X.pn++Zd,p.1≠ea/\tb≠some p.1:=λp q=>c p (Ke _ q);refine dz (outer:=X.outer) (L:=X.env.locals) (by rw[<- As];exact k.ok.frames) (Zk:=X.base) (by rw[<- As];exact k.stack) O P λh' T kp a M=>?_;have J:=k.PF As P F m E c kp;obtain⟨σ,V⟩:=h2 σ1 C dx ea H1 hE F;refine wpAny_handleBy_cons ?_ (λz=>by cases z);refine codeAny_handlers_test ?_;refine LO (X:=X.DF (.ref ea)) J.DF hg hm ?_ B7;obtain⟨oe,vs,he,hc,hd,GJ,hz,h3⟩:=M.obj;have LT:PySem.W.Looks (model X.prog X.w) h' (typeOf (.ref ea)) (.ref C):=by
   rw[<- hc];exact(PySem.W.Looks.ld he).andThen .now
  refine(PySem.W.exm_one (K:=X.K) J.Ay LT σ).here ?_;refine codeAny_handlers_suite_as ?_;have fl:∀b∈Bf (X.env::X.outer),∃o,h'.get? b=some o/\∀vs,o.data≠.fields vs:=λb A=>by
   have st:=J.stack;rw[As]at st;obtain⟨_,o,ho,hn⟩:=st.mem A;exact⟨o,ho,hn⟩
  refine RI (s:={ G with heap:=h' }) (l:=X.env::X.outer) M fl λh4 U R=>?_
  have O8:∀T',some T=some T'->H1 T'=none/\X.s₀.heap.get? T'=none:=λT' eT=>by
   cases eT;exact a.elim (λa=>⟨k.AB.fresh a,Lm (Ax k.sz a)⟩) (E T)
  have Nw:∀p∈X.pn++Zd,p.1≠ea/\some T≠some p.1:=λp q=>⟨(c p q).1,λz=>a.elim (λa=>by
   have Q:=AX (k.pin p q).1;rw[<- B4 z]at Q;exact absurd Q (Nat.not_lt.mpr a)) λy=>(c p q).2 (y.trans z)⟩
  have I4:=J.PF As M F m O8 Nw U;have I5:=I4.pk R F m λp q=>(c p q).1;refine Su (X:=X.DF (.ref ea)) (v:=.ref ea) I5.DF B t (.inl i) rfl (λY I6=>?_) (.inr i);refine i9 (hh (.ref ea) Zd Y _ _ (D.drop j) I6 V) (λf s7 q=>?_) (λ_ _ z=>z.elim);cases f with
  |next=>
   obtain⟨σ7,H7,I7,d⟩:=q;exact(I7.O0 I.ok).unbind B t i λs' I9=>⟨_,_,I9,d⟩
  |brk=>
   obtain⟨σ7,H7,I7,d⟩:=q;exact(I7.O0 I.ok).unbind B t i λs' I9=>⟨_,_,I9,d⟩
  |cont=>
   obtain⟨σ7,H7,I7,d⟩:=q;exact(I7.O0 I.ok).unbind B t i λs' I9=>⟨_,_,I9,d⟩
  |ret u=>
   obtain⟨v,σ7,H7,I7,r,d⟩:=q;exact(I7.O0 I.ok).unbind B t i λs' I9=>⟨v,_,_,I9,r,d⟩
 .cases f with
  |next=>
   obtain⟨σ7,H7,I7,d⟩:=q;exact sU ⟨_,_,I7.HL,d⟩
  |brk=>
   obtain⟨σ7,H7,I7,d⟩:=q;exact⟨_,_,I7.HL,d⟩
  |cont=>
   obtain⟨σ7,H7,I7,d⟩:=q;exact⟨_,_,I7.HL,d⟩
  |ret u=>
   obtain⟨v,σ7,H7,I7,r,d⟩:=q;exact⟨v,_,_,I7.HL,r,d⟩⟩
end
section
variable{K:ZAe}{x:Addr}{fill expr:Bool}
structure ExGet (K:ZAe) (C:Addr):Prop where
 ga:PySem.W.findIn K (.ref C) "__getattribute__"=some (some (.builtin "BaseException.__getattribute__"))
 gt:PySem.W.findIn K (.ref C) "__getattr__"=some none
 mb:PySem.W.mroIn K C (.type "BaseException")=some true
theorem jK(o:Value):bindSpecial (.builtin "BaseException.__getattribute__") o=pure (.builtin "BaseException.__getattribute__", [o]):=by
 first|rfl|kernel_rfl
theorem bO(X:K.In s.heap)(I:PySem.W.InstAt s.heap x ox C od)(g:ExGet K C)
  (h:wpAny (model prog w) A.in1 (Builtin.«object.__getattribute__» ⟨[.ref x,.str name tk],[]⟩) (λa s'=>match a with | .done (.ret v)=>wpAny (model prog w) A (handedOut v) Q E s'|_=>False) (λ_ _=>False) s) :
  wpAny (model prog w) A (getAttrBy (.ref x) (.str name tk) fill expr) Q E s:=by
 obtain⟨hh,l,d,t,os⟩:=s;have b:=I.type (M:=model prog w);have j:=fY (M:=model prog w) X g.ga;have i:=fY (M:=model prog w) X g.gt;have f:=zy (M:=model prog w) X g.mb;unfold getAttrBy;refine iZ (fq (b.at (fq (j.at ?_))));have k:(Value.builtin "BaseException.__getattribute__" == Value.builtin "object.__getattribute__")=false:=by decide +kernel
 dsimp only;rw[hZ (by rw[k,WX];decide)];unfold getAttrByItsOwn hookBefore;rw[i6 (show onTheHeap (Value.ref C)=true from rfl)];refine fq (i.at (fq (o9 (iZ ?_))));unfold callGetattribute;rw[hZ (show ¬ (expr && onTheHeap (Value.builtin "BaseException.__getattribute__"))=true by cases expr <;> decide)]
 unfold boundAndCalled;rw[jK];refine fq (fv ?_);show wpAny _ _ (call (.builtin "BaseException.__getattribute__") [.ref x,.str name tk]) _ _ _;refine qh (k9 PySem.F.excAttr_ValueError.ga.plain PySem.F.entry_bexc_ga ?_);have e:builtinKind "BaseException.__getattribute__"=some .slot:=by decide +kernel
 have c:splitId "BaseException.__getattribute__"=some ("BaseException","__getattribute__"):=by decide +kernel
 have ha:=PySem.F.args_bexc_ga (.ref x) (.str name tk);simp only[checkBuiltinCall,e,c];unfold isInstance;refine fq (fq (b.at (f.at ?_)));rw[hZ (by decide)];refine ZAC ha ?_;refine i9 h (λa s' z=>?_) λ_ _ z=>z.elim;rcases a with(_|_|_|_)|_ <;> first|exact z|exact z.elim
theorem lu(X:K.In s.heap)(I:PySem.W.InstAt s.heap x ox C od)(g:ExGet K C)(a:PySem.W.findObj K C od name=some (.value v))(hh:PySem.W.handedIn v=true)(h:Q v { s with toks:=s.toks+1 }):
  wpAny (model prog w) A (getAttr (.ref x) name expr) Q E s:=by
 unfold getAttr;refine fq (wpAny_mkText (bO (s:={ s with toks:=s.toks+1 }) X I g ?_))
 obtain⟨e,f,d,t,os⟩:=s;have c:=I.type (M:=model prog w);have b:=zx (M:=model prog w) X I a;refine fq (fv (fq (fv (fq (c.at (fq (b.at ?_)))))));refine fv ?_;show wpAny _ _ (handedOut v) _ _ _;rw[zr hh];exact fv h
theorem m7{Q:Option Value->Shared->Prop}(X:K.In s.heap)(I:PySem.W.InstAt s.heap x ox C od)(g:ExGet K C)(c:PySem.W.findObj K C od "__class__"=some (.bind (.builtin "getset_descriptor.__get__") (.builtin "object.__class__")))(b:PySem.W.mroIn K C (.type "object")=some true)
  (h:Q (some (.ref C)) { s with toks:=s.toks+1 }):wpAny (model prog w) A (getAttr? (.ref x) "__class__") Q E s:=by
 unfold getAttr? getAttrBy?;refine fq (wpAny_mkText (fq (o9 ?_)));refine bO (s:={ s with toks:=s.toks+1 }) X I g ?_
 obtain⟨a,e,d,t,os⟩:=s;have i:=I.type (M:=model prog w);have f:=zx (M:=model prog w) X I c;refine fq (fv (fq (fv (fq (i.at (fq (f.at ?_)))))));show wpAny _ _ (holding [Value.builtin "object.__class__"] (call (.builtin "getset_descriptor.__get__") [.builtin "object.__class__", .ref x,.ref C]) >>= ret) _ _ _;refine fq (iZ (qh (PySem.W.class_get (s:=⟨a,e,d,t+1,os⟩) (ox:=ox) (od:=od) X I b ?_)));refine fv ?_;show wpAny _ _ (handedOut (.ref C)) _ _ _;rw[zr rfl];exact fv (fv h)
end
structure N7 (K:ZAe) (C:Addr):Prop extends ExGet K C where
 cl:(PySem.W.clsIn K C).isSome=true
 gc:PySem.W.findIn K (.ref C) "__class__"=some (some (.builtin "object.__class__"))
 gn:PySem.W.specialIn K (.builtin "object.__class__") "__get__"=some (some (.builtin "getset_descriptor.__get__"))
 tk:PySem.W.takesIn K (.builtin "object.__class__")=some true
 mo:PySem.W.mroIn K C (.type "object")=some true
theorem rL{K:ZAe}{a g:Value}(b:(PySem.W.clsIn K C).isSome=true)(ha:PySem.W.findIn K (.ref C) name=some (some a))(d:PySem.W.specialIn K a "__get__"=some (some g))(c:PySem.W.takesIn K a=some true):PySem.W.findObj K C od name=some (.bind g a):=by
 obtain⟨cd,b⟩:=Option.isSome_iff_exists.mp b;unfold PySem.W.findObj;rw[b,Ww,ha,Ww];simp[d,c]
theorem y8{K:ZAe}{x:Addr}(g:N7 K C):PySem.W.KitX K (.ref x) (.ref C) (λh=>∃ox od,PySem.W.InstAt h x ox C od) where
 ty:=λ_ _ _ A6=>by obtain⟨_,_,I⟩:=A6;exact I.type
 it:=λ_ _ X _=>by
  obtain⟨b,HB⟩:=Option.isSome_iff_exists.mp g.cl;unfold PySem.W.clsIn at HB;split at HB
  .rename_i c' d' hU RG ho;intro A' Q' E' s' k q;unfold isType loadHead;exact fq (wpAny_loadPart (k _ _ (X _ _ ho)) (fv q))
  .cases HB
 ne:=λh tp dd A2 n c X a=>by
  obtain⟨b,HB⟩:=Option.isSome_iff_exists.mp g.cl;refine Bool.eq_false_iff.mpr λq=>?_;have e:C=tp:=Value.ref.inj (beq_iff_eq.mp q);subst e;unfold PySem.W.clsIn at HB;split at HB
  .rename_i c' d' hU RG ho;have z:=(X _ _ ho).symm.trans a;cases z
  .cases HB
 ca:=λX⟨_,_,I⟩k=>m7 X I g.toExGet (rL g.cl g.gc g.gn g.tk) g.mo k
theorem p7{h:Heap}(e:∃ob vs,h.get? a=some ob/\ob.cls=.ref C/\ob.dict=dx/\ob.data=.fields vs)(hd:∀d,dx=some d->∃o,h.get? d=some o):∃ox od,PySem.W.InstAt h a ox C od:=by
 obtain⟨ob,vs,h1,h2,c,b⟩:=e;cases dx with
 |none=>exact⟨ob,none,h1,h2,by unfold PySem.W.notCls;rw[b],by rw[c];trivial⟩
 |some d=>
  obtain⟨o,ho⟩:=hd d rfl;exact⟨ob,some o,h1,h2,by unfold PySem.W.notCls;rw[b],by rw[c];exact ho⟩
def dr:V->Value->Prop
 | .ty n,c=>c=.type n
 | .ref S,c=>c=.ref S
 |_,_=>False
def Zc(K:ZAe)(H:Hp)(x:V)(t:Value):Prop:=Dt K H x t∨∃a C dx,x=.ref a/\t=.ref C/\H a=some (Fz.G0 a C dx)/\N7 K C/\∀d,dx=some d->∃fs,H d=some (.xd fs)
def Yl(K:ZAe):List V->Hp->VK->Prop:=λxs H Q=>∃(x cv:V)(c t:Value)(b:Bool),xs=[x,cv]/\dr cv c/\Zc K H x t/\PySem.W.kitOne K t c=some b/\Q (.bl b) H
theorem DS:Be X (.builtin "isinstance") (Yl X.K):=by
 intro Zd s Z H xs us Q I r h;obtain⟨x,cv,c,t,b,rfl,i,ty,e,q⟩:=h;obtain⟨u,p,rfl,k,j⟩:=vals2 r;have o:p=c:=by
  cases cv with
  |ty n=>cases j;exact i.symm
  |ref S=>cases j;exact i.symm
  |_=>exact i.elim
 subst o;have f:∀tk,EP X Zd Z Q (.bool b) { s with toks:=tk }:=λtk=>⟨.bl b,H,I.tok tk,rfl,q⟩
 rcases ty with ty|⟨a,C,dx,rfl,rfl,ha,g,hd⟩
 .exact Yw I k ty e f
 .cases k;have ok:=(I.AB a _ ha).1;exact GR (y8 g) I.Ay (p7 ok λd m=>by obtain⟨fs,l⟩:=hd d m;exact I.AB.there l) e (λz=>nomatch z) f
def V7(K:ZAe)(ta:TE)(f:Str):TE:=λZ H Q=>ta Z H λx H1=>∃a C dx fs v,x=.ref a/\H1 a=some (Fz.G0 a C (some dx))/\H1 dx=some (.xd fs)/\ExGet K C/\PySem.W.hasDictIn K C=true/\Rt K C f/\fs.lookup f=some v/\Q v H1
section
variable{f:Str}{pos:Pos}
theorem Xa(b:QE X e ta)(p:attributeBase e f X.env (eval e X.env)=eval e X.env:=by rfl):QE X (.Attribute e f pos) (V7 X.K ta f):=⟨by
 have b:=b.h;intro Zd s Z H Q I h;refine tE p (AG (b Zd s Z H _ I h) λu i⟨x,H1,I1,j,a,C,dx,fs,v,ex,ea,y,g,hd,n,l,q⟩=>?_);subst ex;obtain rfl:u=Value.ref a:=j;obtain⟨ob,vs,h1,h2,w,t⟩:=(I1.AB a _ ea).1;obtain⟨mA,ns,r⟩:=I1.AB dx _ y;obtain⟨od,d,k⟩:=YX ns;obtain⟨u,m,c⟩:=GA.some_of (v:=v) (o:=mA f) (by rw[<- l];exact r f);have J:PySem.W.InstAt i.heap a ob C (some od):=⟨h1,h2,by unfold PySem.W.notCls;rw[t],by rw[w];exact d⟩;exact lu I1.Ay J g (PySem.W.findObj_own hd n rfl (by rw[k f,m])) (yU c) ⟨v,H1,I1.tok _,c,q⟩⟩
end
end L2
namespace Fz
open L2 Lw
variable{xs:List PV}{E:Ent0}{ss:List Slot}{Z:L2.St}{F F' H H':Hp}{ta tb tc te:TE}{k:PV->Prop}{tp:Bool}{nx:List Slot->Prop}{R:Ah}{i:Nat}
structure Et (K:ZAe) (a:Addr) (xs:List PV):Prop where
 HR:xs.all flat=true
 sq:∀H,Al K H a (xs.map Fz.enc)
 ob:∃o:Obj,K.lookup a=some o/\o.cls=.type "tuple"
theorem Et.of{K:ZAe}{a:Addr}{vs:List V}(h:∀H,Al K H a vs)(e:xs.map Fz.enc=vs)(f:xs.all flat=true):Et K a xs:=by
 subst e;refine⟨f,h,?_⟩;rcases h (λ_=>none)with h|⟨o,A2,n,h1,h2,_⟩
 .rcases h with h|⟨_,h⟩
  .cases h
  .cases h
 .exact⟨o,h1,h2⟩
def YT(ns:List Str)(g:Nat)(a:List Str):List Str:=(ns.take g).filter (λx=>decide (x∈a))++(ns.drop g).filter (λx=>!decide (x∈a))
def UA:Pre:=λl R=>∃(ns:List Str),l=[.sq false (ns.map .str)]/\ns.length<=1000/\R=.is λp=>p=.bl true
structure Gr where
 n:Nat
 g:Nat
 u:List Str
 ps:List (Str×Str)
def vH(cs:List Str)(s:Gr)(x:Str):Gr:=
 if x∈cs then⟨s.n+1,s.g,s.u++[x],s.ps⟩
 else if s.u=[]then⟨s.n+1,s.n+1,s.u,s.ps⟩
 else⟨s.n+1,s.g,s.u.dropLast,s.ps++[(s.u.getLastD "", x)]⟩
def gr(cs ns:List Str):Gr:=ns.foldl (vH cs) ⟨0,0,[],[]⟩
def wX(ns cs:List Str)(p:PV):Prop:=∃ts:List Str,ts.Perm (YT ns (gr cs ns).g cs)/\sortedS ts=true/\p=.tup [.tup [.int ((gr cs ns).g:Nat),.tup (ts.map .str)],.lst ((gr cs ns).ps.map c6)]
def Vh:Pre:=λl R=>∃i:Int,l=[.is (.int i)]/\R=.is λp=>p=.bl true
section
variable[Xw]
variable{K:ZAe}{v:V}
def Ge:Sp:=λvs H Q _=>∃(p:Addr)(m:Int),vs=[.ref p,.int m]/\BK H p/\0<m/\m<10 ^ 200/\∀r H',0<=r->r<m->BI p H H'->Q (.int r) H'
theorem ph{a:Int}(c:0<a)(h1:a<10 ^ 200):a.natAbs<2 ^ 1000:=by
 have b:a.natAbs<10 ^ 200:=by omega
 exact Nc b (by decide +kernel)
theorem wN(hi:ss[i]?=some .AQ)(h:Wp ss te λx=>∃m,x=.int m/\0<m/\m<10 ^ 200/\∀r:Nat,(r:Int)<m->k (.int r)):Wp ss (EE Ge [] E0 (Ab (Br i) (Ab te B0))) k:=⟨λE Z F H Q S q=>by
 obtain⟨p,e,_⟩:=S.ok i _ hi;refine⟨_,e,h.go E Z F H _ S λv x F1 H1 a r⟨m,f,d,NB,kk⟩=>?_⟩;subst f;cases r.inv;refine⟨p,m,rfl,a.st.FC hi e,d,NB,λr H2 c b s=>q _ _ F1 H2 (a.trans (a.st.RO hi e s)) (.int r) ?_⟩;obtain⟨n,rfl⟩:=zM c;exact kk n b⟩
end
theorem sg{b c n:Int}(e:1<=b)(d:b<=c)(a:0<=n):∃m:Nat,(if(if c<n then c else n) > b then(if c<n then c else n)else b)=(m:Int)/\(m:Int)<=c/\1<=m:=by
 have h:∀z:Int,1<=z->z<=c->∃m:Nat,z=(m:Int)/\(m:Int)<=c/\1<=m:=λz f h1=>⟨z.toNat,by omega,by omega,by omega⟩;apply h
 .split
  .omega
  .omega
 .split
  .split <;> omega
  .omega
section
variable[Xw]
variable{F1:Hp}{K:ZAe}{js:List Nat}{ti:TE}
theorem fb(hi:ss[i]?=some .AQ)(h:Wq ss ta λtp xs=>tp=false/\∃ns:List Str,xs=ns.map PV.str/\(∀x∈ns,Nm x)/\ns.length<=1000/\∀x:Str,Nm x->x∉ns->k (.str x)):
  Wp ss (EE (Q3 K) [] E0 (Ab (Br i) (Ab ta B0))) k:=⟨λE Z F H Q S q=>by
 obtain⟨p,e,_⟩:=S.ok i _ hi;refine⟨_,e,h.go E Z F H _ S λv tp xs F1 H1 a sv⟨g,ns,ex,d,b,kk⟩=>?_⟩;subst g;subst ex;obtain⟨l,vs,f,c,hl,r⟩:=sv;subst f;rw[r.strs]at hl;exact⟨p,l,ns,rfl,a.st.FC hi e,AN.of hl,λz=>c i hi (z▸e),d,b,λx H3 hx Ep s=>q _ _ F1 H3 (a.trans (a.st.RO hi e s)) (.str x) (kk x hx Ep)⟩⟩
end
end Fz
namespace L2
section
variable{X:Cx}
def jw(sep:Str)(ys:List Str):Nat:=(ys.map (·.length)).sum+ys.length * sep.length
def rJoin(K:ZAe):V->List V->Hp->VK->Prop:=λx xs H Q=>∃(sep:Str)(p:Addr)(tp:Bool)(ys:List Str),x=.str sep/\xs=[.ref p]/\D7 K tp H p (ys.map V.str)/\jw sep ys<=16777216/\Q (.str (Txt.join sep ys)) H
theorem Lc:FW X "str.join" (rJoin X.K):=by
 intro Zd s Z H x xs v us Q I e r h;obtain⟨sep,p,tp,ys,rfl,rfl,d,c,q⟩:=h;obtain⟨t,rfl⟩:=e;obtain⟨u,rfl,f⟩:=vals1 r;cases f;have a:∀t' k,EP X Zd Z Q (.str (Txt.join sep ys) t') { s with toks:=k }:=λt' k=>⟨.str _,H,I.tok k,⟨t',rfl⟩,q⟩
 cases tp with
 |false=>
  obtain⟨A2,b,pl,_⟩:=I.list d;exact join_list pl.isList (by simpa using RP b) c a
 |true=>
  obtain⟨A2,b,pl,_⟩:=I.tuple d;exact join_tuple pl (by simpa using RP b) c a
def ZH:List V->Hp->VK->Prop:=λxs H Q=>(∃i,xs=[.int i]/\i.natAbs<2 ^ 1000/\Q (.str (toString i)) H)∨∃x,xs=[.str x]/\Q (.str x) H
theorem kW:Be X (.type "str") ZH:=by
 intro Zd s Z H xs us Q I r h;rcases h with⟨i,rfl,a,q⟩|⟨x,rfl,q⟩
 .exact mO Zd s Z H _ us Q I r ⟨i,rfl,Nc (Va a) (by decide),q⟩
 .obtain⟨u,rfl,t,rfl⟩:=vals1 r;exact PySem.P.str_of_str ⟨.str x,H,I,⟨t,rfl⟩,q⟩
end
end L2
namespace Fz
open L2 Lw
variable{E:Ent0}{AK ss:List Slot}{Z σ':L2.St}{F F' H H':Hp}{te:TE}{k:PV->Prop}{cv v:V}{b tp:Bool}{nx:List Slot->Prop}{R:Ah}{N ps:List Str}{j n:Nat}{vs:List V}{Q:VK}{X:XK}
def Gm:PV->Str
 | .int i=>toString i
 | .str x=>x
 |_ => ""
def aK:PV->Prop
 | .int i=>i.natAbs<2 ^ 1000
 | .str _=>True
 |_=>False
section
variable[Xw]
variable{K:ZAe}{ta tb tc:TE}{xs:List PV}
theorem Xu(h:Wp ss te λp=>aK p/\k (.str (Gm p))):Wp ss (CJ ZH (Ab te B0)) k:=⟨λE Z F H Q S q=>
 h.go E Z F H _ S λv p F1 H1 a r A6=>by
  obtain⟨ok,kk⟩:=A6;cases r with
  |int i=>exact .inl ⟨i,rfl,ok,q _ _ F1 H1 a (.str _) kk⟩
  |str x=>exact .inr ⟨x,rfl,q _ _ F1 H1 a (.str _) kk⟩
  |_=>exact ok.elim⟩
theorem uu(h:Wp ss ta λp=>∃sep,p=.str sep/\Wq ss tb λ_ ys=>∃zs:List Str,ys=zs.map PV.str/\jw sep zs<=16777216/\k (.str (Txt.join sep zs))):Wp ss (Iz K "str" (rJoin K) ta (Ab tb B0)) k:=⟨λE Z F H Q S q=>
 h.go E Z F H _ S λv p F1 H1 b c⟨sep,e,h2⟩=>by
  subst e;cases c.inv;refine⟨rfl,h2.go E Z F1 H1 _ b.st λg tp ys F2 H2 a sv⟨zs,f,d,kk⟩=>?_⟩;subst f;obtain⟨l,vs,rfl,hl,r⟩:=sv.seq a.st;rw[r.strs]at hl;exact⟨sep,l,tp,zs,rfl,rfl,D6.sq hl,d,q _ _ F2 H2 (b.trans a) (.str _) kk⟩⟩
end
theorem AD.XX{P:Program}{w:World}{K:ZAe}{mg:ZAg}{Zk:Heap}{x:Str}{k:Nat}(h:AD P w K mg Zk x k ps Ge):AD P w K mg Zk x k ps qG:=by
 obtain⟨f,fd,F,b,kp,m⟩:=h;refine⟨f,fd,F.imp λvs H Q E q=>?_,b,kp,m⟩;obtain⟨p,m,e,d,c,a,q⟩:=q;exact⟨p,m,e,d,c,eh a (by decide +kernel),q⟩
abbrev HC:=List Slot->Ah->(Ex->Prop)->Prop
def Gi(pre:HC):Sp:=λvs H Q X=>∃(ss:List Slot)(R:Ah)(D:Ex->Prop)(F:Hp)(A:List Addr),pre ss R D/\Sg (E3 A F H) ss (vs.map some) F H/\(∀v F' H',Fin (E3 A F H) F' H'->R.ok (E3 A F H) F' H' v->Q v H')/\
 ∀(x:Ex)(C:Value)(dx:Option Addr)F' H',Fin (E3 A F H) F' H'->D x->x.at F' C dx->X C dx H'
@[reducible] def b9 (X:XK) (D:Ex->Prop):Xw:=⟨λ_=>X,λ_=>True,D⟩
@[reducible] def Le (E:Ent0) (J:List Slot->Prop) (D:Ex->Prop):Xw:=⟨λZ C dx H=>∃ss F x,J ss/\Sg E ss Z F H/\D x/\x.at F C dx,J,D⟩
def p9:PV->Prop
 | .str x=>(reprText x).length<=100000
 | .int i=>i.natAbs.log2<1920
 |_=>False
section
variable[Xw]
variable{pre:HC}{t:TA}{K:ZAe}{C S:Addr}{fld:Str}
theorem aS(h:Wa ss t λl=>∃c D,pre l (.is c) D/\Xw.J ss/\(∀x,D x->Xw.D x)/\∀p,c p->k p):Wp ss (Kl (Gi pre) Xw.e t) k:=⟨λE Z F H Q S q=>
 h.go E Z F H _ S λvs l F1 H1 b a⟨c,D,g,i,j,kk⟩=>by
  refine⟨l,.is c,D,F1,[],g,b.st.Pk a,λv F' H' f⟨p,r,kp⟩=>?_,λx C dx F' H' f d Hl=>?_⟩
  .exact q v p F' H' (b.trans (b.st.back (λ_ h=>absurd h Bg) f)) r (kk p kp)
  .exact E.hx ss Z F' H' x C dx i (b.st.back (λ_ h=>absurd h Bg) f).st (j x d) Hl⟩
theorem dk(h:Wp ss te λp=>p9 p/\Xw.J ss/\Xw.D ⟨C,[fld],[p]⟩):Ws ss (My C fld Xw.e (Ab te B0)) nx R:=⟨λE D Z F H S i g=>
 h.go E Z F H _ S λv p F1 H1 b r A6=>by
  obtain⟨sp,c,f⟩:=A6;refine⟨v,rfl,?_,λd hd=>?_⟩
  .cases r <;> first|exact sp|exact sp.elim
  .have a:=b.st.alloc hd (.xd [(fld,v)]);exact E.hx ss Z _ _ ⟨C,[fld],[p]⟩ (.ref C) (some d) c a.st f ⟨rfl,.inr ⟨d,[v],rfl,AY,rfl,.cons (r.mono a.ff) .nil⟩⟩⟩
end
section
variable{pre:HC}
theorem WE{t:TS}(h:Gi pre vs H Q X)(hl:∀ss R D,pre ss R D->ss.length=n)
  (hw:∀ss R D,pre ss R D->let _i:Xw:=b9 X D;Ws (ss++List.replicate (N.length - n) .any) t (λ_=>∃k,R=.is k/\k .A5) R):t { nx:=λ_ H'=>Q .A5 H',rt:=Q } (L2.start N vs) H:=by
 obtain⟨ss,R,D,F,A,a,S,q,b⟩:=h;have e:vs.length=n:=by have:=S.len;rw[AH]at this;rw[<- this];exact hl ss R D a
 unfold L2.start;rw[e];letI:Xw:=b9 X D;refine(hw ss R D a).go ⟨E3 A F H,λAK σ' F' H' x C dx _ S' d Hl=>b x C dx F' H' S'.toFin d Hl⟩ _ _ F H (S.grown _) (λAK σ' F' H'⟨k,e,c⟩S' _=>?_) λv F' H' f ok=>q v F' H' f ok;subst e;exact q .A5 F' H' S'.toFin ⟨.A5,.A5,c⟩
theorem RC(hl:∀ss R D,pre ss R D->ss.length=n)(h:Gi pre vs H Q X):vs.length=n:=by
 obtain⟨ss,R,D,F,A,a,S,q⟩:=h;have:=S.len;rw[AH]at this;rw[<- this];exact hl ss R D a
abbrev Ent0.at(E:Ent0)(F:Hp):Ent0:=⟨E.A,F,E.H0,E.B⟩
theorem Fin.un(S:Fin E F H)(f:Fin (E.at F) F' H'):Fin E F' H':=⟨f.fh,S.f0.trans f.f0,f.keep,λa o e=>(f.fresh a o e).elim (λe=>S.fresh a o e) .inr,f.Gs,f.Ld,f.a0,f.bF,f.bH,f.b0⟩
theorem Ok.un{G:Hp}{s:Slot}{o:Option (Option V)}:Ok (E.at G) F H s o↔Ok E F H s o:=by
 cases s with
 |sq tp xs=>cases tp <;> exact Iff.rfl
 |_=>exact Iff.rfl
theorem Sg.un(S:Sg E ss Z F H)(S':Sg (E.at F) AK σ' F' H'):Sg E AK σ' F' H':=⟨S.toFin.un S'.toFin,S'.len,λi s hi=>Ok.un.mp (S'.ok i s hi),S'.EB⟩
theorem Sg.gL(S:Sg E ss Z F H):Sg (E.at F) ss Z F H:=⟨⟨S.fh,A9.refl _,S.keep,λ_ _ e=>.inl e,S.Gs,S.Ld,S.a0,S.bF,S.bH,S.b0⟩,S.len,λi s hi=>Ok.un.mpr (S.ok i s hi),S.EB⟩
theorem Ah.un{G:Hp}(h:R.ok (E.at G) F H v):R.ok E F H v:=by
 cases R <;> exact h
theorem Sg.jc(S:Sg E ss Z F H)(j:Nat):Sg E (ss.set j .any) (Z.set j none) F H:=by
 have at_:∀(i:Nat)(s:Slot),(ss.set j .any)[i]?=some s->s=.any∨(i≠j/\ss[i]?=some s):=λi s hi=>by
  by_cases q:i=j
  .subst q
   by_cases d:i<ss.length
   .rw[ER d]at hi;cases hi;exact .inl rfl
   .rw[fE (by rw[Hv];omega)]at hi;cases hi
  .rw[E7 (BS q)]at hi;exact .inr ⟨q,hi⟩
 refine⟨S.toFin,by rw[Hv,Hv];exact S.len,λi s hi=>?_,λi k u w l Lj hi c b a=>?_⟩
 .rcases at_ i s hi with rfl|⟨q,hi⟩
  .trivial
  .rw[E7 (BS q)];exact S.ok i s hi
 .rcases at_ i u hi with rfl|⟨q,hi⟩
  .exact b
  .rcases at_ k w c with rfl|⟨q2,c⟩
   .exact a
   .rw[E7 (BS q)]at b;rw[E7 (BS q2)]at a;exact S.EB i k u w l Lj hi c b a
end
section
variable[Xw]
variable{K:ZAe}{S:Addr}{tb:(L2.St->XK)->TS}{th:TS}
theorem rU(J:List Slot->Prop)(Dx:Ex->Prop)(q:∀E:Ent0,@Ws (Le E J Dx) ss (tb (Le E J Dx).e) nx R)
  (hh:∀Me x,J Me->Dx x->PySem.W.exmOne K (.ref x.C) (.ref S)=some true/\Ws (Me.set j (.is (.exc x.C x.ns x.xs))) th (λDh=>nx (Dh.set j .any)) R):Ws ss (SE K S j tb th) nx R:=⟨λE D Z F H S0 k i=>by
 refine⟨(Le (E.toEnt0.at F) J Dx).e,@Ws.go (Le (E.toEnt0.at F) J Dx) _ _ _ _ (q (E.toEnt0.at F)) (@Ent.mk (Le (E.toEnt0.at F) J Dx) (E.toEnt0.at F) λss Z F H x C dx b S d Hl=>⟨ss,F,x,b,S,d,Hl⟩) D Z F H S0.gL (λAK σ' F' H' n S' ff=>k AK σ' F' H' n (S0.un S') ff) (λv F' H' f ok=>i v F' H' (S0.toFin.un f) (Ah.un ok)),λσ1 C dx ea H1 p IE=>?_⟩;obtain⟨Me,F1,x,b,S1,s,t,Hl⟩:=p;obtain⟨MT,hw⟩:=hh Me x b s;cases t;have o:=S0.un S1;have m:=o.alloc IE (G0 ea x.C dx);have r:Rep (upd F1 ea (G0 ea x.C dx)) (.ref ea) (.exc x.C x.ns x.xs):=by
  rcases Hl with⟨h,g,c⟩|⟨a,vs,h,g,c,u⟩
  .subst c;rw[h,g];exact .Kx AY
  .subst h;exact .exc AY (m.ff _ _ g) c (u.mono m.ff)
 exact⟨MT,hw.go E (D.drop j) _ _ _ (m.st.Ig r) (λDh σ2 F3 H3 l S2 ff=>k _ _ F3 H3 l (S2.jc j) (S1.f0.trans (m.ff.trans ff))) λv F' H' f ok=>i v F' H' f ok⟩⟩
end
def bZ(K:ZAe)(p:PV)(t:Value):Prop:=match p with
 | .exc C _ _=>t=.ref C/\N7 K C
 |p=>t=JR p
section
variable[Xw]
variable{K:ZAe}{fld:Str}
theorem Rep.tI{p:PV}{t c:Value}(s:A9 F H)(r:Rep F v p)(h:bZ K p t)(l:PySem.W.kitOne K t c=some b)(j:∀C ns xs,p≠.obj C ns xs)(f:∀a xs,p≠.con a xs):Zc K H v t:=by
 cases r with
 |A5=>cases(show t=.type "NoneType" from h);exact .inl .A5
 |bl b=>cases(show t=.type "bool" from h);exact .inl (.bl b)
 |int i=>cases(show t=.type "int" from h);exact .inl (.int i)
 |str x=>cases(show t=.type "str" from h);exact .inl (.str x)
 |lst e _=>cases(show t=.type "list" from h);exact .inl (.lst (s _ _ e))
 |tup e _=>cases(show t=.type "tuple" from h);exact .inl (.tup (s _ _ e))
 |Ce e _ _=>cases(show t=.type "dict" from h);exact .inl (.dK (s _ _ e))
 |obj _ _ _ _=>exact absurd rfl (j _ _ _)
 |con=>exact absurd rfl (f _ _)
 |Kx e=>
  obtain⟨rfl,g⟩:=h;exact .inr ⟨_,_,none,rfl,rfl,s _ _ e,g,λd z=>by cases z⟩
 |exc e k _ _=>
  obtain⟨rfl,g⟩:=h;exact .inr ⟨_,_,_,rfl,rfl,s _ _ e,g,λd z=>by cases z;exact⟨_,s _ _ k⟩⟩
theorem DK(h:Wp ss te λp=>((∀C ns xs,p≠.obj C ns xs)/\∀a xs,p≠.con a xs)/\∃t c b,dr cv c/\bZ K p t/\PySem.W.kitOne K t c=some b/\k (.bl b)):Wp ss (CJ (Yl K) (Ab te (Ab (tC cv) B0))) k:=⟨λE Z F H Q S q=>
 h.go E Z F H _ S λv p F1 H1 d r A6=>by obtain⟨⟨h1,h2⟩,t,c,b,g,f,e,kk⟩:=A6;exact⟨v,cv,c,t,b,rfl,g,r.tI d.st.fh f e h1 h2,e,q _ _ F1 H1 d (.bl _) kk⟩⟩
theorem eL(h:Wp ss te λp=>∃C x,p=.exc C [fld] [x]/\ExGet K C/\PySem.W.hasDictIn K C=true/\Rt K C fld/\k x):Wp ss (V7 K te fld) k:=⟨λE Z F H Q S q=>
 h.go E Z F H _ S λv p F1 H1 b r A6=>by
  obtain⟨C,x,e,g,hd,n,kk⟩:=A6;subst e;cases r with
  |@exc a _ dx _ vs _ f d i c=>
   match vs,c with
   | [u],.cons r1 .nil=>exact⟨a,C,dx,_,u,rfl,b.st.fh _ _ f,b.st.fh _ _ d,g,hd,n,by simp[List.zip,List.lookup],q _ _ F1 H1 b r1 kk⟩⟩
end
end Fz
namespace L2
variable{C:Addr}
def ux(s:Stmt):Stmt:=match s with
 | .ClassDef _ _ _ (d::_) ..=>d
 |s=>s
def Nq(P:Program)(w:World)(K:ZAe)(mg:ZAg)(Zk:Heap)(C:Addr)(fld:Str):Prop:=
 ∃(fI:Addr)(fd:FuncData)(par:Str),Mg K C fI fld/\C5 P w K mg Zk ET 1 fI fd ["self", par] (Lk C fld)/\Binds K fd ["self", par] []
theorem y9{fld:Str}{a b:Str}:∀vs H Q E,Lk C fld vs H Q E->vs.length=[a,b].length:=λvs H Q E h=>by obtain⟨ea,v,rfl,_⟩:=h;rfl
theorem nv{fld:Str}{vs:List V}{H:Hp}{Q:VK}{E:XK}{N:List Str}(a:N.length=2)(h:Lk C fld vs H Q E):
  Jn (L9 (Zq C (Ab (Br 0) (Ab (b6 (Br 1)) B0)))) (Jn (Yd C fld (Br 0) (Br 1)) Q5) { nx:=λ_ H'=>Q .A5 H',rt:=Q } (start N vs) H:=by
 obtain⟨ea,v,rfl,sv,hx,q⟩:=h;have e0:(start N [V.ref ea,v])=[some (.ref ea),some v]:=by
  unfold start;simp[a]
 rw[e0];refine⟨_,rfl,_,rfl,sv,λy=>⟨ea,_,rfl,hx,?_⟩⟩;refine⟨_,rfl,_,rfl,ea,rfl,hx,λd hd=>q d hd⟩
section
variable{X:Cx}{x:Str}{fld:Str}{E:St->XK}{np Bs pos:Pos}{e0:Expr}{t:TA}{j:Nat}
theorem Ze(c:Nq X.prog X.w X.K X.mg X.base C fld)(f:Gl X x)(d:X.mg x=some (.ref C))(b:BJ j X.A)(e:2<=j)(g:X.calm=true)(a:X.ex=[])(go:Goes X E)(ha:QA X [e0] t)
  (B7:(x == ("__debug__":Str))=false:=by decide) (he:starEach [e0] X.env=(false,eval e0 X.env)::starEach [] X.env:=by rfl) (B1:(backTo Bs (starEach [] X.env)).any (·.1)=false:=by rfl) :
  QS X (.Raise (some (.Call (.Name x np) [e0] [] Bs)) none pos) (My C fld E t):=by
 obtain⟨fI,fd,par,i,Fn,h⟩:=c;exact rM i f d Fn h (b.mono e) g a go ha B7 he B1
end
end L2
namespace Fz
open L2 Lw
variable{C a:Addr}{i j:Nat}{ss:List Slot}{ta tb te:TE}{k:PV->Prop}{t u:OV}{F F' H H':Hp}{Z:L2.St}{E:Ent0}
def Sy(K:ZAe)(C:Addr):Bool:=PySem.W.findIn K (.ref C) "__getattribute__" == some (some (.builtin "BaseException.__getattribute__")) && (PySem.W.findIn K (.ref C) "__getattr__" == some none && (PySem.W.mroIn K C (.type "BaseException") == some true && ((PySem.W.clsIn K C).isSome && (PySem.W.findIn K (.ref C) "__class__" == some (some (.builtin "object.__class__")) && (PySem.W.specialIn K (.builtin "object.__class__") "__get__" == some (some (.builtin "getset_descriptor.__get__")) && (PySem.W.takesIn K (.builtin "object.__class__") == some true && PySem.W.mroIn K C (.type "object") == some true))))))
theorem pK{K:ZAe}(h:Sy K C=true):N7 K C:=by
 unfold Sy at h;simp only[DT,ZAA]at h;obtain⟨h1,h2,f,e,d,c,b,a⟩:=h;exact⟨⟨h1,h2,f⟩,e,d,c,b,a⟩
def Pr(K:ZAe)(cs:List Addr)(S C:Addr)(i:Nat):Bool:=Sy K C && (PySem.W.kitOne K (.ref C) (.ref S) == some true && (PySem.W.kitOne K (.ref C) (.type "ValueError") == some true && (List.range cs.length).all λj=>PySem.W.kitOne K (.ref C) (.ref (cs.getD j 0)) == some (decide (j=i))))
structure Rh (K:ZAe) (cs:List Addr) (S C:Addr) (i:Nat):Prop where
 ex:N7 K C
 st:PySem.W.kitOne K (.ref C) (.ref S)=some true
 ve:PySem.W.kitOne K (.ref C) (.type "ValueError")=some true
 at_:∀j,j<cs.length->PySem.W.kitOne K (.ref C) (.ref (cs.getD j 0))=some (decide (j=i))
theorem gE{K:ZAe}{cs:List Addr}{S:Addr}(h:Pr K cs S C i=true):Rh K cs S C i:=by
 unfold Pr at h;simp only[DT,ZAA,JH]at h;obtain⟨h1,h2,c,b⟩:=h;exact⟨pK h1,h2,c,λj a=>b j (List.mem_range.mpr a)⟩
theorem ib(bs:List Bool):(bs.map V.bl).all C6=true:=by
 rw[JH];intro x hx;obtain⟨y,_,rfl⟩:=List.mem_map.mp hx;rfl
section
variable[Xw]
variable{K:ZAe}{ns:List Str}
theorem lL{neg:Bool}(c:Et K a (ns.map .str))(h:Wp ss ta λp=>∃x,p=.str x/\k (.bl (if neg then !decide (x∈ns)else decide (x∈ns)))):Wp ss (BQ (Q9 K neg) ta (tC (.ref a))) k:=⟨λE Z F H Q S q=>
 h.go E Z F H _ S λv p F1 H1 d b A6=>by
  obtain⟨x,e,kk⟩:=A6;subst e;cases b.inv;have sq:=c.sq H1;rw[VJ]at sq;refine⟨a,ns.map V.str,rfl,.inr sq,rfl,NN ns,?_⟩;rw[Us];exact q _ _ F1 H1 d (.bl _) kk⟩
theorem iV(h:Wq ss ta λtp xs=>tp=false/\∃bs:List Bool,xs=bs.map PV.bl/\Wp ss tb λq=>∃b,q=.bl b/\k (.int (Lz (.bl b) (bs.map V.bl)))):Wp ss (Iz K "list" (To K) ta (Ab tb B0)) k:=⟨λE Z F H Q S q=>
 h.go E Z F H _ S λv tp xs F1 H1 c sv⟨g,bs,e,h2⟩=>by
  subst g;subst e;obtain⟨l,vs,rfl,hl,r⟩:=sv.seq c.st;refine⟨.inl ⟨rfl,_,AN.of hl⟩,h2.go E Z F1 H1 _ c.st λm p2 F2 H2 a d⟨b,i,kk⟩=>?_⟩;subst i;cases d.inv;obtain⟨n,Dl,j,BM,f⟩:=(sv.mv a).seq a.st;cases j;rw[f.Y2]at BM;exact⟨l,_,_,rfl,rfl,AN.of BM,rfl,ib bs,q _ _ F2 H2 (c.trans a) (.int _) kk⟩⟩
end
def Sb(K:ZAe)(cs:List Addr)(S:Addr):Pre:=λl R=>∃(C:Addr)(a:List Str)(xs:List PV)(i:Nat),l=[.is (.exc C a xs),.is (.int i)]/\Rh K cs S C i/\i<cs.length/\cs.length=16/\R=.is λp=>p=.bl true
theorem sJ(h:i<16):Lz (.bl true) (List.map V.bl [decide (0=i),decide (1=i),decide (2=i),decide (3=i),decide (4=i),decide (5=i),decide (6=i),decide (7=i),decide (8=i),decide (9=i),decide (10=i),decide (11=i),decide (12=i),decide (13=i),decide (14=i),decide (15=i)])=1:=by
 have c:i=0∨i=1∨i=2∨i=3∨i=4∨i=5∨i=6∨i=7∨i=8∨i=9∨i=10∨i=11∨i=12∨i=13∨i=14∨i=15:=by omega
 rcases c with rfl|rfl|rfl|rfl|rfl|rfl|rfl|rfl|rfl|rfl|rfl|rfl|rfl|rfl|rfl|rfl <;> rfl
theorem iH(h:i<16):L2.BA [PV.bl (decide (0=i)),PV.bl (decide (1=i)),PV.bl (decide (2=i)),PV.bl (decide (3=i)),PV.bl (decide (4=i)),PV.bl (decide (5=i)),PV.bl (decide (6=i)),PV.bl (decide (7=i)),PV.bl (decide (8=i)),PV.bl (decide (9=i)),PV.bl (decide (10=i)),PV.bl (decide (11=i)),PV.bl (decide (12=i)),PV.bl (decide (13=i)),PV.bl (decide (14=i)),PV.bl (decide (15=i))] (i:Int)=some (.bl true):=by
 have c:i=0∨i=1∨i=2∨i=3∨i=4∨i=5∨i=6∨i=7∨i=8∨i=9∨i=10∨i=11∨i=12∨i=13∨i=14∨i=15:=by omega
 rcases c with rfl|rfl|rfl|rfl|rfl|rfl|rfl|rfl|rfl|rfl|rfl|rfl|rfl|rfl|rfl|rfl <;> rfl
section
variable[Xw]
variable{K:ZAe}{t u:TE}{pre:HC}{tA:TA}
theorem V2(h:Wp ss te λp=>∃x,p=.str x/\x.length<=1000/\k (.bl (isNm x))):Wp ss (EE KY [] E0 (Ab te B0)) k:=⟨λE Z F H Q S q=>
 h.go E Z F H _ S λv p F1 H1 a r A6=>by
  obtain⟨x,e,hx,kk⟩:=A6;subst e;cases r.inv;exact⟨x,rfl,hx,λH3 s=>q _ _ F1 H3 (a.trans (a.st.grow s)) (.bl _) kk⟩⟩
theorem T7(h:Wp ss ta λp=>∃x,p=.str x/\Wp ss tb λq=>∃y,q=.str y/\x.length+y.length<=100000/\k (.str (x++y))):Wp ss (BQ (λx y H Q=>∃i j,x=.str i/\y=.str j/\i.length+j.length<=sizeLine/\Q (.str (i++j)) H) ta tb) k:=⟨λE Z F H Q S q=>
 h.go E Z F H _ S λv p F1 H1 a c⟨x,e,h2⟩=>h2.go E Z F1 H1 _ a.st λl p2 F2 H2 d b⟨y,g,f,kk⟩=>by
  subst e;subst g;cases c.inv;cases b.inv;exact⟨x,y,rfl,rfl,Ax f (by decide +kernel),q _ _ F2 H2 (a.trans d) (.str _) kk⟩⟩
theorem xF{k:List PV->Prop}(h:Wa ss tA λl=>∃c D,pre l (.new c) D/\Xw.J ss/\(∀x,D x->Xw.D x)/\∀xs,c xs->k xs):Wn ss (Kl (Gi pre) Xw.e tA) k:=⟨λE Z F H Q S q=>
 h.go E Z F H _ S λvs l F1 H1 b a⟨c,D,i,j,m,kk⟩=>by
  refine⟨l,.new c,D,F1,[],i,b.st.Pk a,λv F' H' f⟨l,vs,xs,e,n,hl,BM,r,g⟩=>?_,λx C dx F' H' f d Hl=>?_⟩
  .subst e;exact q l vs xs F' H' (b.trans (b.st.back (λ_ h=>absurd h Bg) f)) n (b.none hl) BM r (kk xs g)
  .exact E.hx ss Z F' H' x C dx j (b.st.back (λ_ h=>absurd h Bg) f).st (m x d) Hl⟩
end
def DL(xs ys:List PV):List PV:=List.zipWith (λx y=>.tup [x,y]) xs ys
theorem JE(xs ys:List PV):(DL xs ys).length=min xs.length ys.length:=by unfold DL;rw[QQ]
theorem ZX{xs ys:List PV}{x y:PV}(h:xs[i]?=some x)(h2:ys[i]?=some y):(DL xs ys)[i]?=some (.tup [x,y]):=by
 unfold DL;rw[Kc,h,h2]
inductive Hf (F:Hp):List V->List Slot->Prop where
 |nil:Hf F [] []
 |cons {v:V}{p:PV}{vs:List V}{l:List Slot}:Rep F v p->Hf F vs l->Hf F (v::vs) (.is p::l)
inductive JB (Z:L2.St) (F:Hp) (i:Nat) (t:OV):List V->List Slot->Prop where
 |here {v:V}{vs:List V}{l:List Slot}:Z[i]?=some (some v)->Hf F vs l->JB Z F i t (v::vs) (.ow true t::l)
 |there {v:V}{p:PV}{vs:List V}{l:List Slot}:Rep F v p->JB Z F i t vs l->JB Z F i t (v::vs) (.is p::l)
theorem Hf.mono(s:A9 F F'):∀{vs:List V}{l:List Slot},Hf F vs l->Hf F' vs l:=by
 intro vs l h
 induction h with
 |nil=>exact .nil
 |cons r _ a=>exact .cons (r.mono s) a
theorem JB.mono(s:A9 F F'):∀{vs:List V}{l:List Slot},JB Z F i t vs l->JB Z F' i t vs l:=by
 intro vs l h
 induction h with
 |here e r=>exact .here e (r.mono s)
 |there r _ a=>exact .there (r.mono s) a
theorem Hf.len:∀{vs:List V}{l:List Slot},Hf F vs l->l.length=vs.length:=by
 intro vs l h
 induction h with
 |nil=>rfl
 |cons _ _ a=>rw[B6,B6,a]
theorem JB.len:∀{vs:List V}{l:List Slot},JB Z F i t vs l->l.length=vs.length:=by
 intro vs l h
 induction h with
 |here _ r=>rw[B6,B6,r.len]
 |there _ _ a=>rw[B6,B6,a]
structure c7 (E:Ent0) (ss:List Slot) (Z:L2.St) (i:Nat) (lt:Bool) (t t':OV) (F H F' H':Hp):Prop where
 st:Sg E (ss.set i (.ow lt t')) Z F' H'
 ff:A9 F F'
 hh:∀a o,DR ss Z a->a∉t.addrs->H a=some o->H' a=some o
 nn:∀a o,F' a=some o->F a=some o∨H a=none
theorem c7.of{lt:Bool}(hi:ss[i]?=some (.ow lt t))(m:Mv E ss Z F H F' H'):c7 E ss Z i lt t t F H F' H':=⟨by
 rw[show ss.set i (.ow lt t)=ss from by
  apply fB;intro n
  by_cases q:i=n
  .subst q;rw[ER (List.getElem?_eq_some_iff.mp hi).1,hi]
  .rw[E7 q]]
 exact m.st,m.ff,λa o n _ e=>m.hh a o n e,m.nn⟩
end Fz
namespace L2
variable{C a:Addr}{j n:Nat}{t:SetTable}{xs:Array Nat}{prog:Program}{w:World}{A:Around}{E:Value->Shared->Prop}{s:Shared}
def Cs(xs:Array Nat):Prop:=xs.toList.Pairwise (· < ·)
theorem Cs.get{xs:Array Nat}(a:Cs xs){i j:Nat}(EF:i<j)(h:j<xs.size):xs[i]'(by omega)<xs[j]:=by
 have q:=List.pairwise_iff_getElem.mp a i j (by rw[CK];omega) (by rw[CK];omega) EF
 simpa using q
theorem we(xs:Array Nat)(g:Cs xs)(j:Nat):∀(f lo hi:Nat),lo<=hi->hi<=xs.size->hi - lo<=f->(∀i,i<lo->(h:i<xs.size)->xs[i]<j)->(∀i,hi<=i->(h:i<xs.size)->j<=xs[i])->
  SetTable.below.go xs j f lo hi<=xs.size/\(∀i,i<SetTable.below.go xs j f lo hi->(h:i<xs.size)->xs[i]<j)/\∀i,SetTable.below.go xs j f lo hi<=i->(h:i<xs.size)->j<=xs[i]:=by
 intro f
 induction f with
 |zero=>
  intro lo hi h1 h2 l c b;have e:lo=hi:=by omega
  subst e;exact⟨h2,c,b⟩
 |succ f d=>
  intro lo hi h1 h2 l c b;unfold SetTable.below.go
  by_cases hl:lo<hi
  .rw[i6 hl];have k:(lo+hi) / 2<xs.size:=by omega
   have m:xs.getD ((lo+hi) / 2) j=xs[(lo+hi) / 2]:=by simp[Array.getD,k]
   dsimp only;rw[m]
   by_cases a:xs[(lo+hi) / 2]<j
   .rw[i6 a];refine d _ _ (by omega) h2 (by omega) (λi Cr h=>?_) b
    by_cases e:i=(lo+hi) / 2
    .subst e;exact a
    .exact Nc (g.get (by omega) k) a
   .rw[hZ a];refine d _ _ (by omega) (by omega) (by omega) c (λi Cr h=>?_)
    by_cases e:i=(lo+hi) / 2
    .subst e;omega
    .exact Wv (Lr (QX a) (g.get (by omega) h))
  .rw[hZ hl];have e:lo=hi:=by omega
   subst e;exact⟨h2,c,b⟩
theorem cS(a:Cs xs)(j:Nat):SetTable.below xs j<=xs.size/\(∀i,i<SetTable.below xs j->(h:i<xs.size)->xs[i]<j)/\∀i,SetTable.below xs j<=i->(h:i<xs.size)->j<=xs[i]:=
 we xs a j _ _ _ (DV _) (AZ _) (by omega) (λi h=>by omega) (λi h h'=>by omega)
theorem ku{α:Type}(xs:Array α)(p:Nat)(x:α)(a:p<=xs.size):(SetTable.insertAt xs p x).toList=xs.toList.take p++x::xs.toList.drop p:=by
 unfold SetTable.insertAt;simp[Kf]
theorem Cs.insert(d:Cs xs)(k:j∉xs.toList):Cs (SetTable.insertAt xs (SetTable.below xs j) j):=by
 obtain⟨h1,h2,h⟩:=cS d j;unfold Cs;rw[ku _ _ _ h1,List.pairwise_append];refine⟨zQ (ze _ _) d,List.pairwise_cons.mpr ⟨λa ha=>?_,zQ (List.drop_sublist _ _) d⟩,λa ha b f=>?_⟩
 .obtain⟨i,hi,e⟩:=List.mem_iff_getElem.mp ha;rw[zW]at e;have g:SetTable.below xs j+i<xs.size:=by rw[Kd,CK]at hi;omega
  have q:=h _ (Hx _ _) g;have c:xs[SetTable.below xs j+i]=a:=by simpa using e
  rw[c]at q;have:a≠j:=λz=>k (z▸QR ha);omega
 .have l:a<j:=by
   obtain⟨i,hi,e⟩:=List.mem_iff_getElem.mp ha;rw[List.getElem_take]at e;rw[Em,CK]at hi;have q:=h2 i (by omega) (by omega);have c:xs[i]=a:=by simpa using e
   rw[c]at q;exact q
  rcases List.mem_cons.mp f with rfl|f
  .exact l
  .obtain⟨i,hi,e⟩:=List.mem_iff_getElem.mp f;rw[zW]at e;have g:SetTable.below xs j+i<xs.size:=by rw[Kd,CK]at hi;omega
   have q:=h _ (Hx _ _) g;have c:xs[SetTable.below xs j+i]=b:=by simpa using e
   rw[c]at q;omega
theorem aA(a:Cs t.place)(h:∀i,t.slot j≠.live i):j∉t.place.toList:=by
 intro b;obtain⟨i,hi,e⟩:=List.mem_iff_getElem.mp b;rw[CK]at hi;have f:t.place[i]=j:=by simpa using e
 obtain⟨h1,h2,d⟩:=cS a j;have c:SetTable.below t.place j=i:=by
  rcases Nat.lt_trichotomy i (SetTable.below t.place j)with z|z|z
  .have:=h2 i z hi;omega
  .exact z.symm
  .have q:=d _ (AZ _) (by omega);have r:=a.get z hi;omega
 refine h (SetTable.below t.place j) ?_;unfold SetTable.slot;dsimp only;rw[i6 (by rw[c,zF hi,f];simp)]
theorem tW(t:SetTable)(g:Nat->Int)(h:Int):∀(f:Nat)(p:SetTable.Probe)(j:Nat)(d:Option Nat),(∀d',p.dummy=some d'->∀i,t.slot d'≠.live i)->SetTable.probe.go t g h f p=some (.empty j d)->
  (∀i,t.slot j≠.live i)/\∀d',d=some d'->∀i,t.slot d'≠.live i:=by
 intro f
 induction f with
 |zero=>intro p j d _ e;simp[SetTable.probe.go]at e
 |succ f b=>
  intro p j d hd e;have c:∀q:SetTable.Probe,(t.advance q).dummy=q.dummy:=by
   intro q;unfold SetTable.advance;split <;> rfl
  unfold SetTable.probe.go at e;split at e
  .next VF=>
   simp only[Qe,SetTable.Met.empty.injEq]at e;obtain⟨l,k⟩:=e;subst l;subst k;exact⟨λi z=>(by rw[VF]at z;cases z),hd⟩
  .next VF=>
   refine b _ j d (λd' a i=>?_) e;rw[c]at a;cases a;rw[VF];intro z;cases z
  .split at e
   .simp at e
   .refine b _ j d (λd' a i=>?_) e;rw[c]at a;exact hd d' a i
theorem vj(a:Cs t.place){h:Int}{b:Bool}(e:t.freeSlot h=some (j,b)):j∉t.place.toList:=by
 unfold SetTable.freeSlot at e;split at e
 .next j0 d hp=>
  unfold SetTable.probe at hp;obtain⟨h1,h2⟩:=tW t _ h _ _ j0 d (λd' z=>by simp[SetTable.probeStart]at z) hp;simp only[Qe,Prod.mk.injEq]at e;obtain⟨c,_⟩:=e;subst c;cases d with
  |none=>exact aA a h1
  |some d=>exact aA a (h2 d rfl)
 .simp at e
theorem PH(n:Nat):Cs (Array.range n):=by
 unfold Cs;rw[Array.toList_range];exact zc
theorem gm(h:Cs t.place):Cs (t.orStandIn n).place:=by
 unfold SetTable.orStandIn;split
 .exact h
 .exact PH n
theorem uS(a:Cs t.place)(es:Array (Int×Value))(h:Int)(x:Value):Cs (layNew t es h x).2.1.place:=by
 unfold layNew;split
 .next j b e=>
  refine gm ?_;exact a.insert (vj a e)
 .exact PH _
theorem y6(es:Array (Int×Value))(n:Nat):Cs (relayAll t es n).2.1.place:=by
 unfold relayAll;split
 .next t' order hr=>
  dsimp only;split
  .unfold SetTable.relaid SetTable.laid at hr;generalize SetTable.layClean _ _=lc at hr;cases lc with
   |none=>simp at hr
   |some ow=>
    simp only[Option.bind_eq_bind,Ww,Option.pure_def,Qe,Prod.mk.injEq]at hr;obtain⟨rfl,_⟩:=hr;unfold Cs;simp only;rw[List.pairwise_map,List.pairwise_filterMap];refine zP ?_ (zc (n:=SetTable.sizeAbove n - 1+1));intro a b E6 u d v c;cases ha:ow.getD a none with
    |none=>rw[ha]at d;simp at d
    |some g=>
     rw[ha]at d;cases e:ow.getD b none with
     |none=>rw[e]at c;simp at c
     |some f=>
      rw[e]at c;simp only[Qd,Qe]at d c;subst d;subst c;exact E6
  .exact PH _
 .exact PH _
theorem xn(t:SetTable)(es:Array (Int×Value))(n:Nat):(relayAll t es n).2.1.led=t.led:=by
 unfold relayAll;split
 .next t' order hr=>
  have q:=Yc (p:=(t',order)) hr;dsimp only at q ⊢;split
  .exact q.1
  .rfl
 .rfl
def Vy(prog:Program)(w:World)(h:Heap)(a:Addr)(S:Int->Bool)(n:Nat):Prop:=
 ∃o es ep t,h.get? a=some o/\o.ExactSet/\o.data=.set es ep t/\ElemsOf (PySem.intKind prog w) es.toList/\(∀k,S k=true↔∃e∈es.toList,(PySem.intKind prog w).is k e.2=true)/\
  es.size<scanBound/\t.fits es.size=true/\es.size=n/\(t.led=!aV w)/\Cs t.place
theorem Vy.put{S:Int->Bool}{k:Int}{tk:Tok}{Q:Bool->Shared->Prop}(hS:Vy prog w s.heap a S n)(Hk:n+1<scanBound)
  (h:∀h',Heap.SameBut a s.heap h'->Vy prog w h' a (λc=>S c || decide (c=k)) (if S k then n else n+1)->Q (!S k) { s with heap:=h' }) :
  wpAny (model prog w) A (setAddHashed a (.int k tk) ((PySem.intKind prog w).hash k)) Q E s:=by
 obtain⟨o,es,ep,t,ho,f,hd,Hb,Dv,O,D,C,NP,B1⟩:=hS;have I:(PySem.intKind prog w).is k (.int k tk)=true:=by simp[PySem.intKind,Value.isInt]
 have H:(Value.int k tk).scannable=true:=rfl;have rm:es.size+1<scanBound:=by rw[C];exact Hk
 have P:∀(b:Bool)(u:Shared)(Q1:Unit->Shared->Prop),Q1 () u->wpAny (model prog w) A (match b with|true=>rule "set.scan.the-table-gave-way" |false=>pure ()) Q1 E u:=by
  intro b u Q1 q;cases b
  .exact fv q
  .exact nk q
 unfold setAddHashed setAddHashedIn;refine iZ ?_;refine fq (wpAny_setState_of ho hd D ?_);dsimp only;rw[byScan_of H O Hb];simp only[↓reduceIte];unfold setAddByScan;refine fq ?_;refine fq (nk ?_);refine fq (wpAny_setScan_of I ho hd D Hb ?_);cases N:List.findIdx? (λe=>(PySem.intKind prog w).is k e.2) es.toList with
 |some j=>
  dsimp only;obtain⟨hj,Rk,_⟩:=List.findIdx?_eq_some_iff_getElem.mp N;have g:S k=true:=(Dv k).mpr ⟨es.toList[j],Gz hj,Rk⟩;refine fv ?_;refine fv ?_;have q:=h s.heap (eZ a s.heap) ⟨o,es,ep,t,ho,f,hd,Hb,λc=>by
   rw[<- Dv c,WY,kz];exact⟨λz=>z.elim id λe=>e▸g,Or.inl⟩,O,D,by rw[i6 g];exact C,NP,B1⟩
  rw[g]at q;exact q
 |none=>
  dsimp only;have g:S k=false:=by
   cases e:S k with
   |false=>rfl
   |true=>
    obtain⟨x,hx,hp⟩:=(Dv k).mp e;have q:=List.findIdx?_eq_none_iff.mp N x hx;rw[hp]at q;exact Bool.noConfusion q
  have p1:=layNew_perm t es ((PySem.intKind prog w).hash k) (.int k tk);have p:=layNew_fits t es ((PySem.intKind prog w).hash k) (.int k tk);have l:=uS B1 es ((PySem.intKind prog w).hash k) (.int k tk);have l1:=XN t es ((PySem.intKind prog w).hash k) (.int k tk);generalize layNew t es ((PySem.intKind prog w).hash k) (.int k tk)=L at p1 p l l1 ⊢;obtain⟨Aj,t1,W,gv⟩:=L;dsimp only at p1 p l l1 ⊢;rw[zG]at p1;have TR:ElemsOf (PySem.intKind prog w) Aj.toList:=(Hb.push I H).perm p1;have σ:∀c,(S c || decide (c=k))=true↔∃e∈Aj.toList,(PySem.intKind prog w).is c e.2=true:=mem_push_iff I Dv p1;have K:Aj.size=n+1:=by rw[<- CK,p1.length_eq,Cm,CK,C];rfl
  have R:Aj.size<scanBound:=by rw[K];exact Hk
  have i:∀(h':Heap)(o':Obj)(Bp:Array (Int×Value))(G1:Nat)(t':SetTable),Heap.SameBut a s.heap h'->h'.get? a=some o'->o'.ExactSet->o'.data=.set Bp G1 t'->Bp.toList.Perm Aj.toList->t'.fits Bp.size=true->t'.led=t.led->Cs t'.place->
    Q true { s with heap:=h' }:=by
   intro h' o' Bp G1 t' X go V d' m ff ll Y;have J:Bp.size=n+1:=by rw[<- K,<- CK,m.length_eq,CK]
   have q:=h h' X ⟨o',Bp,G1,t',go,V,d',TR.perm m,λc=>(σ c).trans ⟨λ⟨e,F,q⟩=>⟨e,m.mem_iff.mpr F,q⟩,λ⟨e,F,q⟩=>⟨e,m.mem_iff.mp F,q⟩⟩,by rw[J];exact Hk,ff,by rw[g];exact J,ll.trans NP,Y⟩;rw[g]at q;exact q
  have d:∀(t2:SetTable),t2.fits Aj.size=true->t2.led=t.led->Cs t2.place->wpAny (model prog w) A (do
    storeSet a Aj t2
    if(
      !W && t2.tooFull)=true then do
      (match(relayAll t2 Aj (SetTable.grown Aj.size)).2.2 with|true=>rule "set.scan.the-table-gave-way" |false=>pure ())
      storeSet a (relayAll t2 Aj (SetTable.grown Aj.size)).1 (relayAll t2 Aj (SetTable.grown Aj.size)).2.1
      pure (some true)
     else pure (some true)) (λr s'=>match r with|some b=>Q b s'|none=>False) E s:=by
   intro t2 f2 l2 DQ;refine fq (uD ho hd ?_ (uW R));have y:=O7 ho hd Aj t2;have T:=NT s.heap a (Obj.putSet Aj t2);split
   .have p3:=relayAll_perm t2 Aj (SetTable.grown Aj.size);have G:=relayAll_fits t2 Aj (SetTable.grown Aj.size);have v:=y6 (t:=t2) Aj (SetTable.grown Aj.size);have B:=xn t2 Aj (SetTable.grown Aj.size);generalize relayAll t2 Aj (SetTable.grown Aj.size)=Rl at p3 G v B ⊢;obtain⟨HE,M,g3⟩:=Rl;dsimp only at p3 G v B ⊢;have U:HE.size=Aj.size:=by rw[<- CK,p3.length_eq,CK]
    refine fq (P _ _ _ ?_);refine fq (uD y rfl ?_ (uW (by rw[U];exact R)));refine fv ?_;exact i _ _ HE _ M (T.trans (NT _ a _)) (O7 y rfl HE M) f rfl p3 G (B.trans l2) v
   .exact fv (i _ _ Aj _ t2 T y f rfl (List.Perm.refl _) f2 l2 DQ)
  refine fq (P _ _ _ ?_);split
  .next Pl=>
   refine fq ?_;rw[hashByValue_scannable 8 H];refine fv ?_;refine i9 (d t1 p l1 l) (λr s' q=>?_) λ_ _ e=>e;cases r with
   |none=>exact q.elim
   |some b=>exact fv q
  .next Pl=>
   refine fq (fv ?_);simp only[↓reduceIte];refine i9 (d t1 p l1 l) (λr s' q=>?_) λ_ _ e=>e;cases r with
   |none=>exact q.elim
   |some b=>exact fv q
theorem IntsAre.len:∀{vs:List Value}{ss:List Int},IntsAre vs ss->vs.length=ss.length
 |_,_,.nil=>rfl
 |_,_,.cons _ _ h=>by rw[B6,B6,IntsAre.len h]
end L2
set_option maxHeartbeats 200000
set_option maxHeartbeats 4000000
namespace Fz
open L2 Lw
section
variable[Xw]
variable{ss:List Slot}{nx:List Slot->Prop}{R:Ah}{K:ZAe}{S:Addr}{tb:(L2.St->XK)->TS}{th:TS}{ta te ti:TE}{xs:List PV}{F:Hp}
theorem AE.rep{vs:List V}(h:AE F vs xs):∀n:Nat,AE F (List.replicate n vs).flatten (List.replicate n xs).flatten
 | 0=>.nil
 |n+1=>by rw[Hw,Hw,Lo,Lo];exact h.append (AE.rep h n)
theorem vS{k:List PV->Prop}(h:Wq ss ta λtp xs=>tp=false/\Wp ss te λp=>∃n:Int,p=.int n/\-1000<=n/\n<=1000/\xs.length<=10/\k (List.replicate n.toNat xs).flatten):Wn ss (BQ bu ta te) k:=⟨λE Z F H Q S q=>
 h.go E Z F H _ S λv tp xs F1 H1 c sv⟨i,h2⟩=>h2.go E Z F1 H1 _ c.st λm p F2 H2 b d⟨n,j,n0,o,f,kk⟩=>by
  subst i;subst j;cases d.inv;obtain⟨l,vs,rfl,hl,r⟩:=(sv.mv b).seq b.st;have g:vs.length * n.toNat<=10 * 1000:=Nat.mul_le_mul (by rw[r.length];exact f) (by omega);refine⟨l,n,vs,rfl,rfl,hl,by omega,by omega,small (Ax g (by decide)),λa ha=>?_⟩;have e:=b.st.make ha (.lst (List.replicate n.toNat vs).flatten);exact q a _ _ F2 _ (c.trans (b.trans e)) (b.st.CO ha) ((c.trans b).none ha) AY (r.rep _) kk⟩
theorem xX{i:Nat}(hi:ss[i]?=some (.own xs))(h:Wp ss te λq=>∃(n:Int)(j:Nat),q=.int n/\-1000<=n/\n<=1000/\G3 xs.length n=some j/\nx (ss.set i (.own (xs.eraseIdx j)))):Ws ss (L9 (Iz K "list" Um (Br i) (Ab te B0))) nx R:=⟨λE D Z F H S k w=>by
 obtain⟨l,vs,e,y,x,s,r⟩:=S.ok i _ hi;refine⟨_,e,.inl ⟨rfl,_,AN.of s⟩,h.go E Z F H _ S λv p F1 H1 a g⟨n,j,o,n0,t,m,kk⟩=>?_⟩;subst o;cases g.inv;obtain⟨u,Dl,f,EG,Bk,Ea,b⟩:=a.st.ok i _ hi;rw[e]at f;cases f;obtain⟨d,c,_,_⟩:=WB m;rw[<- b.length]at d c;refine⟨l,Dl,n,j,Dl[j],rfl,rfl,Ea,by omega,by omega,d,Aw c,?_⟩;exact k _ Z F1 _ kk (a.st.put hi e EG Bk (b.erase j)) a.ff⟩
end
end Fz
namespace Fz
open L2 Lw
variable{ps xs:List PV}{js:List Nat}
section
variable[Xw]
variable{E:Ent0}{ss:List Slot}{Z:L2.St}{F H F' H':Hp}{K:ZAe}{ta tb tc te:TE}{k:PV->Prop}{v:V}{tp:Bool}{nx:List Slot->Prop}{R:Ah}
theorem cI{i j:Nat}(h:js[i]?=some j):(Aq js Z)[i]?=some ((Z[j]?).join):=by
 unfold Aq;rw[B3,h];rfl
theorem join_some{o:Option (Option V)}{a:Addr}(h:some o.join=some (some (V.ref a))):o=some (some (.ref a)):=by
 cases o with
 |none=>cases h
 |some q=>cases q with
  |none=>cases h
  |some v=>simpa using h
theorem Mv.d8{vs:List V}(S:Sg E ss Z F H)(m:Mv E (BU js ss++ps.map .is) (Aq js Z++vs.map some) F H F' H'):Mv E ss Z F H F' H':=by
 have hl:(BU js ss).length=js.length:=by simp[BU]
 have k:(Aq js Z).length=js.length:=by simp[Aq]
 have g:∀(i:Nat)(a:Addr),(BU js ss++ps.map .is)[i]?=some .AQ->(Aq js Z++vs.map some)[i]?=some (some (.ref a))->∃j,js[i]?=some j/\ss[j]?=some .AQ/\Z[j]?=some (some (.ref a)):=λi a hi f=>by
  by_cases h:i<js.length
  .rw[Fm (by rw[hl];exact h)]at hi;rw[Fm (by rw[k];exact h)]at f;have d:=Aw h;have q:=X6 d hi;rw[cI d]at f;refine⟨js[i],d,?_,join_some f⟩;cases w:ss[js[i]]? with
   |none=>rw[w]at q;cases q
   |some u=>rw[w]at q;cases q;rfl
  .rw[JK (by omega),B3]at hi;cases w:ps[i - (BU js ss).length]? with
   |none=>rw[w]at hi;cases hi
   |some p=>rw[w]at hi;cases hi
 refine S.step m.ff m.st.fh (λa o n e=>m.hh a o (λi hi f=>?_) e) m.nn λi l hi e=>?_
 .obtain⟨j,_,h1,h2⟩:=g i a hi f;exact n j h1 h2
 .by_cases c:∃b:Nat,js[b]?=some i
  .obtain⟨b,c⟩:=c;have lt:b < js.length:=(List.getElem?_eq_some_iff.mp c).1;refine m.st.FC (i:=b) ?_ ?_
   .rw[Fm (by rw[hl];exact lt)];unfold BU;rw[B3,c];show some ((ss[i]?).getD .any)=_;rw[hi];rfl
   .rw[Fm (by rw[k];exact lt),cI c,e];rfl
  .refine BK.keep (S.FC hi e) λo t=>m.hh l o (λb Cr r=>?_) t;obtain⟨j,s,h1,h2⟩:=g b l Cr r;have d:j≠i:=by rintro rfl;exact c ⟨b,s⟩
   exact S.EB j i _ _ l d h1 hi h2 e
theorem um{wi:TI}{tt:TT}{k:List PV->Prop}(P:PV->PV->Prop)
  (h:Wi ss wi λxs=>xs.length<=100000/\(∀x∈xs,Wt (BU js ss++[.is x]) tt λb=>b=true)/\(∀x∈xs,Wp (BU js ss++[.is x]) te (P x))/\∀ys:List PV,ys.length=xs.length->(∀(j:Nat)x y,xs[j]?=some x->ys[j]?=some y->P x y)->k ys)
  (nd:js.Nodup:=by decide):Wn ss (KO wi js tt te) k:=⟨λE Z F H Q S q=>
 h.go E Z F H _ S λJ xs F1 H1 f u⟨hz,U,V,kk⟩acc Am=>by
  have Hh:DR ss Z acc:=f.st.Jw Am;have K7:=f.st.Cy Am;have KC:∀(i:Nat)s,ss[i]?=some s->¬ CD s Z[i]? acc:=λi s hi=>f.st.K3 hi Am;refine⟨λi m H2=>m=xs.length - i/\i<=xs.length/\∃F2 vs ys,Mv E ss Z F1 H1 F2 H2/\F2 acc=none/\H2 acc=some (.lst vs)/\AE F2 vs ys/\ys.length=i/\∀(j:Nat)x y,xs[j]?=some x->ys[j]?=some y->P x y,⟨_,rfl,DV _,F1,[],[],f.st.make Am _,f.st.CO Am,AY,.nil,rfl,λj x y _ e=>by simp at e⟩,?_⟩;rintro i m H2⟨rfl,hi,F2,vs,ys,d,K,ha,v,Jv,I⟩
  by_cases C:i<xs.length
  .refine .inr ⟨u.go ss Z F2 H2 i d.ff d.st C,λx H3 y=>?_⟩;obtain⟨p,F3,G,z,D⟩:=u.Dg ss Z F2 H2 i x H3 d.ff d.st C y;have L:p∈xs:=DJ G;have Hs:∀{F4:Hp},(∀a o,F4 a=some o->F2 a=some o∨H2 a=none)->F4 acc=none:=λ{F4}n=>by
    cases e:F4 acc with
    |none=>rfl
    |some o=>
     rcases n acc o e with w|w
     .rw[K]at w;cases w
     .rw[ha]at w;cases w
   have σ:=z.st.A8 (js:=js) nd (.one D);refine(U p L).go E _ F3 H3 _ σ λb F4 H4 T g=>?_;have M:=T.d8 (ps:=[p]) (vs:=[x]) z.st;have B:=z.trans M;show if b=true then _ else _
   rw[g,i6 rfl];have Y:=B.st.A8 (js:=js) nd (.one (D.mono M.ff));refine(V p L).go E _ F4 H4 _ Y λw O F5 H5 R GY W=>?_;have Jo:=R.d8 (ps:=[p]) (vs:=[x]) B.st;have r:=B.trans Jo;have Jy:=r.hh acc _ Hh ha;have N:=Hs r.nn;have l:vs.length<=99999:=by
    rw[v.length,Jv];omega
   refine⟨vs,Jy,LV l,xs.length - (i+1),by omega,rfl,C,F5,vs++[w],ys++[O],?_,N,AY,(v.mono r.ff).append (.one GY),by simp[Jv],λj a b A g=>?_⟩
   .have t:=d.trans r;refine⟨t.st.Lx N (.inl K7) KC,t.ff,λa o n e=>?_,t.nn⟩;rw[AJ (Ct e Am)];exact t.hh a o n e
   .by_cases c:j<ys.length
    .rw[Fm c]at g;exact I j a b A g
    .have X:j=i:=by
      have:=(List.getElem?_eq_some_iff.mp g).1;rw[Cm,fJ]at this;omega
     subst X;rw[JK (by omega),Jv,Nat.sub_self]at g;rw[G]at A;cases A;cases g;exact W
  .have e:i=xs.length:=by omega
   subst e;exact .inl ⟨u.stop ss Z F2 H2 d.ff d.st,q acc vs _ F2 H2 (f.trans d) K (f.none Am) ha v (kk ys Jv I)⟩⟩
variable{i:Nat}{t:OV}
end
end Fz
namespace Fz
open L2 Lw
@[reducible] def xwM (X:XK) (t:OV) (D:Ex->Prop):Xw:=⟨λ_=>X,λss=>ss[0]?=some (.ow true t),D⟩
end Fz
namespace Fz
open L2 Lw
variable{k:PV->Prop}
def MW(z:Str):List PV:=z.cps.toList.map λc=>PV.str ⟨#[c]⟩
section
variable[Xw]
variable{E:Ent0}{ss:List Slot}{Z:L2.St}{F H F' H':Hp}{K:ZAe}{i:Nat}{t:OV}{ta tb tc te:TE}{nx:List Slot->Prop}{R:Ah}
theorem Xj{k:List PV->Prop}(h:Wp ss te λp=>∃z,p=.str z/\k (MW z)):Wi ss (T4 te) k:=⟨λE Z F H R S q=>
 h.go E Z F H _ S λv p F1 H1 a r A6=>by
  obtain⟨z,e,kk⟩:=A6;subst e;cases r.inv;have hl:(MW z).length=z.cps.size:=by unfold MW;rw[AH,CK]
  refine⟨z,rfl,q _ (MW z) F1 H1 a ⟨λss Z F H i s S hi=>?_,λss Z F H s S=>?_,λss Z F H i x H' s S hi y=>?_⟩ kk⟩
  .rw[hl]at hi;exact hi
  .exact hl
  .obtain⟨e,c,b,ex⟩:=y;subst e;subst ex;refine⟨.str ⟨#[c]⟩,F,?_,.refl S,.str _⟩;unfold MW;rw[B3,QH,b];rfl⟩
theorem TN(h:Wp ss te λp=>∃z:Str,p=.str z/\z.length<=100000/\k (.int z.length)):Wp ss (CJ (λxs H Q=>∃z:Str,xs=[V.str z]/\z.length<=sizeLine/\Q (V.int (z.length:Int)) H) (Ab te B0)) k:=⟨λE Z F H Q S q=>
 h.go E Z F H _ S λv p F1 H1 a r A6=>by
  obtain⟨z,e,b,kk⟩:=A6;subst e;cases r.inv;exact⟨z,rfl,small b,q _ _ F1 H1 a (.int _) kk⟩⟩
theorem dD(h:Wp ss ta λp=>∃z:Str,p=.str z/\z.length<=100000/\Wp ss tb λq=>∃(i:Int)(c:Nat),q=.int i/\L2.BA z.cps.toList i=some c/\k (.str ⟨#[c]⟩)):Wp ss (BQ dH ta tb) k:=⟨λE Z F H Q S q=>
 h.go E Z F H _ S λv p F1 H1 a d⟨z,e,g,h2⟩=>h2.go E Z F1 H1 _ a.st λm p2 F2 H2 f b⟨i,c,l,j,kk⟩=>by
  subst e;subst l;cases d.inv;cases b.inv;exact⟨z,i,c,rfl,rfl,small g,j,q _ _ F2 H2 (a.trans f) (.str _) kk⟩⟩
end
end Fz
namespace L2
variable{P prog:Program}{w:World}{a acc i1 i2 it l l1 l2:Addr}{c0 i k k1 n n0:Nat}{X Y:Cx}{e elt o tg:Expr}{td te to ty:TE}{b t1 t2 tp:Bool}{h':Heap}{t:TA}{items xs ys:Array Value}{A:Around}{E E' Q:Value->Shared->Prop}{s s2 s4:Shared}{x:Str}{old v y:Value}{Zd:ZAf}{ws Z:St}{H H' H2 H4:Hp}{es ifs:List Expr}{p p1 pos':Pos}{tk:Tok}{outer scope:Scope}{N ps zs:List Str}{js:List Nat}{tt:TT}{J:It}{fp:List Addr}{tn:Nat->Heap->Prop}{EX:XK}{wi:TI}{AA:List (List Bool×V)}{r:List V->Hp->VK->Prop}{T:String}{op:CmpOp}
def FG(AA:List (Str×Addr))(x:Str):Option Addr:=(AA.find? λp=>decide (p.1=x)).map (·.2)
structure Hj (P:Program) (w:World) (K:ZAe) (a:Addr) (AA:List (Str×Addr)):Prop where
 ne:(a == sysModules)=false
 at_:∀h:Heap,K.In h->h.DictOf (KL P w) a (AA.map λp=>(.inr p.1,.ref p.2))
theorem ig:∀{l:List Str},l.Nodup->(l.map (Sum.inr:Str->Key)).Nodup:=λ{l}h=>by
 refine List.Pairwise.map _ (λa b E6 q=>E6 (fZ q)) h
theorem Hj.of{K:ZAe}(l:List (Str×Tok×Addr))(y:K.lookup a=some ⟨.type "dict", none,.dict (l.map λp=>(⟨PyData.keyHash w.params p.1,.str p.1 p.2.1,.ref p.2.2⟩:DictEntry)).toArray n,#[]⟩)
  (nd:(l.map (·.1)).Nodup) (ne:(a == sysModules)=false):Hj P w K a (l.map λp=>(p.1,p.2.2)):=by
 refine⟨ne,λh X=>?_⟩;refine⟨⟨.type "dict", none,.dict (l.map λp=>(⟨PyData.keyHash w.params p.1,.str p.1 p.2.1,.ref p.2.2⟩:DictEntry)).toArray n,#[]⟩,_,n,X a _ y,⟨rfl,rfl,rfl⟩,rfl,λe c=>?_,?_,?_⟩
 .obtain⟨p,d,rfl⟩:=List.mem_map.mp (List.mem_toArray.mp c);exact⟨.inr p.1,Sw p.1 p.2.1,rfl⟩
 .show Pairs (KL P w) (l.map _) _;clear y nd;rw[CL]
  induction l with
  |nil=>exact .nil
  |cons p l b=>exact .cons (Sw p.1 p.2.1) rfl b
 .rw[CL,CL];have:=ig nd;rw[CL]at this;exact this
theorem bE(x:Str):∀AA:List (Str×Addr),valueAt (K:=Key) (AA.map λp=>(.inr p.1,.ref p.2)) (.inr x)=(FG AA x).map .ref:=λAA=>by
 induction AA with
 |nil=>rfl
 |cons p r a=>
  by_cases e:p.1=x
  .subst e;unfold valueAt FG;rw[Cn,GP,GP];simp
  .have b:¬ ((Sum.inr p.1:Key)=.inr x):=λq=>e (fZ q);have i:=a;unfold valueAt FG at i ⊢;rw[Cn,GP,GP];rw[show(decide ((Sum.inr p.1:Key)=.inr x))=false from j5 b,show decide (p.1=x)=false from j5 e];exact i
section
variable{i:Expr}{pos:Pos}
def UD(P:Program)(w:World)(K:ZAe)(td ty:TE):TE:=λZ H Q=>td Z H λx H1=>ty Z H1 λy H2=>∃a AA z v,x=.ref a/\Hj P w K a AA/\y=.str z/\FG AA z=some v/\Q (.ref v) H2
def Qv(P:Program)(w:World)(K:ZAe)(ty td:TE):TE:=λZ H Q=>ty Z H λy H1=>td Z H1 λx H2=>∃a AA z,x=.ref a/\Hj P w K a AA/\y=.str z/\Q (.bl (!(FG AA z).isSome)) H2
theorem tj(hi:PE X i ty)(ho:PE X o td):PC X .NotIn i o (Qv X.prog X.w X.K ty td):=by
 intro Zd s Z H Q I h;refine AG (hi Zd s Z H _ I h) λl b⟨y,H1,I1,d,g⟩=>AG (ho Zd b Z H1 _ I1 g) λu s2⟨x,H2,I2,e,a,AA,z,ex,c,j,f⟩=>?_;subst ex;subst j;obtain rfl:u=Value.ref a:=e;have dd:=c.at_ _ I2.Ay;refine wpAny_notIn_of (XS (k:=.inr z) d) c.ne dd.mapOf ?_;rw[bE,zi];exact⟨.bl (!(FG AA z).isSome),H2,I2.tok _,rfl,f⟩
theorem YH(ho:QE X o td)(hi:QE X i ty)(j:RE i):QE X (.Subscript o i pos) (UD X.prog X.w X.K td ty):=⟨by
 have ho:=ho.h;have hi:=hi.h;intro Zd s Z H Q I h;refine xY PySem.F.slot_dict_getitem.lookup j (AG (ho Zd s Z H _ I h) λu b⟨x,H1,I1,e,g⟩=>AG (hi Zd b Z H1 _ I1 g) λn s2⟨y,H2,I2,d,a,AA,z,v,ex,c,m,l,f⟩=>?_);subst ex;subst m;obtain rfl:u=Value.ref a:=e;have dd:=c.at_ _ I2.Ay;refine⟨dd.typeIs,wpAny_getItem_of (XS (k:=.inr z) d) dd.mapOf (v:=.ref v) (by rw[bE,l];rfl) ⟨.ref v,H2,I2.tok _,rfl,f⟩⟩⟩
theorem yF(hi:QE X i ty)(ho:QE X o td)(a:behindInMarks .NotIn o=false:=by with_unfolding_all rfl):QT X (.Compare i [.NotIn] [o] pos) (tB (Qv X.prog X.w X.K ty td)):=⟨qP (tj hi.h ho.h) a⟩
end
def Cj(tp:Bool)(h:Heap)(i l:Addr)(k:Nat):Prop:=match tp with
 |true=>h.IsTupleIter i l k
 |false=>h.IsListIter i l k
def DM(tp:Bool)(h:Heap)(l:Addr)(xs:Array Value):Prop:=match tp with
 |true=>h.IsTuple l xs
 |false=>h.IsList l xs
def MM(tp:Bool):String:=match tp with
 |true => "tuple_iterator"
 |false => "list_iterator"
theorem Cj.at{h:Heap}{t:Addr}(x:Cj tp h a t i)(e:∀o,h.get? a=some o->h'.get? a=some o):Cj tp h' a t i:=by
 cases tp
 .exact Heap.IsListIter.at x e
 .exact Heap.IsTupleIter.at x e
theorem Cj.has{h:Heap}{t:Addr}(x:Cj tp h a t i):∃o fs,h.get? a=some o/\o.data=.fields fs:=by
 cases tp
 .obtain⟨o,e,_,d⟩:=x;exact⟨o,_,e,d⟩
 .obtain⟨o,e,_,d⟩:=x;exact⟨o,_,e,d⟩
theorem DM.at{h:Heap}(x:DM tp h a xs)(e:∀o,h.get? a=some o->h'.get? a=some o):DM tp h' a xs:=by
 cases tp
 .obtain⟨o,q,r⟩:=x;exact⟨o,e o q,r⟩
 .obtain⟨o,q,r⟩:=x;exact⟨o,e o q,r⟩
section
theorem SQ{x:Value}(hi:Cj tp s.heap it l i)(hl:DM tp s.heap l xs)(hx:xs[i]?=some x)
  (q:∀h',Cj tp h' it l (i+1)->Heap.SameBut it s.heap h'->Q x { s with heap:=h' }):wpAny (model prog w) A (Builtin.SmallTypes.nextOf (.ref it)) Q E s:=by
 cases tp
 .exact wpAny_nextOf_list_item hi hl hx q
 .exact HT.jd hi hl hx q
theorem dZ(hh:A.handled=none)(hi:Cj tp s.heap it l i)(hl:DM tp s.heap l xs)(hx:xs[i]?=none)
  (q:∀h' e,Heap.ExtBut it s.heap h'->(∃o,h'.get? e=some o/\o.cls=.type "StopIteration")->E (.ref e) { s with heap:=h' }):wpAny (model prog w) A (Builtin.SmallTypes.nextOf (.ref it)) Q E s:=by
 cases tp
 .exact vK hh hi hl hx q
 .exact HT.oY hh hi hl hx q
theorem aE(hl:DM tp s.heap l xs)(q:Q (.ref s.heap.objs.size) { s with heap:=s.heap.push { cls:=.type (MM tp),data:=.fields #[.ref l,.int 0 0] } }):wpAny (model prog w) A (pyIter (.ref l)) Q E s:=by
 cases tp
 .exact jU hl q
 .exact xv hl q
variable{z TI TO:Addr}{x a b:Value}
theorem j6{Q:Option Value->Shared->Prop}(D:ZipApart z TI TO i1 i2 l1 l2)(f:IsZip s.heap z TI TO .none)(DI:IsPair s.heap TI (.ref i1) (.ref i2))(Dc:IsPair s.heap TO a b)
  (h1:Cj t1 s.heap i1 l1 k) (h2:Cj t2 s.heap i2 l2 k) (g1:DM t1 s.heap l1 xs) (g2:DM t2 s.heap l2 ys) (hx:xs[k]?=some x) (hy:ys[k]?=some y)
  (q:∀h',IsZip h' z TI TO (rawInt s.heap.objs.size)->IsPair h' TO x y->Cj t1 h' i1 l1 (k+1)->Cj t2 h' i2 l2 (k+1)->IsPair h' s.heap.objs.size x y->
   (∀c o,c≠z->c≠TO->c≠i1->c≠i2->s.heap.get? c=some o->h'.get? c=some o)->Q (some (.ref s.heap.objs.size)) { s with heap:=h' }):wpAny (model prog w) A (pyNext (.ref z)) Q E s:=by
 have R:s.TypeIs (.ref z) "zip" := ⟨_,f,rfl⟩;unfold pyNext;refine fq (o9 (jF (name:=Str.ofString "__next__") R KZ (ja KZ R Wd ?_ (Wc _))));show wpAny _ _ (field (.ref z) 2 >>= _) _ _ _;refine fq (iM f rfl (x:=.bool false) rfl ?_);show wpAny _ _ (field (.ref z) 3 >>= _) _ _ _;refine fq (iM f rfl (x:=.ref TI) rfl (fq (ia DI rfl ?_)));show wpAny _ _ (Builtin.SmallTypes.ownedTupleIsFree (.ref z) >>= _) _ _ _;refine fq ?_;unfold Builtin.SmallTypes.ownedTupleIsFree;refine fq (iM f rfl (x:=.none) rfl (fv ?_));simp only[vh];refine fq (nk (fq (iM f rfl (x:=.ref TO) rfl (fq (iz f (by simp) λU t K=>?_)))));have t:IsZip U z TI TO .ellipsis:=t;have B:∀c o,c≠z->s.heap.get? c=some o->U.get? c=some o:=λc o g e=>K.extBut c o g e;refine fq ?_;simp only[Wm,Wr,QM,NX];refine fq (fq (m8 ?_));show wpAny _ _ (Builtin.SmallTypes.nextOf (.ref i1) >>= _) _ _ _;refine fq (SQ (h1.at λo e=>B i1 o D.i1z e) (g1.at λo e=>B l1 o D.l1z e) hx λT p1 u=>fv ?_);have L:∀c o,c≠z->c≠i1->s.heap.get? c=some o->T.get? c=some o:=λc o g hd e=>u.extBut c o hd (B c o g e);have N:IsPair T TO a b:=L TO _ D.TOz D.TOi1 Dc;refine fq (ia N rfl (fq (jr N λS C l=>?_)));have C:IsPair S TO x b:=C;have v:∀c o,c≠z->c≠i1->c≠TO->s.heap.get? c=some o->S.get? c=some o:=λc o h1 h2 h3 e=>l.extBut c o h3 (L c o h1 h2 e);refine fq (sh (fv (fq (fq (m8 ?_)))));show wpAny _ _ (Builtin.SmallTypes.nextOf (.ref i2) >>= _) _ _ _;refine fq (SQ (h2.at λo e=>v i2 o D.i2z D.i12.symm D.TOi2.symm e) (g2.at λo e=>v l2 o D.l2z D.l2i1 D.l2TO e) hy λe4 p2 i=>fv ?_);have M:IsPair e4 TO x b:=i.extBut TO _ D.TOi2 C;refine fq (ia M rfl (fq (jr M λd n h=>?_)));have n:IsPair d TO x y:=n;have V:d.objs.size=s.heap.objs.size:=by rw[h.1,i.1,l.1,u.1,K.1]
 have X:∀c o,c≠z->c≠TO->c≠i1->c≠i2->s.heap.get? c=some o->d.get? c=some o:=λc o c1 c2 G F e=>h.extBut c o c2 (i.extBut c o F (v c o c1 G c2 e));have H:IsZip d z TI TO .ellipsis:=h.extBut z _ D.TOz.symm (i.extBut z _ D.i2z.symm (l.extBut z _ D.TOz.symm (u.extBut z _ D.i1z.symm t)));have σ:Cj t1 d i1 l1 (k+1):=p1.at λo e=>h.extBut i1 o D.TOi1.symm (i.extBut i1 o D.i12 (l.extBut i1 o D.TOi1.symm e));have Y:Cj t2 d i2 l2 (k+1):=p2.at λo e=>h.extBut i2 o D.TOi2.symm e;refine fq (sh (fv (fv (fq (ia n rfl (fq (wpAny_newTuple ?_)))))));have P:z<d.objs.size:=AX H;show wpAny _ _ (Builtin.SmallTypes.ownedTupleHandOut (.ref z) (.ref d.objs.size) >>= _) _ _ _;refine fq ?_;unfold Builtin.SmallTypes.ownedTupleHandOut;have W:IsZip (d.push { cls:=.type "tuple", data:=.seq #[x,y] }) z TI TO .ellipsis:=Ao _ H;refine fq (iz W (by simp) λe7 r J=>?_);have r:IsZip e7 z TI TO (rawInt d.objs.size):=r;refine iz r (by simp) λp j I=>?_;have j:IsZip p z TI TO (rawInt d.objs.size):=j;have m:∀c o,c≠z->d.get? c=some o->p.get? c=some o:=λc o g e=>I.extBut c o g (J.extBut c o g (Ao _ e));have O:IsPair p d.objs.size x y:=I.extBut _ _ (Fo P) (J.extBut _ _ (Fo P) (BE _ rfl));rw[V]at j O;refine fv ⟨_,rfl,fv ?_⟩;show Q (some (.ref d.objs.size)) _;rw[V];exact q p j (m TO _ D.TOz n) (σ.at λo e=>m i1 o D.i1z e) (Y.at λo e=>m i2 o D.i2z e) O λc o c1 c2 G F e=>m c o c1 (X c o c1 c2 G F e)
theorem qK{Q:Option Value->Shared->Prop}(hh:A.handled=none)(D:ZipApart z TI TO i1 i2 l1 l2)(f:IsZip s.heap z TI TO .none)(DI:IsPair s.heap TI (.ref i1) (.ref i2))(Dc:IsPair s.heap TO a b)
  (h1:Cj t1 s.heap i1 l1 k) (h2:Cj t2 s.heap i2 l2 k) (g1:DM t1 s.heap l1 xs) (O:DM t2 s.heap l2 ys) (UB:xs[k]?=none∨ys[k]?=none)
  (q:∀h',(∀c o,c≠z->c≠TO->c≠i1->c≠i2->s.heap.get? c=some o->h'.get? c=some o)->Q none { s with heap:=h' }):wpAny (model prog w) A (pyNext (.ref z)) Q E s:=by
 have I:s.TypeIs (.ref z) "zip" := ⟨_,f,rfl⟩;unfold pyNext;have j:∀(h':Heap)(e:Addr),(∀c o,c≠z->c≠TO->c≠i1->c≠i2->s.heap.get? c=some o->h'.get? c=some o)->(∃o,h'.get? e=some o/\o.cls=.type "StopIteration")->wpAny (model prog w) A (do if <- isInstance (.ref e) (.type "StopIteration")then pure none else throw (.ref e)) Q E { s with heap:=h' }:=λh' e M⟨o,ho,i⟩=>
  fq (ZA5 (T:="StopIteration") (b:=true) ⟨o,ho,i⟩ ZAE (fv (q h' M)))
 refine fq (o9 (jF (name:=Str.ofString "__next__") I KZ (ja KZ I Wd ?_ (Wc _))));show wpAny _ _ (field (.ref z) 2 >>= _) _ _ _;refine fq (iM f rfl (x:=.bool false) rfl ?_);show wpAny _ _ (field (.ref z) 3 >>= _) _ _ _;refine fq (iM f rfl (x:=.ref TI) rfl (fq (ia DI rfl ?_)));show wpAny _ _ (Builtin.SmallTypes.ownedTupleIsFree (.ref z) >>= _) _ _ _;refine fq ?_;unfold Builtin.SmallTypes.ownedTupleIsFree;refine fq (iM f rfl (x:=.none) rfl (fv ?_));simp only[vh];refine fq (nk (fq (iM f rfl (x:=.ref TO) rfl (fq (iz f (by simp) λJ l K=>?_)))));have l:IsZip J z TI TO .ellipsis:=l;have d:∀c o,c≠z->s.heap.get? c=some o->J.get? c=some o:=λc o i e=>K.extBut c o i e;refine fq ?_;simp only[Wm,Wr,QM,NX];refine fq (fq (m8 ?_));show wpAny _ _ (Builtin.SmallTypes.nextOf (.ref i1) >>= _) _ _ _;cases hx:xs[k]? with
 |none=>
  refine fq (dZ hh (h1.at λo e=>d i1 o D.i1z e) (g1.at λo e=>d l1 o D.l1z e) hx λm e h p=>?_);have B:IsZip m z TI TO .ellipsis:=h z _ D.i1z.symm l;obtain⟨oe,E8,GC⟩:=p;have u:e≠z:=λq=>by subst q;rw[B]at E8;cases E8;simp at GC
  exact iz B (by simp) λr _ g=>j r e (λc o c1 _ t _ y=>g.extBut c o c1 (h c o t (d c o c1 y))) ⟨oe,g.extBut _ _ u E8,GC⟩
 |some x=>
  have L:ys[k]?=none:=UB.resolve_left (by rw[hx];simp);refine fq (SQ (h1.at λo e=>d i1 o D.i1z e) (g1.at λo e=>d l1 o D.l1z e) hx λm p1 h=>fv ?_);have G:∀c o,c≠z->c≠i1->s.heap.get? c=some o->m.get? c=some o:=λc o i hd e=>h.extBut c o hd (d c o i e);have H:IsPair m TO a b:=G TO _ D.TOz D.TOi1 Dc;refine fq (ia H rfl (fq (jr H λr U g=>?_)));have n:∀c o,c≠z->c≠i1->c≠TO->s.heap.get? c=some o->r.get? c=some o:=λc o h1 h2 N e=>g.extBut c o N (G c o h1 h2 e);refine fq (sh (fv (fq (fq (m8 ?_)))));show wpAny _ _ (Builtin.SmallTypes.nextOf (.ref i2) >>= _) _ _ _;refine fq (dZ hh (h2.at λo e=>n i2 o D.i2z D.i12.symm D.TOi2.symm e) (O.at λo e=>n l2 o D.l2z D.l2i1 D.l2TO e) L λR e F p=>?_);have v:IsZip R z TI TO .ellipsis:=F z _ D.i2z.symm (g.extBut z _ D.TOz.symm (h.extBut z _ D.i1z.symm l));obtain⟨oe,E8,GC⟩:=p;have u:e≠z:=λq=>by subst q;rw[v]at E8;cases E8;simp at GC
  exact iz v (by simp) λP _ C=>j P e (λc o c1 c2 t S y=>C.extBut c o c1 (F c o S (n c o c1 t c2 y))) ⟨oe,C.extBut _ _ u E8,GC⟩
end
abbrev OL(h:Heap)(t1:Bool)(l1:Addr):Heap:=h.push { cls:=.type (MM t1),data:=.fields #[.ref l1,.int 0 0] }
abbrev PD(h:Heap)(t1 t2:Bool)(l1 l2:Addr):Heap:=(OL h t1 l1).push { cls:=.type (MM t2),data:=.fields #[.ref l2,.int 0 0] }
abbrev Nu(h:Heap)(t1 t2:Bool)(l1 l2:Addr):Heap:=(PD h t1 t2 l1 l2).push { cls:=.type "tuple", data:=.seq #[.ref h.objs.size,.ref (OL h t1 l1).objs.size] }
abbrev PR(h:Heap)(t1 t2:Bool)(l1 l2:Addr):Heap:=(Nu h t1 t2 l1 l2).push { cls:=.type "tuple", data:=.seq #[.none,.none] }
abbrev Lg(h:Heap)(t1 t2:Bool)(l1 l2:Addr):Heap:=(PR h t1 t2 l1 l2).push { cls:=.type "zip", data:=.fields #[.none,.bool false,.bool false,.ref (PD h t1 t2 l1 l2).objs.size,.ref (Nu h t1 t2 l1 l2).objs.size] }
theorem lP(t1 t2 : Bool)(l1 l2 : Addr)(xs ys : Array Value): Meets (Builtin.«zip.__new__» ⟨[.type "zip", .ref l1, .ref l2], []⟩) (λ_ R s => DM t1 s.heap l1 xs /\ DM t2 s.heap l2 ys /\
   R (.ok (.ret (.ref (PR s.heap t1 t2 l1 l2).objs.size))) { s with heap:=Lg s.heap t1 t2 l1 l2 }):=
 .of_wp λprog w A R s h=>by
  obtain⟨a,g,d,tk,os⟩:=s;obtain⟨c,b,h⟩:=h;have f:=sub_zip;have c1:DM t1 (Shared.heap ⟨a,g,d,tk,os⟩) l1 xs:=c;have c2:DM t2 (Shared.heap ⟨a.push { cls:=.type (MM t1),data:=.fields #[.ref l1,.int 0 0] },g,d,tk,os⟩) l2 ys:=DM.at b λo e=>Ao _ e
  wp_walk using aE c1,aE c2
  exact⟨_,rfl,h⟩
theorem Cj.new{h:Heap}{i:Addr}(e:h.get? i=some { cls:=.type (MM tp),data:=.fields #[.ref l,.int 0 0] }):Cj tp h i l 0:=by
 cases tp
 .exact⟨_,e,rfl,rfl⟩
 .exact⟨_,e,rfl,rfl⟩
theorem il(n:DM t1 s.heap l1 xs)(m:DM t2 s.heap l2 ys)
  (h:∀h',IsZip h' (s.heap.objs.size+4) (s.heap.objs.size+2) (s.heap.objs.size+3) .none->IsPair h' (s.heap.objs.size+2) (.ref s.heap.objs.size) (.ref (s.heap.objs.size+1))->
   IsPair h' (s.heap.objs.size+3) .none .none->Cj t1 h' s.heap.objs.size l1 0->Cj t2 h' (s.heap.objs.size+1) l2 0->
   (∀c o,s.heap.get? c=some o->h'.get? c=some o)->Q (.ref (s.heap.objs.size+4)) { s with heap:=h' }):wpAny (model prog w) A (call (.type "zip") [.ref l1,.ref l2]) Q E s:=by
 refine callType_new F.called_zip (by decide) (F.typeCall_zip_2 _ _) (F.newCall_zip_2 _ _) (λobj=>F.args_object_init_3 obj _ _) F.entry_zip_new (lP t1 t2 l1 l2 xs ys) ⟨n,m,?_⟩;have d:(OL s.heap t1 l1).objs.size=s.heap.objs.size+1:=Dm ..;have b:(PD s.heap t1 t2 l1 l2).objs.size=s.heap.objs.size+2:=by rw[Dm,d]
 have a:(Nu s.heap t1 t2 l1 l2).objs.size=s.heap.objs.size+3:=by rw[Dm,b]
 have g:(PR s.heap t1 t2 l1 l2).objs.size=s.heap.objs.size+4:=by rw[Dm,a]
 have p:∀{l:Heap}{c o ob},l.get? c=some o->(l.push ob).get? c=some o:=λe=>Ao _ e;have f:(Lg s.heap t1 t2 l1 l2).get? (PR s.heap t1 t2 l1 l2).objs.size=some _:=BE _ rfl;have i:(Lg s.heap t1 t2 l1 l2).get? (Nu s.heap t1 t2 l1 l2).objs.size=some _:=p (BE _ rfl);have j:(Lg s.heap t1 t2 l1 l2).get? (PD s.heap t1 t2 l1 l2).objs.size=some _:=p (p (BE _ rfl));have k:(Lg s.heap t1 t2 l1 l2).get? (OL s.heap t1 l1).objs.size=some _:=p (p (p (BE _ rfl)));have q:(Lg s.heap t1 t2 l1 l2).get? s.heap.objs.size=some _:=p (p (p (p (BE _ rfl))));show _/\_;rw[b,a,g]at f;rw[d,b]at j;rw[a]at i;rw[d]at k;rw[g];exact⟨⟨_,f,rfl⟩,h _ f j i (.new q) (.new k) λc o e=>p (p (p (p (p e))))⟩
theorem LZ{xs:List V}(I:Inv X Zd Z H s)(h:D7 X.K tp H a xs):∃A2:List Value,Vals xs A2/\DM tp s.heap a A2.toArray:=by
 cases tp
 .obtain⟨A2,b,pl,_⟩:=I.list h;exact⟨A2,b,pl.isList⟩
 .obtain⟨A2,b,pl,_⟩:=I.tuple h;exact⟨A2,b,pl⟩
def cJ(K:ZAe)(t1 t2:Bool)(a b:Addr)(xs ys:List V):It:=
 ⟨λi H=>D7 K t1 H a xs/\D7 K t2 H b ys/\i<xs.length/\i<ys.length,λi H x H'=>∃p d c,xs[i]?=some d/\ys[i]?=some c/\x=.ref p/\H p=none/\H'=upd H p (.tup [d,c]),λi H=>D7 K t1 H a xs/\D7 K t2 H b ys/\(xs.length<=i∨ys.length<=i)⟩
theorem jD{K:ZAe}(t1 t2:Bool)(a b z TI TO i1 i2:Addr)(xs ys:List V)(D:ZipApart z TI TO i1 i2 a b):
  Turn P w K (.Tuple es k1 p1) (cJ K t1 t2 a b xs ys) [z,TI,TO,i1,i2] z (λi h=>(IsZip h z TI TO .none/\IsPair h TI (.ref i1) (.ref i2))/\(∃c d,IsPair h TO c d)/\Cj t1 h i1 a i/\Cj t2 h i2 b i) where
 mem:=by simp
 obj:=λi h st c g=>by
  obtain⟨⟨F,s2⟩,⟨d,e,p⟩,g1,Q⟩:=st;obtain⟨N,_,L,U⟩:=g1.has;obtain⟨M,_,J,T⟩:=Q.has;simp only[Dn,Bg,m9]at g;rcases g with rfl|rfl|rfl|rfl|rfl
  .exact⟨_,F,λv y=>by cases y⟩
  .exact⟨_,s2,λv y=>by cases y⟩
  .exact⟨_,p,λv y=>by cases y⟩
  .exact⟨N,L,λv y=>by rw[U]at y;cases y⟩
  .exact⟨M,J,λv y=>by rw[T]at y;cases y⟩
 keep:=λi h h' st k=>⟨⟨k z (by simp) _ st.1.1,k TI (by simp) _ st.1.2⟩,let ⟨c,d,p⟩:=st.2.1;⟨c,d,k TO (by simp) _ p⟩,st.2.2.1.at λo q=>k i1 (by simp) o q,st.2.2.2.at λo q=>k i2 (by simp) o q⟩
 item:=by
  intro X t hw u g i Zd s Z H E I l st r;subst t hw u;obtain⟨KJ,Ft,NF,MD⟩:=r;obtain⟨⟨j,DI⟩,⟨c,d,Dc⟩,GL,Hc⟩:=st;obtain⟨S,Km,Kq⟩:=LZ I KJ;obtain⟨B5,G9,DQ⟩:=LZ I Ft;obtain⟨n,G,O⟩:=Km.get (Aw NF);obtain⟨m,VC,Ot⟩:=G9.get (Aw MD);refine j6 D j DI Dc GL Hc Kq DQ (x:=n) (y:=m) (by simpa using G) (by simpa using VC) λh1 a1 a2 σ Y W B=>⟨_,rfl,?_⟩
  refine y4 a1 λh2 GD DX=>?_;have A:z<s.heap.objs.size:=AX j;have up:∀b o,b≠z->h1.get? b=some o->h2.get? b=some o:=λb o f q=>(DX.2 b f).trans q;have C:IsPair h2 s.heap.objs.size n m:=up _ _ (Fo A) W;have kp:∀b o,b∉[z,TI,TO,i1,i2]->s.heap.get? b=some o->h2.get? b=some o:=λb o f q=>by
   simp only[Dn,Bg,m9,not_or]at f;exact up b o f.1 (B b o f.1 f.2.2.1 f.2.2.2.1 f.2.2.2.2 q)
  refine⟨.ref s.heap.objs.size,_,I.Qt (t':=s.toks) (a:=s.heap.objs.size) (o:=.tup [xs[i],ys[i]]) l kp (AZ _) ?_,rfl,⟨_,_,_,Aw NF,Aw MD,rfl,I.AB.fresh (AZ _),rfl⟩,?_,λb f=>?_⟩
  .exact⟨(by show 2<=sizeLine;decide),[n,m],.cons O (.cons Ot .nil),⟨_,C,rfl,_,rfl⟩,λob q=>by rw[show h2.get? s.heap.objs.size=_ from C]at q;cases q;rfl⟩
  .exact⟨⟨GD,up _ _ D.TIz (B _ _ D.TIz D.TITO D.TIi1 D.TIi2 DI)⟩,⟨_,_,up _ _ D.TOz a2⟩,σ.at λo q=>up _ _ D.i1z q,Y.at λo q=>up _ _ D.i2z q⟩
  .have y:b<s.heap.objs.size:=by
    simp only[Dn,Bg,m9]at f;rcases f with rfl|rfl|rfl|rfl|rfl
    .exact A
    .exact AX DI
    .exact AX Dc
    .obtain⟨o,_,q,_⟩:=GL.has;exact AX q
    .obtain⟨o,_,q,_⟩:=Hc.has;exact AX q
   rw[AJ (BZ y)];exact(l b f).1
 done:=by
  intro X t hw u g i Zd s Z H E I l st r;subst t hw u;obtain⟨KJ,Ft,hx⟩:=r;obtain⟨⟨j,DI⟩,⟨c,d,Dc⟩,GL,Hc⟩:=st;obtain⟨S,Km,Kq⟩:=LZ I KJ;obtain⟨B5,G9,DQ⟩:=LZ I Ft;have l1:=Km.length;have l2:=G9.length;exact qK (I.ok.hd g) D j DI Dc GL Hc Kq DQ (hx.imp (λh=>by simp;omega) (λh=>by simp;omega)) λh' R=>⟨rfl,I.Qp (t':=s.toks) l λb o f q=>by
   simp only[Dn,Bg,m9,not_or]at f;exact R b o f.1 f.2.2.1 f.2.2.2.1 f.2.2.2.2 q⟩
 self:=λ_ _ _ _ _ st h=>vM st.1.1 h
def Uz(K:ZAe)(t:TA):TI:=λZ H R=>t Z H λvs H1=>∃a b t1 t2 xs ys,vs=[.ref a,.ref b]/\D7 K t1 H1 a xs/\D7 K t2 H1 b ys/\R (cJ K t1 t2 a b xs ys) H1
theorem aI{pos:Pos}{l l2:Expr}(n:Gl X "zip")(m:X.mg "zip"=none)(ha:QA X [l,l2] t)(k:starEach [l,l2] X.env=(false,eval l X.env)::starEach [l2] X.env:=by rfl)(hp:(backTo pos (starEach [l2] X.env)).any (·.1)=false:=by rfl):
  QI X (.Tuple es k1 p1) (.Call (.Name "zip" p) [l,l2] [] pos) (Uz X.K t):=⟨by
 have ha:=ha.h;intro Zd s Z H R I h;refine jZ (IH I n m (show bootBuiltins "zip"=some (.type "zip") by decide +kernel) ?_ (by decide) (by decide));refine Qf (AG (ha pos Zd s Z H _ I h) λus c⟨vs,H1,I1,i,j⟩=>?_) k hp;obtain⟨a,b,t1,t2,xs,ys,rfl,KJ,Ft,q⟩:=j;obtain⟨z,x,rfl,g,f⟩:=vals2 i;cases g;cases f;obtain⟨A,Km,Kq⟩:=LZ I1 KJ;obtain⟨B5,G9,DQ⟩:=LZ I1 Ft;have r:a<c.heap.objs.size:=by cases t1 <;> (obtain⟨_,e,_⟩:=Kq;exact AX e)
 have o:b<c.heap.objs.size:=by cases t2 <;> (obtain⟨_,e,_⟩:=DQ;exact AX e)
 refine il Kq DQ λh' c1 c2 w v u kp=>vM c1 ?_;refine⟨_,[c.heap.objs.size+4,c.heap.objs.size+2,c.heap.objs.size+3,c.heap.objs.size,c.heap.objs.size+1],_,_,H1,rfl,I1.kept (t':=c.toks) kp,jD t1 t2 a b _ _ _ _ _ xs ys (zipApart_new r o),⟨⟨c1,c2⟩,⟨_,_,w⟩,v,u⟩,λb d=>?_,q⟩;have y:c.heap.objs.size<=b:=by
  simp only[Dn,Bg,m9]at d;rcases d with rfl|rfl|rfl|rfl|rfl
  .exact Hx _ 4
  .exact Hx _ 2
  .exact Hx _ 3
  .exact AZ _
  .exact Hx _ 1
 exact I1.J1 y (I1.AB.fresh y)⟩
abbrev JC(h:Heap)(i:Addr)(x:Str)(t:Tok)(k:Nat):Prop:=h.IsStrIter i "str_ascii_iterator" x t k
theorem Jd{h:Heap}{t:Tok}(y:JC h a x t i)(e:∀o,h.get? a=some o->h'.get? a=some o):JC h' a x t i:=by
 obtain⟨o,q,r⟩:=y;exact⟨o,e o q,r⟩
section
variable{z TI TO:Addr}{a b:Value}
theorem vU{Q:Option Value->Shared->Prop}(D:ZipApart z TI TO i1 i2 l l)(f:IsZip s.heap z TI TO .none)(DI:IsPair s.heap TI (.ref i1) (.ref i2))(Dc:IsPair s.heap TO a b)
  (h1:JC s.heap i1 x tk k) (h2:s.heap.IsListIter i2 l k) (g2:s.heap.IsList l ys) (hx:x.cps[k]?=some c0) (hy:ys[k]?=some y)
  (q:∀h',IsZip h' z TI TO (rawInt s.heap.objs.size)->IsPair h' TO (.str ⟨#[c0]⟩ s.toks) y->JC h' i1 x tk (k+1)->h'.IsListIter i2 l (k+1)->IsPair h' s.heap.objs.size (.str ⟨#[c0]⟩ s.toks) y->
   (∀c o,c≠z->c≠TO->c≠i1->c≠i2->s.heap.get? c=some o->h'.get? c=some o)->Q (some (.ref s.heap.objs.size)) { s with heap:=h',toks:=s.toks+1 }):wpAny (model prog w) A (pyNext (.ref z)) Q E s:=by
 have S:s.TypeIs (.ref z) "zip" := ⟨_,f,rfl⟩;unfold pyNext;refine fq (o9 (jF (name:=Str.ofString "__next__") S KZ (ja KZ S Wd ?_ (Wc _))));show wpAny _ _ (field (.ref z) 2 >>= _) _ _ _;refine fq (iM f rfl (x:=.bool false) rfl ?_);show wpAny _ _ (field (.ref z) 3 >>= _) _ _ _;refine fq (iM f rfl (x:=.ref TI) rfl (fq (ia DI rfl ?_)));show wpAny _ _ (Builtin.SmallTypes.ownedTupleIsFree (.ref z) >>= _) _ _ _;refine fq ?_;unfold Builtin.SmallTypes.ownedTupleIsFree;refine fq (iM f rfl (x:=.none) rfl (fv ?_));simp only[vh];refine fq (nk (fq (iM f rfl (x:=.ref TO) rfl (fq (iz f (by simp) λV u K=>?_)))));have u:IsZip V z TI TO .ellipsis:=u;have M:∀c o,c≠z->s.heap.get? c=some o->V.get? c=some o:=λc o g e=>K.extBut c o g e;refine fq ?_;simp only[Wm,Wr,QM,NX];refine fq (fq (m8 ?_));show wpAny _ _ (Builtin.SmallTypes.nextOf (.ref i1) >>= _) _ _ _;refine fq (wpAny_nextOf_ascii_item (Jd h1 λo e=>M i1 o D.i1z e) hx λU p1 v=>fv ?_);have L:∀c o,c≠z->c≠i1->s.heap.get? c=some o->U.get? c=some o:=λc o g hd e=>v.extBut c o hd (M c o g e);have O:IsPair U TO a b:=L TO _ D.TOz D.TOi1 Dc;refine fq (ia O rfl (fq (jr O λT C m=>?_)));have C:IsPair T TO (.str ⟨#[c0]⟩ s.toks) b:=C;have B:∀c o,c≠z->c≠i1->c≠TO->s.heap.get? c=some o->T.get? c=some o:=λc o h1 h2 h3 e=>m.extBut c o h3 (L c o h1 h2 e);refine fq (sh (fv (fq (fq (m8 ?_)))));show wpAny _ _ (Builtin.SmallTypes.nextOf (.ref i2) >>= _) _ _ _;refine fq (wpAny_nextOf_list_item (h2.at λo e=>B i2 o D.i2z D.i12.symm D.TOi2.symm e) (g2.at λo e=>B l o D.l2z D.l2i1 D.l2TO e) hy λe4 p2 i=>fv ?_);have N:IsPair e4 TO (.str ⟨#[c0]⟩ s.toks) b:=i.extBut TO _ D.TOi2 C;refine fq (ia N rfl (fq (jr N λd p h=>?_)));have p:IsPair d TO (.str ⟨#[c0]⟩ s.toks) y:=p;have W:d.objs.size=s.heap.objs.size:=by rw[h.1,i.1,m.1,v.1,K.1]
 have Y:∀c o,c≠z->c≠TO->c≠i1->c≠i2->s.heap.get? c=some o->d.get? c=some o:=λc o c1 c2 G F e=>h.extBut c o c2 (i.extBut c o F (B c o c1 G c2 e));have H:IsZip d z TI TO .ellipsis:=h.extBut z _ D.TOz.symm (i.extBut z _ D.i2z.symm (m.extBut z _ D.TOz.symm (v.extBut z _ D.i1z.symm u)));have r1:JC d i1 x tk (k+1):=Jd p1 λo e=>h.extBut i1 o D.TOi1.symm (i.extBut i1 o D.i12 (m.extBut i1 o D.TOi1.symm e));have σ:d.IsListIter i2 l (k+1):=p2.at λo e=>h.extBut i2 o D.TOi2.symm e;refine fq (sh (fv (fv (fq (ia p rfl (fq (wpAny_newTuple ?_)))))));have R:z<d.objs.size:=AX H;show wpAny _ _ (Builtin.SmallTypes.ownedTupleHandOut (.ref z) (.ref d.objs.size) >>= _) _ _ _;refine fq ?_;unfold Builtin.SmallTypes.ownedTupleHandOut;have X:IsZip (d.push { cls:=.type "tuple", data:=.seq #[.str ⟨#[c0]⟩ s.toks,y] }) z TI TO .ellipsis:=Ao _ H;refine fq (iz X (by simp) λe7 t J=>?_);have t:IsZip e7 z TI TO (rawInt d.objs.size):=t;refine iz t (by simp) λr j I=>?_;have j:IsZip r z TI TO (rawInt d.objs.size):=j;have n:∀c o,c≠z->d.get? c=some o->r.get? c=some o:=λc o g e=>I.extBut c o g (J.extBut c o g (Ao _ e));have P:IsPair r d.objs.size (.str ⟨#[c0]⟩ s.toks) y:=I.extBut _ _ (Fo R) (J.extBut _ _ (Fo R) (BE _ rfl));rw[W]at j P;refine fv ⟨_,rfl,fv ?_⟩;show Q (some (.ref d.objs.size)) _;rw[W];exact q r j (n TO _ D.TOz p) (Jd r1 λo e=>n i1 o D.i1z e) (σ.at λo e=>n i2 o D.i2z e) P λc o c1 c2 G F e=>n c o c1 (Y c o c1 c2 G F e)
theorem o8{Q:Option Value->Shared->Prop}(hh:A.handled=none)(D:ZipApart z TI TO i1 i2 l l)(d:IsZip s.heap z TI TO .none)(DI:IsPair s.heap TI (.ref i1) (.ref i2))(Dc:IsPair s.heap TO a b)
  (h1:JC s.heap i1 x tk k) (h2:s.heap.IsListIter i2 l k) (R:s.heap.IsList l ys) (UB:x.cps[k]?=none∨ys[k]?=none)
  (q:∀h',(∀c o,c≠z->c≠TO->c≠i1->c≠i2->s.heap.get? c=some o->h'.get? c=some o)->∀u,Q none { s with heap:=h',toks:=u }):wpAny (model prog w) A (pyNext (.ref z)) Q E s:=by
 have K:s.TypeIs (.ref z) "zip" := ⟨_,d,rfl⟩;unfold pyNext;have i:∀(h':Heap)(e:Addr)(u:Nat),(∀c o,c≠z->c≠TO->c≠i1->c≠i2->s.heap.get? c=some o->h'.get? c=some o)->(∃o,h'.get? e=some o/\o.cls=.type "StopIteration")->wpAny (model prog w) A (do if <- isInstance (.ref e) (.type "StopIteration")then pure none else throw (.ref e)) Q E { s with heap:=h',toks:=u }:=λh' e u O⟨o,ho,h⟩=>
  fq (ZA5 (T:="StopIteration") (b:=true) ⟨o,ho,h⟩ ZAE (fv (q h' O u)))
 refine fq (o9 (jF (name:=Str.ofString "__next__") K KZ (ja KZ K Wd ?_ (Wc _))));show wpAny _ _ (field (.ref z) 2 >>= _) _ _ _;refine fq (iM d rfl (x:=.bool false) rfl ?_);show wpAny _ _ (field (.ref z) 3 >>= _) _ _ _;refine fq (iM d rfl (x:=.ref TI) rfl (fq (ia DI rfl ?_)));show wpAny _ _ (Builtin.SmallTypes.ownedTupleIsFree (.ref z) >>= _) _ _ _;refine fq ?_;unfold Builtin.SmallTypes.ownedTupleIsFree;refine fq (iM d rfl (x:=.none) rfl (fv ?_));simp only[vh];refine fq (nk (fq (iM d rfl (x:=.ref TO) rfl (fq (iz d (by simp) λL j M=>?_)))));have j:IsZip L z TI TO .ellipsis:=j;have m:∀c o,c≠z->s.heap.get? c=some o->L.get? c=some o:=λc o h e=>M.extBut c o h e;refine fq ?_;simp only[Wm,Wr,QM,NX];refine fq (fq (m8 ?_));show wpAny _ _ (Builtin.SmallTypes.nextOf (.ref i1) >>= _) _ _ _;cases hx:x.cps[k]? with
 |none=>
  refine fq (wpAny_nextOf_ascii_end hh (Jd h1 λo e=>m i1 o D.i1z e) hx λn e g r=>?_);have F:IsZip n z TI TO .ellipsis:=g z _ D.i1z.symm j;obtain⟨oe,E8,GC⟩:=r;have B:e≠z:=λq=>by subst q;rw[F]at E8;cases E8;simp at GC
  exact iz F (by simp) λt _ f=>i t e _ (λc o c1 _ v _ y=>f.extBut c o c1 (g c o v (m c o c1 y))) ⟨oe,f.extBut _ _ B E8,GC⟩
 |some c0=>
  have N:ys[k]?=none:=UB.resolve_left (by rw[hx];simp);refine fq (wpAny_nextOf_ascii_item (Jd h1 λo e=>m i1 o D.i1z e) hx λn p1 g=>fv ?_);have I:∀c o,c≠z->c≠i1->s.heap.get? c=some o->n.get? c=some o:=λc o h hd e=>g.extBut c o hd (m c o h e);have J:IsPair n TO a b:=I TO _ D.TOz D.TOi1 Dc;refine fq (ia J rfl (fq (jr J λt W f=>?_)));have p:∀c o,c≠z->c≠i1->c≠TO->s.heap.get? c=some o->t.get? c=some o:=λc o h1 h2 P e=>f.extBut c o P (I c o h1 h2 e);refine fq (sh (fv (fq (fq (m8 ?_)))));show wpAny _ _ (Builtin.SmallTypes.nextOf (.ref i2) >>= _) _ _ _;refine fq (vK hh (h2.at λo e=>p i2 o D.i2z D.i12.symm D.TOi2.symm e) (R.at λo e=>p l o D.l2z D.l2i1 D.l2TO e) N λU e H r=>?_);have C:IsZip U z TI TO .ellipsis:=H z _ D.i2z.symm (f.extBut z _ D.TOz.symm (g.extBut z _ D.i1z.symm j));obtain⟨oe,E8,GC⟩:=r;have B:e≠z:=λq=>by subst q;rw[C]at E8;cases E8;simp at GC
  exact iz C (by simp) λS _ G=>i S e _ (λc o c1 c2 v V y=>G.extBut c o c1 (H c o V (p c o c1 v c2 y))) ⟨oe,G.extBut _ _ B E8,GC⟩
end
abbrev Oc(h:Heap)(x:Str)(t:Tok):Heap:=h.push { cls:=.type "str_ascii_iterator", data:=.fields #[.str x t,.int 0 0] }
abbrev Ov(h:Heap)(x:Str)(t:Tok)(l:Addr):Heap:=(Oc h x t).push { cls:=.type "list_iterator", data:=.fields #[.ref l,.int 0 0] }
abbrev QF(h:Heap)(x:Str)(t:Tok)(l:Addr):Heap:=(Ov h x t l).push { cls:=.type "tuple", data:=.seq #[.ref h.objs.size,.ref (Oc h x t).objs.size] }
abbrev OE(h:Heap)(x:Str)(t:Tok)(l:Addr):Heap:=(QF h x t l).push { cls:=.type "tuple", data:=.seq #[.none,.none] }
abbrev LL(h:Heap)(x:Str)(t:Tok)(l:Addr):Heap:=(OE h x t l).push { cls:=.type "zip", data:=.fields #[.none,.bool false,.bool false,.ref (Ov h x t l).objs.size,.ref (QF h x t l).objs.size] }
theorem lJ(x : Str)(t : Tok)(l : Addr)(ys : Array Value)(ha : x.cps.all (· < 128) = true): Meets (Builtin.«zip.__new__» ⟨[.type "zip", .str x t, .ref l], []⟩) (λ_ R s => s.heap.IsList l ys /\
   R (.ok (.ret (.ref (OE s.heap x t l).objs.size))) { s with heap:=LL s.heap x t l }):=
 .of_wp λprog w A R s h=>by
  obtain⟨b,g,d,tk,os⟩:=s;obtain⟨a,h⟩:=h;have c:=sub_zip;have c2:Heap.IsList (Shared.heap ⟨b.push { cls:=.type "str_ascii_iterator", data:=.fields #[.str x t,.int 0 0] },g,d,tk,os⟩) l ys:=a.at λo e=>Ao _ e
  wp_walk using wpAny_pyIter_ascii ha,jU c2
  exact⟨_,rfl,h⟩
theorem iU{t:Tok}(ha:x.cps.all (· < 128)=true)(n:s.heap.IsList l ys)
  (h:∀h',IsZip h' (s.heap.objs.size+4) (s.heap.objs.size+2) (s.heap.objs.size+3) .none->IsPair h' (s.heap.objs.size+2) (.ref s.heap.objs.size) (.ref (s.heap.objs.size+1))->
   IsPair h' (s.heap.objs.size+3) .none .none->JC h' s.heap.objs.size x t 0->h'.IsListIter (s.heap.objs.size+1) l 0->
   (∀c o,s.heap.get? c=some o->h'.get? c=some o)->Q (.ref (s.heap.objs.size+4)) { s with heap:=h' }):wpAny (model prog w) A (call (.type "zip") [.str x t,.ref l]) Q E s:=by
 refine callType_new F.called_zip (by decide) (F.typeCall_zip_2 _ _) (F.newCall_zip_2 _ _) (λobj=>F.args_object_init_3 obj _ _) F.entry_zip_new (lJ x t l ys ha) ⟨n,?_⟩;have d:(Oc s.heap x t).objs.size=s.heap.objs.size+1:=Dm ..;have b:(Ov s.heap x t l).objs.size=s.heap.objs.size+2:=by rw[Dm,d]
 have a:(QF s.heap x t l).objs.size=s.heap.objs.size+3:=by rw[Dm,b]
 have g:(OE s.heap x t l).objs.size=s.heap.objs.size+4:=by rw[Dm,a]
 have p:∀{m:Heap}{c o ob},m.get? c=some o->(m.push ob).get? c=some o:=λe=>Ao _ e;have f:(LL s.heap x t l).get? (OE s.heap x t l).objs.size=some _:=BE _ rfl;have i:(LL s.heap x t l).get? (QF s.heap x t l).objs.size=some _:=p (BE _ rfl);have j:(LL s.heap x t l).get? (Ov s.heap x t l).objs.size=some _:=p (p (BE _ rfl));have k:(LL s.heap x t l).get? (Oc s.heap x t).objs.size=some _:=p (p (p (BE _ rfl)));have q:(LL s.heap x t l).get? s.heap.objs.size=some _:=p (p (p (p (BE _ rfl))));show _/\_;rw[b,a,g]at f;rw[d,b]at j;rw[a]at i;rw[d]at k;rw[g];exact⟨⟨_,f,rfl⟩,h _ f j i ⟨_,q,rfl,rfl⟩ ⟨_,k,rfl,rfl⟩ λc o e=>p (p (p (p (p e))))⟩
def Yy(K:ZAe)(z:Str)(b:Addr)(ys:List V):It:=
 ⟨λi H=>AN K H b ys/\i<z.cps.toList.length/\i<ys.length,λi H x H'=>∃p c a,z.cps.toList[i]?=some c/\ys[i]?=some a/\x=.ref p/\H p=none/\H'=upd H p (.tup [.str ⟨#[c]⟩,a]),λi H=>AN K H b ys/\(z.cps.toList.length<=i∨ys.length<=i)⟩
theorem kA{K:ZAe}(x:Str)(t:Tok)(b z TI TO i1 i2:Addr)(ys:List V)(D:ZipApart z TI TO i1 i2 b b):
  Turn P w K (.Tuple es k1 p1) (Yy K x b ys) [z,TI,TO,i1,i2] z (λi h=>(IsZip h z TI TO .none/\IsPair h TI (.ref i1) (.ref i2))/\(∃c d,IsPair h TO c d)/\JC h i1 x t i/\h.IsListIter i2 b i) where
 mem:=by simp
 obj:=λi h st c g=>by
  obtain⟨⟨G,s2⟩,⟨d,e,n⟩,g1,O⟩:=st;obtain⟨N,L,_,S⟩:=g1;obtain⟨M,J,_,R⟩:=O;simp only[Dn,Bg,m9]at g;rcases g with rfl|rfl|rfl|rfl|rfl
  .exact⟨_,G,λv y=>by cases y⟩
  .exact⟨_,s2,λv y=>by cases y⟩
  .exact⟨_,n,λv y=>by cases y⟩
  .exact⟨N,L,λv y=>by rw[S]at y;cases y⟩
  .exact⟨M,J,λv y=>by rw[R]at y;cases y⟩
 keep:=λi h h' st k=>⟨⟨k z (by simp) _ st.1.1,k TI (by simp) _ st.1.2⟩,let ⟨c,d,n⟩:=st.2.1;⟨c,d,k TO (by simp) _ n⟩,Jd st.2.2.1 λo q=>k i1 (by simp) o q,st.2.2.2.at λo q=>k i2 (by simp) o q⟩
 item:=by
  intro X r hw A g i Zd s Z H E I l st p;subst r hw A;obtain⟨Ft,NF,MD⟩:=p;obtain⟨⟨j,DI⟩,⟨c,d,Dc⟩,GL,Hc⟩:=st;obtain⟨B5,G9,DQ,_⟩:=I.list Ft;obtain⟨m,VC,Ot⟩:=G9.get (Aw MD);refine vU D j DI Dc GL Hc DQ.isList (c0:=x.cps.toList[i]) (y:=m) (by rw[<- QH];exact Aw NF) (by simpa using VC) λh1 σ Y W U T C=>⟨_,rfl,?_⟩
  refine y4 σ λh2 GD DX=>?_;have B:z<s.heap.objs.size:=AX j;have up:∀b o,b≠z->h1.get? b=some o->h2.get? b=some o:=λb o f q=>(DX.2 b f).trans q;have F:IsPair h2 s.heap.objs.size (.str ⟨#[x.cps.toList[i]]⟩ s.toks) m:=up _ _ (Fo B) T;have kp:∀b o,b∉[z,TI,TO,i1,i2]->s.heap.get? b=some o->h2.get? b=some o:=λb o f q=>by
   simp only[Dn,Bg,m9,not_or]at f;exact up b o f.1 (C b o f.1 f.2.2.1 f.2.2.2.1 f.2.2.2.2 q)
  refine⟨.ref s.heap.objs.size,_,I.Qt (t':=s.toks+1) (a:=s.heap.objs.size) (o:=.tup [.str ⟨#[x.cps.toList[i]]⟩,ys[i]]) l kp (AZ _) ?_,rfl,⟨_,_,_,Aw NF,Aw MD,rfl,I.AB.fresh (AZ _),rfl⟩,?_,λb f=>?_⟩
  .exact⟨(by show 2<=sizeLine;decide),[.str ⟨#[x.cps.toList[i]]⟩ s.toks,m],.cons ⟨_,rfl⟩ (.cons Ot .nil),⟨_,F,rfl,_,rfl⟩,λob q=>by rw[show h2.get? s.heap.objs.size=_ from F]at q;cases q;rfl⟩
  .exact⟨⟨GD,up _ _ D.TIz (C _ _ D.TIz D.TITO D.TIi1 D.TIi2 DI)⟩,⟨_,_,up _ _ D.TOz Y⟩,Jd W λo q=>up _ _ D.i1z q,U.at λo q=>up _ _ D.i2z q⟩
  .have y:b<s.heap.objs.size:=by
    simp only[Dn,Bg,m9]at f;rcases f with rfl|rfl|rfl|rfl|rfl
    .exact B
    .exact AX DI
    .exact AX Dc
    .obtain⟨o,q,_⟩:=GL;exact AX q
    .obtain⟨o,q,_⟩:=Hc;exact AX q
   rw[AJ (BZ y)];exact(l b f).1
 done:=by
  intro X r hw A g i Zd s Z H E I l st p;subst r hw A;obtain⟨Ft,hx⟩:=p;obtain⟨⟨j,DI⟩,⟨c,d,Dc⟩,GL,Hc⟩:=st;obtain⟨B5,G9,DQ,_⟩:=I.list Ft;have l2:=G9.length;exact o8 (I.ok.hd g) D j DI Dc GL Hc DQ.isList (hx.imp (λh=>by rw[<- QH];exact fE h) (λh=>by simp;omega)) λh' Q u=>⟨rfl,I.Qp (t':=u) l λb o f q=>by
   simp only[Dn,Bg,m9,not_or]at f;exact Q b o f.1 f.2.2.1 f.2.2.2.1 f.2.2.2.2 q⟩
 self:=λ_ _ _ _ _ st h=>vM st.1.1 h
section
def Sl(K:ZAe)(t:TA):TI:=λZ H R=>t Z H λvs H1=>∃z b ys,vs=[.str z,.ref b]/\z.cps.all (· < 128)=true/\AN K H1 b ys/\R (Yy K z b ys) H1
theorem aY{pos:Pos}{l l2:Expr}(r:Gl X "zip")(o:X.mg "zip"=none)(ha:QA X [l,l2] t)(n:starEach [l,l2] X.env=(false,eval l X.env)::starEach [l2] X.env:=by rfl)(hp:(backTo pos (starEach [l2] X.env)).any (·.1)=false:=by rfl):
  QI X (.Tuple es k1 p1) (.Call (.Name "zip" p) [l,l2] [] pos) (Sl X.K t):=⟨by
 have ha:=ha.h;intro Zd s Z H R I h;refine jZ (IH I r o (show bootBuiltins "zip"=some (.type "zip") by decide +kernel) ?_ (by decide) (by decide));refine Qf (AG (ha pos Zd s Z H _ I h) λus a⟨vs,H1,I1,j,k⟩=>?_) n hp;obtain⟨z,b,ys,rfl,m,Ft,q⟩:=k;obtain⟨A,x,rfl,i,g⟩:=vals2 j;obtain⟨f,rfl⟩:=i;cases g;obtain⟨B5,G9,DQ,_⟩:=I1.list Ft;have d:b<a.heap.objs.size:=by obtain⟨_,e,_⟩:=DQ.isList;exact AX e
 refine iU m DQ.isList λh' c1 c2 w v u kp=>vM c1 ?_;refine⟨_,[a.heap.objs.size+4,a.heap.objs.size+2,a.heap.objs.size+3,a.heap.objs.size,a.heap.objs.size+1],_,_,H1,rfl,I1.kept (t':=a.toks) kp,kA z f b _ _ _ _ _ ys (zipApart_new d d),⟨⟨c1,c2⟩,⟨_,_,w⟩,v,u⟩,λb c=>?_,q⟩;have y:a.heap.objs.size<=b:=by
  simp only[Dn,Bg,m9]at c;rcases c with rfl|rfl|rfl|rfl|rfl
  .exact Hx _ 4
  .exact Hx _ 2
  .exact Hx _ 3
  .exact AZ _
  .exact Hx _ 1
 exact I1.J1 y (I1.AB.fresh y)⟩
variable{iter:Expr}{pos:Pos}{ce:Option Str}{A8:List Str}{g:TG}
theorem ub{R:Result->Shared->Prop}(j:Y.prog=X.prog)(hw:Y.w=X.w)(L:Y.K=X.K)(hA:Y.A=X.A)(Vn:Y.xe=λ_ _=>False)(qa:Y.ex=fp)(I:Y.calm=true)
  (hg:PG Y tg g) (Bo:FL Y ifs tt) (Bl:∀pn xe,(∀b∈Y.ex,∃p∈pn,p.1=b)->Goes (Y.Cp pn xe) (λ_=>EX)->PE (Y.Cp pn xe) elt te)
  (T:Turn X.prog X.w X.K tg J fp it tn) (U6:∀b∈fp,Y.Ok->CG Y [] (λ_=>none) b)
  (W:Nat->Nat->Hp->Prop) (Q:VK)
  (h:∀i m H2,W i m H2->(J.stop i H2/\Q (.ref acc) H2)∨(J.go i H2/\∀x H3,J.Dg i H2 x H3->∀ws,ws.length=n0->g x (Aq js Z++ws) H3 λσ8 H8=>∃us,us.length=n0/\σ8=Aq js Z++us/\O4 tt te acc W i m σ8 H8))
  (I4:Inv Y [] (Aq js Z++ws) H4 s4) (HH:tn 0 s4.heap) (Ua:∀b∈fp,H4 b=none) (H:Nat) (U:W 0 H H4)
  (N0:ws.length=n0) (hR:∀H' s' ws,Inv Y [] (Aq js Z++ws) H' s'->Q (.ref acc) H'->R (.ok .next) s')
  (hE:∀Zd σ' H' s' ea C dx tb,Inv Y Zd σ' H' s'->DW s'.heap ea (.ref C) dx tb->(H' ea=none/\Y.s₀.heap.get? ea=none)->(∀T,tb=some T->H' T=none/\Y.s₀.heap.get? T=none)->EX (.ref C) dx H'->
   notedBy (model Y.prog Y.w) Y.A Y.env (λe s'=>R (.error e) s') (.ref ea) s') :
  codeAny (model X.prog X.w) X.A (.compLoop (.ListComp elt [⟨tg,iter,ifs,0⟩] scope pos) 0 (.ref it) (.ref acc) Y.env) R s4:=by
 have AB:=I4.ok;have E:∀{H':Hp},(∀b∈fp,H' b=none)->∀b∈fp,CG Y [] H' b:=λhn b c=>⟨hn b c,(U6 b c AB).2⟩;rw[<- j,<- hw,<- hA];have t:∀{σ:Value->Shared->Prop}v s,Y.xe v s->σ v s:=λv s z=>by rw[Vn]at z;exact z.elim
 refine Yq (λn s'=>∃i ws H',ws.length=n0/\Inv Y [] (Aq js Z++ws) H' s'/\tn i s'.heap/\(∀b∈fp,H' b=none)/\W i n H') ?_ H ⟨0,ws,H4,N0,I4,HH,Ua,U⟩;rintro n G⟨i,M6,H5,VT,I5,HK,JV,S⟩;rcases h i n H5 S with⟨stop,q⟩|⟨go,step⟩
 .have d:=T.done Y j hw L I i [] G _ H5 (λ_ _=>False) I5 (E JV) HK stop;rw[<- j,<- hw]at d;refine i9 d (λr F⟨B,I6⟩=>?_) λ_ _ z=>z.elim;subst B;exact hR H5 F M6 I6 q
 .have d:=T.item Y j hw L I i [] G _ H5 (λ_ _=>False) I5 (E JV) HK go;rw[<- j,<- hw]at d;refine i9 d (λr F⟨u,B,h6⟩=>?_) λ_ _ z=>z.elim;subst B;refine i9 h6 (λ_ k⟨v,H7,I7,r7,N,J2,R4⟩=>?_) λ_ _ z=>z.elim;have RA:=I7.pinned (E R4) (T.obj _ _ J2);refine i9 (hg _ k _ H7 v u _ RA r7 (step v H7 N M6 VT)) (λ_ s8⟨σ8,H8,I8,us,M7,e8,Vs⟩=>?_) t;subst e8;have a:∀{σa:St}{Ha:Hp}{sa:Shared},Inv Y ([]++K4 fp k.heap) σa Ha sa->tn (i+1) sa.heap/\(∀b∈fp,Ha b=none):=λ{σa Ha sa}Ia=>by
   refine⟨T.keep _ _ _ J2 λb c o e=>(Ia.pin (b,o) (DU _ (DU _ (KP c e)))).1,λb c=>?_⟩;obtain⟨o,e,d⟩:=T.obj _ _ J2 b c;exact(Ia.pin (b,o) (DU _ (DU _ (KP c e)))).2.1
  refine i9 (Bo _ s8 _ H8 _ I8 Vs) (λb s9⟨H9,I9,l⟩=>?_) t;cases b with
  |false=>
   have R3:∃f,f < n/\W (i+1) f H9:=l;obtain⟨f,D,P⟩:=R3;rw[hZ (by decide)];exact⟨f,D,i+1,_,H9,M7,I9.K0,(a I9).1,(a I9).2,P⟩
  |true=>
   rw[i6 rfl];rw[i6 rfl]at l;have pe:=Bl (Y.pn++([]++K4 fp k.heap)) (notedBy (model Y.prog Y.w) Y.A Y.env λe s'=>R (.error e) s') (λb c=>by
     rw[qa]at c;obtain⟨o,e,d⟩:=T.obj _ _ J2 b c;exact⟨(b,o),DU _ (DU _ (KP c e)),rfl⟩)
    λVG σ1 H1 s1 ea C dx tb I1 O u V hp2 he=>hE _ _ _ _ _ _ _ _ I1.HL O u V he
   refine i9 (pe [] s9 _ H9 _ I9.Cp l) (λM VS⟨y,MS,u6,Sa,ys,Am,hz,f,D,Vm⟩=>?_) λ_ _ z=>z;have Vq:=u6.HL;refine i9 (Qo (X:=Y) _ VS _ MS (.ref acc) [y] (.ref acc) [M] (λ_ MY=>MY=upd MS acc (.lst (ys++[y]))) Vq rfl (.cons Sa .nil) ⟨acc,ys,y,rfl,rfl,Am,hz,rfl⟩)
    (λ_ vJ⟨_,MY,Jb,_,Ut⟩=>?_) t
   subst Ut;exact⟨f,D,i+1,_,_,M7,Jb.K0,(a Jb).1,(a Jb).2,Vm⟩
theorem oz{H3:Hp}{i s':Shared}{C ea D:Addr}{dx tb:Option Addr}{m:ZAg}{RX:Shared->Prop}(As:X.stack=X.env::X.outer)(F:X.ex=[])(go:Goes X (λ_=>EX))(I3:Inv X Zd Z H3 i)(IX:Inv X Zd Z H' s')(d:CG X Zd H' C)(B:s'.heap.Ns C m)
  (x:DW s'.heap ea (.ref D) dx tb) (t:H' ea=none) (h:i.heap.get? ea=none) (n:∀T,tb=some T->H' T=none/\i.heap.get? T=none) (hE:EX (.ref D) dx H')
  (hR:∀s4:Shared,(∃m,s4.heap.Ns C m/\∀h',Heap.SameBut C s4.heap h'->∀Fj:Env,Fj.locals=C->wpAny (model X.prog X.w) X.A (PySem.passOn "comprehension.variables-let-go" (.ref ea) Fj:Sem Value) (λ_ _=>False) X.xe { s4 with heap:=h' })->RX s4) :
  wpAny (model X.prog X.w) X.A (noteFrame (.ref ea) X.env) (λ_ s4=>RX s4) E' s':=by
 have E:X.env.frame=some X.env.locals:=by
  rcases IX.ok.GU with e|⟨_,E⟩
  .rw[e]at As;exact absurd (iK List.length As) (by simp)
  .exact E
 have Cy:∀a,i.heap.get? a=none->X.s₀.heap.get? a=none:=λa ha=>by
  cases q:X.s₀.heap.get? a with
  |none=>rfl
  |some o=>
   obtain⟨o1,h1⟩:=I3.base.there a o q (by rw[F];simp);rw[ha]at h1;cases h1
 have N:∀T,tb=some T->H' T=none/\X.s₀.heap.get? T=none:=λT e=>⟨(n T e).1,Cy _ (n T e).2⟩;have f:∀p∈X.pn++Zd,p.1≠ea/\tb≠some p.1:=λp f=>by
  have e:=(I3.pin p f).1;refine⟨λz=>?_,λz=>?_⟩
  .rw[z,h]at e;cases e
  .rw[(n _ z).2]at e;cases e
 refine ZD (outer:=X.outer) (L:=X.env.locals) (by rw[<- As];exact IX.ok.frames) (Zk:=X.base) (by rw[<- As];exact IX.stack) E x λh1 T kp c J=>hR _ ?_;have I1:=IX.PF As x t (Cy _ h) N f kp;obtain⟨o,es,ep,ho,hd,r⟩:=B;obtain⟨oe,vs,k,_,_,Jc,_⟩:=x.obj;have W:C∉Bf (X.env::X.outer):=λz=>by
  rw[<- As]at z;exact(List.mem_cons.mp (IX.LU C z)).elim d.2.1 d.2.2.1
 have g:h1.get? C=some o:=kp.keep C o ho W (by rintro rfl;rw[k]at ho;cases ho;rw[Jc]at hd;cases hd) λz=>by
  obtain⟨_,v,ts,q,j,_⟩:=x.ent C z;rw[q]at ho;cases ho;rw[j]at hd;cases hd
 refine⟨m,⟨o,es,ep,g,hd,r⟩,λh2 u Fj Df=>?_⟩;have R:=I1.turned (h':=h2) (t':=s'.toks) (λb o G e=>(u.2 b G).trans e) d.1 d.2.1 d.2.2.2.1 d.2.2.2.2.1 d.2.2.2.2.2;obtain⟨oe,vs,k,σ,RF,Jc,Y,K⟩:=J.obj;obtain⟨Hq,v,ts,q,j,U⟩:=J.ent T rfl;have O:h2.get? ea=some oe:=(u.2 ea (by rintro rfl;rw[k]at g;cases g;rw[Jc]at hd;cases hd)).trans k;have V:h2.get? T=some v:=(u.2 T (by rintro rfl;rw[q]at g;cases g;rw[j]at hd;cases hd)).trans q;have I:DW h2 ea (.ref D) dx (some T):=⟨⟨oe,vs,O,σ,RF,Jc,Y,K⟩,λT' H=>by cases H;exact⟨Hq,v,ts,V,j,U⟩⟩;have P:∀T',some T=some T'->H' T'=none/\X.s₀.heap.get? T'=none:=λT' H=>by
  cases H;exact c.elim (λc=>⟨IX.AB.fresh c,Lm (Ax IX.sz c)⟩) (N T)
 have Q:∀p∈X.pn++Zd,p.1≠ea/\some T≠some p.1:=λp q=>⟨(f p q).1,λz=>c.elim (λc=>by
  have M:=AX (IX.pin p q).1;rw[<- B4 z]at M;exact absurd M (Nat.not_lt.mpr c)) λy=>(f p q).2 (y.trans z)⟩
 unfold PySem.passOn;refine fq (iM O Jc K ?_);rw[hZ (show ¬ (((some T).elim Value.none Value.ref == Value.none)=true)from by simp)];have fl:∀b∈Bf (X.env::X.outer),∃o,h2.get? b=some o/\∀vs,o.data≠.fields vs:=λb G=>by
  have st:=R.stack;rw[As]at st;obtain⟨_,o,ho,B⟩:=st.mem G;exact⟨o,ho,B⟩
 refine fq (RI (s:={ s' with heap:=h2 }) (l:=X.env::X.outer) I fl λh3 gN S=>wpAny_throw ?_)
 exact go Zd Z H' _ ea D dx (some T) (R.PF As I t (Cy _ h) P Q gN) S ⟨t,Cy _ h⟩ P Q hE
theorem t4{RR:Value->Addr->Result->Shared->Prop}(As:X.stack=X.env::X.outer)(l:X.ex=[])(go:Goes X (λ_=>EX))(O:X.calm=true)(S:Di X.N X.env.scope scope ce zs A8 js)
  (M:∀C s H,PG (CB X (A8++zs) scope ce (Au X.env.cells scope.names) C s H fp) tg g)
  (Bo:∀C s H,FL (CB X (A8++zs) scope ce (Au X.env.cells scope.names) C s H fp) ifs tt)
  (Bl:∀C s H pn xe,(∀b∈fp,∃p∈pn,p.1=b)->Goes ((CB X (A8++zs) scope ce (Au X.env.cells scope.names) C s H fp).Cp pn xe) (λ_=>EX)->PE ((CB X (A8++zs) scope ce (Au X.env.cells scope.names) C s H fp).Cp pn xe) elt te)
  (T:Turn X.prog X.w X.K tg J fp it tn) (I2:Inv X Zd Z H2 s2) (FE:tn 0 s2.heap) (n:∀b∈fp,CG X Zd H2 b) (Q:VK) (P:∀acc,H2 acc=none->Jm g zs.length J js tt te Z H2 acc Q)
  (WD:∀acc C H' s' m,Inv X Zd Z H' s'->CG X Zd H' C->s'.heap.Ns C m->Q (.ref acc) H'->RR (.ref acc) C (.ok .next) s')
  (B:∀acc C ea s4,(∃m,s4.heap.Ns C m/\∀h',Heap.SameBut C s4.heap h'->∀Fj:Env,Fj.locals=C->wpAny (model X.prog X.w) X.A (PySem.passOn "comprehension.variables-let-go" (.ref ea) Fj:Sem Value) (λ_ _=>False) X.xe { s4 with heap:=h' })->RR (.ref acc) C (.error (.ref ea)) s4) :
  wpAny (model X.prog X.w) X.A (newList []) (λacc a=>wpAny (model X.prog X.w) X.A (newFunctionEnv scope X.env.globals (Au X.env.cells scope.names) [] X.env.qual none .none (some X.env)) (λFj s4=>
   codeAny (model X.prog X.w) X.A (.compStart (.ListComp elt [⟨tg,iter,ifs,0⟩] scope pos) 0 (.ref it) acc { Fj with scope:=relabel scope X.env }) (RR acc Fj.locals) s4) E a) E s2:=by
 refine pA (aN S.cf S.pc ?_);have j:Inv X Zd Z (upd H2 s2.heap.objs.size (.lst [])) { s2 with heap:=s2.heap.push { cls:=.type "list", data:=.seq ([]:List Value).toArray } }:=I2.Mt (t':=s2.toks) .nil (DV _)
 have z:∀b∈fp,b<s2.heap.objs.size:=λb c=>by
  obtain⟨o,e,_⟩:=T.obj _ _ FE b c;exact AX e
 have ES:(s2.heap.push { cls:=.type "list", data:=.seq ([]:List Value).toArray }).objs.size=s2.heap.objs.size+1:=Dm ..;have f:∀b∈fp,CG X Zd (upd H2 s2.heap.objs.size (.lst [])) b:=λb c=>⟨by rw[AJ (BZ (z b c))];exact(n b c).1,(n b c).2⟩;generalize V:({ s2 with heap:=s2.heap.push { cls:=.type "list", data:=.seq ([]:List Value).toArray } }:Shared)=a at j ⊢
 have r:a.heap=s2.heap.push { cls:=.type "list", data:=.seq ([]:List Value).toArray }:=by rw[<- V]
 have U:∀b∈fp,b<a.heap.objs.size:=λb c=>by rw[r,ES];exact Nb (z b c)
 generalize v:Mj ce (a.heap.push { cls:=.type "dict", data:=.dict #[] })=h1;have t:∀b o,(a.heap.push { cls:=.type "dict", data:=.dict #[] }).get? b=some o->h1.get? b=some o:=λb o e=>by
  rw[<- v];cases ce with
  |none=>exact e
  |some _=>exact Ao _ e
 have old:∀b o,a.heap.get? b=some o->h1.get? b=some o:=λb o e=>t b o (Ao _ e);have σ:∀b o,s2.heap.get? b=some o->h1.get? b=some o:=λb o e=>old b o (by rw[r];exact Ao _ e);have Iy:h1.Ns a.heap.objs.size (λ_=>none):=(Heap.Ns.new a.heap (.type "dict")).keeps t;have Df:∀x,ce=some x->h1.IsCell (a.heap.objs.size+1) none:=λx hx=>by
  subst hx;rw[<- v];have e:(a.heap.push { cls:=.type "dict", data:=.dict #[] }).objs.size=a.heap.objs.size+1:=Dm ..;exact⟨_,by rw[<- e];exact BE _ rfl,rfl⟩
 have I4:=aG S j f U Iy old Df (t':=a.toks);have y:tn 0 h1:=T.keep _ _ _ FE λb _ o e=>σ b o e;obtain⟨W,⟨I,F⟩,i⟩:=P s2.heap.objs.size (I2.AB.fresh (AZ _));have up:∀{Mf:ZAf}{σ':St}{H':Hp}{s':Shared},Inv (CB X (A8++zs) scope ce (Au X.env.cells scope.names) a.heap.objs.size a (upd H2 s2.heap.objs.size (.lst [])) fp) Mf σ' H' s'->Inv X Zd Z H' s'/\CG X Zd H' a.heap.objs.size:=λI'=>
  ⟨j.dY (ch:=fp) I'.os I'.base I'.AB I'.bare λb c=>⟨(f b c).2.2.2.1,(f b c).2.1,(f b c).2.2.2.2.1,(f b c).2.2.2.2.2⟩,j.J1 (AZ _) I'.free⟩
 have d:codeAny (model X.prog X.w) X.A (.compLoop (.ListComp elt [⟨tg,iter,ifs,0⟩] scope pos) 0 (.ref it) (.ref s2.heap.objs.size) (compEnvC scope (GB ce (a.heap.objs.size+1)++Au X.env.cells scope.names) a.heap.objs.size X.env))
   (RR (.ref s2.heap.objs.size) a.heap.objs.size) { a with heap:=h1 }:=by
  refine ub (X:=X) (EX:=EX) (Y:=CB X (A8++zs) scope ce (Au X.env.cells scope.names) a.heap.objs.size a (upd H2 s2.heap.objs.size (.lst [])) fp) (acc:=s2.heap.objs.size) (Q:=Q) rfl rfl rfl rfl rfl rfl O (M _ _ _) (Bo _ _ _) (Bl _ _ _) T (λb c ok=>⟨rfl,(ok.HP b c).1,ok.HQ b c,.inl c,(ok.HP b c).2,λp L=>by cases L⟩) W i I4 y (λb c=>(f b c).1) I F (QP ..) (λH' s' w I' q=>?_) λMf σ' H' s' ea D dx tb I' x u G R=>?_
  .obtain⟨m,k,_⟩:=I'.loc;exact WD _ _ H' s' m (up I').1 (up I').2 k q
  .obtain⟨m,k,_⟩:=I'.loc;exact oz (X:=X) (C:=a.heap.objs.size) (RX:=λs4=>RR (.ref s2.heap.objs.size) a.heap.objs.size (.error (.ref ea)) s4) As l go j (up I').1 (up I').2 k x u.1 u.2 G R λs4 h=>B _ _ _ _ h
 exact codeAny_compStart_list d (T.self X.A 0 _ _ _ y d)
theorem nc{CW:It->St->Hp->Addr->VK->Prop}(l:∀J Z H1 acc Q,CW J Z H1 acc Q->Jm g zs.length J js tt te Z H1 acc Q)(As:X.stack=X.env::X.outer)(c:X.ex=[])(go:Goes X (λ_=>EX))(j:X.calm=true)(S:Di X.N X.env.scope scope ce zs A8 js)(hi:PI X tg iter wi)
  (i:∀fp C s H,PG (CB X (A8++zs) scope ce (Au X.env.cells scope.names) C s H fp) tg g)
  (Bo:∀fp C s H,FL (CB X (A8++zs) scope ce (Au X.env.cells scope.names) C s H fp) ifs tt)
  (Bl:∀fp C s H pn xe,(∀b∈fp,∃p∈pn,p.1=b)->Goes ((CB X (A8++zs) scope ce (Au X.env.cells scope.names) C s H fp).Cp pn xe) (λ_=>EX)->PE ((CB X (A8++zs) scope ce (Au X.env.cells scope.names) C s H fp).Cp pn xe) elt te)
  (d:∀v,foldedSetIterable iter X.env v=pure v):PE X (.ListComp elt [⟨tg,iter,ifs,0⟩] scope pos) (WI CW wi):=by
 intro Zd s Z H Q I h;rw[eval_ListComp];refine rV (use:=none) rfl d (RN S I) S.kind S.loc (AG (hi Zd s Z H _ I h) λv r h1=>AG h1 λNQ s2 h2=>?_);obtain⟨it,fp,tn,J,H2,e,I2,T,FE,n,hw⟩:=h2;subst e;refine t4 (RR:=λacc C=>compPost (model X.prog X.w) X.A X.xe none (EP X Zd Z Q) acc C) As c go j S (i fp) (Bo fp) (Bl fp) T I2 FE n Q (λacc ha=>l _ _ _ _ _ (hw acc ha)) (λacc C H' s' m I' a f q=>⟨m,f,λh' Gf=>?_⟩) λacc C ea s4 h=>h;exact⟨.ref acc,H',I'.turned (t':=s'.toks) (λb o k e=>(Gf.2 b k).trans e) a.1 a.2.1 a.2.2.2.1 a.2.2.2.2.1 a.2.2.2.2.2,rfl,q⟩
end
def RS(b:Bool)(v:Value):Bool:=match v with
 | .bool c=>c == b
 |_=>false
theorem Jp(h:RS b v=true):v=.bool b:=by
 cases v <;> simp_all [RS]
def bz(b:Bool):Int:=if b then 1 else 0
theorem lG{Q:Int->Shared->Prop}(h:Q (bz b) { s with toks:=s.toks+1 }):
  wpAny (model prog w) A (PySem.pyHash (.bool b)) Q E s:=by
 unfold PySem.pyHash;have a:s.TypeIs (.bool b) "bool" := rfl;have c:[Value.bool b].any Value.onHeap=false:=rfl;refine fq ?_;rw[cRoomFor,hZ (by rw[c];exact Bt)];refine fv ?_;refine fq (sL a F.slot_bool_hash.lookup ?_);show wpAny _ _ (if(some (Value.builtin "int.__hash__") == some Value.none)=true then _ else _) Q E s
 rw[hZ (by rw[beq_builtin_none];exact Bt)];refine fq (sL a F.slot_bool_hash.lookup ?_);show wpAny _ _ (callSpecialIfBoundUnlessNone? (.bool b) "__hash__" _ >>= _) Q E s;refine fq (wpAny_callSpecialIfBoundUnlessNone?_slot a F.slot_bool_hash
  (ja F.slot_bool_hash a entry_int_hash ?_ (args_int_hash _)))
 cases b
 .refine(show wpAny _ _ (do ret (<- mkInt 0)) _ _ s from wpAny_ret_mkInt ?_)
  show wpAny _ _ (if(decide (-(2:Int) ^ 63<=0) && decide ((0:Int)<2 ^ 63))=true then _ else _) Q E _
  rw[i6 (by decide)];exact fv h
 .refine(show wpAny _ _ (do ret (<- mkInt 1)) _ _ s from wpAny_ret_mkInt ?_)
  show wpAny _ _ (if(decide (-(2:Int) ^ 63<=1) && decide ((1:Int)<2 ^ 63))=true then _ else _) Q E _
  rw[i6 (by decide)];exact fv h
def kQ(prog:Program)(w:World):PySem.KeyKind prog w Bool where
 is:=RS
 hash:=bz
 inj:=λv a b ha f=>by
  cases Jp ha;have q:=Jp f;injection q
 byValue:=λk v h=>by cases Jp h;rfl
 pyHash:=λc h=>by cases Jp c;exact lG h
 eqBool:=λ{A E s a b u v Q}d c h=>by
  cases Jp d;cases Jp c;exact SeqAt.EqAt.bool_bool a b _ _ _ _ (by
   have e:(a == b)=decide (a=b):=by cases a <;> cases b <;> rfl
   rw[e];exact h)
 «strs»:=λk x t v h=>by cases Jp h
def rF(a:Addr)(xs:List (List Bool×Addr×Value))(h:Heap):Prop:=
 ∃o es ep,h.get? a=some o/\o.ExactDict/\o.data=.dict es ep/\(∀(P:Program)(w:World),es.toList=xs.map (entryOfKey (tupleKind (kQ P w))))/\(xs.map (·.1)).Nodup
def vc(a:Addr)(xs:List (List Bool×Addr×Value)):HO:=.ext (rF a xs)
abbrev KB(H:Hp):List (List Bool×V)->List (List Bool×Addr×Value)->Prop:=Paired λp q=>p.1=q.1/\H q.2.1=some (.tup (p.1.map V.bl))/\RelV p.2 q.2.2
def DB(H:Hp)(a:Addr)(AA:List (List Bool×V)):Prop:=AA.length<=sizeLine/\(a == sysModules)=false/\∃xs,H a=some (vc a xs)/\KB H AA xs
theorem KB.val{xs:List (List Bool×Addr×Value)}(r:KB H AA xs)(k:List Bool):GA (Ho AA k) ((atKey xs k).map (·.2)):=by
 induction r with
 |nil=>exact trivial
 |@cons p q ps qs h t c=>
  obtain⟨p1,p2⟩:=p;obtain⟨f,b,a⟩:=q;obtain⟨h1,_,d⟩:=h;cases h1
  by_cases e:p1=k
  .rw[Oo e,show atKey ((p1,b,a)::qs) k=some (b,a)from by simp[atKey,e]];exact d
  .rw[Q2 e,show atKey ((p1,b,a)::qs) k=atKey qs k from by simp[atKey,e]];exact c
theorem KB.keeps{xs:List (List Bool×Addr×Value)}(r:KB H AA xs)(a:∀b ys,H b=some (.tup ys)->H' b=some (.tup ys)):KB H' AA xs:=
 Paired.Nt r λ_ _ z=>⟨z.1,a _ _ z.2.1,z.2.2⟩
theorem DB.keeps(d:DB H a AA)(k:∀b o,H b=some o->H' b=some o):DB H' a AA:=by
 obtain⟨z,y,xs,e,r⟩:=d;exact⟨z,y,xs,k _ _ e,r.keeps λb ys q=>k _ _ q⟩
structure HI (N:List Str) (outer scope:Scope) (zs:List Str) (A8:List Str) (js:List Nat):Prop where
 kind:scope.kind=.function
 Jh:∀y∈scope.names,y.2≠.cell
 loc:∀y∈scope.names,y.2=.local->scope.names.lookup y.1=some .local
 Io:∀x∈zs,scope.names.lookup x=some .local
 at':js.map (λj=>N[j]?)=A8.map some
 cell:∀y∈A8,outer.names.lookup y=some .cell
 free:∀y∈A8,scope.names.lookup y=some .free
 all:∀y∈scope.names,y.2=.free->outer.names.lookup y.1=some .cell
 nd:(A8++zs).Nodup
def NJ(K:ZAe)(n:Nat)(wi:TI)(js:List Nat)(tt:TT)(te:TE):TE:=λZ H Q=>wi Z H λJ H1=>∀acc,H1 acc=none->Ou K n J js tt te Z H1 acc Q
section
variable{iter:Expr}{tp pos:Pos}{tk:Nat}{A8:List Str}
theorem HI.G(S:HI N outer scope zs A8 js):Di N outer scope none zs A8 js:=.eO S.kind S.Jh S.loc S.at' S.cell S.free S.all S.nd
theorem l5(a:X.calm=true)(S:HI X.N X.env.scope scope zs A8 js)(He:Ir zs es)(Gu:∀e,(assignEach es e).length=zs.length)(Fi:∀e,(assignEach es e).findIdx? (·.1)=none)(hi:PI X (.Tuple es tk tp) iter wi)
  (Bo:∀fp C s H,FL (ED X (A8++zs) scope (Au X.env.cells scope.names) C s H fp) ifs tt) (Bl:∀fp C s H,PE (ED X (A8++zs) scope (Au X.env.cells scope.names) C s H fp) elt te)
  (b:∀v,foldedSetIterable iter X.env v=pure v:=by intro _;rfl):PE X (.ListComp elt [⟨.Tuple es tk tp,iter,ifs,0⟩] scope pos) (NJ X.K zs.length wi js tt te):=
 X2 (CW:=λJ Z H1 acc Q=>Ou X.K zs.length J js tt te Z H1 acc Q) (c8 S.G) a S.G hi (λ_ _ _ _=>cH a S.G S.Io He Gu Fi) Bo Bl b
theorem SK(b:X.calm=true)(S:HI X.N X.env.scope scope zs A8 js)(He:Ir zs es)(Gu:∀e,(assignEach es e).length=zs.length)(Fi:∀e,(assignEach es e).findIdx? (·.1)=none)(hi:QI X (.Tuple es tk tp) iter wi)(Bo:∀fp C s H,Mw (ED X (A8++zs) scope (Au X.env.cells scope.names) C s H fp) ifs tt)(Bl:∀fp C s H,QE (ED X (A8++zs) scope (Au X.env.cells scope.names) C s H fp) elt te)
  (a:∀v,foldedSetIterable iter X.env v=pure v:=by intro _;rfl):QE X (.ListComp elt [⟨.Tuple es tk tp,iter,ifs,0⟩] scope pos) (NJ X.K zs.length wi js tt te):=⟨l5 b S He Gu Fi hi.h (λfp C s H=>(Bo fp C s H).h) (λfp C s H=>(Bl fp C s H).h) a⟩
theorem kL(As:X.stack=X.env::X.outer)(a:X.ex=[])(go:Goes X (λ_=>EX))(c:X.calm=true)(S:HI X.N X.env.scope scope zs A8 js)(He:Ir zs es)(Gu:∀e,(assignEach es e).length=zs.length)(Fi:∀e,(assignEach es e).findIdx? (·.1)=none)(hi:QI X (.Tuple es tk tp) iter wi)
  (Bo:∀fp C s H,Mw (ED X (A8++zs) scope (Au X.env.cells scope.names) C s H fp) ifs tt)
  (Bl:∀fp C s H pn xe,(∀b∈fp,∃p∈pn,p.1=b)->Goes ((ED X (A8++zs) scope (Au X.env.cells scope.names) C s H fp).Cp pn xe) (λ_=>EX)->QE ((ED X (A8++zs) scope (Au X.env.cells scope.names) C s H fp).Cp pn xe) elt te)
  (d:∀v,foldedSetIterable iter X.env v=pure v:=by intro _;rfl):QE X (.ListComp elt [⟨.Tuple es tk tp,iter,ifs,0⟩] scope pos) (NJ X.K zs.length wi js tt te):=
 ⟨nc (CW:=λJ Z H1 acc Q=>Ou X.K zs.length J js tt te Z H1 acc Q) (c8 S.G) As a go c S.G hi.h (λ_ _ _ _=>cH c S.G S.Io He Gu Fi) (λfp C s H=>(Bo fp C s H).h) (λfp C s H pn xe hx g=>(Bl fp C s H pn xe hx g).h) d⟩
variable{a b:Expr}{ta tb:TE}
theorem AU{id:String}(c:Be X (.builtin id) r)(a:X.mg x=none)(ha:QA X (e::es) t)(b:Gl X x:=by rfl)(hv:bootBuiltins x=some (.builtin id):=by decide +kernel)(hn:x ≠"__name__" := by decide)(B7:(x == ("__debug__":Str))=false:=by decide)
  (he:starEach (e::es) X.env=(false,eval e X.env)::starEach es X.env:=by rfl) (B1:(backTo pos (starEach es X.env)).any (·.1)=false:=by rfl):QE X (.Call (.Name x p) (e::es) [] pos) (CJ r t):=uR c b a hv ha hn B7 he B1
theorem Gq(c:Be X (.type T) r)(a:X.mg x=none)(ha:QA X (e::es) t)(b:Gl X x:=by rfl)(hv:bootBuiltins x=some (.type T):=by decide +kernel)(hn:x ≠"__name__" := by decide)(B7:(x == ("__debug__":Str))=false:=by decide)
  (he:starEach (e::es) X.env=(false,eval e X.env)::starEach es X.env:=by rfl) (B1:(backTo pos (starEach es X.env)).any (·.1)=false:=by rfl):QE X (.Call (.Name x p) (e::es) [] pos) (CJ r t):=rO c b a hv ha hn B7 he B1
theorem B2{r:R2}(d:Gb X r)(ha:QE X a ta)(e:QE X b tb)(c:SN b:=by exact λ_ _=>rfl):QE X (.Subscript a b pos) (BQ r ta tb):=vP d ha e c
theorem AV{j:Nat}{sp:Sp}(h:AD X.prog X.w X.K X.mg X.base x k ps sp)(a:BJ j X.A)(ha:QA X (e::es) t)(b:k<=j:=by decide)(hg:Gl X x:=by rfl)(B7:(x == ("__debug__":Str))=false:=by decide)
  (he:starEach (e::es) X.env=(false,eval e X.env)::starEach es X.env:=by rfl) (B1:(backTo pos (starEach es X.env)).any (·.1)=false:=by rfl):QE X (.Call (.Name x p) (e::es) [] pos) (EE sp [] E0 t):=tS h a b ha hg B7 he B1
theorem DP{r:R2}(ho:Ar X (compareOp op) r)(ha:QE X a ta)(d:QE X b tb)(c:behindInMarks op b=false:=by first|exact br _|with_unfolding_all rfl):QE X (.Compare a [op] [b] pos) (BQ r ta tb):=sI ho ha d c
theorem Az{r:R2}(ho:Ar X (compareOp op) r)(ha:QE X a ta)(d:QE X b tb)(c:behindInMarks op b=false:=by first|exact br _|with_unfolding_all rfl):QT X (.Compare a [op] [b] pos) (LM (BQ r ta tb)):=oK ho ha d c
theorem Ac(i:Nat)(b:X.N.Nodup)(a:QE X e te)(hi:X.N[i]?=some x:=by rfl)(hx:Loc X.env.scope x:=by first|exact Or.inl rfl|exact Or.inr rfl)(hs:swapsWith e (some (.Name x pos')) pos.line X.env=pure false:=by rfl)(hf:X.fn x=true∨X.env.scope.names.lookup x=some .local:=by first|exact .inl rfl|exact .inr rfl|assumption):
  QS X (.Assign [.Name x pos'] e pos) (EW te (D1 i)):=wM b hi hx a hs hf
theorem HS(i:Nat)(a:X.N.Nodup)(hi:X.N[i]?=some x:=by rfl)(hx:Loc X.env.scope x:=by first|exact Or.inl rfl|exact Or.inr rfl)(hf:X.fn x=true∨X.env.scope.names.lookup x=some .local:=by first|exact .inl rfl|exact .inr rfl|assumption):QG X (.Name x pos) (D1 i):=mQ a hi hx hf
end
open AutoSeq1 (wpAny_loadPart')
theorem xB(l:Addr)(items:Array Value)(n:Nat)(Ce:Option Addr)(e:Array (Option Value))(tk:Tok):
  Meets (Builtin.«enumerate.__new__» ⟨[.type "enumerate", .ref l],[("start", .int 1 tk)]⟩) (λ_ R s=>s.heap.get? l=some { cls:=.type "list", dict:=Ce,data:=.seq items n,slots:=e }/\
   R (.ok (.ret (.ref (s.heap.push { cls:=.type "list_iterator", data:=.fields #[.ref l,.int 0 0] }).objs.size)))
    { s with heap:=(s.heap.push { cls:=.type "list_iterator", data:=.fields #[.ref l,.int 0 0] }).push { cls:=.type "enumerate", data:=.fields #[.none,.bool false,.ref s.heap.objs.size,rawInt 1,.none,.none] } }):=
 .of_wp λprog w A R s h=>by
  obtain⟨f,g,d,b,os⟩:=s;obtain⟨hl,h⟩:=h;have i:=sub_enumerate;have a:Heap.IsList (Shared.heap ⟨f,g,d,b,os⟩) l items:=⟨_,hl,rfl,n,rfl⟩
  wp_walk using wpAny_loadPart' hl
  refine wpAny_stack_any λst=>fv ?_;split
  .rename_i c _ _ _ _ _;cases(c == Value.type "enumerate")
   .wp_walk using wpAny_loadPart' hl,jU a
    exact⟨_,rfl,h⟩
   .wp_walk using wpAny_loadPart' hl,jU a
    exact⟨_,rfl,h⟩
  .wp_walk using wpAny_loadPart' hl,jU a
   exact⟨_,rfl,h⟩
section
theorem l7{newId:String}{Bn:Builtin}{args:List Value}{kw:List (Str×Value)}{S:PySem.Spec}(b:TypeCalled T newId "object.__init__")
  (Ai:(some newId != some "object.__new__")=true) (t:checkTypeCall T ⟨args,kw⟩=pure ()) (n:checkBuiltinCall newId ⟨.type T::args,kw⟩=pure ())
  (AB:∀obj,argsOk "object.__init__" ⟨obj::args,kw⟩) (l:entryFor table newId=some Bn) (g:Meets (Bn ⟨.type T::args,kw⟩) S)
  (o:∀obj,Meets (Builtin.«object.__init__» ⟨obj::args,kw⟩) (λ_ R s=>s.TypeIs obj T/\R (.ok (.ret .none)) s))
  (h:S A.in1 (wants (λobj f=>f.TypeIs obj T/\Q obj f) E) s):wpAny (model prog w) A (call (.type T) args kw) Q E s:=by
 obtain⟨c,tl,p⟩:=b.mro;have x:=b.made;have v:=b.sub;have h1:=b.notType;have h2:=b.canCreate;refine qh (ZAB ?_);show wpAny _ _ (callAny (.type T) _) _ _ _;refine fv ⟨WZ _ (by decide +kernel),wu F.entry_type_call ?_⟩;rw[Around.under_plain (weight_type_call_type T args kw) (units_type_call_type T args kw)]
 repeat (any_goals (first|assumption|wp_step))
 refine my (k9 b.plain l (ZAC n (g prog w A.in1 _ s h))) λr f d=>?_
 match r,d with
 | .error e,d=>exact d
 | .ok (.ret obj),d=>
  obtain⟨k,j⟩:=d;have q:=b.init.lookup;have u:=b.init.bind obj
  repeat (any_goals (first|assumption|wp_step))
  refine my (k9 b.init.plain F.entry_object_init (b.init.check _ _ _ _ _ _ _ _ k (AB obj) (o obj prog w A.in1 (wants (λr i=>r=.none/\Q obj i) E) f ⟨k,rfl,j⟩))) λm i a=>?_
  match m,a with
  | .error e,a=>exact a
  | .ok (.ret r),a=>
   obtain⟨rfl,j⟩:=a
   repeat (any_goals (first|assumption|wp_step))
theorem kb(j:s.heap.IsList l items)
  (h:∀h',IsEnum h' (s.heap.objs.size+1) s.heap.objs.size 1 .none->h'.IsListIter s.heap.objs.size l 0->(∀b o,s.heap.get? b=some o->h'.get? b=some o)->Q (.ref (s.heap.objs.size+1)) { s with heap:=h' }) :
  wpAny (model prog w) A (call (.type "enumerate") [.ref l] [("start", .int 1 tk)]) Q E s:=by
 obtain⟨⟨c,Ce,k,f⟩,hl,a,n,hd⟩:=j;replace a:c=.type "list" := a;replace hd:k=.seq items n:=hd;subst a hd;refine l7 F.called_enumerate (by decide) (by kernel_rfl) (by kernel_rfl) (λobj=>?_) F.entry_enumerate_new (xB l items n Ce f tk) (λobj=>?_) ⟨hl,?_⟩
 .unfold argsOk;rw[signature?_of (id:="object.__init__") (n:="__init__".toList.reverse) (o:="object".toList.reverse) (by kernel_rfl) F.owner_object];kernel_rfl
 .refine Meets.of_wp λprog w A R s g=>?_;obtain⟨p,i⟩:=g;have hl:=F.called_enumerate.init.lookup;have m:=F.called_enumerate.made
  repeat (any_goals (first|assumption|wp_step))
  exact⟨_,rfl,i⟩
 .have d:(s.heap.push { cls:=.type "list_iterator", data:=.fields #[.ref l,.int 0 0] }).objs.size=s.heap.objs.size+1:=Dm ..;show _/\_;rw[d];have e:IsEnum ((s.heap.push { cls:=.type "list_iterator", data:=.fields #[.ref l,.int 0 0] }).push { cls:=.type "enumerate", data:=.fields #[.none,.bool false,.ref s.heap.objs.size,rawInt 1,.none,.none] }) (s.heap.objs.size+1) s.heap.objs.size 1 .none:=d▸BE (s.heap.push { cls:=.type "list_iterator", data:=.fields #[.ref l,.int 0 0] }) rfl;exact⟨⟨_,e,rfl⟩,h _ e ⟨_,Ao _ (BE _ rfl),rfl,rfl⟩ λb o x=>Ao _ (Ao _ x)⟩
theorem jS(hh:A.handled=none)(Ai:l≠it)(items:Array Value):
  Draws prog w A it [it,l] (items.size+1) (λi v=>1<=i/\items[i - 1]?=some v) (λi h=>1<=i/\h.IsListIter it l (i - 1)/\h.IsList l items) where
 live:=λi h st=>(Wb (prog:=prog) (w:=w) hh it l Ai items).live (i - 1) h st.2
 frame:=λi h h' st k=>⟨st.1,(Wb (prog:=prog) (w:=w) hh it l Ai items).frame (i - 1) h h' st.2 k⟩
 item:=λi s Q E hi st b=>(Wb (prog:=prog) (w:=w) hh it l Ai items).item (i - 1) s Q E (by have:=st.1;omega) st.2 λx h' tk p Dk a=>b x h' tk ⟨st.1,p⟩ ⟨by omega,by have h1:=st.1;rw[show i+1 - 1=i - 1+1 by omega];exact Dk⟩ a
 done:=λs Q E st c=>(Wb (prog:=prog) (w:=w) hh it l Ai items).done s Q E st.2 c
theorem mP{e:Addr}{j:Int}{Q:Option Value->Shared->Prop}(hh:A.handled=none)(c:IsEnum s.heap e it j old)(a:s.heap.IsListIter it l i)(hl:s.heap.IsList l items)(hx:items[i]?=none)
  (h:∀h',Heap.ExtBut it s.heap h'->Q none { s with heap:=h' }):wpAny (model prog w) A (pyNext (.ref e)) Q E s:=by
 have d:s.TypeIs (.ref e) "enumerate" := ⟨_,c,rfl⟩;unfold pyNext;refine fq (o9 (jF (name:=Str.ofString "__next__") d F.slot_enumerate_next (ja F.slot_enumerate_next d F.entry_enumerate_next ?_ (F.args_enumerate_next_1 _))));show wpAny _ _ (field (.ref e) 2 >>= _) _ _ _;refine fq (iM c rfl (x:=.ref it) rfl (fq (vK hh a hl hx λh' x Sn f=>?_)));obtain⟨o,ho,g⟩:=f;exact fq (ZA5 (T:="StopIteration") (b:=true) ⟨o,ho,g⟩ ZAE (fv (h _ Sn)))
def bA(K:ZAe)(a:Addr)(xs:List V):It:=
 ⟨λi H=>AN K H a xs/\i<xs.length,λi H x H'=>∃p y,xs[i]?=some y/\x=.ref p/\H p=none/\H'=upd H p (.tup [.int ((i:Int)+1),y]),λi H=>AN K H a xs/\xs.length<=i⟩
theorem t8{K:ZAe}(a e it:Addr)(xs:List V)(Uy:e≠it)(IE:e≠a)(J:a≠it):
  Turn P w K (.Tuple es k1 p1) (bA K a xs) [e,it] e (λi h=>(∃old,IsEnum h e it ((i:Int)+1) old)/\h.IsListIter it a i) where
 mem:=by simp
 obj:=λi h st b f=>by
  obtain⟨⟨old,h1⟩,o,h2,_,d⟩:=st;rcases List.mem_cons.mp f with z|z
  .subst z;exact⟨_,h1,λv z=>by cases z⟩
  .have:b=it:=by simpa using z
   subst this;exact⟨o,h2,λv z=>by rw[d]at z;cases z⟩
 keep:=λi h h' st k=>⟨let ⟨old,h1⟩:=st.1;⟨old,k e (by simp) _ h1⟩,st.2.at λo q=>k it (by simp) o q⟩
 item:=by
  intro X x hw y t i Zd s Z H E I l st r;subst x hw y;obtain⟨n,hi⟩:=r;obtain⟨⟨old,g⟩,c⟩:=st;obtain⟨A2,j,p,M⟩:=I.list n;have hl:=j.length;refine wpAny_pyNext_enum_itemD (i:=i+1) (jS (A:=X.A.in1) (show X.A.in1.handled=none from I.ok.hd t) J A2.toArray) g ⟨by omega,c,p.isList⟩ (by simp;omega) Uy (by simp[Uy,IE]) λu h1 tk N IS GL F Mo L=>⟨_,rfl,?_⟩;obtain⟨m,Kn,G⟩:=j.get (Aw hi);have O:m=u:=by
   have:=N.2;simp at this;rw[this]at Kn;exact(B4 Kn).symm
  subst O;refine wpAny_letOwnedTupleGo_enum IS λh2 Q6 DX=>?_;have D:e<s.heap.objs.size:=AX g;have C:h2.get? s.heap.objs.size=some { cls:=.type "tuple", data:=.seq #[.int ((i:Int)+1) tk,m] }:=(DX.2 _ (Fo D)).trans F;have kp:∀b o,b∉[e,it]->s.heap.get? b=some o->h2.get? b=some o:=λb o f q=>by
   have B:b≠e/\b≠it:=by simpa using f
   exact(DX.2 b B.1).trans (L b o B.1 B.2 q)
  refine⟨.ref s.heap.objs.size,_,I.Qt (t':=tk+1) (a:=s.heap.objs.size) (o:=.tup [.int ((i:Int)+1),xs[i]]) l kp (AZ _) ?_,rfl,⟨_,_,Aw hi,rfl,I.AB.fresh (AZ _),rfl⟩,⟨⟨_,Q6⟩,GL.2.1.at λo q=>(DX.2 it (BS Uy)).trans q⟩,λb f=>?_⟩
  .exact⟨(by show 2<=sizeLine;decide),[.int ((i:Int)+1) tk,m],.cons ⟨_,rfl⟩ (.cons G .nil),⟨_,C,rfl,_,rfl⟩,λob q=>by rw[C]at q;cases q;rfl⟩
  .have R:b<s.heap.objs.size:=by
    rcases List.mem_cons.mp f with z|z
    .rw[z];exact D
    .have:b=it:=by simpa using z
     obtain⟨o,q,_⟩:=c;rw[this];exact AX q
   rw[AJ (BZ R)];exact(l b f).1
 done:=by
  intro X x hw y t i Zd s Z H E I l st r;subst x hw y;obtain⟨n,hx⟩:=r;obtain⟨⟨old,g⟩,c⟩:=st;obtain⟨A2,j,p,M⟩:=I.list n;have hl:=j.length;exact mP (I.ok.hd t) g c p.isList (by simp;omega) λh' Q=>⟨rfl,I.Qp (t':=s.toks) l λb o f q=>Q b o (λz=>f (by simp[z])) q⟩
 self:=λ_ _ _ _ _ st h=>let ⟨⟨_,g⟩,_⟩:=st;wpAny_pyIter_enum g h
def VL(K:ZAe)(t:TA):TI:=λZ H R=>t Z H λvs H1=>∃a xs,vs=[.ref a]/\AN K H1 a xs/\R (bA K a xs) H1
variable{M:Model}{env:Env}
theorem sx{pos:Pos}{KA:List Keyword}
  (h:wpAny M A (spliced (backTo pos (starEach [e] env))) (λvs b=>wpAny M A (evalAll ((backToKw pos (keywordEach KA env)).map (·.2)))
   (λAA c=>wpAny M A (call (.type T) vs (((backToKw pos (keywordEach KA env)).filterMap (·.1)).zip AA)) Q E c) E b) E s)
  (d:backTo pos (starEach [e] env)=(false,eval e env)::backTo pos (starEach [] env))
  (Mi:(backTo pos (starEach [e] env)).any (·.1)=false)
  (J6:(backToKw pos (keywordEach KA env)).all (·.1.isSome)=true)
  (f:(backToKw pos (keywordEach KA env)).any (·.1.isNone)=false) :
  wpAny M A (callWith pos (.type T) [] (backTo pos (starEach [e] env)) (backToKw pos (keywordEach KA env))) Q E s:=by
 unfold callWith;rw[d]at h;have h2:wpAny M A (evalArgs (.type T) true (backTo pos (starEach [e] env)) (backToKw pos (keywordEach KA env))) (λa b=>wpAny M A (call (.type T) ([]++a.pos) a.kw) Q E b) E s:=by
  rw[d];exact evalArgs_kwB J6 h
 refine fq (iZ (i9 h2 (λa b g=>fq (nj ?_)) λ_ _ x=>x));simp only[Mi,f,Bool.or_false];refine fq (fv ?_);exact fq (i9 g (λr c i=>fq (iZ (wpAny_point (fv i)))) λ_ _ x=>x)
theorem yi{pos kp:Pos}{l f:Expr}(y:Gl X "enumerate")(x:X.mg "enumerate"=none)(ha:QA X [l] t)(h1:QE X f (tC (.int 1)))
  (d:starEach [l] X.env=[(false,eval l X.env)]:=by rfl) :
  QI X (.Tuple es k1 p1) (.Call (.Name "enumerate" p) [l] [⟨some "start", f,kp⟩] pos) (VL X.K t):=⟨by
 have ha:=ha.h;have h1:=h1.h;intro Zd s Z H R I h;refine jZ (IH I y x (show bootBuiltins "enumerate"=some (.type "enumerate") by decide +kernel) ?_ (by decide) (by decide));refine sx (AG (ha pos Zd s Z H _ I h) λus j⟨vs,H1,I1,n,r⟩=>?_) (by rw[d];rfl) (by rw[d];rfl) rfl rfl;refine kws_cons (AG (h1 Zd j Z H1 (λv H'=>v=.int 1/\H'=H1) I1 ⟨rfl,rfl⟩) λv s2⟨D,H2,I2,m,C,B⟩=>?_);subst C B;obtain⟨tk,rfl⟩:=m;refine kws_nil ?_;obtain⟨a,xs,rfl,w,q⟩:=r;obtain⟨u,rfl,k⟩:=vals1 n;cases k;obtain⟨A2,E,p,F⟩:=I2.list w;refine kb p.isList λh' e c kp=>?_;refine wpAny_pyIter_enum e ?_;have g:a<s2.heap.objs.size:=by
  obtain⟨o,ho,_⟩:=p.isList;exact AX ho
 refine⟨s2.heap.objs.size+1,[s2.heap.objs.size+1,s2.heap.objs.size],_,_,H2,rfl,I2.kept (t':=s2.toks) kp,t8 a _ _ xs (Nat.succ_ne_self _) (Fo (Nb g)) (BZ g),⟨⟨_,e⟩,c⟩,λb A=>?_,q⟩;have i:s2.heap.objs.size<=b:=by
  rcases List.mem_cons.mp A with z|z
  .rw[z];exact GQ _
  .have:b=s2.heap.objs.size:=by simpa using z
   rw[this];exact AZ _
 exact I2.J1 i (I2.AB.fresh i)⟩
theorem Yu:∀(l:List (Str×Tok)),Vals ((l.map (·.1)).map V.str) (strValues l)
 | []=>.nil
 |p::l=>.cons ⟨p.2,rfl⟩ (Yu l)
def eE:V->List V->Hp->VK->Prop:=λv xs H Q=>∃x y:Str,v=.str x/\xs=[.str y]/\(y.length == 0)=false/\x.length<=100000/\(Txt.split x y).length<=100000/\∀l,H l=none->Q (.ref l) (upd H l (.lst ((Txt.split x y).map V.str)))
theorem Ij:FW X "str.split" eE:=by
 intro Zd s Z H v xs i us Q I g r h;obtain⟨x,y,rfl,rfl,c,hx,j,q⟩:=h;obtain⟨t,rfl⟩:=g;obtain⟨u,rfl,f⟩:=vals1 r;obtain⟨t2,rfl⟩:=f;have hl:(100000:Nat)<=sizeLine:=by decide
 have a:∀(l:List (Str×Tok))(k:Nat),l.map (·.1)=Txt.split x y->EP X Zd Z Q (.ref s.heap.objs.size) { s with heap:=s.heap.push { cls:=.type "list", data:=.seq (strValues l).toArray },toks:=k }:=λl k e=>by
  refine⟨.ref s.heap.objs.size,_,I.Mt (t':=k) (ys:=(Txt.split x y).map V.str) (by rw[<- e];exact Yu l) (by rw[AH];omega),rfl,q _ I.fresh⟩
 cases h1:(decide (x.length<y.length) || decide (Builtin.Str.strKind x<Builtin.Str.strKind y))
 .cases b:(Builtin.Str.occurrences x y 0 x.length (x.length+1)).isEmpty
  .have d:Txt.split x y=Builtin.Str.partsBetween x (Builtin.Str.occurrences x y 0 x.length (x.length+1)) y.length:=(hZ (xQ h1)).trans (hZ (xQ b));refine qm eY (xt _ _ _) eX (eW _ _) (meets_str_split_sep x y t t2 h1 c b (by omega) (by rw[<- d];omega)) ?_;show wants _ _ _ { s with toks:=_,heap:=s.heap.push { cls:=.type "list", data:=.seq (strsFrom s.toks (Builtin.Str.partsBetween x (Builtin.Str.occurrences x y 0 x.length (x.length+1)) y.length)).toArray } }
   rw[strsFrom_eq];exact a (numbered s.toks _) _ ((numbered_texts _ _).trans d.symm)
  .exact qm eY (xt _ _ _) eX (eW _ _) (meets_str_split_not_found x y t t2 h1 c b) (a [(x,t)] s.toks ((hZ (xQ h1)).trans (i6 b)).symm)
 .exact qm eY (xt _ _ _) eX (eW _ _) (meets_str_split_cannot_occur x y t t2 h1) (a [(x,t)] s.toks (i6 h1).symm)
def ZI:List V->Hp->VK->Prop:=λxs H Q=>∃(x:Str)(n:Int),xs=[.str x]/\intText? x=some n/\x.length<=640/\Q (.int n) H
theorem bj:Be X (.type "int") ZI:=by
 intro Zd s Z H xs us Q I r h;obtain⟨x,n,rfl,a,hl,q⟩:=h;obtain⟨u,rfl,t,rfl⟩:=vals1 r;exact PySem.W.KIN.call_text a hl ⟨.int n,H,I.tok _,⟨_,rfl⟩,q⟩
theorem rj{a b:Nat}(E6:a<=b):sliceBounds (some (a:Int)) (some (b:Int)) none n=(((min a n:Nat):Int),((min b n:Nat):Int),1):=by
 simp only[sliceBounds,fU];have h1:¬ ((a:Int)<0):=by omega
 have h2:¬ ((b:Int)<0):=by omega
 simp only[h1,h2,ZA4,show(1:Int) > 0 by decide,vh];refine Prod.ext ?_ (Prod.ext ?_ rfl)
 .show max 0 (min (a:Int) n)=((min a n:Nat):Int);omega
 .show max 0 (min (b:Int) n)=((min b n:Nat):Int);omega
theorem iD{c:Addr}{xs ys:List Value}{m f:Nat}{e d:Value}{a b:Nat}{Q:Unit->Shared->Prop}(ho:s.heap.get? l=some { cls:=.type "list", data:=.seq xs.toArray m })(GZ:s.heap.get? l2=some { cls:=.type "list", data:=.seq ys.toArray f })
  (hs:s.heap.IsSliceOf c e d .none) (pl:IsPart e (some (a:Int))) (pu:IsPart d (some (b:Int))) (Ai:l≠l2) (E6:a<=b) (ES:xs.length+ys.length<=sizeLine)
  (q:Q () { s with heap:=s.heap.update l (Obj.mapSeq λzs=>zs.extract 0 (min a xs.length)++ys.toArray++zs.extract (min b xs.length) zs.size) }):wpAny (model prog w) A (setItem (.ref l) (.ref c) (.ref l2)) Q E s:=by
 have hl:s.heap.IsList l xs.toArray:=⟨_,ho,rfl,m,rfl⟩;have j:s.heap.IsList l2 ys.toArray:=⟨_,GZ,rfl,f,rfl⟩;obtain⟨os,Po,Nj,W5⟩:=id hs;have g:s.TypeIs (.ref c) "slice" := ⟨os,Po,Nj⟩;unfold setItem
 try with_reducible refine iZ ?_
 first|refine fq (fv ?_)|skip
 refine fq (wpAny_sequenceKey hl.typeIs (by decide) ?_);refine fq (jF (name:=Str.ofString "__setitem__") hl.typeIs slot_list_setitem (ja slot_list_setitem hl.typeIs entry_list_setitem ?_ (args_list_setitem _ _ _)));show wpAny _ _ (Builtin.List.listSubscript? (.ref c) >>= _) _ _ s;refine fq ?_;unfold Builtin.List.listSubscript?;refine fq (sL g slice_no_index ?_);simp only[Option.isNone_none,vh];refine fv ?_;show wpAny _ _ (typeOf (.ref c) >>= _) _ _ s;refine fq (wpAny_typeOf g ?_);rw[hZ (by decide)];rw[listSliceParts_eq];refine fq (fq (iM Po W5 (x:=.none) rfl (fq (ZAD .none ?_))));rw[hZ (by exact Bt)];refine fq (iM Po W5 (x:=e) rfl (fq (ZAD pl ?_)));refine fq (iM Po W5 (x:=d) rfl (fq (ZAD pu (fv ?_))));rw[hZ (show ¬ (Builtin.List.listSameRef (.ref l) (.ref l2)=true) by simp[Builtin.List.listSameRef,Ai])];refine fq ?_;unfold Builtin.List.listAllItems;refine fq (wpAny_typeOf j.typeIs ?_);rw[i6 (by decide)];unfold Builtin.List.listItems;refine fq (ia GZ rfl (fv ?_));refine fq (fq (ia ho rfl (fv ?_)));refine fq (ZAC ((sliceIndices_raw (some (a:Int)) (some (b:Int)) none _ (by simp)).trans (iK pure (rj E6))) ?_);dsimp only;rw[i6 (show((1:Int) == 1)=true by decide)];refine fq (nk ?_);rw[hZ (show ¬ (Builtin.List.listTooLong (xs.toArray.size+ys.toArray.size)=true) by simp[Builtin.List.listTooLong];omega)];have i:((min a xs.toArray.size:Nat):Int).toNat=min a xs.length:=GO _;have h:(max ((min a xs.toArray.size:Nat):Int) ((min b xs.toArray.size:Nat):Int)).toNat=min b xs.length:=by
  rw[Bh];omega
 rw[i,h];refine fq (wpAny_updateSeq ho rfl ?_ (by rw[Bh];omega) ?_)
 .exact fq (sh (fv ⟨.none,rfl,fv q⟩))
 .simp;omega
variable{lo hi:Option Expr}{tl th:TO}{pos p2:Pos}
def WT(to:TE)(tl th:TO):TG:=λv Z H Q=>to Z H λo H1=>tl Z H1 λlo H2=>th Z H2 λhi H3=>∃(p q:Addr)(a b:Nat)(xs ys:List V),o=.ref p/\v=.ref q/\p≠q/\lo=some (a:Int)/\hi=some (b:Int)/\a<=b/\H3 p=some (.lst xs)/\H3 q=some (.lst ys)/\xs.length+ys.length<=100000/\Q Z (upd H3 p (.lst (xs.take a++ys++xs.drop b)))
theorem nV(ho:QE X o to)(hl:QO X lo tl)(d:QO X hi th)
  (ha:∀v,assign (.Subscript o (.Slice lo hi none p2) pos) X.env v=(do
   let a <- holding [v] (eval o X.env)
   let iv <- holding [v,a] (eval (.Slice lo hi none p2) X.env)
   standAt pos
   holding [v,a,iv] (setItem a iv v)
   release [iv,v,a] []):=by intro _;rfl):QG X (.Subscript o (.Slice lo hi none p2) pos) (WT to tl th):=⟨by
 have ho:=ho.h;have hl:=hl.h;have d:=d.h;intro Zd s Z H v u Q I r h;rw[ha];refine fq (iZ (AG (ho Zd s Z H _ I h) λa y⟨x,H1,I1,z,C⟩=>?_));refine fq (iZ (wpAny_Slice (AG (hl Zd y Z H1 _ I1 C) λg s2⟨l,H2,I2,pl,B⟩=>AG (d Zd s2 Z H2 _ I2 B) λf c⟨b,H3,I3,D,A⟩=>?_)));rw[evalPart_none];refine fv ?_;obtain⟨p,q,i,j,xs,ys,rfl,rfl,Ai,rfl,rfl,EF,t,F,M,k⟩:=A;cases z;cases r;have E:=Heap.IsSliceOf.new c.heap g f .none;have e:Inv X Zd Z H3 { c with heap:=c.heap.push { cls:=.type "slice", data:=.fields #[g,f,.none] } }:=I3.kept (t':=c.toks) λb ob q=>Ao _ q
 obtain⟨_,A2,n,m,Ew,w⟩:=e.I0 t;obtain⟨_,B5,L,G9,C9,G⟩:=e.I0 F;have N:(100000:Nat)<=sizeLine:=by decide
 refine fq (nj (fq (iZ (iD w G E pl D Ai EF (by omega) (wpAny_release ⟨Z,_,?_,k⟩)))));refine e.Od (its':=A2.take i++B5++A2.drop j) t w ?_ (((m.take i).append G9).append (m.drop j)) ?_
 .apply Array.ext';simp;have K:List.take (min i A2.length) A2=List.take i A2:=by rw[List.take_eq_take_iff];omega
  have J:List.take (A2.length - min j A2.length) (List.drop (min j A2.length) A2)=List.drop j A2:=by
   rw[Kf (by rw[Kd];exact AZ _)];rcases QY j A2.length with h|h
   .rw[QZ h]
   .rw[Qa h,List.drop_eq_nil_of_le h,zT]
  rw[K,J]
 .rw[Cm,Cm,Em,Kd];omega⟩
end
end L2
namespace Fz
open L2 Lw
variable{ss:List Slot}{i:Nat}
def cw(n:Nat):List (List Bool)->List (List Bool×V)
 | []=>[]
 |k::ks=>(k,.int n)::cw (n+1) ks
def lK(ks:List (List Bool)):List (List Bool×V):=cw 0 ks
def Bd(i:Nat)(ks:List (List Bool))(E:Ent0)(Z:L2.St)(F H:Hp):Prop:=∃a,Z[i]?=some (some (.ref a))/\F a=none/\E.H0 a=none/\DB H a (lK ks)
section
variable[Xw]
variable{E:Ent0}{Z:L2.St}{F H F' H':Hp}{K:ZAe}{ks:List (List Bool)}{ta tb tc te:TE}{R:Ah}
theorem Sg.Y4(S:Sg E ss Z F H){b:Addr}{o:HO}(h:H b=some o)(hl:∀vs,o≠.lst vs):DR ss Z b:=λj d e=>by
 obtain⟨l,c,_,_,x,y,a,_⟩:=S.ok j _ d;rw[e]at c;cases c;rw[h]at a;exact hl _ (B4 a)
theorem Bd.mv(b:Bd i ks E Z F H)(S:Sg E ss Z F H)(m:Mv E ss Z F H F' H'):Bd i ks E Z F' H':=by
 obtain⟨a,e,g,f,z,y,xs,ha,r⟩:=b;refine⟨a,e,?_,f,z,y,xs,m.hh _ _ (S.Y4 ha λvs c=>nomatch c) ha,r.keeps λc ys d=>m.hh _ _ (S.Y4 d λvs c=>nomatch c) d⟩;cases q:F' a with
 |none=>rfl
 |some o=>
  rcases m.nn _ _ q with c|c
  .rw[g]at c;cases c
  .rw[ha]at c;cases c
variable{js:List Nat}
end
end Fz
namespace Fz
open L2 Lw
section
variable[Xw]
variable{ss:List Slot}{te:TE}{K:ZAe}{P:Program}{w:World}
variable{E:Ent0}{Z:L2.St}{F H F' H':Hp}{js:List Nat}{ta tb:TE}
theorem du{E:Ent}{F1:Hp}{v:V}{tp:Bool}{xs:List PV}(f:Fv E.toEnt0 F1 v tp xs):∃l vs,v=.ref l/\(∀(ss:List Slot)(Z:L2.St)(F H:Hp),A9 F1 F->Sg E.toEnt0 ss Z F H->H l=some (D6 tp vs))/\AE F1 vs xs:=by
 cases tp with
 |true=>
  have a:Rep F1 v (.tup xs):=f;cases a with
  |tup e r=>exact⟨_,_,rfl,λss Z F H s S=>S.fh _ _ (s _ _ e),r⟩
 |false=>
  obtain⟨l,vs,e,h1,r⟩:=f;refine⟨l,vs,e,λss Z F H s S=>?_,r⟩;rcases h1 with h1|⟨hA,h1⟩
  .exact S.fh _ _ (s _ _ h1)
  .exact S.keep _ _ hA h1
theorem T6{n:Nat}{wi:TI}{tt:TT}{te:TE}{k:List PV->Prop}(f:PV->Bool)(g:PV->PV)
  (h:Wi ss wi λxs=>xs.length<=100000/\(∀x∈xs,∃l:List PV,x=.tup l/\l.length=n/\Wt (BU js ss++l.map .is) tt (λc=>c=f x)/\(f x=true->Wp (BU js ss++l.map .is) te λp=>p=g x))/\k ((xs.filter f).map g))
  (nd:js.Nodup:=by decide) (np:Ml js ss=true:=by rfl):Wn ss (NJ K n wi js tt te) k:=⟨λE Z F H Q S q=>
 h.go E Z F H _ S λJ xs F1 H1 d D⟨hz,X,kk⟩acc Am=>by
  have P:DR ss Z acc:=d.st.Jw Am;have K7:=d.st.Cy Am;have KC:∀(i:Nat)s,ss[i]?=some s->¬ CD s Z[i]? acc:=λi s hi=>d.st.K3 hi Am;refine⟨λi m H2=>m=xs.length - i/\i<=xs.length/\∃F2 vs,Mv E ss Z F1 H1 F2 H2/\F2 acc=none/\H2 acc=some (.lst vs)/\AE F2 vs (((xs.take i).filter f).map g),⟨_,rfl,DV _,F1,[],d.st.make Am _,d.st.CO Am,AY,.nil⟩,?_⟩;rintro i m H2⟨rfl,hi,F2,vs,b,L,ha,v⟩
  by_cases u:i<xs.length
  .refine .inr ⟨D.go ss Z F2 H2 i b.ff b.st u,λx H3 y=>?_⟩;obtain⟨p,F3,G,A,I⟩:=D.Dg ss Z F2 H2 i x H3 b.ff b.st u y;have JU:p∈xs:=DJ G;have Gv:(xs.take (i+1))=xs.take i++[p]:=by
    have e2:xs[i]=p:=by rw[Aw u]at G;exact B4 G
    rw[Lq u,e2]
   have M:List.filter f (xs.take (i+1))=(xs.take i).filter f++(if f p=true then[p]else[]):=by
    rw[Gv,fD];congr 1
    by_cases j:f p=true <;> simp[j]
   have O:∀{F4:Hp},(∀a o,F4 a=some o->F2 a=some o∨H2 a=none)->F4 acc=none:=λ{F4}n=>by
    cases e:F4 acc with
    |none=>rfl
    |some o=>
     rcases n acc o e with w|w
     .rw[L]at w;cases w
     .rw[ha]at w;cases w
   obtain⟨l,ep,W,V,hw⟩:=X p JU;rw[ep]at I;obtain⟨_,_,rfl,e,r⟩:=I.inv;refine⟨_,_,rfl,Al.of (A.st.fh _ _ e),by rw[r.length,W],?_⟩;have S3:=A.st.A8 (js:=js) nd r;refine V.go E _ F3 H3 _ S3 λc F4 H4 U Y=>?_;have N:=U.out (ps:=l) A.st np;have t:=A.trans N;show if c=true then _ else _
   rw[Y]
   by_cases j:f p=true
   .rw[i6 j];have S4:=t.st.A8 (js:=js) nd (r.mono N.ff);refine(hw j).go E _ F4 H4 _ S4 λw pw F5 H5 T GY σ=>?_;have Jo:=T.out (ps:=l) t.st np;have B:=t.trans Jo;have Jy:=B.hh acc _ P ha;have R:=O B.nn;have z:vs.length<=99999:=by
     rw[v.length,AH];have:=fG f (xs.take i);rw[Em]at this;omega
    refine⟨vs,Jy,LV z,xs.length - (i+1),by omega,rfl,u,F5,vs++[w],?_,R,AY,?_⟩
    .have C:=b.trans B;refine⟨C.st.Lx R (.inl K7) KC,C.ff,λa o n e=>?_,C.nn⟩;rw[AJ (Ct e Am)];exact C.hh a o n e
    .rw[M,i6 j,En];rw[σ]at GY;exact(v.mono B.ff).append (.one GY)
   .have Mb:f p=false:=by simpa using j
    rw[Mb,hZ (by decide)];refine⟨xs.length - (i+1),by omega,rfl,u,F4,vs,b.trans t,O t.nn,t.hh acc _ P ha,?_⟩;rw[M,hZ j,Hu];exact v.mono t.ff
  .have e:i=xs.length:=by omega
   subst e;refine .inl ⟨D.stop ss Z F2 H2 b.ff b.st,q acc vs _ F2 H2 (d.trans b) L (d.none Am) ha ?_ kk⟩;rw[JL]at v;exact v⟩
end
end Fz
namespace Fz
open L2 Lw
variable{k:List PV->Prop}{xs:List PV}{i:Nat}
section
variable[Xw]
variable{ss:List Slot}{ta tb:TE}{K:ZAe}{k:PV->Prop}{nx:List Slot->Prop}{R:Ah}
variable{te:TE}
theorem IY{k:List PV->Prop}(h:Wp ss ta λp=>∃x:Str,p=.str x/\Wp ss tb λq=>∃y:Str,q=.str y/\(y.length == 0)=false/\x.length<=100000/\(Txt.split x y).length<=100000/\k ((Txt.split x y).map .str)):Wn ss (Iz K "str" eE ta (Ab tb B0)) k:=⟨λE Z F H Q S q=>
 h.go E Z F H _ S λv p F1 H1 c f⟨x,e,h2⟩=>by
  subst e;cases f.inv;refine⟨rfl,h2.go E Z F1 H1 _ c.st λm p2 F2 H2 b d⟨y,l,i,hx,j,kk⟩=>?_⟩;subst l;cases d.inv;refine⟨x,y,rfl,rfl,i,hx,j,λa ha=>?_⟩;have g:=b.st.make ha (.lst ((Txt.split x y).map V.str));exact q a _ _ F2 _ (c.trans (b.trans g)) (b.st.CO ha) ((c.trans b).none ha) AY (Te _) kk⟩
theorem Yh(h:Wp ss te λp=>∃(x:Str)(n:Int),p=.str x/\intText? x=some n/\x.length<=640/\k (.int n)):Wp ss (CJ ZI (Ab te B0)) k:=⟨λE Z F H Q S q=>
 h.go E Z F H _ S λv p F1 H1 a r A6=>by
  obtain⟨x,n,e,b,hl,kk⟩:=A6;subst e;cases r.inv;exact⟨x,n,rfl,b,hl,q _ _ F1 H1 a (.int _) kk⟩⟩
theorem tM{tl th:TO}(hi:ss[i]?=some (.own xs))(h:Wn ss te λys=>Wo ss tl λlo=>Wo ss th λhi=>∃a b:Nat,lo=some (a:Int)/\hi=some (b:Int)/\a<=b/\xs.length+ys.length<=100000/\nx (ss.set i (.own (xs.take a++ys++xs.drop b)))):
  Ws ss (EW te (WT (Br i) tl th)) nx R:=⟨λE D Z F H S s x=>
 h.go E Z F H _ S λl ws ys F1 H1 g y h1 hl n h2=>by
  obtain⟨p,vs,e,C,B,A,r⟩:=g.st.ok i _ hi;have w:p≠l:=λz=>by
   subst z;obtain⟨o,Dl,c,EG,Bk,Ea,d⟩:=S.ok i _ hi;rw[e]at c;cases c;rw[h1]at Ea;cases Ea
  refine⟨_,e,h2.go E Z F1 H1 _ g.st λlo F2 H2 k t=>t.go E Z F2 H2 _ k.st λCr F3 H3 f⟨a,b,ea,u,E6,q,kk⟩=>?_⟩;obtain⟨o,Dl,c,EG,Bk,Ea,d⟩:=f.st.ok i _ hi;rw[e]at c;cases c;have j:=k.trans f;have v:H3 l=some (.lst ws):=j.hh l _ (S.Jw h1) hl;have m:=n.mono j.ff;refine⟨p,l,a,b,Dl,ws,rfl,rfl,w,ea,u,E6,Ea,v,by rw[d.length,m.length];exact q,?_⟩;exact s _ Z F3 _ kk (f.st.put hi e EG Bk (((d.take a).append m).append (d.drop b))) (g.ff.trans j.ff)⟩
theorem bQ{k:List PV->Prop}(h:Wz ss ta λ_ xs=>Wp ss tb λp=>∃a ys,p=.con a ys/\Et K a ys/\k (DL xs ys)):Wi ss (Uz K (Ab ta (Ab tb B0))) k:=⟨λE Z F H R S q=>
 h.go E Z F H _ S λv tp xs F1 H1 t f h2=>h2.go E Z F1 H1 _ t.st λM p2 F2 H2 d z A6=>by
  obtain⟨b,ys,I,g,kk⟩:=A6;obtain⟨l,vs,e,A,r⟩:=du f;have r:=r.mono d.ff;have j:∀(ss:List Slot)(Z:L2.St)(F H:Hp),A9 F2 F->Sg E ss Z F H->H l=some (D6 tp vs):=λss Z F H s S=>A ss Z F H (λa o e=>s a o (d.ff a o e)) S;subst e;subst I;cases z.inv;have n:AE F2 (ys.map Fz.enc) ys:=UT g.HR;have c:=r.length;have c2:=n.length;refine⟨l,b,tp,true,vs,ys.map Fz.enc,rfl,D6.sq (j ss Z F2 H2 (A9.refl _) d.st),g.sq H2,q _ (DL xs ys) F2 H2 (t.trans d) ⟨λss Z F H i s S hi=>?_,λss Z F H s S=>?_,λss Z F H i x H' s S hi y=>?_⟩ kk⟩
  .rw[JE]at hi;exact⟨D6.sq (j ss Z F H s S),g.sq H,by omega,by omega⟩
  .refine⟨D6.sq (j ss Z F H s S),g.sq H,?_⟩;rw[JE];omega
  .obtain⟨p,w,u,hx,C,ex,D,G⟩:=y;subst ex;subst G;obtain⟨L,Mo,B⟩:=r.get' hx;obtain⟨J,GD,Vb⟩:=n.get' C;have m:=S.alloc D (.tup [w,u]);exact⟨_,_,ZX Mo GD,m,.tup AY (.cons (B.mono (s.trans m.ff)) (.one (Vb.mono (s.trans m.ff))))⟩⟩
theorem qu(h:Wp ss te λp=>∃a xs,p=.con a xs/\Et K a xs/\k (.int xs.length)):Wp ss (CJ (OY K) (Ab te B0)) k:=⟨λE Z F H Q S q=>
 h.go E Z F H _ S λv p F1 H1 b r A6=>by
  obtain⟨a,xs,e,c,kk⟩:=A6;subst e;cases r.inv;refine⟨a,xs.map Fz.enc,rfl,.inr (c.sq H1),?_⟩;rw[AH];exact q _ _ F1 H1 b (.int _) kk⟩
theorem bL(h:Wp ss ta λp=>∃x:Str,p=.str x/\Wp ss tb λq=>∃n:Int,q=.int n/\MulOk x n/\k (.str (Txt.mul x n))):Wp ss (BQ (λx y H Q=>∃(z:Str)(n:Int),x=.str z/\y=.int n/\MulOk z n/\Q (.str (Txt.mul z n)) H) ta tb) k:=⟨λE Z F H Q S q=>
 h.go E Z F H _ S λv p F1 H1 a c⟨x,e,h2⟩=>h2.go E Z F1 H1 _ a.st λg p2 F2 H2 d b⟨y,f,ho,kk⟩=>by
  subst e;subst f;cases c.inv;cases b.inv;exact⟨x,y,rfl,rfl,ho,q _ _ F2 H2 (a.trans d) (.str _) kk⟩⟩
theorem dy(h:Wp ss ta λp=>∃x:Str,p=.str x/\Wp ss tb λq=>∃y:Str,q=.str y/\k (.bl (!(Builtin.Str.occurrences y x 0 y.length 1).isEmpty))):Wp ss (BQ (λx y H Q=>∃i j,x=.str i/\y=.str j/\Q (.bl (!(Builtin.Str.occurrences j i 0 j.length 1).isEmpty)) H) ta tb) k:=⟨λE Z F H Q S q=>
 h.go E Z F H _ S λv p F1 H1 a c⟨x,e,h2⟩=>h2.go E Z F1 H1 _ a.st λg p2 F2 H2 d b⟨y,f,kk⟩=>by
  subst e;subst f;cases c.inv;cases b.inv;exact⟨x,y,rfl,rfl,q _ _ F2 H2 (a.trans d) (.bl _) kk⟩⟩
def IQ(xs:List PV):List PV:=(List.range xs.length).map λi:Nat=>PV.tup [.int ((i:Int)+1),xs.getD i .A5]
theorem LI(xs:List PV):(IQ xs).length=xs.length:=by unfold IQ;rw[AH,fH]
theorem Vf{x:PV}(h:xs[i]?=some x):(IQ xs)[i]?=some (.tup [.int ((i:Int)+1),x]):=by
 have hi:i<xs.length:=(List.getElem?_eq_some_iff.mp h).1;unfold IQ;rw[B3,QN hi];show some (PV.tup [PV.int ((i:Int)+1),xs.getD i PV.A5])=_;rw[Lp,h];rfl
theorem t7{p:PV}(h:(IQ xs)[i]?=some p):∃x,xs[i]?=some x/\p=.tup [.int ((i:Int)+1),x]:=by
 have hi:i<xs.length:=by have:=(List.getElem?_eq_some_iff.mp h).1;rwa [LI]at this
 have e:=Aw hi;refine⟨xs[i],e,?_⟩;rw[Vf e]at h;exact(B4 h).symm
theorem fk{k:List PV->Prop}(h:Wz ss te λtp xs=>tp=false/\k (IQ xs)):Wi ss (VL K (Ab te B0)) k:=⟨λE Z F H R S q=>
 h.go E Z F H _ S λv tp xs F1 H1 a f A6=>by
  obtain⟨j,kk⟩:=A6;subst j;obtain⟨l,vs,g,h1,r⟩:=f;subst g;have hl:∀(ss:List Slot)(Z:L2.St)(F H:Hp),A9 F1 F->Sg E ss Z F H->H l=some (.lst vs):=λss Z F H s S=>by
   rcases h1 with h1|⟨hA,h1⟩
   .exact S.fh _ _ (s _ _ h1)
   .exact S.keep _ _ hA h1
  refine⟨l,vs,rfl,AN.of (hl ss Z F1 H1 (A9.refl _) a.st),q _ (IQ xs) F1 H1 a ⟨λss Z F H i s S hi=>?_,λss Z F H s S=>?_,λss Z F H i x H' s S hi y=>?_⟩ kk⟩
  .rw[LI]at hi;exact⟨AN.of (hl ss Z F H s S),by rw[r.length];exact hi⟩
  .refine⟨AN.of (hl ss Z F H s S),?_⟩;rw[LI,r.length];exact AZ _
  .obtain⟨p,y,d,ex,e,n⟩:=y;subst ex;subst n;obtain⟨z,c,b⟩:=r.get' d;have m:=S.alloc e (.tup [.int ((i:Int)+1),y]);exact⟨_,_,Vf c,m,.tup AY (.cons (.int _) (.one (b.mono (s.trans m.ff))))⟩⟩
end
end Fz
namespace L2
variable{items:Array Value}
section
variable{prog:Program}{w:World}{A:Around}{E:Value->Shared->Prop}{s:Shared}
theorem i8{it t:Addr}(Ai:t≠it):∀(n i:Nat)(s:Shared)(Q:List Value->Shared->Prop),s.heap.IsListIter it t i->s.heap.IsList t items->i+n<=items.size->
  (∀h',h'.IsListIter it t (i+n)->Heap.SameBut it s.heap h'->Q ((items.toList.drop i).take n) { s with heap:=h' })->wpAny (model prog w) A (draw (.ref it) n) Q E s:=by
 intro n
 induction n with
 |zero=>
  intro i s Q a _ _ f;show wpAny _ _ (pure []) Q E s;exact fv (by simpa using f s.heap a (eZ ..))
 |succ n j=>
  intro i s Q a g l f;have h:i<items.size:=by omega
  show wpAny _ _ (pyNext (.ref it) >>= _) Q E s;refine fq (wpAny_pyNext_list_item a g (x:=items[i]) (by simp[h]) λm d b=>?_);refine fq (iZ (j (i+1) _ _ d (g.extBut b.extBut Ai) (by omega) λk c e=>fv ?_));have hd:items.toList.drop i=items[i]::items.toList.drop (i+1):=by simp[List.drop_eq_getElem_cons,h]
  have:=f k (by rw[show i+(n+1)=i+1+n by omega];exact c) (b.trans e);rw[hd,List.take_succ_cons]at this;exact this
theorem y3{t:Addr}{Q:List Value->Shared->Prop}(hh:A.handled=none)(a:s.heap.IsList t items)
  (l:∀h',Heap.ExtBut s.heap.objs.size s.heap h'->Q items.toList { s with heap:=h' }):wpAny (model prog w) A (unpackItems (.ref t) items.size none) Q E s:=by
 have i:t≠s.heap.objs.size:=by obtain⟨o,ho,_⟩:=a;exact BZ (AX ho)
 unfold unpackItems;refine fq ?_;unfold notIterableAtAll;refine fq (sL a.typeIs slot_list_iter.lookup ?_);refine fv ?_;simp only[zH,ZA4];refine fq (iZ (jU a ?_));refine fq (iZ (i8 i items.size 0 _ _ ⟨_,BE _ rfl,rfl,rfl⟩ (a.at λo e=>Ao _ e) (by omega) λk d c=>?_));have m:List.take items.size (List.drop 0 items.toList)=items.toList:=by
  rw[Wj];exact Kf (by simp)
 rw[m];rw[hZ (by simp)];have f:k.IsList t items:=Heap.IsList.extBut (a.at λo e=>Ao _ e) c.extBut i;refine fq (iZ (wpAny_pyNext_list_end hh d f (by simp) λj g=>?_));simp only[Option.isSome_none,zH,ZA4];refine fv (l j λb o h e=>g b o h (c.extBut b o h (Ao _ e)))
theorem sD{env:Env}{a:List Expr}{x1}{pos:Pos}{t:Addr}{items:Array Value}{Q:Unit->Shared->Prop}(hh:A.handled=none)(b:s.heap.IsList t items)
  (c:(assignEach a env).length=items.size) (d:(assignEach a env).findIdx? (·.1)=none)
  (h:∀h',Heap.ExtBut s.heap.objs.size s.heap h'->wpAny (model prog w) A (assignInOrder ((assignEach a env).map (·.2)) items.toList) Q E { s with heap:=h' }) :
  wpAny (model prog w) A (assign (.Tuple a x1 pos) env (.ref t)) Q E s:=by
 rw[assign_Tuple];refine fq (nj ?_);unfold unpack;rw[c,d];exact fq (iZ (y3 hh b h))
variable{X:Cx}{pos:Pos}
def VW(K:ZAe)(n:Nat)(t:EY):TG:=λv Z H Q=>∃a xs,v=.ref a/\AN K H a xs/\xs.length=n/\t xs Z H Q
end
end L2
namespace Fz
open L2 Lw
variable{k:List PV->Prop}
def M4(K:ZAe):List (Addr×List Str)->Prop
 | []=>True
 |p::r=>(∀H,Al K H p.1 (p.2.map V.str))/\M4 K r
section
variable[Xw]
variable{E:Ent0}{ss:List Slot}{K:ZAe}{ta tb ty:TE}{P:Program}{w:World}{a:Addr}{AA:List (Str×Addr)}
def GG(z:Str):List PV:=z.cps.toList.map λc=>.str ⟨#[c]⟩
theorem cB(h:Wp ss ta λp=>∃z:Str,p=.str z/\z.cps.all (· < 128)=true/\Wz ss tb λtp ys=>tp=false/\k (DL (GG z) ys)):Wi ss (Sl K (Ab ta (Ab tb B0))) k:=⟨λE Z F H R S q=>
 h.go E Z F H _ S λv p F1 H1 f r A6=>by
  obtain⟨z,e,j,h2⟩:=A6;subst e;obtain rfl:v=.str z:=r.inv;refine h2.go E Z F1 H1 _ f.st λB CA ys F2 H2 d o C3=>?_;obtain⟨t,kk⟩:=C3;subst t;obtain⟨l2,Ms,w,a,b⟩:=du o;subst w;have c2:=b.length;have C:(GG z).length=z.cps.toList.length:=AH _;refine⟨z,l2,Ms,rfl,j,D6.sq (tp:=false) (a ss Z F2 H2 (A9.refl _) d.st),q _ (DL (GG z) ys) F2 H2 (f.trans d) ⟨λss Z F H i s S hi=>?_,λss Z F H s S=>?_,λss Z F H i x H' s S hi y=>?_⟩ kk⟩
  .rw[JE]at hi;exact⟨D6.sq (tp:=false) (a ss Z F H s S),by omega,by omega⟩
  .refine⟨D6.sq (tp:=false) (a ss Z F H s S),?_⟩;rw[JE];omega
  .obtain⟨p,c,g,hx,l,ex,n,u⟩:=y;subst ex;subst u;obtain⟨A,GD,Vb⟩:=b.get' l;have m:=S.alloc n (.tup [.str ⟨#[c]⟩,g]);exact⟨_,_,ZX (x:=.str ⟨#[c]⟩) (by unfold GG;rw[B3,hx];rfl) GD,m,.tup AY (.cons (.str _) (.one (Vb.mono (s.trans m.ff))))⟩⟩
theorem aO{k:PV->Prop}(c:Hj P w K a AA)(h:Wp ss ty λp=>∃x b xs,p=.str x/\FG AA x=some b/\k (.con b xs)):Wp ss (UD P w K (tC (.ref a)) ty) k:=⟨λE Z F H Q S q=>
 h.go E Z F H _ S λv p F1 H1 d r A6=>by
  obtain⟨x,b,xs,e,f,kk⟩:=A6;subst e;exact⟨a,AA,x,b,rfl,c,r.inv,f,q _ _ F1 H1 d .con kk⟩⟩
theorem qM{k:PV->Prop}(c:Hj P w K a AA)(h:Wp ss ty λp=>∃x,p=.str x/\k (.bl (!(FG AA x).isSome))):Wp ss (Qv P w K ty (tC (.ref a))) k:=⟨λE Z F H Q S q=>
 h.go E Z F H _ S λv p F1 H1 b r A6=>by
  obtain⟨x,e,kk⟩:=A6;subst e;exact⟨a,AA,x,rfl,c,r.inv,q _ _ F1 H1 b (.bl _) kk⟩⟩
variable{js:List Nat}
theorem vC{n:Nat}{wi:TI}{tt:TT}{te:TE}(good:Nat->Prop)(g:PV->PV)
  (h:Wi ss wi λxs=>xs.length<=100000/\(∀(i:Nat)x,xs[i]?=some x->(∀j,j<i->good j)->∃f:List PV,x=.tup f/\f.length=n/\Wt (BU js ss++f.map .is) tt (λc=>c=true)/\Wp (BU js ss++f.map .is) te λp=>p=g x/\good i)/\((∀j,j<xs.length->good j)->k (xs.map g)))
  (nd:js.Nodup:=by decide) (np:Ml js ss=true:=by rfl):Wn ss (NJ K n wi js tt te) k:=⟨λE Z F H Q S q=>
 h.go E Z F H _ S λJ xs F1 H1 d C A6 acc Am=>by
  obtain⟨hz,V,kk⟩:=A6;have Hh:DR ss Z acc:=d.st.Jw Am;have K7:=d.st.Cy Am;have KC:∀(i:Nat)s,ss[i]?=some s->¬ CD s Z[i]? acc:=λi s hi=>d.st.K3 hi Am;refine⟨λi m H2=>m=xs.length - i/\i<=xs.length/\(∀j,j<i->good j)/\∃F2 vs,Mv E ss Z F1 H1 F2 H2/\F2 acc=none/\H2 acc=some (.lst vs)/\AE F2 vs ((xs.take i).map g),⟨_,rfl,DV _,λj t=>absurd t (fR j),F1,[],d.st.make Am _,d.st.CO Am,AY,.nil⟩,?_⟩;rintro i m H2⟨rfl,hi,G,F2,vs,b,M,ha,v⟩
  by_cases u:i<xs.length
  .refine .inr ⟨C.go ss Z F2 H2 i b.ff b.st u,λx H3 y=>?_⟩;obtain⟨p,F3,D,z,L⟩:=C.Dg ss Z F2 H2 i x H3 b.ff b.st u y;have Gv:(xs.take (i+1))=xs.take i++[p]:=by
    have σ:xs[i]=p:=by rw[Aw u]at D;exact B4 D
    rw[Lq u,σ]
   have Hs:∀{F4:Hp},(∀a o,F4 a=some o->F2 a=some o∨H2 a=none)->F4 acc=none:=λ{F4}n=>by
    cases e:F4 acc with
    |none=>rfl
    |some o=>
     rcases n acc o e with w|w
     .rw[M]at w;cases w
     .rw[ha]at w;cases w
   obtain⟨f,ep,U,T,hw⟩:=V i p D G;rw[ep]at L;obtain⟨_,_,rfl,e,r⟩:=L.inv;refine⟨_,_,rfl,Al.of (z.st.fh _ _ e),by rw[r.length,U],?_⟩;have S3:=z.st.A8 (js:=js) nd r;refine T.go E _ F3 H3 _ S3 λc F4 H4 R W=>?_;have N:=R.out (ps:=f) z.st np;have I:=z.trans N;show if c=true then _ else _
   rw[i6 W];have S4:=I.st.A8 (js:=js) nd (r.mono N.ff);refine hw.go E _ F4 H4 _ S4 λw pw F5 H5 P GY C3=>?_;obtain⟨Y,X⟩:=C3;have Jo:=P.out (ps:=f) I.st np;have A:=I.trans Jo;have Jy:=A.hh acc _ Hh ha;have O:=Hs A.nn;have l:vs.length<=99999:=by
    rw[v.length,AH,Em];omega
   refine⟨vs,Jy,LV l,xs.length - (i+1),by omega,rfl,u,λj t=>?_,F5,vs++[w],?_,O,AY,?_⟩
   .rcases Nat.lt_succ_iff_lt_or_eq.mp t with t|rfl
    .exact G j t
    .exact X
   .have B:=b.trans A;refine⟨B.st.Lx O (.inl K7) KC,B.ff,λa o n e=>?_,B.nn⟩;rw[AJ (Ct e Am)];exact B.hh a o n e
   .rw[Gv,En];rw[Y]at GY;exact(v.mono A.ff).append (.one GY)
  .have e:i=xs.length:=by omega
   subst e;refine .inl ⟨C.stop ss Z F2 H2 b.ff b.st,q acc vs _ F2 H2 (d.trans b) M (d.none Am) ha ?_ (kk G)⟩;rw[JL]at v;exact v⟩
theorem yP{t:TT}(h:Wt ss t λc=>if c=true then Wn ss ta k else Wn ss tb k):Wn ss (Nk t ta tb) k:=⟨λE Z F H Q S q=>
 h.go E Z F H _ S λc F1 H1 a h2=>by
  show if c=true then _ else _
  cases c with
  |true=>exact h2.go E Z F1 H1 _ a.st λl vs xs F2 H2 b d hl Ew r kk=>q l vs xs F2 H2 (a.trans b) d (a.none hl) Ew r kk
  |false=>exact h2.go E Z F1 H1 _ a.st λl vs xs F2 H2 b d hl Ew r kk=>q l vs xs F2 H2 (a.trans b) d (a.none hl) Ew r kk⟩
theorem pR{k:PV->Prop}(h:Wq ss ta λ_ xs=>∃ns:List Str,xs=ns.map PV.str/\ns.length<=1000/\(∀x∈ns,x.length<=1000)/\k (.bl (D0 ns))):Wp ss (EE (VM K) [] E0 (Ab ta B0)) k:=⟨λE Z F H Q S q=>
 h.go E Z F H _ S λv tp xs F1 H1 a sv A6=>by
  obtain⟨ns,e,h1,h2,kk⟩:=A6;subst e;obtain⟨l,vs,rfl,hl,r⟩:=sv.seq a.st;rw[r.strs]at hl;exact⟨l,tp,ns,rfl,D6.sq hl,h1,h2,λH3 s=>q _ _ F1 H3 (a.trans (a.st.grow s)) (.bl _) kk⟩⟩
theorem v9{i j:Nat}{p:PV}{k:List Slot->Prop}(h:∃a b,p=.lst [a,b]/\k ((ss.set i (.is a)).set j (.is b))):Wg ss (VW K 2 (KS (D1 i) (KS (D1 j) MG))) p k:=⟨λE Z F H v Q S r q=>by
 obtain⟨a,b,rfl,kk⟩:=h;obtain⟨_,_,rfl,e,r⟩:=r.inv;obtain⟨_,_,rfl,d,r⟩:=r.inv;obtain⟨_,_,rfl,c,r⟩:=r.inv;obtain rfl:=r.DC;exact⟨_,_,rfl,AN.of (S.fh _ _ e),rfl,_,_,rfl,_,_,rfl,rfl,q _ _ kk ((S.Ig d).Ig c)⟩⟩
end
end Fz
namespace L2
theorem nK{X:Cx}{pos:Pos}{es:List Expr}{k:Nat}{t:EY}{n:Nat}(i:X.calm=true)(h:NG X es t)(g:(assignEach es X.env).length=n:=by rfl)(As:(assignEach es X.env).findIdx? (·.1)=none:=by rfl):QG X (.Tuple es k pos) (VW X.K n t):=⟨by
 have h:=h.h;intro Zd s Z H v u Q I r hw;obtain⟨a,xs,j,f,hl,hw⟩:=hw;subst j;cases r;obtain⟨A2,c,d,m⟩:=I.list f;refine sD (I.ok.hd i) d.isList (by simp[g,<- hl,c.length]) As λh' hx=>?_;have l:Inv X Zd Z H { s with heap:=h' }:=I.kept (t':=s.toks) λb o e=>hx b o (BZ (AX e)) e
 exact h Zd _ Z H xs _ Q l (by simpa using c) hw⟩
end L2
namespace Fz
open L2 Lw
variable{xs ys:List PV}{L M N T c i n:Nat}{kd l s sep u v w x x0 y z:Str}{cs ks ls ns r rows ws:List Str}{α:Type}{ss:List Slot}{ta tb te:TE}{k:PV->Prop}{p q:PV}{b:Bool}{es:List (List PV)}
def Pm(p:PV):Prop:=aK p/\(Gm p).length<=100
def E4(xs:List PV):Str:=Txt.join " " (xs.map Gm)
def EU(ns:List Str):Str:=if ns.length=0 then "-" else Txt.join " " ns
theorem gX{ys:List Str}(h:∀y∈ys,y.length<=c):(ys.map (·.length)).sum<=ys.length * c:=by
 induction ys with
 |nil=>simp
 |cons y r a=>
  have h1:=h y (by simp);have h2:=a λz b=>h z (By _ b);rw[Cn,List.sum_cons,B6,fM,Nat.one_mul];omega
theorem LC{ys:List Str}(h:∀y∈ys,y.length<=c)(a:ys.length<=n):jw sep ys<=n * (c+sep.length):=by
 unfold jw;have h1:=gX h;have h2:ys.length * c<=n * c:=fQ c a;have b:ys.length * sep.length<=n * sep.length:=fQ _ a;rw[Nat.mul_add];omega
theorem xW(h:n<10 ^ 60):Pm (.int (n:Int)):=by
 have h1:((n:Int)).natAbs<10 ^ 60:=by rw[zN];exact h
 refine⟨Nc h1 (by decide +kernel),?_⟩;show(Str.ofString (toString (n:Int))).length<=100;rw[ZA0];have:=int_text_length_le10 (k:=60) (by decide) h1;omega
theorem Gp:(" ":Str).length=1:=rfl
theorem Pq:("\n":Str).length=1:=rfl
theorem gj(a:ns.length<=100)(c:∀x∈ns,Nm x):jw " " ns<=16777216:=Ax (LC (λy b=>(c y b).2.1) a) (by rw[Gp];decide)
theorem r9(a:xs.length<=200)(h:∀y∈xs,Pm y):jw " " (xs.map Gm)<=16777216:=Ax (LC (n:=200) (c:=100) (λy b=>by obtain⟨x,hx,rfl⟩:=List.mem_map.mp b;exact(h x hx).2) (by rw[AH];exact a)) (by rw[Gp];decide)
def Tj:Pre:=λl R=>∃(xs:List PV),l=[.is (.tup xs)]/\xs.length<=200/\(∀y∈xs,Pm y)/\R=.is λp=>p=.str (E4 xs)
def Rg:Pre:=λl R=>l=[.AQ]/\R=.is λp=>∃n:Nat,n<10 ^ 60/\p=.int n
def Vx:Pre:=λl R=>∃(ns:List Str),l=[.sq false (ns.map .str)]/\ns.length<=100/\(∀x∈ns,Nm x)/\R=.is λp=>p=.str (EU ns)
theorem jk{r:Nat}(h:r<4):∃N:Int,0<N/\N<=10 ^ 60/\L2.BA [PV.int 3,.int 45,.int (10 ^ Int.toNat 18),.int (10 ^ Int.toNat 60)] (r:Int)=some (.int N):=by
 have:r=0∨r=1∨r=2∨r=3:=by omega
 rcases this with rfl|rfl|rfl|rfl
 .exact⟨3,by decide,by decide +kernel,rfl⟩
 .exact⟨45,by decide,by decide +kernel,rfl⟩
 .exact⟨10 ^ Int.toNat 18,by decide +kernel,by decide +kernel,rfl⟩
 .exact⟨10 ^ Int.toNat 60,by decide +kernel,by decide +kernel,rfl⟩
theorem dN{l:List α}{r:Nat}(h:r<l.length):∃x∈l,L2.BA l (r:Int)=some x:=⟨l[r],Gz h,Ez (Aw h)⟩
theorem Gg(xs:List α):xs.filter (λ_=>true)=xs:=List.filter_eq_self.mpr λ_ _=>rfl
theorem eK(c:∀x∈ns,Nm x)(hx:Nm x){r:Nat}(h:r<ns.length+1):∃y:Str,Nm y/\L2.BA (ns.map PV.str++[PV.str x]) (r:Int)=some (.str y):=by
 obtain⟨p,a,e⟩:=dN (l:=ns.map PV.str++[PV.str x]) (r:=r) (by rw[Cm,AH];exact h);rcases List.mem_append.mp a with a|a
 .obtain⟨y,b,rfl⟩:=List.mem_map.mp a;exact⟨y,c y b,e⟩
 .rw[List.mem_singleton.mp a]at e;exact⟨x,hx,e⟩
theorem pO(b:Bool):∃m:Int,L2.BA [PV.int 9,.int 40] (if b=true then 1 else 0)=some (.int m)/\1<=m/\m<=40:=by
 cases b
 .exact⟨9,rfl,by decide,by decide⟩
 .exact⟨40,rfl,by decide,by decide⟩
def inR(i:Int)(lo hi:Int):Prop:=lo<=i/\i<=hi
def RH(i:Int):Prop:=i.natAbs.log2<1920
theorem xR{i:Int}(h:i.natAbs<2 ^ 1000):RH i:=by
 unfold RH
 by_cases z:i.natAbs=0
 .rw[z];decide
 .have:=(fP z).mpr h;omega
theorem av(h:i<=1000000):RH i:=xR (by
 have:(1000000:Nat)<2 ^ 1000:=by decide +kernel
 show Int.natAbs (i:Int)<_;rw[zN];omega)
structure Tw (ns:List Str) (r:Str) (g1 g2:Nat) (cs:List Str):Prop where
 one:K2 ns r g1 cs
 two:K2 ns r g2 cs
 tw:g1=g2∨(r="none" /\ cs.length<=1)
theorem YS(g i:Nat):O9 "none" g i=false:=by
 unfold O9;rw[hZ (by decide +kernel),hZ (by decide +kernel)]
theorem Tw.Oq{r:Str}{g1 a:Nat}(h:Tw ns r g1 a cs)(d:Dw):d.Oq r g1 cs=d.Oq r a cs:=by
 rcases h.tw with rfl|⟨rfl,_⟩
 .rfl
 .cases d with
  |put x i=>rw[Zv (YS g1 i),Zv (YS a i)]
  |_=>rfl
def bI(ns cs:List Str)(u:OV):Prop:=∃(ts:List Str)(l:Addr),ts.Perm (YT ns (gr cs ns).g cs)/\sortedS ts=true/\u=.tp [.fz (.tup [.int ((gr cs ns).g:Nat),.tup (ts.map .str)]),.nd .lst l (((gr cs ns).ps.map c6).map .fz)]
theorem bI.pv{u:OV}(h:bI ns cs u):wX ns cs u.pv:=by
 obtain⟨ts,l,a,st,rfl⟩:=h;exact⟨ts,a,st,by rw[wV,tV,wY]⟩
theorem snocInd{P:List α->Prop}(b:P [])(h1:∀l x,P l->P (l++[x]))(l:List α):P l:=by
 rw[<- List.reverse_reverse l]
 induction l.reverse with
 |nil=>exact b
 |cons x r a=>rw[QV];exact h1 _ _ a
def ck:PV->Bool
 | .A5=>true
 |_=>false
theorem xy{F:Hp}{v:V}(r:Rep F v p):decide (v=.A5)=ck p:=by
 cases r <;> rfl
section
variable[Xw]
theorem rJ(h:Wp ss ta λp=>Wp ss tb λq=>q=.A5/\k (.bl (ck p))):Wp ss (BQ (λx y H Q=>y=.A5/\Q (.bl (decide (x=.A5))) H) ta tb) k:=⟨λE Z F H Q S q=>
 h.go E Z F H _ S λv p F1 H1 a c h2=>h2.go E Z F1 H1 _ a.st λf p2 F2 H2 d b A6=>by
  obtain⟨e,kk⟩:=A6;subst e;cases b.inv;refine⟨rfl,?_⟩;rw[xy c];exact q _ _ F2 H2 (a.trans d) (.bl _) kk⟩
end
theorem e9{x:PV}(h:x∈DL xs ys):∃a b,a∈xs/\b∈ys/\x=.tup [a,b]:=by
 obtain⟨i,hi⟩:=List.getElem?_of_mem h;unfold DL at hi;rw[Kc]at hi;cases c:xs[i]? with
 |none=>rw[c]at hi;simp at hi
 |some a=>
  cases d:ys[i]? with
  |none=>rw[c,d]at hi;simp at hi
  |some b=>
   rw[c,d]at hi;exact⟨a,b,DJ c,DJ d,(B4 hi).symm⟩
def LG:Str:="0123456789"
def Dz(c:Nat):Bool:=!(Builtin.Str.occurrences LG ⟨#[c]⟩ 0 LG.length 1).isEmpty
theorem nD:∀j,j<10->Dz (48+j)=true:=by decide +kernel
theorem t5(h:Dz c=true):48<=c/\c<=57:=by
 refine Decidable.byContradiction λb=>?_;have e:∀i,i<10->LG.cps.extract i (i+1)=#[48+i]:=by decide +kernel
 have a:∀i,i+(Str.length ⟨#[c]⟩)<=LG.length->Builtin.Str.subAt LG ⟨#[c]⟩ i=false:=λi hi=>by
  have f:i+1<=10:=hi;show(LG.cps.extract i (i+1) == #[c])=false;rw[e i (by omega)];cases d:(#[48+i] == #[c])with
  |false=>rfl
  |true=>
   have q:=eq_of_beq d;simp at q;exact absurd ⟨by omega,by omega⟩ b
 unfold Dz at h;rw[PySem.W.occ_nil_of_no _ _ 1 a]at h;exact absurd h (by decide)
def isNum(w:Str):Bool:=(decide ((1:Int)<=w.length) && (decide ((w.length:Int)<=60) && w.cps.toList.all Dz)) && (decide (w="0") || !decide (w.cps.toList.head?=some 48))
def HM(w:Str):Nat:=NumText.digitsVal w.cps.toList
theorem LX(h:isNum w=true):NumText.AllDigits w.cps.toList/\w.cps.toList≠[]/\w.length<=60/\(w="0" ∨∃c r,w.cps.toList=c::r/\49<=c):=by
 unfold isNum at h;simp only[DT,WY,kz,eV,ZA9]at h;obtain⟨⟨h1,h2,d⟩,a⟩:=h;have hd:NumText.AllDigits w.cps.toList:=λc b=>t5 (List.all_eq_true.mp d c b);have hl:w.length=w.cps.toList.length:=by simp[Str.length]
 cases e:w.cps.toList with
 |nil=>rw[e]at hl;simp at hl;omega
 |cons c r=>
  rw[e]at hd a;refine⟨hd,by simp,by omega,a.imp id λAi=>⟨c,r,rfl,?_⟩⟩;have:=hd c (by simp);have:c≠48:=λz=>Ai (by rw[z];rfl);omega
theorem aF(h:isNum w=true):intText? w=some ((HM w:Nat):Int):=by
 obtain⟨hd,a,hl,_⟩:=LX h;exact PySem.intText_digits hd a (by omega)
theorem str_of_list{a b:Str}(h:a.cps.toList=b.cps.toList):a=b:=Str.ext' (Array.toList_inj.mp h)
theorem eN:∀(cs:List Nat),NumText.AllDigits cs->NumText.digitsVal cs<10 ^ cs.length:=by
 refine snocInd (λ_=>by decide) λcs c a h=>?_;rw[NumText.digitsVal_snoc,Cm,fJ,Nat.pow_succ];have:=a λd hd=>h d (by simp[hd]);have:=h c (by simp);omega
theorem uG(h:isNum w=true):HM w<10 ^ 60:=by
 obtain⟨hd,b,hl,_⟩:=LX h;have h1:=eN _ hd;have a:w.cps.toList.length<=60:=by simpa[Str.length]using hl
 exact C4 h1 (Nat.pow_le_pow_right (by decide) a)
theorem Ol(h:n<10 ^ 60):isNum (toString (n:Int):Str)=true/\HM (toString (n:Int):Str)=n:=by
 have es:(toString (n:Int):Str).cps.toList=(Nat.toDigits 10 n).map Char.toNat:=PySem.W.KIN.signs_num n;have p:HM (toString (n:Int):Str)=n:=by unfold HM;rw[es];exact zo n
 refine⟨?_,p⟩;have hd:NumText.AllDigits ((Nat.toDigits 10 n).map Char.toNat):=λc a=>by
  obtain⟨ch,Fl,rfl⟩:=List.mem_map.mp a;have:=Nat.isDigit_of_mem_toDigits (by decide) (by decide) Fl;unfold Char.isDigit at this;simp only[DT,kz]at this;exact⟨this.1,this.2⟩
 have f:(toString (n:Int):Str).length=(Nat.toDigits 10 n).length:=by
  show(toString (n:Int):Str).cps.size=_;rw[<- CK,es,AH]
 have o:(Nat.toDigits 10 n).length<=60:=digits10_le (by decide) h;have h1:1<=(Nat.toDigits 10 n).length:=tDigits_len_ge 10 n;unfold isNum;rw[f,es,gS (by omega),gS (by omega),El,El];have ha:((Nat.toDigits 10 n).map Char.toNat).all Dz=true:=List.all_eq_true.mpr λc a=>by
  have:=hd c a;have e:48+(c - 48)=c:=by omega
  rw[<- e];exact nD _ (by omega)
 rw[ha,El,WY,kz,eV,ZA9];cases b:(Nat.toDigits 10 n).map Char.toNat with
 |nil=>rw[List.map_eq_nil_iff]at b;rw[b]at h1;simp at h1
 |cons c r=>
  by_cases a:c=48
  .left
   subst a;have i:NumText.digitsVal (48::r)=n:=by rw[<- b];exact zo n
   rw[NumText.digitsVal_zero]at i;have m:r=[]:=by
    cases r with
    |nil=>rfl
    |cons d g=>
     exfalso;have l:=eN (d::g) λx hx=>hd x (by rw[b];simp[hx]);rw[i]at l;have:=digits10_le (k:=(d::g).length) (by simp) l;have j:=iK List.length b;rw[AH]at j;simp at j this;omega
   subst m;refine str_of_list ?_;rw[es,b];decide
  .right
   intro z;exact a (B4 z)
def Aa(x:Str):List Str:=Txt.split x " "
def jn(ws:List Str):Str:=Str.join " " ws
def Fr(w:Str):Prop:=32∉w.cps.toList
theorem WU:(" ":Str)=⟨#[32]⟩:=by decide
theorem Zo(x:Str):∀w∈Aa x,Fr w:=by
 unfold Aa;rw[WU];exact StrLaws.split_free x 32
theorem JN(x:Str):jn (Aa x)=x:=StrLaws.join_split x " "
theorem Fq(x:Str):Aa x≠[]:=by
 unfold Aa Txt.split;split
 .simp
 .split
  .simp
  .rw[ZA2];obtain⟨p,r,e⟩:=StrLaws.partsFrom_ne x (" ":Str).length 0 (Builtin.Str.occurrences x " " 0 x.length (x.length+1));rw[e];simp
theorem PY:∀(w v:Str)(r:List Str),(jn (w::v::r)).cps.toList=w.cps.toList++32::(jn (v::r)).cps.toList:=λw v r=>by
 show(w++(" ":Str)++Str.join " " (v::r)).cps.toList=_;rw[WU];simp[Str.cps_append,jn,WU]
theorem bt{a b:List Nat}:∀{p q:List Nat},32∉p->32∉q->p++32::a=q++32::b->p=q/\a=b
 | [],[],_,_,h=>⟨rfl,(JJ h).2⟩
 | [],y::q,_,hq,h=>absurd (by rw[<- (JJ h).1];simp) hq
 |x::p,[],hp,_,h=>absurd (by rw[(JJ h).1];simp) hp
 |x::p,y::q,hp,hq,h=>by
  obtain⟨f,e⟩:=JJ h;obtain⟨d,c⟩:=bt (λz=>hp (by simp[z])) (λz=>hq (by simp[z])) e;exact⟨by rw[f,d],c⟩
theorem dq:∀{ps qs:List Str},ps≠[]->qs≠[]->(∀w∈ps,Fr w)->(∀w∈qs,Fr w)->jn ps=jn qs->ps=qs
 | [],_,h,_,_,_,_=>absurd rfl h
 |_,[],_,h,_,_,_=>absurd rfl h
 | [p],[q],_,_,_,_,h=>by have h:p=q:=h;rw[h]
 | [p],q::q2::qs,_,_,hp,_,h=>by
  have e:=iK (λx:Str=>x.cps.toList) h;simp only[PY]at e;exact absurd (show 32∈p.cps.toList by rw[show p.cps.toList=_ from e];simp) (hp p (by simp))
 |p::p2::ps,[q],_,_,_,hq,h=>by
  have e:=iK (λx:Str=>x.cps.toList) h;simp only[PY]at e;exact absurd (show 32∈q.cps.toList by rw[show q.cps.toList=_ from e.symm];simp) (hq q (by simp))
 |p::p2::ps,q::q2::qs,_,_,hp,hq,h=>by
  have e:=iK (λx:Str=>x.cps.toList) h;simp only[PY]at e;obtain⟨b,a⟩:=bt (hp p (by simp)) (hq q (by simp)) e;rw[str_of_list b,dq (ps:=p2::ps) (qs:=q2::qs) (by simp) (by simp) (λw hw=>hp w (by simp[hw])) (λw hw=>hq w (by simp[hw])) (str_of_list a)]
theorem Ls(a:ws≠[])(b:∀w∈ws,Fr w):Aa (jn ws)=ws:=dq (Fq _) a (Zo _) b (JN _)
def Li:List Str:=[("none":Str), "ahead","all"]
def Ko:Pre:=λl R=>∃w:Str,l=[.is (.str w)]/\w.length<=1000/\R=.is λp=>p=.bl (isNum w)
theorem km(xs:List PV):E4 xs=jn (xs.map Gm):=Qh " " _
theorem L5(h:¬ ((1:Int)<=w.length/\(w.length:Int)<=60/\(w.cps.toList.map Dz).all id=true)):isNum w=false:=by
 cases e:isNum w with
 |false=>rfl
 |true=>
  exfalso;unfold isNum at e;simp only[DT,kz]at e;refine h ⟨e.1.1,e.1.2.1,?_⟩;rw[NV];exact e.1.2.2
theorem dh(h1:(1:Int)<=w.length)(h2:(w.length:Int)<=60)(a:(w.cps.toList.map Dz).all id=true):isNum w=(decide (w="0") || !decide (w.cps.toList.head?=some 48)):=by
 unfold isNum;rw[NV]at a;rw[gS h1,gS h2,El,El,show w.cps.toList.all Dz=true from a,El]
def Yz:PV->PV
 | .tup [.str w,.str k]=>if k="number" then .int (HM w)else .str w
 |_=>.A5
theorem dM:("0":Str).cps.toList=[48]:=by decide
theorem UM(h:¬ (!b)=true):b=true:=by cases b;exact absurd rfl h;rfl
theorem Y5(h:(!b)=true):b=false:=by cases b;rfl;cases h
theorem TZ(h:ws≠[]):jn (v::ws)=v++(" ":Str)++jn ws:=by
 cases ws with
 |nil=>exact absurd rfl h
 |cons a r=>rfl
theorem W8(v:Str):∀{ws:List Str},ws≠[]->jn (ws++[v])=jn ws++(" ":Str)++v
 | [],h=>absurd rfl h
 | [a],_=>rfl
 |a::b::r,_=>by
  show jn (a::((b::r)++[v]))=jn (a::b::r)++(" ":Str)++v;rw[TZ (by simp),W8 v (ws:=b::r) (by simp),TZ (ws:=b::r) (by simp)];simp only[Str.append_assoc]
theorem uO(h:isNum w=true):Fr w:=λWS=>by
 have:=(LX h).1 32 WS;omega
theorem yt(h:Nm w):Fr w:=λWS=>by
 have:=h.2.2 32 WS;omega
def DD(x:Str):List Str:=Txt.split x "\n"
def Fx(rs:List Str):Str:=Str.join "\n" rs
def Nn(l:Str):Prop:=10∉l.cps.toList
theorem U2:("\n":Str)=⟨#[10]⟩:=by decide
theorem h9(x:Str):∀w∈DD x,Nn w:=by
 unfold DD;rw[U2];exact StrLaws.split_free x 10
theorem YW(x:Str):Fx (DD x)=x:=StrLaws.join_split x "\n"
theorem eB(x:Str):DD x≠[]:=by
 unfold DD Txt.split;split
 .simp
 .split
  .simp
  .rw[ZA2];obtain⟨p,r,e⟩:=StrLaws.partsFrom_ne x ("\n":Str).length 0 (Builtin.Str.occurrences x "\n" 0 x.length (x.length+1));rw[e];simp
theorem Rw(w v:Str)(r:List Str):(Fx (w::v::r)).cps.toList=w.cps.toList++10::(Fx (v::r)).cps.toList:=by
 show(w++("\n":Str)++Str.join "\n" (v::r)).cps.toList=_;rw[U2];simp[Str.cps_append,Fx,U2]
theorem tU{a b:List Nat}:∀{p q:List Nat},10∉p->10∉q->p++10::a=q++10::b->p=q/\a=b:=by
 intro p
 induction p with
 |nil=>
  intro q _ c h;cases q with
  |nil=>exact⟨rfl,(JJ h).2⟩
  |cons y q=>exact absurd (by rw[<- (JJ h).1];simp) c
 |cons x p e=>
  intro q d c h;cases q with
  |nil=>exact absurd (by rw[(JJ h).1];simp) d
  |cons y q=>
   obtain⟨j,i⟩:=JJ h;obtain⟨g,f⟩:=e (λz=>d (by simp[z])) (λz=>c (by simp[z])) i;exact⟨by rw[j,g],f⟩
theorem mW:∀{ps qs:List Str},ps≠[]->qs≠[]->(∀w∈ps,Nn w)->(∀w∈qs,Nn w)->Fx ps=Fx qs->ps=qs:=by
 intro ps
 induction ps with
 |nil=>intro qs h;exact absurd rfl h
 |cons p ps c=>
  intro qs _ d a V1 h;cases qs with
  |nil=>exact absurd rfl d
  |cons q qs=>
   cases ps with
   |nil=>
    cases qs with
    |nil=>have h:p=q:=h;rw[h]
    |cons b qs=>
     have e:=iK (λx:Str=>x.cps.toList) h;simp only[Rw]at e;exact absurd (show 10∈p.cps.toList by rw[show p.cps.toList=_ from e];simp) (a p (by simp))
   |cons p2 ps=>
    cases qs with
    |nil=>
     have e:=iK (λx:Str=>x.cps.toList) h;simp only[Rw]at e;exact absurd (show 10∈q.cps.toList by rw[show q.cps.toList=_ from e.symm];simp) (V1 q (by simp))
    |cons b qs=>
     have e:=iK (λx:Str=>x.cps.toList) h;simp only[Rw]at e;obtain⟨g,f⟩:=tU (a p (by simp)) (V1 q (by simp)) e;rw[str_of_list g,c (qs:=b::qs) (by simp) (by simp) (λw hw=>a w (by simp[hw])) (λw hw=>V1 w (by simp[hw])) (str_of_list f)]
theorem qH(a:ws≠[])(b:∀w∈ws,Nn w):DD (Fx ws)=ws:=mW (eB _) a (h9 _) b (YW _)
theorem Yf(h1:sep.length=1):∀{ws:List Str},ws≠[]->ws.length<=(Str.join sep ws).length+1/\∀w∈ws,w.length<=(Str.join sep ws).length:=by
 intro ws
 induction ws with
 |nil=>intro h;exact absurd rfl h
 |cons a l c=>
  intro _;cases l with
  |nil=>exact⟨by simp,λw hw=>by rw[List.mem_singleton.mp hw];exact AZ _⟩
  |cons b l=>
   have i:=c (by simp);have e:(Str.join sep (a::b::l)).length=a.length+1+(Str.join sep (b::l)).length:=by
    show(a++sep++Str.join sep (b::l)).length=_;rw[Qg,Qg,h1]
   rw[e];refine⟨by have:=i.1;rw[B6];omega,λw hw=>?_⟩;rcases List.mem_cons.mp hw with rfl|hw
   .omega
   .have:=i.2 w hw;omega
theorem Jq(x:Str):(Aa x).length<=x.length+1/\∀w∈Aa x,w.length<=x.length:=by
 have:=Yf (sep:=" ") Gp (Fq x)
 rwa [show Str.join " " (Aa x)=x from JN x]at this
theorem bf(x:Str):(DD x).length<=x.length+1/\∀w∈DD x,w.length<=x.length:=by
 have:=Yf (sep:="\n") Pq (eB x)
 rwa [show Str.join "\n" (DD x)=x from YW x]at this
theorem Xi(sep:Str)(ys:List Str):(Str.join sep ys).length<=jw sep ys:=by
 cases ys with
 |nil=>exact DV _
 |cons a l=>
  rw[len_join_cons];unfold jw;have:l.length * sep.length<=(a::l).length * sep.length:=fQ _ (by rw[B6];omega);omega
def D5:List (Str×List Str):=[("put", ["name","number"]),("take", ["name"]),("move", ["name","number"]),("turn", ["number","number"]),("begin", ["name","rule"]),("tell", ["name","name"]),("over", ["name"])]
def Fp:List Str:=[("name":Str), "number","rule"]
def CU(w kd:Str):Bool:=if kd="name" then isNm w else if kd="rule" then decide (w∈Li)else isNum w
def Cq(w kd:Str):PV:=if kd="number" then .int (HM w)else .str w
def Bu(ws ks:List Str):Bool:=decide (ws.length=ks.length) && (List.zipWith CU ws ks).all id
def Ay(fs:List (Str×List Str))(x:Str):Option (List Str):=(fs.find? λf=>decide (f.1=x)).map (·.2)
def FD(fs:List (Str×List Str))(w:Str)(r:List Str):Option PV:=(Ay fs w).bind λks=>if Bu r ks=true then some (.tup (.str w::List.zipWith Cq r ks))else none
def Bm(x:Str):Option PV:=match Aa x with
 | []=>none
 |w::r=>FD D5 w r
theorem N6(h:Aa x=w::r):Bm x=FD D5 w r:=by unfold Bm;rw[h]
def BB(x:Str):List Str:=if x="-" then[]else Aa x
def Er(k:Nat)(ls:List Str):Option Nat:=match ls with
 | []=>none
 |l::r=>if 400<k∨Bm l=none then some k else Er (k+1) r
def bad(x0:Str)(ls:List Str):Option Nat:=if D0 (BB x0)=true then Er 1 ls else some 0
def C2(l:Str):PV:=(Bm l).getD .A5
def Fs(x0:Str)(ls:List Str):PV:=.tup [.lst ((BB x0).map .str),.lst (ls.map C2)]
def FX(x0:Str)(ls:List Str):PV:=match bad x0 ls with
 |some n=>.int n
 |none=>Fs x0 ls
theorem U1:∀{ls:List Str}{k i:Nat}{l:Str},ls[i]?=some l->(∀(j:Nat)b,j<i->ls[j]?=some b->¬ (400<k+j∨Bm b=none))->(400<k+i∨Bm l=none)->Er k ls=some (k+i):=by
 intro ls
 induction ls with
 |nil=>intro k i l h;simp at h
 |cons a r f=>
  intro k i l h d c;cases i with
  |zero=>
   have e:a=l:=by simpa using h
   subst e;have c:400<k∨Bm a=none:=c;show(if 400<k∨Bm a=none then some k else Er (k+1) r)=_
   rw[i6 c];rfl
  |succ i=>
   have g:¬ (400<k∨Bm a=none):=d 0 a (by omega) rfl;show(if 400<k∨Bm a=none then some k else Er (k+1) r)=_
   rw[hZ g];have:=f (k:=k+1) (i:=i) (l:=l) (by simpa using h) (λj b Zh hl z=>d (j+1) b (by omega) (by simpa using hl) (z.imp (λz=>by omega) id)) (c.imp (λz=>by omega) id)
   rw[this]
   congr 1;omega
theorem W3:∀{ls:List Str}{k:Nat},(∀(i:Nat)l,ls[i]?=some l->¬ (400<k+i∨Bm l=none))->Er k ls=none:=by
 intro ls
 induction ls with
 |nil=>intro _ _;rfl
 |cons a r b=>
  intro k h;have c:¬ (400<k∨Bm a=none):=h 0 a rfl;show(if 400<k∨Bm a=none then some k else Er (k+1) r)=_
  rw[hZ c];exact b λi l hl z=>h (i+1) l (by simpa using hl) (z.imp (λz=>by omega) id)
theorem qT{K:ZAe}(x:Str):∀(l:List (Str×Addr×List Str)),M4 K (l.map (·.2))->(FG (l.map λp=>(p.1,p.2.1)) x=none/\Ay (l.map λp=>(p.1,p.2.2)) x=none)∨
  ∃b ks,FG (l.map λp=>(p.1,p.2.1)) x=some b/\Ay (l.map λp=>(p.1,p.2.2)) x=some ks/\Et K b (ks.map .str)/\ks∈l.map (·.2.2):=by
 intro l
 induction l with
 |nil=>intro _;exact .inl ⟨rfl,rfl⟩
 |cons p r a=>
  intro T;unfold FG Ay at a ⊢;rw[Cn,Cn,GP,GP]
  by_cases e:p.1=x
  .rw[gS e];refine .inr ⟨p.2.1,p.2.2,rfl,rfl,Et.of T.1 (by rw[CL];rfl) (by rw[NV];exact List.all_eq_true.mpr λ_ _=>rfl),by simp⟩
  .rw[j5 e];rcases a T.2 with h|⟨b,ks,h1,h2,h3,h4⟩
   .exact .inl h
   .exact .inr ⟨b,ks,h1,h2,h3,by rw[Cn];exact By _ h4⟩
theorem ni{K:ZAe}{h g f e d c a:Addr}(T:M4 K [(h,["name","number"]),(g,["name"]),(f,["name","number"]),(e,["number","number"]),(d,["name","rule"]),(c,["name","name"]),(a,["name"])])(x:Str):(FG [("put", h),("take", g),("move", f),("turn", e),("begin", d),("tell", c),("over", a)] x=none/\Ay D5 x=none)∨
  ∃b ks,FG [("put", h),("take", g),("move", f),("turn", e),("begin", d),("tell", c),("over", a)] x=some b/\Ay D5 x=some ks/\Et K b (ks.map .str)/\ks∈D5.map (·.2):=qT x [("put", h,["name","number"]),("take", g,["name"]),("move", f,["name","number"]),("turn", e,["number","number"]),("begin", d,["name","rule"]),("tell", c,["name","name"]),("over", a,["name"])] T
theorem ZQ:∀ks∈D5.map (·.2),ks.length<=2/\∀k∈ks,k∈Fp:=by decide
def ML(C:Addr)(n:Nat):Ex:=⟨C,["line"],[.int n]⟩
def P9(x:Str):Prop:=x.length<=90000/\∀l∈DD x,l.length<=900
def Tv:Pre:=λl R=>∃w kd:Str,l=[.is (.str w),.is (.str kd)]/\w.length<=1000/\kd∈Fp/\R=.is λp=>p=.bl (CU w kd)
def Rp(K:ZAe):Pre:=λl R=>∃(ws ks:List Str)(a:Addr),l=[.sq false (ws.map .str),.is (.con a (ks.map .str))]/\Et K a (ks.map .str)/\ws.length<=1000/\ks.length<=2/\(∀w∈ws,w.length<=1000)/\(∀k∈ks,k∈Fp)/\R=.is λp=>p=.bl (Bu ws ks)
def Uk(K:ZAe):Pre:=λl R=>∃(ws ks:List Str)(a:Addr),l=[.sq false (ws.map .str),.is (.con a (ks.map .str))]/\Et K a (ks.map .str)/\ws.length<=1000/\(∀k∈ks,k∈Fp)/\Bu ws ks=true/\R=.new λxs=>xs=List.zipWith Cq ws ks
def U0(C:Addr):HC:=λl R D=>∃x:Str,l=[.is (.str x)]/\x.length<=900/\(R=.new λxs=>xs=(BB x).map .str/\D0 (BB x)=true)/\D=λe=>e=ML C 0/\D0 (BB x)=false
def R5(C:Addr):HC:=λl R D=>∃(x:Str)(n:Nat),l=[.is (.str x),.is (.int n)]/\x.length<=900/\n<=100000/\(R=.is λp=>p=C2 x/\¬ (400<n∨Bm x=none))/\D=λe=>e=ML C n/\(400<n∨Bm x=none)
def RY(C:Addr):HC:=λl R D=>∃(x x0:Str)(ls:List Str),l=[.is (.str x)]/\P9 x/\DD x=x0::ls/\(R=.is λp=>p=Fs x0 ls/\bad x0 ls=none)/\D=λe=>∃n,e=ML C n/\bad x0 ls=some n
def W7(C:Addr):Pre:=λl R=>∃(x x0:Str)(ls:List Str),l=[.is (.str x)]/\P9 x/\DD x=x0::ls/\R=.is λp=>(p=Fs x0 ls/\bad x0 ls=none)∨∃n:Nat,p=.exc C ["line"] [.int n]/\bad x0 ls=some n
def DZ(s w:Str):Bool:=if s="a" then isNum w else if s="r" then decide (w∈Li)else isNm w
def Fb(s w:Str):PV:=if s="a" then .int (HM w)else .str w
def VY:Pre:=λl R=>∃s w:Str,l=[.is (.str s),.is (.str w)]/\w.length<=1000/\R=.is λp=>p=.bl (DZ s w)
def CM(z:Str):List Str:=z.cps.toList.map λc=>⟨#[c]⟩
def SV:Pre:=λl R=>∃(z:Str)(ws:List Str),l=[.is (.str z),.sq false (ws.map .str)]/\z.cps.all (· < 128)=true/\z.length<=2/\ws.length<=1000/\(List.zipWith DZ (CM z) ws).all id=true/\R=.new λxs=>xs=List.zipWith Fb (CM z) ws
def Ql:Pre:=λl R=>∃x:Str,l=[.is (.str x)]/\x.length<=900/\R=.is λp=>p=C2 x
def Vp:Pre:=λl R=>∃(x x0:Str)(ls:List Str),l=[.is (.str x)]/\P9 x/\DD x=x0::ls/\R=.is λp=>p=FX x0 ls
def bX:PV->PV
 | .tup [.str w,.str k]=>.bl (CU w k)
 |_=>.A5
theorem xZ:∀(ws ks:List Str),(DL (ws.map .str) (ks.map .str)).map bX=(List.zipWith CU ws ks).map .bl:=by
 intro ws
 induction ws with
 |nil=>intro ks;rfl
 |cons w ws a=>
  intro ks;cases ks with
  |nil=>rfl
  |cons k ks=>exact iK (PV.bl (CU w k) :: ·) (a ks)
theorem kS:∀(ws ks:List Str),(DL (ws.map .str) (ks.map .str)).map Yz=List.zipWith Cq ws ks:=by
 intro ws
 induction ws with
 |nil=>intro ks;rfl
 |cons w ws a=>
  intro ks;cases ks with
  |nil=>rfl
  |cons k ks=>exact iK (Cq w k :: ·) (a ks)
theorem gK(b:∀k∈ks,k∈Fp)(a:Bu ws ks=true){x:PV}(hx:x∈DL (ws.map .str) (ks.map .str)):∃w kd:Str,x=.tup [.str w,.str kd]/\kd∈Fp/\(kd="number" -> isNum w=true):=by
 unfold Bu at a;replace a:=(Bool.and_eq_true_iff.mp a).2
 induction ws generalizing ks with
 |nil=>cases hx
 |cons w ws c=>
  cases ks with
  |nil=>cases hx
  |cons k ks=>
   have h2:(CU w k && (List.zipWith CU ws ks).all id)=true:=a;have h2:=Bool.and_eq_true_iff.mp h2;have hx:x∈PV.tup [.str w,.str k]::DL (ws.map .str) (ks.map .str):=hx;rcases List.mem_cons.mp hx with rfl|hx
   .refine⟨w,k,rfl,b k (by simp),λe=>?_⟩;subst e;exact h2.1
   .exact c (λk ME=>b k (By _ ME)) hx h2.2
def bc:PV->PV
 | .tup [_,.str l]=>C2 l
 |_=>.A5
theorem jh(ls:List Str):(IQ (ls.map PV.str)).map bc=ls.map C2:=by
 refine fB λi=>?_;rw[B3,B3];cases h:ls[i]? with
 |some l=>rw[Vf (x:=.str l) (by rw[B3,h];rfl)];rfl
 |none=>rw[fE (by rw[LI,AH];exact List.getElem?_eq_none_iff.mp h)];rfl
theorem uw(h:(DL (GG z) (ws.map .str))[i]?=some p):∃s u:Str,p=.tup [.str s,.str u]/\(CM z)[i]?=some s/\ws[i]?=some u:=by
 unfold DL GG at h;rw[Kc]at h;unfold CM;rw[B3,B3]at h;rw[B3];cases h1:z.cps.toList[i]? with
 |none=>rw[h1]at h;cases h
 |some c=>
  rw[h1]at h;cases h2:ws[i]? with
  |none=>rw[h2]at h;cases h
  |some u=>
   rw[h2]at h;exact⟨⟨#[c]⟩,u,(B4 h).symm,rfl,rfl⟩
theorem YN(c:(CM z)[i]?=some s)(b:ws[i]?=some u):(List.zipWith Fb (CM z) ws).take (i+1)=(List.zipWith Fb (CM z) ws).take i++[Fb s u]:=by
 have h:(List.zipWith Fb (CM z) ws)[i]?=some (Fb s u):=by rw[Kc,c,b]
 have hi:=(List.getElem?_eq_some_iff.mp h).1;have a:=(List.getElem?_eq_some_iff.mp h).2;rw[Lq hi,a]
theorem fm(a:(List.zipWith DZ (CM z) ws).all id=true)(c:(CM z)[i]?=some s)(b:ws[i]?=some u):DZ s u=true:=by
 have h:(List.zipWith DZ (CM z) ws)[i]?=some (DZ s u):=by rw[Kc,c,b]
 exact List.all_eq_true.mp a _ (DJ h)
def L4(kd:Str):Str:=if kd="name" then "n" else if kd="rule" then "r" else "a"
def Z6:List Str:=[("put na":Str), "take n","move na","turn aa","begin nr","tell nn","over n"]
theorem dR:∀f∈D5,Ay D5 f.1=some f.2:=by decide
theorem oQ:∀i,i<7->∃a nm z ks,Z6[i]?=some a/\D5[i]?=some (nm,ks)/\Aa a=[nm,z]/\a.length<=10/\CM z=ks.map L4/\z.cps.all (· < 128)=true/\z.length<=2:=by
 intro i hi;have:i=0∨i=1∨i=2∨i=3∨i=4∨i=5∨i=6:=by omega
 have js:∀nm z:Str,Fr nm->Fr z->Aa (jn [nm,z])=[nm,z]:=λnm z h1 h2=>Ls (by simp) λw hw=>by
  rcases List.mem_cons.mp hw with rfl|hw
  .exact h1
  .rw[List.mem_singleton.mp hw];exact h2
 have d:∀(a nm z:Str),jn [nm,z]=a->Fr nm->Fr z->Aa a=[nm,z]:=λa nm z e h1 h2=>by rw[<- e];exact js nm z h1 h2
 rcases this with rfl|rfl|rfl|rfl|rfl|rfl|rfl
 .exact⟨_,_, "na", _,rfl,rfl,d _ "put" _ (by decide) (by unfold Fr;decide) (by unfold Fr;decide),by decide,by decide,by decide +kernel,by decide⟩
 .exact⟨_,_, "n", _,rfl,rfl,d _ "take" _ (by decide) (by unfold Fr;decide) (by unfold Fr;decide),by decide,by decide,by decide +kernel,by decide⟩
 .exact⟨_,_, "na", _,rfl,rfl,d _ "move" _ (by decide) (by unfold Fr;decide) (by unfold Fr;decide),by decide,by decide,by decide +kernel,by decide⟩
 .exact⟨_,_, "aa", _,rfl,rfl,d _ "turn" _ (by decide) (by unfold Fr;decide) (by unfold Fr;decide),by decide,by decide,by decide +kernel,by decide⟩
 .exact⟨_,_, "nr", _,rfl,rfl,d _ "begin" _ (by decide) (by unfold Fr;decide) (by unfold Fr;decide),by decide,by decide,by decide +kernel,by decide⟩
 .exact⟨_,_, "nn", _,rfl,rfl,d _ "tell" _ (by decide) (by unfold Fr;decide) (by unfold Fr;decide),by decide,by decide,by decide +kernel,by decide⟩
 .exact⟨_,_, "n", _,rfl,rfl,d _ "over" _ (by decide) (by unfold Fr;decide) (by unfold Fr;decide),by decide,by decide,by decide +kernel,by decide⟩
theorem rZ(h:(Z6.map PV.str)[i]?=some p):∃a nm z ks,p=.str a/\D5[i]?=some (nm,ks)/\Txt.split a " "=[nm,z]/\a.length<=10/\CM z=ks.map L4/\z.cps.all (· < 128)=true/\z.length<=2/\∀k∈ks,k∈Fp:=by
 have hi:i<7:=by have:=(List.getElem?_eq_some_iff.mp h).1;rw[AH]at this;exact this
 obtain⟨a,nm,z,ks,h1,h2,f,e,d,c,b⟩:=oQ i hi;rw[B3,h1]at h;exact⟨a,nm,z,ks,(B4 h).symm,h2,f,e,d,c,b,(ZQ ks (List.mem_map.mpr ⟨_,DJ h2,rfl⟩)).2⟩
theorem mD(h:kd∈Fp)(u:Str):DZ (L4 kd) u=CU u kd/\Fb (L4 kd) u=Cq u kd:=by
 have h:kd="name" ∨kd="number" ∨kd="rule" := by
  simpa only[Fp,Dn,Bg,m9]using h
 rcases h with rfl|rfl|rfl <;> exact⟨rfl,rfl⟩
theorem uq(a:∀k∈ks,k∈Fp):∀ws:List Str,List.zipWith DZ (ks.map L4) ws=List.zipWith CU ws ks/\List.zipWith Fb (ks.map L4) ws=List.zipWith Cq ws ks:=by
 induction ks with
 |nil=>intro ws;cases ws <;> exact⟨rfl,rfl⟩
 |cons k ks b=>
  intro ws;cases ws with
  |nil=>exact⟨rfl,rfl⟩
  |cons u ws=>
   have i:=b (λx hx=>a x (By _ hx)) ws;have s:=mD (a k (by simp)) u;rw[Cn,Wu,Wu,Wu,Wu,i.1,i.2,s.1,s.2];exact⟨rfl,rfl⟩
theorem xx{fs:List (Str×List Str)}(h:∀(j:Nat)f,fs[j]?=some f->¬ (f.1=u/\Bu r f.2=true)):FD fs u r=none:=by
 unfold FD Ay;cases e:fs.find? (λf=>decide (f.1=u))with
 |none=>rfl
 |some f=>
  obtain⟨j,a⟩:=List.mem_iff_getElem?.mp (List.mem_of_find?_eq_some e);have b:f.1=u:=by have:=List.find?_some e;exact gP this
  show(if Bu r f.2=true then _ else none)=none
  rw[hZ λz=>h j f a ⟨b,z⟩]
theorem ZO(h:Ay D5 u=some ks)(a:Bu r ks=true):FD D5 u r=some (.tup (.str u::List.zipWith Cq r ks)):=by
 unfold FD;rw[h];show(if Bu r ks=true then _ else none)=_
 rw[i6 a]
theorem dE(z:Str):GG z=(CM z).map .str:=by unfold GG CM;rw[CL];rfl
def V4:PV->PV
 | .tup [.str s,.str w]=>.bl (DZ s w)
 |_=>.A5
theorem wm:∀(ls ws:List Str),(DL (ls.map .str) (ws.map .str)).map V4=(List.zipWith DZ ls ws).map .bl:=by
 intro ls
 induction ls with
 |nil=>intro ws;rfl
 |cons s ls a=>
  intro ws;cases ws with
  |nil=>rfl
  |cons u ws=>exact iK (PV.bl (DZ s u) :: ·) (a ws)
theorem nW(z:Str)(ws:List Str):(DL (GG z) (ws.map .str)).map V4=(List.zipWith DZ (CM z) ws).map .bl:=by rw[dE];exact wm _ _
theorem rw_no{ss:List Str}(h:¬ (ss.length<=40/\(dd ss).length=ss.length/\ss.all isNm=true)):D0 ss=false:=by
 cases e:D0 ss with
 |false=>rfl
 |true=>
  exfalso;unfold D0 at e;simp only[DT,kz]at e;obtain⟨c,b,a⟩:=e;injection a with a
  exact h ⟨by omega,by omega,b⟩
theorem rw_yes{ss:List Str}(h1:ss.length<=40)(h2:(dd ss).length=ss.length)(a:ss.all isNm=true):D0 ss=true:=by
 unfold D0;rw[gS (by omega),a,h2,gS rfl];rfl
theorem si{fs:List (Str×List Str)}(h:FD fs u r=some q):∃ys,q=.tup ys:=by
 unfold FD at h;cases e:Ay fs u with
 |none=>rw[e]at h;cases h
 |some ks=>
  rw[e]at h;have h:(if Bu r ks=true then some (PV.tup (.str u::List.zipWith Cq r ks))else none)=some q:=h
  by_cases c:Bu r ks=true
  .rw[i6 c]at h;exact⟨_,(B4 h).symm⟩
  .rw[hZ c]at h;cases h
theorem Zr(h:Bm l=some q):∃ys,q=.tup ys:=by
 cases e:Aa l with
 |nil=>exact absurd e (Fq l)
 |cons u r=>rw[N6 e]at h;exact si h
theorem sC(K:ZAe):PySem.W.kitOne K (.type "int") (.type "tuple")=some false:=by
 rfl
def UX(K:ZAe)(cs:List Addr)(S C:Addr):Pre:=λl R=>∃(f d:PV),l=[.is f,.is d]/\((∃n:Nat,d=.int n/\f=.exc C ["line"] [.int n]/\Rh K cs S C 8/\cs.length=16/\ExGet K C/\PySem.W.hasDictIn K C=true/\Rt K C "line")∨
 ∃(ns:List Str)(es:List (List PV)),d=.tup [.lst (ns.map .str),.lst (es.map .tup)]/\f=d/\ns.length<=1000/\es.length<=100000/\dat K 40 d)/\R=.is λp=>p=.bl true
theorem GV(s:Str)(a b:List Str):jw s (a++b)=jw s a+jw s b:=by
 unfold jw;rw[En,List.sum_append,Cm,fM];omega
theorem ba(s w:Str):jw s [w]=w.length+s.length:=by
 unfold jw;simp
theorem PN(s w:Str)(a:List Str):jw s (w::a)=w.length+s.length+jw s a:=by
 rw[show w::a=[w]++a from rfl,GV,ba]
theorem K6(s:Str)(ws:List Str)(i:Nat):jw s (ws.take i)+jw s (ws.drop i)=jw s ws:=by rw[<- GV,zd]
theorem Py(s:Str)(ws:List Str)(i:Nat):jw s (ws.drop (i+1))<=jw s (ws.drop i):=by
 have:=K6 s (ws.drop i) 1;rw[List.drop_drop]at this;omega
theorem r8(h:s.length=1)(ws:List Str):ws.length<=jw s ws:=by
 unfold jw;rw[h];omega
theorem YZ:∀{ws:List Str},c∈(jn ws).cps.toList↔(∃w∈ws,c∈w.cps.toList)∨(c=32/\2<=ws.length):=by
 intro ws
 induction ws with
 |nil=>
  refine⟨λh=>(by cases h),λh=>?_⟩;rcases h with⟨w,h,_⟩|⟨_,h⟩
  .cases h
  .simp at h
 |cons a r d=>
  cases r with
  |nil=>exact⟨λh=>.inl ⟨a,by simp,h⟩,λh=>by rcases h with⟨w,h,q⟩|⟨_,h⟩;(rw[List.mem_singleton.mp h]at q;exact q);simp at h⟩
  |cons b r=>
   rw[PY,fK,Dn,d];constructor
   .rintro(h|rfl|⟨w,h,q⟩|⟨rfl,_⟩)
    .exact .inl ⟨a,by simp,h⟩
    .exact .inr ⟨rfl,by simp⟩
    .exact .inl ⟨w,By _ h,q⟩
    .exact .inr ⟨rfl,by simp⟩
   .rintro(⟨w,h,q⟩|⟨rfl,_⟩)
    .rcases List.mem_cons.mp h with rfl|h
     .exact .inl q
     .exact .inr (.inr (.inl ⟨w,h,q⟩))
    .exact .inr (.inl rfl)
theorem xh(h:Nn x):∀w∈Aa x,Nn w:=λw hw z=>h (by rw[<- JN x];exact YZ.mpr (.inl ⟨w,hw,z⟩))
theorem iO(h:∀w∈ws,Nn w):Nn (jn ws):=λz=>by
 rcases YZ.mp z with⟨w,hw,q⟩|⟨e,_⟩
 .exact h w hw q
 .cases e
theorem iE(x:Str):jw " " (Aa x)=x.length+1:=by
 have e:(Str.join " " (Aa x)).length=x.length:=by rw[show Str.join " " (Aa x)=x from JN x]
 cases h:Aa x with
 |nil=>exact absurd h (Fq x)
 |cons a l=>
  rw[h,len_join_cons]at e;unfold jw;rw[Gp]at e ⊢;rw[B6];omega
def Ba(w:Str):Prop:=Nn w/\Fr w/\w.length<=61
def WL(L:Nat)(ws:List Str):Prop:=(∀w∈ws,Ba w)/\jw " " ws<=L
theorem WL.up(h:WL L ws)(l:L<=M):WL M ws:=⟨h.1,Ax h.2 l⟩
theorem WL.ins{L:Nat}{ws:List Str}{w:Str}(i:Nat)(h:WL L ws)(n:Ba w):WL (L+62) (ws.take i++w::ws.drop i):=by
 refine⟨λv a=>?_,?_⟩
 .rcases List.mem_append.mp a with a|a
  .exact h.1 v (QU a)
  .rcases List.mem_cons.mp a with rfl|a
   .exact n
   .exact h.1 v (QR a)
 .rw[GV,PN];have:=K6 " " ws i;have:=h.2;have:=n.2.2;rw[Gp];omega
theorem WL.rep(i:Nat)(h:WL L ws)(n:Ba w):WL (L+62) (ws.take i++[w]++ws.drop (i+1)):=by
 refine⟨λv a=>?_,?_⟩
 .rcases List.mem_append.mp a with a|a
  .rcases List.mem_append.mp a with a|a
   .exact h.1 v (QU a)
   .rw[List.mem_singleton.mp a];exact n
  .exact h.1 v (QR a)
 .rw[GV,GV,ba];have:=K6 " " ws i;have:=Py " " ws i;have:=h.2;have:=n.2.2;rw[Gp];omega
theorem WL.del(i:Nat)(h:WL L ws):WL L (ws.take i++ws.drop (i+1)):=by
 refine⟨λv a=>?_,?_⟩
 .rcases List.mem_append.mp a with a|a
  .exact h.1 v (QU a)
  .exact h.1 v (QR a)
 .rw[GV];have:=K6 " " ws i;have:=Py " " ws i;have:=h.2;omega
def Dq(x:Str):Prop:=Nn x/\∀w∈Aa x,w.length<=61
theorem Dq.words(h:Dq x):WL (x.length+1) (Aa x):=⟨λw hw=>⟨xh h.1 w hw,Zo x w hw,h.2 w hw⟩,fN (iE x)⟩
theorem G5(h:∀w∈ws,Ba w):Dq (jn ws):=by
 refine⟨iO λw hw=>(h w hw).1,λw hw=>?_⟩
 by_cases e:ws=[]
 .subst e;have:=(Jq (jn [])).2 w hw;exact Ax this (by decide)
 .rw[Ls e λw hw=>(h w hw).2.1]at hw;exact(h w hw).2.2
theorem Q4(ws:List Str):(jn ws).length<=jw " " ws:=Xi " " ws
def HJ:List Str:=[("":Str), "A","abcdefghi","a","ab","-1","01","00","0", Txt.mul "7" 60,Txt.mul "7" 61, "al","all","-","put","a1"]
theorem p0:∀w∈HJ,Ba w:=by
 unfold Ba Nn Fr;decide +kernel
def Vk:Pre:=λl R=>∃x:Str,l=[.AQ,.is (.str x)]/\Dq x/\x.length<=800/\R=.is λp=>∃y:Str,p=.str y/\Dq y/\y.length<=x.length+63
theorem WL.out(h:WL L ws):Dq (jn ws)/\(jn ws).length<=L:=⟨G5 h.1,Ax (Q4 ws) h.2⟩
theorem uV(h:Dq x){r:Nat}(f:[PV.str (x++(" ":Str)),.str ((" ":Str)++x),.str "", .str "-", .str (x++(" -":Str))][r]?=some p):∃y:Str,p=.str y/\Dq y/\y.length<=x.length+63:=by
 have d:=DJ f;have c:Ba "" := by unfold Ba Nn Fr;decide
 have b:Ba "-" := by unfold Ba Nn Fr;decide
 have a:=h.words;have two:∀{ws:List Str}{v:Str},(∀w∈ws,Ba w)->Ba v->∀w∈ws++[v],Ba w:=λh1 h2 w hw=>by
  rcases List.mem_append.mp hw with hw|hw
  .exact h1 w hw
  .rw[List.mem_singleton.mp hw];exact h2
 simp only[Dn,Bg,m9]at d;rcases d with rfl|rfl|rfl|rfl|rfl
 .have e:x++(" ":Str)=jn (Aa x++[("":Str)]):=by
   rw[W8 "" (Fq x),JN];exact(Str.append_empty _).symm
  refine⟨_,rfl,by rw[e];exact G5 (two a.1 c),by rw[Qg];show _+1<=_;omega⟩
 .have e:(" ":Str)++x=jn (("":Str)::Aa x):=by
   rw[TZ (Fq x),JN];exact iK (·++x) (Str.empty_append _).symm
  refine⟨_,rfl,by rw[e];exact G5 λw hw=>(List.mem_cons.mp hw).elim (λz=>z▸c) (a.1 w),by rw[Qg];show 1+_<=_;omega⟩
 .exact⟨_,rfl,G5 (ws:=[]) (λw hw=>by cases hw),DV _⟩
 .exact⟨_,rfl,G5 (ws:=["-"]) (λw hw=>by rw[List.mem_singleton.mp hw];exact b),by show 1<=_;omega⟩
 .have e:x++(" -":Str)=jn (Aa x++[("-":Str)]):=by
   rw[W8 "-" (Fq x),JN,Str.append_assoc];rfl
  refine⟨_,rfl,by rw[e];exact G5 (two a.1 b),by rw[Qg];show _+2<=_;omega⟩
structure RW (M T N:Nat) (rows:List Str):Prop where
 ne:rows≠[]
 row:∀l∈rows,Dq l/\l.length<=M
 K9:jw "\n" rows<=T
 cnt:rows.length<=N
theorem RW.up{M' T' N':Nat}(h:RW M T N rows)(a:M<=M')(b:T<=T')(c:N<=N'):RW M' T' N' rows:=⟨h.ne,λl hl=>⟨(h.row l hl).1,Ax (h.row l hl).2 a⟩,Ax h.K9 b,Ax h.cnt c⟩
theorem RW.pos(h:RW M T N rows):0<rows.length:=List.length_pos_iff.mpr h.ne
theorem RW.set(i:Nat)(h:RW M T N rows)(a:Dq y/\y.length<=M):RW M (T+(M+1)) N (rows.set i y):=by
 refine⟨λz=>h.ne (by have:=iK List.length z;rw[Hv]at this;exact List.length_eq_zero_iff.mp this),λl hl=>?_,?_,by rw[Hv];exact h.cnt⟩
 .rcases List.mem_or_eq_of_mem_set hl with hl|rfl
  .exact h.row l hl
  .exact a
 .rw[List.set_eq_take_append_cons_drop];split
  .rw[GV,PN];have:=K6 "\n" rows i;have:=Py "\n" rows i;have:=h.K9;have:=a.2;rw[Pq];omega
  .have:=h.K9;omega
theorem RW.erase(i:Nat)(h:RW M T N rows)(h2:2<=rows.length):RW M T N (rows.eraseIdx i):=by
 have hl:=List.length_eraseIdx_le rows i;refine⟨λz=>?_,λl hl=>h.row l (List.mem_of_mem_eraseIdx hl),?_,by have:=h.cnt;omega⟩
 .have e:(rows.eraseIdx i).length=if i<rows.length then rows.length - 1 else rows.length:=List.length_eraseIdx ..
  rw[z,Wk]at e;split at e <;> omega
 .rw[fA,GV];have:=K6 "\n" rows i;have:=Py "\n" rows i;have:=h.K9;omega
theorem RW.ins{M T N:Nat}{rows:List Str}{y:Str}(i:Nat)(h:RW M T N rows)(a:Dq y/\y.length<=M):RW M (T+(M+1)) (N+1) (rows.take i++y::rows.drop i):=by
 refine⟨by simp,λl hl=>?_,?_,?_⟩
 .rcases List.mem_append.mp hl with hl|hl
  .exact h.row l (QU hl)
  .rcases List.mem_cons.mp hl with rfl|hl
   .exact a
   .exact h.row l (QR hl)
 .rw[GV,PN];have:=K6 "\n" rows i;have:=h.K9;have:=a.2;rw[Pq];omega
 .have:=iK List.length (zd i rows);rw[Cm]at this;have:=h.cnt;rw[Cm,B6];omega
theorem kf(s w:Str)(n:Nat):jw s (List.replicate n w)=n * (w.length+s.length):=by
 induction n with
 |zero=>simp[jw]
 |succ n a=>rw[Hw,PN,a,fM];omega
theorem RW.app(h:RW M T N rows)(b:6<=M)(a:rows.length+n<=N)(c:n<=404):RW M (T+2828) N (rows++List.replicate n ("over a":Str)):=by
 refine⟨by simp[h.ne],λl hl=>?_,?_,?_⟩
 .rcases List.mem_append.mp hl with hl|hl
  .exact h.row l hl
  .rw[List.eq_of_mem_replicate hl];refine⟨G5 (ws:=[("over":Str), "a"]) λw hw=>?_,b⟩;rcases List.mem_cons.mp hw with rfl|hw
   .unfold Ba Nn Fr;decide
   .rw[List.mem_singleton.mp hw];unfold Ba Nn Fr;decide
 .rw[GV,kf];have:=h.K9;show _+n * (6+1)<=_;omega
 .rw[Cm,QP];exact a
abbrev FY(k:Nat)(rows:List Str):Prop:=RW (600+63 * k) (20000+5000 * k) (410+k) rows
def Uw:Pre:=λl R=>∃(k:Nat)(rows:List Str),l=[.AQ,.sq false (rows.map .str)]/\FY k rows/\k<3/\R=.new λxs=>∃rs:List Str,xs=rs.map .str/\FY (k+1) rs
theorem QC(h:Nm w):Ba w:=⟨λz=>by have:=h.2.2 10 z;omega,yt h,by have:=h.2.1;omega⟩
theorem Q0:(rows.map PV.str).set i (.str y)=(rows.set i y).map .str:=by rw[List.map_set]
theorem ra(rows:List Str)(i:Nat):(rows.map PV.str).eraseIdx i=(rows.eraseIdx i).map .str:=by
 rw[fA,fA,En,NZ,NY]
theorem Z8(n:Nat):(List.replicate n [PV.str "over a"]).flatten=(List.replicate n ("over a":Str)).map .str:=by
 induction n with
 |zero=>rfl
 |succ n a=>rw[Hw,Hw,Lo,Cn,a];rfl
section
variable[Xw]
theorem oa(h:Wp ss te λp=>∃n:Nat,p=.int n/\n<26 ^ 8/\k (.str (C0 (MA.lets n)))):Wp ss (EE Oi [] E0 (Ab te B0)) k:=⟨λE Z F H Q S q=>
 h.go E Z F H _ S λv p F1 H1 a r A6=>by
  obtain⟨n,e,b,kk⟩:=A6;subst e;cases r.inv;exact⟨(n:Int),rfl,zO n,Int.ofNat_lt.mpr b,q _ _ F1 H1 a (.str _) kk⟩⟩
end
def Gh(n:Nat):List Str:=(List.range n).map λi=>C0 (MA.lets i)
theorem cQ(h:n<=41):∀w∈Gh n,Nm w:=λw hw=>by
 obtain⟨i,hi,rfl⟩:=List.mem_map.mp hw;have:=List.mem_range.mp hi;exact Nl (C4 (C4 this h) (by decide))
theorem YO(h:n<=41):jw " " (Gh n)<=369:=Ax (LC (n:=41) (c:=8) (λy a=>(cQ h y a).2.1) (by unfold Gh;rw[AH,fH];exact h)) (by rw[Gp];decide)
theorem kT(h:n<=41):Dq (Txt.join " " (Gh n))/\(Txt.join " " (Gh n)).length<=600:=by
 rw[show Txt.join " " (Gh n)=jn (Gh n)from Qh " " _];exact⟨G5 λw hw=>QC (cQ h w hw),Ax (Q4 _) (Ax (YO h) (by decide))⟩
structure j7 (xs:List PV) (nm:Str) (ws ks:List Str):Prop where
 jf:(nm,ks)∈D5
 fit:Bu ws ks=true
 val:xs=.str nm::List.zipWith Cq ws ks
 str:xs.map Gm=nm::ws
 ok:∀w∈nm::ws,Ba w
 len:ws.length<=2
def GN(xs:List PV):Prop:=∃nm ws ks,j7 xs nm ws ks
theorem jL{r:Nat}(h:r<3):∃x:Str,x∈Li/\L2.BA [PV.str "none", .str "ahead", .str "all"] (r:Int)=some (.str x):=by
 have:r=0∨r=1∨r=2:=by omega
 rcases this with rfl|rfl|rfl
 .exact⟨"none", by decide,rfl⟩
 .exact⟨"ahead", by decide,rfl⟩
 .exact⟨"all", by decide,rfl⟩
theorem YQ(h:n<10 ^ 60):Ba (toString (n:Int):Str):=by
 obtain⟨h1,_⟩:=Ol h;have f:=LX h1;exact⟨λz=>by have:=f.1 10 z;omega,uO h1,by have:=f.2.2.1;omega⟩
theorem i7:∀r∈Li,Ba r:=by unfold Ba Nn Fr;decide
theorem Ys:∀f∈D5,Ba f.1:=by unfold Ba Nn Fr;decide
theorem Y0(h:n<10 ^ 60):Cq (toString (n:Int):Str) "number" = .int n:=by
 show PV.int (HM _)=_;rw[(Ol h).2]
theorem gZ{nm n e:Str}{one two:Nat}(O1:Nm nm)(P1:Nm n)(h1:one<10 ^ 60)(h2:two<10 ^ 60)(Pb:e∈Li)(t:p∈[PV.tup [.str "put", .str nm,.int one],.tup [.str "take", .str nm],.tup [.str "move", .str nm,.int one],.tup [.str "turn", .int one,.int two],.tup [.str "begin", .str nm,.str e],.tup [.str "tell", .str nm,.str n],.tup [.str "over", .str nm]]):∃xs,GN xs/\p=.tup xs:=by
 have I:=Sz O1;have H:=Sz P1;have C:=(Ol h1).1;have B:=(Ol h2).1;have q:=Y0 h1;have A:=Y0 h2;have c:=QC O1;have z:=QC P1;have o:=YQ h1;have y:=YQ h2;have x:=i7 e Pb;have v:∀{f:Str}{ks:List Str}{a:Str},(f,ks)∈D5->Ba a->∀w∈[f,a],Ba w:=λ{f ks a}r ha w hw=>by
  rcases List.mem_cons.mp hw with rfl|hw
  .exact Ys _ r
  .rw[List.mem_singleton.mp hw];exact ha
 have j:∀{f:Str}{ks:List Str}{a b:Str},(f,ks)∈D5->Ba a->Ba b->∀w∈[f,a,b],Ba w:=λ{f ks a b}r ha D w hw=>by
  rcases List.mem_cons.mp hw with rfl|hw
  .exact Ys _ r
  .rcases List.mem_cons.mp hw with rfl|hw
   .exact ha
   .rw[List.mem_singleton.mp hw];exact D
 have d:CU nm "name"=true:=I;have G:CU n "name"=true:=H;have s:CU (toString (one:Int):Str) "number"=true:=C;have F:CU (toString (two:Int):Str) "number"=true:=B;have E:CU e "rule"=true:=gS Pb;have u:∀{a k:Str},CU a k=true->Bu [a] [k]=true:=λ{a k}h=>by
  show(decide (1=1) && (CU a k && true))=true;rw[h];rfl
 have g:∀{a b k l:Str},CU a k=true->CU b l=true->Bu [a,b] [k,l]=true:=λ{a b k l}h h'=>by
  show(decide (2=2) && (CU a k && (CU b l && true)))=true;rw[h,h'];rfl
 have m:∀i f,D5[i]?=some f->f∈D5:=λi f h=>DJ h;simp only[Dn,Bg,m9]at t;rcases t with rfl|rfl|rfl|rfl|rfl|rfl|rfl
 .exact⟨_,⟨_,[nm,toString (one:Int)],_,m 0 _ rfl,g d s,by show _=[PV.str _,Cq nm "name", Cq _ "number"];rw[q];rfl,rfl,j (m 0 _ rfl) c o,by simp⟩,rfl⟩
 .exact⟨_,⟨_,[nm],_,m 1 _ rfl,u d,rfl,rfl,v (m 1 _ rfl) c,by simp⟩,rfl⟩
 .exact⟨_,⟨_,[nm,toString (one:Int)],_,m 2 _ rfl,g d s,by show _=[PV.str _,Cq nm "name", Cq _ "number"];rw[q];rfl,rfl,j (m 2 _ rfl) c o,by simp⟩,rfl⟩
 .exact⟨_,⟨_,[toString (one:Int),toString (two:Int)],_,m 3 _ rfl,g s F,by show _=[PV.str _,Cq _ "number", Cq _ "number"];rw[q,A],rfl,j (m 3 _ rfl) o y,by simp⟩,rfl⟩
 .exact⟨_,⟨_,[nm,e],_,m 4 _ rfl,g d E,rfl,rfl,j (m 4 _ rfl) c x,by simp⟩,rfl⟩
 .exact⟨_,⟨_,[nm,n],_,m 5 _ rfl,g d G,rfl,rfl,j (m 5 _ rfl) c z,by simp⟩,rfl⟩
 .exact⟨_,⟨_,[nm],_,m 6 _ rfl,u d,rfl,rfl,v (m 6 _ rfl) c,by simp⟩,rfl⟩
def VB:Pre:=λl R=>∃ns:List Str,l=[.AQ,.sq false (ns.map .str)]/\ns.length<=100/\(∀x∈ns,Nm x)/\R=.is λp=>∃xs,GN xs/\p=.tup xs
theorem GN.text(h:GN xs):Dq (E4 xs)/\(E4 xs).length<=600/\Bm (E4 xs)=some (.tup xs):=by
 obtain⟨nm,ws,ks,e⟩:=h;have b:E4 xs=jn (nm::ws):=by rw[km,e.str]
 have j:jw " " (nm::ws)<=600:=Ax (LC (n:=3) (c:=61) (λy a=>(e.ok y a).2.2) (by rw[B6];have:=e.len;omega)) (by rw[Gp];decide);rw[b];refine⟨G5 e.ok,Ax (Q4 _) j,?_⟩;rw[N6 (Ls (by simp) λw hw=>(e.ok w hw).2.1),ZO (dR _ e.jf) e.fit,e.val]
theorem GN.Ta(h:GN xs):xs.length<=3/\∀y∈xs,Pm y:=by
 obtain⟨nm,ws,ks,e⟩:=h;have hl:xs.length<=3:=by
  have:=iK List.length e.str;rw[AH,B6]at this;have:=e.len;omega
 refine⟨hl,λy a=>⟨?_,?_⟩⟩
 .rw[e.val]at a;rcases List.mem_cons.mp a with rfl|a
  .trivial
  .obtain⟨i,hi⟩:=List.mem_iff_getElem?.mp a;rw[Kc]at hi;cases h1:ws[i]? with
   |none=>rw[h1]at hi;cases hi
   |some w=>
    cases h2:ks[i]? with
    |none=>rw[h1,h2]at hi;cases hi
    |some kd=>
     rw[h1,h2]at hi;have hi:y=Cq w kd:=(B4 hi).symm;subst hi;unfold Cq;split
     .rename_i ek;subst ek;have d:=(Bool.and_eq_true_iff.mp e.fit).2;have c:CU w "number" ∈List.zipWith CU ws ks:=DJ (i:=i) (by rw[Kc,h1,h2]);have b:isNum w=true:=List.all_eq_true.mp d _ c;exact(xW (uG b)).1
     .trivial
 .have:Gm y∈xs.map Gm:=List.mem_map.mpr ⟨y,a,rfl⟩;rw[e.str]at this;have:=(e.ok _ this).2.2;omega
theorem u9(g:ns.length<=40)(b:∀x∈ns,Nm x)(nd:ns.Nodup):Dq (EU ns)/\(EU ns).length<=600/\BB (EU ns)=ns/\D0 ns=true:=by
 have f:D0 ns=true:=rw_yes g ((kh ns).mpr nd) (List.all_eq_true.mpr λx hx=>Sz (b x hx));have d:∀w∈ns,Ba w:=λw hw=>QC (b w hw)
 by_cases e:ns=[]
 .subst e;exact⟨G5 (ws:=["-"]) (λw hw=>by rw[List.mem_singleton.mp hw];unfold Ba Nn Fr;decide),by decide,rfl,f⟩
 .have e0:¬ ns.length=0:=λz=>e (List.length_eq_zero_iff.mp z);have i:EU ns=jn ns:=by unfold EU;rw[hZ e0];exact Qh " " ns
  have es:=Ls e λw hw=>(d w hw).2.1;rw[i];refine⟨G5 d,Ax (Q4 _) (Ax (LC (n:=40) (c:=8) (λy h=>(b y h).2.1) g) (by rw[Gp];decide)),?_,f⟩;unfold BB;rw[hZ λz=>?_,es];rw[z]at es;cases ns with
  |nil=>exact e rfl
  |cons a r=>
   have h1:Aa "-"=[("-":Str)]:=Ls (ws:=[("-":Str)]) (by simp) λw hw=>by rw[List.mem_singleton.mp hw];unfold Fr;decide
   rw[h1]at es;have ea:a="-" := (JJ es).1.symm;have:=(b a (by simp)).2.2 45 (by rw[ea];decide);omega
theorem ke(k:ns.length<=40)(p:∀x∈ns,Nm x)(nd:ns.Nodup)(hl:es.length<=12)(b:∀e∈es,GN e):
  FY 0 (EU ns::es.map E4)/\FX (EU ns) (es.map E4)=.tup [.lst (ns.map .str),.lst (es.map .tup)]:=by
 obtain⟨j,h,d,g⟩:=u9 k p nd;have f:∀l∈EU ns::es.map E4,Dq l/\l.length<=600:=λl hl=>by
  rcases List.mem_cons.mp hl with rfl|hl
  .exact⟨j,h⟩
  .obtain⟨e,a,rfl⟩:=List.mem_map.mp hl;have:=(b e a).text;exact⟨this.1,this.2.1⟩
 refine⟨⟨by simp,f,Ax (LC (n:=13) (c:=600) (λy m=>(f y m).2) (by rw[B6,AH];omega)) (by rw[Pq];decide),by rw[B6,AH];omega⟩,?_⟩;have o:Er 1 (es.map E4)=none:=W3 λi l BM=>by
  rw[B3]at BM;obtain⟨e,a,rfl⟩:=Option.map_eq_some_iff.mp BM;have hi:=(List.getElem?_eq_some_iff.mp a).1;rintro(z|z)
  .omega
  .rw[(b e (DJ a)).text.2.2]at z;cases z
 unfold FX bad;rw[d,i6 g,o];show Fs _ _=_;unfold Fs;rw[d,CL]
 congr 3
 refine iK PV.lst (List.map_congr_left λe a=>?_);show C2 (E4 e)=.tup e;unfold C2;rw[(b e a).text.2.2];rfl
theorem RW.text{k:Nat}(h:FY k rows)(a:k<=3):P9 (Fx rows)/\DD (Fx rows)=rows/\jw "\n" rows<=16777216:=by
 have e:DD (Fx rows)=rows:=qH h.ne λl hl=>(h.row l hl).1.1;have t:=h.K9;refine⟨⟨Ax (Xi "\n" rows) (by omega),λl hl=>?_⟩,e,by omega⟩;rw[e]at hl;have:=(h.row l hl).2;omega
theorem k7(h:∀y∈ys,∃xs,GN xs/\y=.tup xs):∃es:List (List PV),ys=es.map .tup/\∀e∈es,GN e:=by
 induction ys with
 |nil=>exact⟨[],rfl,λe c=>by cases c⟩
 |cons y r b=>
  obtain⟨es,e,d⟩:=b λz a=>h z (By _ a);obtain⟨xs,hx,f⟩:=h y (by simp);refine⟨xs::es,by rw[e,f];rfl,λz a=>?_⟩;rcases List.mem_cons.mp a with rfl|a
  .exact hx
  .exact d z a
theorem oE{K:ZAe}(ns:List Str)(h:∀e∈es,GN e):dat K 40 (.tup [.lst (ns.map .str),.lst (es.map .tup)]):=λx hx=>by
 rcases List.mem_cons.mp hx with rfl|hx
 .intro y a;obtain⟨z,_,rfl⟩:=List.mem_map.mp a;trivial
 .rw[List.mem_singleton.mp hx];intro y a;obtain⟨e,c,rfl⟩:=List.mem_map.mp a;intro q b;have:=((h e c).Ta.2 q b).1;cases q <;> first|trivial|exact this.elim
theorem vz:∀{ls:List Str}{k:Nat},Er k ls=none->∀l∈ls,Bm l≠none:=by
 intro ls
 induction ls with
 |nil=>intro k _ l hl;cases hl
 |cons a r b=>
  intro k h l hl;have h:(if 400<k∨Bm a=none then some k else Er (k+1) r)=none:=h
  by_cases c:400<k∨Bm a=none
  .rw[i6 c]at h;cases h
  .rw[hZ c]at h;rcases List.mem_cons.mp hl with rfl|hl
   .exact λz=>c (.inr z)
   .exact b h l hl
theorem mR{K:ZAe}{fs:List (Str×List Str)}(h:FD fs u r=some (.tup ys)):∀y∈ys,dat K 37 y:=by
 unfold FD at h;cases e:Ay fs u with
 |none=>rw[e]at h;cases h
 |some ks=>
  rw[e]at h;have h:(if Bu r ks=true then some (PV.tup (.str u::List.zipWith Cq r ks))else none)=some (.tup ys):=h
  by_cases c:Bu r ks=true
  .rw[i6 c]at h;injection h with h;injection h with h
   subst h;intro y a;rcases List.mem_cons.mp a with rfl|a
   .trivial
   .obtain⟨i,hi⟩:=List.mem_iff_getElem?.mp a;rw[Kc]at hi;cases h1:r[i]? with
    |none=>rw[h1]at hi;cases hi
    |some w=>
     cases h2:ks[i]? with
     |none=>rw[h1,h2]at hi;cases hi
     |some kd=>
      rw[h1,h2]at hi;rw[<- B4 hi];unfold Cq;split <;> trivial
  .rw[hZ c]at h;cases h
theorem xT{K:ZAe}(h:bad x0 ls=none):∃es:List (List PV),Fs x0 ls=.tup [.lst ((BB x0).map .str),.lst (es.map .tup)]/\es.length=ls.length/\dat K 40 (Fs x0 ls):=by
 have j:Er 1 ls=none:=by
  unfold bad at h
  by_cases c:D0 (BB x0)=true
  .rw[i6 c]at h;exact h
  .rw[hZ c]at h;cases h
 have ok:=vz j;obtain⟨es,i,g,f⟩:∃es:List (List PV),ls.map C2=es.map .tup/\es.length=ls.length/\∀e∈es,∀y∈e,dat K 37 y:=by
  clear h j
  induction ls with
  |nil=>exact⟨[],rfl,rfl,λe a=>by cases a⟩
  |cons l r m=>
   obtain⟨es,i,g,f⟩:=m λz n=>ok z (By _ n);cases b:Bm l with
   |none=>exact absurd b (ok l (by simp))
   |some q=>
    obtain⟨ys,rfl⟩:=Zr b;have p:C2 l=.tup ys:=by unfold C2;rw[b];rfl
    refine⟨ys::es,by rw[Cn,Cn,i,p],by rw[B6,B6,g],λe a=>?_⟩;rcases List.mem_cons.mp a with rfl|a
    .cases k:Aa l with
     |nil=>exact absurd k (Fq l)
     |cons u s=>rw[N6 k]at b;exact mR b
    .exact f e a
 have e:Fs x0 ls=.tup [.lst ((BB x0).map .str),.lst (es.map .tup)]:=by unfold Fs;rw[i]
 refine⟨es,e,g,?_⟩;rw[e];intro x hx;rcases List.mem_cons.mp hx with rfl|hx
 .intro y d;obtain⟨z,_,rfl⟩:=List.mem_map.mp d;trivial
 .rw[List.mem_singleton.mp hx];intro y d;obtain⟨e,a,rfl⟩:=List.mem_map.mp d;exact λq o=>(f e a q o)
end Fz
set_option maxHeartbeats 8000000
namespace Pf
open L2 Lw
variable{P q:Program}{w:World}{mg:ZAg}{AR BR CN CP CQ CS CT CV CY CZ Ca Cb Cc Cd Cf Cg Ci Gw IG Q7 f:Addr}{fd vR:FuncData}{α:Type}{Qr So U5 U7 UJ WW jV vx:Tok}{l:PySem.W.OpenLaw}{fu ml nU oW pJ pT rB yG yw:Nat}{gH gI gJ lU tq wa wb yr:Option Addr}{gq lF lq me qO uB vA xl:Array (Option Value)}
abbrev St:=L2.St
def top(i:Nat):Stmt:=PySem.Challenge.pw_stirround_k92_logs_read.main.body.getD i (.Pass ⟨0,0,0,0⟩)
abbrev TU:Stmt:=top 38
abbrev Ve:Stmt:=top 39
abbrev Ue:Stmt:=top 40
abbrev Rb:Stmt:=top 41
abbrev Vl:Stmt:=top 42
abbrev W4:Stmt:=top 43
abbrev V6:Stmt:=top 47
abbrev Sj:Stmt:=top 48
abbrev O6:Stmt:=top 51
abbrev Oy:Stmt:=top 52
abbrev Uc:Stmt:=top 53
abbrev Qi:Stmt:=top 54
abbrev P0:Stmt:=top 55
abbrev Of:Stmt:=top 56
abbrev RB:Stmt:=top 57
abbrev OH:Stmt:=top 58
abbrev UW:Stmt:=top 46
abbrev V3:Stmt:=top 44
abbrev Oz:Stmt:=top 45
abbrev Nh:Stmt:=top 60
abbrev WJ:Stmt:=top 50
abbrev Pn:Stmt:=top 49
abbrev OT:Stmt:=top 22
abbrev Ni:Stmt:=top 23
abbrev VZ:Stmt:=top 31
abbrev Nv:Stmt:=top 35
abbrev UC:Stmt:=top 34
abbrev Oe:Stmt:=top 33
abbrev OM:Stmt:=top 36
abbrev Qy:Stmt:=top 32
abbrev O3:Stmt:=top 30
abbrev R9:Stmt:=top 59
abbrev Iq:Stmt:=top 61
variable{K:ZAe}{Zk:Heap}
def Xe{us:List α}(h:us.length=1):∃a,us=[a]:=by
 rcases us with _|⟨a,_|⟨b,us⟩⟩
 .cases h
 .exact⟨a,rfl⟩
 .cases h
def ln2{us:List α}(h:us.length=2):∃a b,us=[a,b]:=by
 rcases us with _|⟨a,us⟩
 .cases h
 .obtain⟨b,rfl⟩:=Xe (Qb h);exact⟨a,b,rfl⟩
def aX{us:List α}(h:us.length=3):∃a b c,us=[a,b,c]:=by
 rcases us with _|⟨a,us⟩
 .cases h
 .obtain⟨b,c,rfl⟩:=ln2 (Qb h);exact⟨a,b,c,rfl⟩
def ak{us:List α}(h:us.length=4):∃a b c d,us=[a,b,c,d]:=by
 rcases us with _|⟨a,us⟩
 .cases h
 .obtain⟨b,c,d,rfl⟩:=aX (Qb h);exact⟨a,b,c,d,rfl⟩
def cX{us:List α}(h:us.length=5):∃a b c d e,us=[a,b,c,d,e]:=by
 rcases us with _|⟨a,us⟩
 .cases h
 .obtain⟨b,c,d,e,rfl⟩:=ak (Qb h);exact⟨a,b,c,d,e,rfl⟩
def j3{us:List α}(h:us.length=6):∃a b c d e f,us=[a,b,c,d,e,f]:=by
 rcases us with _|⟨a,us⟩
 .cases h
 .obtain⟨b,c,d,e,f,rfl⟩:=cX (Qb h);exact⟨a,b,c,d,e,f,rfl⟩
local macro_rules | `(tactic| walk_at "bD1")=>`(tactic| (intro _ _ _ _ _ _ us hl;obtain⟨_,e⟩:=Xe hl;subst e;rfl))
local macro_rules | `(tactic| walk_at "bD2")=>`(tactic| (intro _ _ _ _ _ _ us hl;obtain⟨_,_,e⟩:=ln2 hl;subst e;rfl))
local macro_rules | `(tactic| walk_at "bD3")=>`(tactic| (intro _ _ _ _ _ _ us hl;obtain⟨_,_,_,e⟩:=aX hl;subst e;rfl))
local macro_rules | `(tactic| walk_at "bD4")=>`(tactic| (intro _ _ _ _ _ _ us hl;obtain⟨_,_,_,_,e⟩:=ak hl;subst e;rfl))
local macro_rules | `(tactic| walk_at "bD5")=>`(tactic| (intro _ _ _ _ _ _ us hl;obtain⟨_,_,_,_,_,e⟩:=cX hl;subst e;rfl))
local macro_rules | `(tactic| walk_at "bD6")=>`(tactic| (intro _ _ _ _ _ _ us hl;obtain⟨_,_,_,_,_,_,e⟩:=j3 hl;subst e;rfl))
abbrev nS(K:ZAe)(x:Str)(v:Value):Prop:=PySem.W.nsIn K mainGlobals x=some (some v)
abbrev nN(K:ZAe)(x:Str):Prop:=PySem.W.nsIn K mainGlobals x=some none
abbrev R1:Stmt:=ux (top 10)
local macro_rules | `(tactic| walk_at "z1")=>`(tactic| exact⟨rfl,rfl,rfl,by decide +kernel,rfl,by decide +kernel,by decide +kernel⟩)
local macro_rules | `(tactic| walk_at "z2")=>`(tactic| exact⟨rfl,by decide +kernel,by decide +kernel,rfl,rfl,by decide +kernel,by decide +kernel,by decide +kernel,by decide +kernel⟩)
local macro_rules | `(tactic| walk_at "z3")=>`(tactic| exact⟨rfl,by decide +kernel,by decide +kernel,by decide +kernel,rfl,by decide +kernel,by decide +kernel,by decide +kernel,by decide +kernel⟩)
def qo:B8 ["self","line"] ["self","line"] (AW R1):=by walk_at "z1"
def kP{C S:Addr}(F:AM K "__init__" "NoText.__init__" R1 f fd)(d:Binds K fd ["self","line"] [])(c:Mg K C f "line")(a:cD K S)(b:mg "StirError"=some (.ref S)):Nq P w K mg Zk C "line" := by
 refine⟨f,fd, "line", c,F.ok (k:=0) qo y9 (λAS A outer s H vs Q E e h=>?_),d⟩;refine⟨_,?_,nv (N:=["self","line"]) rfl h⟩;exact TX (bo (mM (S:=S) a (by rfl) b c.ex (S9 (pv 0) (S9 (iS (pv 1) (by decide)) ZR)))) (TX (i3 c (pv 0) (pv 1) rfl) Zj)
open Fz
def ZWM(t:String):Lean.MacroM (Lean.TSyntax `tactic):=do
 let g:Lean.TSyntax `tactic←`(tactic| fail)
 let k←`(tactic| case wk=>rfl)
 let n (s:String):=`(tactic| walk_at $(Lean.quote s):str)
 (t.splitOn " ").foldrM (λs r=>do
  let l:=((s.drop 1).toString.splitOn "/").map λx=>Lean.mkIdent (`Fz++x.toName)
  let h:Lean.Ident:=l.getLast!
  let c:=s.front
  let w:=(h.getId.getString!.toLower.replace "o" "e").replace "i" "e"
  let z←if c=='j' then `($h ?wj ?wk ?_)else if c=='k'||c=='K' then `($h ?wk ?_)else `($h ?_)
  let z←l.dropLast.foldrM (λ(f:Lean.Ident)(z:Lean.Term)=>`($f ($z))) z
  let p←if c=='e' then `(tactic| show ∃_,_=$h _/\_)else if c=='s' then `(tactic| show $h _ _ _)else `(tactic| refine' $z)
  let p←if c=='K'||c=='R'||c=='j' then pure p else `(tactic| with_reducible $p:tactic)
  let q←if c=='e' then `(tactic| refine⟨_,rfl,?_⟩)else if c=='s' then n w else if c=='n' then n "wn" else if c=='p' then n "wp" else if c=='k'||c=='K' then pure k else if c=='j' then `(tactic| ((case wj=>rfl);$k:tactic))else `(tactic| skip)
  `(tactic| first|($p:tactic;$q:tactic) | $r:tactic)) g
local macro_rules | `(tactic| walk_at "wp")=>ZWM "RXu ruu kfb kwN kA7 rBG rBP rIV rUo rsT rSi roR rGj rSr rJY rT5 rdw rRJ knQ rXJ rEA rKv ruI rMC rY6 rdi RyA rkI KnI Kqg KgA KK5 KUN"
local macro_rules | `(tactic| walk_at "wn")=>ZWM "rIi rN3 rHn KXc jqA"
local macro_rules | `(tactic| walk_at "wq")=>do
 let z←ZWM "kCk kM0 kLA kNO"
 `(tactic| first | $z:tactic|(refine Bb (BW ?_);walk_at "wn")|(refine Bb ?_;walk_at "wp"))
local macro_rules | `(tactic| walk_at "wz")=>`(tactic| first
 | ((with_reducible refine' N5 ?wk ?_);(case wk=>rfl))
 | (refine ND (BW ?_);walk_at "wn")
 | (refine ND ?_;walk_at "wp"))
local macro_rules | `(tactic| walk_at "wt")=>ZWM "rCC rE2 rEu rDp rVR rFV"
local macro_rules | `(tactic| walk_at "we")=>ZWM "rCo rEe rHG rGF rmi rrS rN9"
local macro_rules | `(tactic| walk_at "w")=>do
 let z←ZWM "rBF rDY rBx rBC kPJ kNx kjG nDe pJZ kOA nay pBO"
 let z1←ZWM "eOV.tp eOV.fz"
 let z2←ZWM "sWn sWq sWz sWt sWe sWo sWi"
 let z3←ZWM "ePV.int ePV.str ePV.bl"
 `(tactic| first | $z1:tactic|((with_reducible show ∃_ _,_=OV.nd NK.lst _ _/\_);refine⟨_,_,rfl,?_⟩)|((with_reducible show ∃_ _ _,_=PV.int _/\_/\_/\_);refine⟨_,_,_,rfl,rfl,rfl,?_⟩)|((with_reducible show Wp _ _ _);first|walk_at "wp" | (refine BW ?_;walk_at "wn")) | $z2:tactic|((with_reducible show Ws _ _ _ _);$z:tactic) | $z3:tactic|((with_reducible show(_:Bool)=_/\_);refine⟨rfl,?_⟩)|((with_reducible show ∃_ _,_=PV.int _/\L2.BA _ _=some _/\_);refine⟨_,_,rfl,rfl,?_⟩)|((with_reducible show ∃_,(_=PV.lst _/\_)∨(_=PV.tup _/\_));first|refine⟨_,.inl ⟨rfl,?_⟩⟩|refine⟨_,.inr ⟨rfl,?_⟩⟩)|((with_reducible show ∃_,_=List.map _ _/\_);first|refine⟨_,rfl,?_⟩|refine⟨[],rfl,?_⟩|refine⟨_,KQ _ _ _ _,?_⟩|refine⟨_,gW _ _,?_⟩))
local macro_rules | `(tactic| walk_at "ww")=>`(tactic| repeat walk_at "w")
def M5:B8 ["script","k","cell","rest_here"] ["script","k"] (AW TU):=by walk_at "z1"
variable{J9 J5 Iw J4 II Ie IK:Addr}
variable(Ad:mg "len"=none)(JA:AD P w K mg Zk "_law_letters" 1 ["number"] (Oi))(Ap:AD P w K mg Zk "_law_take" 1 ["pot","many"] (Ge))(Ju:AD P w K mg Zk "_law_name" 2 ["pot","names"] (Q3 K))(Ec:mg "range"=none)(TB:AD P w K mg Zk "_law_names" 3 ["pot","many"] (dO))(OO:AD P w K mg Zk "_law_number" 2 ["pot"] (An Rg))(BV:mg "all"=none)(LS:AD P w K mg Zk "_law_is_name" 1 ["text"] (KY))(TH:AD P w K mg Zk "_law_is_number" 1 ["word"] (An Ko))(EM:mg "int"=none)(Fc:mg "zip"=none)(SX:AD P w K mg Zk "_law_parts" 1 ["sorts","words"] (An SV))(WR:AD P w K mg Zk "_law_sort" 2 ["sort","word"] (An VY))(G8:mg "tuple"=none)(VI:AD P w K mg Zk "_law_entry" 3 ["text"] (An Ql))(LY:mg "set"=none)(Ss:AD P w K mg Zk "_law_bent_row" 2 ["pot","text"] (An Vk))(Hi:mg "list"=none)(Sx:mg "ValueError"=none)(BH:mg "isinstance"=none)(SS:mg "Endless"=some (.ref CY))(VA:mg "Full"=some (.ref CN))(T8:mg "Gone"=some (.ref CV))(SM:mg "NoLog"=some (.ref Cc))(Sq:mg "NoLoop"=some (.ref Cd))(UU:mg "NoName"=some (.ref Ci))(Tc:mg "NoOrders"=some (.ref CZ))(Ro:mg "NoPlace"=some (.ref CP))(SI:mg "NoRow"=some (.ref Ca))(TC:mg "NoRule"=some (.ref Cf))(HY:mg "NoText"=some (.ref AR))(R0:mg "NoTicket"=some (.ref CS))(VN:mg "NoWhere"=some (.ref CT))(SY:mg "Stale"=some (.ref CQ))(JQ:mg "StirError"=some (.ref BR))(SU:mg "There"=some (.ref Cg))(Ul:mg "TooMany"=some (.ref Cb))(Rz:mg "bool"=none)(Ks:mg "str"=none)(SJ:AD P w K mg Zk "_law_alone" 1 ["e","place"] (An (Sb K [Ci,Cg,CV,CP,Cf,Cc,CQ,CT,AR,CN,Cb,Cd,CS,CY,CZ,Ca] BR)))(Qm:AD P w K mg Zk "_law_texts" 1 ["found"] (An UA))(Td:AD P w K mg Zk "_law_whole" 1 ["found"] (An Vh))(Ux:mg "LETTERS"=some (.str "abcdefghijklmnopqrstuvwxyz" U5))(UQ:mg "MOST_LETTERS"=some (.int 8 UJ))(L6:AD P w K mg Zk "is_name" 1 ["text"] (KY))(W6:mg "MOST_THINGS"=some (.int 40 U7))(T9:AD P w K mg Zk "is_row" 2 ["some"] (VM K))(Lb:Nq P w K mg Zk AR "line")(SW:mg "FIGURES"=some (.str "0123456789" Qr))(Se:mg "MOST_FIGURES"=some (.int 60 So))(VE:AD P w K mg Zk "is_number" 1 ["word"] (An Ko))(VO:mg "RULES"=some (.ref IG))(U4:∀H,Al K H IG [.str "none", .str "ahead", .str "all"])(RM:AD P w K mg Zk "fits" 2 ["word","kind"] (An Tv))(Tb:AD P w K mg Zk "fit" 3 ["words","form"] (An (Rp K)))(U3:AD P w K mg Zk "values_of" 1 ["words","form"] (An (Uk K)))(Mm:mg "FORMS"=some (.ref Gw))(Mr:Hj P w K Gw [("put", J9),("take", J5),("move", Iw),("turn", J4),("begin", II),("tell", Ie),("over", IK)])(SG:Fz.M4 K [(J9,["name","number"]),(J5,["name"]),(Iw,["name","number"]),(J4,["number","number"]),(II,["name","rule"]),(Ie,["name","name"]),(IK,["name"])])(Vu:mg "MOST_ENTRIES"=some (.int 400 WW))(Vd:EJ P w K mg Zk "read_entry" 4 ["line","number"] (Gi (R5 AR)))(Rq:EJ P w K mg Zk "read_row" 4 ["line"] (Gi (U0 AR)))(Qj:mg "enumerate"=none)(Tg:EJ P w K mg Zk "read_log" 5 ["text"] (Gi (RY AR)))(xm:PySem.W.exmOne K (.ref AR) (.ref BR)=some true)(Tu:AD P w K mg Zk "_law_any_entry" 3 ["pot","names"] (An VB))(VQ:AD P w K mg Zk "_law_bent" 3 ["pot","rows"] (An Uw))(RD:AD P w K mg Zk "_law_heard" 6 ["text"] (An (W7 AR)))(Ri:AD P w K mg Zk "_law_pot" 1 ["script","k"] (Uj K))(OD:AD P w K mg Zk "_law_read" 4 ["text"] (An Vp))(SD:AD P w K mg Zk "_law_right" 2 ["found","due"] (An (UX K [Ci,Cg,CV,CP,Cf,Cc,CQ,CT,AR,CN,Cb,Cd,CS,CY,CZ,Ca] BR AR)))(SO:AD P w K mg Zk "_law_row" 4 ["pot","most"] (SA))(TY:AD P w K mg Zk "_law_row_text" 1 ["row"] (An Vx))(WO:AD P w K mg Zk "_law_words" 1 ["some"] (An Tj))(Ra:mg "max"=none)(Rr:mg "min"=none)(al:Pr K [Ci,Cg,CV,CP,Cf,Cc,CQ,CT,AR,CN,Cb,Cd,CS,CY,CZ,Ca] BR AR 8=true)(hd:PySem.W.hasDictIn K AR=true)(na:PySem.W.findIn K (.ref AR) "line"=some none)
def vt(F:AM K "_law_pot" "_law_pot" TU f fd)(m:mg "_law_pot"=some (.ref f)):
  AD P w K mg Zk "_law_pot" 1 ["script","k"] (Uj K):=by
 refine AD.mk F (F.binds (by walk_at "bD2")) m (F.BX (k:=0) M5 (λvs H Q E h=>?_) (λAS A outer s H vs Q E o h=>?_))
 .obtain⟨a,ns,k,rfl,b,k0,k1,q⟩:=h;rfl
 obtain⟨a,ns,k,rfl,b,k0,k1,q⟩:=h;refine⟨_,(AF rfl (Ac 2 M5.nd A4)
   (AF rfl (C1 (B9 (Az Uu (qv 1) (AU LP Ad (A0 (qv 0) A3))) (AL rfl (Ac 2 M5.nd (Ae IZ (B2 Bv (qv 0) (qv 1)) (Ae K8 (Ae K8 (Ae K8 (Ae Im A4 A4) (Ae Im A4 A4)) (Ae Im A4 A4)) (Ae Im A4 A4))))) BD))
   (AF rfl (Ac 3 M5.nd A4)
   (AF rfl (C1 (B9 (Az kq (qv 2) (Ae Im A4 A4)) (AL rfl (Ac 3 M5.nd (qv 2))) BD))
   (AL rfl (Ak (D3 (A0 (qv 3) (A0 (Ae IZ (Ae K8 (Ae EZ (Ae EZ (Ae IZ (qv 2) A4) (Ae K8 A4 (qv 1))) A4) A4) A4) A3))))))))),?_⟩
 have hl:(ns.map V.int).length=ns.length:=AH _;refine⟨λσ' H'=>∃c:Int,σ'=[some (.ref a),some (.int k),some (.int c),none]/\H=H'/\0<=c/\c<10 ^ 256,?_,?_⟩
 .refine⟨_,rfl,_,rfl,a,_,rfl,.inl b,_,_,rfl,rfl,_,rfl,?_⟩;refine Ag (λc=>?_) (λc=>?_)
  .have n:k<(((ns.map V.int).length:Nat):Int):=gP c;rw[hl]at n;have i:k.toNat<ns.length:=by omega
   have g:BA (ns.map V.int) k=some (.int ns[k.toNat]):=OP k0 (by rw[B3,Aw i] <;> rfl)
   refine⟨_,rfl,_,rfl,a,_,_,_,rfl,rfl,b,g,_,_,rfl,rfl,⟨by decide,by decide,by decide +kernel⟩,_,_,rfl,rfl,⟨by decide,by decide,by decide +kernel⟩,_,_,rfl,rfl,⟨by decide +kernel,by decide +kernel⟩,_,_,rfl,rfl,⟨by decide,by decide,by decide +kernel⟩,_,_,rfl,rfl,⟨by decide +kernel,by decide +kernel⟩,
    _,_,rfl,rfl,⟨by decide,by decide,by decide +kernel⟩,_,_,rfl,rfl,⟨by decide +kernel,by decide +kernel⟩,_,_,rfl,rfl,(by show(0:Int)<_;decide +kernel),?_⟩
   exact⟨_,rfl,rfl,Kb _ (by decide +kernel),Ka _ (by decide +kernel)⟩
  .exact⟨0,rfl,rfl,by decide,by decide +kernel⟩
 rintro σ' H'⟨c,rfl,rfl,c0,c1⟩;refine⟨λσ' H'=>∃d:Int,σ'=[some (.ref a),some (.int k),some (.int c),some (.int d)]/\H=H'/\0<=d/\d<10 ^ 256,?_,?_⟩
 .refine⟨_,rfl,_,_,rfl,rfl,⟨by decide,by decide,by decide +kernel⟩,_,_,rfl,rfl,_,rfl,?_⟩;refine Ag (λ_=>?_) (λ_=>?_)
  .exact⟨_,rfl,c,rfl,rfl,c0,c1⟩
  .exact⟨0,rfl,rfl,by decide,by decide +kernel⟩
 rintro σ' H'⟨d,rfl,rfl,l,j⟩;have e0:0<=c % 2147483629:=Kb _ (by decide);have r:c % 2147483629<2147483629:=Ka _ (by decide);refine⟨_,rfl,_,rfl,_,_,rfl,rfl,(by show(0:Int)<2147483629;decide),_,rfl,_,_,rfl,rfl,⟨by decide +kernel,NL (by omega) (by omega)⟩,_,_,rfl,rfl,_,_,rfl,rfl,_,_,rfl,rfl,⟨NL (by omega) (by omega),by decide +kernel⟩,_,_,rfl,rfl,(by show(0:Int)<2147483647;decide),?_⟩;refine⟨(by show 2<=sizeLine;decide),λp e=>?_⟩;exact q p _ e (CH e _) ⟨d,_,AY,l,j,Kb _ (by decide),Ka _ (by decide)⟩
def ZF:B8 ["pot","many","found"] ["pot","many"] (AW Ve):=by walk_at "z1"
def yH(F:AM K "_law_take" "_law_take" Ve f fd)(m:mg "_law_take"=some (.ref f)):
  AD P w K mg Zk "_law_take" 1 ["pot","many"] (Ge):=by
 refine AD.mk F (F.binds (by walk_at "bD2")) m (F.BX (k:=0) ZF (λvs H Q E h=>?_) (λAS A outer s H vs Q E t h=>?_))
 .obtain⟨p,m,rfl,⟨a,b,e,a0,g,b0,l⟩,d,j,q⟩:=h;rfl
 obtain⟨p,m,rfl,⟨a,b,e,a0,g,b0,l⟩,d,j,q⟩:=h;refine⟨_,(AF rfl (B9 (Az LF (B2 Bv (qv 0) A4) A4) (AF rfl (Ac 2 ZF.nd (Ae IZ (B2 Bv (qv 0) A4) (qv 1)))
   (AF rfl (IF (Ae Ub (B2 Bv (qv 0) A4) (qv 1)) (Kr (qv 0) A4 set_list))
   (AL rfl (Ak (qv 2))))) BD)
   (AF rfl (IF (Ae IZ (Ae EZ (Ae K8 (B2 Bv (qv 0) A4) A4) A4) A4) (Kr (qv 0) A4 set_list))
   (AL rfl (Ak (Ae IZ (Ae Ub (Ae IZ (Ae K8 (B2 Bv (qv 0) A4) (B2 Bv (qv 0) A4)) A4) A4) (qv 1)))))),?_⟩
 refine⟨_,rfl,p,_,_,_,rfl,rfl,AN.of e,rfl,_,_,rfl,rfl,_,rfl,?_⟩;refine Ag (λc=>?_) (λc=>?_)
 .have u:0<a:=gP c;refine⟨_,rfl,p,_,_,_,rfl,rfl,AN.of e,rfl,_,rfl,_,_,rfl,rfl,d,?_⟩;refine⟨_,rfl,p,_,_,_,rfl,rfl,AN.of e,rfl,_,rfl,_,_,rfl,rfl,⟨d,ph d j⟩,?_⟩;refine⟨_,rfl,p,_,_,_,rfl,rfl,e,rfl,?_⟩;refine⟨_,rfl,?_⟩;refine q _ _ (Kb _ (by omega)) (Ka _ d) ⟨⟨a / m,b,AY,Int.ediv_nonneg a0 (by omega),JG (Int.ediv_le_self _ a0) g,b0,l⟩,Eg.upd⟩
 .refine⟨_,rfl,p,_,_,_,rfl,rfl,AN.of e,rfl,_,_,rfl,rfl,⟨NL (by omega) (by omega),by decide +kernel⟩,_,_,rfl,rfl,_,_,rfl,rfl,(by show(0:Int)<2147483647;decide),?_⟩;refine⟨_,rfl,p,_,_,_,rfl,rfl,e,rfl,?_⟩;have n:0<=(b * 69621+12345) % 2147483647:=Kb _ (by decide);have o:(b * 69621+12345) % 2147483647<2147483647:=Ka _ (by decide);generalize r:(b * 69621+12345) % 2147483647=b' at n o;have i:(upd H p (.lst [.int a,.int ((b * 69621+12345) % 2147483647)])) p=some (.lst [.int a,.int b']):=by rw[AY,r]
  refine⟨_,rfl,p,_,_,_,rfl,rfl,AN.of i,rfl,_,rfl,p,_,_,_,rfl,rfl,AN.of i,rfl,_,_,rfl,rfl,⟨NL (by omega) (by omega),NL (by omega) (by omega)⟩,_,_,rfl,rfl,(by show(0:Int)<2147483629;decide),?_⟩;refine⟨_,_,rfl,rfl,⟨(by show(0:Int)<64;decide),by decide +kernel⟩,_,rfl,_,_,rfl,rfl,d,?_⟩;exact q _ _ (Kb _ (by omega)) (Ka _ d) ⟨⟨a,b',i,a0,g,n,o⟩,Eg.upd⟩
def Np:B8 ["number","word"] ["number"] (AW Ue):=by walk_at "z1"
def vi(F:AM K "_law_letters" "_law_letters" Ue f fd)(m:mg "_law_letters"=some (.ref f)):
  AD P w K mg Zk "_law_letters" 1 ["number"] (Oi):=by
 refine AD.mk F (F.binds (by walk_at "bD1")) m (F.BX (k:=0) Np (λvs H Q E h=>?_) (λAS A outer s H vs Q E x h=>?_))
 .obtain⟨r,rfl,j,p,q⟩:=h;rfl
 obtain⟨r,rfl,j,p,q⟩:=h;refine⟨_,(AF rfl (Ac 1 Np.nd AI)
   (AF rfl (C1 (ag Kg (Fh (Az BL (qv 1) AI) (IP (Az LF (qv 0) A4))).pt (AF rfl (Ac 1 Np.nd (Ae MU (qv 1) (B2 US AI (Ae IZ (qv 0) A4))))
   (AL rfl (Ac 0 Np.nd (Ae Ub (qv 0) A4))))))
   (AL rfl (Ak (qv 1))))),?_⟩
 obtain⟨n,rfl⟩:=zM j;have l:n<26 ^ 8:=by omega
 rw[GO]at q;refine⟨λσ' H'=>∃v,σ'=[some v,some (.str (C0 (MA.lets n)))]/\H=H',?_,?_⟩
 .refine⟨λm σ' H'=>∃(k:Nat)(pre:List Nat),σ'=[some (.int k),some (.str (C0 pre))]/\H=H'/\((pre=[]/\k=n/\m=n+2)∨(pre≠[]/\m=k+1/\(0<k->pre++MA.lets k=MA.lets n)/\(k=0->pre=MA.lets n))),⟨n+2,n,[],rfl,rfl,.inl ⟨rfl,rfl,rfl⟩⟩,?_⟩;rintro m σ' H'⟨k,pre,rfl,rfl,o⟩;refine⟨_,rfl,rfl,_,rfl,?_⟩;refine Ag (λc=>TJ ?_) (λc=>⟨_,rfl,_,_,rfl,rfl,_,rfl,?_⟩)
  .have e:pre=[]:=bw.mp (gP c);obtain⟨_,b,t⟩|⟨h,_⟩:=o
   .have d:pre++MA.lets k=MA.lets n:=by rw[e,b];rfl
    have a:pre.length+1<=8:=by
     have h1:=iK List.length d;rw[Cm]at h1;have h2:=MA.Ow 7 n l;have u:=MA.R7 k;omega
    refine⟨λσ' H'=>σ'=[some (.int ((k:Int) / 26)),some (.str (C0 pre++⟨#[97+((k:Int) % 26).toNat]⟩))]/\H=H',?_,?_⟩
    .rintro σ' H'⟨rfl,rfl⟩;have nx:=XQ d;have i:((k:Int) % 26).toNat=k % 26:=by omega
     have g:(k:Int) / 26=((k / 26:Nat):Int):=by omega
     exact⟨k / 26+1,by omega,k / 26,pre++[97+k % 26],by rw[i,g,Zb],rfl,.inr ⟨by simp,rfl,nx.1,nx.2⟩⟩
    .refine⟨_,rfl,_,rfl,_,_,rfl,rfl,(by show(0:Int)<26;decide),_,_,_,rfl,rfl,(by decide +kernel),YL (Kb _ (by decide)) (Ka _ (by decide)),_,_,rfl,rfl,?_,?_⟩
     .rw[Px];exact small (show pre.length+1<=_ by omega)
     .exact⟨_,rfl,_,_,rfl,rfl,⟨(by show(0:Int)<26;decide),by decide +kernel⟩,rfl,rfl⟩
   .exact absurd e h
  .have e:pre≠[]:=λh=>c (gS (bw.mpr h));obtain⟨h,_⟩|⟨_,t,h1,h2⟩:=o
   .exact absurd h e
   refine Ag (λc2=>?_) (λc2=>?_)
   .have b:0<k:=by have:(0:Int)<k:=gP c2;omega
    have d:=h1 b;have a:pre.length+1<=8:=by
     have h1:=iK List.length d;rw[Cm]at h1;have h2:=MA.Ow 7 n l;have u:=MA.R7 k;omega
    refine⟨λσ' H'=>σ'=[some (.int ((k:Int) / 26)),some (.str (C0 pre++⟨#[97+((k:Int) % 26).toNat]⟩))]/\H=H',?_,?_⟩
    .rintro σ' H'⟨rfl,rfl⟩;have nx:=XQ d;have i:((k:Int) % 26).toNat=k % 26:=by omega
     have g:(k:Int) / 26=((k / 26:Nat):Int):=by omega
     exact⟨k / 26+1,by omega,k / 26,pre++[97+k % 26],by rw[i,g,Zb],rfl,.inr ⟨by simp,rfl,nx.1,nx.2⟩⟩
    .refine⟨_,rfl,_,rfl,_,_,rfl,rfl,(by show(0:Int)<26;decide),_,_,_,rfl,rfl,(by decide +kernel),YL (Kb _ (by decide)) (Ka _ (by decide)),_,_,rfl,rfl,?_,?_⟩
     .rw[Px];exact small (show pre.length+1<=_ by omega)
     .exact⟨_,rfl,_,_,rfl,rfl,⟨(by show(0:Int)<26;decide),by decide +kernel⟩,rfl,rfl⟩
   .have b:k=0:=by
     have:¬ (0:Int)<k:=λz=>c2 (gS z);omega
    exact⟨_,by rw[h2 b],rfl⟩
 .rintro σ' H'⟨v,rfl,rfl⟩;exact⟨_,rfl,q⟩
def FU:B8 ["pot","names","some","way","name","number"] ["pot","names"] (AW Rb):=by walk_at "z1"
def jW(F:AM K "_law_name" "_law_name" Rb f fd)(m:mg "_law_name"=some (.ref f)):
  AD P w K mg Zk "_law_name" 2 ["pot","names"] (Q3 K):=by
 have Ap:=Fz.AD.XX Ap;refine AD.mk F (F.binds (by walk_at "bD2")) m (F.BX (k:=1) FU (λvs H Q E h=>?_) (λAS A outer s H vs Q E d h=>?_))
 .obtain⟨p,q,ns,rfl,T,G,Ai,W,Y,K1⟩:=h;rfl
 obtain⟨p,q,ns,rfl,T,G,Ai,W,Y,K1⟩:=h;refine⟨_,(AF rfl (Ac 2 FU.nd (Cu (A0 AI (A0 AI (A0 AI (A0 AI (A0 AI (A0 AI (A0 AI (A0 AI (A0 AI (A0 AI (A0 AI (A0 AI (A0 AI A3)))))))))))))))
   (AF rfl (Ac 3 FU.nd (AV Ap d (A0 (qv 0) (A0 A4 A3))))
   (AF rfl (Ac 4 FU.nd (B2 Ff (qv 2) (AV Ap d (A0 (qv 0) (A0 A4 A3)))))
   (AF rfl (C1 (B9 (Az BL (qv 3) A4) (AL rfl (Ac 4 FU.nd (AV JA d (A0 (AV Ap d (A0 (qv 0) (A0 (Ae eA (Ae Im A4 A4) A4) A3))) A3)))) BD))
   (AF rfl (C1 (B9 (ON (Az BL (qv 3) A4) (Pc (Az (Vj d.WQ) (qv 1) (D3 A3)))).pt (AF rfl (Ac 4 FU.nd (B2 Bv (qv 1) (AV Ap d (A0 (qv 0) (A0 (AU LP Ad (A0 (qv 1) A3)) A3)))))
   (AL rfl (Ac 4 FU.nd (Gx aq (Ae MU (qv 4) (AV JA d (A0 (AV Ap d (A0 (qv 0) (A0 A4 A3))) A3))) Ga (FO A4))))) BD))
   (AF rfl (C1 (B9 (ON (Az BL (qv 3) A4) (Pc (Az (Vj d.WQ) (qv 1) (D3 A3)))).pt (AF rfl (Ac 4 FU.nd (B2 Bv (qv 1) (AV Ap d (A0 (qv 0) (A0 (AU LP Ad (A0 (qv 1) A3)) A3)))))
   (AL rfl (Ac 4 FU.nd (Gx aq (qv 4) Ga (FO (Ae EZ A4 (AV Ap d (A0 (qv 0) (A0 (AU Kk Ad (A0 (qv 4) A3)) A3))))))))) BD))
   (AF rfl (Ac 5 FU.nd A4)
   (AF rfl (C1 (ag Kg (Az Sh (qv 4) (qv 1)) (AF rfl (Ac 4 FU.nd (AV JA d (A0 (qv 5) A3)))
   (AL rfl (Ac 5 FU.nd (Ae EZ (qv 5) A4))))))
   (AL rfl (Ak (qv 4))))))))))),?_⟩
 have hl:(ns.map V.str).length=ns.length:=AH _;refine⟨(by show 13<=sizeLine;decide +kernel),λl XT=>?_⟩;have D9:l≠p:=by
  obtain⟨_,_,e,_⟩:=T;exact(Ct e XT).symm
 have g0:BI p H (upd H l (.tup PU)):=BI.of T (CH XT _);refine⟨_,rfl,p,4,rfl,g0.AQ,by decide,by decide,λb H1 w0 w1 R=>?_⟩;refine⟨_,rfl,_,rfl,p,13,rfl,R.AQ,by decide,by decide,λi H2 i0 i1 s2=>?_⟩;have h2:H2 l=some (.tup PU):=s2.at' (R.at' AY D9) D9;obtain⟨x,hx,nx⟩:=oJ i0 i1;refine⟨l,_,_,_,rfl,rfl,Al.of h2,hx,?_⟩;have M:=g0.trans (R.trans s2);refine⟨λσ' H'=>∃x,σ'=[some (.ref p),some (.ref q),some (.ref l),some (.int b),some (.str x),none]/\Nm x/\BI p H H',?_,?_⟩
 .refine⟨_,rfl,rfl,_,rfl,?_⟩;refine Ag (λc=>?_) (λc=>?_)
  .refine⟨_,rfl,_,_,rfl,rfl,⟨by decide,by decide,by decide +kernel⟩,_,_,rfl,rfl,p,_,rfl,M.AQ,lD,qR,λr H3 C L s3=>?_⟩;have I:r<26 ^ 8:=eh L fc;exact⟨r,rfl,C,I,_,rfl,Nl (b8 C I),M.trans s3⟩
  .exact⟨x,rfl,nx,M⟩
 clear h2 hx nx s2 M i0 i1;rintro σ' H3⟨y,rfl,o,g⟩;refine⟨λσ' H'=>∃x,σ'=[some (.ref p),some (.ref q),some (.ref l),some (.int b),some (.str x),none]/\Nm x/\BI p H H',?_,?_⟩
 .refine⟨_,rfl,rfl,_,rfl,?_⟩;refine Ag (λc=>?_) (λc=>LB ⟨y,rfl,o,g⟩);refine⟨_,rfl,(by show 0<=sizeLine;decide),λe U=>?_⟩;have t:=g.trans (BI.of g.AQ (CH U (.lst [])));have J:=t.Lu G Ai;refine⟨q,e,_,[],rfl,rfl,.inl ⟨J,AN.of AY⟩,NN ns,rfl,_,rfl,?_⟩;rw[dW];refine Ag (λc2=>?_) (λc2=>⟨y,rfl,o,t⟩);have LW:0<ns.length:=by
   cases ns with
   |nil=>simp at c2
   |cons a r=>simp
  refine⟨_,rfl,_,rfl,_,rfl,q,_,rfl,.inl J,p,_,rfl,t.AQ,(by rw[hl];omega),(by rw[hl];omega),λi H5 i0 i1 O=>?_⟩;rw[hl]at i1;have B:=t.trans O;obtain⟨z,S,Sf,_⟩:=aQ i0 i1;have u:=W z Sf;refine⟨q,_,_,_,rfl,rfl,B.Lu G Ai,S,?_⟩;refine⟨_,rfl,_,rfl,p,26,rfl,B.AQ,by decide,by decide,λr H6 C L N=>?_⟩;have g6:=B.trans N;have I:r<26 ^ 8:=eh L mq;refine⟨r,rfl,C,I,?_⟩;have nl:=Nl (n:=r.toNat) (b8 C I);have X:z.length+(C0 (MA.lets r.toNat)).length<=16:=by have:=u.2.1;have:=nl.2.1;omega
  refine⟨_,_,rfl,rfl,small (by omega),?_⟩;refine⟨_,rfl,_,rfl,small (by rw[eG];omega),?_⟩;refine⟨_,rfl,cY (by decide) (by decide) (by rw[eG];have:=u.1;omega) (λc D=>?_),g6⟩;rw[YI]at D;rcases List.mem_append.mp D with D|D
  .exact u.2.2 c D
  .exact nl.2.2 c D
 clear o g;rintro σ' H3⟨y,rfl,o,g⟩;refine⟨λσ' H'=>∃x,σ'=[some (.ref p),some (.ref q),some (.ref l),some (.int b),some (.str x),none]/\Nm x/\BI p H H',?_,?_⟩
 .refine⟨_,rfl,rfl,_,rfl,?_⟩;refine Ag (λc=>?_) (λc=>LB ⟨y,rfl,o,g⟩);refine⟨_,rfl,(by show 0<=sizeLine;decide),λe U=>?_⟩;have t:=g.trans (BI.of g.AQ (CH U (.lst [])));have J:=t.Lu G Ai;refine⟨q,e,_,[],rfl,rfl,.inl ⟨J,AN.of AY⟩,NN ns,rfl,_,rfl,?_⟩;rw[dW];refine Ag (λc2=>?_) (λc2=>⟨y,rfl,o,t⟩);have LW:0<ns.length:=by
   cases ns with
   |nil=>simp at c2
   |cons a r=>simp
  refine⟨_,rfl,_,rfl,_,rfl,q,_,rfl,.inl J,p,_,rfl,t.AQ,(by rw[hl];omega),(by rw[hl];omega),λi H5 i0 i1 O=>?_⟩;rw[hl]at i1;have B:=t.trans O;obtain⟨z,S,Sf,_⟩:=aQ i0 i1;have u:=W z Sf;refine⟨q,_,_,_,rfl,rfl,B.Lu G Ai,S,?_⟩;have lO:=u.1;have nz2:=u.2.1;refine⟨_,rfl,_,rfl,_,rfl,_,rfl,small (by omega),p,_,rfl,B.AQ,(by omega),(by omega),λr H6 C L N=>?_⟩;refine⟨_,_,rfl,rfl,_,rfl,_,rfl,small (by omega),?_⟩;exact⟨_,rfl,cY (by omega) (by omega) lO u.2.2,B.trans N⟩
 clear o g;rintro σ' H3⟨y,rfl,o,g⟩;refine⟨λσ' H'=>∃x v,σ'=[some (.ref p),some (.ref q),some (.ref l),some (.int b),some (.str x),some v]/\Nm x/\x∉ns/\H3=H',?_,?_⟩
 .refine⟨λm σ' H'=>∃(k:Nat)(x:Str),σ'=[some (.ref p),some (.ref q),some (.ref l),some (.int b),some (.str x),some (.int k)]/\H3=H'/\Nm x/\m=ns.length+1 - k/\k<=ns.length+1/\(0<k->x=C0 (MA.lets (k - 1)))/\(∀j,j+1<k->C0 (MA.lets j)∈ns),
   ⟨ns.length+1,0,y,rfl,rfl,o,rfl,DV _,λh=>absurd h (by decide),λj h=>absurd h (by omega)⟩,?_⟩
  rintro m σ' H'⟨k,x,rfl,rfl,nx,rfl,hk,hx,hj⟩;refine⟨_,rfl,_,rfl,q,_,rfl,.inl (g.Lu G Ai),rfl,NN ns,_,rfl,?_⟩;rw[hZ (by decide),Us];refine Ag (λc=>?_) (λc=>⟨x,_,rfl,nx,λz=>c (gS z),rfl⟩);have Je:x∈ns:=gP c;have σ:∀j,j<k->C0 (MA.lets j)∈ns:=λj Zh=>by
   by_cases e:j+1<k
   .exact hj j e
   .have e2:j=k - 1:=by omega
    rw[e2,<- hx (by omega)];exact Je
  have yn:=mE σ;refine⟨λσ' H'=>σ'=[some (.ref p),some (.ref q),some (.ref l),some (.int b),some (.str (C0 (MA.lets k))),some (.int ((k:Int)+1))]/\H3=H',?_,?_⟩
  .rintro σ' H'⟨rfl,rfl⟩;exact⟨ns.length+1 - (k+1),by omega,k+1,C0 (MA.lets k),rfl,rfl,Nl (Lr (Ax yn Y) rf),rfl,by omega,λ_=>rfl,λj Zh=>σ j (by omega)⟩
  .refine⟨_,rfl,k,rfl,by omega,?_,?_⟩
   .have:(k:Int)<=1000:=by omega
    exact JG this uU
   .rw[GO];exact⟨_,rfl,_,_,rfl,rfl,rfl,rfl⟩
 rintro σ' H'⟨x,v,rfl,nx,hx,rfl⟩;exact⟨_,rfl,K1 x H3 nx hx g⟩
def UE:B8 ["pot","many","names","k"] ["pot","many"] (AW Vl):=by walk_at "z1"
def lM(F:AM K "_law_names" "_law_names" Vl f fd)(m:mg "_law_names"=some (.ref f)):
  AD P w K mg Zk "_law_names" 3 ["pot","many"] (dO):=by
 refine AD.mk F (F.binds (by walk_at "bD2")) m (F.BX (k:=2) UE (λvs H Q E h=>?_) (λAS A outer s H vs Q E t h=>?_))
 .obtain⟨p,m,rfl,d,o,j,q⟩:=h;rfl
 obtain⟨p,m,rfl,d,o,j,q⟩:=h;refine⟨_,(AF rfl (Ac 2 UE.nd (D3 A3))
   (AF rfl (C1 (LH Kg rfl (MX rfl Ec (A0 (qv 1) A3)) (HS 3 UE.nd) (AL rfl (J8 (CF JM Wx X0 PX (qv 2) (A0 (AV Ju t (A0 (qv 0) (A0 (qv 2) A3))) A3))))))
   (AL rfl (Ak (qv 2))))),?_⟩
 refine⟨(by show 0<=sizeLine;decide),λl hl=>?_⟩;have c:=d.ne hl;refine⟨λσ' H'=>∃(ns:List Str)(v:Option V),σ'=[some (.ref p),some (.int m),some (.ref l),v]/\BI p H H'/\H' l=some (.lst (ns.map V.str))/\(ns.length:Int)=m/\(∀x∈ns,Nm x)/\ns.Nodup,?_,?_⟩
 .refine⟨_,rfl,m,rfl,by omega,by omega,sN (n:=m.toNat) (λi σ' H'=>∃(ns:List Str)(v:Option V),σ'=[some (.ref p),some (.int m),some (.ref l),v]/\BI p H H'/\H' l=some (.lst (ns.map V.str))/\ns.length=i/\(∀x∈ns,Nm x)/\ns.Nodup) ?_ ?_ ?_⟩
  .exact⟨[],none,rfl,(BI.of d (A9.refl H)).upd hl c,AY,rfl,λx hx=>absurd hx (by simp),by simp⟩
  .rintro i σ' H' hi⟨ns,v,rfl,g,e,a,b,nd⟩;refine⟨_,rfl,.inl ⟨rfl,_,AN.of e⟩,_,rfl,_,rfl,p,l,ns,rfl,g.AQ,AN.of e,c,b,by omega,λx H2 nx hx s2=>?_⟩;refine⟨l,_,_,rfl,rfl,s2.at' e c,Lr (m:=100) (by rw[AH];omega) (by decide +kernel),?_⟩;refine⟨ns++[x],_,rfl,(g.trans s2).upd hl c,by rw[AY,En];rfl,by rw[Cm];simp[a],λy r=>?_,yC nd hx⟩;rcases List.mem_append.mp r with h|h
   .exact b y h
   .have:y=x:=by simpa using h
    rw[this];exact nx
  .rintro σ' H'⟨ns,v,rfl,g,e,a,b,nd⟩;exact⟨ns,v,rfl,g,e,by omega,b,nd⟩
 rintro σ' H'⟨ns,v,rfl,g,e,a,b,nd⟩;exact⟨_,rfl,q l H' ns hl g e a b nd⟩
def Vg:B8 ["pot","most","many"] ["pot","most"] (AW W4):=by walk_at "z1"
def x5(F:AM K "_law_row" "_law_row" W4 f fd)(m:mg "_law_row"=some (.ref f)):
  AD P w K mg Zk "_law_row" 4 ["pot","most"] (SA):=by
 have Ap:=Fz.AD.XX Ap;refine AD.mk F (F.binds (by walk_at "bD2")) m (F.BX (k:=3) Vg (λvs H Q E h=>?_) (λAS A outer s H vs Q E b h=>?_))
 .obtain⟨p,m,rfl,o,i,x,q⟩:=h;rfl
 obtain⟨p,m,rfl,o,i,x,q⟩:=h;refine⟨_,(AF rfl (Ac 2 Vg.nd (AV Ap b (A0 (qv 0) (A0 (Ae EZ (qv 1) A4) A3))))
   (AF rfl (C1 (B9 (Az BL (AV Ap b (A0 (qv 0) (A0 A4 A3))) A4) (AL rfl (Ac 2 Vg.nd (B2 Ff (Cu (A0 A4 (A0 A4 (A0 (qv 1) A3)))) (AV Ap b (A0 (qv 0) (A0 A4 A3)))))) BD))
   (AL rfl (Ak (AV TB b (A0 (qv 0) (A0 (qv 2) A3))))))),?_⟩
 refine⟨_,rfl,_,rfl,_,_,rfl,rfl,p,_,rfl,o,by omega,by omega,λa H1 n0 J d=>?_⟩;refine⟨λσ' H'=>∃k:Int,σ'=[some (.ref p),some (.int m),some (.int k)]/\0<=k/\k<=m/\BI p H H',?_,?_⟩
 .refine⟨_,rfl,p,8,rfl,d.AQ,by decide,by decide,λr H2 I G s2=>?_⟩;have c:=d.trans s2;refine⟨rfl,_,rfl,?_⟩;refine Ag (λ_=>?_) (λ_=>⟨a,rfl,n0,by omega,c⟩);refine⟨_,rfl,(by show 3<=sizeLine;decide +kernel),λt n=>?_⟩;have D:=c.AQ.ne n;have v:=c.trans (BI.of c.AQ (CH n (.tup [.int 0,.int 1,.int m])));refine⟨_,rfl,p,3,rfl,v.AQ,by decide,by decide,λj H4 z y s4=>?_⟩;obtain⟨k,B,k0,k1⟩:=xP z y i;exact⟨t,_,_,_,rfl,rfl,Al.of (s4.at' AY D),B,k,rfl,k0,k1,v.trans s4⟩
 rintro σ' H'⟨k,rfl,k0,k1,g⟩;refine⟨_,rfl,_,rfl,p,k,rfl,g.AQ,k0,by omega,λl H' ns hl s e u C nd=>?_⟩;exact q l H' ns (g.none hl) (g.trans s) e (by omega) C nd
def jJ:B8 ["pot"] ["pot"] (AW V6):=by walk_at "z1"
def d9 : ∀ss R,Rg ss R->ss.length=1:=by rintro _ _⟨rfl,rfl⟩;rfl
def jX(F:AM K "_law_number" "_law_number" V6 f fd)(m:mg "_law_number"=some (.ref f)):
  AD P w K mg Zk "_law_number" 2 ["pot"] (An Rg):=by
 refine AD.mk F (F.binds (by walk_at "bD1")) m (F.BX (k:=1) jJ (λvs H Q E h=>Fz.Cv d9 h) (λAS A outer s H vs Q E a h=>?_))
 refine⟨_,(AL rfl (Ak (AV Ap a (A0 (qv 0) (A0 (B2 Ff (Cu (A0 A4 (A0 A4 (A0 (Ae Im A4 A4) (A0 (Ae Im A4 A4) A3))))) (AV Ap a (A0 (qv 0) (A0 A4 A3)))) A3))))),?_⟩;refine Fz.Cw h d9 ?_;rintro _ _⟨rfl,rfl⟩;show Ws [_] _ _ _
 walk_at "ww"
 refine⟨⟨by decide,by decide,by decide +kernel⟩,?_⟩
 walk_at "ww"
 refine⟨⟨by decide,by decide,by decide +kernel⟩,?_⟩
 walk_at "ww"
 refine⟨by simp,?_⟩
 walk_at "ww"
 refine⟨by decide,by decide +kernel,λr a=>?_⟩;obtain⟨N,n0,b,e⟩:=jk (r:=r) (by omega);refine⟨_,_,rfl,e,N,rfl,n0,JG b (by decide +kernel),λn c=>⟨n,?_,rfl⟩⟩;exact Int.ofNat_lt.mp (Int.lt_of_lt_of_le c b)
def Ja:B8 ["pot","names","name","other","one","two","rule","some"] ["pot","names"] (AW Sj):=by walk_at "z1"
def dj : ∀ss R,VB ss R->ss.length=2:=by rintro _ _⟨ns,rfl,a,b,rfl⟩;rfl
def vq(F:AM K "_law_any_entry" "_law_any_entry" Sj f fd)(m:mg "_law_any_entry"=some (.ref f)):
  AD P w K mg Zk "_law_any_entry" 3 ["pot","names"] (An VB):=by
 refine AD.mk F (F.binds (by walk_at "bD2")) m (F.BX (k:=2) Ja (λvs H Q E h=>Fz.Cv dj h) (λAS A outer s H vs Q E a h=>?_))
 refine⟨_,(AF rfl (Ac 2 Ja.nd (B2 Bv (Ae Il (qv 1) (D3 (A0 (AV Ju a (A0 (qv 0) (A0 (D3 A3) A3))) A3))) (AV Ap a (A0 (qv 0) (A0 (Ae EZ (AU Ds Ad (A0 (qv 1) A3)) A4) A3)))))
   (AF rfl (Ac 3 Ja.nd (B2 Bv (Ae Il (qv 1) (D3 (A0 (AV Ju a (A0 (qv 0) (A0 (D3 A3) A3))) A3))) (AV Ap a (A0 (qv 0) (A0 (Ae EZ (AU Ds Ad (A0 (qv 1) A3)) A4) A3)))))
   (AF rfl (Ac 4 Ja.nd (AV OO a (A0 (qv 0) A3)))
   (AF rfl (Ac 5 Ja.nd (AV OO a (A0 (qv 0) A3)))
   (AF rfl (Ac 6 Ja.nd (B2 Ff (Cu (A0 AI (A0 AI (A0 AI A3)))) (AV Ap a (A0 (qv 0) (A0 A4 A3)))))
   (AF rfl (Ac 7 Ja.nd (D3 (A0 (Cu (A0 AI (A0 (qv 2) (A0 (qv 4) A3)))) (A0 (Cu (A0 AI (A0 (qv 2) A3))) (A0 (Cu (A0 AI (A0 (qv 2) (A0 (qv 4) A3)))) (A0 (Cu (A0 AI (A0 (qv 4) (A0 (qv 5) A3)))) (A0 (Cu (A0 AI (A0 (qv 2) (A0 (qv 6) A3)))) A3)))))))
   (AL rfl (Ak (B2 Bv (Ae Il (qv 7) (D3 (A0 (Cu (A0 AI (A0 (qv 2) (A0 (qv 3) A3)))) (A0 (Cu (A0 AI (A0 (qv 2) A3))) A3)))) (AV Ap a (A0 (qv 0) (A0 A4 A3)))))))))))),?_⟩
 refine Fz.Cw h dj ?_;rintro _ _⟨ns,rfl,G,c,rfl⟩;show Ws [_,_,.any,.any,.any,.any,.any,.any] _ _ _
 walk_at "ww"
 refine⟨by simp,_,.inl ⟨rfl,rfl,[],rfl,by simp,by simp,λe MT _=>?_⟩⟩
 walk_at "ww"
 refine⟨by simp,?_⟩
 walk_at "ww"
 refine⟨by rw[AH];show _+1<=_;omega,?_⟩
 walk_at "ww"
 rw[AH];refine⟨by omega,JG (show((ns.length:Int)+1)<=101 by omega) (by decide +kernel),λn v=>?_⟩;obtain⟨nm,O1,D⟩:=eK (x:=e) c MT (r:=n) (by omega);refine⟨_,_,rfl,D,?_⟩
 walk_at "ww"
 refine⟨by simp,_,.inl ⟨rfl,rfl,[],rfl,by simp,by simp,λd Ep _=>?_⟩⟩
 walk_at "ww"
 refine⟨by simp,?_⟩
 walk_at "ww"
 refine⟨by rw[AH];show _+1<=_;omega,?_⟩
 walk_at "ww"
 rw[AH];refine⟨by omega,JG (show((ns.length:Int)+1)<=101 by omega) (by decide +kernel),λj u=>?_⟩;obtain⟨o,P1,C⟩:=eK (x:=d) c Ep (r:=j) (by omega);refine⟨_,_,rfl,C,?_⟩;refine BF (JZ (PZ rfl (Bw ⟨_,⟨rfl,rfl⟩,?_⟩)));rintro _⟨one,h1,rfl⟩;refine BF (JZ (PZ rfl (Bw ⟨_,⟨rfl,rfl⟩,?_⟩)));rintro _⟨two,h2,rfl⟩
 walk_at "ww"
 refine⟨by simp,?_⟩
 walk_at "ww"
 refine⟨by decide,by decide +kernel,λi t=>?_⟩;obtain⟨g,Pb,B⟩:=jL (r:=i) (by omega);refine⟨_,_,rfl,B,?_⟩
 walk_at "ww"
 refine⟨by simp,?_⟩
 walk_at "ww"
 refine⟨by simp,?_⟩
 walk_at "ww"
 refine⟨by simp,?_⟩
 walk_at "ww"
 refine⟨by simp,?_⟩
 walk_at "ww"
 refine⟨by simp,?_⟩
 walk_at "ww"
 refine⟨by simp,?_⟩
 walk_at "ww"
 refine⟨by simp,?_⟩
 walk_at "ww"
 refine⟨by simp,?_⟩
 walk_at "ww"
 refine⟨by simp,?_⟩
 walk_at "ww"
 refine⟨by simp,?_⟩
 walk_at "ww"
 refine⟨by decide,by decide +kernel,λb q=>?_⟩;obtain⟨p,y,z⟩:=dN (l:=[PV.tup [.str "put", .str nm,.int one],.tup [.str "take", .str nm],.tup [.str "move", .str nm,.int one],.tup [.str "turn", .int one,.int two],.tup [.str "begin", .str nm,.str g],.tup [.str "tell", .str nm,.str o],.tup [.str "over", .str nm]]) (r:=b) (by show b<7;omega);refine⟨_,_,rfl,z,?_⟩;exact gZ O1 P1 h1 h2 Pb y
def uK:B8 ["text"] ["text"] (AW O6):=by walk_at "z1"
def gD:Scope:={ kind:=.function,names:=[(".0", .local),("sign", .local)],isGenerator:=false,isCoroutine:=false,more:=[] }
def lH:DN ["text"] (AW O6) gD "sign" [] []:=by walk_at "z2"
def lY(F:AM K "_law_is_name" "_law_is_name" O6 f fd)(m:mg "_law_is_name"=some (.ref f)):
  AD P w K mg Zk "_law_is_name" 1 ["text"] (KY):=by
 refine AD.mk F (F.binds (by walk_at "bD1")) m (F.BX (k:=0) uK (λvs H Q E h=>?_) (λAS A outer s H vs Q E g h=>?_))
 .obtain⟨x,rfl,hx,q⟩:=h;rfl
 obtain⟨x,rfl,hx,q⟩:=h;refine⟨_,(AL rfl (Ak (Fw (XR HF HF A4 (AU Kk Ad (A0 (qv 0) A3)) A4) (G2 (AU (GX rfl) BV (A0 (Fu rfl lH (Pe (qv 0)) (λ_ _ _ _=>by exact Dy) (λ_ _ _ _=>by exact(DP Q8 (qv 0) AI))) A3)))))),?_⟩;refine⟨_,rfl,_,rfl,small (by omega),_,_,rfl,rfl,_,rfl,?_⟩;refine Ag (λc=>?_) (λc=>⟨_,rfl,LB ?_⟩)
 .refine⟨_,_,rfl,rfl,_,rfl,?_⟩;refine Ag (λc2=>?_) (λc2=>?_)
  .refine⟨_,rfl,x,rfl,λacc Am=>bN (λ_=>true) Rn Am (by rw[<- CK,<- G4];exact small (by omega)) (λi v H' Q' _ _ h=>h H' (A9.refl _)) (λi v H' Q' d _ _ h=>?_) (λH' b a=>?_)⟩
   .obtain⟨j,rfl⟩:=signs_get d;exact⟨_,rfl,_,_,rfl,rfl,h H' (A9.refl _)⟩
   .rw[df]at a;refine⟨acc,_,rfl,AN.of a,?_⟩;rw[all_map];have e:isNm x=x.cps.toList.all M9:=by unfold isNm;rw[c,c2];rfl
    rw[<- e];exact q H' b
  .have e:isNm x=false:=by unfold isNm;rw[Bool.eq_false_iff.mpr c2];simp
   rw[<- e];exact q H (A9.refl _)
 .have e:isNm x=false:=by unfold isNm;rw[Bool.eq_false_iff.mpr c];simp
  rw[<- e];exact q H (A9.refl _)
def mh:B8 ["word"] ["word"] (AW Oy):=by walk_at "z1"
def nR:Scope:={ kind:=.function,names:=[(".0", .local),("sign", .local)],isGenerator:=false,isCoroutine:=false,more:=[] }
def vf:DN ["word"] (AW Oy) nR "sign" [] []:=by walk_at "z2"
def YM : ∀ss R,Ko ss R->ss.length=1:=by rintro _ _⟨w,rfl,hw,rfl⟩;rfl
def vg(F:AM K "_law_is_number" "_law_is_number" Oy f fd)(m:mg "_law_is_number"=some (.ref f)):
  AD P w K mg Zk "_law_is_number" 1 ["word"] (An Ko):=by
 refine AD.mk F (F.binds (by walk_at "bD1")) m (F.BX (k:=0) mh (λvs H Q E h=>Fz.Cv YM h) (λAS A outer s H vs Q E n h=>?_))
 refine⟨_,(AF rfl (B9 (Fh (Ei (Xg HF HF A4 (AU Kk Ad (A0 (qv 0) A3)) A4)) (IP (Ei (Ey (AU (GX rfl) BV (A0 (Fu rfl vf (Pe (qv 0)) (λ_ _ _ _=>by exact Dy) (λ_ _ _ _=>by exact(DP Q8 (qv 0) AI))) A3)))))).pt (AL rfl (Ak Hd)) BD)
   (AL rfl (Ak (Z0 (DP BL (qv 0) AI) (G2 (DP Vr (B2 US (qv 0) A4) AI)))))),?_⟩
 refine Fz.Cw h YM ?_;rintro _ _⟨w,rfl,hw,rfl⟩;show Ws [_] _ _ _;refine BF (Bx (FV (Dp (CC (RJ (BG ⟨_,rfl,TN (A7 rfl ⟨w,rfl,by omega,_,rfl,?_⟩)⟩))))));refine Ag (λc1=>?_) (λc1=>⟨_,rfl,D8 rfl (D8 rfl (BO (IV ?_)))⟩)
 .refine BG ⟨_,rfl,_,rfl,?_⟩;refine Ag (λc2=>D8 rfl (BO (IV ?_))) (λc2=>?_)
  .rw[L5 λh=>?_];rw[gS h.2.1]at c2;cases c2
  .refine Dp (E2 (K5 rfl (Bb (BW (IM (λc:Nat=>PV.str ⟨#[c]⟩) (λ_=>true) (λc=>.bl (Dz c)) (Xj (A7 rfl ⟨w,rfl,w.cps.toList,rfl,?_,λx hx=>Eu rfl,λx hx _=>?_,?_⟩)) (λa b h=>by injection h with h;injection h with h;simpa using h))))))
   .have:w.cps.toList.length=w.length:=by simp[Str.length]
    omega
   .exact dy (A7 rfl ⟨_,rfl,BP ⟨_,rfl,rfl⟩⟩)
   .rw[Gg];refine⟨_,.inl ⟨rfl,rfl,w.cps.toList.map Dz,by rw[CL];rfl,_,rfl,?_⟩⟩;refine Ag (λd=>BO (IV ?_)) (λd=>BC ?_)
    .rw[L5 λh=>?_];rw[h.2.2]at d;cases d
    .have h1:(1:Int)<=w.length:=gP c1;have h2:(w.length:Int)<=60:=by
      cases e:decide ((w.length:Int)<=60)with
      |true=>exact gP e
      |false=>exact absurd (by rw[e];rfl) c2
     have l:(w.cps.toList.map Dz).all id=true:=by
      cases e:(w.cps.toList.map Dz).all id with
      |true=>rfl
      |false=>exact absurd (by rw[e];rfl) d
     rw[dh h1 h2 l];refine BO (T5 (Gj (A7 rfl (BP ⟨rfl,_,rfl,?_⟩))));show if decide (w="0")=true then _ else _
     refine Ag (λg=>?_) (λg=>?_)
     .rw[g];rfl
     .refine Sr (dD (A7 rfl ⟨w,rfl,by omega,?_⟩));have hl:w.cps.toList.length=w.length:=by simp[Str.length]
      cases i:w.cps.toList with
      |nil=>rw[i]at hl;simp at hl;omega
      |cons a r=>
       refine BG ⟨0,a,rfl,(Ez (j:=0) rfl:BA (a::r) ((0:Nat):Int)=some a),BP ⟨rfl,?_⟩⟩;rw[Bool.eq_false_iff.mpr g,eU];show PV.bl (!decide ((⟨#[a]⟩:Str)="0"))=_
       congr 2
       refine decide_eq_decide.mpr ⟨λh=>?_,λh=>?_⟩
       .have:({ cps:=#[a] }:Str).cps.toList=("0":Str).cps.toList:=iK (λz:Str=>z.cps.toList) h;rw[show({ cps:=#[a] }:Str).cps.toList=[a]from rfl,dM]at this
        simpa using this
       .have h:a=48:=by simpa using h
        subst h;decide
 .rw[L5 λh=>c1 (gS h.1)]
def tN:B8 ["sort","word"] ["sort","word"] (AW Uc):=by walk_at "z1"
def aZ : ∀ss R,VY ss R->ss.length=2:=by rintro _ _⟨s,w,rfl,_,rfl⟩;rfl
def yh(F:AM K "_law_sort" "_law_sort" Uc f fd)(m:mg "_law_sort"=some (.ref f)):
  AD P w K mg Zk "_law_sort" 2 ["sort","word"] (An VY):=by
 refine AD.mk F (F.binds (by walk_at "bD2")) m (F.BX (k:=1) tN (λvs H Q E h=>Fz.Cv aZ h) (λAS A outer s H vs Q E a h=>?_))
 refine⟨_,(AF rfl (B9 (Az BL (qv 0) AI) (AL rfl (Ak (AV TH a (A0 (qv 1) A3)))) BD)
   (AF rfl (B9 (Az BL (qv 0) AI) (AL rfl (Ak (DP Sh (qv 1) (Cu (A0 AI (A0 AI (A0 AI A3))))))) BD)
   (AL rfl (Ak (AV LS a (A0 (qv 1) A3)))))),?_⟩
 refine Fz.Cw h aZ ?_;rintro _ _⟨s,u,rfl,hw,rfl⟩;show Ws [_,_] _ _ _
 walk_at "ww"
 show if decide (s="a")=true then _ else _
 refine Ag (λc=>?_) (λc=>BC ?_)
 .refine BO (wp_call (C7 (A7 rfl (Bw ⟨_,⟨u,rfl,hw,rfl⟩,?_⟩))));rintro _ rfl;unfold DZ;rw[i6 (gP c)]
 have c:¬ s="a" := λz=>c (gS z)
 walk_at "ww"
 show if decide (s="r")=true then _ else _
 refine Ag (λc2=>?_) (λc2=>BC ?_)
 .walk_at "ww"
  refine⟨by simp,_,.inr ⟨rfl,Li,rfl,?_⟩⟩;unfold DZ;rw[hZ c,i6 (gP c2)]
 have c2:¬ s="r" := λz=>c2 (gS z);refine BO (V2 (A7 rfl ⟨u,rfl,hw,?_⟩));unfold DZ;rw[hZ c,hZ c2]
def OB:B8 ["sorts","words","parts","sort","word"] ["sorts","words"] (AW Qi):=by walk_at "z1"
def bb : ∀ss R,SV ss R->ss.length=2:=by rintro _ _⟨z,ws,rfl,_,_,_,_,rfl⟩;rfl
def uz(F:AM K "_law_parts" "_law_parts" Qi f fd)(m:mg "_law_parts"=some (.ref f)):
  AD P w K mg Zk "_law_parts" 1 ["sorts","words"] (An SV):=by
 refine AD.mk F (F.binds (by walk_at "bD2")) m (F.BX (k:=0) OB (λvs H Q E h=>Fz.Cv bb h) (λAS A outer s H vs Q E r h=>?_))
 refine⟨_,(AF rfl (Ac 2 OB.nd (D3 A3))
   (AF rfl (C1 (LH Kg rfl (aY rfl Fc (A0 (qv 0) (A0 (qv 1) A3))) (yI rfl (QB (HS 3 OB.nd) (QB (HS 4 OB.nd) Yp))) (AL rfl (B9 (Az BL (qv 3) AI) (AL rfl (J8 (CF JM Wx X0 PX (qv 2) (A0 (Gq bj EM (A0 (qv 4) A3)) A3)))) (AL rfl (J8 (CF JM Wx X0 PX (qv 2) (A0 (qv 4) A3))))))))
   (AL rfl (Ak (qv 2))))),?_⟩
 refine Fz.Cw h bb ?_;rintro _ _⟨z,ws,rfl,ha,q,hl,o,rfl⟩;show Ws [_,_,.any,.any,.any] _ _ _;refine BF (De (Ii (Ee ⟨by simp,?_⟩)));refine BF (DY (NR (λ_ i AK=>∃b s4:Slot,AK=[.is (.str z),.sq false (ws.map .str),.own ((List.zipWith Fb (CM z) ws).take i),b,s4]) (cB (A7 rfl ⟨z,rfl,ha,N5 rfl ⟨rfl,⟨_,_,rfl⟩,?_,?_⟩⟩))))
 .rintro i p AK n⟨b,s4,rfl⟩;obtain⟨s,u,rfl,g,d⟩:=uw n;have j:((List.zipWith Fb (CM z) ws).take i).length<=99999:=by
   rw[Em,QQ];omega
  have a:=fm o g d;refine sX ⟨_,_,rfl,?_⟩;show Ws [_,_,_,.is (.str s),.is (.str u)] _ _ _
  walk_at "ww"
  show if decide (s="a")=true then _ else _
  refine Ag (λc=>?_) (λc=>?_)
  .have e:s="a" := gP c;have l:isNum u=true:=by unfold DZ at a;rw[i6 e]at a;exact a
   refine PJ rfl (Yh (A7 rfl ⟨u,_,rfl,aF l,by have:=(LX l).2.2.1;omega,j,.is (.str s),.is (.str u),?_⟩));rw[YN g d];unfold Fb;rw[i6 e];rfl
  .have e:¬ s="a" := λz=>c (gS z);refine PJ rfl (A7 rfl ⟨j,.is (.str s),.is (.str u),?_⟩);rw[YN g d];unfold Fb;rw[hZ e];rfl
 .rintro _⟨b,s4,rfl⟩;refine OA rfl ?_;refine Kf ?_;rw[JE,QQ,AH];show min (CM z).length _<=min (GG z).length _;unfold CM GG;rw[AH,AH];exact AZ _
def Mu:B8 ["text","words","form","name","sorts"] ["text"] (AW P0):=by walk_at "z1"
def vB:Scope:={ kind:=.function,names:=[(".0", .local),("sort", .local),("word", .local),("_law_sort", .globalImplicit)],isGenerator:=false,isCoroutine:=false,more:=[] }
def pW:HI ["text","words","form","name","sorts"] (AW P0) vB ["sort","word"] [] []:=by walk_at "z3"
def ZG : ∀ss R,Ql ss R->ss.length=1:=by rintro _ _⟨x,rfl,_,rfl⟩;rfl
def xG(F:AM K "_law_entry" "_law_entry" P0 f fd)(m:mg "_law_entry"=some (.ref f)):
  AD P w K mg Zk "_law_entry" 3 ["text"] (An Ql):=by
 refine AD.mk F (F.binds (by walk_at "bD1")) m (F.BX (k:=2) Mu (λvs H Q E h=>Fz.Cv ZG h) (λAS A outer s H vs Q E G h=>?_))
 refine⟨_,(AF rfl (Ac 1 Mu.nd (CF FI Kh Ki Ij (qv 0) (A0 AI A3)))
   (AF rfl (C1 (LH Kg rfl (KR (Cu (A0 AI (A0 AI (A0 AI (A0 AI (A0 AI (A0 AI (A0 AI A3))))))))) (HS 2 Mu.nd) (AF rfl (IF (CF FI Kh Ki Ij (qv 2) (A0 AI A3)) (nK rfl (QB (HS 3 Mu.nd) (QB (HS 4 Mu.nd) Yp))))
   (AL rfl (B9 (ON (Az BL (B2 Bv (qv 1) A4) (qv 3)) (Pc (Az BL (AU Ds Ad (A0 (qv 1) A3)) (Ae EZ (AU Kk Ad (A0 (qv 4) A3)) A4)))).pt (AL rfl (B9 (Ey (AU (GX rfl) BV (A0 (SK rfl pW (.cons (.cons .nil)) (λ_=>rfl) (λ_=>rfl) (aY rfl Fc (A0 (qv 4) (A0 (Gx JF (qv 1) (FO A4) Ga) A3))) (λ_ _ _ _=>by exact Dy) (λ_ _ _ _=>by exact(AV WR G (A0 (qv 0) (A0 (qv 1) A3))))) A3))) (AL rfl (Ak (Gq dS G8 (A0 (Ae Il (D3 (A0 (qv 3) A3)) (AV SX G (A0 (qv 4) (A0 (Gx JF (qv 1) (FO A4) Ga) A3)))) A3)))) BD)) BD)))))
   (AL rfl (Ak Rv)))),?_⟩
 refine Fz.Cw h ZG ?_;rintro _ _⟨x,rfl,hx,rfl⟩;have hl:=Jq x;show Ws [_,.any,.any,.any,.any] _ _ _;refine BF (De (IY (A7 rfl ⟨x,rfl,BP ⟨" ", rfl,by decide,by omega,?_,?_⟩⟩)))
 .show(Aa x).length<=100000;omega
 obtain⟨u,r,es⟩:∃u r,Aa x=u::r:=by
  cases e:Aa x with
  |nil=>exact absurd e (Fq x)
  |cons a b=>exact⟨a,b,rfl⟩
 have J:=N6 es;have d:r.length<=1000/\(∀v∈r,v.length<=1000):=by
  rw[es]at hl;exact⟨by have:=hl.1;rw[B6]at this;omega,λv q=>by have:=hl.2 v (By _ q);omega⟩
 show Ws [_,.own ((Aa x).map .str),_,_,_] _ _ _;rw[es];have S:BA ((u::r).map PV.str) ((0:Nat):Int)=some (.str u):=Ez rfl;have cut:Eb ((u::r).map PV.str) (some 1) none=r.map .str:=by
  rw[KQ];exact iK (List.map PV.str) (OQ (u::r) 1)
 refine BF (DY (NR (λ_ i AK=>(∀(j:Nat)f,j<i->D5[j]?=some f->¬ (f.1=u/\Bu r f.2=true))/\∃s2 o s4:Slot,AK=[.is (.str x),.own ((u::r).map .str),s2,o,s4]) ?_))
 walk_at "ww"
 refine⟨by decide,_,.inr ⟨rfl,⟨λj f l=>absurd l (fR j),_,_,_,rfl⟩,?_,?_⟩⟩
 .rintro i p AK M⟨SR,s2,o,s4,rfl⟩;obtain⟨C,nm,z,ks,rfl,YR,D9,L,Nj,Mo,GD,N⟩:=rZ M;have R:=dR _ (DJ YR);have go:¬ (nm=u/\Bu r ks=true)->∀(j:Nat)f,j<i+1->D5[j]?=some f->¬ (f.1=u/\Bu r f.2=true):=λh j f l g=>by
   rcases Nat.lt_succ_iff_lt_or_eq.mp l with l|rfl
   .exact SR j f l g
   .rw[YR]at g;cases g;exact h
  refine Nr ?_;show Ws [_,_,.is (.str C),_,_] _ _ _;refine BF (gF (BW (IY (A7 rfl ⟨C,rfl,BP ⟨" ", rfl,by decide,by omega,?_,?_⟩⟩))))
  .rw[D9];simp
  rw[D9];refine v9 ⟨_,_,rfl,?_⟩;show Ws [_,_,_,.is (.str nm),.is (.str z)] _ _ _;refine Bx (VR (CC (Gj (EA (Ck rfl ⟨rfl,BG ⟨_,_,rfl,S,A7 rfl ⟨rfl,_,rfl,?_⟩⟩⟩)))));show if decide (u=nm)=true then _ else _
  refine Ag (λc=>?_) (λc=>?_)
  .have c:=gP c;subst c;have T:z.length=ks.length:=by
    have:=iK List.length Nj;unfold CM at this;rw[AH,AH]at this;rw[<- this];simp[Str.length]
   obtain⟨B,t⟩:=uq N r;rw[<- Nj]at B t
   walk_at "ww"
   refine TN (A7 rfl ⟨z,rfl,by omega,_,rfl,BG ⟨_,rfl,rfl,_,rfl,?_⟩⟩);have O:alike (PV.int ((List.map PV.str (u::r)).length:Int)) (PV.int ((z.length:Int)+1))=decide (r.length=ks.length):=by
    show decide (((List.map PV.str (u::r)).length:Int)=(z.length:Int)+1)=_;rw[AH,B6];exact decide_eq_decide.mpr ⟨λh=>by omega,λh=>by omega⟩
   rw[O];refine Ag (λc2=>?_) (λc2=>BC ⟨go λz=>?_,_,_,_,rfl⟩)
   .refine Bx (E2 (K5 rfl (Bb (BW (T6 (λ_=>true) V4 (cB (A7 rfl ⟨z,rfl,Mo,ND (BW (Hn (Ck rfl ⟨rfl,GF (BG ⟨1,rfl,HG ?_⟩)⟩)))⟩)))))));rw[cut];refine⟨_,.inl ⟨rfl,rfl,?_,λy D=>?_,?_⟩⟩
    .rw[JE,AH];omega
    .rw[dE]at D;obtain⟨V,U,h1,h2,rfl⟩:=e9 D;obtain⟨s,_,rfl⟩:=List.mem_map.mp h1;obtain⟨v,q,rfl⟩:=List.mem_map.mp h2;refine⟨_,rfl,rfl,Eu rfl,λ_=>?_⟩;refine wp_call (C7 (A7 rfl (C7 (A7 rfl (Bw ⟨_,⟨s,v,rfl,d.2 v q,rfl⟩,?_⟩)))));rintro _ rfl;rfl
    .rw[Gg,nW];refine⟨_,.inl ⟨rfl,rfl,_,rfl,_,rfl,?_⟩⟩;have I:Bu r ks=(List.zipWith DZ (CM z) r).all id:=by unfold Bu;rw[c2,El,B]
     refine Ag (λn=>?_) (λn=>BC ⟨go λz=>n (by rw[<- I];exact z.2),_,_,_,rfl⟩);refine BO (UN rfl (Bb (BW (N3 (Bb (BW (Ii (Co (A7 rfl (Ee ⟨by simp,?_⟩))))))))));refine⟨_,.inl ⟨rfl,rfl,Bb (BW (YG (C7 (A7 rfl (Jl (Bb (BW (Hn (Ck rfl ⟨rfl,GF (BG ⟨1,rfl,HG ?_⟩)⟩)))))))))⟩⟩;rw[cut];refine⟨_,.inl ⟨rfl,Bw ⟨_,⟨z,r,rfl,Mo,GD,d.1,n,rfl⟩,?_⟩⟩⟩;rintro _ rfl;refine⟨_,.inl ⟨rfl,rfl,?_,_,.inl ⟨rfl,?_⟩⟩⟩
     .rw[QQ];show 1+_<=_;omega
     .unfold C2;rw[J,ZO R (I.trans n),t];rfl
   .have:=z.2;unfold Bu at this;rw[Bool.eq_false_iff.mpr c2]at this;cases this
  .exact BC ⟨go λz=>c (gS z.1.symm),_,_,_,rfl⟩
 .rintro _⟨SR,s2,o,s4,rfl⟩;refine BO (Uo ?_);unfold C2;rw[J,xx λj f g=>SR j f (by have:=(List.getElem?_eq_some_iff.mp g).1;exact this) g];rfl
def Js:B8 ["text","rows","row","log","k","entry"] ["text"] (AW Of):=by walk_at "z1"
def gM:Scope:={ kind:=.function,names:=[(".0", .local),("name", .local),("_law_is_name", .globalImplicit)],isGenerator:=false,isCoroutine:=false,more:=[] }
def l8:DN ["text","rows","row","log","k","entry"] (AW Of) gM "name" [] []:=by walk_at "z2"
def dI : ∀ss R,Vp ss R->ss.length=1:=by rintro _ _⟨x,x0,ls,rfl,_,_,rfl⟩;rfl
def yo(F:AM K "_law_read" "_law_read" Of f fd)(m:mg "_law_read"=some (.ref f)):
  AD P w K mg Zk "_law_read" 4 ["text"] (An Vp):=by
 refine AD.mk F (F.binds (by walk_at "bD1")) m (F.BX (k:=3) Js (λvs H Q E h=>Fz.Cv dI h) (λAS A outer s H vs Q E D h=>?_))
 refine⟨_,(AF rfl (Ac 1 Js.nd (CF FI Kh Ki Ij (qv 0) (A0 AI A3)))
   (AF rfl (Ac 2 Js.nd (CF FI Kh Ki Ij (B2 Bv (qv 1) A4) (A0 AI A3)))
   (AF rfl (C1 (B9 (Az BL (B2 Bv (qv 1) A4) AI) (AL rfl (Ac 2 Js.nd (D3 A3))) BD))
   (AF rfl (B9 (Fh (Az LF (AU Ds Ad (A0 (qv 2) A3)) A4) (Fh (Az Uu (AU call_len_set Ad (A0 (Gq (aj rfl) LY (A0 (qv 2) A3)) A3)) (AU Ds Ad (A0 (qv 2) A3))) (IP (Ei (Ey (AU (GX rfl) BV (A0 (Fu rfl l8 (KR (qv 2)) (λ_ _ _ _=>by exact Dy) (λ_ _ _ _=>by exact(AV LS D (A0 (qv 0) A3)))) A3))))))).pt (AL rfl (Ak A4)) BD)
   (AF rfl (Ac 3 Js.nd (D3 A3))
   (AF rfl (C1 (LH Kg rfl (wz rfl Ec (A0 A4 (A0 (AU Ds Ad (A0 (qv 1) A3)) A3))) (HS 4 Js.nd) (AF rfl (Ac 5 Js.nd (AV VI D (A0 (B2 Bv (qv 1) (qv 4)) A3)))
   (AF rfl (B9 (Fh (Az l0 (qv 5) Rv) (IP (Az LF (qv 4) A4))).pt (AL rfl (Ak (qv 4))) BD)
   (AL rfl (J8 (CF JM Wx X0 PX (qv 3) (A0 (qv 5) A3))))))))
   (AL rfl (Ak (Cu (A0 (qv 2) (A0 (qv 3) A3))))))))))),?_⟩
 refine Fz.Cw h dI ?_;rintro _ _⟨x,x0,ls,rfl,hx,C,rfl⟩;have hl:=bf x;obtain⟨MT,Ep⟩:=hx;have U:=Jq x0;have N:x0.length<=900:=Ep x0 (by rw[C];simp);have hw:(BB x0).length<=1000/\∀v∈BB x0,v.length<=1000:=by
  unfold BB;split
  .exact⟨by simp,λv e=>by cases e⟩
  .exact⟨by omega,λv e=>by have:=U.2 v e;omega⟩
 show Ws [_,.any,.any,.any,.any,.any] _ _ _;refine BF (De (IY (A7 rfl ⟨x,rfl,BP ⟨"\n", rfl,by decide,by omega,?_,?_⟩⟩)))
 .show(DD x).length<=100000;omega
 show Ws [_,.own ((DD x).map .str),_,_,_,_] _ _ _;rw[C]at hl Ep ⊢;have S:ls.length<=90000:=by have:=hl.1;rw[B6]at this;omega
 refine LD 1 rfl ?_;show Ws [_,.is (.lst ((x0::ls).map .str)),_,_,_,_] _ _ _;have G:BA ((x0::ls).map PV.str) ((0:Nat):Int)=some (.str x0):=Ez rfl;refine BF (De (IY (EA (LA rfl ⟨rfl,BG ⟨_,_,rfl,G,x0,rfl,BP ⟨" ", rfl,by decide,by omega,?_,?_⟩⟩⟩))))
 .show(Aa x0).length<=100000;omega
 show Ws [_,_,.own ((Aa x0).map .str),_,_,_] _ _ _;refine FP (λAK=>AK=[.is (.str x),.is (.lst ((x0::ls).map .str)),.own ((BB x0).map .str),.any,.any,.any]) (DY (Bx (CC (Gj (EA (LA rfl ⟨rfl,BG ⟨_,_,rfl,G,BP ⟨rfl,_,rfl,?_⟩⟩⟩)))))) ?_
 .show if decide (x0="-")=true then _ else _
  refine Ag (λc=>?_) (λc=>BC ?_)
  .refine De (Ii (Ee ⟨by simp,?_⟩));unfold BB;rw[i6 (gP c)];rfl
  .unfold BB;rw[hZ λz=>c (gS z)]
 rintro _ rfl;refine LD 2 rfl ?_;show Ws [_,_,.is (.lst ((BB x0).map .str)),_,_,_] _ _ _;have u:D0 (BB x0)=false->FX x0 ls=.int 0:=λh=>by
  unfold FX bad;rw[h];rfl
 refine BF (Bx (FV (CC ?_)))
 walk_at "ww"
 rw[AH];refine Ag (λc=>D8 rfl (BO (BG ?_))) (λc=>?_)
 .rw[u (rw_no λh=>?_)];have:=gP c;omega
 have c:(BB x0).length<=40:=by
  refine QX λh=>c (gS (by omega))
 refine FV (CC ?_)
 walk_at "ww"
 refine⟨by omega,_,rfl,?_⟩
 walk_at "ww"
 rw[AH];refine Ag (λc1=>D8 rfl (BO (BG ?_))) (λc1=>?_)
 .rw[u (rw_no λh=>?_)];have:=gP c1;omega
 have J:(dd (BB x0)).length=(BB x0).length:=by
  have h1:=Zg (BB x0);refine Nat.le_antisymm h1 (QX λh=>c1 (gS (by omega)))
 refine Dp (E2 (K5 rfl (Bb (BW (IM PV.str (λ_=>true) (λx=>.bl (isNm x)) (N9 ?_) (λa b h=>by injection h))))))
 walk_at "ww"
 refine⟨by omega,λv e=>Eu rfl,λv e _=>V2 (A7 rfl ⟨v,rfl,hw.2 v e,rfl⟩),?_⟩;rw[Gg];refine⟨_,.inl ⟨rfl,rfl,(BB x0).map isNm,by rw[CL];rfl,_,rfl,?_⟩⟩;rw[NV,show(BB x0).all (id ∘ isNm)=(BB x0).all isNm from rfl];refine Ag (λc2=>BO (BG ?_)) (λc2=>BC ?_)
 .rw[u (rw_no λh=>?_)];rw[h.2.2]at c2;cases c2
 have ok:=rw_yes c J (UM c2);have rd:∀n,Er 1 ls=some n->FX x0 ls=.int n:=λn h=>by
  unfold FX bad;rw[i6 ok,h]
 refine BF (De (Ii (Ee ⟨by simp,?_⟩)));refine BF (DY (NR (λ_ i AK=>(∀(j:Nat)l,j<i->ls[j]?=some l->¬ (400<1+j∨Bm l=none))/\∃s4 t:Slot,AK=[.is (.str x),.is (.lst ((x0::ls).map .str)),.is (.lst ((BB x0).map .str)),.own ((ls.take i).map C2),s4,t]) ?_))
 walk_at "ww"
 have M:(((x0::ls).map PV.str).length:Int)=ls.length+1:=by rw[AH,B6];omega
 rw[M,show(((ls.length:Int)+1) - 1).toNat=ls.length by omega];refine⟨by omega,⟨λj l d=>absurd d (fR j),_,_,rfl⟩,?_,?_⟩
 .rintro i p AK R⟨g,s4,t,rfl⟩;obtain⟨hi,rfl⟩:=zB R;obtain⟨l,BM⟩:∃l,ls[i]?=some l:=⟨_,Aw hi⟩;have V:((1:Int)+i)=((1+i:Nat):Int):=by omega
  have L:BA ((x0::ls).map PV.str) ((1+i:Nat):Int)=some (.str l):=Ez (by
   rw[B3,Nat.add_comm,zV,BM];rfl)
  have I:((ls.take i).map C2).length<=99999:=by rw[AH,Em];omega
  have tk:(ls.take (i+1)).map C2=(ls.take i).map C2++[C2 l]:=by
   have e:=(List.getElem?_eq_some_iff.mp BM).2;rw[Lq hi,e,En];rfl
  refine Nr ?_;rw[V];show Ws [_,_,_,_,.is (.int ((1+i:Nat):Int)),_] _ _ _;refine BF (JZ (wp_call (C7 (EA (LA rfl ⟨rfl,A7 rfl ⟨_,_,rfl,L,Bw ⟨_,⟨l,rfl,Ep l (by simp[DJ BM]),rfl⟩,?_⟩⟩⟩)))));rintro _ rfl;show Ws [_,_,_,_,_,.is (C2 l)] _ _ _;refine BF (Bx (FV (CC (rJ (A7 rfl (Uo ⟨rfl,_,rfl,?_⟩))))));cases r:Bm l with
  |none=>
   have y:C2 l=.A5:=by unfold C2;rw[r];rfl
   rw[y];refine D8 rfl (D8 rfl (BO (A7 rfl ?_)));rw[rd (1+i) (U1 BM (λj o d h'=>g j o d h') (.inr r))]
  |some q=>
   obtain⟨ys,O⟩:=Zr r;have y:C2 l=.tup ys:=by unfold C2;rw[r,O];rfl
   rw[y]at tk ⊢;refine Du (λz=>by cases z) ?_
   walk_at "ww"
   refine Ag (λB=>BO (A7 rfl ?_)) (λB=>BC ?_)
   .rw[rd (1+i) (U1 BM (λj o d h'=>g j o d h') (.inl (by have:=gP B;omega)))]
   .refine PJ rfl (A7 rfl ⟨I,λj o d h'=>?_,.is (.int ((1+i:Nat):Int)),.is (.tup ys),?_⟩)
    .rcases Nat.lt_succ_iff_lt_or_eq.mp d with d|rfl
     .exact g j o d h'
     .rw[BM]at h';cases h';rintro(z|z)
      .exact B (gS (by omega))
      .rw[r]at z;cases z
    .rw[tk];rfl
 .rintro _⟨g,s4,t,rfl⟩;rw[M8]at g ⊢;rw[JL];have T:Er 1 ls=none:=W3 λi l BM=>g i l (List.getElem?_eq_some_iff.mp BM).1 BM;refine LD 3 rfl ?_;show Ws [_,_,_,.is (.lst (ls.map C2)),_,_] _ _ _;refine BO (MC (Co (A7 rfl (Co (A7 rfl (Ee ⟨by simp,?_⟩))))));unfold FX bad;rw[i6 ok,T];rfl
def Jt:B8 ["pot","text","words","at","some","word","way"] ["pot","text"] (AW RB):=by walk_at "z1"
def XC : ∀ss R,Vk ss R->ss.length=2:=by rintro _ _⟨x,rfl,_,_,rfl⟩;rfl
def yd(F:AM K "_law_bent_row" "_law_bent_row" RB f fd)(m:mg "_law_bent_row"=some (.ref f)):
  AD P w K mg Zk "_law_bent_row" 2 ["pot","text"] (An Vk):=by
 refine AD.mk F (F.binds (by walk_at "bD2")) m (F.BX (k:=1) Jt (λvs H Q E h=>Fz.Cv XC h) (λAS A outer s H vs Q E a h=>?_))
 refine⟨_,(AF rfl (Ac 2 Jt.nd (CF FI Kh Ki Ij (qv 1) (A0 AI A3)))
   (AF rfl (Ac 3 Jt.nd (AV Ap a (A0 (qv 0) (A0 (Ae EZ (AU Ds Ad (A0 (qv 2) A3)) A4) A3))))
   (AF rfl (Ac 4 Jt.nd (Cu (A0 AI (A0 AI (A0 AI (A0 AI (A0 AI (A0 AI (A0 AI (A0 AI (A0 AI (A0 (Ae Zw AI A4) (A0 (Ae Zw AI A4) (A0 AI (A0 AI (A0 AI (A0 AI (A0 AI A3))))))))))))))))))
   (AF rfl (Ac 5 Jt.nd (B2 Ff (qv 4) (AV Ap a (A0 (qv 0) (A0 A4 A3)))))
   (AF rfl (Ac 6 Jt.nd (AV Ap a (A0 (qv 0) (A0 A4 A3))))
   (AF rfl (C1 (B9 (Az BL (qv 6) A4) (AL rfl (J8 (CF JM Wy fW UI (qv 2) (A0 (qv 3) (A0 (qv 5) A3))))) BD))
   (AF rfl (C1 (B9 (Az BL (qv 6) A4) (AL rfl (Ac 2 Jt.nd (Ae Il (Gx JF (qv 2) Ga (FO (qv 3))) (Gx JF (qv 2) (FO (Ae EZ (qv 3) A4)) Ga)))) BD))
   (AF rfl (C1 (B9 (Az BL (qv 6) A4) (AL rfl (IF (D3 (A0 (qv 5) A3)) (nV (qv 2) (FO (qv 3)) (FO (Ae EZ (qv 3) A4))))) BD))
   (AF rfl (C1 (B9 (Az BL (qv 6) A4) (AL rfl (J8 (CF JM Wy fW UI (qv 2) (A0 (qv 3) (A0 (B2 Bv (qv 2) (AV Ap a (A0 (qv 0) (A0 (AU Ds Ad (A0 (qv 2) A3)) A3)))) A3))))) BD))
   (AF rfl (B9 (Az BL (qv 6) A4) (AL rfl (Ak (B2 Ff (Cu (A0 (Ae MU (qv 1) AI) (A0 (Ae MU AI (qv 1)) (A0 AI (A0 AI (A0 (Ae MU (qv 1) AI) A3)))))) (AV Ap a (A0 (qv 0) (A0 A4 A3)))))) BD)
   (AL rfl (Ak (CF FI Nd Nf Lc AI (A0 (qv 2) A3)))))))))))))),?_⟩
 refine Fz.Cw h XC ?_;rintro _ _⟨x,rfl,hx,n,rfl⟩;have hl:=Jq x;have ok:=hx.words;have t:=Fq x;show Ws [_,_,.any,.any,.any,.any,.any] _ _ _;refine BF (De (IY (A7 rfl ⟨x,rfl,BP ⟨" ", rfl,by decide,by omega,?_,?_⟩⟩)))
 .show(Aa x).length<=100000;omega
 show Ws [_,_,.own ((Aa x).map .str),_,_,_,_] _ _ _
 walk_at "ww"
 rw[AH];refine⟨by omega,JG (show(((Aa x).length:Int)+1)<=1001 by omega) (by decide +kernel),λi hi=>?_⟩;have hi:i<=(Aa x).length:=by omega
 walk_at "ww"
 refine bL (BP ⟨_,rfl,BG ⟨_,rfl,mulOk_of 1 61 (by decide) (by decide) (by decide) (by decide) (by decide),?_⟩⟩);refine Co (bL (BP ⟨_,rfl,BG ⟨_,rfl,mulOk_of 1 61 (by decide) (by decide) (by decide) (by decide) (by decide),?_⟩⟩));refine Co (BP (Co (BP (Co (BP (Co (BP (Co (BP (Ee ⟨by decide,?_⟩))))))))));show Ws [_,_,.own ((Aa x).map .str),.is (.int i),.is (.tup (HJ.map .str)),_,_] _ _ _;refine BF (JZ (Kv (NO rfl ⟨rfl,?_⟩)))
 walk_at "ww"
 refine⟨by decide,by decide +kernel,λj e=>?_⟩;have e:j<HJ.length:=by show j<16;omega
 obtain⟨w,l⟩:∃w,HJ[j]?=some w:=⟨_,Aw e⟩;have g:=p0 w (DJ l);refine⟨_,.str w,rfl,Ez (by rw[B3,l];rfl),?_⟩
 walk_at "ww"
 refine⟨by decide,by decide +kernel,λb o=>?_⟩;have o:b<5:=by omega
 show Ws [_,_,.own ((Aa x).map .str),.is (.int i),.is (.tup (HJ.map .str)),.is (.str w),.is (.int b)] _ _ _;have tl:∀{ws:List Str},WL (x.length+63) ws->ws.length<=900:=λ{ws}h=>by have:=Ax (r8 Gp ws) h.2;omega
 refine FP (λAK=>∃ws:List Str,AK=[.AQ,.is (.str x),.own (ws.map .str),.is (.int i),.is (.tup (HJ.map .str)),.is (.str w),.is (.int b)]/\WL (x.length+63) ws/\(1<=b->ws=Aa x)) (DY (Bx (CC ?_))) ?_
 .walk_at "ww"
  refine Ag (λc=>?_) (λc=>?_)
  .have c:=gP c;refine Nx rfl (A7 rfl ⟨_,rfl,by omega,by rw[AH];omega,A7 rfl ⟨by rw[AH];omega,(Aa x).take i++(w::(Aa x).drop i),?_,?_,?_⟩⟩)
   .rw[GO,<- NZ,<- NY,<- Cn,<- En];rfl
   .exact(ok.ins i g).up (by omega)
   .omega
  .exact BC ⟨Aa x,rfl,ok.up (by omega),λ_=>rfl⟩
 rintro _⟨ws,rfl,hw,d⟩;refine FP (λAK=>∃ws:List Str,AK=[.AQ,.is (.str x),.own (ws.map .str),.is (.int i),.is (.tup (HJ.map .str)),.is (.str w),.is (.int b)]/\WL (x.length+63) ws/\(2<=b->ws=Aa x)) (DY (Bx (CC ?_))) ?_
 .walk_at "ww"
  refine Ag (λc=>?_) (λc=>?_)
  .have c:=gP c;refine De (N3 (Bb (BW (Hn (Ck rfl ⟨rfl,HG (GF (A7 rfl ⟨i,rfl,_,.inl ⟨rfl,rfl,?_⟩⟩))⟩)))));refine Bb (BW (Hn (Ck rfl ⟨rfl,GF (Si (A7 rfl ⟨_,rfl,BG ⟨_,rfl,_,rfl,HG ⟨_,.inl ⟨rfl,rfl,?_⟩⟩⟩⟩))⟩)));rw[show((i:Int)+1)=((i+1:Nat):Int) by omega,KQ,KQ,<- En];rw[Zx,OQ];refine⟨by rw[AH,AH];have:=tl hw;rw[Em,Kd];omega,_,rfl,hw.del i,λh=>by omega⟩
  .exact BC ⟨ws,rfl,hw,λh=>d (by omega)⟩
 rintro _⟨ws,rfl,hw,d⟩;refine FP (λAK=>∃ws:List Str,AK=[.AQ,.is (.str x),.own (ws.map .str),.is (.int i),.is (.tup (HJ.map .str)),.is (.str w),.is (.int b)]/\WL (x.length+63) ws/\(3<=b->ws=Aa x)) (DY (Bx (CC ?_))) ?_
 .walk_at "ww"
  refine Ag (λc=>?_) (λc=>?_)
  .have c:=gP c;refine tM rfl (Ii (Co (A7 rfl (Ee ⟨by simp,GF (A7 rfl ⟨i,rfl,GF (Si (A7 rfl ⟨_,rfl,BG ⟨_,rfl,_,rfl,i,i+1,rfl,rfl,?_⟩⟩))⟩)⟩))));rw[d (by omega)];refine⟨by omega,by rw[AH];simp;omega,(Aa x).take i++[w]++(Aa x).drop (i+1),?_,(ok.rep i g).up (by omega),λh=>by omega⟩;rw[En,En,NZ,NY];rfl
  .exact BC ⟨ws,rfl,hw,λh=>d (by omega)⟩
 rintro _⟨ws,rfl,hw,d⟩;refine FP (λAK=>∃ws:List Str,AK=[.AQ,.is (.str x),.own (ws.map .str),.is (.int i),.is (.tup (HJ.map .str)),.is (.str w),.is (.int b)]/\WL (x.length+63) ws) (DY (Bx (CC ?_))) ?_
 .walk_at "ww"
  refine Ag (λc=>?_) (λc=>BC ⟨ws,rfl,hw⟩);have c:=gP c;have q:=d (by omega);subst q;refine Nx rfl (A7 rfl ⟨_,rfl,by omega,by rw[AH];omega,EA (Ck rfl ⟨rfl,?_⟩)⟩)
  walk_at "ww"
  rw[AH];have u:0<(Aa x).length:=List.length_pos_iff.mpr t;refine⟨by omega,JG (show(((Aa x).length:Int))<=1001 by omega) (by decide +kernel),λr a=>?_⟩;have a:r<(Aa x).length:=by omega
  refine⟨_,.str (Aa x)[r],rfl,Ez (by rw[B3,Aw a];rfl),by omega,(Aa x).take i++(Aa x)[r]::(Aa x).drop i,?_,(ok.ins i (ok.1 _ (Gz a))).up (by omega)⟩;rw[GO,<- NZ,<- NY,<- Cn,<- En];rfl
 rintro _⟨ws,rfl,hw⟩
 walk_at "ww"
 refine Ag (λc=>?_) (λc=>BC ?_)
 .refine BO (Kv (Bb (MC ?_)));refine Co (T7 (A7 rfl ⟨_,rfl,BP ⟨_,rfl,by show _+1<=_;omega,?_⟩⟩));refine Co (T7 (BP ⟨_,rfl,A7 rfl ⟨_,rfl,by show 1+_<=_;omega,?_⟩⟩));refine Co (BP (Co (BP (Co (T7 (A7 rfl ⟨_,rfl,BP ⟨_,rfl,by show _+2<=_;omega,?_⟩⟩))))));refine Ee ⟨by simp,_,.inr ⟨rfl,rfl,?_⟩⟩
  walk_at "ww"
  refine⟨by decide,by decide +kernel,λr a=>?_⟩;obtain⟨p,ep⟩:∃p,[PV.str (x++(" ":Str)),.str ((" ":Str)++x),.str "", .str "-", .str (x++(" -":Str))][r]?=some p:=⟨_,Aw (show r<5 by omega)⟩;exact⟨_,p,rfl,Ez ep,uV hx ep⟩
 .walk_at "ww"
  exact⟨Ax hw.2 (by omega),_,rfl,by rw[show Txt.join (Str.ofString " ") ws=jn ws from Qh " " ws];exact hw.out⟩
def LK:B8 ["pot","rows","at","to","way","made"] ["pot","rows"] (AW OH):=by walk_at "z1"
def ix:Scope:={ kind:=.function,names:=[(".0", .local),("number", .local),("_law_letters", .globalImplicit)],isGenerator:=false,isCoroutine:=false,more:=[] }
def jq:DN ["pot","rows","at","to","way","made"] (AW OH) ix "number" [] []:=by walk_at "z2"
def XE : ∀ss R,Uw ss R->ss.length=2:=by rintro _ _⟨k,rows,rfl,_,_,rfl⟩;rfl
def su(F:AM K "_law_bent" "_law_bent" OH f fd)(m:mg "_law_bent"=some (.ref f)):
  AD P w K mg Zk "_law_bent" 3 ["pot","rows"] (An Uw):=by
 refine AD.mk F (F.binds (by walk_at "bD2")) m (F.BX (k:=2) LK (λvs H Q E h=>Fz.Cv XE h) (λAS A outer s H vs Q E g h=>?_))
 refine⟨_,(AF rfl (Ac 2 LK.nd (AV Ap g (A0 (qv 0) (A0 (AU Ds Ad (A0 (qv 1) A3)) A3))))
   (AF rfl (Ac 3 LK.nd (AV Ap g (A0 (qv 0) (A0 (AU Ds Ad (A0 (qv 1) A3)) A3))))
   (AF rfl (Ac 4 LK.nd (AV Ap g (A0 (qv 0) (A0 A4 A3))))
   (AF rfl (Ac 5 LK.nd (Gq kU Hi (A0 (qv 1) A3)))
   (AF rfl (C1 (B9 (Az Uu (qv 4) A4) (AL rfl (IF (AV Ss g (A0 (qv 0) (A0 (B2 Bv (qv 5) (qv 2)) A3))) (Kr (qv 5) (qv 2) set_list))) BD))
   (AF rfl (C1 (B9 (ON (Az BL (qv 4) A4) (Pc (Az LF (AU Ds Ad (A0 (qv 5) A3)) A4))).pt (AL rfl (J8 (CF JM PySem.F.slot_list_pop PySem.F.type_list_pop sH (qv 5) (A0 (qv 2) A3)))) BD))
   (AF rfl (C1 (B9 (Az BL (qv 4) A4) (AL rfl (J8 (CF JM Wy fW UI (qv 5) (A0 (qv 3) (A0 (B2 Bv (qv 5) (qv 2)) A3))))) BD))
   (AF rfl (C1 (B9 (Az BL (qv 4) A4) (AF rfl (IF (B2 Bv (qv 1) (qv 3)) (Kr (qv 5) (qv 2) set_list))
   (AL rfl (IF (B2 Bv (qv 1) (qv 2)) (Kr (qv 5) (qv 3) set_list)))) BD))
   (AF rfl (C1 (B9 (Az BL (qv 4) A4) (AL rfl (Ac 5 LK.nd (Ae Il (qv 5) (Ae mF (D3 (A0 AI A3)) (Ae EZ (Ae eA (B2 Ff (Cu (A0 A4 (A0 A4 (A0 A4 (A0 A4 A3))))) (AV Ap g (A0 (qv 0) (A0 A4 A3)))) (AU Ds Ad (A0 (qv 5) A3))) A4))))) BD))
   (AF rfl (C1 (B9 (Az BL (qv 4) A4) (AL rfl (IF (CF FI Nd Nf Lc AI (A0 (Fu rfl jq (MX rfl Ec (A0 (Ae EZ A4 (AV Ap g (A0 (qv 0) (A0 A4 A3)))) A3)) (λ_ _ _ _=>by exact Dy) (λ_ _ _ _=>by exact(AV JA g (A0 (qv 0) A3)))) A3)) (Kr (qv 5) A4 set_list))) BD))
   (AL rfl (Ak (qv 5))))))))))))),?_⟩
 refine Fz.Cw h XE ?_;rintro _ _⟨k,rows,rfl,g,L,rfl⟩;have u:=g.cnt;have C:=g.pos;show Ws [_,_,.any,.any,.any,.any] _ _ _
 walk_at "ww"
 rw[AH];refine⟨by omega,JG (show((rows.length:Int))<=1000 by omega) (by decide +kernel),λi hi=>?_⟩;have hi:i<rows.length:=by omega
 walk_at "ww"
 rw[AH];refine⟨by omega,JG (show((rows.length:Int))<=1000 by omega) (by decide +kernel),λj t=>?_⟩;have t:j<rows.length:=by omega
 walk_at "ww"
 refine⟨by decide,by decide +kernel,λl J=>?_⟩;have J:l<8:=by omega
 refine BF (De (Xc rfl (M0 rfl ?_)));show Ws [.AQ,.sq false (rows.map .str),.is (.int i),.is (.int j),.is (.int l),.own (rows.map .str)] _ _ _;have at_:∀(n:Nat)(h:n<rows.length),BA (rows.map PV.str) (n:Int)=some (.str rows[n]):=λn h=>Ez (by rw[B3,Aw h];rfl);have q:∀(n:Nat)(h:n<rows.length),Dq rows[n]/\rows[n].length<=600+63 * k:=λn h=>g.row _ (Gz h);have up:FY (k+1) rows:=g.up (by omega) (by omega) (by omega);refine FP (λAK=>∃d:List Str,AK=[.AQ,.sq false (rows.map .str),.is (.int i),.is (.int j),.is (.int l),.own (d.map .str)]/\FY (k+1) d/\(3<=l->d=rows)) (DY (Bx (CC ?_))) ?_
 .walk_at "ww"
  refine Ag (λc=>?_) (λc=>BC ⟨rows,rfl,up,λ_=>rfl⟩);have c:=gP c;refine P5 rfl (PZ rfl (C7 (EA (Ck rfl ⟨rfl,A7 rfl ⟨_,_,rfl,at_ i hi,Bw ⟨_,⟨rows[i],rfl,(q i hi).1,by have:=(q i hi).2;omega,rfl⟩,?_⟩⟩⟩))));rintro _⟨y,rfl,B,z⟩;refine A7 rfl ⟨i,rfl,by rw[AH];exact hi,rows.set i y,by rw[Q0];rfl,?_,λh=>by omega⟩;exact RW.up (RW.set i (g.up (M':=600+63 * (k+1)) (by omega) (AZ _) (AZ _)) ⟨B,by have:=(q i hi).2;omega⟩) (AZ _) (by omega) (by omega)
 rintro _⟨d,rfl,p,o⟩;refine FP (λAK=>∃d:List Str,AK=[.AQ,.sq false (rows.map .str),.is (.int i),.is (.int j),.is (.int l),.own (d.map .str)]/\FY (k+1) d/\(4<=l->d=rows)) (DY (Bx (VR (CC ?_)))) ?_
 .walk_at "ww"
  refine Ag (λc=>?_) (λc=>BC ⟨d,rfl,p,λh=>o (by omega)⟩);have c:=gP c;have e:=(o (by omega)).symm;subst e;refine CC ?_
  walk_at "ww"
  rw[AH];refine Ag (λc2=>?_) (λc2=>BC ⟨rows,rfl,p,λ_=>rfl⟩);have c2:=gP c2;refine xX rfl (A7 rfl ⟨(i:Int),i,rfl,by omega,by omega,by rw[AH];exact eQ hi,rows.eraseIdx i,?_,p.erase i (by omega),λh=>by omega⟩);rw[ra];rfl
 rintro _⟨d,rfl,p,o⟩;refine FP (λAK=>∃d:List Str,AK=[.AQ,.sq false (rows.map .str),.is (.int i),.is (.int j),.is (.int l),.own (d.map .str)]/\FY (k+1) d/\(5<=l->d=rows)) (DY (Bx (CC ?_))) ?_
 .walk_at "ww"
  refine Ag (λc=>?_) (λc=>BC ⟨d,rfl,p,λh=>o (by omega)⟩);have c:=gP c;have e:=(o (by omega)).symm;subst e;refine Nx rfl (A7 rfl ⟨_,rfl,by omega,by rw[AH];omega,EA (Ck rfl ⟨rfl,A7 rfl ⟨_,_,rfl,at_ i hi,by rw[AH];omega,rows.take j++rows[i]::rows.drop j,?_,?_,λh=>by omega⟩⟩)⟩)
  .rw[GO,<- NZ,<- NY,<- Cn,<- En];rfl
  .exact RW.up (RW.ins j g (q i hi)) (by omega) (by omega) (by omega)
 rintro _⟨d,rfl,p,o⟩;refine FP (λAK=>∃d:List Str,AK=[.AQ,.sq false (rows.map .str),.is (.int i),.is (.int j),.is (.int l),.own (d.map .str)]/\FY (k+1) d/\(6<=l->d=rows)) (DY (Bx (CC ?_))) ?_
 .walk_at "ww"
  refine Ag (λc=>?_) (λc=>BC ⟨d,rfl,p,λh=>o (by omega)⟩);have c:=gP c;have e:=(o (by omega)).symm;subst e;refine BF (P5 rfl (EA (M0 rfl ⟨rfl,A7 rfl ⟨_,_,rfl,at_ j t,A7 rfl ⟨i,rfl,by rw[AH];exact hi,?_⟩⟩⟩)));rw[Q0];show Ws [.AQ,.sq false (rows.map .str),.is (.int i),.is (.int j),.is (.int l),.own ((rows.set i rows[j]).map .str)] _ _ _;refine P5 rfl (EA (M0 rfl ⟨rfl,A7 rfl ⟨_,_,rfl,at_ i hi,A7 rfl ⟨j,rfl,by rw[AH,Hv];exact t,(rows.set i rows[j]).set j rows[i],by rw[Q0];rfl,?_,λh=>by omega⟩⟩⟩));exact RW.up (RW.set j (RW.set i g (q j t)) (q i hi)) (by omega) (by omega) (by omega)
 rintro _⟨d,rfl,p,o⟩;refine FP (λAK=>∃d:List Str,AK=[.AQ,.sq false (rows.map .str),.is (.int i),.is (.int j),.is (.int l),.own (d.map .str)]/\FY (k+1) d/\(7<=l->d=rows)) (DY (Bx (CC ?_))) ?_
 .walk_at "ww"
  refine Ag (λc=>?_) (λc=>BC ⟨d,rfl,p,λh=>o (by omega)⟩);have c:=gP c;have e:=(o (by omega)).symm;subst e;refine De (N3 (Ck rfl ⟨rfl,Bb (BW (vS (Bb (BW (Ii (Co (BP (Ee ⟨by simp,?_⟩)))))))) ⟩));refine⟨_,.inl ⟨rfl,rfl,?_⟩⟩
  walk_at "ww"
  refine⟨by decide,_,.inr ⟨rfl,rfl,?_⟩⟩
  walk_at "ww"
  refine⟨by decide,by decide +kernel,λr D=>?_⟩;have D:r<4:=by omega
  have I:BA [PV.int 399,PV.int 400,PV.int 401,PV.int 402] (r:Int)=some (.int (399+r)):=by
   have:r=0∨r=1∨r=2∨r=3:=by omega
   rcases this with rfl|rfl|rfl|rfl <;> rfl
  refine⟨_,_,rfl,I,_,rfl,?_⟩
  walk_at "ww"
  rw[AH];refine⟨by omega,by omega,by simp,_,.inl ⟨rfl,rfl,?_,rows++List.replicate ((399+(r:Int) - rows.length+1).toNat) ("over a":Str),?_,?_,λh=>by omega⟩⟩
  .rw[Z8,AH,QP];omega
  .rw[Z8,En];rfl
  .exact RW.up (RW.app (g.up (N':=410+k) (AZ _) (AZ _) (AZ _)) (by omega) (by omega) (by omega)) (by omega) (by omega) (by omega)
 rintro _⟨d,rfl,p,o⟩;refine FP (λAK=>∃d:List Str,AK=[.AQ,.sq false (rows.map .str),.is (.int i),.is (.int j),.is (.int l),.own (d.map .str)]/\FY (k+1) d) (DY (Bx (CC ?_))) ?_
 .walk_at "ww"
  refine Ag (λc=>?_) (λc=>BC ⟨d,rfl,p⟩);have c:=gP c;have e:=(o (by omega)).symm;subst e;refine P5 rfl ?_
  walk_at "ww"
  refine Bb (BW (IM PV.int (λ_=>true) (λn=>.str (C0 (MA.lets n.toNat))) ?_ (λa b h=>by injection h)))
  walk_at "ww"
  refine⟨by decide,by decide +kernel,λr G=>?_⟩;have G:r<3:=by omega
  walk_at "ww"
  refine⟨by omega,by omega,(List.range (39+r)).map Int.ofNat,?_,by simp;omega,λn u=>Eu rfl,λn u _=>?_,?_⟩
  .rw[CL,show((39:Int)+r).toNat=39+r by omega];rfl
  .obtain⟨m,v,rfl⟩:=List.mem_map.mp u;have v:=List.mem_range.mp v;exact oa (A7 rfl ⟨m,rfl,C4 v (by omega),rfl⟩)
  .rw[Gg];refine⟨_,.inl ⟨rfl,Gh (39+r),?_,Ax (YO (by omega)) (by decide),?_⟩⟩
   .unfold Gh;rw[CL,CL];rfl
   .refine BG ⟨0,rfl,by rw[AH];exact C,rows.set 0 (Txt.join " " (Gh (39+r))),by rw[Q0];rfl,?_⟩;have x:=kT (n:=39+r) (by omega);exact RW.up (RW.set 0 g ⟨x.1,by have:=x.2;omega⟩) (by omega) (by omega) (by omega)
 .rintro _⟨d,rfl,p⟩;exact OA rfl ⟨d,rfl,p⟩
def Xv:B8 ["e","place","some"] ["e","place"] (AW UW):=by walk_at "z1"
def bx:∀ss R,(Sb K [Ci,Cg,CV,CP,Cf,Cc,CQ,CT,AR,CN,Cb,Cd,CS,CY,CZ,Ca] BR) ss R->ss.length=2:=by rintro _ _⟨C,a,xs,i,rfl,_,_,_,rfl⟩;rfl
def ym(F:AM K "_law_alone" "_law_alone" UW f fd)(m:mg "_law_alone"=some (.ref f)):
  AD P w K mg Zk "_law_alone" 1 ["e","place"] (An (Sb K [Ci,Cg,CV,CP,Cf,Cc,CQ,CT,AR,CN,Cb,Cd,CS,CY,CZ,Ca] BR)):=by
 refine AD.mk F (F.binds (by walk_at "bD2")) m (F.BX (k:=0) Xv (λvs H Q E h=>Fz.Cv bx h) (λAS A outer s H vs Q E c h=>?_))
 refine⟨_,(AF rfl (Ac 2 Xv.nd (D3 (A0 (AU DS BH (A0 (qv 0) (A0 (Bj (v:=.ref Ci) (by rfl) UU rfl) A3))) (A0 (AU DS BH (A0 (qv 0) (A0 (Bj (v:=.ref Cg) (by rfl) SU rfl) A3))) (A0 (AU DS BH (A0 (qv 0) (A0 (Bj (v:=.ref CV) (by rfl) T8 rfl) A3))) (A0 (AU DS BH (A0 (qv 0) (A0 (Bj (v:=.ref CP) (by rfl) Ro rfl) A3))) (A0 (AU DS BH (A0 (qv 0) (A0 (Bj (v:=.ref Cf) (by rfl) TC rfl) A3))) (A0 (AU DS BH (A0 (qv 0) (A0 (Bj (v:=.ref Cc) (by rfl) SM rfl) A3))) (A0 (AU DS BH (A0 (qv 0) (A0 (Bj (v:=.ref CQ) (by rfl) SY rfl) A3))) (A0 (AU DS BH (A0 (qv 0) (A0 (Bj (v:=.ref CT) (by rfl) VN rfl) A3))) (A0 (AU DS BH (A0 (qv 0) (A0 (Bj (v:=.ref AR) (by rfl) HY rfl) A3))) (A0 (AU DS BH (A0 (qv 0) (A0 (Bj (v:=.ref CN) (by rfl) VA rfl) A3))) (A0 (AU DS BH (A0 (qv 0) (A0 (Bj (v:=.ref Cb) (by rfl) Ul rfl) A3))) (A0 (AU DS BH (A0 (qv 0) (A0 (Bj (v:=.ref Cd) (by rfl) Sq rfl) A3))) (A0 (AU DS BH (A0 (qv 0) (A0 (Bj (v:=.ref CS) (by rfl) R0 rfl) A3))) (A0 (AU DS BH (A0 (qv 0) (A0 (Bj (v:=.ref CY) (by rfl) SS rfl) A3))) (A0 (AU DS BH (A0 (qv 0) (A0 (Bj (v:=.ref CZ) (by rfl) Tc rfl) A3))) (A0 (AU DS BH (A0 (qv 0) (A0 (Bj (v:=.ref Ca) (by rfl) SI rfl) A3))) A3))))))))))))))))))
   (AF rfl (B9 (Fh (Ei (Ey (AU DS BH (A0 (qv 0) (A0 (Bj (v:=.ref BR) (by rfl) JQ rfl) A3))))) (IP (Ei (Ey (AU DS BH (A0 (qv 0) (A0 (HV "ValueError" Sx) A3))))))).pt (AL rfl (Ak Hd)) BD)
   (AL rfl (Ak (Fw (DP BL (CF JM PySem.F.slot_list_count PySem.F.type_list_count ya (qv 2) (A0 Hd A3)) A4) (G2 (B2 Bv (qv 2) (qv 1)))))))),?_⟩
 refine Fz.Cw h bx ?_;rintro _ _⟨C,b,xs,i,rfl,al,hi,_,rfl⟩;show Ws [_,_,.any] _ _ _
 walk_at "ww"
 refine DK (A7 rfl ⟨⟨λ_ _ _ z=>(by cases z),λ_ _ z=>(by cases z)⟩,_,_,_,rfl,⟨rfl,al.ex⟩,al.at_ 0 (by show 0<16;decide),?_⟩)
 walk_at "ww"
 refine DK (A7 rfl ⟨⟨λ_ _ _ z=>(by cases z),λ_ _ z=>(by cases z)⟩,_,_,_,rfl,⟨rfl,al.ex⟩,al.at_ 1 (by show 1<16;decide),?_⟩)
 walk_at "ww"
 refine DK (A7 rfl ⟨⟨λ_ _ _ z=>(by cases z),λ_ _ z=>(by cases z)⟩,_,_,_,rfl,⟨rfl,al.ex⟩,al.at_ 2 (by show 2<16;decide),?_⟩)
 walk_at "ww"
 refine DK (A7 rfl ⟨⟨λ_ _ _ z=>(by cases z),λ_ _ z=>(by cases z)⟩,_,_,_,rfl,⟨rfl,al.ex⟩,al.at_ 3 (by show 3<16;decide),?_⟩)
 walk_at "ww"
 refine DK (A7 rfl ⟨⟨λ_ _ _ z=>(by cases z),λ_ _ z=>(by cases z)⟩,_,_,_,rfl,⟨rfl,al.ex⟩,al.at_ 4 (by show 4<16;decide),?_⟩)
 walk_at "ww"
 refine DK (A7 rfl ⟨⟨λ_ _ _ z=>(by cases z),λ_ _ z=>(by cases z)⟩,_,_,_,rfl,⟨rfl,al.ex⟩,al.at_ 5 (by show 5<16;decide),?_⟩)
 walk_at "ww"
 refine DK (A7 rfl ⟨⟨λ_ _ _ z=>(by cases z),λ_ _ z=>(by cases z)⟩,_,_,_,rfl,⟨rfl,al.ex⟩,al.at_ 6 (by show 6<16;decide),?_⟩)
 walk_at "ww"
 refine DK (A7 rfl ⟨⟨λ_ _ _ z=>(by cases z),λ_ _ z=>(by cases z)⟩,_,_,_,rfl,⟨rfl,al.ex⟩,al.at_ 7 (by show 7<16;decide),?_⟩)
 walk_at "ww"
 refine DK (A7 rfl ⟨⟨λ_ _ _ z=>(by cases z),λ_ _ z=>(by cases z)⟩,_,_,_,rfl,⟨rfl,al.ex⟩,al.at_ 8 (by show 8<16;decide),?_⟩)
 walk_at "ww"
 refine DK (A7 rfl ⟨⟨λ_ _ _ z=>(by cases z),λ_ _ z=>(by cases z)⟩,_,_,_,rfl,⟨rfl,al.ex⟩,al.at_ 9 (by show 9<16;decide),?_⟩)
 walk_at "ww"
 refine DK (A7 rfl ⟨⟨λ_ _ _ z=>(by cases z),λ_ _ z=>(by cases z)⟩,_,_,_,rfl,⟨rfl,al.ex⟩,al.at_ 10 (by show 10<16;decide),?_⟩)
 walk_at "ww"
 refine DK (A7 rfl ⟨⟨λ_ _ _ z=>(by cases z),λ_ _ z=>(by cases z)⟩,_,_,_,rfl,⟨rfl,al.ex⟩,al.at_ 11 (by show 11<16;decide),?_⟩)
 walk_at "ww"
 refine DK (A7 rfl ⟨⟨λ_ _ _ z=>(by cases z),λ_ _ z=>(by cases z)⟩,_,_,_,rfl,⟨rfl,al.ex⟩,al.at_ 12 (by show 12<16;decide),?_⟩)
 walk_at "ww"
 refine DK (A7 rfl ⟨⟨λ_ _ _ z=>(by cases z),λ_ _ z=>(by cases z)⟩,_,_,_,rfl,⟨rfl,al.ex⟩,al.at_ 13 (by show 13<16;decide),?_⟩)
 walk_at "ww"
 refine DK (A7 rfl ⟨⟨λ_ _ _ z=>(by cases z),λ_ _ z=>(by cases z)⟩,_,_,_,rfl,⟨rfl,al.ex⟩,al.at_ 14 (by show 14<16;decide),?_⟩)
 walk_at "ww"
 refine DK (A7 rfl ⟨⟨λ_ _ _ z=>(by cases z),λ_ _ z=>(by cases z)⟩,_,_,_,rfl,⟨rfl,al.ex⟩,al.at_ 15 (by show 15<16;decide),?_⟩)
 walk_at "ww"
 refine⟨by simp,?_⟩;refine BF (Bx (FV (Dp (E2 (DK (A7 rfl ⟨⟨λ_ _ _ z=>(by cases z),λ_ _ z=>(by cases z)⟩,_,_,_,rfl,⟨rfl,al.ex⟩,al.st,true,rfl,LB ?_⟩))))));refine Dp (E2 (DK (A7 rfl ⟨⟨λ_ _ _ z=>(by cases z),λ_ _ z=>(by cases z)⟩,_,_,_,rfl,⟨rfl,al.ex⟩,al.ve,true,rfl,LB (BC ?_)⟩)));refine BO (JY (Gj (iV (Ck rfl ⟨rfl,[decide (0=i),decide (1=i),decide (2=i),decide (3=i),decide (4=i),decide (5=i),decide (6=i),decide (7=i),decide (8=i),decide (9=i),decide (10=i),decide (11=i),decide (12=i),decide (13=i),decide (14=i),decide (15=i)],rfl,IV ⟨true,rfl,BG ?_⟩⟩))));have a:i<16:=hi;refine⟨rfl,_,rfl,D8 (by rw[sJ a];rfl) (EA (Ck rfl ⟨rfl,A7 rfl ⟨_,_,rfl,iH a,rfl⟩⟩))⟩
def qt:B8 ["found"] ["found"] (AW V3):=by walk_at "z1"
def Zn : ∀ss R,Vh ss R->ss.length=1:=by rintro _ _⟨i,rfl,rfl⟩;rfl
def mx(F:AM K "_law_whole" "_law_whole" V3 f fd)(m:mg "_law_whole"=some (.ref f)):
  AD P w K mg Zk "_law_whole" 1 ["found"] (An Vh):=by
 refine AD.mk F (F.binds (by walk_at "bD1")) m (F.BX (k:=0) qt (λvs H Q E h=>Fz.Cv Zn h) (λAS A outer s H vs Q E a h=>?_))
 refine⟨_,(AL rfl (Ak (Fw (AU IB BH (A0 (qv 0) (A0 (HV "int" EM) A3))) (G2 (yE (AU IB BH (A0 (qv 0) (A0 (HV "bool" Rz) A3)))))))),?_⟩;refine Fz.Cw h Zn ?_;rintro _ _⟨i,rfl,rfl⟩;show Ws [_] _ _ _;refine BO (JY (IA (A7 rfl ⟨true,JT _ _,_,rfl,TJ ?_⟩)));exact dw (IA (A7 rfl ⟨false,ug _,_,rfl,rfl⟩))
def sA:B8 ["found"] ["found"] (AW Oz):=by walk_at "z1"
def qw:Scope:={ kind:=.function,names:=[(".0", .local),("name", .local),("isinstance", .globalImplicit),("str", .globalImplicit)],isGenerator:=false,isCoroutine:=false,more:=[] }
def uN:DN ["found"] (AW Oz) qw "name" [] []:=by walk_at "z2"
def Z3 : ∀ss R,UA ss R->ss.length=1:=by rintro _ _⟨ns,rfl,a,rfl⟩;rfl
def qD(F:AM K "_law_texts" "_law_texts" Oz f fd)(m:mg "_law_texts"=some (.ref f)):
  AD P w K mg Zk "_law_texts" 1 ["found"] (An UA):=by
 refine AD.mk F (F.binds (by walk_at "bD1")) m (F.BX (k:=0) sA (λvs H Q E h=>Fz.Cv Z3 h) (λAS A outer s H vs Q E b h=>?_))
 refine⟨_,(AL rfl (Ak (Fw (AU IB BH (A0 (qv 0) (A0 (HV "list" Hi) A3))) (G2 (AU (GX rfl) BV (A0 (Fu rfl uN (KR (qv 0)) (λ_ _ _ _=>by exact Dy) (λ_ _ _ _=>by exact(AU (show Be _ (.builtin "isinstance") (NM K)from IB) BH (A0 (qv 0) (A0 (HV "str" Ks) A3))))) A3)))))),?_⟩;refine Fz.Cw h Z3 ?_;rintro _ _⟨ns,rfl,a,rfl⟩;show Ws [_] _ _ _
 walk_at "ww"
 refine md ?_
 walk_at "ww"
 refine⟨true,JT _ _,_,rfl,TJ ?_⟩
 walk_at "wp"
 refine Bb (BW (IM PV.str (λ_=>true) (λ_=>.bl true) ?_ str_inj))
 walk_at "ww"
 refine⟨by omega,λx hx=>by walk_at "ww"; rfl,λx hx _=>?_,?_⟩
 .refine IA ?_
  walk_at "ww"
  exact⟨true,JT _ _,rfl⟩
 .walk_at "ww"
  rw[show(List.map (λ_=>true) (ns.filter λ_=>true)).all id=true from by simp]
def sf:B8 ["found","due"] ["found","due"] (AW Nh):=by walk_at "z1"
def qE:Scope:={ kind:=.function,names:=[(".0", .local),("entry", .local),("isinstance", .globalImplicit),("tuple", .globalImplicit)],isGenerator:=false,isCoroutine:=false,more:=[] }
def mB:DN ["found","due"] (AW Nh) qE "entry" [] []:=by walk_at "z2"
def cC:∀ss R,(UX K [Ci,Cg,CV,CP,Cf,Cc,CQ,CT,AR,CN,Cb,Cd,CS,CY,CZ,Ca] BR AR) ss R->ss.length=2:=by rintro _ _⟨f,d,rfl,_,rfl⟩;rfl
def wC(F:AM K "_law_right" "_law_right" Nh f fd)(m:mg "_law_right"=some (.ref f)):
  AD P w K mg Zk "_law_right" 2 ["found","due"] (An (UX K [Ci,Cg,CV,CP,Cf,Cc,CQ,CT,AR,CN,Cb,Cd,CS,CY,CZ,Ca] BR AR)):=by
 refine AD.mk F (F.binds (by walk_at "bD2")) m (F.BX (k:=1) sf (λvs H Q E h=>Fz.Cv cC h) (λAS A outer s H vs Q E c h=>?_))
 refine⟨_,(AF rfl (B9 (Ei (Ey (AU IB BH (A0 (qv 1) (A0 (HV "tuple" G8) A3))))) (AL rfl (Ak (Fw (AV SJ c (A0 (qv 0) (A0 A4 A3))) (Fw (AV Td c (A0 (Xa (qv 0)) A3)) (G2 (DP BL (Xa (qv 0)) (qv 1))))))) BD)
   (AF rfl (B9 (Fh (Ei (Ey (AU IB BH (A0 (qv 0) (A0 (HV "tuple" G8) A3))))) (Fh (Az Vr (AU Ds Ad (A0 (qv 0) A3)) A4) (Fh (Ei (Ey (AV Qm c (A0 (B2 Ff (qv 0) A4) A3)))) (IP (Ei (Ey (AU IB BH (A0 (B2 Ff (qv 0) A4) (A0 (HV "list" Hi) A3))))))))).pt (AL rfl (Ak Hd)) BD)
   (AL rfl (Ak (Fw (DP (Fz.kl c.units) (qv 0) (qv 1)) (G2 (AU (GX rfl) BV (A0 (Fu rfl mB (KR (B2 Ff (qv 0) A4)) (λ_ _ _ _=>by exact Dy) (λ_ _ _ _=>by exact(AU (show Be _ (.builtin "isinstance") (NM K)from IB) BH (A0 (qv 0) (A0 (HV "tuple" G8) A3))))) A3)))))))),?_⟩
 refine Fz.Cw h cC ?_;rintro _ _⟨f,d,rfl,hd,rfl⟩;show Ws [_,_] _ _ _;rcases hd with⟨n,rfl,rfl,al,g,i,j,na⟩|⟨ns,es,rfl,rfl,l,He,e⟩
 .refine BF (Bx (Dp (E2 (IA (A7 rfl ⟨false,sC _,_,rfl,D8 rfl ?_⟩)))));refine BO (JY (wp_call (C7 (A7 rfl (C7 (BG (Bw ⟨_,⟨AR,["line"],[.int n],8,rfl,al,by rw[g];decide,g,rfl⟩,?_⟩)))))));rintro _ rfl;refine⟨_,rfl,D8 rfl ?_⟩;refine JY (wp_call (C7 (eL (A7 rfl ⟨_,_,rfl,i,j,na,Bw ⟨_,⟨n,rfl,rfl⟩,?_⟩⟩))));rintro _ rfl;refine⟨_,rfl,D8 rfl ?_⟩;refine Gj (eL (A7 rfl ⟨_,_,rfl,i,j,na,A7 rfl ⟨rfl,?_⟩⟩));simp[alike]
 .refine BF (Bx (Dp (E2 (IA (A7 rfl ⟨true,JT _ _,_,rfl,Du (by decide) (BC ?_)⟩)))));refine BF (Bx (FV (Dp (E2 (IA (A7 rfl ⟨true,JT _ _,_,rfl,Du (by decide) ?_⟩))))));refine FV (CC ?_)
  walk_at "ww"
  refine Du (show ¬ ((!decide ((2:Int)=2))=true) by decide) ?_;refine FV (Dp (E2 (wp_call (Jl (Bb (Kv (NO rfl ⟨rfl,BG ⟨0,_,rfl,rfl,_,.inl ⟨rfl,Bw ⟨_,⟨ns,rfl,l,rfl⟩,?_⟩⟩⟩⟩)))))));rintro _ rfl;refine⟨_,rfl,Du (by decide) ?_⟩;refine Dp (E2 (IA (Kv (NO rfl ⟨rfl,BG ⟨1,_,rfl,rfl,true,JT _ _,_,rfl,Du (by decide) (BC ?_)⟩⟩))));refine BO (JY (Y6 (A7 rfl (A7 rfl ⟨e,e,_,rfl,?_⟩))));rw[Y7 40 e];refine D8 rfl ?_;refine K5 rfl (Bb (BW (IM PV.tup (λ_=>true) (λ_=>.bl true) (N9 (ND (Kv (NO rfl ⟨rfl,BG ⟨1,_,rfl,rfl,?_⟩⟩)))) (λa b h=>by injection h))));refine⟨_,.inl ⟨rfl,es,rfl,He,λy o=>Eu rfl,λy o _=>IA (A7 rfl ⟨true,JT _ _,rfl⟩),?_⟩⟩;rw[Gg];refine⟨_,.inl ⟨rfl,rfl,es.map (λ_=>true),by rw[CL];rfl,?_⟩⟩;rw[show(es.map (λ_=>true)).all id=true from by simp]
def mr:B8 ["row"] ["row"] (AW WJ):=by walk_at "z1"
def Yj : ∀ss R,Vx ss R->ss.length=1:=by rintro _ _⟨ns,rfl,a,b,rfl⟩;rfl
def kG(F:AM K "_law_row_text" "_law_row_text" WJ f fd)(m:mg "_law_row_text"=some (.ref f)):
  AD P w K mg Zk "_law_row_text" 1 ["row"] (An Vx):=by
 refine AD.mk F (F.binds (by walk_at "bD1")) m (F.BX (k:=0) mr (λvs H Q E h=>Fz.Cv Yj h) (λAS A outer s H vs Q E b h=>?_))
 refine⟨_,(AL rfl (Ak (B2 Ff (Cu (A0 AI (A0 (CF FI Nd Nf Lc AI (A0 (qv 0) A3)) A3))) (Gq da EM (A0 (DP (kE b.WQ) (qv 0) (D3 A3)) A3))))),?_⟩;refine Fz.Cw h Yj ?_;rintro _ _⟨ns,rfl,a,d,rfl⟩;show Ws [_] _ _ _
 walk_at "ww"
 refine⟨gj a d,?_⟩
 walk_at "ww"
 refine⟨by simp,?_⟩
 walk_at "ww"
 refine⟨by simp,_,.inl ⟨rfl,rfl,rfl,_,rfl,?_⟩⟩;rw[AH];unfold EU
 by_cases c:ns.length=0
 .rw[i6 c,gS c];exact⟨0,_,rfl,rfl,rfl⟩
 .rw[hZ c,j5 c];exact⟨1,_,rfl,rfl,rfl⟩
def iA:B8 ["some"] ["some"] (AW Pn):=by walk_at "z1"
def hX:Scope:={ kind:=.function,names:=[(".0", .local),("one", .local),("str", .globalImplicit)],isGenerator:=false,isCoroutine:=false,more:=[] }
def mG:DN ["some"] (AW Pn) hX "one" [] []:=by walk_at "z2"
def XH : ∀ss R,Tj ss R->ss.length=1:=by rintro _ _⟨xs,rfl,a,h,rfl⟩;rfl
def kK(F:AM K "_law_words" "_law_words" Pn f fd)(m:mg "_law_words"=some (.ref f)):
  AD P w K mg Zk "_law_words" 1 ["some"] (An Tj):=by
 refine AD.mk F (F.binds (by walk_at "bD1")) m (F.BX (k:=0) iA (λvs H Q E h=>Fz.Cv XH h) (λAS A outer s H vs Q E b h=>?_))
 refine⟨_,(AL rfl (Ak (CF FI Nd Nf Lc AI (A0 (Fu rfl mG (KR (qv 0)) (λ_ _ _ _=>by exact Dy) (λ_ _ _ _=>by exact(Gq kW Ks (A0 (qv 0) A3)))) A3)))),?_⟩;refine Fz.Cw h XH ?_;rintro _ _⟨xs,rfl,a,h,rfl⟩;show Ws [_] _ _ _
 walk_at "ww"
 refine Bb (BW (IM (λp:PV=>p) (λ_=>true) (λp=>.str (Gm p)) (N9 ?_) (λ_ _ e=>e)))
 walk_at "ww"
 refine⟨xs,(List.map_id xs).symm,by omega,λx hx=>Eu rfl,λx hx _=>?_,_,.inl ⟨rfl,xs.map Gm,by rw[Gg,CL];rfl,r9 a h,rfl⟩⟩;exact Xu (A7 rfl ⟨(h x hx).1,rfl⟩)
def vE:B8 ["text"] ["text"] (AW OT):=by walk_at "z1"
def rR:Scope:={ kind:=.function,names:=[(".0", .local),("sign", .local),("LETTERS", .globalImplicit)],isGenerator:=false,isCoroutine:=false,more:=[] }
def se:DN ["text"] (AW OT) rR "sign" [] []:=by walk_at "z2"
def iY(F:AM K "is_name" "is_name" OT f fd)(m:mg "is_name"=some (.ref f)):
  AD P w K mg Zk "is_name" 1 ["text"] (KY):=by
 refine AD.mk F (F.binds (by walk_at "bD1")) m (F.BX (k:=0) vE (λvs H Q E h=>?_) (λAS A outer s H vs Q E g h=>?_))
 .obtain⟨x,rfl,hx,q⟩:=h;rfl
 obtain⟨x,rfl,hx,q⟩:=h;refine⟨_,(AL rfl (Ak (Fw (XR HF HF A4 (AU Kk Ad (A0 (qv 0) A3)) (Bj (v:=.int 8) (by rfl) UQ ⟨_,rfl⟩)) (G2 (AU (GX rfl) BV (A0 (Fu rfl se (Pe (qv 0)) (λ_ _ _ _=>by exact Dy) (λ_ _ _ _=>by exact(DP Q8 (qv 0) (Bj (v:=.str "abcdefghijklmnopqrstuvwxyz") (by rfl) Ux ⟨_,rfl⟩)))) A3)))))),?_⟩;refine⟨_,rfl,_,rfl,small (by omega),_,_,rfl,rfl,_,rfl,?_⟩;refine Ag (λc=>?_) (λc=>⟨_,rfl,LB ?_⟩)
 .refine⟨_,_,rfl,rfl,_,rfl,?_⟩;refine Ag (λc2=>?_) (λc2=>?_)
  .refine⟨_,rfl,x,rfl,λacc Am=>bN (λ_=>true) Rn Am (by rw[<- CK,<- G4];exact small (by omega)) (λi v H' Q' _ _ h=>h H' (A9.refl _)) (λi v H' Q' d _ _ h=>?_) (λH' b a=>?_)⟩
   .obtain⟨j,rfl⟩:=signs_get d;exact⟨_,rfl,_,_,rfl,rfl,h H' (A9.refl _)⟩
   .rw[df]at a;refine⟨acc,_,rfl,AN.of a,?_⟩;rw[all_map];have e:isNm x=x.cps.toList.all M9:=by unfold isNm;rw[c,c2];rfl
    rw[<- e];exact q H' b
  .have e:isNm x=false:=by unfold isNm;rw[Bool.eq_false_iff.mpr c2];simp
   rw[<- e];exact q H (A9.refl _)
 .have e:isNm x=false:=by unfold isNm;rw[Bool.eq_false_iff.mpr c];simp
  rw[<- e];exact q H (A9.refl _)
def mn:B8 ["some"] ["some"] (AW Ni):=by walk_at "z1"
def ik:Scope:={ kind:=.function,names:=[(".0", .local),("text", .local),("is_name", .globalImplicit)],isGenerator:=false,isCoroutine:=false,more:=[] }
def wB:DN ["some"] (AW Ni) ik "text" [] []:=by walk_at "z2"
def l9(F:AM K "is_row" "is_row" Ni f fd)(m:mg "is_row"=some (.ref f)):
  AD P w K mg Zk "is_row" 2 ["some"] (VM K):=by
 refine AD.mk F (F.binds (by walk_at "bD1")) m (F.BX (k:=1) mn (λvs H Q E h=>?_) (λAS A outer s H vs Q E r h=>?_))
 .obtain⟨a,tp,ss,rfl,b,hl,hx,q⟩:=h;rfl
 obtain⟨a,tp,ss,rfl,b,hl,hx,q⟩:=h;refine⟨_,(AL rfl (Ak (Fw (DP HF (AU LP Ad (A0 (qv 0) A3)) (Bj (v:=.int 40) (by rfl) W6 ⟨_,rfl⟩)) (Fw (AU (GX rfl) BV (A0 (Fu rfl wB (KR (qv 0)) (λ_ _ _ _=>by exact Dy) (λ_ _ _ _=>by exact(AV L6 r (A0 (qv 0) A3)))) A3)) (G2 (DP BL (AU call_len_set Ad (A0 (Gq (aj rfl) LY (A0 (qv 0) A3)) A3)) (AU LP Ad (A0 (qv 0) A3)))))))),?_⟩;have g:(ss.map V.str).length=ss.length:=AH _;refine⟨_,rfl,a,_,rfl,b.or,_,_,rfl,rfl,_,rfl,?_⟩;rw[g];refine Ag (λc=>?_) (λc=>?_)
 .refine⟨_,rfl,tp,a,_,rfl,b,λacc Am=>rQ (λ_=>true) bV b Am (by rw[g];exact small (by omega)) (λi v H' Q' _ _ h=>h H' (A9.refl _)) (λi v H' Q' p _ _ h=>?_) (λH' d j=>?_)⟩
  .obtain⟨x,rfl,t⟩:=zA p;exact⟨_,rfl,x,rfl,hx x t,λDG s2=>h DG s2⟩
  .rw[mz]at j;refine⟨acc,_,rfl,AN.of j,_,rfl,?_⟩;rw[all_map];refine Ag (λc2=>?_) (λc2=>?_)
   .have n:=d.sq b;refine⟨_,rfl,a,tp,ss,rfl,n,by omega,λl TV=>?_⟩;have s2:=CH TV (ID P w l (λo=>(dd ss).any (· == o)) (dd ss).length)
    refine⟨l,_,_,rfl,AY,_,rfl,a,_,rfl,(s2.sq n).or,rfl,?_⟩;rw[g];have e:D0 ss=decide (V.int ((dd ss).length:Int)=V.int (ss.length:Int)):=by unfold D0;rw[c,c2];rfl
    rw[<- e];exact q _ (d.trans s2)
   .have e:D0 ss=false:=by unfold D0;rw[Bool.eq_false_iff.mpr c2];simp
    rw[<- e];exact q _ d
 .have e:D0 ss=false:=by unfold D0;rw[Bool.eq_false_iff.mpr c];simp
  rw[<- e];exact q _ (A9.refl _)
def XU:B8 ["line","row"] ["line"] (AW VZ):=by walk_at "z1"
def ZM:∀ss R D,(U0 AR) ss R D->ss.length=1:=by rintro _ _ _⟨x,rfl,_,rfl,rfl⟩;rfl
def jY(F:AM K "read_row" "read_row" VZ f fd)(m:mg "read_row"=some (.ref f)):
  EJ P w K mg Zk "read_row" 4 ["line"] (Gi (U0 AR)):=by
 refine EJ.mk F (F.binds (by walk_at "bD1")) m (F.Ug (k:=3) XU (λvs H Q E h=>Fz.RC ZM h) (λAS A outer s H vs Q E d h=>?_))
 refine⟨_,(AF rfl (Ac 1 XU.nd (YJ (Az BL (qv 0) AI) (D3 A3) (CF FI Kh Ki Ij (qv 0) (A0 AI A3))))
   (AF rfl (B9 (Ei (Ey (AV T9 d (A0 (qv 1) A3)))) (AL rfl (Ze Lb (by rfl) HY d (by decide) rfl rfl Pz (A0 A4 A3))) BD)
   (AL rfl (Ak (qv 1))))),?_⟩
 refine Fz.WE h ZM ?_;rintro _ _ _⟨x,rfl,hx,rfl,rfl⟩;intro i0;have hl:=Jq x;have hw:(BB x).length<=1000/\∀v∈BB x,v.length<=1000:=by
  unfold BB;split
  .exact⟨by simp,λv a=>by cases a⟩
  .exact⟨by omega,λv a=>by have:=hl.2 v a;omega⟩
 show Ws [_,.any] _ _ _;refine FP (λAK=>AK=[.is (.str x),.own ((BB x).map .str)]) (De (yP (CC (Gj (A7 rfl (BP ⟨rfl,_,rfl,?_⟩)))))) ?_
 .show if decide (x="-")=true then _ else _
  refine Ag (λc=>?_) (λc=>?_)
  .have b:BB x=[]:=i6 (gP c);refine Ii (Ee ⟨by simp,?_⟩);rw[b];rfl
  .have b:BB x=Aa x:=hZ λz=>c (gS z);refine IY (A7 rfl ⟨x,rfl,BP ⟨" ", rfl,by decide,by omega,?_,?_⟩⟩)
   .show(Aa x).length<=100000;omega
   rw[b];rfl
 .rintro _ rfl;refine BF (Bx (Dp (E2 (pR (Ck rfl ⟨BB x,rfl,hw.1,hw.2,_,rfl,?_⟩)))));refine Ag (λc=>?_) (λc=>BC ?_)
  .refine dk (BG ⟨av (i:=0) (by decide),trivial,rfl,Y5 c⟩)
  .exact OA rfl ⟨rfl,UM c⟩
def pG:B8 ["word"] ["word"] (AW Nv):=by walk_at "z1"
def tm:Scope:={ kind:=.function,names:=[(".0", .local),("sign", .local),("FIGURES", .globalImplicit)],isGenerator:=false,isCoroutine:=false,more:=[] }
def lR:DN ["word"] (AW Nv) tm "sign" [] []:=by walk_at "z2"
def Yt : ∀ss R,Ko ss R->ss.length=1:=by rintro _ _⟨w,rfl,hw,rfl⟩;rfl
def q8(F:AM K "is_number" "is_number" Nv f fd)(m:mg "is_number"=some (.ref f)):
  AD P w K mg Zk "is_number" 1 ["word"] (An Ko):=by
 refine AD.mk F (F.binds (by walk_at "bD1")) m (F.BX (k:=0) pG (λvs H Q E h=>Fz.Cv Yt h) (λAS A outer s H vs Q E n h=>?_))
 refine⟨_,(AF rfl (B9 (Fh (Ei (Xg HF HF A4 (AU Kk Ad (A0 (qv 0) A3)) (Bj (v:=.int 60) (by rfl) Se ⟨_,rfl⟩))) (IP (Ei (Ey (AU (GX rfl) BV (A0 (Fu rfl lR (Pe (qv 0)) (λ_ _ _ _=>by exact Dy) (λ_ _ _ _=>by exact(DP Q8 (qv 0) (Bj (v:=.str "0123456789") (by rfl) SW ⟨_,rfl⟩)))) A3)))))).pt (AL rfl (Ak Hd)) BD)
   (AL rfl (Ak (Z0 (DP BL (qv 0) AI) (G2 (DP Vr (B2 US (qv 0) A4) AI)))))),?_⟩
 refine Fz.Cw h Yt ?_;rintro _ _⟨w,rfl,hw,rfl⟩;show Ws [_] _ _ _;refine BF (Bx (FV (Dp (CC (RJ (BG ⟨_,rfl,TN (A7 rfl ⟨w,rfl,by omega,_,rfl,?_⟩)⟩))))));refine Ag (λc1=>?_) (λc1=>⟨_,rfl,D8 rfl (D8 rfl (BO (IV ?_)))⟩)
 .refine BG ⟨_,rfl,_,rfl,?_⟩;refine Ag (λc2=>D8 rfl (BO (IV ?_))) (λc2=>?_)
  .rw[L5 λh=>?_];rw[gS h.2.1]at c2;cases c2
  .refine Dp (E2 (K5 rfl (Bb (BW (IM (λc:Nat=>PV.str ⟨#[c]⟩) (λ_=>true) (λc=>.bl (Dz c)) (Xj (A7 rfl ⟨w,rfl,w.cps.toList,rfl,?_,λx hx=>Eu rfl,λx hx _=>?_,?_⟩)) (λa b h=>by injection h with h;injection h with h;simpa using h))))))
   .have:w.cps.toList.length=w.length:=by simp[Str.length]
    omega
   .exact dy (A7 rfl ⟨_,rfl,BP ⟨_,rfl,rfl⟩⟩)
   .rw[Gg];refine⟨_,.inl ⟨rfl,rfl,w.cps.toList.map Dz,by rw[CL];rfl,_,rfl,?_⟩⟩;refine Ag (λd=>BO (IV ?_)) (λd=>BC ?_)
    .rw[L5 λh=>?_];rw[h.2.2]at d;cases d
    .have h1:(1:Int)<=w.length:=gP c1;have h2:(w.length:Int)<=60:=by
      cases e:decide ((w.length:Int)<=60)with
      |true=>exact gP e
      |false=>exact absurd (by rw[e];rfl) c2
     have l:(w.cps.toList.map Dz).all id=true:=by
      cases e:(w.cps.toList.map Dz).all id with
      |true=>rfl
      |false=>exact absurd (by rw[e];rfl) d
     rw[dh h1 h2 l];refine BO (T5 (Gj (A7 rfl (BP ⟨rfl,_,rfl,?_⟩))));show if decide (w="0")=true then _ else _
     refine Ag (λg=>?_) (λg=>?_)
     .rw[g];rfl
     .refine Sr (dD (A7 rfl ⟨w,rfl,by omega,?_⟩));have hl:w.cps.toList.length=w.length:=by simp[Str.length]
      cases i:w.cps.toList with
      |nil=>rw[i]at hl;simp at hl;omega
      |cons a r=>
       refine BG ⟨0,a,rfl,(Ez (j:=0) rfl:BA (a::r) ((0:Nat):Int)=some a),BP ⟨rfl,?_⟩⟩;rw[Bool.eq_false_iff.mpr g,eU];show PV.bl (!decide ((⟨#[a]⟩:Str)="0"))=_
       congr 2
       refine decide_eq_decide.mpr ⟨λh=>?_,λh=>?_⟩
       .have:({ cps:=#[a] }:Str).cps.toList=("0":Str).cps.toList:=iK (λz:Str=>z.cps.toList) h;rw[show({ cps:=#[a] }:Str).cps.toList=[a]from rfl,dM]at this
        simpa using this
       .have h:a=48:=by simpa using h
        subst h;decide
 .rw[L5 λh=>c1 (gS h.1)]
def kC:B8 ["word","kind"] ["word","kind"] (AW UC):=by walk_at "z1"
def aD : ∀ss R,Tv ss R->ss.length=2:=by rintro _ _⟨w,kd,rfl,_,_,rfl⟩;rfl
def lg(F:AM K "fits" "fits" UC f fd)(m:mg "fits"=some (.ref f)):
  AD P w K mg Zk "fits" 2 ["word","kind"] (An Tv):=by
 refine AD.mk F (F.binds (by walk_at "bD2")) m (F.BX (k:=1) kC (λvs H Q E h=>Fz.Cv aD h) (λAS A outer s H vs Q E b h=>?_))
 refine⟨_,(AF rfl (B9 (Az BL (qv 1) AI) (AL rfl (Ak Hd)) BD)
   (AF rfl (B9 (Az BL (qv 1) AI) (AL rfl (Ak (AV L6 b (A0 (qv 0) A3)))) BD)
   (AF rfl (B9 (Az BL (qv 1) AI) (AL rfl (Ak (DP Sh (qv 0) (Bj (v:=.ref IG) (by rfl) VO rfl)))) BD)
   (AL rfl (Ak (AV VE b (A0 (qv 0) A3))))))),?_⟩
 refine Fz.Cw h aD ?_;rintro _ _⟨w,kd,rfl,hw,a,rfl⟩;have C:Et K IG ([("none":Str), "ahead","all"].map .str):=Et.of U4 rfl rfl;show Ws [_,_] _ _ _;have a:kd="name" ∨kd="number" ∨kd="rule" := by
  simpa only[Fp,Dn,Bg,m9]using a
 rcases a with rfl|rfl|rfl
 .walk_at "ww"
  refine Du (by decide) (BC ?_)
  walk_at "ww"
  refine D8 (by decide) ?_;exact BO (V2 (A7 rfl ⟨w,rfl,hw,rfl⟩))
 .walk_at "ww"
  refine Du (by decide) (BC ?_)
  walk_at "ww"
  refine Du (by decide) (BC ?_)
  walk_at "ww"
  refine Du (by decide) (BC ?_);refine BO (wp_call (C7 (A7 rfl (Bw ⟨_,⟨w,rfl,hw,rfl⟩,?_⟩))));rintro _ rfl;rfl
 .walk_at "ww"
  refine Du (by decide) (BC ?_)
  walk_at "ww"
  refine Du (by decide) (BC ?_)
  walk_at "ww"
  refine D8 (by decide) ?_;refine BO (lL (neg:=false) C (A7 rfl ⟨w,rfl,?_⟩));rfl
def tR:B8 ["words","form"] ["words","form"] (AW Oe):=by walk_at "z1"
def sP:Scope:={ kind:=.function,names:=[(".0", .local),("word", .local),("kind", .local),("fits", .globalImplicit)],isGenerator:=false,isCoroutine:=false,more:=[] }
def uv:HI ["words","form"] (AW Oe) sP ["word","kind"] [] []:=by walk_at "z3"
def aW : ∀ss R,(Rp K) ss R->ss.length=2:=by rintro _ _⟨ws,ks,a,rfl,_,_,_,_,_,rfl⟩;rfl
def yc(F:AM K "fit" "fit" Oe f fd)(m:mg "fit"=some (.ref f)):
  AD P w K mg Zk "fit" 3 ["words","form"] (An (Rp K)):=by
 refine AD.mk F (F.binds (by walk_at "bD2")) m (F.BX (k:=2) tR (λvs H Q E h=>Fz.Cv aW h) (λAS A outer s H vs Q E e h=>?_))
 refine⟨_,(AL rfl (Ak (Fw (DP BL (AU Ds Ad (A0 (qv 0) A3)) (AU Ds Ad (A0 (qv 1) A3))) (G2 (AU (GX rfl) BV (A0 (SK rfl uv (.cons (.cons .nil)) (λ_=>rfl) (λ_=>rfl) (aI rfl Fc (A0 (qv 0) (A0 (qv 1) A3))) (λ_ _ _ _=>by exact Dy) (λ_ _ _ _=>by exact(AV RM e (A0 (qv 0) (A0 (qv 1) A3))))) A3)))))),?_⟩;refine Fz.Cw h aW ?_;rintro _ _⟨ws,ks,a,rfl,b,hl,h2,hw,j,rfl⟩;show Ws [_,_] _ _ _;refine BO (JY (Gj (XJ (M0 rfl (qu (A7 rfl ⟨_,_,rfl,b,rfl,_,rfl,?_⟩))))));rw[AH,AH];have l:alike (PV.int (ws.length:Int)) (PV.int (ks.length:Int))=decide (ws.length=ks.length):=by
  show decide ((ws.length:Int)=ks.length)=_;exact decide_eq_decide.mpr ⟨λh=>by omega,λh=>by omega⟩
 rw[l];refine Ag (λc=>?_) (λc=>?_)
 .unfold Bu;rw[c,El];refine K5 rfl (Bb (BW (T6 (λ_=>true) bX (bQ (N5 rfl (A7 rfl ⟨_,_,rfl,b,?_,λx hx=>?_,?_⟩))))))
  .rw[JE,AH];omega
  .obtain⟨p,q,i,g,rfl⟩:=e9 hx;obtain⟨w,d,rfl⟩:=List.mem_map.mp i;obtain⟨kd,n,rfl⟩:=List.mem_map.mp g;refine⟨_,rfl,rfl,Eu rfl,λ_=>?_⟩;refine wp_call (C7 (A7 rfl (C7 (A7 rfl (Bw ⟨_,⟨w,kd,rfl,hw w d,j kd n,rfl⟩,?_⟩)))));rintro _ rfl;rfl
  .rw[Gg,xZ];exact⟨_,.inl ⟨rfl,rfl,_,rfl,rfl⟩⟩
 .unfold Bu;rw[Bool.eq_false_iff.mpr c,eS]
def oM:B8 ["words","form"] ["words","form"] (AW OM):=by walk_at "z1"
def y2:Scope:={ kind:=.function,names:=[(".0", .local),("word", .local),("kind", .local),("int", .globalImplicit)],isGenerator:=false,isCoroutine:=false,more:=[] }
def vZ:HI ["words","form"] (AW OM) y2 ["word","kind"] [] []:=by walk_at "z3"
def Zs : ∀ss R,(Uk K) ss R->ss.length=2:=by rintro _ _⟨ws,ks,a,rfl,_,_,_,_,rfl⟩;rfl
def uA(F:AM K "values_of" "values_of" OM f fd)(m:mg "values_of"=some (.ref f)):
  AD P w K mg Zk "values_of" 1 ["words","form"] (An (Uk K)):=by
 refine AD.mk F (F.binds (by walk_at "bD2")) m (F.BX (k:=0) oM (λvs H Q E h=>Fz.Cv Zs h) (λAS A outer s H vs Q E l h=>?_))
 refine⟨_,(AL rfl (Ak (SK rfl vZ (.cons (.cons .nil)) (λ_=>rfl) (λ_=>rfl) (aI rfl Fc (A0 (qv 0) (A0 (qv 1) A3))) (λ_ _ _ _=>by exact Dy) (λ_ _ _ _=>by exact(YJ (Az BL (qv 1) AI) (Gq bj EM (A0 (qv 0) A3)) (qv 0)))))),?_⟩;refine Fz.Cw h Zs ?_;rintro _ _⟨ws,ks,a,rfl,j,hl,g,i,rfl⟩;show Ws [_,_] _ _ _;refine ay (T6 (λ_=>true) Yz (bQ (N5 rfl (A7 rfl ⟨_,_,rfl,j,?_,λx hx=>?_,?_⟩))))
 .rw[JE,AH];omega
 .obtain⟨w,kd,ex,n,d⟩:=gK g i hx;subst ex;refine⟨_,rfl,rfl,Eu rfl,λ_=>?_⟩;refine jI (CC (Gj (A7 rfl (BP ⟨rfl,_,rfl,?_⟩))));show if decide (kd="number")=true then _ else _
  refine Ag (λc=>?_) (λc=>?_)
  .have e:kd="number" := gP c;have b:=d e;refine Yh (A7 rfl ⟨w,_,rfl,aF b,by have:=(LX b).2.2.1;omega,?_⟩);show _=if kd="number" then _ else _
   rw[i6 e]
  .refine A7 rfl ?_;show _=if kd="number" then _ else _
   rw[hZ λz=>c (gS z)]
 .rw[Gg,kS]
def Yx:B8 ["line","number","words"] ["line","number"] (AW Qy):=by walk_at "z1"
def aP:∀ss R D,(R5 AR) ss R D->ss.length=2:=by rintro _ _ _⟨x,n,rfl,_,_,rfl,rfl⟩;rfl
def x9(F:AM K "read_entry" "read_entry" Qy f fd)(m:mg "read_entry"=some (.ref f)):
  EJ P w K mg Zk "read_entry" 4 ["line","number"] (Gi (R5 AR)):=by
 refine EJ.mk F (F.binds (by walk_at "bD2")) m (F.Ug (k:=3) Yx (λvs H Q E h=>Fz.RC aP h) (λAS A outer s H vs Q E i h=>?_))
 refine⟨_,(AF rfl (Ac 2 Yx.nd (CF FI Kh Ki Ij (qv 0) (A0 AI A3)))
   (AF rfl (B9 (Fh (Az LF (qv 1) (Bj (v:=.int 400) (by rfl) Vu ⟨_,rfl⟩)) (Fh (yF (B2 Bv (qv 2) A4) (Bj (v:=.ref Gw) (by rfl) Mm rfl)) (IP (Ei (Ey (AV Tb i (A0 (Gx JF (qv 2) (FO A4) Ga) (A0 (YH (Bj (v:=.ref Gw) (by rfl) Mm rfl) (B2 Bv (qv 2) A4) (λ_ _=>rfl)) A3)))))))).pt (AL rfl (Ze Lb (by rfl) HY i (by decide) rfl rfl Pz (A0 (qv 1) A3))) BD)
   (AL rfl (Ak (Gq dS G8 (A0 (Ae Il (Gx JF (qv 2) Ga (FO A4)) (AV U3 i (A0 (Gx JF (qv 2) (FO A4) Ga) (A0 (YH (Bj (v:=.ref Gw) (by rfl) Mm rfl) (B2 Bv (qv 2) A4) (λ_ _=>rfl)) A3)))) A3)))))),?_⟩
 refine Fz.WE h aP ?_;rintro _ _ _⟨x,n,rfl,hx,G,rfl,rfl⟩;intro i0;have hl:=Jq x;show Ws [_,_,.any] _ _ _;refine BF (De (IY (A7 rfl ⟨x,rfl,BP ⟨" ", rfl,by decide,by omega,?_,?_⟩⟩)))
 .show(Aa x).length<=100000;omega
 obtain⟨u,r,es⟩:∃u r,Aa x=u::r:=by
  cases e:Aa x with
  |nil=>exact absurd e (Fq x)
  |cons a b=>exact⟨a,b,rfl⟩
 have j:=N6 es;have d:r.length<=1000/\(∀v∈r,v.length<=1000):=by
  rw[es]at hl;exact⟨by have:=hl.1;rw[B6]at this;omega,λv C=>by have:=hl.2 v (By _ C);omega⟩
 show Ws [_,_,.own ((Aa x).map .str)] _ _ _;rw[es];have l:BA ((u::r).map PV.str) ((0:Nat):Int)=some (.str u):=Ez rfl;have cut:Eb ((u::r).map PV.str) (some 1) none=r.map .str:=by
  rw[KQ];exact iK (List.map PV.str) (OQ (u::r) 1)
 have y:Eb ((u::r).map PV.str) none (some 1)=[.str u]:=by
  rw[KQ];exact iK (List.map PV.str) (Zx (u::r) 1)
 have g:(400<n∨Bm x=none)->Ws [Slot.is (PV.str x),Slot.is (PV.int n),Slot.own (List.map PV.str (u::r))] (My AR "line" (λ_=>E) (Ab (Br 1) B0)) (λ_=>False) (.is λp=>p=C2 x/\¬ (400<n∨Bm x=none)):=λh=>
  dk (A7 rfl ⟨av (by omega),trivial,rfl,h⟩)
 refine BF (Bx (FV (CC ?_)))
 walk_at "ww"
 refine Ag (λc=>D8 rfl ((g (.inl (by have:=gP c;omega))).mono λ_ z=>z.elim)) (λc=>?_);have B:¬ 400<n:=λz=>c (gS (by omega));refine FV (E2 (qM Mr (EA (Ck rfl ⟨rfl,BG ⟨_,_,rfl,l,u,rfl,_,rfl,?_⟩⟩))));rcases ni SG u with⟨h1,h2⟩|⟨b,ks,h1,h2,q,D⟩
 .rw[h1];refine D8 rfl (D8 rfl ((g (.inr ?_)).mono λ_ z=>z.elim));rw[j];unfold FD;rw[h2];rfl
 rw[h1];refine Du (by simp) ?_;obtain⟨k2,k3⟩:=ZQ ks D;refine Dp (E2 (wp_call (Jl (Bb (BW ?_)))));refine Hn (Ck rfl ⟨rfl,GF (BG ⟨1,rfl,HG ?_⟩)⟩);rw[cut];refine⟨_,.inl ⟨rfl,C7 (aO Mr (EA (Ck rfl ⟨rfl,BG ⟨_,_,rfl,l,u,b,ks.map .str,rfl,h1,Bw ⟨_,⟨r,ks,b,rfl,q,d.1,k2,d.2,k3,rfl⟩,?_⟩⟩⟩)))⟩⟩;rintro _ rfl;refine⟨_,rfl,?_⟩;refine Ag (λc2=>(g (.inr ?_)).mono λ_ z=>z.elim) (λc2=>BC ?_)
 .rw[j];unfold FD;rw[h2];show(if Bu r ks=true then _ else none)=none
  rw[Y5 c2];rfl
 have o:=UM c2;have t:Bm x=some (.tup (.str u::List.zipWith Cq r ks)):=by
  rw[j];unfold FD;rw[h2];show(if Bu r ks=true then _ else none)=_
  rw[i6 o]
 refine BO (UN rfl (Bb (BW (N3 (Bb (BW ?_))))));refine Hn (Ck rfl ⟨rfl,HG (GF (BG ⟨1,rfl,?_⟩))⟩);rw[y];refine⟨_,.inl ⟨rfl,rfl,Bb (BW (YG (Jl (Bb (BW ?_)))))⟩⟩;refine Hn (Ck rfl ⟨rfl,GF (BG ⟨1,rfl,HG ?_⟩)⟩);rw[cut];refine⟨_,.inl ⟨rfl,C7 (aO Mr (EA (Ck rfl ⟨rfl,BG ⟨_,_,rfl,l,u,b,ks.map .str,rfl,h1,Bw ⟨_,⟨r,ks,b,rfl,q,d.1,k3,o,rfl⟩,?_⟩⟩⟩)))⟩⟩;rintro _ rfl;refine⟨_,.inl ⟨rfl,rfl,?_,_,.inl ⟨rfl,?_,?_⟩⟩⟩
 .rw[QQ];show 1+_<=_;omega
 .unfold C2;rw[t];rfl
 .rintro(z|z)
  .exact B z
  .rw[t]at z;cases z
def Rm:B8 ["text","lines","row"] ["text"] (AW O3):=by walk_at "z1"
def uh:Scope:={ kind:=.function,names:=[(".0", .local),("number", .local),("line", .local),("read_entry", .globalImplicit)],isGenerator:=false,isCoroutine:=false,more:=[] }
def k4:HI ["text","lines","row"] (AW O3) uh ["number","line"] [] []:=by walk_at "z3"
def YB:∀ss R D,(RY AR) ss R D->ss.length=1:=by rintro _ _ _⟨x,x0,ls,rfl,_,_,rfl,rfl⟩;rfl
def t9(F:AM K "read_log" "read_log" O3 f fd)(m:mg "read_log"=some (.ref f)):
  EJ P w K mg Zk "read_log" 5 ["text"] (Gi (RY AR)):=by
 refine EJ.mk F (F.binds (by walk_at "bD1")) m (F.Ug (k:=4) Rm (λvs H Q E h=>Fz.RC YB h) (λAS A outer s H vs Q E d h=>?_))
 refine⟨_,(AF rfl (Ac 1 Rm.nd (CF FI Kh Ki Ij (qv 0) (A0 AI A3)))
   (AF rfl (Ac 2 Rm.nd (dU Rq d (by decide) Pz rfl (A0 (B2 Bv (qv 1) A4) A3)))
   (AL rfl (Ak (Cu (A0 (qv 2) (A0 (kL rfl rfl Pz rfl k4 (.cons (.cons .nil)) (λ_=>rfl) (λ_=>rfl) (yi rfl Qj (A0 (Gx JF (qv 1) (FO A4) Ga) A3) A4) (λ_ _ _ _=>by exact Dy) (λ_ _ _ _ _ _ g gc=>by exact(ue Vd d (by decide) gc g (A0 (qv 1) (A0 (qv 0) A3))))) A3))))))),?_⟩
 refine Fz.WE h YB ?_;rintro _ _ _⟨x,x0,ls,rfl,hx,p,rfl,rfl⟩;intro i0;have hl:=bf x;obtain⟨MT,Ep⟩:=hx;show Ws [_,.any,.any] _ _ _;refine BF (De (IY (A7 rfl ⟨x,rfl,BP ⟨"\n", rfl,by decide,by omega,?_,?_⟩⟩)))
 .show(DD x).length<=100000;omega
 show Ws [_,.own ((DD x).map .str),_] _ _ _;rw[p]at hl Ep ⊢;have B:BA ((x0::ls).map PV.str) ((0:Nat):Int)=some (.str x0):=Ez rfl;have cut:Eb ((x0::ls).map PV.str) (some 1) none=ls.map .str:=by
  rw[KQ];exact iK (List.map PV.str) (OQ (x0::ls) 1)
 refine BF (De (xF (C7 (EA (Ck rfl ⟨rfl,BG ⟨_,_,rfl,B,Bw ⟨_,_,⟨x0,rfl,Ep x0 (by simp),rfl,rfl⟩,trivial,?_,?_⟩⟩⟩)))))
 .rintro e⟨rfl,a⟩;refine⟨0,rfl,?_⟩;unfold bad;rw[a];rfl
 rintro _⟨rfl,a⟩;refine LD 2 rfl ?_;show Ws [_,.own ((x0::ls).map .str),.is (.lst ((BB x0).map .str))] _ _ _;refine BO (MC (Co (A7 rfl (Co (BW (vC (λj=>∀l,ls[j]?=some l->¬ (400<1+j∨Bm l=none)) bc (fk (ND (BW (Hn (Ck rfl ⟨rfl,GF (BG ⟨1,rfl,HG ?_⟩)⟩)))))))))));rw[cut];refine⟨_,.inl ⟨rfl,rfl,?_,λi q r b=>?_,λb=>?_⟩⟩
 .rw[LI,AH];have:=hl.1;rw[B6]at this;omega
 .obtain⟨y,c,rfl⟩:=t7 r;rw[B3]at c;obtain⟨l,BM,rfl⟩:=Option.map_eq_some_iff.mp c;have t:=DJ BM;have hi:i<ls.length:=(List.getElem?_eq_some_iff.mp BM).1;refine⟨_,rfl,rfl,Eu rfl,?_⟩;have z:((i:Int)+1)=((1+i:Nat):Int):=by omega
  rw[z];refine aS (C7 (A7 rfl (C7 (A7 rfl (Bw ⟨_,_,⟨l,1+i,rfl,Ep l (by simp[t]),by have:=hl.1;rw[B6]at this;omega,rfl,rfl⟩,trivial,?_,?_⟩)))))
  .rintro e⟨rfl,v⟩;refine⟨1+i,rfl,?_⟩;unfold bad;rw[i6 a];exact U1 BM (λj o u n=>b j u o n) v
  .rintro _⟨rfl,ok⟩;refine⟨rfl,λl2 C9=>?_⟩;rw[BM]at C9;cases C9;exact ok
 .refine Ee ⟨by simp,?_,?_⟩
  .unfold Fs;rw[jh]
  .unfold bad;rw[i6 a];exact W3 λi l BM=>b i (by rw[LI,AH];exact(List.getElem?_eq_some_iff.mp BM).1) l BM
def Mn:B8 ["text","found","e"] ["text"] (AW R9):=by walk_at "z1"
def X1:∀ss R,(W7 AR) ss R->ss.length=1:=by rintro _ _⟨x,x0,ls,rfl,_,_,rfl⟩;rfl
def rP(F:AM K "_law_heard" "_law_heard" R9 f fd)(m:mg "_law_heard"=some (.ref f)):
  AD P w K mg Zk "_law_heard" 6 ["text"] (An (W7 AR)):=by
 refine AD.mk F (F.binds (by walk_at "bD1")) m (F.BX (k:=5) Mn (λvs H Q E h=>Fz.Cv X1 h) (λAS A outer s H vs Q E b h=>?_))
 refine⟨_,(AF rfl (Ac 1 Mn.nd Rv)
   (AF rfl (k6 (j:=2) rfl rfl Mn.nd rfl rfl (by rfl) JQ (λ_ _ _ g1=>by exact(AL rfl (Ac 1 Mn.nd (dU Tg b (by decide) g1 rfl (A0 (qv 0) A3))))) (λ_=>by exact(AL rfl (Ac 1 Mn.nd (qv 2)))))
   (AL rfl (Ak (qv 1))))),?_⟩
 refine Fz.Cw h X1 ?_;rintro _ _⟨x,x0,ls,rfl,hx,a,rfl⟩;show Ws [_,.any,.any] _ _ _
 walk_at "ww"
 refine rU (λAK=>AK=[.is (.str x),.is .A5,.any]) (λe=>∃n,e=ML AR n/\bad x0 ls=some n) (λE=>?_) (λMe e c d=>?_)
 .letI:Xw:=Le E (λAK=>AK=[.is (.str x),.is .A5,.any]) (λe=>∃n,e=ML AR n/\bad x0 ls=some n);refine JZ (aS (C7 (A7 rfl (Bw ⟨_,_,⟨x,x0,ls,rfl,hx,a,rfl,rfl⟩,rfl,λe h=>h,?_⟩))));rintro _⟨rfl,ho⟩;clear this;show Ws _ _ _ _;exact BO (A7 rfl (.inl ⟨rfl,ho⟩))
 .subst c;obtain⟨n,rfl,ho⟩:=d;refine⟨xm,?_⟩;refine JZ (A7 rfl ?_);show Ws _ _ _ _;exact BO (A7 rfl (.inr ⟨n,rfl,ho⟩))
def Hm:B8 ["script","k","pot","row","log","rows","turn","text"] ["script"] (AW Iq):=by walk_at "z1"
def sZ:Scope:={ kind:=.function,names:=[(".0", .local),("turn", .local),("_law_any_entry", .globalImplicit),("pot", .free),("row", .free)],isGenerator:=false,isCoroutine:=false,more:=[] }
def vn:DN ["script","k","pot","row","log","rows","turn","text"] (AW Iq) sZ "turn" ["pot","row"] [2,3]:=by walk_at "z2"
def pM:Scope:={ kind:=.function,names:=[(".0", .local),("entry", .local),("_law_words", .globalImplicit)],isGenerator:=false,isCoroutine:=false,more:=[] }
def ko:DN ["script","k","pot","row","log","rows","turn","text"] (AW Iq) pM "entry" [] []:=by walk_at "z2"
def fg(F:AM K "law" "law" Iq f fd)(m:mg "law"=some (.ref f)):
  C5 P w K mg Zk ET 7 f fd ["script"] (N1 K):=by
 refine(F.BX (k:=6) Hm (λvs H Q E h=>by obtain⟨a,ns,rfl,_⟩:=h;rfl) (λAS A outer s H vs Q E d h=>?_));refine⟨_,(AF rfl (C1 (LH Kg rfl (MX rfl Ec (A0 (AU (jv rfl) Ra (A0 A4 (A0 (AU (wW rfl) Rr (A0 (AU Ds Ad (A0 (qv 0) A3)) (A0 A4 A3))) A3))) A3)) (HS 1 Hm.nd) (AF rfl (Ac 2 Hm.nd (AV Ri d (A0 (qv 0) (A0 (qv 1) A3))))
   (AF rfl (Ac 3 Hm.nd (AV SO d (A0 (qv 2) (A0 (B2 Ff (Cu (A0 A4 (A0 A4 A3))) (Gq da EM (A0 (DP BL (AV Ap d (A0 (qv 2) (A0 A4 A3))) A4) A3))) A3))))
   (AF rfl (fj (i:=4) Hm.nd rfl (Or.inl rfl) rfl vn (MX rfl Ec (A0 (AV Ap d (A0 (qv 2) (A0 A4 A3))) A3)) (λ_ _ _ _=>by exact Dy) (λ_ _ _ _=>by exact(AV Tu d (A0 (qv 0) (A0 (qv 1) A3)))))
   (AF rfl (Ac 5 Hm.nd (Ae Il (D3 (A0 (AV TY d (A0 (qv 3) A3)) A3)) (Fu rfl ko (KR (qv 4)) (λ_ _ _ _=>by exact Dy) (λ_ _ _ _=>by exact(AV WO d (A0 (qv 0) A3))))))
   (AF rfl (B9 (Az (Fz.oP d.units) (AV OD d (A0 (CF FI Nd Nf Lc AI (A0 (qv 5) A3)) A3)) (Cu (A0 (qv 3) (A0 (qv 4) A3)))) (AL rfl (Ak Hd)) BD)
   (AF rfl (C1 (LH Kg rfl (MX rfl Ec (A0 (AV Ap d (A0 (qv 2) (A0 A4 A3))) A3)) (HS 6 Hm.nd) (AL rfl (Ac 5 Hm.nd (AV VQ d (A0 (qv 2) (A0 (qv 5) A3)))))))
   (AF rfl (Ac 7 Hm.nd (CF FI Nd Nf Lc AI (A0 (qv 5) A3)))
   (AL rfl (B9 (Ei (Ey (AV SD d (A0 (AV RD d (A0 (qv 7) A3)) (A0 (AV OD d (A0 (qv 7) A3)) A3))))) (AL rfl (Ak Hd)) BD)))))))))))
   (AL rfl (Ak Hd))),?_⟩
 refine Fz.jP h ?_;intro sc ZL;have al:=gE al;show Ws [_,.any,.any,.any,.any,.any,.any,.any] _ _ _;refine BF (DY (NR (λ_ _ AK=>∃D s2 C s4 B g u:Slot,AK=[.raw (IJ K sc),D,s2,C,s4,B,g,u]) ?_))
 walk_at "ww"
 obtain⟨n,en,hn,_⟩:=sg (b:=2) (c:=16) (n:=sc.length) (by decide) (by decide) (by omega);rw[en,GO];refine⟨by omega,by omega,⟨_,_,_,_,_,_,_,rfl⟩,?_,?_⟩
 .rintro i p AK l⟨D,s2,C,s4,B,g,u,rfl⟩;obtain⟨hi,rfl⟩:=Xl l;refine Nr ?_
  walk_at "ww"
  refine⟨by omega,by omega,?_⟩
  walk_at "ww"
  refine⟨by simp,?_⟩
  walk_at "ww"
  refine⟨by decide,by decide +kernel,λr d=>?_⟩
  walk_at "ww"
  obtain⟨W,em,X,m2⟩:=pO (alike (PV.int (r:Int)) (PV.int 0));refine⟨_,_,rfl,em,W,rfl,X,by omega,λns hz G nd=>?_⟩;have M1:ns.length<=40:=by omega
  refine LD 3 rfl ?_;refine BF (De (um (λ_ p=>∃xs,GN xs/\p=.tup xs) ?_))
  walk_at "ww"
  refine⟨by decide,by decide +kernel,λc hc=>?_⟩;have Ky:c<=12:=by omega
  walk_at "ww"
  rw[GO];refine⟨by omega,by omega,by rw[KW];omega,λx hx=>Eu rfl,λx hx=>?_,λys Jv M=>?_⟩
  .refine PZ rfl (Jl (LA rfl (Bw ⟨_,⟨ns,rfl,by omega,G,rfl⟩,λp l=>l⟩)))
  obtain⟨es,rfl,z⟩:=k7 (ys:=ys) λy σ=>by
   obtain⟨q,L,eq⟩:=List.getElem_of_mem σ;have h1:ys[q]?=some y:=by rw[Aw L,eq]
   have h2:q<(JD c).length:=by omega
   exact M q _ y (Aw h2) h1
  have hl:es.length<=12:=by have h:=Jv;rw[AH,KW]at h;omega
  clear M Jv;refine LD 4 rfl ?_;show Ws [_,.is (.int i),.AQ,.is (.lst (ns.map .str)),.is (.lst (es.map .tup)),_,_,_] _ _ _
  walk_at "ww"
  refine wp_call (Jl (LA rfl (Bw ⟨_,⟨ns,rfl,by omega,G,rfl⟩,?_⟩)));rintro _ rfl;refine Ee ⟨by simp,_,.inl ⟨rfl,rfl,Bb (BW (IM PV.tup (λ_=>true) (λe=>.str (E4 e)) (N9 ?_) (λ_ _ e=>by injection e)))⟩⟩
  walk_at "ww"
  refine⟨by omega,λx hx=>Eu rfl,λx hx _=>wp_call (C7 (A7 rfl (Bw ⟨_,⟨x,rfl,by have:=(z x hx).Ta.1;omega,(z x hx).Ta.2,rfl⟩,λ_ h=>h⟩))),?_⟩;rw[Gg];refine⟨_,.inl ⟨rfl,rfl,by rw[AH];show 1+_<=_;omega,?_⟩⟩;have U:([PV.str (EU ns)]++es.map λe=>PV.str (E4 e))=(EU ns::es.map E4).map .str:=by rw[Cn,CL];rfl
  rw[U];obtain⟨N,de⟩:=ke M1 G nd hl z;obtain⟨T,D9,R⟩:=N.text (by omega);show Ws [_,.is (.int i),.AQ,.is (.lst (ns.map .str)),.is (.lst (es.map .tup)),.own ((EU ns::es.map E4).map .str),_,_] _ _ _;have J:dat K 40 (PV.tup [.lst (ns.map .str),.lst (es.map .tup)]):=oE ns z;have O:∀rs:List Str,Txt.join "\n" rs=Fx rs:=λrs=>Qh "\n" rs;refine BF (Bx (CC (di (wp_call (C7 ?_)))))
  walk_at "ww"
  rw[O];refine⟨R,Bw ⟨_,⟨_,EU ns,es.map E4,rfl,T,D9,rfl⟩,?_⟩⟩;rintro _ rfl;rw[de];refine MC (Co (A7 rfl (Co (A7 rfl (Ee ⟨by simp,J,J,_,rfl,?_⟩)))));rw[Y7 40 J];refine Du (by decide) (BC ?_);refine BF (DY (NR (λ_ q AK=>∃(rows:List Str)(g:Slot),AK=[.raw (IJ K sc),.is (.int i),.AQ,.is (.lst (ns.map .str)),.is (.lst (es.map .tup)),.own (rows.map .str),g,u]/\FY q rows) ?_))
  walk_at "ww"
  refine⟨by decide,by decide +kernel,λt ht=>?_⟩;have V:t<=3:=by omega
  walk_at "ww"
  rw[GO];refine⟨by omega,by omega,⟨_,_,rfl,N⟩,?_,?_⟩
  .rintro q p AK l⟨rows,g,rfl,j⟩;obtain⟨L,rfl⟩:=Xl l;refine Nr ?_;refine De (vm rfl (Jl (Ck rfl (Bw ⟨_,⟨q,rows,rfl,j,by omega,rfl⟩,?_⟩))));rintro _⟨rs,rfl,h⟩;exact⟨rs,.is (.int q),rfl,h⟩
  rintro _⟨rows,g,rfl,j⟩;rw[KW]at j;obtain⟨o,sp,Y⟩:=j.text V;obtain⟨x0,ls,e0⟩:∃x0 ls,rows=x0::ls:=by
   cases e:rows with
   |nil=>exact absurd e j.ne
   |cons a b=>exact⟨a,b,rfl⟩
  walk_at "ww"
  rw[O];refine⟨Y,?_⟩;rw[e0]at o sp;rw[e0];have dP:x0.length<=900/\ls.length<=1000:=by
   have h1:=o.2 x0 (by rw[sp];simp);have h2:=j.cnt;rw[e0,B6]at h2;exact⟨h1,by omega⟩
  refine Bx (Dp (E2 (wp_call (C7 (wp_call (C7 (A7 rfl (Bw ⟨_,⟨_,x0,ls,rfl,o,sp,rfl⟩,?_⟩))))))));rintro _ hh;refine C7 (wp_call (C7 (A7 rfl (Bw ⟨_,⟨_,x0,ls,rfl,o,sp,rfl⟩,?_⟩))));rintro _ rfl;rcases hh with⟨rfl,v⟩|⟨m,rfl,v⟩
  .have I:FX x0 ls=Fs x0 ls:=by unfold FX;rw[v]
   rw[I];obtain⟨HE,e1,e2,e3⟩:=xT (K:=K) v;have S:(BB x0).length<=1000:=by
    have:=(Jq x0).1;unfold BB;split
    .simp
    .omega
   refine Bw ⟨_,⟨_,_,rfl,.inr ⟨BB x0,HE,e1,rfl,S,by omega,e3⟩,rfl⟩,?_⟩;rintro _ rfl;exact⟨_,rfl,Du (by decide) (BC ⟨_,_,_,_,_,_,_,rfl⟩)⟩
  .have I:FX x0 ls=.int m:=by unfold FX;rw[v]
   rw[I];refine Bw ⟨_,⟨_,_,rfl,.inl ⟨m,rfl,rfl,al,rfl,al.ex.toExGet,hd,na⟩,rfl⟩,?_⟩;rintro _ rfl;exact⟨_,rfl,Du (by decide) (BC ⟨_,_,_,_,_,_,_,rfl⟩)⟩
 .rintro AK⟨D,s2,C,s4,B,g,u,rfl⟩
  walk_at "ww"
  rfl
def all_mk{h:Heap}{fa f1 f2 f3 f4 f5 f6 f7 f8 f9 aH Zm Xt dX aT ae Yr Zp cR Yi Z7 Zf Yb YV Xn cq dJ bD XO Y8 Xp ai cE Xd:Addr}{g1 g2 g3 g4 g5 g6 g7 g8 g9 yD rq zC uX xw tK jg ji sk u7 xJ jm n9 oV sO yf pH hV rk wG wq j8 pL oS:FuncData}(X:K.In h)(G:h.Ns mainGlobals mg)(y0:mg "law"=some (.ref fa))
  
  (a1:nS K "_law_pot" (.ref f1)) (F1:AM K "_law_pot" "_law_pot" TU f1 g1)
  (a2:nS K "_law_take" (.ref f2)) (F2:AM K "_law_take" "_law_take" Ve f2 g2)
  (a3:nS K "_law_letters" (.ref f3)) (F3:AM K "_law_letters" "_law_letters" Ue f3 g3)
  (a4:nS K "_law_name" (.ref f4)) (F4:AM K "_law_name" "_law_name" Rb f4 g4)
  (a5:nS K "_law_names" (.ref f5)) (F5:AM K "_law_names" "_law_names" Vl f5 g5)
  (a6:nS K "_law_row" (.ref f6)) (F6:AM K "_law_row" "_law_row" W4 f6 g6)
  (a7:nS K "_law_number" (.ref f7)) (F7:AM K "_law_number" "_law_number" V6 f7 g7)
  (a8:nS K "_law_any_entry" (.ref f8)) (F8:AM K "_law_any_entry" "_law_any_entry" Sj f8 g8)
  (a9:nS K "_law_is_name" (.ref f9)) (F9:AM K "_law_is_name" "_law_is_name" O6 f9 g9)
  (xa:nS K "_law_is_number" (.ref aH)) (gf:AM K "_law_is_number" "_law_is_number" Oy aH yD)
  (qN:nS K "_law_sort" (.ref Zm)) (ka:AM K "_law_sort" "_law_sort" Uc Zm rq)
  (uZ:nS K "_law_parts" (.ref Xt)) (jH:AM K "_law_parts" "_law_parts" Qi Xt zC)
  (xI:nS K "_law_entry" (.ref dX)) (va:AM K "_law_entry" "_law_entry" P0 dX uX)
  (tF:nS K "_law_read" (.ref aT)) (yK:AM K "_law_read" "_law_read" Of aT xw)
  (jx:nS K "_law_bent_row" (.ref ae)) (yy:AM K "_law_bent_row" "_law_bent_row" RB ae tK)
  (wx:nS K "_law_bent" (.ref Yr)) (ij:AM K "_law_bent" "_law_bent" OH Yr jg)
  (iR:nS K "_law_alone" (.ref Zp)) (pD:AM K "_law_alone" "_law_alone" UW Zp ji)
  (yM:nS K "_law_whole" (.ref cR)) (k8:AM K "_law_whole" "_law_whole" V3 cR sk)
  (uk:nS K "_law_texts" (.ref Yi)) (jt:AM K "_law_texts" "_law_texts" Oz Yi u7)
  (qc:nS K "_law_right" (.ref Z7)) (sS:AM K "_law_right" "_law_right" Nh Z7 xJ)
  (fi:nS K "_law_row_text" (.ref Zf)) (kJ:AM K "_law_row_text" "_law_row_text" WJ Zf jm)
  (nh:nS K "_law_words" (.ref Yb)) (vO:AM K "_law_words" "_law_words" Pn Yb n9)
  (mS:nS K "is_name" (.ref YV)) (gs:AM K "is_name" "is_name" OT YV oV)
  (tO:nS K "is_row" (.ref Xn)) (iB:AM K "is_row" "is_row" Ni Xn sO)
  (nA:nS K "read_row" (.ref cq)) (yB:AM K "read_row" "read_row" VZ cq yf)
  (wt:nS K "is_number" (.ref dJ)) (lA:AM K "is_number" "is_number" Nv dJ pH)
  (tY:nS K "fits" (.ref bD)) (pN:AM K "fits" "fits" UC bD hV)
  (xA:nS K "fit" (.ref XO)) (xg:AM K "fit" "fit" Oe XO rk)
  (rX:nS K "values_of" (.ref Y8)) (kO:AM K "values_of" "values_of" OM Y8 wG)
  (ma:nS K "read_entry" (.ref Xp)) (iQ:AM K "read_entry" "read_entry" Qy Xp wq)
  (o7:nS K "read_log" (.ref ai)) (qr:AM K "read_log" "read_log" O3 ai j8)
  (tZ:nS K "_law_heard" (.ref cE)) (xb:AM K "_law_heard" "_law_heard" R9 cE pL)
  (Za:nS K "law" (.ref Xd)) (X8:AM K "law" "law" Iq Xd oS)
  (u0:nN K "ValueError")
  (pU:nN K "all")
  (vG:nN K "bool")
  (z9:nN K "enumerate")
  (jQ:nN K "int")
  (vY:nN K "isinstance")
  (jT:nN K "len")
  (kc:nN K "list")
  (rl:nN K "max")
  (ou:nN K "min")
  (qC:nN K "range")
  (yJ:nN K "set")
  (pQ:nN K "str")
  (p5:nN K "tuple")
  (uc:nN K "zip")
  (mT:nS K "FIGURES" (.str "0123456789" Qr))
  (yu:nS K "FORMS" (.ref Gw))
  {YF Z4 Ye dg cT YY Zl:Tok}(wc:K.lookup Gw=some ⟨.type "dict", none,.dict #[⟨PyData.keyHash w.params "put", .str "put" YF,.ref J9⟩,⟨PyData.keyHash w.params "take", .str "take" Z4,.ref J5⟩,⟨PyData.keyHash w.params "move", .str "move" Ye,.ref Iw⟩,⟨PyData.keyHash w.params "turn", .str "turn" dg,.ref J4⟩,⟨PyData.keyHash w.params "begin", .str "begin" cT,.ref II⟩,⟨PyData.keyHash w.params "tell", .str "tell" YY,.ref Ie⟩,⟨PyData.keyHash w.params "over", .str "over" Zl,.ref IK⟩] ml,#[]⟩) (ky:(Gw == sysModules)=false)
  {mX nq:Tok}(oy:K.lookup J9=some ⟨.type "tuple", wa,.seq #[.str "name" mX,.str "number" nq] fu,xl⟩)
  (mL:K.lookup J5=some ⟨.type "tuple", gI,.seq #[.str "name" jV] yw,lF⟩)
  {yW nE:Tok}(rK:K.lookup Iw=some ⟨.type "tuple", gJ,.seq #[.str "name" yW,.str "number" nE] oW,qO⟩)
  {xp qJ:Tok}(pF:K.lookup J4=some ⟨.type "tuple", lU,.seq #[.str "number" xp,.str "number" qJ] nU,lq⟩)
  {uJ vN:Tok}(iP:K.lookup II=some ⟨.type "tuple", yr,.seq #[.str "name" uJ,.str "rule" vN] rB,me⟩)
  {i5 pC:Tok}(jj:K.lookup Ie=some ⟨.type "tuple", wb,.seq #[.str "name" i5,.str "name" pC] pJ,vA⟩)
  (lC:K.lookup IK=some ⟨.type "tuple", gH,.seq #[.str "name" vx] pT,uB⟩)
  (xU:nS K "LETTERS" (.str "abcdefghijklmnopqrstuvwxyz" U5))
  (pP:nS K "MOST_ENTRIES" (.int 400 WW))
  (vF:nS K "MOST_FIGURES" (.int 60 So))
  (vQ:nS K "MOST_LETTERS" (.int 8 UJ))
  (qW:nS K "MOST_THINGS" (.int 40 U7))
  (p4:nS K "RULES" (.ref IG))
  {gU oA xr:Tok}(wg:K.lookup IG=some ⟨.type "tuple", tq,.seq #[.str "none" gU,.str "ahead" oA,.str "all" xr] yG,gq⟩)
  (xC:nS K "Endless" (.ref CY))
  (nJ:nS K "Full" (.ref CN))
  (yp:nS K "Gone" (.ref CV))
  (yx:nS K "NoLog" (.ref Cc))
  (yQ:nS K "NoLoop" (.ref Cd))
  (uY:nS K "NoName" (.ref Ci))
  (xV:nS K "NoOrders" (.ref CZ))
  (iu:nS K "NoPlace" (.ref CP))
  (pj:nS K "NoRow" (.ref Ca))
  (la:nS K "NoRule" (.ref Cf))
  (oX:nS K "NoText" (.ref AR))
  (qy:nS K "NoTicket" (.ref CS))
  (qY:nS K "NoWhere" (.ref CT))
  (wK:nS K "Stale" (.ref CQ))
  (lQ:nS K "StirError" (.ref BR))
  (iG:nS K "There" (.ref Cg))
  (jz:nS K "TooMany" (.ref Cb))
  (xS:PySem.W.specialIn K (.ref BR) "__getattribute__"=some (some (.builtin "type.__getattribute__")))
  (l6:PySem.W.readsIn K BR (.type "type")=true)
  (gR:PySem.W.findCls K (.ref BR) (.type "type") "__init__"=some (.val (.builtin "ValueError.__init__")))
  (ZAI:PySem.W.findIn K (.ref AR) "__init__"=some (some (.ref Q7))) (Zz:AM K "__init__" "NoText.__init__" R1 Q7 vR)
  (pS:Ll K AR (some (.ref Q7))=true)
  (wJ:PySem.W.findIn K (.ref AR) "__setattr__"=some (some (.builtin "object.__setattr__")))
  (tG:OZ K AR=true)
  (je:PySem.W.takerIn K AR "line"=some none)
  (qF:PySem.W.hasDictIn K AR=true)
  (nO:PySem.W.isFn K (.ref Q7)=true)
  (tX:PySem.W.keepIn K (.ref AR)=true)
  (xm:PySem.W.exmOne K (.ref AR) (.ref BR)=some true)
  (al:Pr K [Ci,Cg,CV,CP,Cf,Cc,CQ,CT,AR,CN,Cb,Cd,CS,CY,CZ,Ca] BR AR 8=true)
  (hd:PySem.W.hasDictIn K AR=true)
  (na:PySem.W.findIn K (.ref AR) "line"=some none)
  : ∃fd:FuncData,(∀(s:Shared)(v:Value),BindsTo s fd ⟨[v],[]⟩ [("script", v)])/\∀Zk:Heap,K.In Zk->Zk.Ns mainGlobals mg->C5 l.prog w K mg Zk ET 7 fa fd ["script"] (N1 K):=by
 have e:=y0.symm.trans (Af X G Za);cases e;have Sx:=Eo X G u0;have BV:=Eo X G pU;have Rz:=Eo X G vG;have Qj:=Eo X G z9;have EM:=Eo X G jQ;have BH:=Eo X G vY;have Ad:=Eo X G jT;have Hi:=Eo X G kc;have Ra:=Eo X G rl;have Rr:=Eo X G ou;have Ec:=Eo X G qC;have LY:=Eo X G yJ;have Ks:=Eo X G pQ;have G8:=Eo X G p5;have Fc:=Eo X G uc;have SW:=Af X G mT;have Mm:=Af X G yu;have Mr:Hj l.prog w K Gw [("put", J9),("take", J5),("move", Iw),("turn", J4),("begin", II),("tell", Ie),("over", IK)]:=Hj.of [("put", YF,J9),("take", Z4,J5),("move", Ye,Iw),("turn", dg,J4),("begin", cT,II),("tell", YY,Ie),("over", Zl,IK)] wc (by show(["put","take","move","turn","begin","tell","over"]:List Str).Nodup;decide) ky;have SG:Fz.M4 K [(J9,["name","number"]),(J5,["name"]),(Iw,["name","number"]),(J4,["number","number"]),(II,["name","rule"]),(Ie,["name","name"]),(IK,["name"])]:=⟨λH=>.inr ⟨_,_,_,oy,rfl,rfl,(by show 2<=sizeLine;decide +kernel),(.cons ⟨_,rfl⟩ (.cons ⟨_,rfl⟩ .nil))⟩,λH=>.inr ⟨_,_,_,mL,rfl,rfl,(by show 1<=sizeLine;decide +kernel),(.cons ⟨_,rfl⟩ .nil)⟩,λH=>.inr ⟨_,_,_,rK,rfl,rfl,(by show 2<=sizeLine;decide +kernel),(.cons ⟨_,rfl⟩ (.cons ⟨_,rfl⟩ .nil))⟩,λH=>.inr ⟨_,_,_,pF,rfl,rfl,(by show 2<=sizeLine;decide +kernel),(.cons ⟨_,rfl⟩ (.cons ⟨_,rfl⟩ .nil))⟩,λH=>.inr ⟨_,_,_,iP,rfl,rfl,(by show 2<=sizeLine;decide +kernel),(.cons ⟨_,rfl⟩ (.cons ⟨_,rfl⟩ .nil))⟩,λH=>.inr ⟨_,_,_,jj,rfl,rfl,(by show 2<=sizeLine;decide +kernel),(.cons ⟨_,rfl⟩ (.cons ⟨_,rfl⟩ .nil))⟩,λH=>.inr ⟨_,_,_,lC,rfl,rfl,(by show 1<=sizeLine;decide +kernel),(.cons ⟨_,rfl⟩ .nil)⟩,trivial⟩;have Ux:=Af X G xU;have Vu:=Af X G pP;have Se:=Af X G vF;have UQ:=Af X G vQ;have W6:=Af X G qW;have VO:=Af X G p4;have U4:∀H,Al K H IG [.str "none", .str "ahead", .str "all"]:=λH=>.inr ⟨_,_,_,wg,rfl,rfl,(by show 3<=sizeLine;decide +kernel),(.cons ⟨_,rfl⟩ (.cons ⟨_,rfl⟩ (.cons ⟨_,rfl⟩ .nil)))⟩;have SS:=Af X G xC;have VA:=Af X G nJ;have T8:=Af X G yp;have SM:=Af X G yx;have Sq:=Af X G yQ;have UU:=Af X G uY;have Tc:=Af X G xV;have Ro:=Af X G iu;have SI:=Af X G pj;have TC:=Af X G la;have HY:=Af X G oX;have R0:=Af X G qy;have VN:=Af X G qY;have SY:=Af X G wK;have JQ:=Af X G lQ;have SU:=Af X G iG;have Ul:=Af X G jz;obtain⟨_,_,kV,dc,pm,an,cd,ct,_,rfl,_,_⟩:=id X8.ex;refine⟨PySem.W.fnOf "law" "law" (NC Iq) (IL Iq) (AW Iq) .none kV dc pm an cd ct,λs v=>.of_eq rfl,λZk _ _=>?_⟩;have Lb:=kP (P:=l.prog) (w:=w) (Zk:=Zk) Zz (Zz.binds (ps:=["self","line"]) (by walk_at "bD2")) ⟨pS,wJ,tG,je,qF,nO,tX⟩ ⟨xS,l6,gR,rfl⟩ JQ
 have Ri:=vt (P:=l.prog) (w:=w) (Zk:=Zk) Ad F1 (Af X G a1);have Ap:=yH (P:=l.prog) (w:=w) (Zk:=Zk) F2 (Af X G a2);have JA:=vi (P:=l.prog) (w:=w) (Zk:=Zk) F3 (Af X G a3);have Ju:=jW Ad JA Ap F4 (Af X G a4);have TB:=lM Ju Ec F5 (Af X G a5);have SO:=x5 Ap TB F6 (Af X G a6);have OO:=jX Ap F7 (Af X G a7);have Tu:=vq Ad Ap Ju OO F8 (Af X G a8);have LS:=lY (P:=l.prog) (w:=w) (Zk:=Zk) Ad BV F9 (Af X G a9);have TH:=vg (P:=l.prog) (w:=w) (Zk:=Zk) Ad BV gf (Af X G xa);have WR:=yh LS TH ka (Af X G qN);have SX:=uz (P:=l.prog) (w:=w) (Zk:=Zk) EM Fc jH (Af X G uZ);have VI:=xG Ad BV Fc SX WR G8 va (Af X G xI);have OD:=yo Ad Ec BV LS VI LY yK (Af X G tF);have Ss:=yd Ad Ap yy (Af X G jx);have VQ:=su Ad JA Ap Ec Ss Hi ij (Af X G wx);have SJ:=ym (P:=l.prog) (w:=w) (Zk:=Zk) (CY:=CY) (CN:=CN) (CV:=CV) (Cc:=Cc) (Cd:=Cd) (Ci:=Ci) (CZ:=CZ) (CP:=CP) (Ca:=Ca) (Cf:=Cf) (AR:=AR) (CS:=CS) (CT:=CT) (CQ:=CQ) (BR:=BR) (Cg:=Cg) (Cb:=Cb) Sx BH SS VA T8 SM Sq UU Tc Ro SI TC HY R0 VN SY JQ SU Ul pD (Af X G iR);have Td:=mx (P:=l.prog) (w:=w) (Zk:=Zk) EM BH Rz k8 (Af X G yM);have Qm:=qD (P:=l.prog) (w:=w) (Zk:=Zk) BV Hi BH Ks jt (Af X G uk);have SD:=wC (CY:=CY) (CN:=CN) (CV:=CV) (Cc:=Cc) (Cd:=Cd) (Ci:=Ci) (CZ:=CZ) (CP:=CP) (Ca:=Ca) (Cf:=Cf) (AR:=AR) (CS:=CS) (CT:=CT) (CQ:=CQ) (BR:=BR) (Cg:=Cg) (Cb:=Cb) Ad BV G8 Hi BH SJ Qm Td sS (Af X G qc);have TY:=kG (P:=l.prog) (w:=w) (Zk:=Zk) EM kJ (Af X G fi);have WO:=kK (P:=l.prog) (w:=w) (Zk:=Zk) Ks vO (Af X G nh);have L6:=iY (P:=l.prog) (w:=w) (Zk:=Zk) Ad BV Ux UQ gs (Af X G mS);have T9:=l9 Ad BV LY L6 W6 iB (Af X G tO);have Rq:=jY (AR:=AR) HY T9 Lb yB (Af X G nA);have VE:=q8 (P:=l.prog) (w:=w) (Zk:=Zk) Ad BV SW Se lA (Af X G wt);have RM:=lg L6 VE VO U4 pN (Af X G tY);have Tb:=yc Ad BV Fc RM xg (Af X G xA);have U3:=uA (P:=l.prog) (w:=w) (Zk:=Zk) EM Fc kO (Af X G rX);have Vd:=x9 (AR:=AR) G8 HY Lb Tb U3 Mm Mr SG Vu iQ (Af X G ma);have Tg:=t9 (AR:=AR) Vd Rq Qj qr (Af X G o7);have RD:=rP (AR:=AR) (BR:=BR) JQ Tg xm xb (Af X G tZ);exact fg (CY:=CY) (CN:=CN) (CV:=CV) (Cc:=Cc) (Cd:=Cd) (Ci:=Ci) (CZ:=CZ) (CP:=CP) (Ca:=Ca) (Cf:=Cf) (AR:=AR) (CS:=CS) (CT:=CT) (CQ:=CQ) (BR:=BR) (Cg:=Cg) (Cb:=Cb) Ad Ap Ec EM Tu VQ RD Ri OD SD SO TY WO Ra Rr al hd na X8 (Af X G Za)
def walk{loose:List Str}{XP:(ZAg)->Heap->Prop}{YP:World->Heap->Prop}{d:DefRec}{K:Params->ZAe}(hn:l.most=some 63)(MH:d.params.defaults=[])
  (hY:∀(w:World)(h:Heap),YP w h->(K w.params).In h)
  (F:∀(w:World)(mg:ZAg)(fa:Addr)(h:Heap),(K w.params).In h->h.Ns mainGlobals mg->mg d.name=some (.ref fa)->
   ∃fd:FuncData,(∀(s:Shared)(u:Value),BindsTo s fd ⟨[u],[]⟩ [("script", u)])/\∀Zk:Heap,(K w.params).In Zk->Zk.Ns mainGlobals mg->C5 l.prog w (K w.params) mg Zk ET 7 fa fd ["script"] (N1 (K w.params))) :
  PySem.W.WalkO q loose XP YP l.row.toRowW d [] (λf vs=>PySem.call f vs):=
 L2.p8 (n:=63) (k:=7) (x:="script") (CX:=λ_=>ET) (sp:=λw=>N1 (K w.params)) hn (by decide) MH ⟨rfl,by decide,by decide⟩ hY F (λ_ _ a ns hl _ hS=>⟨a,ns,rfl,hS,hl,λ_=>rfl⟩) λ_ _ _ _ _ z=>z
end Pf
open PySem.W
local macro_rules | `(tactic| walk_at "kF")=>`(tactic| (refine' L2.xO ?_ ?_ ?_;all_goals try k_is;all_goals k_is))
set_option maxRecDepth 100000 in
set_option maxHeartbeats 0 in
theorem PySem.Challenge.cw_stirround_k92_logs_read_holds : PySem.Challenge.rw_stirround_k92_logs_read.Holds := by
 w_on;o_law;k_head;(case hw=>w_witness2)
 k_fill
 refine Pf.walk (l:=PySem.Challenge.rw_stirround_k92_logs_read) rfl rfl (λw h Y=>PySem.W.kIn_of Y) ?F
 case F=>
  intro w mg fa h KX G M3;refine' Pf.all_mk KX G M3 ?_ ?_ ?_ ?_ ?_ ?_ ?_ ?_ ?_ ?_ ?_ ?_ ?_ ?_ ?_ ?_ ?_ ?_ ?_ ?_ ?_ ?_ ?_ ?_ ?_ ?_ ?_ ?_ ?_ ?_ ?_ ?_ ?_ ?_ ?_ ?_ ?_ ?_ ?_ ?_ ?_ ?_ ?_ ?_ ?_ ?_ ?_ ?_ ?_ ?_ ?_ ?_ ?_ ?_ ?_ ?_ ?_ ?_ ?_ ?_ ?_ ?_ ?_ ?_ ?_ ?_ ?_ ?_ ?_ ?_ ?_ ?_ ?_ ?_ ?_ ?_ ?_ ?_ ?_ ?_ ?_ ?_ ?_ ?_ ?_ ?_ ?_ ?_ ?_ ?_ ?_ ?_ ?_ ?_ ?_ ?_ ?_ ?_ ?_ ?_ ?_ ?_ ?_ ?_ ?_ ?_ ?_ ?_ ?_ ?_ ?_ ?_ ?_ ?_ ?_ ?_ ?_ ?_ ?_ ?_ ?_ ?_ ?_ ?_ ?_ ?_ ?_ ?_ ?_ ?_ ?_ ?_
  any_goals first|k_is|(show _=_;k_is)|kernel_rfl|walk_at "kF"
#print axioms PySem.Challenge.cw_stirround_k92_logs_read_holds
