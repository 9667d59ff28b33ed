import PyProof.Rows.All
import Wide.All
import OpenK.AllK
import PySem.Challenge.RW_stirround_k46_as_many_lines
set_option genSizeOf false
set_option linter.all false
set_option compiler.extract_closed false
set_option bootstrap.genMatcherCode false
noncomputable section
def Wo:=@PySem.wpAny_bind
def dP:=@PySem.wpAny_pure
def eJ:=@if_neg
def eM:=@if_pos
def eV:=@decide_eq_true
def eW:=@decide_eq_true_eq
def fD:=@decide_eq_false
def i4:=@PySem.wpAny_setState_of
def i7:=@PySem.wpAny_mono
def iI:=@congrArg
def iY:=@of_decide_eq_true
def iZ:=@PySem.wpAny_holding
def il:=@PySem.wpAny_call_entry
def j4:=@PySem.wpAny_newObj_type
def jQ:=@PySem.wpAny_askSetting
def jv:=@PySem.wpAny_of_eq
def k6:=@PySem.wpAny_setEntries_of
def k9:=@PySem.codeAny_builtin
def kd:=@PySem.fits_of_scanBound
def l7:=@PySem.wpAny_storeSet_of
def lM:=@PySem.wpAny_setEpoch_of
def lW:=@PySem.wpAny_callSpecial?_slot
def lZ:=@PySem.wpAny_truthy_bool
def mI:=@PySem.isSubtype_type
def nW:=@PySem.wpAny_isInstance
def o3:=@beq_self_eq_true
def o7:=@PySem.wpAny_Call_Name_kw
def oF:=@PySem.wpAny_rule
def oS:=@PySem.wpAny_setField
def pC:=@PySem.wpAny_passesOwn
def pE:=@PySem.codeAny_mono
def pT:=@PySem.wpAny_pyIter_tuple
def qU:=@or_false
def rJ:=@PySem.plainId_quiet
def rY:=@PySem.wpAny_pyIter_list
def rh:=@PySem.sizeLine_eq
def sW:=@PySem.lookup_relabel_local
def tJ:=@PySem.wpAny_attempt
def uI:=@decide_eq_true_iff
def ud:=@decide_eq_false_iff_not
def uj:=@PySem.wpAny_runValue
def vK:=@PySem.wpAny_pyIter_enum
def vQ:=@PySem.builtinLookup_eq_fast
def w8:=@beq_iff_eq
def wZ:=@PySem.wpAny_newList
def wx:=@PySem.wpAny_updateSeq
def x8:=@PySem.wpAny_ite_split
def xS:=@PySem.wpAny_execs_nil
def zx:=@PySem.wpAny_typeOf
def zy:=@PySem.wpAny_load
def ZA0:=@PySem.wpAny_fieldsOf
def ZA1:=@PySem.entryFor_alias
def ZA2:=@PySem.tupleKind_room_in1
def ZA3:=@PySem.wpAny_letOwnedTupleGo_enum
def ZA4:=@PySem.wpAny_field
def ZA5:=@PySem.wpAny_pyIter_slot
def ZA8:=@PySem.wpAny_setScan_of
def ZA9:=@PySem.wpAny_forIn_list
def ZAA:=@PySem.noFill_tuple_add
def ZAC:=@PySem.wpAny_specialOf
def ZAD:=@PySem.typeLookup_type
def ZAE:=@PySem.codeAny_of_tree
def ZAF:=@PySem.wpAny_newTuple
def ZAG:=@PySem.isSubtype_stop
def AB:=@List.length_map
def AL:=@List.getElem?_eq_getElem
def AM:=@List.getElem?_map
def AW:=@Nat.le_refl
def AY:=@PySem.Heap.lt_size
def Ad:=@Nat.ne_of_lt
def Ae:=@List.mem_cons_self
def Af:=@PySem.Heap.get?_push_of_some
def Am:=@List.length_cons
def Au:=@List.mem_cons_of_mem
def Ay:=@PySem.Heap.get?_push_size
def BB:=@Option.some.inj
def BG:=@Ne.symm
def BL:=@List.mem_of_getElem?
def BN:=@Nat.zero_le
def BQ:=@List.length_append
def BY:=@List.append_assoc
def BZ:=@List.not_mem_nil
def Bo:=@List.mem_append_right
def Bp:=@List.size_toArray
def Bq:=@PySem.W.mg_of
def Bs:=@Array.length_toList
def C1:=@PySem.Heap.size_push
def C5:=@Nat.lt_of_lt_of_le
def CC:=@Nat.le_trans
def CJ:=@List.getElem?_set_ne
def Cd:=@List.length_range
def Ce:=@List.map_cons
def Cf:=@Nat.le_succ
def Cn:=@Bool.and_eq_true
def Co:=@Bool.false_ne_true
def Cp:=@List.getElem?_set_self
def Cq:=@List.map_map
def Cw:=@List.map_append
def D5:=@List.getElem?_append_left
def D6:=@List.mem_append_left
def DO:=@Nat.ne_of_gt
def De:=@List.mem_cons
def Dw:=@Nat.lt_succ_of_lt
def Dx:=@PySem.PassesOwn.never
def EN:=@PySem.Heap.SameBut.update
def EO:=@List.nodup_append
def Ef:=@List.append_nil
def Eg:=@List.getElem?_append_right
def Eh:=@List.take_length
def FI:=@List.all_eq_true
def FJ:=@List.getElem_mem
def FK:=@Nat.le_of_lt
def FL:=@PySem.W.mg_none_of
def Fh:=@List.Perm.refl
def Fi:=@List.length_take
def GC:=@List.nodup_nil
def Gj:=@Array.getElem?_eq_getElem
def Gk:=@PySem.Heap.get?_update_self
def Gm:=@List.length_set
def Gn:=@Nat.lt_of_le_of_lt
def Gp:=@Nat.lt_succ_self
def Gq:=@PySem.W.kia_one
def Gr:=@PySem.mem_of_lookup
def Hk:=@Bool.eq_iff_iff
def Hl:=@List.lookup_cons
def Hm:=@Nat.succ.inj
def Hn:=@PySem.Obj.data_mapFields
def Ho:=@PySem.Value.isStrOf_shape
def Iz:=@PySem.Around.under_plainId
def J0:=@PySem.Heap.get?_update_other
def J4:=@Int.emod_lt_of_pos
def J5:=@Int.emod_nonneg
def J6:=@Int.toNat_natCast
def J7:=@List.getD_eq_getElem?_getD
def J8:=@List.length_erase_of_mem
def J9:=@List.mem_singleton
def JA:=@List.take_succ_eq_append_getElem
def KG:=@Array.getElem?_toList
def KH:=@Bool.and_false
def KI:=@PySem.Heap.SameBut.refl
def KJ:=@List.any_eq_true
def KL:=@Option.map_some
def LJ:=@Bool.true_and
def LK:=@List.any_cons
def LL:=@List.foldl_cons
def LM:=@Nat.le_of_eq
def LN:=@Nat.lt_irrefl
def N8:=@PySem.Around.in1_handled
def N9:=@Classical.byContradiction
def NA:=@List.find?_cons
def NB:=@List.getElem?_eq_none
def NC:=@List.getElem?_range
def ND:=@List.length_nil
def NF:=@List.mem_append
def NG:=@List.mem_erase_of_ne
def NH:=@List.pairwise_map
def NI:=@Nat.le_of_lt_succ
def NJ:=@Nat.not_lt_of_le
def NL:=@Nat.sub_self
def NM:=@Nat.zero_add
def NN:=@Option.some.injEq
def NO:=@PyProof.Rows.F.plain_set_update_loop
def NP:=@PyProof.Rows.callWith_type1
def NQ:=@PySem.F.plainAttrs_list
def QM:=@List.all_cons
def QN:=@List.drop_eq_getElem_cons
def QP:=@List.ext_getElem
def QQ:=@List.ext_getElem?
def QR:=@List.filter_append
def QU:=@List.filter_cons_of_neg
def QV:=@List.filter_cons_of_pos
def QX:=@List.length_pos_of_mem
def QY:=@List.length_singleton
def QZ:=@List.map_nil
def Qa:=@List.mem_filter
def Qb:=@List.mem_range
def Qc:=@List.set_cons_succ
def Qd:=@List.set_set
def Qe:=@Nat.lt_trans
def Qf:=@PySem.Obj.isFreed_of_fields
def VW:=@Array.getElem?_eq_none
def VX:=@Array.size_map
def VY:=@Bool.and_true
def VZ:=@Bool.false_or
def Va:=@Classical.choose_spec
def Vb:=@PySem.F.plain_list_iadd
def Vc:=@PySem.F.slot_set_iter
def Vd:=@PySem.F.slot_tuple_iterator_next
def Ve:=@PySem.Heap.get?_update_ne
def Vf:=@PySem.Heap.size_update
def Vg:=@Int.eq_ofNat_of_zero_le
def Vh:=@Int.toNat_of_nonneg
def Vi:=@List.concat_eq_append
def Vj:=@List.cons_append
def Vk:=@List.cons_lt_cons_iff
def Vl:=@List.eq_nil_or_concat
def Vm:=@List.forIn_nil
def Vn:=@List.length_drop
def Vo:=@List.length_filter_le
def Vp:=@List.take_append_drop
def Vq:=@List.take_of_length_le
def Vr:=@List.zip_cons_cons
def Vs:=@Nat.le_of_not_lt
def Vt:=@Nat.le_succ_of_le
def Vu:=@Nat.mod_lt
def Vv:=@PySem.Obj.cls_mapFields
def Vw:=@PyProof.Rows.F.entry_set_update_loop
def Vx:=@PySem.F.slot_list_append
def Vy:=@PySem.F.type_list_append
def Vz:=@PySem.strKind_is
def W0:=@PySem.Walks.list
def dN:=@Array.getD_eq_getD_getElem?
def dO:=@Array.toList_append
def dQ:=@Array.toList_push
def dR:=@Bool.false_and
def dS:=@Bool.or_false
def dU:=@PySem.Code.quiet_builtin
def dW:=@List.Pairwise.imp_of_mem
def dX:=@List.Pairwise.sublist
def dY:=@List.filterMap_cons
def dZ:=@List.forIn_cons
def da:=@List.getElem?_replicate
def de:=@List.length_replicate
def df:=@List.map_congr_left
def dg:=@List.map_set
def dh:=@List.mem_map
def di:=@List.mem_of_mem_take
def dj:=@List.nil_append
def dk:=@List.nodup_range
def dq:=@List.of_mem_zip
def dr:=@List.pairwise_singleton
def du:=@List.set_cons_zero
def dv:=@PySem.MeetsSeq2.wpAny_forIn_array
def dw:=@Nat.min_self
def dy:=@Nat.pow_succ
def dz:=@Nat.sub_zero
def eB:=@Nat.succ_pos
def eC:=@Nat.two_pow_pos
def eD:=@Option.isSome_map
def eE:=@PySem.Paired.length
def eF:=@PySem.F.args_tuple_add_2
def eG:=@PySem.F.entry_tuple_add
def eI:=@PySem.F.slot_tuple_add
def xp:=@Array.eq_empty_of_size_eq_zero
def xq:=@Array.forIn_toList
def xr:=@Array.toArray_toList
def xt:=@Array.toList_extract
def xu:=@Array.toList_filterMap
def xv:=@Bool.eq_false_iff
def xw:=@PySem.Calls.Name_function_global
def xx:=@PySem.Calls.callWith_builtin
def xy:=@PySem.Calls.call_function_entry
def y0:=@PySem.F.args_tuple_iterator_next_1
def y3:=@PySem.F.entry_tuple_iterator_next
def y4:=@Int.lt_of_le_of_lt
def y6:=@Int.natCast_nonneg
def y8:=@List.Pairwise.filter
def y9:=@List.Pairwise.imp
def yA:=@List.Pairwise.map
def yB:=@List.Sublist.refl
def yC:=@List.dropLast_eq_take
def yD:=@List.drop_length
def yE:=@List.filterMap_append
def yF:=@List.filterMap_cons_some
def yG:=@List.filter_sublist
def yH:=@List.flatten_append
def yI:=@List.flatten_cons
def yJ:=@List.foldl_append
def yK:=@List.getElem?_toArray
def yL:=@List.getElem?_zipIdx
def yM:=@List.getElem_drop
def yN:=@List.getElem_inj
def yO:=@List.length_eraseIdx_of_lt
def yP:=@List.length_zipIdx
def yQ:=@List.map_replicate
def yR:=@List.mem_filterMap
def yS:=@List.mem_of_mem_drop
def yT:=@List.nil_sublist
def yU:=@List.pairwise_lt_range
def yV:=@List.perm_ext_iff_of_nodup
def yW:=@List.perm_middle
def yX:=@List.replicate_succ
def yY:=@List.set_append_right
def yZ:=@List.sublist_append_left
def ya:=@List.take_sublist
def yb:=@List.zip_nil_right
def yc:=@Nat.eq_zero_or_pos
def yd:=@Nat.le_add_right
def ye:=@Nat.le_of_succ_le
def yf:=@Nat.lt_of_lt_of_eq
def yg:=@Nat.lt_or_eq_of_le
def yh:=@Nat.lt_trichotomy
def yi:=@Nat.min_eq_right
def yj:=@Option.bind_some
def yk:=@Option.getD_some
def yl:=@Option.isSome_some
def ym:=@PySem.F.entry_set_init
def yn:=@PySem.F.entry_type_call
def yo:=@PySem.F.plain_extend_loop
def yp:=@PySem.F.plain_set_new
def yq:=@PySem.F.slot_list_insert
def yr:=@PySem.F.sub_list_frozenset
def yt:=@PySem.F.sub_list_set
def yu:=@PySem.F.typeCall_set_1
def yw:=@PySem.W.cellsFrom_some
def yx:=@PySem.W.codeHd_of_K
def yy:=@PySem.W.kitx_dict
def yz:=@PySem.W.kitx_list
def z4:=@PySem.SeqAt.RcNeAt.lists_lengths
open PySem PySem.Spec PyProof.Rows
abbrev zu:=PySem.W.Frag
abbrev zv:=(List (Addr×Obj))
abbrev zw:=(Str->Option Value)
namespace PySem.W.Fast
def t:=Nat
def tw12007212756254047697:=t
def tw12886454584511507840:=t
def tw5550391160781548332:=t
def tw5437144037887636564:=t
def tw14223733703058042196:=t
def tw12762577112268301692:=t
def tw9281388383438719035:=t
def tw6930160872771058549:=t
def tw651520763770631501:=t
def tw14614207275405890429:=t
def tw10106182877298090942:=t
def tw452945523948886886:=t
def tw12477884120822868394:=t
def tw16478640228734189917:=t
def tw4288734862537428872:=t
def tw1917684578886340828:=t
def tw1068930211253870196:=t
def tw14364323338327732915:=t
def tw11875912814871508756:=t
def tw6121435738039631393:=t
def tw6714567974003386654:=t
def tw7919539450969410638:=t
def tw10502950514532089679:=t
def tw752589831123208808:=t
def tw13631408534292068079:=t
def tw9741570293684702819:=t
def tw13895589326548006690:=t
def tw14814456774905410098:=t
def tw13996915308917426530:=t
def tw13218822482529495432:=t
def tw15630094167000588200:=t
def tw1769002799383729729:=t
def tw1297741384947199393:=t
def tw14285009527685655380:=t
def tw17415647818275966327:=t
def tw7906399878325410539:=t
def tw12215862219655279844:=t
def tw17088768118354812057:=t
def tw16567782598991513256:=t
def tw15809099221363376580:=t
def tw10847910129816059860:=t
def tw4504990323917228932:=t
def tw5148011800704815804:=t
def tw14332444173067248009:=t
def tw14697088418780905527:=t
def tw2942210698379382572:=t
def tw5709826376697834759:=t
def tw10350534313629711381:=t
def tw8397431108026125130:=t
def tw7904977603064790178:=t
def tw16188304265970157425:=t
def tw12676218092089531228:=t
def tw339564086784347303:=t
def tw11097332730557296165:=t
def tw13050403295022917226:=t
def tw13741063543533128781:=t
def tw16699187436460867553:=t
def tw18095379286936950527:=t
def tw8597546406679449063:=t
def tw17844460572106624575:=t
def tw13028614507400159297:=t
def tw9212824202716727241:=t
def tw1754141817548014241:=t
def tw3320836225865333686:=t
def tw14275205715133693731:=t
def tw8952533750320113125:=t
def tw15226047738342849291:=t
def tw1196177501287374403:=t
def tw8453936582339703537:=t
def tw9778370889225422205:=t
def tw7402443777201476019:=t
def tw5183511964504575142:=t
def tw10568368934112090686:=t
def tw16231114865899258056:=t
def tw13797299546441209775:=t
def tw2058190277560884837:=t
def tw1813941264092254164:=t
def tw15882838667540976893:=t
def tw5873320783719301903:=t
def tw13725170924804973417:=t
def tw8156462646642237405:=t
def tw15839749466635028002:=t
def tw13060343818404367189:=t
def tw8044329414352213072:=t
def tw13885618812414999948:=t
def tw3313052341068341816:=t
def tw10514892722253760210:=t
def tw11128603787988709909:=t
def tw6415361904723909948:=t
def tw962665268249317326:=t
def tw12287004743653927189:=t
def tw8042734328399529704:=t
def tw12604508699267712298:=t
def tw13871598252592215365:=t
def tw3192876113545467432:=t
def tw6231914169865793756:=t
def tw13516765884583711872:=t
def tw2566977565481265397:=t
def tw7576987242839874233:=t
def tw9819066202837050427:=t
def tw12294808362912124818:=t
def tw3597161849193815616:=t
def tw6508116994186912109:=t
def tw17864787986685103261:=t
def tw18313445006454661492:=t
def tw7731886595954539291:=t
def tw903108243772202049:=t
def tw3759941334938369223:=t
def tw2189297298756972619:=t
def tw3348830348696161592:=t
def tw12633794094007738777:=t
def tw12607198722465198335:=t
def tw4633508824764593821:=t
def tw1223687196551455432:=t
def tw15575832487238031578:=t
def tw12970322535727602501:=t
def tw5728212618752248098:=t
def tw879093946254848385:=t
def tw11836655897233852376:=t
def tw12588431467540275266:=t
def tw17334729126596270585:=t
def tw17639973407493032821:=t
def tw7244274479086679342:=t
def tw15822749909032055086:=t
def tw8402965922467172072:=t
def tw12757705305768736926:=t
def tw5528222142759922934:=t
def tw10405956601556604164:=t
def tw16344959490281253570:=t
def tw3382373312607301264:=t
def tw94252880131139906:=t
def tw13048034707966956398:=t
def tw2813406830310777534:=t
def tw12465913490243090015:=t
def tw4417094822536901311:=t
def tw8722990480904862441:=t
def tw8721491775193813817:=t
def tw15145472839835199489:=t
def tw10086229926824499448:=t
def tw2490191954635366494:=t
def tw5730996437781556243:=t
def tw7100082476862860836:=t
def tw13193512586122083836:=t
def tw4217145257137978179:=t
def tw17020423788857276775:=t
def tw9002826297515013137:=t
def tw12901447044768309614:=t
def tw9086163558249799527:=t
def tw586478409630388160:=t
def tw8927435868811809958:=t
def tw12046918873320806855:=t
def tw9264905347919711185:=t
def tw12501359585546994907:=t
def tw6248955675849775429:=t
def tw13560478670689562527:=t
def tw3191586613263210508:=t
def tw12779640484181687423:=t
def tw17184097590084823767:=t
end PySem.W.Fast
set_option Elab.async false
set_option maxRecDepth 100000
namespace L2
variable{α κ:Type}{C a b dx it:Addr}{c cd u:Value}{w:World}{Zu h':Heap}{name qual x:Str}{e tg:Expr}{bX Zj:zv}{s s':Shared}{g':Array GenState}{i j n t' tk:Nat}{d':Drawn}{ch fp:List Addr}{N ks ps:List Str}{M:Model}{A:Around}{E Q:Value->Shared->Prop}{es rest:List Expr}{pos zH:Pos}{op:CmpOp}{f:Value->Value->Sem Value}{ds us:List Value}{mA mg:zw}{fd:FuncData}{outer:List Env}{sc scope:Scope}
abbrev Key:=Sum Int Str
noncomputable def KQ:Key->Value->Bool
 | .inl k,v=>Value.isInt k v
 | .inr x,v=>Value.isStrOf x v
noncomputable def ni(w:World):Key->Int
 | .inl k=>hashInt k
 | .inr x=>hashStr w x
theorem Gv:∀{k:Key}{v:Value},KQ k v=true->(∃i t,k=Sum.inl i/\v=Value.int i t)∨(∃x t,k=Sum.inr x/\v=Value.str x t)
 | .inl i,v,h=>by
  obtain⟨t,e⟩:=Value.isInt_shape (k:=i) (v:=v) h;exact .inl ⟨i,t,rfl,e⟩
 | .inr x,v,h=>by
  obtain⟨t,e⟩:=Ho (x:=x) (v:=v) h;exact .inr ⟨x,t,rfl,e⟩
theorem rD(i:Int)(t:Tok):KQ (.inl i) (.int i t)=true:=by simp[KQ,Value.isInt]
theorem x5(x:Str)(t:Tok):KQ (.inr x) (.str x t)=true:=by simp[KQ,Value.isStrOf]
theorem mn(a b:Int):decide ((Sum.inl a:Key)=Sum.inl b)=(a == b):=by
 by_cases e:a=b
 .subst e;simp
 .have h:¬ (Sum.inl a:Key)=Sum.inl b:=λq=>e (Sum.inl.inj q);rw[fD h];exact(beq_eq_false_iff_ne.mpr e).symm
theorem j3(a b:Str):decide ((Sum.inr a:Key)=Sum.inr b)=decide (a=b):=by
 by_cases e:a=b
 .subst e;simp
 .have h:¬ (Sum.inr a:Key)=Sum.inr b:=λq=>e (Sum.inr.inj q);rw[fD h,fD e]
theorem uP(a:Int)(b:Str):decide ((Sum.inl a:Key)=Sum.inr b)=false:=fD (λq=>nomatch q)
theorem wg(a:Str)(b:Int):decide ((Sum.inr a:Key)=Sum.inl b)=false:=fD (λq=>nomatch q)
def Ez(prog:Program)(w:World):PySem.KeyKind prog w Key where
 is:=KQ
 hash:=ni w
 inj:=λv a b g d=>by
  rcases Gv g with⟨i,t,rfl,rfl⟩|⟨x,t,rfl,rfl⟩
  .rcases Gv d with⟨j,u,rfl,e⟩|⟨y,u,rfl,e⟩
   .injection e with e1 _;rw[e1]
   .exact nomatch e
  .rcases Gv d with⟨j,u,rfl,e⟩|⟨y,u,rfl,e⟩
   .exact nomatch e
   .injection e with e1 _;rw[e1]
 byValue:=λk v h=>by
  rcases Gv h with⟨i,t,rfl,rfl⟩|⟨x,t,rfl,rfl⟩ <;> rfl
 pyHash:=λc h=>by
  rcases Gv c with⟨i,t,rfl,rfl⟩|⟨x,t,rfl,rfl⟩
  .exact wpAny_pyHash_int h
  .exact wpAny_pyHash_str h
 eqBool:=λf c h=>by
  rcases Gv f with⟨i,t,rfl,rfl⟩|⟨x,t,rfl,rfl⟩
  .rcases Gv c with⟨j,u,rfl,rfl⟩|⟨y,u,rfl,rfl⟩
   .rw[mn]at h;exact wpAny_eqBool_int h
   .rw[uP]at h;exact SeqAt.EqAt.int_str i t y u _ _ _ _ h
  .rcases Gv c with⟨j,u,rfl,rfl⟩|⟨y,u,rfl,rfl⟩
   .rw[wg]at h;exact SeqAt.EqAt.str_int x t j u _ _ _ _ h
   .rw[j3]at h;exact wpAny_eqBool_str h
 «strs»:=λk x t v h=>by
  rcases Gv h with⟨i,u,rfl,e⟩|⟨y,u,rfl,e⟩
  .exact nomatch e
  .injection e with e1 _
   subst e1;cases v <;> rfl
theorem pO(prog:Program)(w:World)(i:Int)(t:Tok):(Ez prog w).is (.inl i) (.int i t)=true:=rD i t
theorem gO(prog:Program)(w:World)(x:Str)(t:Tok):(Ez prog w).is (.inr x) (.str x t)=true:=x5 x t
inductive V where
 |A7|bl (b:Bool)|int (i:Int)|str (x:Str)|Fo (b:Array UInt8)|LC (b:UInt64)|ref (a:Addr)|ty (n:String)
 deriving DecidableEq
variable{v:V}{Ik vs:List V}
def RelV:V->Value->Prop
 | .A7,u=>u=Value.none
 | .bl b,u=>u=Value.bool b
 | .int i,u=>∃t,u=Value.int i t
 | .str x,u=>∃t,u=Value.str x t
 | .Fo b,u=>∃t,u=Value.bytes b t
 | .LC b,u=>∃t,u=Value.float b t
 | .ref a,u=>u=Value.ref a
 | .ty n,u=>u=Value.type n
abbrev Vals:List V->List Value->Prop:=Paired RelV
theorem Vals.length{xs:List V}{us:List Value}(r:Vals xs us):xs.length=us.length:=eE r
theorem Vals.get:∀{xs:List V}{us:List Value}{i:Nat}{x:V},Vals xs us->xs[i]?=some x->∃u,us[i]?=some u/\RelV x u
 |_,_,_,_,.nil,e=>by simp at e
 |_,_,0,_,.cons r _,e=>by simp at e;subst e;exact⟨_,rfl,r⟩
 |_,_,i+1,x,.cons _ t,e=>by
  obtain⟨u,h1,h2⟩:=Vals.get (i:=i) (x:=x) t (by simpa using e)
  exact⟨u,by simpa using h1,h2⟩
theorem Vals.set{x:V}{u:Value}(r:RelV x u):∀{xs:List V}{us:List Value}(i:Nat),Vals xs us->Vals (xs.set i x) (us.set i u)
 |_,_,_,.nil=>.nil
 |_,_,0,.cons _ t=>.cons r t
 |_,_,i+1,.cons q t=>.cons q (Vals.set r i t)
theorem Vals.append:∀{xs ys:List V}{us ws:List Value},Vals xs us->Vals ys ws->Vals (xs++ys) (us++ws)
 |_,_,_,_,.nil,s=>s
 |_,_,_,_,.cons r t,s=>.cons r (Vals.append t s)
theorem Vals.take:∀{xs:List V}{us:List Value}(n:Nat),Vals xs us->Vals (xs.take n) (us.take n)
 |_,_,0,_=>.nil
 |_,_,_+1,.nil=>.nil
 |_,_,n+1,.cons r t=>.cons r (Vals.take n t)
theorem Vals.drop:∀{xs:List V}{us:List Value}(n:Nat),Vals xs us->Vals (xs.drop n) (us.drop n)
 |_,_,0,r=>r
 |_,_,_+1,.nil=>.nil
 |_,_,n+1,.cons _ t=>Vals.drop n t
def Fx:Option V->Option Value->Prop
 |some v,some u=>RelV v u
 |none,none=>True
 |_,_=>False
def KV:List (κ×V)->List (κ×Value)->Prop:=Paired λ(p:κ×V)(q:κ×Value)=>p.1=q.1/\RelV p.2 q.2
noncomputable def kV:Key->V
 | .inl i=>.int i
 | .inr x=>.str x
inductive Tb where
 |tab (pos:Pos) (q:Str)
 |HE (q:Str)
inductive HO where
 /-- a list -/
 |lst (xs:List V)
 /-- a tuple (never changes) -/
 |tup (xs:List V)
 /-- a dict ku keys are ints and texts;one ku keys are tuples of ints and texts (Ib empty one is both) -/
 |dK (A9:List (Key×V))|dT (A9:List (List Key×V))
 /-- a set of ints: A0 members,A0 size -/
 |set (S:Int->Bool) (n:Nat)
 /-- an instance of Ib class at C,A0 dict at dx,A0 attributes -/
 |ins (C dx:Addr) (fs:List (Str×V))
 /-- Ib dict of Ib instance at x -/
 |own (x:Addr)
 /-- Ib dict of an exception -/
 |xd (fs:List (Str×V))
 /-- a bound method,f of x -/
 |met (f x:Addr)
 /-- a range object lo,lo+1,.. below hi -/
 |Tc (lo hi:Int)
 /-- a wF z8 is known to Ib object (Ib zl;a dict while a loop walks it): read,never written while it is so -/
 |Ea (o:Obj) (u:HO)
 /-- a code zL table,a code in it -/
 |By (t:Tb)
 /-- any other wF,by qV is true of A0 one object (a def of zG own: qr a S n:=HO.ext λh=>..) -/
 |ext (φ:Heap->Prop)
variable{o o':HO}
abbrev Hp:=Addr->Option HO
variable{H H':Hp}
inductive Kr where
 |tup (xs:List V)
 |By (t:Tb)
noncomputable def Kr.ho:Kr->HO
 | .tup xs=>.tup xs
 | .By t=>.By t
noncomputable def upd(H:Hp)(a:Addr)(o:HO):Hp:=λb=>if b=a then some o else H b
theorem AV:upd H a o a=some o:=by unfold upd;rw[eM rfl]
theorem AN(h:b≠a):upd H a o b=H b:=by unfold upd;rw[eJ h]
theorem qK{u:HO}(h:H a=some o)(h':H b=some u)(d:o≠u):a≠b:=by
 intro e;subst e;rw[h]at h';exact d (BB h')
theorem DE(h:H a=some o)(h':H b=none):a≠b:=by
 intro e;subst e;rw[h]at h';cases h'
section
variable(P:Program)(w:World)
def Bi(H:Hp)(h:Heap)(a:Addr):HO->Prop
 | .lst xs=>xs.length<=sizeLine/\∃(A0:List Value)(n:Nat),Vals xs A0/\h.get? a=some { cls:=.type "list", data:=.seq A0.toArray n }
 | .tup xs=>xs.length<=sizeLine/\∃A0:List Value,Vals xs A0/\(IsTup h a A0.toArray/\∀d,h.get? a=some d->d.dict=none)
 | .dK A9=>A9.length<=sizeLine/\(a == sysModules)=false/\∃vs,KV A9 vs/\h.DictOf (Ez P w) a vs
 | .dT A9=>A9.length<=sizeLine/\(a == sysModules)=false/\∃xs:List (List Key×Addr×Value),
   Paired (λ(p:List Key×V)(q:List Key×Addr×Value)=>p.1=q.1/\H q.2.1=some (.tup (p.1.map kV))/\RelV p.2 q.2.2) A9 xs/\
   ∃o es ep,h.get? a=some o/\o.ExactDict/\o.data=.dict es ep/\es.toList=xs.map (entryOfKey (tupleKind (Ez P w)))/\(xs.map (·.1)).Nodup
 | .set S n=>h.SetOf (intKind P w) a S n
 | .ins C dx fs=>H dx=some (.own a)/\fs.length<=1000/\dx≠a/\h.get? a=some (PySem.W.instObj C dx)/\
   ∃mA,h.Ns1 dx mA/\(∀f,Fx (fs.lookup f) (mA f))/\PySem.Within mA (fs.map (·.1))
 | .own _=>∃o,h.get? a=some o
 | .xd fs=>∃mA,h.Ns1 a mA/\∀f,Fx (fs.lookup f) (mA f)
 | .Tc lo hi=>∃t u v,h.get? a=some { cls:=.type "range", data:=.fields #[.int lo t,.int hi u,.int 1 v] }
 | .Ea o u=>h.get? a=some o/\Bi H h a u
 | .By (.tab pos q)=>∃ps:Array Value,h.get? a=some { cls:=.none,data:=.fields ps }/\TriplesOk ps.toList/\∀e,codeAmong pos ps.toList=some e->∃c,e=.ref c/\H c=some (.By (.HE q))
 | .By (.HE q)=>∃b vs t,h.get? a=some b/\b.data=.fields vs/\vs[1]?=some (.str q t)
 | .met f x=>h.get? a=some (PySem.W.methodObj (.ref f) (.ref x))
 | .ext φ=>φ h/\(∃o,h.get? a=some o)/\∀h1 h2:Heap,φ h1->(∀o,h1.get? a=some o->h2.get? a=some o)->φ h2
def Bt(H:Hp)(h:Heap):Prop:=∀a o,H a=some o->Bi P w H h a o
end
section
variable{P:Program}{h:Heap}
theorem Bi.lt(x:Bi P w H h a o):a<h.objs.size:=by
 cases o with
 |lst xs=>obtain⟨_,_,_,_,e⟩:=x;exact AY e
 |tup xs=>obtain⟨_,_,_,p⟩:=x;exact p.1.lt
 |dK A9=>obtain⟨_,_,_,_,o,_,_,e,_⟩:=x;exact AY e
 |dT A9=>obtain⟨_,_,_,_,o,_,_,e,_⟩:=x;exact AY e
 |set S n=>obtain⟨o,_,_,_,e,_⟩:=x;exact AY e
 |ins C dx fs=>obtain⟨_,_,_,e,_⟩:=x;exact AY e
 |own y=>obtain⟨_,e⟩:=x;exact AY e
 |xd fs=>obtain⟨_,⟨_,_,_,e,_⟩,_⟩:=x;exact AY e
 |Tc lo hi=>obtain⟨_,_,_,e⟩:=x;exact AY e
 |Ea b u=>obtain⟨e,_⟩:=x;exact AY e
 |By t=>
  cases t with
  |tab pos q=>obtain⟨_,e,_⟩:=x;exact AY e
  |HE q=>obtain⟨_,_,_,e,_⟩:=x;exact AY e
 |met f y=>exact AY (show h.get? a=some _ from x)
 |ext φ=>obtain⟨_,⟨_,e⟩,_⟩:=x;exact AY e
theorem Paired.V4{α β:Type}{F G:α->β->Prop}:∀{l₁:List α}{l₂:List β},Paired F l₁ l₂->(∀a b,F a b->G a b)->Paired G l₁ l₂
 |_,_,.nil,_=>.nil
 |_,_,.cons r t,f=>.cons (f _ _ r) (Paired.V4 t f)
theorem Bi.FY(x:Bi P w H h a o)(k:∀b u,(b=a∨H b=some (.own a))->h.get? b=some u->h'.get? b=some u)
  (ho:∀b,H b=some (.own a)->H' b=some (.own a)) (j:∀b(x:Kr),H b=some x.ho->H' b=some x.ho):Bi P w H' h' a o:=by
 induction o with
 |lst xs=>obtain⟨z,A0,n,r,e⟩:=x;exact⟨z,A0,n,r,k _ _ (.inl rfl) e⟩
 |tup xs=>obtain⟨z,A0,r,⟨g,e,c⟩,D⟩:=x;exact⟨z,A0,r,⟨g,k _ _ (.inl rfl) e,c⟩,λU9 l=>by rw[k _ _ (.inl rfl) e]at l;cases l;exact D _ e⟩
 |dK A9=>obtain⟨z,y,vs,r,g,es,ep,e,c⟩:=x;exact⟨z,y,vs,r,g,es,ep,k _ _ (.inl rfl) e,c⟩
 |dT A9=>
  obtain⟨z,y,xs,r,g,es,ep,e,c⟩:=x;exact⟨z,y,xs,Paired.V4 r λp q z=>⟨z.1,j _ (.tup _) z.2.1,z.2.2⟩,g,es,ep,k _ _ (.inl rfl) e,c⟩
 |set S n=>obtain⟨g,es,ep,t,e,c⟩:=x;exact⟨g,es,ep,t,k _ _ (.inl rfl) e,c⟩
 |ins C dx fs=>
  obtain⟨d,z,ne,e,mA,⟨i,es,ep,B,c⟩,r⟩:=x;exact⟨ho _ d,z,ne,k _ _ (.inl rfl) e,mA,⟨i,es,ep,k _ _ (.inr d) B,c⟩,r⟩
 |own y=>obtain⟨g,e⟩:=x;exact⟨g,k _ _ (.inl rfl) e⟩
 |xd fs=>obtain⟨mA,⟨i,es,ep,e,c⟩,r⟩:=x;exact⟨mA,⟨i,es,ep,k _ _ (.inl rfl) e,c⟩,r⟩
 |Tc lo hi=>obtain⟨t,u,v,e⟩:=x;exact⟨t,u,v,k _ _ (.inl rfl) e⟩
 |Ea g u s=>obtain⟨e,q⟩:=x;exact⟨k _ _ (.inl rfl) e,s q⟩
 |By t=>
  cases t with
  |tab pos q=>obtain⟨ps,e,ok,c⟩:=x;exact⟨ps,k a _ (.inl rfl) e,ok,λE z=>by obtain⟨b,y,A⟩:=c E z;exact⟨b,y,j b (.By _) A⟩⟩
  |HE q=>obtain⟨m,vs,t,e,c⟩:=x;exact⟨m,vs,t,k a _ (.inl rfl) e,c⟩
 |met f y=>
  have e:h.get? a=some (PySem.W.methodObj (.ref f) (.ref y)):=x;show h'.get? a=some (PySem.W.methodObj (.ref f) (.ref y));exact k a _ (.inl rfl) e
 |ext φ=>obtain⟨p,⟨o,e⟩,st⟩:=x;exact⟨st _ _ p λo q=>k _ _ (.inl rfl) q,⟨o,k _ _ (.inl rfl) e⟩,st⟩
theorem Bt.lt(x:Bt P w H h)(e:H a=some o):a<h.objs.size:=(x a o e).lt
theorem Bt.fresh(x:Bt P w H h)(e:h.objs.size<=a):H a=none:=by
 cases q:H a with
 |none=>rfl
 |some u=>exact absurd (C5 (x.lt q) e) (LN _)
theorem Bt.kept(x:Bt P w H h)(k:∀b u,h.get? b=some u->h'.get? b=some u):Bt P w H h':=λa o e=>
 (x a o e).FY (λb u _ q=>k b u q) (λ_ q=>q) λ_ _ q=>q
theorem Bt.laid(x:Bt P w H h)(k:∀b u,h.get? b=some u->h'.get? b=some u)(g:h.objs.size<=a)(new:Bi P w (upd H a o) h' a o):Bt P w (upd H a o) h':=λb u e=>by
 have d:=x.fresh g
 by_cases f:b=a
 .subst f;rw[AV]at e;cases e;exact new
 .rw[AN f]at e;exact(x b u e).FY (λc v _ q=>k c v q) (λc q=>by rw[AN (DE q d)];exact q) λc xs q=>by rw[AN (DE q d)];exact q
end
def Rd(H:Hp)(a:Addr)(u:HO):Prop:=H a=some u∨∃o,H a=some (.Ea o u)
theorem Rd.ok{P:Program}{h:Heap}{u:HO}(r:Rd H a u)(x:Bt P w H h):Bi P w H h a u:=by
 rcases r with r|⟨o,r⟩
 .exact x a u r
 .obtain⟨_,q⟩:=x a _ r;exact q
def Lh:Option HO->Prop
 |some (.lst _)=>True
 |some (.dK _)=>True
 |some (.dT _)=>True
 |some (.set _ _)=>True
 |some (.ins _ _ _)=>True
 |some (.ext _)=>True
 |_=>False
section
variable{P:Program}{h:Heap}{x e:Addr}
theorem Bt.write(ok:Bt P w H h)(mu:Lh (H x))(i:e=x∨H e=some (.own x))(k:∀b u,b≠e->h.get? b=some u->h'.get? b=some u)(Ga:∃u,h'.get? e=some u)
  (new:Bi P w (upd H x o') h' x o'):Bt P w (upd H x o') h':=λb u q=>by
 have j:∀c y,H c=some (.own y)->c≠x:=λc y r z=>by subst z;rw[r]at mu;exact mu
 have m:∀c(xs:Kr),H c=some xs.ho->c≠x:=λc xs r z=>by subst z;rw[r]at mu;cases xs <;> exact mu
 by_cases d:b=x
 .subst d;rw[AV]at q;cases q;exact new
 .rw[AN d]at q
  by_cases f:b=e
  .have g:H b=some (.own x):=by
    rcases i with z|z
    .exact absurd (f.trans z) d
    .rw[f];exact z
   rw[q]at g;cases g;obtain⟨v,l⟩:=Ga;exact⟨v,by rw[f];exact l⟩
  .refine(ok b u q).FY (λc v a r=>k c v ?_ r) (λc r=>by rw[AN (j c b r)];exact r) λc xs r=>by rw[AN (m c xs r)];exact r
   rcases a with rfl|a
   .exact f
   .rintro rfl;rcases i with z|z
    .exact j c b a z
    .rw[a]at z;cases z;exact d rfl
end
structure Un (fs ex:List Addr) (H H':Hp) (h h':Heap):Prop where
 keep:∀b o,h.get? b=some o->H b=none->b∉fs->b∉ex->h'.get? b=some o
 slot:∀b o,h.get? b=some o->H b=none->b∈fs->b∉ex->∃sl,h'.get? b=some { o with slots:=sl }
 free:∀b o,h.get? b=some o->H b=none->b∉ex->H' b=none
 there:∀b o,h.get? b=some o->b∉ex->∃o',h'.get? b=some o'
 HS:∀b(x:Kr),H b=some x.ho->H' b=some x.ho
 HG:∀b o u,H b=some (.Ea o u)->H' b=some (.Ea o u)
section
variable{fs tV ex zK:List Addr}{H1 H2:Hp}{h h1 h2:Heap}{x e:Addr}
theorem Un.any(u:Un fs ex H H1 h h1){a:Obj}(q:h.get? b=some a)(n:H b=none)(hx:b∉ex):∃sl,h1.get? b=some { a with slots:=sl }:=by
 by_cases c:b∈fs
 .exact u.slot b a q n c hx
 .exact⟨a.slots,u.keep b a q n c hx⟩
theorem Un.kept(k:∀b u,h.get? b=some u->h'.get? b=some u):Un fs ex H H h h':=
 ⟨λb a q _ _ _=>k b a q,λb a q _ _ _=>⟨a.slots,k b a q⟩,λ_ _ _ n _=>n,λb a q _=>⟨a,k b a q⟩,λ_ _ q=>q,λ_ _ _ q=>q⟩
theorem Un.refl:Un fs ex H H h h:=Un.kept λ_ _ q=>q
theorem Un.laid(k:∀b u,h.get? b=some u->h'.get? b=some u)(d:h.objs.size<=a)(c:H a=none):Un fs ex H (upd H a o) h h' where
 keep:=λb u q _ _ _=>k b u q
 slot:=λb u q _ _ _=>⟨u.slots,k b u q⟩
 free:=λb u q n _=>by rw[AN (Ad (C5 (AY q) d))];exact n
 there:=λb u q _=>⟨u,k b u q⟩
 HS:=λb xs q=>by rw[AN (DE q c)];exact q
 HG:=λb u xs q=>by rw[AN (DE q c)];exact q
theorem Un.write(mu:Lh (H x))(f:e=x∨H e=some (.own x))(k:∀b u,b≠e->h.get? b=some u->h'.get? b=some u)(Ga:∃u,h'.get? e=some u):Un fs ex H (upd H x o) h h':=by
 have hx:∀b,H b=none->b≠x:=λb n z=>by subst z;rw[n]at mu;exact mu
 have c:∀b,H b=none->b≠e:=λb n z=>by
  subst z;rcases f with r|r
  .exact hx b n r
  .rw[n]at r;cases r
 have a:∀b u,H b=some u->¬ Lh (some u)->b≠x:=λb u q nm z=>by subst z;rw[q]at mu;exact nm mu
 refine⟨λb u q n _ _=>k b u (c b n) q,λb u q n _ _=>⟨u.slots,k b u (c b n) q⟩,λb u q n _=>by rw[AN (hx b n)];exact n,λb u q _=>?_,
  λb xs q=>by rw[AN (a b _ q λz=>by cases xs <;> exact z)];exact q,λb u xs q=>by rw[AN (a b _ q λz=>z)];exact q⟩
 by_cases d:b=e
 .subst d;exact Ga
 .exact⟨u,k b u d q⟩
end
def PU(h:Heap)(H:Hp):List Addr:=(List.range h.objs.size).filter λa=>(H a).isSome
def GI(h:Heap)(H:Hp):Heap:=PySem.W.hideAll h (PU h H)
theorem ux(h:Heap)(H:Hp):(GI h H).objs.size=h.objs.size:=PySem.W.hideAll_size _ _
theorem wQ{h:Heap}{o:Obj}(e:h.get? b=some o)(n:H b=none):(GI h H).get? b=some o:=
 PySem.W.hideAll_get _ e λa=>by
  have q:(H b).isSome=true:=(List.mem_filter.mp a).2;rw[n]at q;simp at q
theorem mP{h:Heap}{o:Obj}(e:(GI h H).get? b=some o):h.get? b=some o/\H b=none:=by
 have a:h.get? b=some o:=PySem.W.of_hideAll (PU h H) e;refine⟨a,?_⟩;cases q:H b with
 |none=>rfl
 |some x=>
  have c:b∈PU h H:=List.mem_filter.mpr ⟨List.mem_range.mpr (AY a),by simp[q]⟩;have z:(GI h H).get? b=none:=PySem.W.hideAll_none (PU h H) c;rw[z]at e;cases e
structure Mod (K:zu) (mg:zw) (Zu:Heap):Prop where
 HB:K.In Zu
 glob:Zu.Ns mainGlobals mg
 blt:∃mb,Zu.Ns builtinsNs mb/\∀x:Str,x ≠"__name__" -> mb x=bootBuiltins x
 nolimit:Zu.NoLimit
structure Cx where
 prog:Program
 w:World
 K:zu
 mg:zw
 base:Heap
 A:Around
 N:List Str
 s₀:Shared
 H₀:Hp
 env:Env
 outer:List Env
 stack:List Env
 ex:List Addr
 fn:Str->Bool
 calm:Bool
 pn:zv
 xe:Value->Shared->Prop
variable{X:Cx}
noncomputable def Fl(l:List Env):List Addr:=l.filterMap (·.frame)
abbrev Cx.fs(X:Cx):List Addr:=Fl X.outer
abbrev EW(X:Cx)(e:Expr)(es:List Expr):Prop:=starEach (e::es) X.env=(false,eval e X.env)::starEach es X.env
abbrev BEq(X:Cx)(pos:Pos)(es:List Expr):Prop:=(backTo pos (starEach es X.env)).any (·.1)=false
def UZ(sc:Scope)(x:Str):Prop:=sc.names.lookup x=some .local∨sc.names.lookup x=some .cell∨sc.names.lookup x=some .free
def Loc(sc:Scope)(x:Str):Prop:=sc.names.lookup x=some .local∨sc.names.lookup x=some .cell
def Look(env:Env)(h:Heap)(m:zw)(x:Str)(u:Value):Prop:=
 (env.kindOf x=some .local/\m x=some u)∨((env.kindOf x=some .cell∨env.kindOf x=some .free)/\∃c,env.cells.lookup x=some c/\h.IsCell c (some u))
structure Cx.Ok (X:Cx):Prop where
 mod:Mod X.K X.mg X.base
 kind:X.env.scope.kind=.function
 glob:X.env.globals=mainGlobals
 blt:X.env.builtins=builtinsNs
 above:X.s₀.heap.objs.size<=X.env.locals
 inj:∀x y c,X.env.cells.lookup x=some c->X.env.cells.lookup y=some c->x=y
 has:∀x,(X.env.kindOf x=some .cell∨X.env.kindOf x=some .free)->∃c,X.env.cells.lookup x=some c
 LR:∀x c,X.fn x=true->X.env.cells.lookup x=some c->X.s₀.heap.objs.size<=c
 hd:X.calm=true->X.A.handled=none
 frames:X.A.frames=some X.stack
 QJ:X.stack=X.outer∨(X.stack=X.env::X.outer/\X.env.frame=some X.env.locals)
 OZ:∀b∈X.ex,b≠X.env.locals/\∀x c,X.env.cells.lookup x=some c->c≠b
 bs:∀b o,X.base.get? b=some o->X.s₀.heap.get? b=some o/\X.H₀ b=none
 GZ:X.base.objs.size<=X.s₀.heap.objs.size
 Ly:∀b o,X.base.get? b=some o->b∉X.ex
 Mt:∀b∈X.ex,b∉X.fs
 FA:X.s₀.heap.FunFrames X.base X.outer
 Ht:∀b∈X.fs,X.H₀ b=none
structure Inv (X:Cx) (Zj:zv) (Z:List (Option V)) (H:Hp) (s:Shared):Prop where
 ok:X.Ok
 os:s.os=X.s₀.os
 bare:AllBare s.gens
 base:Un X.fs X.ex X.H₀ H X.s₀.heap s.heap
 loc:∃m,s.heap.Ns X.env.locals m/\∀(i:Nat)(x:Str)(v:V),X.N[i]?=some x->Z[i]?=some (some v)->UZ X.env.scope x->∃u,RelV v u/\Look X.env s.heap m x u
 cell:∀x c,X.env.cells.lookup x=some c->∃v,s.heap.IsCell c v
 free:H X.env.locals=none
 Eu:∀x c,X.env.cells.lookup x=some c->H c=none
 pin:∀p∈X.pn++Zj,s.heap.get? p.1=some p.2/\H p.1=none/\p.1≠X.env.locals/\p.1∉X.fs/\∀v,p.2.data≠.cell v
 AA:Bt X.prog X.w H s.heap
 len:Z.length=X.N.length
section
variable{Z:List (Option V)}
theorem Cx.Ok.oJ(ok:X.Ok){o:Obj}(e:X.base.get? b=some o):b∉X.fs:=λa=>by
 have:=(ok.FA.mem a).1;rw[e]at this;cases this
theorem Inv.bs(I:Inv X Zj Z H s):∀b o,X.base.get? b=some o->s.heap.get? b=some o/\H b=none:=λb o e=>
 ⟨I.base.keep b o (I.ok.bs b o e).1 (I.ok.bs b o e).2 (I.ok.oJ e) (I.ok.Ly b o e),I.base.free b o (I.ok.bs b o e).1 (I.ok.bs b o e).2 (I.ok.Ly b o e)⟩
theorem Inv.bk(I:Inv X Zj Z H s):∀b o,X.base.get? b=some o->s.heap.get? b=some o:=λb o e=>(I.bs b o e).1
theorem Inv.mod(I:Inv X Zj Z H s):Mod X.K X.mg X.base:=I.ok.mod
theorem Inv.Dd(I:Inv X Zj Z H s):X.K.In s.heap:=I.ok.mod.HB.keeps I.bk
theorem Inv.nolimit(I:Inv X Zj Z H s):s.heap.NoLimit:=I.ok.mod.nolimit.keeps I.bk
theorem Inv.lt(I:Inv X Zj Z H s):X.env.locals<s.heap.objs.size:=let ⟨_,hn,_⟩:=I.loc;hn.lt
theorem Inv.sz(I:Inv X Zj Z H s):X.s₀.heap.objs.size<=s.heap.objs.size:=CC I.ok.above (FK I.lt)
theorem Inv.Li(I:Inv X Zj Z H s)(h:s.heap.objs.size<=a):a∉X.fs:=λb=>by
 obtain⟨_,o,ho,_⟩:=I.ok.FA.mem b;exact absurd (C5 (AY ho) (CC I.sz h)) (LN _)
theorem Inv.JU(I:Inv X Zj Z H s):∀x c,X.env.cells.lookup x=some c->c≠X.env.locals:=λx c e z=>by
 obtain⟨v,o,ho,hd⟩:=I.cell x c e;obtain⟨m,⟨o',es,ep,Bz,FH,_⟩,_⟩:=I.loc;rw[z,Bz]at ho;cases ho;rw[FH]at hd;cases hd
theorem Inv.FA(I:Inv X Zj Z H s):s.heap.FunFrames X.base X.outer:=by
 have all:∀(l:List Env),(∀b∈Fl l,b∈X.fs)->X.s₀.heap.FunFrames X.base l->s.heap.FunFrames X.base l:=by
  intro l
  induction l with
  |nil=>intro _ _;trivial
  |cons env r f=>
   intro d i;obtain⟨hk,⟨L,o,a,h,ho,hd⟩,g⟩:=i;have hL:L∈X.fs:=d L (by unfold Fl;rw[dY,a];exact Ae);obtain⟨sl,e⟩:=I.base.slot L o ho (I.ok.Ht L hL) hL λz=>I.ok.Mt L z hL;exact⟨hk,⟨L,_,a,h,e,hd⟩,f (λb c=>d b (by unfold Fl;rw[dY,a];exact Au _ c)) g⟩
 exact all X.outer (λ_ c=>c) I.ok.FA
theorem Inv.stack(I:Inv X Zj Z H s):s.heap.FunFrames X.base X.stack:=by
 rcases I.ok.QJ with e|⟨e,hf⟩
 .rw[e];exact I.FA
 .rw[e];obtain⟨m,a,_⟩:=I.loc;refine .cons (by rw[I.ok.kind];decide) hf a ?_ I.FA;exact Heap.get?_none_of_le (CC I.ok.GZ I.ok.above)
theorem Inv.Ti(I:Inv X Zj Z H s):∀b∈Fl X.stack,b∈X.env.locals::X.fs:=λb a=>by
 rcases I.ok.QJ with e|⟨e,hf⟩
 .rw[e]at a;exact Au _ a
 .rw[e]at a;unfold Fl at a;rw[dY,hf]at a;exact a
theorem Inv.YS(I:Inv X Zj Z H s):∀b∈Fl X.stack,H b=none:=λb a=>by
 rcases List.mem_cons.mp (I.Ti b a)with e|a
 .rw[e];exact I.free
 .obtain⟨_,o,ho,_⟩:=I.ok.FA.mem a;exact I.base.free b o ho (I.ok.Ht b a) λz=>I.ok.Mt b z a
theorem Inv.step(I:Inv X Zj Z H s)
  (Dp:∀b∈ch,(b∈X.ex∨X.s₀.heap.objs.size<=b)/\b≠X.env.locals/\(∀x c,X.env.cells.lookup x=some c->c≠b)/\∀p∈X.pn++Zj,p.1≠b)
  (keep:∀b o,b≠X.env.locals->b∉X.fs->b∉ch->s.heap.get? b=some o->H b=none->h'.get? b=some o)
  (slot:∀b o,b≠X.env.locals->b∈X.fs->b∉ch->s.heap.get? b=some o->H b=none->∃sl,h'.get? b=some { o with slots:=sl }) (free:∀b o,b∉ch->s.heap.get? b=some o->H b=none->H' b=none)
  (there:∀b o,b∉ch->s.heap.get? b=some o->∃o',h'.get? b=some o')
  (HS:∀b(x:Kr),H b=some x.ho->H' b=some x.ho) (HG:∀b o u,H b=some (.Ea o u)->H' b=some (.Ea o u))
  (ns:∀m,s.heap.Ns X.env.locals m->h'.Ns X.env.locals m) (AA:Bt X.prog X.w H' h') (hg:AllBare g') :
  Inv X Zj Z H' { s with heap:=h',gens:=g',drawn:=d',toks:=t' }:=by
 have B:∀b o,X.s₀.heap.get? b=some o->b≠X.env.locals:=λb o e=>Ad (C5 (AY e) I.ok.above);have h:∀b o,X.s₀.heap.get? b=some o->b∉X.ex->b∉ch:=λb o e hx f=>by
  rcases(Dp b f).1 with z|z
  .exact hx z
  .exact absurd (C5 (AY e) z) (LN _)
 have a:∀x c,X.env.cells.lookup x=some c->∀v,s.heap.IsCell c v->h'.IsCell c v:=λx c e v AU=>by
  obtain⟨o,ho,hd⟩:=AU;have g:c∉ch:=λz=>(Dp c z).2.2.1 x c e rfl
  by_cases A:c∈X.fs
  .obtain⟨sl,q⟩:=slot c o (I.JU x c e) A g ho (I.Eu x c e);exact⟨_,q,hd⟩
  .exact⟨o,keep c o (I.JU x c e) A g ho (I.Eu x c e),hd⟩
 refine⟨I.ok,I.os,hg,⟨λb o e n f hx=>?_,λb o e n f hx=>?_,λb o e n hx=>?_,λb o e hx=>?_,λb xs e=>HS b xs (I.base.HS b xs e),λb o xs e=>HG b o xs (I.base.HG b o xs e)⟩,?_,λx c e=>?_,?_,λx c e=>?_,λp y=>?_,AA,I.len⟩
 .exact keep b o (B b o e) f (h b o e hx) (I.base.keep b o e n f hx) (I.base.free b o e n hx)
 .obtain⟨sl,e1⟩:=I.base.slot b o e n f hx;obtain⟨C,j⟩:=slot b _ (B b o e) f (h b o e hx) e1 (I.base.free b o e n hx);exact⟨C,j⟩
 .obtain⟨o',e1⟩:=I.base.there b o e hx;exact free b o' (h b o e hx) e1 (I.base.free b o e n hx)
 .obtain⟨o',e1⟩:=I.base.there b o e hx;exact there b o' (h b o e hx) e1
 .obtain⟨m,D,E⟩:=I.loc;refine⟨m,ns m D,λi x v e1 j F=>?_⟩;obtain⟨u,r,l⟩:=E i x v e1 j F;refine⟨u,r,?_⟩;rcases l with l|⟨k,c,e,z⟩
  .exact .inl l
  .exact .inr ⟨k,c,e,a x c e _ z⟩
 .obtain⟨v,z⟩:=I.cell x c e;exact⟨v,a x c e v z⟩
 .obtain⟨m,⟨o,_,_,ho,_⟩,_⟩:=I.loc;exact free _ o (λz=>(Dp _ z).2.1 rfl) ho I.free
 .obtain⟨v,o,ho,hd⟩:=I.cell x c e;exact free c o (λz=>(Dp c z).2.2.1 x c e rfl) ho (I.Eu x c e)
 .obtain⟨e,n,ne,t,d⟩:=I.pin p y;have g:p.1∉ch:=λz=>(Dp p.1 z).2.2.2 p y rfl;exact⟨keep p.1 p.2 ne t g e n,free p.1 p.2 g e n,ne,t,d⟩
theorem Inv.un(I:Inv X Zj Z H s)(u:Un X.fs [] H H' s.heap h')(AA:Bt X.prog X.w H' h'):Inv X Zj Z H' { s with heap:=h',toks:=t' }:=by
 obtain⟨m,⟨o,es,ep,ho,r⟩,_⟩:=id I.loc;obtain⟨sl,hL⟩:=u.any ho I.free (by simp);exact I.step (g':=s.gens) (d':=s.drawn) (ch:=[]) (λ_ z=>nomatch z) (λb o _ a _ e n=>u.keep b o e n a (by simp)) (λb o _ a _ e n=>u.slot b o e n a (by simp)) (λb o _ e n=>u.free b o e n (by simp)) (λb o _ e=>u.there b o e (by simp)) u.HS u.HG (λf d=>by
  obtain⟨o',Ax,EK,Bz,c⟩:=d;rw[ho]at Bz;cases Bz;exact⟨_,Ax,EK,hL,c⟩) AA I.bare
theorem Inv.call(I:Inv X Zj Z H s)(u:Un (Fl X.stack) ch H H' s.heap h')(AA:Bt X.prog X.w H' h')(g:AllBare g')
  (Dp:∀b∈ch,(b∈X.ex∨X.s₀.heap.objs.size<=b)/\b≠X.env.locals/\(∀x c,X.env.cells.lookup x=some c->c≠b)/\∀p∈X.pn++Zj,p.1≠b) :
  Inv X Zj Z H' { s with heap:=h',gens:=g',drawn:=d',toks:=t' }:=by
 obtain⟨m,⟨o,es,ep,ho,r⟩,_⟩:=id I.loc;obtain⟨sl,hL⟩:=u.any ho I.free λz=>(Dp _ z).2.1 rfl;exact I.step (ch:=ch) Dp (λb o hL h a e n=>u.keep b o e n (λz=>(List.mem_cons.mp (I.Ti b z)).elim hL h) a) (λb o _ _ a e n=>u.any e n a) (λb o a e n=>u.free b o e n a) (λb o a e=>u.there b o e a) u.HS u.HG (λi f=>by
  obtain⟨o',Ax,EK,Bz,d⟩:=f;rw[ho]at Bz;cases Bz;exact⟨_,Ax,EK,hL,d⟩) AA g
theorem Inv.turned(I:Inv X Zj Z H s)(k:∀b o,b≠it->s.heap.get? b=some o->h'.get? b=some o)(f:H it=none)(hL:it≠X.env.locals)
  (h1:it∈X.ex∨X.s₀.heap.objs.size<=it) (h2:∀x c,X.env.cells.lookup x=some c->c≠it) (i:∀p∈X.pn++Zj,p.1≠it):Inv X Zj Z H { s with heap:=h',toks:=t' }:=by
 have d:∀b u,H b=some u->b≠it:=λb u e z=>by rw[z,f]at e;cases e
 refine I.step (g':=s.gens) (d':=s.drawn) (ch:=[it]) (λb h=>?_) (λb o _ _ a e _=>k b o (λz=>a (by simp[z])) e) (λb o _ _ a e _=>⟨o.slots,k b o (λz=>a (by simp[z])) e⟩) (λ_ _ _ _ n=>n)
  (λb o a e=>⟨o,k b o (λz=>a (by simp[z])) e⟩) (λ_ _ e=>e) (λ_ _ _ e=>e) (λm g=>?_) (λb u e=>?_) I.bare
 .have e:b=it:=by simpa using h
  subst e;exact⟨h1,hL,h2,i⟩
 .obtain⟨o,es,ep,ho,r⟩:=g;exact⟨o,es,ep,k _ o (BG hL) ho,r⟩
 .refine(I.AA b u e).FY (λc v a q=>k c v ?_ q) (λ_ q=>q) λ_ _ q=>q;rcases a with z|z
  .rw[z];exact d b u e
  .exact d c _ z
theorem Inv.tok(I:Inv X Zj Z H s)(t:Nat):Inv X Zj Z H { s with toks:=t }:=I.un (h':=s.heap) (t':=t) Un.refl I.AA
theorem Inv.kept(I:Inv X Zj Z H s)(k:∀b u,s.heap.get? b=some u->h'.get? b=some u):Inv X Zj Z H { s with heap:=h',toks:=t' }:=I.un (Un.kept k) (I.AA.kept k)
theorem Inv.laid(I:Inv X Zj Z H s)(k:∀b u,s.heap.get? b=some u->h'.get? b=some u)(c:s.heap.objs.size<=a)(new:Bi X.prog X.w (upd H a o) h' a o):
  Inv X Zj Z (upd H a o) { s with heap:=h',toks:=t' }:=I.un (Un.laid k c (I.AA.fresh c)) (I.AA.laid k c new)
theorem Inv.write{x e:Addr}(I:Inv X Zj Z H s)(mu:Lh (H x))(a:e=x∨H e=some (.own x))(k:∀b u,b≠e->s.heap.get? b=some u->h'.get? b=some u)(Ga:∃u,h'.get? e=some u)
  (new:Bi X.prog X.w (upd H x o) h' x o):Inv X Zj Z (upd H x o) { s with heap:=h',toks:=t' }:=I.un (Un.write mu a k Ga) (I.AA.write mu a k Ga new)
theorem Inv.XS(I:Inv X Zj Z H s)(h:∀p∈bX,s.heap.get? p.1=some p.2/\H p.1=none/\p.1≠X.env.locals/\p.1∉X.fs/\∀v,p.2.data≠.cell v):Inv X bX Z H s:=
 ⟨I.ok,I.os,I.bare,I.base,I.loc,I.cell,I.free,I.Eu,λp a=>(List.mem_append.mp a).elim (λz=>I.pin p (D6 _ z)) (h p),I.AA,I.len⟩
theorem Zp(c:N.Nodup)(a:N[i]?=some x)(b:N[j]?=some x):i=j:=by
 obtain⟨h1,e1⟩:=List.getElem?_eq_some_iff.mp a;obtain⟨h2,d⟩:=List.getElem?_eq_some_iff.mp b;exact(yN c).mp (e1.trans d.symm)
theorem cq{Q:Unit->Shared->Prop}(I:Inv X Zj Z H s)(T:X.N.Nodup)(hi:X.N[i]?=some x)(hx:Loc X.env.scope x)(r:RelV v u)
  (h:∀s',Inv X Zj (Z.set i (some v)) H s'->(∃a,Heap.SameBut a s.heap s'.heap/\(a=X.env.locals∨X.env.cells.lookup x=some a))->Q () s') (hf:X.fn x=true∨X.env.scope.names.lookup x=some .local:=by first|exact .inl rfl|exact .inr rfl|assumption):wpAny M A (storeName X.env x u) Q E s:=by
 obtain⟨m,L,S⟩:=id I.loc;have σ:(X.env.scope.kind == .class || (X.env.scope.kind == .module && X.env.locals != X.env.globals))=false:=by rw[I.ok.kind];rfl
 have hiσ:i<Z.length:=by rw[I.len];exact(List.getElem?_eq_some_iff.mp hi).1
 have JU:=I.JU;have g:∀{a:Addr}{h':Heap},(∃o,s.heap.get? a=some o/\H a=none)->Heap.SameBut a s.heap h'->Bt X.prog X.w H h':=λ{a h'}ha f b ob e=>by
  obtain⟨_,_,U⟩:=ha;refine(I.AA b ob e).FY (λc D l q=>(f.2 c ?_).trans q) (λ_ q=>q) λ_ _ q=>q;rintro rfl;rcases l with rfl|l
  .rw[U]at e;cases e
  .rw[U]at l;cases l
 rcases hx with hk|hk
 .refine wpAny_storeName_local hk L (λh' Qm f=>?_) σ;obtain⟨oL,_,_,Dt,_⟩:=id L;refine h _ ⟨I.ok,I.os,I.bare,⟨λb o e n C hx=>?_,λb o e n C hx=>?_,I.base.free,λb o e hx=>?_,I.base.HS,I.base.HG⟩,⟨_,Qm,λj y F e1 t O=>?_⟩,λy c e=>?_,I.free,I.Eu,λp K=>?_,g ⟨oL,Dt,I.free⟩ f,by simpa using I.len⟩ ⟨_,f,.inl rfl⟩
  .exact(f.2 b (Ad (C5 (AY e) I.ok.above))).trans (I.base.keep b o e n C hx)
  .obtain⟨sl,e1⟩:=I.base.slot b o e n C hx;exact⟨sl,(f.2 b (Ad (C5 (AY e) I.ok.above))).trans e1⟩
  .obtain⟨o',e1⟩:=I.base.there b o e hx;exact⟨o',(f.2 b (Ad (C5 (AY e) I.ok.above))).trans e1⟩
  .by_cases B:j=i
   .subst B;rw[hi]at e1;cases e1;rw[Cp hiσ]at t;cases t;exact⟨u,r,.inl ⟨hk,by simp⟩⟩
   .rw[CJ (BG B)]at t;obtain⟨u',G,q⟩:=S j y F e1 t O;refine⟨u',G,?_⟩;rcases q with⟨k,e⟩|⟨k,c,e,z⟩
    .refine .inl ⟨k,?_⟩;have:y≠x:=λe=>B (Zp T e1 (e▸hi));simp[this,e]
    .exact .inr ⟨k,c,e,z.sameBut f (JU y c e)⟩
  .obtain⟨D,z⟩:=I.cell y c e;exact⟨D,z.sameBut f (JU y c e)⟩
  .obtain⟨e,n,ne,J,d⟩:=I.pin p K;exact⟨(f.2 p.1 ne).trans e,n,ne,J,d⟩
 .have P:X.fn x=true:=by
   rcases hf with z|z
   .exact z
   .rw[z]at hk;cases hk
  obtain⟨c,l⟩:=I.ok.has x (.inl hk);obtain⟨D,z⟩:=I.cell x c l;refine wpAny_storeName_cell I.ok.kind hk l z (λh' FR f=>?_);obtain⟨R,ZS,mG⟩:=id z;refine h { s with heap:=h' } ⟨I.ok,I.os,I.bare,⟨λb o e n C hx=>?_,λb o e n C hx=>?_,I.base.free,λb o e hx=>?_,I.base.HS,I.base.HG⟩,⟨m,L.sameBut f (BG (JU x c l)),λj y F e1 t O=>?_⟩,λy c' e=>?_,I.free,I.Eu,λp K=>?_,g ⟨R,ZS,I.Eu x c l⟩ f,by simpa using I.len⟩ ⟨c,f,.inr l⟩
  .exact(f.2 b (Ad (C5 (AY e) (I.ok.LR x c P l)))).trans (I.base.keep b o e n C hx)
  .obtain⟨sl,e1⟩:=I.base.slot b o e n C hx;exact⟨sl,(f.2 b (Ad (C5 (AY e) (I.ok.LR x c P l)))).trans e1⟩
  .obtain⟨o',e1⟩:=I.base.there b o e hx;exact⟨o',(f.2 b (Ad (C5 (AY e) (I.ok.LR x c P l)))).trans e1⟩
  .by_cases B:j=i
   .subst B;rw[hi]at e1;cases e1;rw[Cp hiσ]at t;cases t;exact⟨u,r,.inr ⟨.inl hk,c,l,FR⟩⟩
   .rw[CJ (BG B)]at t;obtain⟨u',G,q⟩:=S j y F e1 t O;refine⟨u',G,?_⟩;rcases q with q|⟨k,c',e,z'⟩
    .exact .inl q
    .refine .inr ⟨k,c',e,z'.sameBut f ?_⟩;rintro rfl;exact B (Zp T e1 (I.ok.inj _ _ _ e l▸hi))
  .by_cases V:c'=c
   .subst V;exact⟨_,FR⟩
   .obtain⟨Y,W⟩:=I.cell y c' e;exact⟨Y,W.sameBut f V⟩
  .obtain⟨e,n,ne,J,d⟩:=I.pin p K;refine⟨(f.2 p.1 ?_).trans e,n,ne,J,d⟩;intro q;rw[q,ZS]at e;have q':R=p.2:=BB e;exact d D (by rw[<- q'];exact mG)
theorem Zy{Q:Unit->Shared->Prop}(I:Inv X Zj Z H s)(b:X.N.Nodup)(hi:X.N[i]?=some x)(hx:Loc X.env.scope x)(r:RelV v u)
  (h:∀s',Inv X Zj (Z.set i (some v)) H s'->Q () s') (a:X.fn x=true∨X.env.scope.names.lookup x=some .local:=by first|exact .inl rfl|exact .inr rfl|assumption):wpAny M A (storeName X.env x u) Q E s:=
 cq I b hi hx r (λs' I' _=>h s' I') a
theorem Inv.tG(I:Inv X Zj Z H s)(ho:s'.os=s.os)(u:Un (Fl X.stack) ch H H' s.heap s'.heap)(AA:Bt X.prog X.w H' s'.heap)(a:AllBare s'.gens)
  (Dp:∀b∈ch,(b∈X.ex∨X.s₀.heap.objs.size<=b)/\b≠X.env.locals/\(∀x c,X.env.cells.lookup x=some c->c≠b)/\∀p∈X.pn++Zj,p.1≠b):Inv X Zj Z H' s':=by
 obtain⟨h',g',d',t',o'⟩:=s';have e:o'=s.os:=ho;subst e;exact I.call (g':=g') (t':=t') (d':=d') u AA a Dp
end
abbrev XK:=Value->Option Addr->Hp->Prop
abbrev St:=List (Option V)
variable{Z:St}
abbrev VK:=V->Hp->Prop
abbrev TE:=St->Hp->VK->Prop
variable{ta tb tc te:TE}
abbrev TT:=St->Hp->(Bool->Hp->Prop)->Prop
abbrev TA:=St->Hp->(List V->Hp->Prop)->Prop
variable{t:TA}
structure Ends where
 nx:St->Hp->Prop
 rt:VK
 bk:St->Hp->Prop:=λ_ _=>False
 ct:St->Hp->Prop:=λ_ _=>False
abbrev TS:=Ends->St->Hp->Prop
def EP(X:Cx)(Zj:zv)(Z:St)(Q:VK)(u:Value)(s':Shared):Prop:=∃v H',Inv X Zj Z H' s'/\RelV v u/\Q v H'
def TP(X:Cx)(Zj:zv)(Z:St)(Q:Bool->Hp->Prop)(b:Bool)(s':Shared):Prop:=∃H',Inv X Zj Z H' s'/\Q b H'
def AP(X:Cx)(Zj:zv)(Z:St)(Q:List V->Hp->Prop)(us:List Value)(s':Shared):Prop:=∃vs H',Inv X Zj Z H' s'/\Vals vs us/\Q vs H'
def SP(X:Cx)(Zj:zv)(D:Ends)(f:Flow)(s':Shared):Prop:=
 match f with
 | .next=>∃ σ' H',Inv X Zj σ' H' s'/\D.nx σ' H'
 | .brk=>∃ σ' H',Inv X Zj σ' H' s'/\D.bk σ' H'
 | .cont=>∃ σ' H',Inv X Zj σ' H' s'/\D.ct σ' H'
 | .ret u=>∃v σ' H',Inv X Zj σ' H' s'/\RelV v u/\D.rt v H'
def PE(X:Cx)(e:Expr)(t:TE):Prop:=
 ∀(Zj:zv)(s:Shared)(Z:St)(H:Hp)(Q:VK),Inv X Zj Z H s->t Z H Q->wpAny (model X.prog X.w) X.A (eval e X.env) (EP X Zj Z Q) X.xe s
def PT(X:Cx)(e:Expr)(t:TT):Prop:=
 ∀(Zj:zv)(s:Shared)(Z:St)(H:Hp)(Q:Bool->Hp->Prop),Inv X Zj Z H s->t Z H Q->wpAny (model X.prog X.w) X.A (isTrue e X.env (eval e X.env)) (TP X Zj Z Q) X.xe s
def PW(X:Cx)(e:Expr)(t:TT):Prop:=
 ∀(a:Sem Value)(Zj:zv)(s:Shared)(Z:St)(H:Hp)(Q:Bool->Hp->Prop),Inv X Zj Z H s->t Z H Q->wpAny (model X.prog X.w) X.A (isTrue e X.env a) (TP X Zj Z Q) X.xe s
theorem PW.pt{t:TT}(h:PW X e t):PT X e t:=h _
def PA(X:Cx)(es:List Expr)(t:TA):Prop:=
 ∀(pos:Pos)(Zj:zv)(s:Shared)(Z:St)(H:Hp)(Q:List V->Hp->Prop),Inv X Zj Z H s->t Z H Q->wpAny (model X.prog X.w) X.A (spliced (backTo pos (starEach es X.env))) (AP X Zj Z Q) X.xe s
def PS(X:Cx)(st:Stmt)(t:TS):Prop:=
 ∀(Zj:zv)(s:Shared)(Z:St)(H:Hp)(D:Ends),Inv X Zj Z H s->t D Z H->wpAny (model X.prog X.w) X.A (exec st X.env) (SP X Zj D) X.xe s
def DR(X:Cx)(st:List Stmt)(t:TS):Prop:=
 ∀(Zj:zv)(s:Shared)(Z:St)(H:Hp)(D:Ends),Inv X Zj Z H s->t D Z H->wpAny (model X.prog X.w) X.A (execs st X.env) (SP X Zj D) X.xe s
theorem Aq{t:Sem α}{Q Q':α->Shared->Prop}(h:wpAny M A t Q E s)(b:∀a s,Q a s->Q' a s):wpAny M A t Q' E s:=i7 h b λ_ _ x=>x
theorem PE.k{t:TE}{Q:VK}{Q':Value->Shared->Prop}(a:PE X e t)(I:Inv X Zj Z H s)(h:t Z H Q)(f:∀u s1 x H1,Inv X Zj Z H1 s1->RelV x u->Q x H1->Q' u s1):wpAny (model X.prog X.w) X.A (eval e X.env) Q' X.xe s:=
 Aq (a Zj s Z H Q I h) λu s1 z=>by obtain⟨x,H1,I1,r,q⟩:=z;exact f u s1 x H1 I1 r q
theorem PA.k(pos:Pos){Q:List V->Hp->Prop}{Q':List Value->Shared->Prop}(a:PA X es t)(I:Inv X Zj Z H s)(h:t Z H Q)(f:∀us s1 vs H1,Inv X Zj Z H1 s1->Vals vs us->Q vs H1->Q' us s1):wpAny (model X.prog X.w) X.A (spliced (backTo pos (starEach es X.env))) Q' X.xe s:=
 Aq (a pos Zj s Z H Q I h) λu s1 z=>by obtain⟨x,H1,I1,r,q⟩:=z;exact f u s1 x H1 I1 r q
section
def BE(i:Nat):TE:=λZ H Q=>∃v,Z[i]?=some (some v)/\Q v H
def tC(v:V):TE:=λ_ H Q=>Q v H
def Gl(X:Cx)(x:Str):Prop:=X.env.kindOf x=some .globalImplicit
theorem Zv(I:Inv X Zj Z H s)(b:Gl X x)(a:X.mg x=some u)(h:Q u s)
  (hd:(x == ("__debug__":Str))=false:=by decide):wpAny (model X.prog X.w) X.A (eval (.Name x pos) X.env) Q E s:=
 xw I.ok.kind b (Calls.loadGlobal_global (by rw[I.ok.glob];exact I.mod.glob.keeps I.bk) a h) hd
theorem HH(I:Inv X Zj Z H s)(d:Gl X x)(c:X.mg x=none)(a:bootBuiltins x=some u)(h:Q u s)
  (b:x ≠"__name__" := by decide) (hd:(x == ("__debug__":Str))=false:=by decide):wpAny (model X.prog X.w) X.A (eval (.Name x pos) X.env) Q E s:=by
 obtain⟨e,h1,h2⟩:=I.mod.blt;exact xw I.ok.kind d (Calls.loadGlobal_builtin (by rw[I.ok.glob];exact I.mod.glob.keeps I.bk) c (by rw[I.ok.blt];exact h1.keeps I.bk) ((h2 x b).trans a) h) hd
theorem mX(d:Gl X x)(c:X.mg x=none)(a:bootBuiltins x=some u)(r:RelV v u)(b:x ≠"__name__" := by decide)(hd:(x == ("__debug__":Str))=false:=by decide):PE X (.Name x pos) (tC v):=
 λ_ _ _ H _ I h=>HH I d c a ⟨v,H,I,r,h⟩ b hd
variable{a b:Expr}
def PC(X:Cx)(op:CmpOp)(a b:Expr)(t:TE):Prop:=
 ∀(Zj:zv)(s:Shared)(Z:St)(H:Hp)(Q:VK),Inv X Zj Z H s->t Z H Q->
  wpAny (model X.prog X.w) X.A (eval a X.env) (λv s₁=>wpAny (model X.prog X.w) X.A (eval b X.env) (λu c=>wpAny (model X.prog X.w) X.A (compareOp op v u) (EP X Zj Z Q) X.xe c) X.xe s₁) X.xe s
theorem wA(b:Expr)(h:op≠.In)(h2:op≠.NotIn):behindInMarks op b=false:=by
 have e1:(op == CmpOp.In)=false:=by cases op <;> first|rfl|exact absurd rfl h
 have a:(op == CmpOp.NotIn)=false:=by cases op <;> first|rfl|exact absurd rfl h2
 cases b <;> simp[behindInMarks,e1,a]
def tB(t:TE):TT:=λZ H Q=>t Z H λx H1=>∃c,x=.bl c/\Q c H1
theorem jc{t:TE}(h:PC X op a b t)(h1:behindInMarks op b=false:=by first|exact wA _ (by decide) (by decide)|rfl):PT X (.Compare a [op] [b] pos) (tB t):=by
 intro Zj s Z H Q I hw;refine wpAny_isTrue_Compare1 (Aq (h Zj s Z H _ I hw) λv s1 h1=>Aq h1 λu s2 h2=>Aq h2 λc g⟨x,H1,I1,e,f⟩=>?_) h1;obtain⟨d,rfl,q⟩:=f;cases e;exact lZ ⟨H1,I1,q⟩
variable{tA Hg:TT}
def RX(t u:TT):TT:=λZ H Q=>t Z H λc H1=>if c=true then u Z H1 Q else Q false H1
def Lj(t u:TT):TT:=λZ H Q=>t Z H λc H1=>if c=true then Q true H1 else u Z H1 Q
def R5(t:TT):TT:=λZ H Q=>t Z H λc H1=>Q (!c) H1
def SX(ta tb:TE):TE:=λZ H Q=>ta Z H λx H1=>∃c,x=.bl c/\if c=true then tb Z H1 Q else Q (.bl false) H1
def R1(ta tb:TE):TE:=λZ H Q=>ta Z H λx H1=>∃c,x=.bl c/\if c=true then Q (.bl true) H1 else tb Z H1 Q
def UK(ta:TE):TE:=λZ H Q=>ta Z H λx H1=>∃c,x=.bl c/\Q (.bl (!c)) H1
end
def AI(K:zu)(H:Hp)(a:Addr)(xs:List V):Prop:=
 Rd H a (.lst xs)∨
  ∃(o:Obj)(A0:Array Value)(n:Nat),K.lookup a=some o/\o.cls=.type "list" /\ o.dict=none/\o.data=.seq A0 n/\A0.size<=sizeLine/\Vals xs A0.toList
def Ag(K:zu)(H:Hp)(a:Addr)(xs:List V):Prop:=
 Rd H a (.tup xs)∨
  ∃(o:Obj)(A0:Array Value)(n:Nat),K.lookup a=some o/\o.cls=.type "tuple" /\ o.data=.seq A0 n/\A0.size<=sizeLine/\Vals xs A0.toList
noncomputable def xG:Value->Option V
 | .none=>some .A7
 | .bool b=>some (.bl b)
 | .int i _=>some (.int i)
 | .str x _=>some (.str x)
 | .bytes b _=>some (.Fo b)
 | .float b _=>some (.LC b)
 | .ref a=>some (.ref a)
 | .type n=>some (.ty n)
 |_=>none
theorem RelV.abs{x:V}(r:RelV x u):xG u=some x:=by
 cases x with
 |A7=>cases r;rfl
 |bl _=>cases r;rfl
 |int _=>obtain⟨t,rfl⟩:=r;rfl
 |str _=>obtain⟨t,rfl⟩:=r;rfl
 |Fo _=>obtain⟨t,rfl⟩:=r;rfl
 |LC _=>obtain⟨t,rfl⟩:=r;rfl
 |ref _=>cases r;rfl
 |ty _=>cases r;rfl
theorem RelV.inj{x y:V}{u:Value}(r:RelV x u)(q:RelV y u):x=y:=BB (r.abs.symm.trans q.abs)
theorem Vals.inj:∀{xs ys:List V}{us:List Value},Vals xs us->Vals ys us->xs=ys
 |_,_,_,.nil,.nil=>rfl
 |_,_,_,.cons r t,.cons r' t'=>by rw[r.inj r',Vals.inj t t']
section
variable{xs ys:List V}
theorem AI.of{K:zu}(h:H a=some (.lst xs)):AI K H a xs:=.inl (.inl h)
theorem Ag.of{K:zu}(h:H a=some (.tup xs)):Ag K H a xs:=.inl (.inl h)
theorem Inv.list(I:Inv X Zj Z H s)(h:AI X.K H a xs):∃A0:List Value,Vals xs A0/\PlainL s.heap a A0.toArray/\xs.length<=sizeLine:=by
 rcases h with h|⟨o,A0,n,hk,hc,hd,hs,hz,r⟩
 .obtain⟨z,A0,n,r,e⟩:=h.ok I.AA;exact⟨A0,r,⟨_,n,e,rfl,rfl,rfl⟩,z⟩
 .refine⟨A0.toList,r,⟨o,n,I.Dd a o hk,hc,hd,by simpa using hs⟩,?_⟩
  have e:=r.length;simp only[Bs]at e;omega
theorem Inv.tuple(I:Inv X Zj Z H s)(h:Ag X.K H a xs):∃A0:List Value,Vals xs A0/\IsTup s.heap a A0.toArray/\xs.length<=sizeLine:=by
 rcases h with h|⟨o,A0,n,hk,hc,hs,hz,r⟩
 .obtain⟨z,A0,r,p⟩:=h.ok I.AA;exact⟨A0,r,p.1,z⟩
 .refine⟨A0.toList,r,⟨o,I.Dd a o hk,hc,n,by simpa using hs⟩,?_⟩
  have e:=r.length;simp only[Bs]at e;omega
theorem Inv.bo(I:Inv X Zj Z H s)(h:AI X.K H a xs)(h':AI X.K H a ys):xs=ys:=by
 obtain⟨A0,r,⟨o,n,e,_,_,d⟩,_⟩:=I.list h;obtain⟨its',c,⟨o',f,b,_,_,d'⟩,_⟩:=I.list h';rw[e]at b;cases b;rw[d]at d';injection d' with d1 _
 have:A0=its':=by simpa using iI Array.toList d1
 subst this;exact r.inj c
theorem Inv.MZ(I:Inv X Zj Z H s)(h:Ag X.K H a xs)(h':Ag X.K H a ys):xs=ys:=by
 obtain⟨A0,r,⟨o,e,_,n,d⟩,_⟩:=I.tuple h;obtain⟨its',c,⟨o',b,_,f,d'⟩,_⟩:=I.tuple h';rw[e]at b;cases b;rw[d]at d';injection d' with d1 _
 have:A0=its':=by simpa using iI Array.toList d1
 subst this;exact r.inj c
end
noncomputable abbrev Cx.GU(X:Cx)(E:Value->Shared->Prop):Cx:={ X with xe:=E }
noncomputable abbrev Cx.Fn(X:Cx):Cx:=X.GU λ_ _=>False
theorem Cx.Ok.GU(ok:X.Ok)(E:Value->Shared->Prop):(X.GU E).Ok:=
 ⟨ok.mod,ok.kind,ok.glob,ok.blt,ok.above,ok.inj,ok.has,ok.LR,ok.hd,ok.frames,ok.QJ,ok.OZ,ok.bs,ok.GZ,ok.Ly,ok.Mt,ok.FA,ok.Ht⟩
theorem Cx.Ok.IF(ok:(X.GU E).Ok):X.Ok:=
 ⟨ok.mod,ok.kind,ok.glob,ok.blt,ok.above,ok.inj,ok.has,ok.LR,ok.hd,ok.frames,ok.QJ,ok.OZ,ok.bs,ok.GZ,ok.Ly,ok.Mt,ok.FA,ok.Ht⟩
section
theorem Inv.GU(I:Inv X Zj Z H s)(E:Value->Shared->Prop):Inv (X.GU E) Zj Z H s:=⟨I.ok.GU E,I.os,I.bare,I.base,I.loc,I.cell,I.free,I.Eu,I.pin,I.AA,I.len⟩
theorem Inv.IF(I:Inv (X.GU E) Zj Z H s):Inv X Zj Z H s:=⟨I.ok.IF,I.os,I.bare,I.base,I.loc,I.cell,I.free,I.Eu,I.pin,I.AA,I.len⟩
theorem SP.IF{D:Ends}{f:Flow}(h:SP (X.GU E) Zj D f s'):SP X Zj D f s':=by
 cases f with
 |next=>obtain⟨σ',H',I,q⟩:=h;exact⟨σ',H',I.IF,q⟩
 |brk=>obtain⟨σ',H',I,q⟩:=h;exact⟨σ',H',I.IF,q⟩
 |cont=>obtain⟨σ',H',I,q⟩:=h;exact⟨σ',H',I.IF,q⟩
 |ret u=>obtain⟨v,σ',H',I,r,q⟩:=h;exact⟨v,σ',H',I.IF,r,q⟩
theorem DR.Fn{st:List Stmt}{t:TS}(h:DR X.Fn st t):DR X st t:=λZj s Z H D I hw=>
 i7 (h Zj s Z H D (I.GU _) hw) (λ_ _ q=>q.IF) λ_ _ z=>False.elim z
variable{st:Stmt}{rest:List Stmt}{t u:TS}
def TC:TS:=λD Z H=>D.nx Z H
def Km(t u:TS):TS:=λD Z H=>t { D with nx:=u D } Z H
theorem jb(h1:PS X st t)(h2:DR X rest u):DR X (st::rest) (Km t u):=by
 intro Zj s Z H D I h;refine wpAny_execs_cons (Aq (h1 Zj s Z H { D with nx:=u D } I h) λf s1 q=>?_)
 cases f with
 |next=>
  obtain⟨σ',H',I',q⟩:=q;exact h2 Zj s1 σ' H' D I' q
 |ret v=>exact q
 |brk=>exact q
 |cont=>exact q
theorem kG(h1:PS X st t):DR X [st] t:=by
 intro Zj s Z H D I h;refine wpAny_execs_cons (Aq (h1 Zj s Z H D I h) λf s1 q=>?_);cases f with
 |next=>exact xS q
 |ret v=>exact q
 |brk=>exact q
 |cont=>exact q
theorem Inv.quiet(I:Inv X Zj Z H s):interactive X.env=false:=by simp[interactive,I.ok.kind]
def JJ(te:TE):TS:=λD Z H=>te Z H λ_ H1=>D.nx Z H1
def IZ(te:TE):TS:=λD Z H=>te Z H D.rt
def N4(c:TT)(t u:TS):TS:=λD Z H=>c Z H λb H1=>if b=true then t D Z H1 else u D Z H1
def cO:TS:=λ_ _ _=>False
end
abbrev TG:=V->St->Hp->(St->Hp->Prop)->Prop
abbrev G6:=List V->St->Hp->(St->Hp->Prop)->Prop
def PG(X:Cx)(a:Expr)(t:TG):Prop:=
 ∀(Zj:zv)(s:Shared)(Z:St)(H:Hp)(v:V)(u:Value)(Q:St->Hp->Prop),Inv X Zj Z H s->RelV v u->t v Z H Q->
  wpAny (model X.prog X.w) X.A (assign a X.env u) (λ_ s'=>∃ σ' H',Inv X Zj σ' H' s'/\Q σ' H') X.xe s
def Kc(X:Cx)(a:List Expr)(t:G6):Prop:=
 ∀(Zj:zv)(s:Shared)(Z:St)(H:Hp)(vs:List V)(us:List Value)(Q:St->Hp->Prop),Inv X Zj Z H s->Vals vs us->t vs Z H Q->
  wpAny (model X.prog X.w) X.A (assignInOrder ((assignEach a X.env).map (·.2)) us) (λ_ s'=>∃ σ' H',Inv X Zj σ' H' s'/\Q σ' H') X.xe s
abbrev Pt:=V->V->V->Hp->(Hp->Prop)->Prop
def RF(X:Cx)(t:Pt):Prop:=
 ∀(Zj:zv)(s:Shared)(Z:St)(H:Hp)(o i v:V)(a b u:Value)(Q:Hp->Prop),Inv X Zj Z H s->RelV o a->RelV i b->RelV v u->t o i v H Q->
  wpAny (model X.prog X.w) X.A (setItem a b u) (λ_ s'=>∃H',Inv X Zj Z H' s'/\Q H') X.xe s
def CU(i:Nat):TG:=λv Z H Q=>Q (Z.set i (some v)) H
theorem Sf(b:X.N.Nodup)(hi:X.N[i]?=some x)(hx:Loc X.env.scope x)(a:X.fn x=true∨X.env.scope.names.lookup x=some .local:=by first|exact .inl rfl|exact .inr rfl|assumption):PG X (.Name x pos) (CU i):=by
 intro Zj s Z H v u Q I r h;exact wpAny_assign_Name (Zy I b hi hx r (λs' I'=>⟨_,H,I',h⟩) a)
def Lz:G6:=λvs Z H Q=>vs=[]/\Q Z H
def Hy(t:TG)(u:G6):G6:=λvs Z H Q=>∃v r,vs=v::r/\t v Z H λσ' H'=>u r σ' H' Q
theorem Zr:Kc X [] Lz:=by
 intro Zj s Z H vs us Q I r h;obtain⟨e,h⟩:=h;subst e;cases r;exact assignInOrder_nil ⟨Z,H,I,h⟩
theorem Y4{t:TG}{u:G6}(h1:PG X e t)(h2:Kc X es u)
  (d:(assignEach (e::es) X.env).map (·.2)=assign e X.env::(assignEach es X.env).map (·.2):=by rfl):Kc X (e::es) (Hy t u):=by
 intro Zj s Z H vs us Q I r h;obtain⟨v,f,e1,h⟩:=h;subst e1;cases r with
 |cons r a=>
  rw[d];refine assignInOrder_cons (Aq (h1 Zj s Z H _ _ _ I r h) λ_ s1 c=>?_);obtain⟨σ1,H1,I1,b⟩:=c;exact h2 Zj s1 σ1 H1 _ _ Q I1 a b
def Io(K:zu)(n:Nat)(t:G6):TG:=λv Z H Q=>∃a xs,v=.ref a/\Ag K H a xs/\xs.length=n/\t xs Z H Q
theorem d9{k:Nat}{t:G6}(j:X.calm=true)(h:Kc X es t)
  (g:(assignEach es X.env).length=n:=by rfl) (Dv:(assignEach es X.env).findIdx? (·.1)=none:=by rfl):PG X (.Tuple es k pos) (Io X.K n t):=by
 intro Zj s Z H v u Q I r hw;obtain⟨a,xs,e1,f,i,hw⟩:=hw;subst e1;cases r;obtain⟨A0,c,d,m⟩:=I.tuple f;refine assign_Tuple_tuple (I.ok.hd j) d (by simp[g,<- i,c.length]) Dv λh' hx=>?_;have l:Inv X Zj Z H { s with heap:=h' }:=I.kept (t':=s.toks) λb o e=>hx b o (Ad (AY e)) e
 exact h Zj _ Z H xs _ Q l (by simpa using c) hw
def Oa(to ti:TE)(t:Pt):TG:=λv Z H Q=>to Z H λo H1=>ti Z H1 λi H2=>t o i v H2 λH3=>Q Z H3
def Dm(te:TE)(g:TG):TS:=λD Z H=>te Z H λx H1=>g x Z H1 D.nx
def S7(c:TT)(tb:TS):TS:=λD Z H=>∃W:Nat->St->Hp->Prop,(∃m,W m Z H)/\∀m Z H,W m Z H->
 c Z H λb H1=>if b=true then ∃N:St->Hp->Prop,(∀ σ' H',N σ' H'->∃a,a < m/\W a σ' H')/\tb { D with nx:=N,ct:=N,bk:=D.nx } Z H1 else D.nx Z H1
structure It where
 go:Nat->Hp->Prop
 D7:Nat->Hp->V->Hp->Prop
 stop:Nat->Hp->Prop
def Dq(X:Cx)(Zj:zv)(H:Hp)(b:Addr):Prop:=
 H b=none/\b≠X.env.locals/\b∉X.fs/\(b∈X.ex∨X.s₀.heap.objs.size<=b)/\(∀x c,X.env.cells.lookup x=some c->c≠b)/\∀p∈X.pn++Zj,p.1≠b
theorem Inv.Nk(I:Inv X Zj Z H s)(a:s.heap.objs.size<=b)(f:H' b=none):Dq X Zj H' b:=by
 refine⟨f,DO (C5 I.lt a),I.Li a,.inr (CC I.sz a),λx c e z=>?_,λp d z=>?_⟩
 .obtain⟨v,q⟩:=I.cell x c e;exact absurd (C5 q.lt (by rw[z];exact a)) (LN _)
 .exact absurd (C5 (AY (I.pin p d).1) (by rw[z];exact a)) (LN _)
structure Turn (P:Program) (w:World) (K:zu) (tg:Expr) (J:It) (fp:List Addr) (it:Addr) (tn:Nat->Heap->Prop):Prop where
 mem:it∈fp
 obj:∀i h,tn i h->∀b∈fp,∃o,h.get? b=some o/\∀v,o.data≠.cell v
 keep:∀i h h',tn i h->(∀b∈fp,∀o,h.get? b=some o->h'.get? b=some o)->tn i h'
 item:∀(X:Cx),X.prog=P->X.w=w->X.K=K->X.calm=true->∀(i:Nat)(Zj:zv)(s:Shared)(Z:St)(H:Hp)(E:Value->Shared->Prop),Inv X Zj Z H s->(∀b∈fp,Dq X Zj H b)->tn i s.heap->J.go i H->
  wpAny (model P w) X.A (pyNext (.ref it)) (λr s1=>∃u,r=some u/\
   wpAny (model P w) X.A (letOwnedTupleGo tg (.ref it) u) (λ_ s2=>∃x H',Inv X Zj Z H' s2/\RelV x u/\J.D7 i H x H'/\tn (i+1) s2.heap/\∀b∈fp,H' b=none) E s1) E s
 done:∀(X:Cx),X.prog=P->X.w=w->X.K=K->X.calm=true->∀(i:Nat)(Zj:zv)(s:Shared)(Z:St)(H:Hp)(E:Value->Shared->Prop),Inv X Zj Z H s->(∀b∈fp,Dq X Zj H b)->tn i s.heap->J.stop i H->
  wpAny (model P w) X.A (pyNext (.ref it)) (λr s1=>r=none/\Inv X Zj Z H s1) E s
 self:∀(A:Around)(i:Nat)(s:Shared)(Q:Value->Shared->Prop)(E:Value->Shared->Prop),tn i s.heap->Q (.ref it) s->wpAny (model P w) A (pyIter (.ref it)) Q E s
abbrev TI:=St->Hp->(It->Hp->Prop)->Prop
def X4(X:Cx)(Zj:zv)(Z:St)(tg:Expr)(R:It->Hp->Prop)(PN:Value)(s2:Shared):Prop:=
 ∃(it:Addr)(fp:List Addr)(tn:Nat->Heap->Prop)(J:It)(H':Hp),PN=.ref it/\Inv X Zj Z H' s2/\Turn X.prog X.w X.K tg J fp it tn/\tn 0 s2.heap/\(∀b∈fp,Dq X Zj H' b)/\R J H'
def PI(X:Cx)(tg iter:Expr)(wi:TI):Prop:=
 ∀(Zj:zv)(s:Shared)(Z:St)(H:Hp)(R:It->Hp->Prop),Inv X Zj Z H s->wi Z H R->
  wpAny (model X.prog X.w) X.A (eval iter X.env) (λv s1=>wpAny (model X.prog X.w) X.A (pyIter v) (X4 X Zj Z tg R) X.xe s1) X.xe s
theorem Ri{o:Obj}{n:String}{vs:Array Value}{Q:Unit->Shared->Prop}(ho:s.heap.get? it=some o)(c:o.cls=.type n)(hd:o.data=.fields vs)
  (b:["enumerate","zip","dict_itemiterator","dict_reverseitemiterator","odict_iterator","itertools.zip_longest","itertools.pairwise"].contains n=false) (a:Q () s):wpAny M A (letOwnedTupleGo tg (.ref it) u) Q E s:=by
 unfold letOwnedTupleGo;cases tg <;> first
  |exact dP a
  | (cases u <;> first
    |exact dP a
    | (
      refine Wo (zy ho ?_);rw[c,hd];show wpAny M A (if(["enumerate","zip","dict_itemiterator","dict_reverseitemiterator","odict_iterator","itertools.zip_longest","itertools.pairwise"].contains n && vs[0]? == some (rawInt _))=true then _ else _) Q E s
      rw[eJ (by intro h;rw[b,dR]at h;cases h)];exact dP a))
noncomputable def fZ(K:zu)(a:Addr):It:=
 ⟨λi H=>∃xs x,AI K H a xs/\xs[i]?=some x,λi H x H'=>H'=H/\∀xs,AI K H a xs->xs[i]?=some x,λi H=>∃xs,AI K H a xs/\xs.length<=i⟩
noncomputable def jD(K:zu)(a:Addr):It:=
 ⟨λi H=>∃xs x,Ag K H a xs/\xs[i]?=some x,λi H x H'=>H'=H/\∀xs,Ag K H a xs->xs[i]?=some x,λi H=>∃xs,Ag K H a xs/\xs.length<=i⟩
noncomputable def JT(lo:Int)(n:Nat):It:=⟨λi _=>i<n,λi H x H'=>H'=H/\x=.int (lo+i),λi _=>n<=i⟩
theorem N2{P:Program}{K:zu}(a it:Addr):Turn P w K tg (fZ K a) [it] it (λi h=>h.IsListIter it a i) where
 mem:=by simp
 obj:=λi h st b f=>by
  have e:b=it:=by simpa using f
  subst e;obtain⟨o,e,c,d⟩:=st;exact⟨o,e,λv z=>by rw[d]at z;cases z⟩
 keep:=λi h h' st k=>st.at λo e=>k it (by simp) o e
 item:=by
  intro X n hw q B i Zj s Z H E I j st m;subst n hw q;obtain⟨xs,x,g,hx⟩:=m;obtain⟨A0,l,p,F⟩:=I.list g;obtain⟨u,J,D⟩:=l.get hx;obtain⟨f0,A,L,y,t,r⟩:=j it (by simp);refine wpAny_pyNext_list_item st p.isList (x:=u) (by simpa using J) λh' Ed C=>?_
  have N:Inv X Zj Z H { s with heap:=h' }:=I.turned (t':=s.toks) (λb o f e=>(C.2 b f).trans e) f0 A y t r
  obtain⟨o,e,c,d⟩:=id Ed;exact⟨u,rfl,Ri (s:={ s with heap:=h' }) e c d (by decide) ⟨x,H,N,D,⟨rfl,λys G=>by rw[I.bo G g];exact hx⟩,Ed,λb f=>(j b f).1⟩⟩
 done:=by
  intro X n hw q B i Zj s Z H E I j st m;subst n hw q;obtain⟨xs,g,hx⟩:=m;obtain⟨A0,l,p,F⟩:=I.list g;obtain⟨f0,A,L,y,t,r⟩:=j it (by simp);have O:=l.length;exact wpAny_pyNext_list_end (I.ok.hd B) st p.isList (by simp;omega) λh' M=>⟨rfl,I.turned (t':=s.toks) (λb o f e=>M b o f e) f0 A y t r⟩
 self:=λ_ _ _ _ _ st h=>wpAny_pyIter_listiter st h
theorem LP{P:Program}{K:zu}(a it:Addr):Turn P w K tg (jD K a) [it] it (λi h=>h.IsTupleIter it a i) where
 mem:=by simp
 obj:=λi h st b f=>by
  have e:b=it:=by simpa using f
  subst e;obtain⟨o,e,c,d⟩:=st;exact⟨o,e,λv z=>by rw[d]at z;cases z⟩
 keep:=λi h h' st k=>st.at λo e=>k it (by simp) o e
 item:=by
  intro X n hw q B i Zj s Z H E I j st m;subst n hw q;obtain⟨xs,x,g,hx⟩:=m;obtain⟨A0,l,p,F⟩:=I.tuple g;obtain⟨u,J,D⟩:=l.get hx;obtain⟨f0,A,L,y,t,r⟩:=j it (by simp);refine wpAny_pyNext_tuple_item st (show s.heap.IsTuple a A0.toArray from p) (x:=u) (by simpa using J) λh' Ed C=>?_
  have N:Inv X Zj Z H { s with heap:=h' }:=I.turned (t':=s.toks) (λb o f e=>(C.2 b f).trans e) f0 A y t r
  obtain⟨o,e,c,d⟩:=id Ed;exact⟨u,rfl,Ri (s:={ s with heap:=h' }) e c d (by decide) ⟨x,H,N,D,⟨rfl,λys G=>by rw[I.MZ G g];exact hx⟩,Ed,λb f=>(j b f).1⟩⟩
 done:=by
  intro X n hw q B i Zj s Z H E I j st m;subst n hw q;obtain⟨xs,g,hx⟩:=m;obtain⟨A0,l,p,F⟩:=I.tuple g;obtain⟨f0,A,L,y,t,r⟩:=j it (by simp);have O:=l.length;exact wpAny_pyNext_tuple_end (I.ok.hd B) st (show s.heap.IsTuple a A0.toArray from p) (by simp;omega) λh' M=>⟨rfl,I.turned (t':=s.toks) (λb o f e=>M b o f e) f0 A y t r⟩
 self:=λ_ _ _ _ _ st h=>wpAny_pyIter_tupleiter st h
theorem jl{P:Program}{K:zu}(it:Addr)(lo:Int)(n:Nat):Turn P w K tg (JT lo n) [it] it (λi h=>IsRangeIter h it (lo+(i:Nat) * 1) ((n:Int) - (i:Nat)) 1) where
 mem:=by simp
 obj:=λi h st b a=>by
  have e:b=it:=by simpa using a
  subst e;exact⟨_,st,λv z=>by
   have r:Data.fields _=Data.cell v:=z;cases r⟩
 keep:=λi h h' st k=>k it (by simp) _ st
 item:=by
  intro X g hw j f i Zj s Z H E I c st d;subst g hw j;obtain⟨f0,q,x,p,m,l⟩:=c it (by simp);have W:=Walks.range (prog:=X.prog) (w:=X.w) (I.ok.hd f) it lo 1 n;refine W.item i s _ _ d st λv h' tk u Ed kk=>?_;obtain⟨t,rfl⟩:=u;have A:Inv X Zj Z H { s with heap:=h',toks:=tk }:=I.turned (λb o a e=>kk b o (by simpa using a) e) f0 q p m l
  refine⟨_,rfl,Ri (s:={ s with heap:=h',toks:=tk }) (n:="range_iterator") Ed rfl rfl (by decide) ⟨.int (lo+i),H,A,⟨t,?_⟩,⟨rfl,rfl⟩,Ed,λb a=>(c b a).1⟩⟩
  rw[Int.mul_one]
 done:=by
  intro X g hw j f i Zj s Z H E I c st d;subst g hw j;obtain⟨f0,q,x,p,m,l⟩:=c it (by simp);exact wpAny_pyNext_range_end (I.ok.hd f) st (by have:n<=i:=d;omega) λh' y=>⟨rfl,I.turned (t':=s.toks) (λb o a e=>y b o a e) f0 q p m l⟩
 self:=λ_ _ _ _ _ st h=>wpAny_pyIter_rangeiter st h
theorem bU{R:It->Hp->Prop}{lo hi:Int}{t u v:Tok}(I:Inv X Zj Z H s)(h1:-(2 ^ 62)<=lo)(h2:lo<2 ^ 62)(f:-(2 ^ 62)<=hi)(d:hi<2 ^ 62)
  (q:R (JT lo (hi - lo).toNat) H):wpAny (model X.prog X.w) X.A (pyIter (.ref s.heap.objs.size)) (X4 X Zj Z tg R) E { s with heap:=s.heap.push { cls:=.type "range", data:=.fields #[.int lo t,.int hi u,.int 1 v] },toks:=tk }:=by
 refine wpAny_pyIter_range (IsRange.new ..) (small_one h1 h2 f d) ?_;have a:Inv X Zj Z H { s with heap:=s.heap.push { cls:=.type "range", data:=.fields #[.int lo t,.int hi u,.int 1 v] },toks:=tk }:=I.kept λb o e=>Af _ e
 refine⟨(s.heap.push { cls:=.type "range", data:=.fields #[.int lo t,.int hi u,.int 1 v] }).objs.size,[(s.heap.push { cls:=.type "range", data:=.fields #[.int lo t,.int hi u,.int 1 v] }).objs.size],_,_,H,rfl,
  a.kept (t':=tk) λb o e=>Af _ e,jl _ lo (hi - lo).toNat,?_,λb c=>?_,q⟩
 .have e1:lo+((0:Nat):Int) * 1=lo:=by simp
  have g:(((hi - lo).toNat:Nat):Int) - ((0:Nat):Int)=Builtin.Range.rangeSize lo hi 1:=by rw[rangeSize_one];split <;> omega
  show IsRangeIter _ _ (lo+((0:Nat):Int) * 1) ((((hi - lo).toNat:Nat):Int) - ((0:Nat):Int)) 1;rw[e1,g];exact Ay _ rfl
 .have e:b=(s.heap.push { cls:=.type "range", data:=.fields #[.int lo t,.int hi u,.int 1 v] }).objs.size:=by simpa using c
  subst e;exact a.Nk (AW _) (a.AA.fresh (AW _))
def Uz(ta:TA):TI:=λZ H R=>ta Z H λvs H1=>∃j:Int,vs=[.int j]/\-(2 ^ 62)<=j/\j<2 ^ 62/\R (JT 0 j.toNat) H1
def VD(ta:TA):TI:=λZ H R=>ta Z H λvs H1=>∃i j:Int,vs=[.int i,.int j]/\(-(2 ^ 62)<=i/\i<2 ^ 62/\-(2 ^ 62)<=j/\j<2 ^ 62)/\R (JT i (j - i).toNat) H1
def VR(wi:TI)(g:TG)(tb:TS):TS:=λD Z H=>wi Z H λJ H1=>∃W:Nat->Nat->St->Hp->Prop,(∃m,W 0 m Z H1)/\∀i m Z H,W i m Z H->
 (J.stop i H/\D.nx Z H)∨(J.go i H/\∃N:St->Hp->Prop,(∀ σ' H',N σ' H'->∃a,a < m/\W (i+1) a σ' H')/\∀x H',J.D7 i H x H'->g x Z H' λσ2 H2=>tb { D with nx:=N,ct:=N,bk:=D.nx } σ2 H2)
noncomputable def Mi(fp:List Addr)(h:Heap):zv:=fp.filterMap λb=>(h.get? b).map λo=>(b,o)
theorem P6{h:Heap}{o:Obj}(a:b∈fp)(e:h.get? b=some o):(b,o)∈Mi fp h:=List.mem_filterMap.mpr ⟨b,a,by rw[e];rfl⟩
theorem qy{h:Heap}{p:Addr×Obj}(a:p∈Mi fp h):p.1∈fp/\h.get? p.1=some p.2:=by
 obtain⟨b,c,e⟩:=List.mem_filterMap.mp a;cases q:h.get? b with
 |none=>rw[q]at e;cases e
 |some o=>
  rw[q]at e;have d:(b,o)=p:=BB e;subst d;exact⟨c,q⟩
theorem Inv.pinned(I:Inv X Zj Z H s)(g:∀b∈fp,Dq X Zj H b)(ho:∀b∈fp,∃o,s.heap.get? b=some o/\∀v,o.data≠.cell v):Inv X (Zj++Mi fp s.heap) Z H s:=
 I.XS λp f=>(List.mem_append.mp f).elim (λz=>I.pin p (Bo _ z)) λz=>by
  obtain⟨a,e⟩:=qy z;obtain⟨f0,i,h,_⟩:=g p.1 a;obtain⟨o,c,d⟩:=ho p.1 a;rw[e]at c;cases c;exact⟨e,f0,i,h,d⟩
theorem Inv.M4{pl:zv}(I:Inv X (Zj++pl) Z H s):Inv X Zj Z H s:=I.XS λp a=>I.pin p (Bo _ (D6 _ a))
theorem vH{lo:Int}{g:TG}{tb:TS}{D:Ends}(Pv:Nat->St->Hp->Prop)(f:Pv 0 Z H)
  (d:∀i Z H,i<n->Pv i Z H->g (.int (lo+i)) Z H λσ2 H2=>tb { D with nx:=Pv (i+1),ct:=Pv (i+1),bk:=D.nx } σ2 H2) (hd:∀ Z H,Pv n Z H->D.nx Z H) :
  ∃W:Nat->Nat->St->Hp->Prop,(∃m,W 0 m Z H)/\∀i m Z H,W i m Z H->
   ((JT lo n).stop i H/\D.nx Z H)∨((JT lo n).go i H/\∃N:St->Hp->Prop,(∀ σ' H',N σ' H'->∃b,b < m/\W (i+1) b σ' H')/\∀x H',(JT lo n).D7 i H x H'->g x Z H' λσ2 H2=>tb { D with nx:=N,ct:=N,bk:=D.nx } σ2 H2):=by
 refine⟨λi m Z H=>m=n - i/\i<=n/\Pv i Z H,⟨n,by simp,BN _,f⟩,?_⟩;rintro i m Z H⟨rfl,hi,p⟩
 by_cases a:i<n
 .refine .inr ⟨a,Pv (i+1),λσ' H' c=>⟨n - (i+1),by omega,rfl,a,c⟩,λx H' y=>?_⟩;obtain⟨e,y⟩:=y;subst e y;exact d i Z _ a p
 .have e:i=n:=by omega
  subst e;exact .inl ⟨AW _,hd Z H p⟩
abbrev R2:=V->V->Hp->VK->Prop
def BA(X:Cx)(f:Value->Value->Sem Value)(r:R2):Prop:=
 ∀(Zj:zv)(s:Shared)(Z:St)(H:Hp)(x y:V)(v u:Value)(Q:VK),Inv X Zj Z H s->RelV x v->RelV y u->r x y H Q->
  wpAny (model X.prog X.w) X.A (f v u) (EP X Zj Z Q) X.xe s
def P9(X:Cx)(f:Value->Sem Value)(r:V->Hp->VK->Prop):Prop:=
 ∀(Zj:zv)(s:Shared)(Z:St)(H:Hp)(x:V)(v:Value)(Q:VK),Inv X Zj Z H s->RelV x v->r x H Q->
  wpAny (model X.prog X.w) X.A (f v) (EP X Zj Z Q) X.xe s
def Bw(X:Cx)(f:Value)(r:List V->Hp->VK->Prop):Prop:=
 ∀(Zj:zv)(s:Shared)(Z:St)(H:Hp)(xs:List V)(us:List Value)(Q:VK),Inv X Zj Z H s->Vals xs us->r xs H Q->
  wpAny (model X.prog X.w) X.A (call f us) (EP X Zj Z Q) X.xe s
def BF(r:R2)(ta tb:TE):TE:=λZ H Q=>ta Z H λx H1=>tb Z H1 λy H2=>r x y H2 Q
def P0(r:V->Hp->VK->Prop)(ta:TE):TE:=λZ H Q=>ta Z H λx H1=>r x H1 Q
def rI(C:Int->Int->Prop)(g:Int->Int->V):R2:=λx y H Q=>∃i j,x=.int i/\y=.int j/\C i j/\Q (g i j) H
def Fd(g:Int->Int->V):R2:=λx y H Q=>∃i j,x=.int i/\y=.int j/\Q (g i j) H
def rU(g:Int->V):V->Hp->VK->Prop:=λx H Q=>∃i,x=.int i/\Q (g i) H
section
variable{a b c:Expr}
theorem R9(m:PE X a ta)(l:PE X b tb){R:V->V->Hp->Prop}(I:Inv X Zj Z H s)
  (h:ta Z H λx H1=>tb Z H1 λy H2=>R x y H2)
  (k:∀v u s2 x y H2,Inv X Zj Z H2 s2->RelV x v->RelV y u->R x y H2->wpAny (model X.prog X.w) X.A (f v u) Q X.xe s2) :
  wpAny (model X.prog X.w) X.A (eval a X.env) (λv s₁=>wpAny (model X.prog X.w) X.A (eval b X.env) (λu c=>wpAny (model X.prog X.w) X.A (f v u) Q X.xe c) X.xe s₁) X.xe s:=by
 refine Aq (m Zj s Z H _ I h) λv s1 Sh=>?_;obtain⟨x,H1,I1,e,i⟩:=Sh;refine Aq (l Zj s1 Z H1 _ I1 i) λu s2 j=>?_;obtain⟨y,H2,I2,d,g⟩:=j;exact k v u s2 x y H2 I2 e d g
theorem Pl{C:Int->Int->Prop}{g:Int->Int->Int}
  (rule:∀(i j:Int)(t u:Tok)(s:Shared)(Q:Value->Shared->Prop)(E:Value->Shared->Prop),C i j->Q (.int (g i j) s.toks) { s with toks:=s.toks+1 }->wpAny (model X.prog X.w) X.A (f (.int i t) (.int j u)) Q E s) :
  BA X f (rI C λi j=>.int (g i j)):=by
 intro Zj s Z H x y v u Q I b a h;obtain⟨i,j,rfl,rfl,c,q⟩:=h;obtain⟨t,rfl⟩:=b;obtain⟨t',rfl⟩:=a;exact rule i j t t' s _ _ c ⟨.int (g i j),H,I.tok _,⟨_,rfl⟩,q⟩
theorem bL{g:Int->Int->Int}
  (rule:∀(i j:Int)(t u:Tok)(s:Shared)(Q:Value->Shared->Prop)(E:Value->Shared->Prop),Q (.int (g i j) s.toks) { s with toks:=s.toks+1 }->wpAny (model X.prog X.w) X.A (f (.int i t) (.int j u)) Q E s) :
  BA X f (Fd λi j=>.int (g i j)):=by
 intro Zj s Z H x y v u Q I b a h;obtain⟨i,j,rfl,rfl,q⟩:=h;obtain⟨t,rfl⟩:=b;obtain⟨t',rfl⟩:=a;exact rule i j t t' s _ _ ⟨.int (g i j),H,I.tok _,⟨_,rfl⟩,q⟩
theorem PL{g:Int->Int->Bool}
  (rule:∀(i j:Int)(t u:Tok)(s:Shared)(Q:Value->Shared->Prop)(E:Value->Shared->Prop),Q (.bool (g i j)) s->wpAny (model X.prog X.w) X.A (f (.int i t) (.int j u)) Q E s) :
  BA X f (Fd λi j=>.bl (g i j)):=by
 intro Zj s Z H x y v u Q I b a h;obtain⟨i,j,rfl,rfl,q⟩:=h;obtain⟨t,rfl⟩:=b;obtain⟨t',rfl⟩:=a;exact rule i j t t' s _ _ ⟨.bl (g i j),H,I,rfl,q⟩
def qg(i j:Int):Prop:=0<=j/\j<=1000000/\i.natAbs<2 ^ 64
theorem G9:BA X (binaryOp .Add) (Fd λi j=>.int (i+j)):=bL λ_ _ _ _ _ _ _ q=>add_int q
theorem aZ:BA X (binaryOp .Sub) (Fd λi j=>.int (i - j)):=bL λ_ _ _ _ _ _ _ q=>sub_int q
theorem Iq:BA X (binaryOp .Mod) (rI (λ_ j=>0<j) λi j=>.int (i % j)):=Pl λi j _ _ _ _ _ a q=>by
 have h1:(0:Int)<j:=a;exact mod_int' (by omega) (by rw[Int.fmod_eq_emod_of_nonneg i (by omega)];exact q)
theorem KU:BA X (binaryOp .Pow) (rI qg λi j=>.int (i ^ j.toNat)):=Pl λ_ _ _ _ _ _ _ a q=>pow_int_small a.1 a.2.1 a.2.2 q
theorem gX{f:Value->Sem Value}{g:Int->Int}
  (rule:∀(i:Int)(t:Tok)(s:Shared)(Q:Value->Shared->Prop)(E:Value->Shared->Prop),Q (.int (g i) s.toks) { s with toks:=s.toks+1 }->wpAny (model X.prog X.w) X.A (f (.int i t)) Q E s) :
  P9 X f (rU λi=>.int (g i)):=by
 intro Zj s Z H x v Q I a h;obtain⟨i,rfl,q⟩:=h;obtain⟨t,rfl⟩:=a;exact rule i t s _ _ ⟨.int (g i),H,I.tok _,⟨_,rfl⟩,q⟩
theorem TH:P9 X (unaryOp .USub) (rU λi=>.int (-i)):=gX λ_ _ _ _ _ q=>neg_int q
end
noncomputable def TV:V->V->Bool
 | .A7,.A7=>true | .A7,.int _=>true | .int _,.A7=>true | .A7,.bl _=>true | .bl _,.A7=>true | .A7,.str _=>true | .str _,.A7=>true
 | .int _,.int _=>true | .bl _,.bl _=>true | .str _,.str _=>true | .Fo _,.Fo _=>true
 | .int _,.str _=>true | .str _,.int _=>true | .bl _,.str _=>true | .str _,.bl _=>true
 |_,_=>false
def WE:R2:=λx y H Q=>TV x y=true/\Q (.bl (decide (x=y))) H
def ba:R2:=λx y H Q=>TV x y=true/\Q (.bl (!decide (x=y))) H
theorem Zw{i j:Int}:decide (V.int i=V.int j)=(i == j):=by
 rw[Hk];simp
theorem dF{i j:Bool}:decide (V.bl i=V.bl j)=(i == j):=by
 rw[Hk];simp
theorem ZA{i j:Str}:decide (V.str i=V.str j)=(i == j):=by
 rw[Hk];simp
theorem bz{i j:Array UInt8}:decide (V.Fo i=V.Fo j)=(i.toList == j.toList):=by
 rw[Hk];cases i;cases j;simp
section
variable{a b c:Expr}
theorem Bm{Q:VK}{k k':Bool}(I:Inv X Zj Z H s)(q:Q (.bl k) H)(e:k=k'):EP X Zj Z Q (.bool k') s:=by
 subst e;exact⟨.bl k,H,I,rfl,q⟩
theorem GR:BA X (compareOp .Eq) WE:=by
 intro Zj s Z H x y v u Q I c a h;obtain⟨b,q⟩:=h;cases x with
 |A7=>
  cases c;cases y with
  |A7=>cases a;exact PySem.EqNone.eq_none_none (Bm I q (by simp))
  |bl j=>cases a;exact PySem.EqNone.eq_none_bool (Bm I q (by simp))
  |int j=>obtain⟨t',rfl⟩:=a;exact PySem.EqNone.eq_none_int (Bm I q (by simp))
  |str j=>obtain⟨t',rfl⟩:=a;exact PySem.EqNone.eq_none_str (Bm I q (by simp))
  |_=>exact absurd (show false=true from b) Co
 |bl i=>
  cases c;cases y with
  |A7=>cases a;exact PySem.EqNone.eq_bool_none (Bm I q (by simp))
  |bl j=>cases a;exact eq_bool (Bm I q dF)
  |str j=>obtain⟨t',rfl⟩:=a;exact PySem.EqMixed.eq_bool_str (Bm I q (by simp))
  |_=>exact absurd (show false=true from b) Co
 |int i=>
  obtain⟨t,rfl⟩:=c;cases y with
  |A7=>cases a;exact PySem.EqNone.eq_int_none (Bm I q (by simp))
  |int j=>obtain⟨t',rfl⟩:=a;exact eq_int (Bm I q Zw)
  |str j=>obtain⟨t',rfl⟩:=a;exact PySem.EqMixed.eq_int_str (Bm I q (by simp))
  |_=>exact absurd (show false=true from b) Co
 |str i=>
  obtain⟨t,rfl⟩:=c;cases y with
  |A7=>cases a;exact PySem.EqNone.eq_str_none (Bm I q (by simp))
  |bl j=>cases a;exact PySem.EqMixed.eq_str_bool (Bm I q (by simp))
  |int j=>obtain⟨t',rfl⟩:=a;exact PySem.EqMixed.eq_str_int (Bm I q (by simp))
  |str j=>obtain⟨t',rfl⟩:=a;exact eq_str (Bm I q ZA)
  |_=>exact absurd (show false=true from b) Co
 |Fo i=>
  obtain⟨t,rfl⟩:=c;cases y with
  |Fo j=>obtain⟨t',rfl⟩:=a;exact PySem.W.eq_bytes (Bm I q bz)
  |_=>exact absurd (show false=true from b) Co
 |_=>cases y <;> exact absurd (show false=true from b) Co
theorem RH:BA X (compareOp .NotEq) ba:=by
 intro Zj s Z H x y v u Q I c a h;obtain⟨b,q⟩:=h;cases x with
 |A7=>
  cases c;cases y with
  |A7=>cases a;exact PySem.EqNone.ne_none_none (Bm I q (by simp))
  |bl j=>cases a;exact PySem.EqNone.ne_none_bool (Bm I q (by simp))
  |int j=>obtain⟨t',rfl⟩:=a;exact PySem.EqNone.ne_none_int (Bm I q (by simp))
  |str j=>obtain⟨t',rfl⟩:=a;exact PySem.EqNone.ne_none_str (Bm I q (by simp))
  |_=>exact absurd (show false=true from b) Co
 |bl i=>
  cases c;cases y with
  |A7=>cases a;exact PySem.EqNone.ne_bool_none (Bm I q (by simp))
  |bl j=>cases a;exact ne_bool (Bm I q (iI not dF))
  |str j=>obtain⟨t',rfl⟩:=a;exact PySem.EqMixed.ne_bool_str (Bm I q (by simp))
  |_=>exact absurd (show false=true from b) Co
 |int i=>
  obtain⟨t,rfl⟩:=c;cases y with
  |A7=>cases a;exact PySem.EqNone.ne_int_none (Bm I q (by simp))
  |int j=>obtain⟨t',rfl⟩:=a;exact ne_int (Bm I q (iI not Zw))
  |str j=>obtain⟨t',rfl⟩:=a;exact PySem.EqMixed.ne_int_str (Bm I q (by simp))
  |_=>exact absurd (show false=true from b) Co
 |str i=>
  obtain⟨t,rfl⟩:=c;cases y with
  |A7=>cases a;exact PySem.EqNone.ne_str_none (Bm I q (by simp))
  |bl j=>cases a;exact PySem.EqMixed.ne_str_bool (Bm I q (by simp))
  |int j=>obtain⟨t',rfl⟩:=a;exact PySem.EqMixed.ne_str_int (Bm I q (by simp))
  |str j=>obtain⟨t',rfl⟩:=a;exact ne_str (Bm I q (iI not ZA))
  |_=>exact absurd (show false=true from b) Co
 |Fo i=>
  obtain⟨t,rfl⟩:=c;cases y with
  |Fo j=>obtain⟨t',rfl⟩:=a;exact PySem.W.ne_bytes (Bm I q (iI not bz))
  |_=>exact absurd (show false=true from b) Co
 |_=>cases y <;> exact absurd (show false=true from b) Co
theorem O9:BA X (compareOp .Lt) (Fd λi j=>.bl (decide (i<j))):=PL λ_ _ _ _ _ _ _ q=>lt_int q
theorem PH:BA X (compareOp .LtE) (Fd λi j=>.bl (decide (i<=j))):=PL λ_ _ _ _ _ _ _ q=>le_int q
theorem MS:BA X (compareOp .Gt) (Fd λi j=>.bl (decide (j<i))):=PL λ_ _ _ _ _ _ _ q=>gt_int q
theorem pR:BA X (compareOp .GtE) (Fd λi j=>.bl (decide (j<=i))):=PL λ_ _ _ _ _ _ _ q=>ge_int q
theorem oQ:BA X (compareOp .Is) (λx y H Q=>y=.A7/\Q (.bl (decide (x=.A7))) H):=by
 intro Zj s Z H x y v u Q I a b h;obtain⟨rfl,q⟩:=h;cases b;refine is_none_gen (Bm I q ?_);cases x <;> first
  | (cases a;rfl)
  | (obtain⟨t,rfl⟩:=a;rfl)
theorem jL:BA X (compareOp .IsNot) (λx y H Q=>y=.A7/\Q (.bl (!decide (x=.A7))) H):=by
 intro Zj s Z H x y v u Q I a b h;obtain⟨rfl,q⟩:=h;cases b;refine isnot_none_gen (Bm I q ?_);cases x <;> first
  | (cases a;rfl)
  | (obtain⟨t,rfl⟩:=a;rfl)
theorem ZM(b:Expr)(h:op≠.In:=by decide)(h2:op≠.NotIn:=by decide):behindInMarks op b=false:=by
 have e1:(op == CmpOp.In)=false:=by cases op <;> first|rfl|exact absurd rfl h
 have a:(op == CmpOp.NotIn)=false:=by cases op <;> first|rfl|exact absurd rfl h2
 cases b <;> simp[behindInMarks,e1,a]
def M1(t:TE):TT:=λZ H Q=>t Z H λx H'=>∃k,x=.bl k/\Q k H'
theorem nc{r:R2}(ho:BA X (compareOp op) r)(o:PE X a ta)(n:PE X b tb)(m:behindInMarks op b=false):PT X (.Compare a [op] [b] pos) (M1 (BF r ta tb)):=by
 intro Zj s Z H Q I h;refine wpAny_isTrue_Compare1 (o.k I h λv s1 x H1 I1 g l=>n.k I1 l λu s2 y H2 I2 f j=>
  Aq (ho Zj s2 Z H2 x y v u _ I2 g f j) λc p⟨z,H3,I3,d,k,e,i⟩=>?_) m
 subst e;cases d;exact lZ ⟨H3,I3,i⟩
def TQ(r b:R2)(ta tb tc:TE):TE:=λZ H Q=>ta Z H λx H1=>tb Z H1 λy H2=>r x y H2 λz H3=>∃k,z=.bl k/\
 (if k=true then tc Z H3 λa H4=>b y a H4 Q else Q (.bl false) H3)
theorem KC:(sizeLine:Nat)<2 ^ 63:=by rw[rh];decide
theorem Xg:BA X (binaryOp .Add) (λx y H Q=>∃i j,x=.str i/\y=.str j/\i.length+j.length<=sizeLine/\Q (.str (i++j)) H):=by
 intro Zj s Z H x y v u Q I b a h;obtain⟨i,j,rfl,rfl,c,q⟩:=h;obtain⟨t,rfl⟩:=b;obtain⟨t',rfl⟩:=a;exact add_str (λt' tk=>⟨.str (i++j),H,I.tok _,⟨_,rfl⟩,q⟩) c
theorem vals1{x:V}(r:Vals [x] us):∃u,us=[u]/\RelV x u:=by
 cases r with
 |cons b a=>cases a;exact⟨_,rfl,b⟩
theorem vals2{x y:V}(r:Vals [x,y] us):∃u a,us=[u,a]/\RelV x u/\RelV y a:=by
 cases r with
 |cons e d=>
  cases d with
  |cons c b=>cases b;exact⟨_,_,rfl,e,c⟩
theorem vi(b:X.calm=true):Bw X (.builtin "max") (λxs H Q=>∃i j,xs=[.int i,.int j]/\Q (.int (if j > i then j else i)) H):=by
 intro Zj s Z H xs us Q I r h;obtain⟨i,j,rfl,q⟩:=h;obtain⟨u,c,rfl,⟨t,rfl⟩,⟨t',rfl⟩⟩:=vals2 r;refine max_two_ints (I.ok.hd b) λh' tk k=>⟨_,H,I.kept k,?_,q⟩
 by_cases a:j > i
 .rw[eM a,eM a];exact⟨_,rfl⟩
 .rw[eJ a,eJ a];exact⟨_,rfl⟩
theorem uU(b:X.calm=true):Bw X (.builtin "min") (λxs H Q=>∃i j,xs=[.int i,.int j]/\Q (.int (if j<i then j else i)) H):=by
 intro Zj s Z H xs us Q I r h;obtain⟨i,j,rfl,q⟩:=h;obtain⟨u,c,rfl,⟨t,rfl⟩,⟨t',rfl⟩⟩:=vals2 r;refine min_two_ints (I.ok.hd b) λh' tk k=>⟨_,H,I.kept k,?_,q⟩
 by_cases a:j<i
 .rw[eM a,eM a];exact⟨_,rfl⟩
 .rw[eJ a,eJ a];exact⟨_,rfl⟩
end
structure Su (h:Heap) (x dx C:Addr) (mA:zw):Prop where
 obj:h.get? x=some (PySem.W.instObj C dx)
 ns:h.Ns1 dx mA
 ne:dx≠x
theorem j7{h:Heap}(n:h.Ns1 dx mA):∃b,h.get? dx=some b/\∀name,PySem.W.lookIn name b=some (mA name):=by
 obtain⟨o,es,ep,ho,hd,hk,_,d⟩:=n;refine⟨o,ho,λname=>?_⟩;have e:=d name;unfold nsFind findBy at e;rw[<- Array.find?_toList]at e;unfold PySem.W.lookIn;rw[hd];dsimp only;split
 .rename_i y q;rw[q]at e;exact iI some e
 .rename_i q;rw[q]at e;have a:es.toList.any (·.refKey)=false:=by
   rw[List.any_eq_false];intro y c;obtain⟨z,t,Fy⟩:=hk y (Array.mem_toList_iff.mp c);simp[DictEntry.refKey,Fy]
  have f:¬ es.toList.any (·.refKey)=true:=by rw[a];exact Co
  rw[eJ f];exact iI some e
theorem Su.look{h:Heap}{x:Addr}(I:Su h x dx C mA):∃a,PySem.W.InstAt h x (PySem.W.instObj C dx) C (some a)/\∀name,PySem.W.lookIn name a=some (mA name):=
 let ⟨a,ho,hl⟩:=j7 I.ns
 ⟨a,⟨I.obj,rfl,rfl,ho⟩,hl⟩
theorem Fx.some_of{o:Option Value}(r:Fx (some v) o):∃u,o=some u/\RelV v u:=by
 cases o with
 |none=>exact(show False from r).elim
 |some u=>exact⟨u,rfl,r⟩
section
variable{P:Program}{h:Heap}{fs tV:List (Str×V)}
theorem gS(AA:Bt P w H h)(e:H a=some (.ins C dx fs)):∃mA,Su h a dx C mA/\(∀f,Fx (fs.lookup f) (mA f))/\PySem.Within mA (fs.map (·.1))/\fs.length<=1000/\H dx=some (.own a):=by
 obtain⟨d,z,ne,b,mA,n,r,q⟩:=(show Bi P w H h a (.ins C dx fs)from AA a _ e);exact⟨mA,⟨b,n,ne⟩,r,q,z,d⟩
end
structure RJ (K:zu) (C:Addr):Prop where
 pg:PySem.W.plainGet K C Str.empty=true
 hd:PySem.W.hasDictIn K C=true
 po:PySem.W.plainOver K C=true
 sa:PySem.W.findIn K (.ref C) "__setattr__"=some (some (.builtin "object.__setattr__"))
theorem RJ.get{K:zu}{C:Addr}(c:RJ K C)(f:Str):PySem.W.plainGet K C f=true:=c.pg
section
variable{fs:List (Str×V)}{f:Str}
variable{o value:Expr}{pos' RM:Pos}{tv:TE}
variable{b:Bool}
inductive E6 (K:zu) (H:Hp):V->Value->Prop where
 |A7:E6 K H .A7 (.type "NoneType")
 |bl (x:Bool):E6 K H (.bl x) (.type "bool")
 |int (i:Int):E6 K H (.int i) (.type "int")
 |str (x:Str):E6 K H (.str x) (.type "str")
 |LC (x:UInt64):E6 K H (.LC x) (.type "float")
 |lst {a:Addr}{xs:List V}(e:H a=some (.lst xs)):E6 K H (.ref a) (.type "list")
 |Ea {a:Addr}{o:Obj}{xs:List V}(e:H a=some (.Ea o (.lst xs))):E6 K H (.ref a) (.type "list")
 |tup {a:Addr}{xs:List V}(e:H a=some (.tup xs)):E6 K H (.ref a) (.type "tuple")
 |dK {a:Addr}{A9:List (Key×V)}(e:H a=some (.dK A9)):E6 K H (.ref a) (.type "dict")
 |dT {a:Addr}{A9:List (List Key×V)}(e:H a=some (.dT A9)):E6 K H (.ref a) (.type "dict")
 |ins {a C dx:Addr}{fs:List (Str×V)}(e:H a=some (.ins C dx fs)) (cl:RJ K C) (ha:PySem.W.findIn K (.ref C) "__class__"=some (some (.builtin "object.__class__")))
   (hn:PySem.W.specialIn K (.builtin "object.__class__") "__get__"=some (some (.builtin "getset_descriptor.__get__"))) (Ee:PySem.W.takesIn K (.builtin "object.__class__")=some true)
   (hm:PySem.W.mroIn K C (.type "object")=some true):E6 K H (.ref a) (.ref C)
theorem uW{x:V}{t:Value}(I:Inv X Zj Z H s)(d:RelV x u)(ty:E6 X.K H x t)(e:PySem.W.kitOne X.K t c=some b)(h:∀tk,Q (.bool b) { s with toks:=tk }):
  wpAny (model X.prog X.w) A (call (.builtin "isinstance") [u,c]) Q E s:=by
 cases ty with
 |A7=>cases(show u=Value.none from d);exact Gq PySem.W.kitx_none I.Dd True.intro e (λz=>nomatch z) h
 |bl y=>cases(show u=Value.bool y from d);exact Gq PySem.W.kitx_bool I.Dd True.intro e (λz=>nomatch z) h
 |int i=>obtain⟨t,q⟩:=(show ∃t,u=Value.int i t from d);cases q;exact Gq PySem.W.kitx_int I.Dd True.intro e (λz=>nomatch z) h
 |str y=>obtain⟨t,q⟩:=(show ∃t,u=Value.str y t from d);cases q;exact Gq PySem.W.kitx_str I.Dd True.intro e (λz=>nomatch z) h
 |LC y=>obtain⟨t,q⟩:=(show ∃t,u=Value.float y t from d);cases q;exact Gq PySem.W.kitx_float I.Dd True.intro e (λz=>nomatch z) h
 |@lst a xs ea=>
  cases(show u=Value.ref a from d);obtain⟨_,_,n,_,h1⟩:=(show Bi X.prog X.w H s.heap a (.lst xs)from I.AA a _ ea);exact Gq yz I.Dd ⟨_,h1,rfl⟩ e (λz=>nomatch z) h
 |@Ea a f xs ea=>
  cases(show u=Value.ref a from d);obtain⟨_,_,_,n,_,h1⟩:=(show Bi X.prog X.w H s.heap a (.Ea f (.lst xs))from I.AA a _ ea);exact Gq yz I.Dd ⟨_,h1,rfl⟩ e (λz=>nomatch z) h
 |@tup a xs ea=>
  cases(show u=Value.ref a from d);obtain⟨_,_,_,p⟩:=(show Bi X.prog X.w H s.heap a (.tup xs)from I.AA a _ ea);obtain⟨o,h1,h2,_⟩:=p.1;exact Gq PySem.W.kitx_tuple I.Dd ⟨o,h1,h2⟩ e (λz=>nomatch z) h
 |@dK a A9 ea=>
  cases(show u=Value.ref a from d);obtain⟨_,_,vs,_,p⟩:=(show Bi X.prog X.w H s.heap a (.dK A9)from I.AA a _ ea);obtain⟨o,es,ep,h1,h2,_⟩:=p;exact Gq yy I.Dd ⟨o,h1,h2.1⟩ e (λz=>nomatch z) h
 |@dT a A9 ea=>
  cases(show u=Value.ref a from d);obtain⟨_,_,xs,_,o,es,ep,h1,h2,_⟩:=(show Bi X.prog X.w H s.heap a (.dT A9)from I.AA a _ ea);exact Gq yy I.Dd ⟨o,h1,h2.1⟩ e (λz=>nomatch z) h
 |@ins a C dx fs ea cl k g Ee j=>
  cases(show u=Value.ref a from d);obtain⟨mA,O,_⟩:=gS I.AA ea;obtain⟨l,J,_⟩:=O.look;exact Gq (PySem.W.kitx_own (cl.get _) cl.hd k g Ee j) I.Dd J e (λz=>nomatch z) h
end
structure Bc (k:Nat) (A:Around):Prop where
 hd:A.handled=none
 dp:A.depth+3 * k+5<recursionLimit
 un:A.units+16 * k+200<cLine
theorem Bc.mono{k:Nat}(r:Bc k A)(h:j<=k):Bc j A:=⟨r.hd,by have:=r.dp;omega,by have:=r.un;omega⟩
theorem Bc.deeper{k:Nat}(r:Bc (k+1) A)(env:Env):Bc k (A.deeper env):=
 ⟨r.hd,by have:=r.dp;show A.depth+1+3 * k+5<_;omega,by have:=r.un;show A.units+3+16 * k+200<_;omega⟩
theorem Bc.in1{k:Nat}(r:Bc (k+1) A):Bc k A.in1:=
 ⟨r.hd,by have:=r.dp;show A.depth+3 * k+5<_;omega,by have:=r.un;show A.units+1+16 * k+200<_;omega⟩
theorem Bc.depth{k:Nat}(r:Bc k A):A.depth<recursionLimit:=by have:=r.dp;omega
theorem Bc.units{k:Nat}(r:Bc k A):A.units+64<cLine:=by have:=r.un;omega
theorem Bc.GG{k:Nat}(r:Bc k A):A.units<cLine:=by have:=r.un;omega
def BV:TA:=λ_ H Q=>Q [] H
def Ah(ta:TE)(tr:TA):TA:=λZ H Q=>ta Z H λx H1=>tr Z H1 λxs H2=>Q (x::xs) H2
theorem fw(i:PE X e te)(g:PA X es t)(f:EW X e es:=by rfl):PA X (e::es) (Ah te t):=by
 intro pos Zj s Z H Q I h;rw[f];show wpAny _ _ (spliced ((false,eval e X.env)::backTo pos (starEach es X.env))) _ _ s;refine Calls.spliced_cons (i.k I h λu s1 x H1 I1 b d=>?_);exact Aq (g pos Zj s1 Z H1 _ I1 d) λus s2 AU=>by obtain⟨xs,H2,I2,a,c⟩:=AU;exact⟨x::xs,H2,I2,.cons b a,c⟩
def S9(t:TA):TE:=λZ H Q=>t Z H λxs H1=>xs.length<=sizeLine/\∀p,H1 p=none->Q (.ref p) (upd H1 p (.tup xs))
def Rz(t:TA):TE:=λZ H Q=>t Z H λxs H1=>xs.length<=sizeLine/\∀p,H1 p=none->Q (.ref p) (upd H1 p (.lst xs))
theorem xB{x1}(h:PA X es t):PE X (.Tuple es x1 pos) (S9 t):=by
 intro Zj s Z H Q I c;refine wpAny_Tuple_spliced (h.k pos I c λus s1 xs H1 I1 r⟨z,q⟩=>⟨by rw[<- r.length];exact z,?_⟩);have d:H1 s1.heap.objs.size=none:=I1.AA.fresh (AW _);refine⟨.ref s1.heap.objs.size,upd H1 s1.heap.objs.size (.tup xs),I1.laid (t':=s1.toks) (λb u e=>Af _ e) (AW _) ?_,rfl,q _ d⟩;exact⟨z,us,r,⟨_,Ay _ rfl,rfl,_,rfl⟩,λU9 a=>by rw[Ay _ rfl]at a;cases a;rfl⟩
theorem vx(h:PA X es t):PE X (.List es pos) (Rz t):=by
 intro Zj s Z H Q I a;refine wpAny_List_spliced (h.k pos I a λus s1 xs H1 I1 r⟨z,q⟩=>⟨by rw[<- r.length];exact z,?_⟩);have c:H1 s1.heap.objs.size=none:=I1.AA.fresh (AW _);refine⟨.ref s1.heap.objs.size,upd H1 s1.heap.objs.size (.lst xs),I1.laid (t':=s1.toks) (λb u e=>Af _ e) (AW _) ?_,rfl,q _ c⟩;exact⟨z,us,0,r,Ay _ rfl⟩
abbrev Sp:=List V->Hp->VK->XK->Prop
abbrev Fc:=List Env->Hp->Shared->XK->Value->Shared->Prop
variable{CX:Fc}
structure HJ (P:Program) (w:World) (K:zu) (mg:zw) (Zu:Heap) (A:Around) (outer:List Env) (s:Shared) (H:Hp):Prop where
 frames:A.frames=some outer
 mod:Mod K mg Zu
 bs:∀b o,Zu.get? b=some o->s.heap.get? b=some o/\H b=none
 GZ:Zu.objs.size<=s.heap.objs.size
 FA:s.heap.FunFrames Zu outer
 Ht:∀b∈Fl outer,H b=none
 AA:Bt P w H s.heap
 bare:AllBare s.gens
def CE(outer:List Env)(P:Program)(w:World)(H:Hp)(s:Shared)(Q:VK)(u:Value)(s':Shared):Prop:=
 ∃v H',s'.os=s.os/\AllBare s'.gens/\Un (Fl outer) [] H H' s.heap s'.heap/\Bt P w H' s'.heap/\RelV v u/\Q v H'
def CR(CX:Fc)(outer:List Env)(P:Program)(w:World)(H:Hp)(s:Shared)(Q:VK)(E:XK)(r:Result)(s':Shared):Prop:=
 match r with
 | .ok (.ret u)=>CE outer P w H s Q u s'
 | .ok _=>False
 | .error e=>CX outer H s E e s'
structure DT (P:Program) (w:World) (K:zu) (mg:zw) (Zu:Heap) (CX:Fc) (k:Nat) (f:Addr) (fd:FuncData) (ps:List Str) (sp:Sp):Prop where
 len:∀vs H Q E,sp vs H Q E->vs.length=ps.length
 run:∀(A:Around)(outer:List Env)(s:Shared)(H:Hp)(args:Args)(us:List Value)(vs:List V)(Q:VK)(E:XK),Bc k A->HJ P w K mg Zu A outer s H->BindsTo s fd args (ps.zip us)->Vals vs us->sp vs H Q E->
  codeAny (model P w) A (.call (.ref f) args) (CR CX outer P w H s Q E) s
theorem DT.mono{P:Program}{K:zu}{k:Nat}{f:Addr}{sp:Sp}(F:DT P w K mg Zu CX j f fd ps sp)(h:j<=k):
  DT P w K mg Zu CX k f fd ps sp:=⟨F.len,λA outer s H args us vs Q E a=>F.run A outer s H args us vs Q E (a.mono h)⟩
theorem HJ.in1{P:Program}{K:zu}(e:HJ P w K mg Zu A outer s H):
  HJ P w K mg Zu A.in1 outer s H:=⟨e.frames,e.mod,e.bs,e.GZ,e.FA,e.Ht,e.AA,e.bare⟩
theorem Inv.bJ(I:Inv X Zj Z H s):HJ X.prog X.w X.K X.mg X.base X.A X.stack s H:=
 ⟨I.ok.frames,I.ok.mod,I.bs,CC I.ok.GZ I.sz,I.stack,I.YS,I.AA,I.bare⟩
theorem Inv.after{Q:VK}(I:Inv X Zj Z H s)(h:CE X.stack X.prog X.w H s Q u s'):EP X Zj Z Q u s':=by
 obtain⟨v,H',os,bare,un,AA,r,q⟩:=h;obtain⟨hh,g,d,t,M7⟩:=s';obtain rfl:M7=s.os:=os;exact⟨v,H',I.call (h':=hh) (g':=g) (d':=d) (t':=t) (ch:=[]) un AA bare (λb z=>absurd z (by simp)),r,q⟩
def Dy(sp:Sp)(Ik:List V)(E:XK)(t:TA):TE:=λZ H Q=>t Z H λvs H1=>sp (vs++Ik) H1 Q E
def Binds(K:zu)(fd:FuncData)(ps:List Str)(ds:List Value):Prop:=
 ∀(s:Shared)(us:List Value),K.In s.heap->(us++ds).length=ps.length->BindsTo s fd ⟨us,[]⟩ (ps.zip (us++ds))
theorem Binds.all{K:zu}(h:∀us:List Value,us.length=ps.length->bindArgs fd ⟨us,[]⟩=pure (ps.zip us)):Binds K fd ps []:=λs us _ a=>by
 rw[Ef]at a ⊢;exact .of_eq (h us a)
def Passes(CX:Fc)(X:Cx)(E:XK):Prop:=∀(Zj:zv)(Z:St)(H:Hp)(s:Shared)(e:Value)(s':Shared),Inv X Zj Z H s->CX X.stack H s E e s'->X.xe e s'
section
variable{k:Nat}{f:Addr}{sp:Sp}{E:XK}{m:Str}{p apos:Pos}{o:Expr}
theorem vb{Q:VK}(F:DT X.prog X.w X.K X.mg X.base CX k f fd ps sp)(c:Bc k X.A)(g:Binds X.K fd ps ds)(hd:Vals Ik ds)(hx:Passes CX X E)
  (I:Inv X Zj Z H s) (r:Vals vs us) (h:sp (vs++Ik) H Q E):wpAny (model X.prog X.w) X.A (call (.ref f) us) (EP X Zj Z Q) X.xe s:=by
 have b:Vals (vs++Ik) (us++ds):=r.append hd;have d:(us++ds).length=ps.length:=by rw[<- b.length];exact F.len _ _ _ _ h
 refine wpAny_call (pE (F.run X.A X.stack s H ⟨us,[]⟩ (us++ds) (vs++Ik) Q E c I.bJ (g s us I.Dd d) b h) λr s' a=>?_);cases r with
 |error e=>exact hx Zj Z H s e s' I a
 |ok i=>
  cases i with
  |ret u=>exact I.after a
  |next=>exact False.elim a
  |brk=>exact False.elim a
  |cont=>exact False.elim a
theorem fO(F:DT X.prog X.w X.K X.mg X.base CX k f fd ps sp)(a:Bc k X.A)(c:Gl X x)(b:X.mg x=some (.ref f))(hk:PySem.W.keepIn X.K (.ref f)=true)(d:Binds X.K fd ps ds)(hd:Vals Ik ds)(hx:Passes CX X E)
  (g:PA X (e::es) t) (DG:(x == ("__debug__":Str))=false:=by decide) (he:EW X e es:=by rfl) (B0:BEq X pos es:=by rfl) :
  PE X (.Call (.Name x p) (e::es) [] pos) (Dy sp Ik E t):=by
 intro Zj s Z H Q I h;refine o7 (Zv I c b ?_ DG);refine PySem.W.callWith_K (h₀:=X.base) I.ok.mod.HB hk (g.k pos I h λus s1 vs H1 I1 r q=>⟨I1.Dd,?_⟩) he B0;exact vb F a d hd hx I1 r q
variable{z5:List Keyword}{tk:TA}{nm:Option Str}{g:List Value->List Value->List Value}{gV:List V->List V->List V}
end
structure BJ (N P:List Str) (sc:Scope):Prop where
 kind:sc.kind=.function
 co:sc.isCoroutine=false
 gen:sc.isGenerator=false
 nd:N.Nodup
 pre:N.take P.length=P
 par:∀x∈P,sc.names.lookup x=some .local∨sc.names.lookup x=some .cell
 kW:∀y∈sc.names,y.2≠.free
theorem aM{a:Str->Option NameKind}{x:Str}:∀{binds:List (Str×Value)}{m:zw},(∀v,(x,v)∉binds)->bindL a binds m x=m x
 | [],_,_=>rfl
 | (n,v)::r,m,h=>by
  unfold bindL;rw[aM λw hw=>h w (Au _ hw)];split
  .have:x≠n:=by rintro rfl;exact h v Ae
   simp[this]
  .rfl
theorem Yf{a:Str->Option NameKind}{x:Str}:∀{binds:List (Str×Value)}{m:zw},(∀v,(x,v)∉binds)->bindC a binds m x=m x
 | [],_,_=>rfl
 | (n,v)::r,m,h=>by
  unfold bindC;rw[Yf λw hw=>h w (Au _ hw)];split
  .rfl
  .have:x≠n:=by rintro rfl;exact h v Ae
   simp[this]
theorem cb{a:Str->Option NameKind}{x:Str}{v:Value}:∀{P:List Str}{vs:List Value}{i:Nat}{m:zw},P.Nodup->P[i]?=some x->vs[i]?=some v->a x=some .local->
  bindL a (P.zip vs) m x=some v
 | [],_,_,_,_,h,_,_=>by simp at h
 |_::_,[],_,_,_,_,h,_=>by simp at h
 |p::P,w::vs,0,m,nd,h1,h2,hk=>by
  simp at h1 h2;subst h1;subst h2;show bindL a ((p,w)::P.zip vs) m p=_;unfold bindL;rw[aM λv b=>(List.nodup_cons.mp nd).1 (dq b).1,eM hk];simp
 |p::P,w::vs,i+1,m,nd,h1,h2,hk=>by
  show bindL a ((p,w)::P.zip vs) m x=_;unfold bindL;exact cb (i:=i) (List.nodup_cons.mp nd).2 (by simpa using h1) (by simpa using h2) hk
theorem X2{a:Str->Option NameKind}{x:Str}{v:Value}:∀{P:List Str}{vs:List Value}{i:Nat}{m:zw},P.Nodup->P[i]?=some x->vs[i]?=some v->a x≠some .local->
  bindC a (P.zip vs) m x=some v
 | [],_,_,_,_,h,_,_=>by simp at h
 |_::_,[],_,_,_,_,h,_=>by simp at h
 |p::P,w::vs,0,m,nd,h1,h2,hk=>by
  simp at h1 h2;subst h1;subst h2;show bindC a ((p,w)::P.zip vs) m p=_;unfold bindC;rw[Yf λv b=>(List.nodup_cons.mp nd).1 (dq b).1,eJ hk];simp
 |p::P,w::vs,i+1,m,nd,h1,h2,hk=>by
  show bindC a ((p,w)::P.zip vs) m x=_;unfold bindC;exact X2 (i:=i) (List.nodup_cons.mp nd).2 (by simpa using h1) (by simpa using h2) hk
noncomputable def start(N:List Str)(vs:List V):St:=vs.map some++List.replicate (N.length - vs.length) none
noncomputable def FO(CX:Fc)(P:Program)(w:World)(K:zu)(mg:zw)(Zu:Heap)(N:List Str)(qual:Str)(scope:Scope)(f:Addr)(cd:Value)(A:Around)(outer:List Env)(s:Shared)(H:Hp)(E:XK):Cx where
 prog:=P
 w:=w
 K:=K
 mg:=mg
 base:=Zu
 A:=A.deeper (envOfC qual scope s.heap.objs.size f cd)
 N:=N
 s₀:=s
 H₀:=H
 env:=envOfC qual scope s.heap.objs.size f cd
 outer:=outer
 stack:=envOfC qual scope s.heap.objs.size f cd::outer
 ex:=[]
 calm:=true
 fn:=λ_=>true
 pn:=[]
 xe:=λe s'=>wpAny (model P w) (A.deeper (envOfC qual scope s.heap.objs.size f cd)) (leaving (envOfC qual scope s.heap.objs.size f cd) e) (λ_ HL=>CX outer H s E e HL) (λa HL=>CX outer H s E a HL) s'
theorem cY(h:sc.names.lookup x=some .cell):∃c,(cellsFrom n sc.names []).lookup x=some c:=by
 have q:=yw sc.names n [] (.inl h);exact Option.isSome_iff_exists.mp q
theorem kr{P:Program}{K:zu}{f:Addr}{s1:Shared}{E:XK}
  (S:BJ N ps scope) (hd:A.handled=none) (e0:HJ P w K mg Zu A outer s H) (B:vs.length=ps.length) (r:Vals vs us)
  (x:InCallC s s.heap.objs.size (bindL (envOfC qual scope s.heap.objs.size f cd).kindOf (ps.zip us) λ_=>none) (cellsFrom (s.heap.objs.size+1) scope.names []) (bindC (envOfC qual scope s.heap.objs.size f cd).kindOf (ps.zip us) λ_=>none) s1) :
  Inv (FO CX P w K mg Zu N qual scope f cd A outer s H E) [] (start N vs) H s1:=by
 have D:ps.length<=N.length:=by have:=iI List.length S.pre;rw[Fi]at this;omega
 obtain⟨h1,tk,rfl,hk⟩:=x.done;have j:∀b:Addr,b∉(FO CX P w K mg Zu N qual scope f cd A outer s H E).ex:=λb z=>absurd (show b∈([]:List Addr)from z) (by simp);refine⟨⟨e0.mod,S.kind,rfl,rfl,AW _,λy z c h1 h2=>?_,λy d=>?_,λy c _ h=>?_,λ_=>hd,Around.frames_deeper e0.frames,.inr ⟨rfl,rfl⟩,λb z=>absurd z (j b),e0.bs,e0.GZ,λb _ _=>j b,λb z=>absurd z (j b),e0.FA,e0.Ht⟩,
  rfl,e0.bare,Un.kept hk,⟨_,x.toInCall.ns,λi y v h1 h2 C=>?_⟩,λy c h=>⟨_,x.cell y c h⟩,e0.AA.fresh (AW _),λy c h=>?_,λp g=>absurd (show p∈([]:zv)from g) (by simp),e0.AA.kept hk,?_⟩
 .exact name_of_addr x.apart (Gr h1) (Gr h2)
 .have d:scope.names.lookup y=some .cell∨scope.names.lookup y=some .free:=d;rcases d with d|d
  .exact cY d
  .exact absurd rfl (S.kW _ (Gr d))
 .exact FK (x.above y c (Gr h))
 .have hi:i<vs.length:=by
   unfold start at h2
   by_cases hi:i<vs.length
   .exact hi
   .rw[Eg (by simpa using hi)]at h2
    rw[da]at h2;split at h2 <;> cases h2
  have t:vs[i]?=some v:=by
   unfold start at h2;rw[D5 (by simpa using hi),AM]at h2
   cases e:vs[i]? with
   |none=>rw[e]at h2;cases h2
   |some a=>rw[e]at h2;cases h2;rfl
  obtain⟨u,l,o⟩:=r.get t;have g:ps[i]?=some y:=by
   rw[<- S.pre,List.getElem?_take_of_lt (by omega)];exact h1
  have m:ps.Nodup:=by rw[<- S.pre];exact S.nd.sublist (ya _ _)
  refine⟨u,o,?_⟩;rcases S.par y (BL g)with k|k
  .exact .inl ⟨k,cb m g l k⟩
  .obtain⟨c,e⟩:=cY (n:=s.heap.objs.size+1) k;refine .inr ⟨.inl k,c,e,?_⟩;have q:=x.cell y c e;rw[X2 m g l (by show scope.names.lookup y≠_;rw[k];decide)]at q;exact q
 .exact e0.AA.fresh (FK (x.above y c (Gr h)))
 .unfold start;show _=N.length;rw[BQ,AB,de];omega
theorem Y5{P:Program}{K:zu}{k:Nat}{f:Addr}{params:Arguments}{body:List Stmt}{j kV c i AZ ct B:Value}{l z:Option Addr}
  {E5:Array (Option Value)}{sp:Sp}(C:K.lookup f=some ⟨B,z,.func (PySem.W.fnOf name qual params body scope j kV c i l AZ ct),E5⟩) (E4:PySem.W.codeIn K AZ qual=true) (S:BJ N ps scope)
  (len:∀vs H Q E,sp vs H Q E->vs.length=ps.length)
  (HX:∀(A:Around)(outer:List Env)(s:Shared)(H:Hp)(vs:List V)(Q:VK)(E:XK),Bc k (A.deeper (envOfC qual scope s.heap.objs.size f AZ))->sp vs H Q E->
   ∃t,DR (FO CX P w K mg Zu N qual scope f AZ A outer s H E) body t/\t { nx:=λ_ H'=>Q .A7 H',rt:=Q } (start N vs) H) :
  DT P w K mg Zu CX (k+1) f (PySem.W.fnOf name qual params body scope j kV c i l AZ ct) ps sp:=by
 refine⟨len,λA outer s H args us vs Q E h e0 O r FC=>?_⟩;have L:=len _ _ _ _ FC;have m:K.In s.heap:=e0.mod.HB.keeps λb o e=>(e0.bs b o e).1;have g:s.heap.NoLimit:=e0.mod.nolimit.keeps λb o e=>(e0.bs b o e).1;have p:∀y∈ps.zip us,scope.names.lookup y.1=some .local∨(scope.names.lookup y.1=some .cell/\((cellsFrom (s.heap.objs.size+1) scope.names []).lookup y.1).isSome=true):=λ⟨n,v⟩D=>by
  rcases S.par n (dq D).1 with q|q
  .exact .inl q
  .exact .inr ⟨q,yw _ _ _ (.inl q)⟩
 refine codeAny_call_function h.depth (m _ _ C) rfl S.co S.gen rfl (PySem.W.codeRec_of m E4) (O _ _ _ _ ?_);refine wpAny_newFunctionEnv_cells S.kind p λenv M s1 x=>?_;subst M;refine⟨g.keeps x.toInCall.keep,codeAny_func ?_⟩;obtain⟨t,F,G⟩:=HX A outer s H vs Q E (h.deeper _) FC;have I:Inv (FO CX P w K mg Zu N qual scope f AZ A outer s H E) [] (start N vs) H s1:=kr S h.hd e0 L r x;refine i7 (F [] s1 (start N vs) H _ I G) (λR s' a=>?_) λe s' a=>a;have fin:∀{σ':St}{H':Hp}{v:V}{u:Value},Inv (FO CX P w K mg Zu N qual scope f AZ A outer s H E) [] σ' H' s'->RelV v u->Q v H'->CE outer P w H s Q u s':=
  λ{σ' H' v u}J d q=>⟨v,H',J.os,J.bare,J.base,J.AA,d,q⟩
 cases R with
 |ret u=>
  obtain⟨v,σ',H',J,d,q⟩:=a;exact fin J d q
 |next=>
  obtain⟨σ',H',J,q⟩:=a;exact fin (v:=V.A7) (u:=Value.none) J rfl q
 |brk=>
  obtain⟨_,_,_,q⟩:=a;exact False.elim q
 |cont=>
  obtain⟨_,_,_,q⟩:=a;exact False.elim q
section
variable{p:Pos}{id T:String}{r:List V->Hp->VK->Prop}
def CK(r:List V->Hp->VK->Prop)(t:TA):TE:=λZ H Q=>t Z H λvs H1=>r vs H1 Q
end
end L2
namespace HT
variable{E Q:Value->Shared->Prop}
section
open PySem.SeqAt
open PySem.AutoSeq1 (wpAny_loadPart')
open PySem.MeetsSeq PySem.MeetsSeq2 PySem.MeetsSeq3
end
section
variable{prog:Program}{w:World}{A:Around}{s:Shared}
theorem tf{t b:Addr}{vs ws:List Value}(h:IsTup s.heap t vs.toArray)(i:IsTup s.heap b ws.toArray)(f:vs≠[])
  (h1:ws=[]->Q (.ref t) s) (h2:ws≠[]->Q (.ref s.heap.objs.size) { s with heap:=s.heap.push { cls:=.type "tuple", data:=.seq (vs++ws).toArray } })
  (hsz:vs.length+ws.length<=sizeLine):wpAny (model prog w) A (binaryOp .Add (.ref t) (.ref b)) Q E s:=by
 obtain⟨⟨cls,dd,data,sl⟩,ho,g,n,hd⟩:=id h;obtain⟨⟨j,PJ,c,Ot⟩,D1,Jw,d,a⟩:=id i;simp only at g hd Jw a;subst g hd Jw a;have e:vs.toArray++ws.toArray=(vs++ws).toArray:=by simp
 by_cases hw:ws=[]
 .exact concat_meets ⟨_,ho,rfl⟩ ⟨_,D1,rfl⟩ ZAA seq_tuple_add eI eG (eF _ _)
   (tuple_addW1 t b vs.toArray ws.toArray n d dd PJ sl Ot (by simpa using f) (by simp[hw])) ⟨ho,D1,h1 hw⟩
 .refine concat_meets ⟨_,ho,rfl⟩ ⟨_,D1,rfl⟩ ZAA seq_tuple_add eI eG (eF _ _)
   (tuple_addW2 t b vs.toArray ws.toArray n d dd PJ sl Ot (by simpa using f) (by simpa using hw) (by rw[Bp,Bp];exact hsz)) ⟨ho,D1,?_⟩
  rw[e];exact h2 hw
noncomputable def zi(n d:Nat):Option Int->Nat
 |none=>d
 |some v=>if v<0 then(v+(n:Int)).toNat else min v.toNat n
end
end HT
namespace L2
variable{X:Cx}{pos:Pos}{xs ys:List V}{A0 its' us:List Value}{α:Type}{j n t':Nat}{i:Int}{Zj:zv}{Z:St}{H:Hp}{s:Shared}{A:Around}{x y:V}{u v:Value}{T:String}
abbrev TO:=St->Hp->(Option Int->Hp->Prop)->Prop
def PO(X:Cx)(e:Option Expr)(t:TO):Prop:=
 ∀(Zj:zv)(s:Shared)(Z:St)(H:Hp)(Q:Option Int->Hp->Prop),Inv X Zj Z H s->t Z H Q->
  wpAny (model X.prog X.w) X.A (evalPart e X.env) (λu s'=>∃o H',Inv X Zj Z H' s'/\IsPart u o/\Q o H') X.xe s
def cp:TO:=λ_ H Q=>Q none H
def aY(t:TE):TO:=λZ H Q=>t Z H λx H1=>∃i,x=.int i/\Q (some i) H1
section
variable{e:Expr}{te:TE}{lo hi:Option Expr}{tl th:TO}{p2:Pos}
def TX(X:Cx)(r:V->Option Int->Option Int->Hp->VK->Prop):Prop:=
 ∀(Zj:zv)(s:Shared)(Z:St)(H:Hp)(x:V)(v b a:Value)(lo hi:Option Int)(sl:Addr)(Q:VK),Inv X Zj Z H s->RelV x v->s.heap.IsSliceOf sl b a .none->IsPart b lo->IsPart a hi->r x lo hi H Q->
  ∃T id,typeLookup (.type T) "__getitem__"=pure (some (.builtin id))/\s.TypeIs v T/\wpAny (model X.prog X.w) X.A (getItem v (.ref sl)) (EP X Zj Z Q) X.xe s
def XU(r:V->Option Int->Option Int->Hp->VK->Prop)(te:TE)(tl th:TO):TE:=λZ H Q=>te Z H λx H1=>tl Z H1 λl H2=>th Z H2 λu H3=>r x l u H3 Q
def ji(K:zu):R2:=λx y H Q=>∃a b xs ys,x=.ref a/\y=.ref b/\Ag K H a xs/\Ag K H b ys/\xs≠[]/\xs.length+ys.length<=sizeLine/\
 (ys=[]->Q (.ref a) H)/\(ys≠[]->∀p,H p=none->Q (.ref p) (upd H p (.tup (xs++ys))))
theorem Vals.OL(r:Vals xs us):us=[]↔xs=[]:=by
 cases r with
 |nil=>simp
 |cons _ _=>simp
theorem gZ:BA X (binaryOp .Add) (ji X.K):=by
 intro Zj s Z H x y v u Q I i g h;obtain⟨a,b,xs,ys,rfl,rfl,m,l,hx,e,k,j⟩:=h;cases i;cases g;obtain⟨A0,d,p1,_⟩:=I.tuple m;obtain⟨BW,c,p2,_⟩:=I.tuple l;refine HT.tf p1 p2 (λz=>hx (d.OL.mp z)) (λz=>⟨.ref a,H,I,rfl,k (c.OL.mp z)⟩) (λz=>?_) (by rw[<- d.length,<- c.length];exact e);refine⟨.ref s.heap.objs.size,_,I.laid (t':=s.toks) (o:=.tup (xs++ys)) (λb n q=>Af _ q) (AW _) ?_,rfl,j (λw=>z (c.OL.mpr w)) _ (I.AA.fresh (AW _))⟩;exact⟨by rw[BQ];exact e,_,d.append c,⟨IsTup.new _ _,λU9 f=>by rw[Ay _ rfl]at f;cases f;rfl⟩⟩
end
noncomputable def EX(n:Nat)(i:Int):Option Nat:=if 0<=i then(if i<n then some i.toNat else none)else if -(n:Int)<=i then some (i+n).toNat else none
def BM(xs:List α)(i:Int):Option α:=(EX xs.length i).bind λj=>xs[j]?
theorem Xh(h:EX n i=some j):seqIndex? i n=some j/\j<n/\-(n:Int)<=i/\i<n:=by
 unfold EX at h
 by_cases a:0<=i
 .rw[eM a]at h
  by_cases h1:i<n
  .rw[eM h1]at h;have e:i.toNat=j:=BB h;exact⟨by rw[seqIndex_of a h1,e],by omega,by omega,h1⟩
  .rw[eJ h1]at h;cases h
 .rw[eJ a]at h
  by_cases h1:-(n:Int)<=i
  .rw[eM h1]at h;have e:(i+n).toNat=j:=BB h;exact⟨by rw[seqIndex_neg (by omega) h1,e],by omega,h1,by omega⟩
  .rw[eJ h1]at h;cases h
theorem SM{xs:List α}{v:α}(h:BM xs i=some v):∃j,seqIndex? i xs.length=some j/\xs[j]?=some v/\j<xs.length/\-(xs.length:Int)<=i/\i<xs.length:=by
 unfold BM at h;cases e:EX xs.length i with
 |none=>rw[e]at h;cases h
 |some j=>
  rw[e]at h;obtain⟨h1,h2,b,a⟩:=Xh e;exact⟨j,h1,h,h2,b,a⟩
theorem DU{xs:List α}{v:α}(h:xs[j]?=some v):BM xs (j:Int)=some v:=by
 have a:j<xs.length:=(List.getElem?_eq_some_iff.mp h).1;have e:EX xs.length (j:Int)=some j:=by
  unfold EX;rw[eM (by omega),eM (by omega)];simp
 unfold BM;rw[e];exact h
theorem rB(xs:List α)(v:α):BM (xs++[v]) (-1)=some v:=by
 have a:(xs++[v]).length=xs.length+1:=by simp
 have e:EX (xs++[v]).length (-1)=some xs.length:=by
  unfold EX;rw[a,eJ (by decide),eM (by omega)]
  congr 1
  omega
 unfold BM;rw[e];show(xs++[v])[xs.length]?=some v;simp
def Ue(b:Expr):Prop:=∀o i,subscripted b false o i=operate [o,i] (getItem o i)
def EY(X:Cx)(r:R2):Prop:=
 ∀(value a:Expr)(Zj:zv)(s:Shared)(Z:St)(H:Hp)(x y:V)(v u:Value)(Q:VK),Inv X Zj Z H s->RelV x v->RelV y u->r x y H Q->
  subscripted a false v u=operate [v,u] (getItem v u)->wpAny (model X.prog X.w) X.A (subscriptTail value a v u) (EP X Zj Z Q) X.xe s
def Jc(X:Cx)(id:String)(r:V->List V->Hp->VK->Prop):Prop:=
 ∀(Zj:zv)(s:Shared)(Z:St)(H:Hp)(x:V)(xs:List V)(v:Value)(us:List Value)(Q:VK),Inv X Zj Z H s->RelV x v->Vals xs us->r x xs H Q->
  wpAny (model X.prog X.w) X.A (call (.builtin id) (v::us)) (EP X Zj Z Q) X.xe s
section
variable{a b:Expr}{ta tb:TE}
def G7(K:zu):R2:=λx y H Q=>∃p xs i v,x=.ref p/\y=.int i/\AI K H p xs/\BM xs i=some v/\Q v H
def HW(K:zu):R2:=λx y H Q=>∃p xs i v,x=.ref p/\y=.int i/\Ag K H p xs/\BM xs i=some v/\Q v H
def xm:R2:=λx y H Q=>∃z i c,x=.str z/\y=.int i/\z.length<=sizeLine/\BM z.cps.toList i=some c/\Q (.str ⟨#[c]⟩) H
theorem Bg:EY X (G7 X.K):=by
 intro value a Zj s Z H x y v u Q I g f h c;obtain⟨p,xs,i,z,rfl,rfl,k,m,q⟩:=h;cases g;obtain⟨t,rfl⟩:=f;obtain⟨A0,r,pl,A⟩:=I.list k;obtain⟨j,h1,h2,C,o,n⟩:=SM m;obtain⟨w,e,HF⟩:=r.get h2;have l:=r.length;have B:=KC;have fin:EP X Zj Z Q w s:=⟨z,H,I,HF,q⟩
 by_cases d:0<=i
 .have b:i.toNat=j:=by
   rw[seqIndex_of d n]at h1;exact BB h1
  exact item_listR pl.isList d (by omega) (by rw[b];simpa using e) fin c
 .have b:(i+(A0.toArray.size:Int)).toNat=j:=by
   rw[seqIndex_neg (by omega) o]at h1;rw[Bp,<- l];exact BB h1
  exact subscriptTail_builtinR (x:=w) pl.isList.typeIs slot_list_getitem.lookup
   (wpAny_getItem_list_neg (Q:=λr s'=>r=w/\EP X Zj Z Q r s') pl.isList (by omega) (by rw[Bp] <;> omega) (by omega) (by rw[b];simpa using e) ⟨rfl,fin⟩) c
theorem C2:EY X (HW X.K):=by
 intro value a Zj s Z H x y v u Q I c b h d;obtain⟨p,xs,i,z,rfl,rfl,e,g,q⟩:=h;cases c;obtain⟨t,rfl⟩:=b;obtain⟨A0,r,pl,l⟩:=I.tuple e;obtain⟨j,h1,h2,A,o,n⟩:=SM g;obtain⟨w,k,HF⟩:=r.get h2;have f:=r.length;have m:=KC;have fin:EP X Zj Z Q w s:=⟨z,H,I,HF,q⟩;exact subscriptTail_builtinR (x:=w) pl.typeIs slot_tuple_getitem.lookup
  (getItem_tuple (j:=j) (Q:=λr s'=>r=w/\EP X Zj Z Q r s') pl (by omega) (by omega) (by rw[Bp,<- f];exact h1) (by simpa using k) ⟨rfl,fin⟩) d
theorem wW:EY X xm:=by
 intro value a Zj s Z H x y v u Q I d b h e;obtain⟨z,i,c,rfl,rfl,n,g,q⟩:=h;obtain⟨t,rfl⟩:=d;obtain⟨t',rfl⟩:=b;obtain⟨j,h1,h2,p,l,k⟩:=SM g;have f:z.cps.toList.length=z.length:=by simp[Str.length]
 rw[f]at h1 l k;have o:=KC;exact tail_any (typeIs_str s z t) slot_str_getitem.lookup (getItem_str (c:=c) (by
  have e1:decide (i < -(2 ^ 63:Int))=false:=fD (by omega);have m:decide (i>=2 ^ 63)=false:=fD (by omega);rw[e1,m,dS]) (by rw[h1];simpa using h2) ⟨.str ⟨#[c]⟩,H,I.tok _,⟨_,rfl⟩,q⟩) e
theorem jq(A0:List Value)(n j:Nat)(u:Value):Obj.mapSeq (·.setIfInBounds j u) { cls:=.type "list", data:=.seq A0.toArray n }={ cls:=.type "list", data:=.seq (A0.set j u).toArray n }:=by
 simp[Obj.mapSeq]
theorem Inv.lst{Zj:zv}{Z:St}{H:Hp}{s:Shared}{p:Addr}{xs:List V}(I:Inv X Zj Z H s)(h:H p=some (.lst xs)):
  ∃(A0:List Value)(n:Nat),Vals xs A0/\s.heap.get? p=some { cls:=.type "list", data:=.seq A0.toArray n }/\xs.length<=sizeLine:=by
 obtain⟨z,A0,n,r,e⟩:=I.AA p _ h;exact⟨A0,n,r,e,z⟩
theorem Inv.p4{p:Addr}{a:Nat}{f:Obj->Obj}(I:Inv X Zj Z H s)(h:H p=some (.lst xs))
  (ho:s.heap.get? p=some { cls:=.type "list", data:=.seq A0.toArray n }) (hf:f { cls:=.type "list", data:=.seq A0.toArray n }={ cls:=.type "list", data:=.seq its'.toArray a }) (r:Vals ys its') (hz:ys.length<=sizeLine) (t:Nat) :
  Inv X Zj Z (upd H p (.lst ys)) { s with heap:=s.heap.update p f,toks:=t }:=by
 have e:(s.heap.update p f).get? p=some { cls:=.type "list", data:=.seq its'.toArray a }:=by
  rw[Gk f ho (by rw[hf] <;> rfl),hf]
 refine I.write (x:=p) (e:=p) (by rw[h];trivial) (.inl rfl) (λb u c q=>(J0 _ _ (BG c)).trans q) ⟨_,e⟩ ?_;exact⟨hz,its',a,r,e⟩
def Ra:V->V->V->Hp->(Hp->Prop)->Prop:=λo i v H Q=>∃p xs k j,o=.ref p/\i=.int k/\H p=some (.lst xs)/\EX xs.length k=some j/\Q (upd H p (.lst (xs.set j v)))
theorem set_list:RF X Ra:=by
 intro Zj s Z H o i v y z u Q I l m g h;obtain⟨p,xs,k,j,rfl,rfl,b,x,q⟩:=h;cases l;obtain⟨t,rfl⟩:=m;obtain⟨A0,n,r,ho,w⟩:=I.lst b;obtain⟨h1,h2,d,c⟩:=Xh x;have a:=r.length;have A:=KC;have f:Inv X Zj Z (upd H p (.lst (xs.set j v))) { s with heap:=s.heap.update p (Obj.mapSeq (·.setIfInBounds j u)) }:=
  I.p4 b ho (jq A0 n j u) (r.set g j) (by rw[Gm];exact w) s.toks
 by_cases e:0<=k
 .have hk:k.toNat=j:=by
   rw[seqIndex_of e c]at h1;exact BB h1
  exact PySem.W.ki_setAt ho e (by omega) (by rw[Bp,<- a];exact c) (by rw[hk];exact⟨_,f,q⟩)
 .have hk:(k+(A0.toArray.size:Int)).toNat=j:=by
   rw[seqIndex_neg (by omega) d]at h1;rw[Bp,<- a];exact BB h1
  exact PySem.W.ki_setBack ho (by omega) (by rw[Bp,<- a];exact d) (by omega) (by rw[hk];exact⟨_,f,q⟩)
noncomputable def DP:V->Bool
 | .A7=>true
 | .bl _=>true
 | .int _=>true
 | .str _=>true
 |_=>false
noncomputable def DF:V->V->Bool
 | .A7,.A7=>true
 | .bl a,.bl b=>a == b
 | .bl a,.int b=>(if a then 1 else 0) == b
 | .int a,.bl b=>a == (if b then 1 else 0)
 | .int a,.int b=>a == b
 | .str a,.str b=>a == b
 |_,_=>false
theorem QL(d:RelV y u)(c:RelV x v)(f:DP y=true)(e:DP x=true):SeqAt.EqAt A s u v (DF y x):=by
 cases y with
 |A7=>
  cases d;cases x with
  |A7=>cases c;exact SeqAt.EqAt.same _
  |bl b=>cases c;exact SeqAt.EqAt.none_bool b
  |int b=>obtain⟨t,rfl⟩:=c;exact SeqAt.EqAt.none_int b t
  |str b=>obtain⟨t,rfl⟩:=c;exact SeqAt.EqAt.none_str b t
  |_=>exact absurd (show false=true from e) Co
 |bl a=>
  cases d;cases x with
  |A7=>cases c;exact SeqAt.EqAt.bool_none a
  |bl b=>cases c;exact SeqAt.EqAt.bool_bool a b
  |int b=>obtain⟨t,rfl⟩:=c;exact SeqAt.EqAt.bool_int a b t
  |str b=>obtain⟨t,rfl⟩:=c;exact SeqAt.EqAt.bool_str a b t
  |_=>exact absurd (show false=true from e) Co
 |int a=>
  obtain⟨t',rfl⟩:=d;cases x with
  |A7=>cases c;exact SeqAt.EqAt.int_none a t'
  |bl b=>cases c;exact SeqAt.EqAt.int_bool a t' b
  |int b=>obtain⟨t,rfl⟩:=c;exact SeqAt.EqAt.int_int a t' b t
  |str b=>obtain⟨t,rfl⟩:=c;exact SeqAt.EqAt.int_str a t' b t
  |_=>exact absurd (show false=true from e) Co
 |str a=>
  obtain⟨t',rfl⟩:=d;cases x with
  |A7=>cases c;exact SeqAt.EqAt.str_none a t'
  |bl b=>cases c;exact SeqAt.EqAt.str_bool a t' b
  |int b=>obtain⟨t,rfl⟩:=c;exact SeqAt.EqAt.str_int a t' b t
  |str b=>obtain⟨t,rfl⟩:=c;exact SeqAt.EqAt.str_str a t' b t
  |_=>exact absurd (show false=true from e) Co
 |_=>exact absurd (show false=true from f) Co
def HR(x:V)(u:Value):Bool:=match u with
 | .none=>DF .A7 x
 | .bool b=>DF (.bl b) x
 | .int i _=>DF (.int i) x
 | .str z _=>DF (.str z) x
 |_=>false
theorem Xu(r:RelV y u)(f:DP y=true):HR x u=DF y x:=by
 cases y with
 |A7=>cases r;rfl
 |bl b=>cases r;rfl
 |int i=>obtain⟨t,rfl⟩:=r;rfl
 |str z=>obtain⟨t,rfl⟩:=r;rfl
 |_=>exact absurd (show false=true from f) Co
theorem Qv{x:V}:∀{xs:List V}{us:List Value},Vals xs us->xs.all DP=true->us.any (HR x)=xs.any λy=>DF y x
 |_,_,.nil,_=>rfl
 |y::xs,u::us,.cons r t,f=>by
  rw[QM,Cn]at f;rw[LK,LK,Xu r f.1,Qv t f.2]
theorem RK{A:Around}{s:Shared}{x:V}{v:Value}(b:RelV x v)(c:DP x=true):∀{xs:List V}{us:List Value},Vals xs us->xs.all DP=true->∀u∈us,SeqAt.EqAt A s u v (HR x u)
 |_,_,.nil,_=>λu a=>by cases a
 |y::xs,u::us,.cons r t,f=>λu' a=>by
  rw[QM,Cn]at f;rcases List.mem_cons.mp a with rfl|a
  .rw[Xu r f.1];exact QL r b f.1 c
  .exact RK b c t f.2 u' a
def Il(x:V)(xs:List V):Bool:=xs.any λy=>DF y x
def L5(K:zu)(neg:Bool):R2:=λx y H Q=>∃p xs,y=.ref p/\(AI K H p xs∨Ag K H p xs)/\DP x=true/\xs.all DP=true/\Q (.bl (if neg then !Il x xs else Il x xs)) H
theorem NU:BA X (compareOp .In) (L5 X.K false):=by
 intro Zj s Z H x y v u Q I b d h;obtain⟨p,xs,rfl,a,c,fs,q⟩:=h;cases d;rcases a with a|a
 .obtain⟨A0,r,pl,e⟩:=I.list a;refine SeqAt.in_listAt (HR x) pl.isList (λw hw=>RK b c r fs w (by simpa using hw)) ⟨.bl _,H,I,rfl,?_⟩
  rw[show A0.toArray.any (HR x)=A0.any (HR x) by simp,Qv r fs];exact q
 .obtain⟨A0,r,pl,e⟩:=I.tuple a;refine SeqAt.in_tupleAt (HR x) pl (λw hw=>RK b c r fs w (by simpa using hw)) ⟨.bl _,H,I,rfl,?_⟩
  rw[show A0.toArray.any (HR x)=A0.any (HR x) by simp,Qv r fs];exact q
theorem LB:Bw X (.builtin "len") (λxs H Q=>∃p ys,xs=[.ref p]/\(AI X.K H p ys∨Ag X.K H p ys)/\Q (.int ys.length) H):=by
 intro Zj s Z H xs us Q I r h;obtain⟨p,ys,rfl,b,q⟩:=h;obtain⟨u,rfl,d⟩:=vals1 r;cases d;have f:=KC;rcases b with b|b
 .obtain⟨A0,c,pl,e⟩:=I.list b;have a:=c.length;exact Calls.call_len_list pl.isList (by simp only[Bp] <;> omega) ⟨.int ys.length,H,I.tok _,⟨s.toks+1,by rw[Bp,a]⟩,q⟩
 .obtain⟨A0,c,pl,e⟩:=I.tuple b;have a:=c.length;exact len_tuple pl (by simp only[Bp] <;> omega) ⟨.int ys.length,H,I.tok _,⟨s.toks+1,by rw[Bp,a]⟩,q⟩
theorem tU:Bw X (.builtin "len") (λxs H Q=>∃z,xs=[.str z]/\z.length<=sizeLine/\Q (.int z.length) H):=by
 intro Zj s Z H xs us Q I r h;obtain⟨z,rfl,a,q⟩:=h;obtain⟨u,rfl,t,rfl⟩:=vals1 r;have b:=KC;exact len_str (by omega) ⟨.int z.length,H,I.tok _,⟨_,rfl⟩,q⟩
theorem VU:Bw X (.type "list") (λxs H Q=>∃p ys,xs=[.ref p]/\(AI X.K H p ys∨Ag X.K H p ys)/\∀l,H l=none->Q (.ref l) (upd H l (.lst ys))):=by
 intro Zj s Z H xs us Q I r h;obtain⟨p,ys,rfl,d,q⟩:=h;obtain⟨u,rfl,i⟩:=vals1 r;cases i;have fin:∀(A0:List Value),Vals ys A0->ys.length<=sizeLine->∀(h':Heap)(c':Nat),(∀b o',s.heap.get? b=some o'->h'.get? b=some o')->
   h'.get? s.heap.objs.size=some { cls:=.type "list", dict:=none,data:=.seq A0.toArray c',slots:=#[] }->EP X Zj Z Q (.ref s.heap.objs.size) { s with heap:=h' }:=λA0 a c h' c' kp e=>
  ⟨.ref s.heap.objs.size,_,I.laid (t':=s.toks) kp (AW _) (show Bi X.prog X.w _ h' _ (.lst ys)from⟨c,A0,c',a,e⟩),rfl,q _ (I.AA.fresh (AW _))⟩
 rcases d with d|d
 .obtain⟨A0,a,pl,c⟩:=I.list d;have f:=a.length;obtain⟨o,ho,g,n,hd⟩:=pl.isList;exact call_list_seq p (.inl rfl) ho g hd (λh' c' kp e=>fin A0 a c h' c' kp e) (by simp only[Bp] <;> omega)
 .obtain⟨A0,a,pl,c⟩:=I.tuple d;have f:=a.length;obtain⟨o,ho,g,n,hd⟩:=pl;exact call_list_seq p (.inr rfl) ho g hd (λh' c' kp e=>fin A0 a c h' c' kp e) (by simp only[Bp] <;> omega)
theorem aX:Bw X (.type "tuple") (λxs H Q=>∃p ys,xs=[.ref p]/\((AI X.K H p ys/\∀l,H l=none->Q (.ref l) (upd H l (.tup ys)))∨(Ag X.K H p ys/\Q (.ref p) H))):=by
 intro Zj s Z H xs us Q I r h;obtain⟨p,ys,rfl,h⟩:=h;obtain⟨u,rfl,j⟩:=vals1 r;cases j;rcases h with⟨c,q⟩|⟨c,q⟩
 .obtain⟨A0,a,pl,d⟩:=I.list c;have f:=a.length;refine call_tuple_list pl.isList (λh' kp=>?_) (by simp only[Bp] <;> omega)
  have i:Inv X Zj Z H { s with heap:=h' }:=I.kept (t':=s.toks) kp
  have k:Inv X Zj Z (upd H h'.objs.size (.tup ys)) { s with heap:=h'.push { cls:=.type "tuple", data:=.seq A0.toArray } }:=
   i.laid (t':=s.toks) (λb o e=>Af _ e) (AW _) (show Bi X.prog X.w _ _ _ (.tup ys)from⟨d,A0,a,⟨IsTup.new _ _,λU9 g=>by rw[Ay _ rfl]at g;cases g;rfl⟩⟩)
  exact⟨.ref h'.objs.size,_,k,rfl,q _ (i.AA.fresh (AW _))⟩
 .obtain⟨A0,a,pl,d⟩:=I.tuple c;exact call_tuple_same pl ⟨.ref p,H,I,rfl,q⟩
def JH(K:zu)(T:String)(x:V)(H:Hp):Prop:=match x with
 | .str _=>T="str"
 | .int _=>T="int"
 | .ref p=>(T="list" /\ ∃xs,AI K H p xs)∨(T="tuple" /\ ∃o,K.lookup p=some o/\o.cls=.type "tuple" /\ o.dict=none)∨
   (T="dict" /\ ((∃A9,H p=some (.dK A9))∨∃A9,H p=some (.dT A9)))∨(T="set" /\ ∃S n,H p=some (.set S n))∨(T="tuple" /\ ∃xs,H p=some (.tup xs))
 |_=>False
theorem Wj(I:Inv X Zj Z H s)(r:RelV x v)(ty:JH X.K T x H):
  s.TypeIs v T/\∀a,v=.ref a->∃d,s.heap.get? a=some d/\d.dict=none:=by
 cases x with
 |str z=>
  obtain⟨t,rfl⟩:=r;cases(show T="str" from ty);exact⟨typeIs_str s z t,λ_ e=>nomatch e⟩
 |int i=>
  obtain⟨t,rfl⟩:=r;cases(show T="int" from ty);exact⟨typeIs_int s i t,λ_ e=>nomatch e⟩
 |ref p=>
  cases r;rcases ty with⟨rfl,xs,f⟩|⟨rfl,o,hk,g,hd⟩|⟨rfl,hk⟩|⟨rfl,S,n,hk⟩|⟨rfl,xs,hk⟩
  .obtain⟨A0,_,pl,_⟩:=I.list f;refine⟨pl.isList.typeIs,λa e=>?_⟩;cases e;obtain⟨o,n,e,c,hd,_⟩:=pl;exact⟨o,e,hd⟩
  .refine⟨⟨o,I.Dd p o hk,g⟩,λa e=>?_⟩;cases e;exact⟨o,I.Dd _ o hk,hd⟩
  .have z:∃o,s.heap.get? p=some o/\o.ExactDict:=by
    rcases hk with⟨A9,hk⟩|⟨A9,hk⟩
    .obtain⟨_,_,_,_,o,_,_,e,ex,_⟩:=I.AA p _ hk;exact⟨o,e,ex⟩
    .obtain⟨_,_,_,_,o,_,_,e,ex,_⟩:=I.AA p _ hk;exact⟨o,e,ex⟩
   obtain⟨o,e,ex⟩:=z;refine⟨⟨o,e,ex.1⟩,λa b=>?_⟩;cases b;exact⟨o,e,ex.2.1⟩
  .obtain⟨o,_,_,_,e,ex,_⟩:=I.AA p _ hk;refine⟨⟨o,e,ex.1⟩,λa b=>?_⟩;cases b;exact⟨o,e,ex.2.1⟩
  .obtain⟨_,A0,_,⟨o,e,c,_⟩,h⟩:=I.AA p _ hk;refine⟨⟨o,e,c⟩,λa b=>?_⟩;cases b;exact⟨o,e,h o e⟩
 |_=>exact False.elim ty
def RL(K:zu)(T:String)(r:V->List V->Hp->VK->Prop)(to:TE):TE:=λZ H Q=>to Z H λx H1=>JH K T x H1/\r x [] H1 Q
def PZ(K:zu)(T:String)(r:V->List V->Hp->VK->Prop)(to:TE)(t:TA):TE:=λZ H Q=>to Z H λx H1=>JH K T x H1/\t Z H1 λxs H2=>r x xs H2 Q
variable{o e:Expr}{es:List Expr}{to:TE}{t:TA}{name:Str}{apos CP:Pos}{id:String}{r:V->List V->Hp->VK->Prop}
end
def V7(X:Cx)(id:String)(r:V->List V->Hp->VK->Prop):Prop:=
 ∀(Zj:zv)(s:Shared)(Z:St)(H:Hp)(x:V)(xs:List V)(v:Value)(us:List Value)(Q:VK),Inv X Zj Z H s->RelV x v->Vals xs us->r x xs H Q->
  wpAny (model X.prog X.w) X.A (call (.builtin id) (v::us)) (EP X Zj Z Q) X.xe s
theorem Vals.one:∀{x:V}{us:List Value},Vals [x] us->∃u,us=[u]/\RelV x u:=λr=>vals1 r
theorem Vals.two:∀{x y:V}{us:List Value},Vals [x,y] us->∃u v,us=[u,v]/\RelV x u/\RelV y v:=λr=>vals2 r
theorem Vals.zero:∀{us:List Value},Vals [] us->us=[]
 |_,.nil=>rfl
theorem Vals.dropLast(h:Vals xs us):Vals xs.dropLast us.dropLast:=by
 induction h with
 |nil=>exact .nil
 |cons r t a=>
  cases t with
  |nil=>exact .nil
  |cons q t'=>exact .cons r a
theorem o4(l:List α):l.eraseIdx (l.length - 1)=l.dropLast:=by
 induction l with
 |nil=>rfl
 |cons a r c=>
  cases r with
  |nil=>rfl
  |cons b r=>
   have e:(a::b::r).length - 1=((b::r).length - 1)+1:=by
    have h1:(a::b::r).length=r.length+2:=rfl;have h2:(b::r).length=r.length+1:=rfl;omega
   rw[e,List.eraseIdx_cons_succ,c]
   all_goals rfl
section
variable{l b:Addr}{zs:List V}
theorem Inv.Rv{f:Array Value->Array Value}(I:Inv X Zj Z H s)(c:H l=some (.lst xs))
  (e:s.heap.get? l=some { cls:=.type "list", data:=.seq A0.toArray n }) (hf:f A0.toArray=its'.toArray) (hv:Vals ys its') (hz:ys.length<=sizeLine) :
  Inv X Zj Z (upd H l (.lst ys)) { s with heap:=s.heap.update l (Obj.mapSeq f),toks:=t' }:=by
 have q:=PySem.IsL.update e f;rw[hf]at q;refine I.write (x:=l) (e:=l) (by rw[c];exact trivial) (.inl rfl) (λd u b a=>(J0 s.heap (Obj.mapSeq f) (BG b)).trans a) ⟨_,q⟩ ?_;exact⟨hz,its',_,hv,q⟩
theorem Inv.cS(I:Inv X Zj Z H s)(b:Vals ys A0)(a:ys.length<=sizeLine):
  Inv X Zj Z (upd H s.heap.objs.size (.lst ys)) { s with heap:=s.heap.push { cls:=.type "list", data:=.seq A0.toArray },toks:=t' }:=
 I.laid (λ_ _ q=>Af _ q) (AW _) ⟨a,A0,0,b,Ay _ rfl⟩
theorem Inv.fresh(I:Inv X Zj Z H s):H s.heap.objs.size=none:=I.AA.fresh (AW _)
theorem Inv.Ma(I:Inv X Zj Z H s)(a:H l=some (.lst xs)):xs.length<=sizeLine/\∃(A0:List Value)(n:Nat),Vals xs A0/\xs.length=A0.length/\s.heap.get? l=some { cls:=.type "list", data:=.seq A0.toArray n }:=by
 obtain⟨z,A0,n,r,e⟩:=I.AA l _ a;exact⟨z,A0,n,r,r.length,e⟩
def RD:V->List V->Hp->VK->Prop:=λx vs H Q=>∃l xs y,x=.ref l/\vs=[y]/\H l=some (.lst xs)/\xs.length<sizeLine/\Q .A7 (upd H l (.lst (xs++[y])))
theorem YM:V7 X "list.append" RD:=by
 intro Zj s Z H x vs v us Q I b c h;obtain⟨l,xs,y,rfl,rfl,a,f,q⟩:=h;cases b;obtain⟨u,rfl,d⟩:=c.one;obtain⟨z,A0,n,r,g,e⟩:=I.Ma a;refine call_meets F.slot_list_append ⟨_,e,rfl⟩ F.entry_list_append (F.args_list_append_2 _ _) (PySem.list_append l A0.toArray n u (by rw[Bp];omega)) ⟨e,?_⟩;refine⟨.A7,_,I.Rv (its':=A0++[u]) a e (by simp) (r.append (.cons d .nil)) ?_,rfl,q⟩;rw[BQ,QY];omega
def Sk:V->List V->Hp->VK->Prop:=λx vs H Q=>∃l xs y,x=.ref l/\vs=[]/\H l=some (.lst xs)/\xs[xs.length - 1]?=some y/\Q y (upd H l (.lst xs.dropLast))
theorem vA:V7 X "list.pop" Sk:=by
 intro Zj s Z H x vs v us Q I c d h;obtain⟨l,xs,y,rfl,rfl,a,i,q⟩:=h;cases c;have b:=d.zero;subst b;obtain⟨z,A0,n,r,k,e⟩:=I.Ma a;obtain⟨u,j,f⟩:=r.get i;have g:A0.toArray[A0.toArray.size - 1]?=some u:=by
  show A0.toArray[A0.length - 1]?=some u;rw[<- KG,<- k];exact j
 refine call_meets F.slot_list_pop ⟨_,e,rfl⟩ F.entry_list_pop (F.args_list_pop_1 _) (MeetsSeq.list_pop_last l A0.toArray n u g (by rw[Bp];omega)) ⟨e,?_⟩;refine⟨y,_,I.Rv (its':=A0.dropLast) a e ?_ r.dropLast ?_,f,q⟩
 .show A0.toArray.eraseIdxIfInBounds (A0.toArray.size - 1)=A0.dropLast.toArray;rw[Bp,List.eraseIdxIfInBounds_toArray,o4]
 .rw[List.length_dropLast];omega
def WH:R2:=λx y H Q=>∃l b xs zs,x=.ref l/\y=.ref b/\H l=some (.lst xs)/\H b=some (.lst zs)/\xs.length+zs.length<=sizeLine/\∀p,H p=none->Q (.ref p) (upd H p (.lst (xs++zs)))
theorem uG:BA X (binaryOp .Add) WH:=by
 intro Zj s Z H x y v u Q I c a h;obtain⟨l,b,xs,zs,rfl,rfl,f,g,m,q⟩:=h;cases c;cases a;obtain⟨z,A0,n,r,o,e⟩:=I.Ma f;obtain⟨j,BW,k,d,Bb,i⟩:=I.Ma g;refine PySem.P.add_list e i ?_ (by rw[Bp,Bp];omega);have ea:A0.toArray++BW.toArray=(A0++BW).toArray:=by simp
 rw[ea];exact⟨.ref _,_,I.cS (t':=s.toks) (r.append d) (by rw[BQ];omega),rfl,q _ I.fresh⟩
variable{prog:Program}{w:World}{E:Value->Shared->Prop}
set_option maxRecDepth 100000 in
end
end L2
namespace GO
open PySem.W PySem.Calls
variable{l:OpenLaw}{n:Nat}{prog q:Program}
theorem ub{P:Params}{h:Heap}:∀(ns:List Int)(vs:List Value),WellAll P h vs (ns.map WData.int)->IntsAre vs ns:=by
 intro ns
 induction ns with
 |nil=>
  intro vs w;rw[QZ]at w;cases w;exact .nil
 |cons n ns c=>
  intro vs w;rw[Ce]at w;cases w with
  |cons a b=>
   cases a;exact .cons _ _ (c _ b)
theorem nI(m:l.most=some n){P:Params}{h:Heap}{args:List WData}{vals:List Value}
  (O2:l.row.toRowW.claim.pre args=true) (SN:WellAll P h vals args) :
  ∃a vs ns,vals=[Value.ref a]/\args=[WData.list (ns.map WData.int)]/\h.get? a=some { cls:=.type "list", data:=.seq vs.toArray }/\IntsAre vs ns/\ns.length<=n:=by
 have j:WShape.hasAll [] args [.list .int]=true:=(pre_splitW O2).1;have f:l.pre.holds [] { args:=args }=true:=(pre_splitW O2).2;obtain⟨d,r,rfl,h1,h2⟩:=hasAllW_cons j;obtain rfl:=hasAllW_nil h2;obtain⟨xs,rfl,o⟩:=hasW_list h1;obtain⟨ns,rfl⟩:=items_int o;have b:ns.length<=n:=by
  unfold OpenLaw.pre at f;have e:(WTm.not (.lt (.lit (.int (n:Int))) (.len (.arg 0)))).holds [] { args:=[.list (ns.map .int)] }=true:=by
   have e:=(holds_andW f).1;rw[m]at e;exact e
  have c:=condW_of e (w_not (w_lt w_lit (w_len_list (w_arg rfl))));rw[AB]at c;refine Vs λq=>?_;have k:(n:Int)<((ns.length:Nat):Int):=by omega
  first
   | (rw[eV k]at c;exact absurd c (by decide))
   | (simp at c;omega)
 cases SN with
 |cons i g=>
  cases g;cases i with
  |list ho OE=>exact⟨_,_,ns,rfl,rfl,ho,ub ns _ OE,b⟩
theorem jY(l:OpenLaw)(args:List WData):l.row.toRowW.claim.post args (.bool true) args=true:=
 postW_of (r:=l.row.toRowW) (X:=(true == true))
  (show WShape.has [] (.bool true) .bool=true by first|rfl|decide|simp[WShape.has,WShape.arms,WShape.armsAll])
  (show(WTm.eq .res (.lit (.bool true))).value [] { args:=args,res:=some (.bool true),after:=args }=some (.bool (true == true))from w_eq_bool (w_res rfl) w_lit) rfl
theorem pG{loose:List Str}{XP:(zw)->Heap->Prop}{YP:World->Heap->Prop}{d:DefRec}
  (m:l.most=some n) (MW:d.params.defaults=[])
  (call:∀(w:World)(s₀ s₁:Shared)(mg i:zw)(g:Addr)(o:Obj)(h cd c:Value)(a:Addr)(vs:List Value)(ns:List Int),
   Ground q loose [] XP w s₀ mg i s₁.heap->YP w s₁.heap->
   s₁.heap.get? g=some o->o.data=.func (docDef d.name d.params d.body d.scope h cd c)->s₁.heap.CodeRec cd d.name->mg d.name=some (.ref g)->
   s₁.heap.get? a=some { cls:=.type "list", data:=.seq vs.toArray }->IntsAre vs ns->ns.length<=n->s₁.gens=#[]->
   codeAny (model l.prog w) callerA (.call (.ref g) ⟨[.ref a],[]⟩) (λr s'=>r=.ok (.ret (.bool true))/\OldK s₁.heap s'.heap/\s'.os=s₁.os/\AllBare s'.gens) s₁) :
  WalkO q loose XP YP l.row.toRowW d [] (λf vs=>PySem.call f vs):=by
 intro w s₀ s₁ mg i G Y g o h cd c v kV ho hd E4 j N7 s args vals as O2 z x SN y;obtain rfl:v=.none:=Dflts.none j MW;obtain rfl:kV=.none:=Dflts.noKw j;obtain⟨a,vs,ns,rfl,rfl,Se,b,e⟩:=nI m O2 SN;refine enter_call (pE (call w s₀ s₁ mg i g o h cd c a vs ns G Y ho (fd_plain hd) E4 N7 Se b e s) λr s' k=>?_);obtain⟨rfl,h2,u,t⟩:=k;exact⟨.inl ⟨.bool true,.bool true,[],rfl,λ_=>rfl,.bool true,jY l _,λ_=>⟨List.Pairwise.nil,λ_ p=>(nomatch p)⟩⟩,h2,u,t⟩
section
variable{w:World}{A:Around}{E:Value->Shared->Prop}{s:Shared}{K:Frag}
noncomputable def OK(h:Heap):Heap:={ h with objs:=#[] }
theorem OB(h:Heap)(b:Addr):(OK h).get? b=none:=by
 cases e:(OK h).get? b with
 |none=>rfl
 |some o=>exact absurd (AY e) (Nat.not_lt_zero _)
noncomputable def ledger(h:Heap)(L d:Addr):zv:=(List.range h.objs.size).filterMap λa=>if a=L∨a=d then none else(h.get? a).map λo=>(a,o)
theorem iJ{h:Heap}{L d a:Addr}{o:Obj}:(a,o)∈ledger h L d↔a≠L/\a≠d/\h.get? a=some o:=by
 unfold ledger;rw[yR];constructor
 .rintro⟨b,_,e⟩;split at e
  .cases e
  .rename_i hb;obtain⟨o',ho,g⟩:=Option.map_eq_some_iff.mp e;cases g;exact⟨λq=>hb (.inl q),λq=>hb (.inr q),ho⟩
 .rintro⟨f,c,ho⟩;refine⟨a,List.mem_range.mpr (AY ho),?_⟩;rw[eJ (show ¬ (a=L∨a=d)from λq=>q.elim f c),ho] <;> rfl
theorem pI{h:Heap}{L:Addr}{m:zw}(n:h.Ns L m):Fr (OK h) L h m:=
 ⟨n,λb o e=>(by rw[OB]at e;cases e),BN _⟩
end
end GO
namespace L2
variable{X:Cx}{qual x:Str}{a f:Addr}{fd:FuncData}{ps:List Str}{A B:Prop}
theorem YD:∀{vs:List Value}{ns:List Int},IntsAre vs ns->Vals (ns.map V.int) vs
 |_,_,.nil=>.nil
 |_,_,.cons n t h=>.cons ⟨t,rfl⟩ (YD h)
noncomputable def Hv(s:Stmt):Arguments:=match s with
 | .FunctionDef _ a _ _ _ _ _ _ _ _=>a
 |_=>{ posonlyargs:=[],args:=[],vararg:=none,kwonlyargs:=[],kw_defaults:=[],kwarg:=none,defaults:=[] }
noncomputable def DZ(s:Stmt):List Stmt:=match s with
 | .FunctionDef _ _ b _ _ _ _ _ _ _=>b
 |_=>[]
noncomputable def AS(s:Stmt):Scope:=match s with
 | .FunctionDef _ _ _ _ _ _ sc _ _ _=>sc
 |_=>{ kind:=.function,names:=[],isGenerator:=false,isCoroutine:=false }
abbrev D8:Fc:=λ_ _ _ _ _ _=>False
abbrev E0:XK:=λ_ _ _=>False
theorem fV:Passes D8 X E0:=λ_ _ _ _ _ _ _ h=>h.elim
structure AQ (K:zu) (x qual:Str) (st:Stmt) (f:Addr) (fd:FuncData):Prop where
 ex:∃(oc:Value)(od:Option Addr)(kV doc pm:Value)(an:Option Addr)(AZ ct:Value)(E5:Array (Option Value)),
  fd=PySem.W.fnOf x qual (Hv st) (DZ st) (AS st) .none kV doc pm an AZ ct/\K.lookup f=some ⟨oc,od,.func fd,E5⟩/\PySem.W.codeIn K AZ qual=true
 kp:PySem.W.keepIn K (.ref f)=true
section
variable{P:Program}{w:World}{K:zu}{mg:zw}{Zu:Heap}
theorem AQ.ok{st:Stmt}{N:List Str}{k:Nat}{sp:Sp}(F:AQ K x qual st f fd)(S:BJ N ps (AS st))(len:∀vs H Q E,sp vs H Q E->vs.length=ps.length)
  (HX:∀(AZ:Value)(A:Around)(outer:List Env)(s:Shared)(H:Hp)(vs:List V)(Q:VK)(E:XK),Bc k (A.deeper (envOfC qual (AS st) s.heap.objs.size f AZ))->sp vs H Q E->
   ∃t,DR (FO D8 P w K mg Zu N qual (AS st) f AZ A outer s H E).Fn (DZ st) t/\t { nx:=λ_ H'=>Q .A7 H',rt:=Q } (start N vs) H):DT P w K mg Zu D8 (k+1) f fd ps sp:=by
 obtain⟨g,e,kV,c,d,i,AZ,ct,E5,rfl,a,E4⟩:=F.ex;refine Y5 a E4 S len λA outer s H vs Q E b FC=>?_;obtain⟨t,h,q⟩:=HX AZ A outer s H vs Q E b FC;exact⟨t,h.Fn,q⟩
theorem AQ.binds{st:Stmt}(F:AQ K x qual st f fd)
  (h:∀(kV a b:Value)(c:Option Addr)(AZ ct:Value)(us:List Value),us.length=ps.length->bindArgs (PySem.W.fnOf x qual (Hv st) (DZ st) (AS st) .none kV a b c AZ ct) ⟨us,[]⟩=pure (ps.zip us)):Binds K fd ps []:=by
 obtain⟨e,d,kV,a,b,c,AZ,ct,E5,rfl,g,E4⟩:=F.ex;exact .all (h kV a b c AZ ct)
theorem mY{st:Stmt}{g:Value}{e d:Option Addr}{E5:Array (Option Value)}{kV a b AZ ct:Value}(l:K.lookup f=some ⟨g,e,.func (PySem.W.fnOf x qual (Hv st) (DZ st) (AS st) .none kV a b d AZ ct),E5⟩)
  (c:PySem.W.codeIn K AZ qual=true) (k:PySem.W.keepIn K (.ref f)=true):AQ K x qual st f (PySem.W.fnOf x qual (Hv st) (DZ st) (AS st) .none kV a b d AZ ct):=⟨⟨g,e,kV,a,b,d,AZ,ct,E5,rfl,l,c⟩,k⟩
end
theorem LU{A:Around}{k:Nat}(a:Bc k A):A.units+1<cLine:=Gn (Nat.add_le_add_left (by decide:1<=64) _) a.units
theorem L1(h:B):if false=true then A else B:=by
 rw[eJ Co];exact h
theorem Ks(h:A):if true=true then A else B:=by
 rw[eM rfl];exact h
theorem CI{c:Prop}[Decidable c](h1:c->A)(h2:¬ c->B):if c then A else B:=by
 by_cases h:c
 .rw[eM h];exact h1 h
 .rw[eJ h];exact h2 h
def AF(H H':Hp):Prop:=∀b o,H b=some o->H' b=some o
theorem AF.refl(H:Hp):AF H H:=λ_ _ h=>h
theorem AF.trans{H H1 H2:Hp}(a:AF H H1)(b:AF H1 H2):AF H H2:=λc o h=>b c o (a c o h)
theorem AF.seq{K:zu}{H H':Hp}{xs:List V}(e:AF H H')(h:AI K H a xs):AI K H' a xs:=by
 rcases h with(h|⟨o,h⟩)|h
 .exact .inl (.inl (e _ _ h))
 .exact .inl (.inr ⟨o,e _ _ h⟩)
 .exact .inr h
end L2
set_option maxHeartbeats 4000000
namespace L2
variable{α κ:Type}{o:Option V}{u v:Value}{A9:List (List Key×V)}{y:V}{w:World}{H H' H1 H2 H4:Hp}{xs:List (List Key×Addr×Value)}{C a acc b it n:Addr}{X Y:Cx}{Zj:zv}{ws Z:St}{s s2 s4:Shared}{A:Around}{E Q:Value->Shared->Prop}{h' h1:Heap}{i j n0 t' tk:Nat}{prog:Program}{env:Env}{c e elt tg value:Expr}{IK pos px py:Pos}{td te ty:TE}{outer scope:Scope}{t tt:TT}{cl closure:List (Str×Addr)}{qual x:Str}{ce:Option Str}{es ifs:List Expr}{R:Result->Shared->Prop}{js:List Nat}{J:It}{tn:Nat->Heap->Prop}{wi:TI}{CW:It->St->Hp->Addr->VK->Prop}{N:List Str}{tp:Bool}{ys:List V}{A0:List Value}
section
variable[DecidableEq κ]
noncomputable def E9(A9:List (κ×V))(k:κ):Option V:=(A9.find? λkv=>decide (kv.1=k)).map (·.2)
def putK(A9:List (κ×V))(k:κ)(v:V):List (κ×V):=
 if(A9.any λkv=>decide (kv.1=k))=true then A9.map (λkv=>if kv.1=k then(kv.1,v)else kv)else A9++[(k,v)]
theorem Nw{p:κ×V}{r:List (κ×V)}{k:κ}(e:p.1=k):E9 (p::r) k=some p.2:=by simp[E9,NA,e]
theorem OI{p:κ×V}{r:List (κ×V)}{k:κ}(e:¬ p.1=k):E9 (p::r) k=E9 r k:=by simp[E9,NA,e]
theorem TM(k:κ):∀A9:List (κ×V),(A9.any λkv=>decide (kv.1=k))=(E9 A9 k).isSome
 | []=>rfl
 |p::r=>by
  rw[LK]
  by_cases e:p.1=k
  .simp only[Nw e,eV e,Bool.true_or,yl]
  .rw[OI e,fD e,VZ];exact TM k r
theorem YB(A9:List (κ×V))(k:κ)(v:V):(putK A9 k v).length<=A9.length+1:=by
 unfold putK;split
 .rw[AB];omega
 .rw[BQ,Am,ND];omega
theorem Fx.Ub{u:Option Value}(r:Fx o u):o.isSome=u.isSome:=by
 cases o with
 |none=>cases u with
  |none=>rfl
  |some _=>exact(show False from r).elim
 |some _=>cases u with
  |none=>exact(show False from r).elim
  |some _=>rfl
theorem KV.val{A9:List (κ×V)}{vs:List (κ×Value)}(r:KV A9 vs)(k:κ):Fx (E9 A9 k) (valueAt vs k):=by
 unfold KV at r
 induction r with
 |nil=>exact True.intro
 |@cons p q ps a h t d=>
  obtain⟨h1,h2⟩:=h
  by_cases e:p.1=k
  .have c:q.1=k:=h1.symm.trans e;have b:valueAt (q::a) k=some q.2:=by simp[valueAt,NA,c]
   rw[Nw e,b];exact h2
  .have c:¬ q.1=k:=λz=>e (h1.trans z);have b:valueAt (q::a) k=valueAt a k:=by simp[valueAt,NA,c]
   rw[OI e,b];exact d
theorem KV.any{A9:List (κ×V)}{vs:List (κ×Value)}(r:KV A9 vs)(k:κ):(A9.any λkv=>decide (kv.1=k))=vs.any λkv=>decide (kv.1=k):=by
 unfold KV at r
 induction r with
 |nil=>rfl
 |cons h t a=>rw[LK,LK,a,h.1]
theorem KV.UN{A9:List (κ×V)}{vs:List (κ×Value)}(r:KV A9 vs)(k:κ)(a:RelV y u):
  KV (A9.map λkv=>if kv.1=k then(kv.1,y)else kv) (vs.map λkv=>if kv.1=k then(kv.1,u)else kv):=by
 unfold KV at r ⊢
 induction r with
 |nil=>exact .nil
 |@cons p q ps c h t b=>
  rw[Ce,Ce];refine .cons ?_ b;obtain⟨h1,h2⟩:=h
  by_cases e:p.1=k
  .rw[eM e,eM (h1.symm.trans e)];exact⟨h1,a⟩
  .rw[eJ e,eJ (λz=>e (h1.trans z))];exact⟨h1,h2⟩
theorem KV.put{A9:List (κ×V)}{vs:List (κ×Value)}(r:KV A9 vs)(k:κ)(a:RelV y u):KV (putK A9 k y) (stored vs k u):=by
 unfold putK stored;rw[r.any k]
 by_cases e:(vs.any λkv=>decide (kv.1=k))=true
 .rw[eM e,eM e];exact r.UN k a
 .rw[eJ e,eJ e];exact Paired.snoc r ⟨rfl,a⟩
theorem KV.length{A9:List (κ×V)}{vs:List (κ×Value)}(r:KV A9 vs):A9.length=vs.length:=eE r
end
theorem OM{P:Program}{k:Key}(r:RelV (kV k) u):(Ez P w).is k u=true:=by
 cases k with
 |inl i=>obtain⟨t,e⟩:=(show ∃t,u=Value.int i t from r);subst e;exact pO P w i t
 |inr x=>obtain⟨t,e⟩:=(show ∃t,u=Value.str x t from r);subst e;exact gO P w x t
theorem bY{P:Program}{w:World}:∀{ks:List Key}{us:List Value},Vals (ks.map kV) us->ItemsAre (Ez P w) ks us
 | [],_,r=>by rw[QZ]at r;cases r;exact .nil
 |k::ks,_,r=>by
  rw[Ce]at r;cases r with
  |cons h t=>exact .cons (OM h) (bY t)
abbrev KT(H:Hp):List (List Key×V)->List (List Key×Addr×Value)->Prop:=Paired λp q=>p.1=q.1/\H q.2.1=some (.tup (p.1.map kV))/\RelV p.2 q.2.2
theorem KT.val(r:KT H A9 xs)(k:List Key):Fx (E9 A9 k) ((atKey xs k).map (·.2)):=by
 induction r with
 |nil=>exact True.intro
 |@cons p q ps a h t d=>
  obtain⟨h1,_,h2⟩:=h
  by_cases e:p.1=k
  .have c:q.1=k:=h1.symm.trans e;have b:atKey (q::a) k=some q.2:=by simp[atKey,NA,c]
   rw[Nw e,b];exact h2
  .have c:¬ q.1=k:=λz=>e (h1.trans z);have b:atKey (q::a) k=atKey a k:=by simp[atKey,NA,c]
   rw[OI e,b];exact d
theorem KT.UN(r:KT H A9 xs)(k:List Key)(a:RelV y u):
  KT H (A9.map λkv=>if kv.1=k then(kv.1,y)else kv) (xs.map (putAt k u)):=by
 induction r with
 |nil=>exact .nil
 |@cons p q ps d h t b=>
  rw[Ce,Ce];refine .cons ?_ b;obtain⟨h1,h2,c⟩:=h;unfold putAt
  by_cases e:p.1=k
  .rw[eM e,eM (h1.symm.trans e)];exact⟨h1,h2,a⟩
  .rw[eJ e,eJ (λz=>e (h1.trans z))];exact⟨h1,h2,c⟩
theorem KT.put(r:KT H A9 xs)(k:List Key)(c:H b=some (.tup (k.map kV)))(a:RelV y u):
  KT H (putK A9 k y) (storedH xs k b u):=by
 have e:(A9.any λkv=>decide (kv.1=k))=(atKey xs k).isSome:=by
  rw[TM,(r.val k).Ub,eD]
 unfold putK storedH;rw[e]
 by_cases q:(atKey xs k).isSome=true
 .rw[eM q,eM q];exact r.UN k a
 .rw[eJ q,eJ q];exact Paired.snoc r ⟨rfl,c,a⟩
theorem KT.keeps(r:KT H A9 xs)(a:∀b ys,H b=some (.tup ys)->H' b=some (.tup ys)):KT H' A9 xs:=
 Paired.V4 r λ_ _ z=>⟨z.1,a _ _ z.2.1,z.2.2⟩
section
variable{P:Program}{h:Heap}
theorem ZZ{u:HO}(ok:Bt P w H h)(e:Rd H a u):Bi P w H h a u:=e.ok ok
theorem Pd{A9:List (Key×V)}(ok:Bt P w H h)(e:Rd H a (.dK A9)):A9.length<=sizeLine/\(a == sysModules)=false/\∃vs,KV A9 vs/\h.DictOf (Ez P w) a vs:=
 show Bi P w H h a (.dK A9)from ZZ ok e
theorem vo{A9:List (Key×V)}(ok:Bt P w H h)(e:H a=some (.dK A9)):A9.length<=sizeLine/\(a == sysModules)=false/\∃vs,KV A9 vs/\h.DictOf (Ez P w) a vs:=Pd ok (.inl e)
theorem Nz{ks:List Key}(ok:Bt P w H h)(e:H a=some (.tup (ks.map kV))):(tupleKind (Ez P w)).is h ks a:=by
 obtain⟨_,A0,r,⟨o,h1,h2,n,b⟩,_⟩:=(show Bi P w H h a (.tup (ks.map kV))from ok a _ e);exact⟨o,A0.toArray,n,h1,h2,b,by simpa using bY r⟩
theorem O5(ok:Bt P w H h)(e:Rd H a (.dT A9)):A9.length<=sizeLine/\(a == sysModules)=false/\
  ∃xs,KT H A9 xs/\h.DictOfH (tupleKind (Ez P w)) a xs:=by
 obtain⟨z,y,xs,r,o,es,ep,h1,h2,g,f,d⟩:=(show Bi P w H h a (.dT A9)from ZZ ok e);refine⟨z,y,xs,r,o,es,ep,h1,h2,g,f,λx hx=>?_,d⟩;have all:∀{l:List (List Key×V)}{m:List (List Key×Addr×Value)},KT H l m->∀x∈m,(tupleKind (Ez P w)).is h x.1 x.2.1:=by
  intro l m q
  induction q with
  |nil=>intro x hx;exact nomatch hx
  |@cons p q ps i b t c=>
   intro x hx;rcases List.mem_cons.mp hx with e|hx
   .subst e;exact Nz ok (by rw[<- b.1];exact b.2.1)
   .exact c x hx
 exact all r x hx
theorem qk(ok:Bt P w H h)(e:H a=some (.dT A9)):A9.length<=sizeLine/\(a == sysModules)=false/\
  ∃xs,KT H A9 xs/\h.DictOfH (tupleKind (Ez P w)) a xs:=O5 ok (.inl e)
end
def Gd(H:Hp)(a:Addr)(y:V)(r:Option V):Prop:=
 (∃A9 k,Rd H a (.dK A9)/\y=kV k/\r=E9 A9 k)∨∃A9 k b,Rd H a (.dT A9)/\y=.ref b/\H b=some (.tup (k.map kV))/\r=E9 A9 k
def My(H:Hp)(a:Addr)(y v:V)(H':Hp):Prop:=
 (∃A9 k,H a=some (.dK A9)/\y=kV k/\A9.length<sizeLine/\H'=upd H a (.dK (putK A9 k v)))∨
 ∃A9 k b,H a=some (.dT A9)/\y=.ref b/\H b=some (.tup (k.map kV))/\A9.length<sizeLine/\H'=upd H a (.dT (putK A9 k v))
theorem Gd.k{A9:List (Key×V)}{k:Key}(e:H a=some (.dK A9)):Gd H a (kV k) (E9 A9 k):=.inl ⟨A9,k,.inl e,rfl,rfl⟩
theorem My.k{A9:List (Key×V)}{k:Key}{v:V}(e:H a=some (.dK A9))(b:A9.length<sizeLine):My H a (kV k) v (upd H a (.dK (putK A9 k v))):=.inl ⟨A9,k,e,rfl,b,rfl⟩
section
variable{v:V}{r:Value}
theorem Inv.big(I:Inv X Zj Z H s):sysModules<s.heap.objs.size:=by
 have h:mainGlobals<s.heap.objs.size:=(I.mod.glob.keeps I.bk).lt;exact Qe (by decide) h
theorem wD(j:A.units+1<cLine)(I:Inv X Zj Z H s)(g:Gd H a y (some v))(i:RelV y u)(h:∀d s',Inv X Zj Z H s'->RelV v d->Q d s'):
  wpAny (model X.prog X.w) A (getItem (.ref a) u) Q E s:=by
 rcases g with⟨A9,k,e,f,l⟩|⟨A9,k,b,e,f,n,l⟩
 .subst f;obtain⟨z,hd,vs,c,dd⟩:=Pd I.AA e;obtain⟨d,hw,HF⟩:=Fx.some_of (v:=v) (o:=valueAt vs k) (by rw[l];exact c.val k);exact wpAny_getItem_of (OM i) dd.mapOf hw (h d _ (I.tok _) HF)
 .subst f;cases(show u=Value.ref b from i);obtain⟨z,hd,xs,c,dd⟩:=O5 I.AA e;obtain⟨d,hw,HF⟩:=Fx.some_of (v:=v) (o:=(atKey xs k).map (·.2)) (by rw[l];exact c.val k)
  obtain⟨p,m,O8⟩:=Option.map_eq_some_iff.mp hw;refine wpAny_getItem_heap (ZA2 j) (Nz I.AA n) dd m ?_;rw[O8];exact h d _ (I.tok _) HF
theorem jS(i:A.units+1<cLine)(I:Inv X Zj Z H s)(g:Gd H a y o)(f:RelV y u)(h:∀s',Inv X Zj Z H s'->Q (.bool (!o.isSome)) s'):
  wpAny (model X.prog X.w) A (compareOp .NotIn u (.ref a)) Q E s:=by
 rcases g with⟨A9,k,e,d,l⟩|⟨A9,k,b,e,d,j,l⟩
 .subst d;obtain⟨z,hd,vs,c,dd⟩:=Pd I.AA e;refine wpAny_notIn_of (OM f) hd dd.mapOf ?_;rw[<- (c.val k).Ub,<- l];exact h _ (I.tok _)
 .subst d;cases(show u=Value.ref b from f);obtain⟨z,hd,xs,c,dd⟩:=O5 I.AA e;refine wpAny_notIn_heap (ZA2 i) (Nz I.AA j) hd dd ?_;have q:=(c.val k).Ub;rw[eD]at q;rw[<- q,<- l];exact h _ (I.tok _)
theorem XT{c:HO}(I:Inv X Zj Z H s)(mu:Lh (H a))(d:Heap.SameBut a s.heap h')(f:∃q,h'.get? a=some q)(new:Bi X.prog X.w (upd H a c) h' a c):
  Inv X Zj Z (upd H a c) { s with heap:=h',toks:=t' }:=
 I.write (x:=a) (e:=a) mu (.inl rfl) (λb q g z=>(d.2 b g).trans z) f new
theorem vF{P:Program}{A9:List (Key×V)}{vs:List (Key×Value)}(z:A9.length<=sizeLine)(hd:(a == sysModules)=false)(b:KV A9 vs)(dd:h'.DictOf (Ez P w) a vs):
  Bi P w H' h' a (.dK A9):=⟨z,hd,vs,b,dd⟩
theorem kh{Q:Unit->Shared->Prop}(C:A.units+1<cLine)(I:Inv X Zj Z H s)(g:My H a y v H')(p:RelV y u)(t:RelV v r)(h:∀s',Inv X Zj Z H' s'->Q () s'):
  wpAny (model X.prog X.w) A (setItem (.ref a) u r) Q E s:=by
 rcases g with⟨A9,k,e,n,l,o⟩|⟨A9,k,b,e,n,B,l,o⟩
 .subst n o;obtain⟨z,hd,vs,d,dd⟩:=vo I.AA e;have i:vs.length<=sizeLine:=by rw[<- d.length];exact z
  have m:(putK A9 k v).length<=sizeLine:=by have:=YB A9 k v;omega
  refine wpAny_setItem_pairs (hsz:=i) (OM p) dd λh' P1 j=>h _ ?_;have D:∃q,h'.get? a=some q:=let ⟨q,_,_,f,_⟩:=P1;⟨q,f⟩;exact XT I (by rw[e];exact True.intro) j D (vF m hd (d.put k t) P1)
 .subst n o;cases(show u=Value.ref b from p);obtain⟨z,hd,xs,d,dd⟩:=qk I.AA e;have i:xs.length<=sizeLine:=by rw[<- eE d];exact z
  have m:(putK A9 k v).length<=sizeLine:=by have:=YB A9 k v;omega
  refine wpAny_setItem_heap (hsz:=i) (ZA2 C) (Nz I.AA B) dd λh' P1 j=>h _ ?_;obtain⟨q,es,ep,f,h2,J,G,_,F⟩:=P1;refine XT I (by rw[e];exact True.intro) j ⟨q,f⟩ ⟨m,hd,_,(d.put k B t).keeps λc ys x=>?_,q,es,ep,f,h2,J,G,F⟩;rw[AN (qK x e (λz=>nomatch z))];exact x
variable{A9:List (Key×V)}{k:Key}
end
def UB(i:Expr):Prop:=∀a b,subscripted i false a b=operate [a,b] (getItem a b)
theorem tL{a:Expr}{T id:String}
  (k:typeLookup (.type T) "__getitem__"=pure (some (.builtin id))) (j:UB a)
  (h:wpAny (model prog w) A (eval value env) (λo s₁=>wpAny (model prog w) A (eval a env) (λi b=>b.TypeIs o T/\wpAny (model prog w) A (getItem o i) Q E b) E s₁) E s) :
  wpAny (model prog w) A (eval (.Subscript value a pos) env) Q E s:=by
 refine Subscript_ (i7 h (λo s₁ g=>i7 g (λi b c=>?_) λ_ _ x=>x) λ_ _ x=>x);obtain⟨e,c⟩:=c;unfold subscriptTail;refine Wo ?_;rw[getitemInPython_of_ne e.not_modules];refine Wo (ZAC e k ?_);have fin:wpAny (model prog w) A (subscripted a false o i) (λr d=>wpAny (model prog w) A (letTemporaryGo value o r >>= λ_=>pure r) Q E d) E b:=by
  rw[j o i];exact wpAny_operating (i7 c (λr d f=>Wo (wpAny_letTemporaryGo (dP f))) λ_ _ x=>x)
 first
  |exact dP (Wo fin)
  |exact Wo (dP (Wo fin))
  |exact Wo fin
theorem kO(I:Inv X Zj Z H s)(g:Gd H a y o):s.TypeIs (.ref a) "dict" := by
 rcases g with⟨A9,k,e,_,_⟩|⟨A9,k,b,e,_,_,_⟩
 .obtain⟨_,_,vs,_,dd⟩:=Pd I.AA e;exact dd.typeIs
 .obtain⟨_,_,xs,_,dd⟩:=O5 I.AA e;exact dd.typeIs
def TZ(td ty:TE):TE:=λZ H Q=>td Z H λx H1=>ty Z H1 λy H2=>∃a v,x=.ref a/\Gd H2 a y (some v)/\Q v H2
def Of(ty td:TE):TE:=λZ H Q=>ty Z H λy H1=>td Z H1 λx H2=>∃a o,x=.ref a/\Gd H2 a y o/\Q (.bl (!o.isSome)) H2
def PF(td ty tv:TE):TS:=λD Z H=>tv Z H λv H1=>td Z H1 λx H2=>ty Z H2 λy H3=>∃a H4,x=.ref a/\My H3 a y v H4/\D.nx Z H4
section
variable{o i:Expr}{pos' RM:Pos}{tv:TE}
theorem uB(j:X.A.units+1<cLine)(hi:PE X i ty)(ho:PE X o td):PC X .NotIn i o (Of ty td):=by
 intro Zj s Z H Q I h;refine hi.k I h λm s1 y H1 I1 b e=>ho.k I1 e λu s2 x H2 I2 c⟨a,f,ex,g,d⟩=>?_;subst ex;obtain rfl:u=Value.ref a:=c;exact jS j I2 g b λl I3=>⟨.bl (!f.isSome),H2,I3,rfl,d⟩
end
theorem mU{P:Program}(h:Heap)(a:sysModules<h.objs.size):Bi P w H (h.push { cls:=.type "dict", data:=.dict #[] }) h.objs.size (.dK []):=
 ⟨BN _,beq_eq_false_iff_ne.mpr (BG (Ad a)),[],.nil,Heap.DictOf.new h⟩
def NX:TE:=λ_ H Q=>∀p,H p=none->Q (.ref p) (upd H p (.dK []))
theorem kq{β:Type}{l:List α}{f:α->β->Sem (ForInStep β)}(g:β->α->β)(h:∀x∈l,∀c,f x c=pure (.yield (g c x))):∀c,forIn l c f=pure (l.foldl g c):=by
 induction l with
 |nil=>intro c;rfl
 |cons x l a=>
  intro c;rw[dZ,h x Ae,pure_bind];exact a (λy b=>h y (Au _ b)) (g c x)
noncomputable def Jm(cells:List (Str×Addr))(cs:List (Str×Addr))(x:Str×NameKind):List (Str×Addr):=
 if x.2=.free then(x.1,(cells.lookup x.1).getD 0)::cs else cs
def BC(cells:List (Str×Addr))(names:List (Str×NameKind)):List (Str×Addr):=names.foldl (Jm cells) []
theorem Zs(h:∀x∈scope.names,x.2=.free->(env.cells.lookup x.1).isSome=true):closureFor scope env=pure (BC env.cells scope.names):=by
 simp only[closureFor];rw[kq (Jm env.cells) (λx hx c=>by
  obtain⟨n,k⟩:=x;unfold Jm
  by_cases hk:k=NameKind.free
  .subst hk;have q:=h _ hx rfl;obtain⟨a,e⟩:=Option.isSome_iff_exists.mp q;have b:env.cells.lookup n=some a:=e;have d:cellOf env n=pure a:=by unfold cellOf;rw[b]
   simp[d,b]
  .have:(k == NameKind.free)=false:=by simpa using hk
   simp[this,hk])]
 rfl
theorem Qt{cells:List (Str×Addr)}:∀(names:List (Str×NameKind))(acc:List (Str×Addr)),(∀y∈names,y.2=.free->(cells.lookup y.1).isSome=true)->
  (∀x c,acc.lookup x=some c->cells.lookup x=some c)->∀x c,(names.foldl (Jm cells) acc).lookup x=some c->cells.lookup x=some c
 | [],acc,_,ha,x,c,e=>ha x c e
 | (n,k)::r,acc,hs,ha,x,c,e=>by
  rw[LL]at e;refine Qt r _ (λy d=>hs y (Au _ d)) (λx c e=>?_) x c e;unfold Jm at e
  by_cases hk:k=NameKind.free
  .rw[eM hk]at e;have q:=hs _ Ae hk;obtain⟨a,q⟩:=Option.isSome_iff_exists.mp q;have b:cells.lookup n=some a:=q;rw[Hl]at e
   by_cases hx:x=n
   .subst hx;simp only[o3,b,yk]at e;rw[b,<- e]
   .have f:(x == n)=false:=by simpa using hx
    rw[f]at e;exact ha x c e
  .rw[eJ hk]at e;exact ha x c e
theorem M8{cells:List (Str×Addr)}{x:Str}:∀(names:List (Str×NameKind))(acc:List (Str×Addr)),((acc.lookup x).isSome=true∨(x,NameKind.free)∈names)->
  ((names.foldl (Jm cells) acc).lookup x).isSome=true
 | [],acc,h=>by
  rcases h with h|h
  .exact h
  .cases h
 | (n,k)::r,acc,h=>by
  rw[LL];refine M8 r _ ?_;unfold Jm;rcases h with h|h
  .refine .inl ?_;split
   .rw[Hl];split
    .rfl
    .exact h
   .exact h
  .rcases List.mem_cons.mp h with e|h
   .cases e;refine .inl ?_;rw[eM rfl,Hl];simp
   .exact .inr h
theorem NR{env:Env}:∀(names:List (Str×NameKind))(x:Str),
  (names.map λ(n,k)=>if(k == NameKind.free && env.scope.kind == .function && env.kindOf n == some .cell)then(n,NameKind.cell)else(n,k)).lookup x =
   (names.lookup x).map λk=>if(k == NameKind.free && env.scope.kind == .function && env.kindOf x == some .cell)then NameKind.cell else k
 | [],x=>rfl
 | (n,k)::r,x=>by
  have c:=NR (env:=env) r x;rw[Ce]
  by_cases a:(k == NameKind.free && env.scope.kind == .function && env.kindOf n == some .cell)=true
  .show List.lookup x ((if(k == NameKind.free && env.scope.kind == .function && env.kindOf n == some .cell)=true then(n,NameKind.cell)else(n,k))::_)=_
   rw[eM a,Hl,Hl]
   by_cases hx:x=n
   .subst hx;simp only[o3,KL];rw[eM a]
   .have b:(x == n)=false:=by simpa using hx
    rw[b];exact c
  .show List.lookup x ((if(k == NameKind.free && env.scope.kind == .function && env.kindOf n == some .cell)=true then(n,NameKind.cell)else(n,k))::_)=_
   rw[eJ a,Hl,Hl]
   by_cases hx:x=n
   .subst hx;simp only[o3,KL];rw[eJ a]
   .have b:(x == n)=false:=by simpa using hx
    rw[b];exact c
noncomputable abbrev FP(X:Cx)(N:List Str)(scope:Scope)(cl:List (Str×Addr))(C:Addr)(s:Shared)(H:Hp)(fp:List Addr):Cx:=
 { X with N:=N,s₀:=s,H₀:=H,env:=compEnvC scope cl C X.env,outer:=X.stack,ex:=fp,fn:=λ_=>false,pn:=[],xe:=λ_ _=>False }
noncomputable def Ak(js:List Nat)(Z:St):St:=js.map λj=>(Z[j]?).join
structure DL (N:List Str) (outer scope:Scope) (x:Str) (A6:List Str) (js:List Nat):Prop where
 kind:scope.kind=.function
 G1:∀y∈scope.names,y.2≠.cell
 loc:∀y∈scope.names,y.2=.local->scope.names.lookup y.1=some .local
 Gb:scope.names.lookup x=some .local
 at':js.map (λj=>N[j]?)=A6.map some
 cell:∀y∈A6,outer.names.lookup y=some .cell
 free:∀y∈A6,scope.names.lookup y=some .free
 all:∀y∈scope.names,y.2=.free->outer.names.lookup y.1=some .cell
 nd:(A6++[x]).Nodup
def Gs(X:Cx)(ifs:List Expr)(t:TT):Prop:=
 ∀(Zj:zv)(s:Shared)(Z:St)(H:Hp)(Q:Bool->Hp->Prop),Inv X Zj Z H s->t Z H Q->
  wpAny (model X.prog X.w) X.A (forIn ifs true λc r=>if r=true then do let ok <- isTrue c X.env (eval c X.env);pure (ForInStep.yield ok)else pure (ForInStep.yield r)) (TP X Zj Z Q) X.xe s
def La:TT:=λ_ H Q=>Q true H
theorem Xb:Gs X [] La:=λZj s Z H Q I h=>by
 rw[Vm];exact dP ⟨H,I,h⟩
theorem j9(a:PT X c t):Gs X [c] t:=λZj s Z H Q I h=>by
 rw[dZ];refine Wo ?_;rw[eM rfl];refine Wo (Aq (a Zj s Z H Q I h) λb s1 q=>dP ?_);show wpAny _ _ (forIn [] b _) _ _ s1;rw[Vm];exact dP q
def JG(J:It)(js:List Nat)(tt:TT)(te:TE)(Z:St)(H1:Hp)(acc:Addr)(Q:VK):Prop:=
 ∃W:Nat->Nat->Hp->Prop,(∃m,W 0 m (upd H1 acc (.lst [])))/\∀i m H2,W i m H2->
  (J.stop i H2/\Q (.ref acc) H2)∨(J.go i H2/\∀x H3,J.D7 i H2 x H3->tt (Ak js Z++[some x]) H3 λb H4=>
   if b=true then te (Ak js Z++[some x]) H4 λy H5=>∃ys,H5 acc=some (.lst ys)/\ys.length<sizeLine/\∃a,a < m/\W (i+1) a (upd H5 acc (.lst (ys++[y])))
   else ∃a,a < m/\W (i+1) a H4)
def GN(wi:TI)(js:List Nat)(tt:TT)(te:TE):TE:=λZ H Q=>wi Z H λJ H1=>∀acc,H1 acc=none->JG J js tt te Z H1 acc Q
theorem vV(l:List α)(a b:α):(l++[a]).set l.length b=l++[b]:=by
 induction l with
 |nil=>rfl
 |cons x l c=>simp[c]
noncomputable def GB:Option Str->Addr->List (Str×Addr)
 |none,_=>[]
 |some x,n=>[(x,n)]
noncomputable def N0:Option Str->Heap->Heap
 |none,h=>h
 |some _,h=>h.push { cls:=.type "cell", data:=.cell none }
structure D0 (N:List Str) (outer scope:Scope) (ce:Option Str) (zs A6:List Str) (js:List Nat):Prop where
 kind:scope.kind=.function
 loc:∀y∈scope.names,y.2=.local->scope.names.lookup y.1=some .local
 one:∀y∈scope.names,y.2=.cell->ce=some y.1
 sub:∀x,ce=some x->x∈zs
 cf:∀(n:Nat)(cl:List (Str×Addr)),cellsFrom n scope.names cl=GB ce n++cl
 pc:∀h:Heap,pushCells h scope.names=N0 ce h
 at':js.map (λj=>N[j]?)=A6.map some
 cell:∀y∈A6,outer.names.lookup y=some .cell∨outer.names.lookup y=some .free
 free:∀y∈A6,scope.names.lookup y=some .free
 all:∀y∈scope.names,y.2=.free->outer.names.lookup y.1=some .cell∨outer.names.lookup y.1=some .free
 nd:(A6++zs).Nodup
abbrev ED(X:Cx)(N:List Str)(scope:Scope)(ce:Option Str)(cl:List (Str×Addr))(C:Addr)(s:Shared)(H:Hp)(fp:List Addr):Cx:=
 { X with N:=N,s₀:=s,H₀:=H,env:=compEnvC scope (GB ce (C+1)++cl) C X.env,outer:=X.stack,ex:=fp,fn:=λy=>ce == some y,pn:=[],xe:=λ_ _=>False }
theorem kY{M:Model}{a:Addr}{b:Option Addr}{c:Value}{outer:Env}{Q:Env->Shared->Prop}
  (cf:∀(n:Nat)(cl:List (Str×Addr)),cellsFrom n scope.names cl=GB ce n++cl) (pc:∀h:Heap,pushCells h scope.names=N0 ce h)
  (d:Q (newEnv scope s.heap.objs.size a (GB ce (s.heap.objs.size+1)++closure) qual b c (some outer) builtinsNs) { s with heap:=N0 ce (s.heap.push { cls:=.type "dict", data:=.dict #[] }) }) :
  wpAny M A (newFunctionEnv scope a closure [] qual b c (some outer)) Q E s:=by
 simp only[newFunctionEnv,yl,if_true];refine Wo (wpAny_alloc ?_);refine Wo (wpAny_layCells _ (λname kind cells=>by cases e:kind == NameKind.cell <;> simp[e]) _ _ _ _ ?_)
 rw[cf,pc];rw[show({ s with heap:=s.heap.push { cls:=.type "dict", data:=.dict #[] } }:Shared).heap.objs.size=s.heap.objs.size+1 from C1 ..]
 refine Wo ?_;rw[Vm];exact dP (dP d)
theorem ZW{y:Str}{c:Addr}(h:(GB ce n++cl).lookup y=some c):(ce=some y/\c=n)∨(ce≠some y/\cl.lookup y=some c):=by
 cases ce with
 |none=>exact .inr ⟨λz=>(by cases z),h⟩
 |some x=>
  have h:((x,n)::cl).lookup y=some c:=h;rw[Hl]at h
  by_cases e:y=x
  .subst e;simp only[o3]at h;exact .inl ⟨rfl,(BB h).symm⟩
  .have a:(y == x)=false:=by simpa using e
   rw[a]at h;exact .inr ⟨λz=>e (BB z).symm,h⟩
theorem Q9{y:Str}(h:ce≠some y):(GB ce n++cl).lookup y=cl.lookup y:=by
 cases ce with
 |none=>rfl
 |some x=>
  show((x,n)::cl).lookup y=_;have a:(y == x)=false:=beq_eq_false_iff_ne.mpr λz=>h (by rw[z]);rw[Hl,a]
theorem Om:(GB (some x) n++cl).lookup x=some n:=by
 show((x,n)::cl).lookup x=_;rw[Hl,o3]
theorem wz{iter:Expr}{it acc:Value}(I:Nat->Shared->Prop)
  (a:∀n s,I n s->wpAny (model prog w) A (pyNext it) (λr s1=>match r with
   |none=>R (.ok .next) s1
   |some v=>wpAny (model prog w) A (letOwnedTupleGo tg it v) (λ_ s2=>wpAny (model prog w) A (assign tg env v) (λ_ g=>
     wpAny (model prog w) A (forIn ifs true λc r=>if r=true then do let ok <- isTrue c env (eval c env);pure (ForInStep.yield ok)else pure (ForInStep.yield r)) (λok s4=>if ok=true then
      wpAny (model prog w) A (eval elt env) (λx f=>wpAny (model prog w) A (call (.builtin "list.append") [acc,x]) (λ_ d=>∃m,m<n/\I m d) (notedBy (model prog w) A env λe s'=>R (.error e) s') f) (notedBy (model prog w) A env λe s'=>R (.error e) s') s4
      else ∃m,m<n/\I m s4) (notedBy (model prog w) A env λe s'=>R (.error e) s') g)
     (notedBy (model prog w) A env λe s'=>R (.error e) s') s2) (notedBy (model prog w) A env λe s'=>R (.error e) s') s1) (notedBy (model prog w) A env λe s'=>R (.error e) s') s)
  (n:Nat) (h:I n s):codeAny (model prog w) A (.compLoop (.ListComp elt [⟨tg,iter,ifs,0⟩] scope pos) 0 it acc env) R s:=by
 refine codeAny_loop rfl I (λn s p=>(show wpAny _ A ((compTurn (.ListComp elt [⟨tg,iter,ifs,0⟩] scope pos) 0 it acc env).onRaise (λx=>do noteFrame x env;theTreesLotGoes x)) _ _ s from wpAny_noted ?_)) n h
 rw[compTurn_list];refine Wo (wpAny_standAt (Wo (i7 (a n s p) (λr s1 i=>?_) λ_ _ z=>z)));cases r with
 |none=>exact dP i
 |some v=>
  refine Wo (i7 i (λ_ s2 o=>Wo (i7 o (λ_ g l=>Wo (i7 l (λok s4 b=>?_) λ_ _ z=>z)) λ_ _ z=>z)) λ_ _ z=>z);cases ok with
  |false=>
   rw[eJ (by decide)]at b;exact Wo (dP (dP ⟨rfl,b⟩))
  |true=>
   rw[eM rfl]at b;exact Wo (Wo (i7 b (λx f k=>Wo (i7 k (λ_ d j=>dP (dP ⟨rfl,j⟩)) λ_ _ z=>z)) λ_ _ z=>z))
abbrev Mp(tt:TT)(te:TE)(acc:Addr)(W:Nat->Nat->Hp->Prop)(i m:Nat)(Z:St)(H:Hp):Prop:=
 tt Z H λb H4=>if b=true then te Z H4 λy H5=>∃ys,H5 acc=some (.lst ys)/\ys.length<sizeLine/\∃m',m' < m/\W (i+1) m' (upd H5 acc (.lst (ys++[y])))
  else ∃m',m' < m/\W (i+1) m' H4
def KO(g:TG)(n:Nat)(J:It)(js:List Nat)(tt:TT)(te:TE)(Z:St)(H1:Hp)(acc:Addr)(Q:VK):Prop:=
 ∃W:Nat->Nat->Hp->Prop,(∃m,W 0 m (upd H1 acc (.lst [])))/\∀i m H2,W i m H2->
  (J.stop i H2/\Q (.ref acc) H2)∨(J.go i H2/\∀x H3,J.D7 i H2 x H3->∀ws,ws.length=n->g x (Ak js Z++ws) H3 λσ8 H8=>∃us,us.length=n/\σ8=Ak js Z++us/\Mp tt te acc W i m σ8 H8)
def Xy(CW:It->St->Hp->Addr->VK->Prop)(wi:TI):TE:=λZ H Q=>wi Z H λJ H1=>∀acc,H1 acc=none->CW J Z H1 acc Q
section
variable{iter:Expr}{zs A6:List Str}{fp:List Addr}{g:TG}
theorem pe(h:scope.names.lookup x=some .cell):(relabel scope env).names.lookup x=some .cell:=by
 refine(NR (env:=env) scope.names x).trans ?_;rw[h];simp
theorem hX{n:Nat}{v:V}(h:(List.replicate n (none:Option V))[i]?=some (some v)):False:=by
 rw[da]at h
 by_cases c:i<n
 .rw[eM c]at h;cases h
 .rw[eJ c]at h;cases h
theorem mO(S:D0 X.N X.env.scope scope ce zs A6 js)(I3:Inv X Zj Z H2 s2)(E:∀b∈fp,Dq X Zj H2 b)(Nf:∀b∈fp,b<s2.heap.objs.size)
  {m:zw}(EG:h1.Ns s2.heap.objs.size m) (old:∀b o,s2.heap.get? b=some o->h1.get? b=some o) (D:∀x,ce=some x->h1.IsCell (s2.heap.objs.size+1) none) :
  Inv (ED X (A6++zs) scope ce (BC X.env.cells scope.names) s2.heap.objs.size s2 H2 fp) [] (Ak js Z++List.replicate zs.length none) H2 { s2 with heap:=h1,toks:=t' }:=by
 have U:∀y∈scope.names,y.2=.free->(X.env.cells.lookup y.1).isSome=true:=λy g hk=>by
  obtain⟨c,e⟩:=I3.ok.has y.1 (S.all y g hk);rw[e];rfl
 have L:∀y c,(BC X.env.cells scope.names).lookup y=some c->X.env.cells.lookup y=some c:=Qt scope.names [] U (λ_ _ e=>by cases e);have I:∀y k,(relabel scope X.env).names.lookup y=some k->k=.cell∨k=.free->scope.names.lookup y=some .free∨ce=some y:=λy k e hk=>by
  have t:=(NR (env:=X.env) scope.names y).symm.trans e;cases q:scope.names.lookup y with
  |none=>rw[q]at t;cases t
  |some P=>
   rw[q]at t;cases P with
   |free=>exact .inl rfl
   |cell=>exact .inr (S.one _ (Gr q) rfl)
   |_=>simp at t;rcases hk with rfl|rfl <;> cases t
 have n:js.length=A6.length:=by have:=iI List.length S.at';simpa using this
 have K:∀y c,X.env.cells.lookup y=some c->c<s2.heap.objs.size:=λy c e=>by
  obtain⟨v,o,ho,_⟩:=I3.cell y c e;exact AY ho
 have f:∀c v,s2.heap.IsCell c v->h1.IsCell c v:=λc v AU=>by obtain⟨o,ho,hd⟩:=AU;exact⟨o,old c o ho,hd⟩
 have A:∀y c,(GB ce (s2.heap.objs.size+1)++BC X.env.cells scope.names).lookup y=some c->(ce=some y/\c=s2.heap.objs.size+1)∨(ce≠some y/\X.env.cells.lookup y=some c):=λy c e=>(ZW e).imp id λz=>⟨z.1,L y c z.2⟩;have M:∀y∈A6,ce≠some y:=λy g z=>(List.nodup_append.mp S.nd).2.2 y g y (S.sub y z) rfl;refine⟨⟨I3.ok.mod,S.kind,I3.ok.glob,I3.ok.blt,AW _,λy z c e1 C=>?_,λy g=>?_,λy c H e=>?_,I3.ok.hd,I3.ok.frames,.inl rfl,λb s=>⟨Ad (Nf b s),λy c e=>?_⟩,
  λb o e=>I3.bs b o e,CC I3.ok.GZ I3.sz,λb o e s=>?_,λb s Q=>?_,I3.stack,I3.YS⟩,rfl,I3.bare,Un.kept old,⟨m,EG,λi y v e1 C Y=>?_⟩,λy c e=>?_,I3.AA.fresh (AW _),λy c e=>?_,λp R=>(by cases R),I3.AA.kept old,?_⟩
 .rcases A y c e1 with⟨a1,rfl⟩|⟨_,C9⟩
  .rcases A z _ C with⟨a2,_⟩|⟨_,Cv⟩
   .exact BB (a1.symm.trans a2)
   .exact absurd (K z _ Cv) (NJ (Cf _))
  .rcases A z c C with⟨_,rfl⟩|⟨_,Cv⟩
   .exact absurd (K y _ C9) (NJ (Cf _))
   .exact I3.ok.inj y z c C9 Cv
 .have H:scope.names.lookup y=some .free∨ce=some y:=g.elim (λg=>I y _ g (.inl rfl)) λg=>I y _ g (.inr rfl);show ∃c,List.lookup y (GB ce (s2.heap.objs.size+1)++BC X.env.cells scope.names)=some c
  by_cases ex:ce=some y
  .rw[ex];exact⟨_,Om⟩
  .rw[Q9 ex];exact Option.isSome_iff_exists.mp (M8 scope.names [] (.inr (Gr (H.resolve_right ex))))
 .rcases A y c e with⟨_,rfl⟩|⟨O,_⟩
  .exact Cf _
  .exact absurd (eq_of_beq H) O
 .rcases A y c e with⟨_,rfl⟩|⟨_,C9⟩
  .exact DO (Dw (Nf b s))
  .exact(E b s).2.2.2.2.1 y c C9
 .rcases(E b s).2.2.2.1 with z|z
  .exact I3.ok.Ly b o e z
  .exact absurd (C5 (C5 (AY e) I3.ok.GZ) z) (LN _)
 .rcases List.mem_cons.mp (I3.Ti b Q)with z|z
  .exact(E b s).2.1 z
  .exact(E b s).2.2.1 z
 .have D:(Ak js Z).length=A6.length:=by unfold Ak;rw[AB,n]
  have hi:i<A6.length:=by
   by_cases hi:i<A6.length
   .exact hi
   .have d:(Ak js Z++List.replicate zs.length none)[i]?=some (some v):=C;rw[Eg (by rw[D];omega),D]at d;exact(hX d).elim
  have F:A6[i]?=some y:=by
   have F:(A6++zs)[i]?=some y:=e1
   rwa [D5 hi]at F
  have d:(Ak js Z)[i]?=some (some v):=by
   have d:(Ak js Z++List.replicate zs.length none)[i]?=some (some v):=C
   rwa [D5 (by rw[D];exact hi)]at d
  have B:y∈A6:=BL F;unfold Ak at d;rw[AM]at d;cases G:js[i]? with
  |none=>rw[G]at d;cases d
  |some j=>
   rw[G]at d;have T:X.N[j]?=some y:=by
    have q:=iI (λl=>l[i]?) S.at';simp only[AM,G,F,KL]at q;exact BB q
   have hσ:Z[j]?=some (some v):=by
    simp only[KL,NN]at d;cases q:Z[j]? with
    |none=>rw[q]at d;cases d
    |some w=>rw[q]at d;simp at d;rw[d]
   obtain⟨V,W,Im⟩:=I3.loc;obtain⟨u,r,l⟩:=Im j y v T hσ (.inr (S.cell y B));refine⟨u,r,?_⟩;rcases l with⟨k,_⟩|⟨_,c,e,z⟩
   .have k':X.env.scope.names.lookup y=some .local:=k;rcases S.cell y B with z|z <;> (rw[z]at k';cases k')
   .have hk:(relabel scope X.env).names.lookup y=some .cell∨(relabel scope X.env).names.lookup y=some .free:=by
     have e0:=NR (env:=X.env) scope.names y;rw[S.free y B]at e0;rcases S.cell y B with Jn|Jn
     .exact .inl (e0.trans (by simp[I3.ok.kind,show X.env.kindOf y=some .cell from Jn]))
     .exact .inr (e0.trans (by simp[show X.env.kindOf y=some .free from Jn]))
    obtain⟨c',t⟩:=Option.isSome_iff_exists.mp (M8 (cells:=X.env.cells) scope.names [] (.inr (Gr (S.free y B))));have J:=L y c' t;rw[e]at J;cases J;exact .inr ⟨hk,c,(Q9 (M y B)).trans t,f c _ z⟩
 .rcases A y c e with⟨a,rfl⟩|⟨_,C9⟩
  .exact⟨none,D _ a⟩
  .obtain⟨v,z⟩:=I3.cell y c C9;exact⟨v,f c v z⟩
 .rcases A y c e with⟨_,rfl⟩|⟨_,C9⟩
  .exact I3.AA.fresh (Cf _)
  .exact I3.Eu y c C9
 .show(Ak js Z++List.replicate zs.length none).length=(A6++zs).length;unfold Ak;simp[n]
theorem tZ(j:Y.prog=X.prog)(hw:Y.w=X.w)(G:Y.K=X.K)(hA:Y.A=X.A)(U:Y.xe=λ_ _=>False)(F:Y.calm=true)
  (hg:PG Y tg g) (Dc:Gs Y ifs tt) (Ct:PE Y elt te)
  (T:Turn X.prog X.w X.K tg J fp it tn) (iS:∀b∈fp,Y.Ok->Dq Y [] (λ_=>none) b)
  (W:Nat->Nat->Hp->Prop) (Q:VK)
  (h:∀i m H2,W i m H2->(J.stop i H2/\Q (.ref acc) H2)∨(J.go i H2/\∀x H3,J.D7 i H2 x H3->∀ws,ws.length=n0->g x (Ak js Z++ws) H3 λσ8 H8=>∃us,us.length=n0/\σ8=Ak js Z++us/\Mp tt te acc W i m σ8 H8))
  (I4:Inv Y [] (Ak js Z++ws) H4 s4) (P4:tn 0 s4.heap) (jT:∀b∈fp,H4 b=none) (E:Nat) (S:W 0 E H4)
  (gH:ws.length=n0) (hR:∀H' s' ws,Inv Y [] (Ak js Z++ws) H' s'->Q (.ref acc) H'->R (.ok .next) s') :
  codeAny (model X.prog X.w) X.A (.compLoop (.ListComp elt [⟨tg,iter,ifs,0⟩] scope pos) 0 (.ref it) (.ref acc) Y.env) R s4:=by
 have AA:=I4.ok;have t:∀{H':Hp},(∀b∈fp,H' b=none)->∀b∈fp,Dq Y [] H' b:=λhn b c=>⟨hn b c,(iS b c AA).2⟩;rw[<- j,<- hw,<- hA];have no:∀{σ:Value->Shared->Prop}v s,Y.xe v s->σ v s:=λv s z=>by rw[U]at z;exact z.elim
 refine wz (λn s'=>∃i ws H',ws.length=n0/\Inv Y [] (Ak js Z++ws) H' s'/\tn i s'.heap/\(∀b∈fp,H' b=none)/\W i n H') ?_ E ⟨0,ws,H4,gH,I4,P4,jT,S⟩;rintro n D⟨i,H,H5,M,I5,L9,OY,P⟩;rcases h i n H5 P with⟨stop,q⟩|⟨go,step⟩
 .have d:=T.done Y j hw G F i [] D _ H5 (λ_ _=>False) I5 (t OY) L9 stop;rw[<- j,<- hw]at d;refine i7 d (λr C⟨l,I6⟩=>?_) λ_ _ z=>z.elim;subst l;exact hR H5 C H I6 q
 .have d:=T.item Y j hw G F i [] D _ H5 (λ_ _=>False) I5 (t OY) L9 go;rw[<- j,<- hw]at d;refine i7 d (λr C⟨u,l,h6⟩=>?_) λ_ _ z=>z.elim;subst l;refine i7 h6 (λ_ B⟨v,H7,I7,r7,L,RB,k8⟩=>?_) λ_ _ z=>z.elim;have pH:=I7.pinned (t k8) (T.obj _ _ RB);refine i7 (hg _ B _ H7 v u _ pH r7 (step v H7 L H M)) (λ_ s8⟨σ8,H8,I8,us,XJ,e8,lY⟩=>?_) no;subst e8;have a:∀{σa:St}{Ha:Hp}{sa:Shared},Inv Y ([]++Mi fp B.heap) σa Ha sa->tn (i+1) sa.heap/\(∀b∈fp,Ha b=none):=λ{σa Ha sa}Ia=>by
   refine⟨T.keep _ _ _ RB λb c o e=>(Ia.pin (b,o) (Bo _ (Bo _ (P6 c e)))).1,λb c=>?_⟩;obtain⟨o,e,d⟩:=T.obj _ _ RB b c;exact(Ia.pin (b,o) (Bo _ (Bo _ (P6 c e)))).2.1
  refine i7 (Dc _ s8 _ H8 _ I8 lY) (λb s9⟨H9,I9,k⟩=>?_) no;cases b with
  |false=>
   have V:∃f,f < n/\W (i+1) f H9:=k;obtain⟨f,p,O⟩:=V;rw[eJ (by decide)];exact⟨f,p,i+1,_,H9,XJ,I9.M4,(a I9).1,(a I9).2,O⟩
  |true=>
   rw[eM rfl];rw[eM rfl]at k;refine i7 (Ct _ s9 _ H9 _ I9 k) (λI rK⟨y,W6,fK,oK,ys,Ao,hz,f,p,N⟩=>?_) no;refine i7 (YM (X:=Y) _ rK _ W6 (.ref acc) [y] (.ref acc) [I] (λ_ Zd=>Zd=upd W6 acc (.lst (ys++[y]))) fK rfl (.cons oK .nil) ⟨acc,ys,y,rfl,rfl,Ao,hz,rfl⟩)
    (λ_ zE⟨_,Zd,SH,_,sZ⟩=>?_) no
   subst sZ;exact⟨f,p,i+1,_,_,XJ,SH.M4,(a SH).1,(a SH).2,N⟩
theorem ZU{RR:Value->Addr->Result->Shared->Prop}(L:X.calm=true)(S:D0 X.N X.env.scope scope ce zs A6 js)
  (I:∀C s H,PG (ED X (A6++zs) scope ce (BC X.env.cells scope.names) C s H fp) tg g)
  (Dc:∀C s H,Gs (ED X (A6++zs) scope ce (BC X.env.cells scope.names) C s H fp) ifs tt) (Ct:∀C s H,PE (ED X (A6++zs) scope ce (BC X.env.cells scope.names) C s H fp) elt te)
  (T:Turn X.prog X.w X.K tg J fp it tn) (I2:Inv X Zj Z H2 s2) (IU:tn 0 s2.heap) (j:∀b∈fp,Dq X Zj H2 b) (Q:VK) (M:∀acc,H2 acc=none->KO g zs.length J js tt te Z H2 acc Q)
  (B:∀acc C H' s' m,Inv X Zj Z H' s'->Dq X Zj H' C->s'.heap.Ns C m->Q (.ref acc) H'->RR (.ref acc) C (.ok .next) s') :
  wpAny (model X.prog X.w) X.A (newList []) (λacc a=>wpAny (model X.prog X.w) X.A (newFunctionEnv scope X.env.globals (BC X.env.cells scope.names) [] X.env.qual none .none (some X.env)) (λZh s4=>
   codeAny (model X.prog X.w) X.A (.compStart (.ListComp elt [⟨tg,iter,ifs,0⟩] scope pos) 0 (.ref it) acc { Zh with scope:=relabel scope X.env }) (RR acc Zh.locals) s4) E a) E s2:=by
 refine j4 (kY S.cf S.pc ?_);have i:Inv X Zj Z (upd H2 s2.heap.objs.size (.lst [])) { s2 with heap:=s2.heap.push { cls:=.type "list", data:=.seq ([]:List Value).toArray } }:=I2.cS (t':=s2.toks) .nil (BN _)
 have t:∀b∈fp,b<s2.heap.objs.size:=λb c=>by
  obtain⟨o,e,_⟩:=T.obj _ _ IU b c;exact AY e
 have hsz:(s2.heap.push { cls:=.type "list", data:=.seq ([]:List Value).toArray }).objs.size=s2.heap.objs.size+1:=C1 ..;have f:∀b∈fp,Dq X Zj (upd H2 s2.heap.objs.size (.lst [])) b:=λb c=>⟨by rw[AN (Ad (t b c))];exact(j b c).1,(j b c).2⟩;generalize v:({ s2 with heap:=s2.heap.push { cls:=.type "list", data:=.seq ([]:List Value).toArray } }:Shared)=a at i ⊢
 have k:a.heap=s2.heap.push { cls:=.type "list", data:=.seq ([]:List Value).toArray }:=by rw[<- v]
 have y:∀b∈fp,b<a.heap.objs.size:=λb c=>by rw[k,hsz];exact Dw (t b c)
 generalize l:N0 ce (a.heap.push { cls:=.type "dict", data:=.dict #[] })=h1;have n:∀b o,(a.heap.push { cls:=.type "dict", data:=.dict #[] }).get? b=some o->h1.get? b=some o:=λb o e=>by
  rw[<- l];cases ce with
  |none=>exact e
  |some _=>exact Af _ e
 have old:∀b o,a.heap.get? b=some o->h1.get? b=some o:=λb o e=>n b o (Af _ e);have z:∀b o,s2.heap.get? b=some o->h1.get? b=some o:=λb o e=>old b o (by rw[k];exact Af _ e);have P:h1.Ns a.heap.objs.size (λ_=>none):=(Heap.Ns.new a.heap (.type "dict")).keeps n;have R:∀x,ce=some x->h1.IsCell (a.heap.objs.size+1) none:=λx hx=>by
  subst hx;rw[<- l];have e:(a.heap.push { cls:=.type "dict", data:=.dict #[] }).objs.size=a.heap.objs.size+1:=C1 ..;exact⟨_,by rw[<- e];exact Ay _ rfl,rfl⟩
 have O:=mO S i f y P old R (t':=a.toks);have r:tn 0 h1:=T.keep _ _ _ IU λb _ o e=>z b o e;obtain⟨W,⟨D,u⟩,h⟩:=M s2.heap.objs.size (I2.AA.fresh (AW _));have d:codeAny (model X.prog X.w) X.A (.compLoop (.ListComp elt [⟨tg,iter,ifs,0⟩] scope pos) 0 (.ref it) (.ref s2.heap.objs.size) (compEnvC scope (GB ce (a.heap.objs.size+1)++BC X.env.cells scope.names) a.heap.objs.size X.env))
   (RR (.ref s2.heap.objs.size) a.heap.objs.size) { a with heap:=h1 }:=by
  refine tZ (X:=X) (Y:=ED X (A6++zs) scope ce (BC X.env.cells scope.names) a.heap.objs.size a (upd H2 s2.heap.objs.size (.lst [])) fp) (acc:=s2.heap.objs.size) (Q:=Q) rfl rfl rfl rfl rfl L (I _ _ _) (Dc _ _ _) (Ct _ _ _) T (λb c ok=>⟨rfl,(ok.OZ b c).1,ok.Mt b c,.inl c,(ok.OZ b c).2,λp F=>by cases F⟩) W h O r (λb c=>(f b c).1) D u (de ..) λH' s' w I' q=>?_;obtain⟨m,G,_⟩:=I'.loc;exact B _ _ H' s' m (i.tG (ch:=fp) I'.os I'.base I'.AA I'.bare λb c=>⟨(f b c).2.2.2.1,(f b c).2.1,(f b c).2.2.2.2.1,(f b c).2.2.2.2.2⟩) (i.Nk (AW _) I'.free) G q
 exact codeAny_compStart_list d (T.self X.A 0 _ _ _ r d)
theorem bM(S:D0 X.N X.env.scope scope ce zs A6 js)(I:Inv X Zj Z H s):closureFor scope X.env=pure (BC X.env.cells scope.names):=Zs λy a hk=>by
 obtain⟨c,e⟩:=I.ok.has y.1 (S.all y a hk);rw[e];rfl
theorem T6(l:∀J Z H1 acc Q,CW J Z H1 acc Q->KO g zs.length J js tt te Z H1 acc Q)(i:X.calm=true)(S:D0 X.N X.env.scope scope ce zs A6 js)(hi:PI X tg iter wi)
  (f:∀fp C s H,PG (ED X (A6++zs) scope ce (BC X.env.cells scope.names) C s H fp) tg g)
  (Dc:∀fp C s H,Gs (ED X (A6++zs) scope ce (BC X.env.cells scope.names) C s H fp) ifs tt) (Ct:∀fp C s H,PE (ED X (A6++zs) scope ce (BC X.env.cells scope.names) C s H fp) elt te)
  (c:∀v,foldedSetIterable iter X.env v=pure v):PE X (.ListComp elt [⟨tg,iter,ifs,0⟩] scope pos) (Xy CW wi):=by
 intro Zj s Z H Q I h;rw[eval_ListComp];refine wpAny_comprehension_free (use:=none) rfl c (bM S I) S.kind S.loc (Aq (hi Zj s Z H _ I h) λv s1 h1=>Aq h1 λPN s2 h2=>?_);obtain⟨it,fp,tn,J,H2,e,I2,T,IU,n,hw⟩:=h2;subst e;refine ZU (RR:=λacc C=>compPost (model X.prog X.w) X.A X.xe none (EP X Zj Z Q) acc C) i S (f fp) (Dc fp) (Ct fp) T I2 IU n Q (λacc k=>l _ _ _ _ _ (hw acc k)) λacc C H' s' m I' a d q=>⟨m,d,λh' Fu=>?_⟩;exact⟨.ref acc,H',I'.turned (t':=s'.toks) (λb o j e=>(Fu.2 b j).trans e) a.1 a.2.1 a.2.2.2.1 a.2.2.2.2.1 a.2.2.2.2.2,rfl,q⟩
theorem tX(B:∀J Z H1 acc Q,CW J Z H1 acc Q->KO g zs.length J js tt te Z H1 acc Q){y:Str}(E:X.N.Nodup)(C6:X.N[i]?=some y)(k:Loc X.env.scope y)(u:X.calm=true)(S:D0 X.N X.env.scope scope ce zs A6 js)(hi:PI X tg iter wi)
  (r:∀fp C s H,PG (ED X (A6++zs) scope ce (BC X.env.cells scope.names) C s H fp) tg g)
  (Dc:∀fp C s H,Gs (ED X (A6++zs) scope ce (BC X.env.cells scope.names) C s H fp) ifs tt) (Ct:∀fp C s H,PE (ED X (A6++zs) scope ce (BC X.env.cells scope.names) C s H fp) elt te)
  (Mb:swapsWith (.ListComp elt [⟨tg,iter,ifs,0⟩] scope pos) (some (.Name y py)) IK.line X.env=pure true)
  (t:X.fn y=true∨X.env.scope.names.lookup y=some .local)
  (l:∀v,foldedSetIterable iter X.env v=pure v):PS X (.Assign [.Name y py] (.ListComp elt [⟨tg,iter,ifs,0⟩] scope pos) IK) (Dm (Xy CW wi) (CU i)):=by
 intro Zj s Z H D I h;rw[exec_Assign_Name_used _ _ _ _ Mb];refine Wo (wpAny_standAt (Wo ?_));show wpAny _ X.A (do let _ <- comprehension (.ListComp elt [⟨tg,iter,ifs,0⟩] scope pos) scope X.env _ (newList []) false (eval iter X.env) (some (assign (.Name y py) X.env))) _ _ s
 refine Wo (i7 (wpAny_comprehension_free (use:=some (assign (.Name y py) X.env)) (Q:=λ_ s'=>SP X Zj D .next s') rfl l (bM S I) S.kind S.loc
  (Aq (hi Zj s Z H _ I h) λv s1 h1=>Aq h1 λPN s2 h2=>?_)) (λ_ s' n=>dP (dP n)) λ_ _ e=>e)
 obtain⟨it,fp,tn,J,H2,e,I2,T,IU,F,hw⟩:=h2;subst e;refine ZU (RR:=λacc C=>compPost (model X.prog X.w) X.A X.xe (some (assign (.Name y py) X.env)) (λ_ s'=>SP X Zj D .next s') acc C) u S (r fp) (Dc fp) (Ct fp) T I2 IU F _ (λacc d=>B _ _ _ _ _ (hw acc d)) λacc C H' s' m I' c p q=>?_;show wpAny _ X.A (assign (.Name y py) X.env (.ref acc)) _ _ s';refine wpAny_assign_Name (cq (v:=.ref acc) I' E C6 k rfl (λHL f⟨a,j,d⟩=>?_) t);have G:C≠a:=by
  rcases d with z|z
  .rw[z];exact c.2.1
  .exact(c.2.2.2.2.1 y a z).symm
 refine⟨m,p.sameBut j G,λh' Fu=>?_⟩;exact⟨_,H',f.turned (t':=HL.toks) (λb o x e=>(Fu.2 b x).trans e) c.1 c.2.1 c.2.2.2.1 c.2.2.2.2.1 c.2.2.2.2.2,q⟩
theorem T3{n:Nat}{cl:List (Str×Addr)}:∀{names:List (Str×NameKind)},(∀y∈names,y.2≠.cell)->cellsFrom n names cl=cl
 | [],_=>rfl
 | (x,k)::r,h=>by
  have hk:(k == NameKind.cell)=false:=beq_eq_false_iff_ne.mpr (h _ Ae);rw[cellsFrom,hk];exact T3 λy a=>h y (Au _ a)
theorem R6{a:Heap}:∀{names:List (Str×NameKind)},(∀y∈names,y.2≠.cell)->pushCells a names=a
 | [],_=>rfl
 | (x,k)::r,h=>by
  have hk:(k == NameKind.cell)=false:=beq_eq_false_iff_ne.mpr (h _ Ae);rw[pushCells,hk];exact R6 λy b=>h y (Au _ b)
theorem D0.WV(kind:scope.kind=.function)(G1:∀y∈scope.names,y.2≠.cell)(loc:∀y∈scope.names,y.2=.local->scope.names.lookup y.1=some .local)
  (at':js.map (λj=>N[j]?)=A6.map some) (cell:∀y∈A6,outer.names.lookup y=some .cell) (free:∀y∈A6,scope.names.lookup y=some .free)
  (all:∀y∈scope.names,y.2=.free->outer.names.lookup y.1=some .cell) (nd:(A6++zs).Nodup):D0 N outer scope none zs A6 js:=
 ⟨kind,loc,λy a e=>absurd e (G1 y a),λx e=>(by cases e),λn cl=>T3 G1,λh=>R6 G1,at',λy a=>.inl (cell y a),free,λy a e=>.inl (all y a e),nd⟩
theorem D0.len(S:D0 N outer scope ce zs A6 js)(Z:St):(Ak js Z).length=A6.length:=by
 unfold Ak;rw[AB];have:=iI List.length S.at';simpa using this
theorem UM(S:D0 N outer scope ce [x] A6 js)(J:It)(Z:St)(H1:Hp)(acc:Addr)(Q:VK)(h:JG J js tt te Z H1 acc Q):KO (CU A6.length) 1 J js tt te Z H1 acc Q:=by
 obtain⟨W,a,h⟩:=h;refine⟨W,a,λi m H2 w=>(h i m H2 w).imp id λz=>⟨z.1,λx H3 y ws hw=>?_⟩⟩
 match ws,hw with
 | [w],_=>
  have e:(Ak js Z++[w]).set A6.length (some x)=Ak js Z++[some x]:=by rw[<- S.len Z];exact vV _ _ _
  exact⟨[some x],rfl,e,by rw[e];exact z.2 x H3 y⟩
theorem TY(S:D0 X.N X.env.scope scope ce [x] A6 js)(hx:scope.names.lookup x=some .local∨(ce=some x/\scope.names.lookup x=some .cell)):
  PG (ED X (A6++[x]) scope ce cl C s H fp) (.Name x px) (CU A6.length):=
 Sf S.nd (by simp) (hx.imp (λh=>sW h) λh=>pe h.2) (hx.symm.imp (λh=>by show(ce == some x)=true;rw[h.1];exact o3 _) λh=>sW h)
inductive Le:List Str->List Expr->Prop
 |nil:Le [] []
 |cons {x:Str}{zs:List Str}{p:Pos}{es:List Expr}:Le zs es->Le (x::zs) (.Name x p::es)
def Hw(i:Nat):Nat->G6
 | 0=>Lz
 |n+1=>Hy (CU i) (Hw (i+1) n)
theorem c4{Q:St->Hp->Prop}{H:Hp}:∀{us:List V}{l ws:St},ws.length=us.length->Q (l++us.map some) H->Hw l.length us.length us (l++ws) H Q
 | [],l,ws,h,q=>by
  rw[List.length_eq_zero_iff.mp h];exact⟨rfl,q⟩
 |u::us,l,w::ws,h,q=>by
  refine⟨u,us,rfl,?_⟩;show Hw (l.length+1) us.length us ((l++w::ws).set l.length (some u)) H Q;have e:(l++w::ws).set l.length (some u)=(l++[some u])++ws:=by
   rw[yY _ _ (AW _),NL];simp
  have el:l.length+1=(l++[some u]).length:=by simp
  rw[e,el];refine c4 (l:=l++[some u]) (by simpa using h) ?_
  rw[BY];exact q
theorem WM{X:Cx}(a:X.N.Nodup):∀{zs:List Str}{es:List Expr}{i:Nat},Le zs es->(∀(j:Nat)x,zs[j]?=some x->X.N[i+j]?=some x/\Loc X.env.scope x/\X.env.scope.names.lookup x=some .local)->Kc X es (Hw i zs.length)
 |_,_,_,.nil,_=>Zr
 |_,_,i,.cons (x:=x) (zs:=zs) r,h=>by
  obtain⟨h1,h2,c⟩:=h 0 _ rfl;refine Y4 (Sf a h1 h2 (.inr c)) (WM a r λj y b=>?_);have:=h (j+1) y b
  rwa [show i+(j+1)=i+1+j by omega]at this
def gM(K:zu)(n:Nat)(J:It)(js:List Nat)(tt:TT)(te:TE)(Z:St)(H1:Hp)(acc:Addr)(Q:VK):Prop:=
 ∃W:Nat->Nat->Hp->Prop,(∃m,W 0 m (upd H1 acc (.lst [])))/\∀i m H2,W i m H2->
  (J.stop i H2/\Q (.ref acc) H2)∨(J.go i H2/\∀x H3,J.D7 i H2 x H3->∃a us,x=.ref a/\Ag K H3 a us/\us.length=n/\Mp tt te acc W i m (Ak js Z++us.map some) H3)
theorem iA{K:zu}(S:D0 N outer scope ce zs A6 js)(J:It)(Z:St)(H1:Hp)(acc:Addr)(Q:VK)(h:gM K zs.length J js tt te Z H1 acc Q):KO (Io K zs.length (Hw A6.length zs.length)) zs.length J js tt te Z H1 acc Q:=by
 obtain⟨W,d,h⟩:=h;refine⟨W,d,λi m H2 w=>(h i m H2 w).imp id λz=>⟨z.1,λx H3 y ws hw=>?_⟩⟩;obtain⟨a,us,e,c,b,q⟩:=z.2 x H3 y;refine⟨a,us,e,c,b,?_⟩;rw[<- b,<- S.len Z];exact c4 (by rw[hw,b]) ⟨us.map some,AB ..,rfl,q⟩
theorem xR{tp:Pos}(d:X.calm=true)(S:D0 X.N X.env.scope scope ce zs A6 js)(Gb:∀x∈zs,scope.names.lookup x=some .local)(c:Le zs es)(f:∀e,(assignEach es e).length=zs.length)(Jo:∀e,(assignEach es e).findIdx? (·.1)=none):
  PG (ED X (A6++zs) scope ce cl C s H fp) (.Tuple es tk tp) (Io X.K zs.length (Hw A6.length zs.length)):=
 d9 (X:=ED X (A6++zs) scope ce cl C s H fp) d (WM S.nd (i:=A6.length) c λj y b=>by
  have a:=BL b;exact⟨by show(A6++zs)[A6.length+j]?=_;rw[Eg (by omega),Nat.add_sub_cancel_left];exact b,.inl (sW (Gb y a)),sW (Gb y a)⟩) (f _) (Jo _)
theorem DL.G(S:DL N outer scope x A6 js):D0 N outer scope none [x] A6 js:=.WV S.kind S.G1 S.loc S.at' S.cell S.free S.all S.nd
theorem eX(b:X.calm=true)(S:DL X.N X.env.scope scope x A6 js)(hi:PI X (.Name x px) iter wi)
  (Dc:∀fp C s H,Gs (FP X (A6++[x]) scope (BC X.env.cells scope.names) C s H fp) ifs tt) (Ct:∀fp C s H,PE (FP X (A6++[x]) scope (BC X.env.cells scope.names) C s H fp) elt te)
  (a:∀v,foldedSetIterable iter X.env v=pure v:=by intro _;rfl):PE X (.ListComp elt [⟨.Name x px,iter,ifs,0⟩] scope pos) (GN wi js tt te):=
 T6 (CW:=λJ Z H1 acc Q=>JG J js tt te Z H1 acc Q) (UM S.G) b S.G hi (λ_ _ _ _=>TY S.G (.inl S.Gb)) Dc Ct a
theorem nY{y:Str}(c:X.N.Nodup)(C6:X.N[i]?=some y)(a:Loc X.env.scope y)(b:X.calm=true)(S:DL X.N X.env.scope scope x A6 js)(hi:PI X (.Name x px) iter wi)
  (Dc:∀fp C s H,Gs (FP X (A6++[x]) scope (BC X.env.cells scope.names) C s H fp) ifs tt) (Ct:∀fp C s H,PE (FP X (A6++[x]) scope (BC X.env.cells scope.names) C s H fp) elt te)
  (Mb:swapsWith (.ListComp elt [⟨.Name x px,iter,ifs,0⟩] scope pos) (some (.Name y py)) IK.line X.env=pure true:=by rfl)
  (hf:X.fn y=true∨X.env.scope.names.lookup y=some .local:=by first|exact .inl rfl|exact .inr rfl|assumption)
  (hs:∀v,foldedSetIterable iter X.env v=pure v:=by intro _;rfl):PS X (.Assign [.Name y py] (.ListComp elt [⟨.Name x px,iter,ifs,0⟩] scope pos) IK) (Dm (GN wi js tt te) (CU i)):=
 tX (CW:=λJ Z H1 acc Q=>JG J js tt te Z H1 acc Q) (UM S.G) c C6 a b S.G hi (λ_ _ _ _=>TY S.G (.inl S.Gb)) Dc Ct Mb hf hs
end
def CA(K:zu)(tp:Bool)(H:Hp)(a:Addr)(xs:List V):Prop:=match tp with
 |false=>AI K H a xs
 |true=>Ag K H a xs
theorem CA.or{K:zu}{xs:List V}(h:CA K tp H a xs):AI K H a xs∨Ag K H a xs:=by
 cases tp
 .exact .inl h
 .exact .inr h
noncomputable def Hx(K:zu)(tp:Bool)(a:Addr)(xs:List V):It:=
 ⟨λi H=>CA K tp H a xs/\i<xs.length,λi H x H'=>H'=H/\xs[i]?=some x,λi H=>CA K tp H a xs/\xs.length<=i⟩
theorem vB{P:Program}{K:zu}(a it:Addr)(xs:List V):Turn P w K tg (Hx K false a xs) [it] it (λi h=>h.IsListIter it a i) where
 mem:=by simp
 obj:=(N2 (P:=P) (w:=w) (K:=K) (tg:=tg) a it).obj
 keep:=(N2 (P:=P) (w:=w) (K:=K) (tg:=tg) a it).keep
 item:=by
  intro X f hw g d i Zj s Z H E I c st b;obtain⟨j,hi⟩:=b;refine Aq ((N2 (P:=P) (w:=w) (K:=K) (tg:=tg) a it).item X f hw g d i Zj s Z H E I c st ⟨xs,xs[i],j,by simp[hi]⟩) λr s1 AU=>by obtain⟨u,e,h⟩:=AU;exact⟨u,e,Aq h λ_ s2 K8=>by obtain⟨x,H',I',k,y,Ed,l⟩:=K8;exact⟨x,H',I',k,⟨y.1,y.2 xs j⟩,Ed,l⟩⟩
 done:=by
  intro X f hw g d i Zj s Z H E I c st b;exact(N2 (P:=P) (w:=w) (K:=K) (tg:=tg) a it).done X f hw g d i Zj s Z H E I c st ⟨xs,b.1,b.2⟩
 self:=(N2 (P:=P) (w:=w) (K:=K) (tg:=tg) a it).self
theorem fL{P:Program}{K:zu}(a it:Addr)(xs:List V):Turn P w K tg (Hx K true a xs) [it] it (λi h=>h.IsTupleIter it a i) where
 mem:=by simp
 obj:=(LP (P:=P) (w:=w) (K:=K) (tg:=tg) a it).obj
 keep:=(LP (P:=P) (w:=w) (K:=K) (tg:=tg) a it).keep
 item:=by
  intro X f hw g d i Zj s Z H E I c st b;obtain⟨j,hi⟩:=b;refine Aq ((LP (P:=P) (w:=w) (K:=K) (tg:=tg) a it).item X f hw g d i Zj s Z H E I c st ⟨xs,xs[i],j,by simp[hi]⟩) λr s1 AU=>by obtain⟨u,e,h⟩:=AU;exact⟨u,e,Aq h λ_ s2 K8=>by obtain⟨x,H',I',k,y,Ed,l⟩:=K8;exact⟨x,H',I',k,⟨y.1,y.2 xs j⟩,Ed,l⟩⟩
 done:=by
  intro X f hw g d i Zj s Z H E I c st b;exact(LP (P:=P) (w:=w) (K:=K) (tg:=tg) a it).done X f hw g d i Zj s Z H E I c st ⟨xs,b.1,b.2⟩
 self:=(LP (P:=P) (w:=w) (K:=K) (tg:=tg) a it).self
def Ny(K:zu)(tl:TE):TI:=λZ H R=>tl Z H λx H1=>∃tp a xs,x=.ref a/\CA K tp H1 a xs/\R (Hx K tp a xs) H1
theorem C0{p:Addr}(h:H p=none)(o:HO):AF H (upd H p o):=λb u q=>by rw[AN (DE q h)];exact q
theorem AF.VN{K:zu}{xs:List V}(e:AF H H')(h:Ag K H a xs):Ag K H' a xs:=by
 rcases h with(h|⟨o,h⟩)|h
 .exact .inl (.inl (e _ _ h))
 .exact .inl (.inr ⟨o,e _ _ h⟩)
 .exact .inr h
theorem AF.sq{K:zu}{xs:List V}(e:AF H H')(h:CA K tp H a xs):CA K tp H' a xs:=by
 cases tp
 .exact AF.seq e h
 .exact AF.VN e h
theorem vn{Q:VK}(xs:List V)(f:V->Bool)(g:V->V)(Ao:H1 acc=none)(w:xs.length<=sizeLine)
  (l:∀i H,AF H1 H->i<xs.length->J.go i H) (Dv:∀H,AF H1 H->J.stop xs.length H) (n:∀i H x H',J.D7 i H x H'->H'=H/\xs[i]?=some x)
  (p:∀(i:Nat)(x:V)(H':Hp)(Q':Bool->Hp->Prop),xs[i]?=some x->AF H1 H'->(∀GA,AF H' GA->Q' (f x) GA)->tt (Ak js Z++[some x]) H' Q')
  (r:∀(i:Nat)(x:V)(H':Hp)(Q':VK),xs[i]?=some x->f x=true->AF H1 H'->(∀GA,AF H' GA->Q' (g x) GA)->te (Ak js Z++[some x]) H' Q')
  (hd:∀H',AF H1 H'->H' acc=some (.lst ((xs.filter f).map g))->Q (.ref acc) H'):JG J js tt te Z H1 acc Q:=by
 refine⟨λi m H=>m=xs.length - i/\i<=xs.length/\AF H1 H/\H acc=some (.lst (((xs.take i).filter f).map g)),⟨xs.length,by simp,BN _,C0 Ao _,AV⟩,?_⟩;rintro i m H2⟨rfl,hi,a,j⟩
 by_cases h:i<xs.length
 .refine .inr ⟨l i H2 a h,λx H3 y=>?_⟩;obtain⟨e,hx⟩:=n i H2 x H3 y;subst e;have v:(xs.take (i+1))=xs.take i++[x]:=by
   have t:xs[i]=x:=by
    rw[AL h]at hx;exact BB hx
   rw[JA h,t]
  have e1:List.filter f (xs.take (i+1))=(xs.take i).filter f++(if f x=true then[x]else[]):=by
   rw[v,QR];congr 1
   by_cases c:f x=true <;> simp[c]
  refine p i x _ _ hx a λH4 s4=>?_
  by_cases c:f x=true
  .rw[eM c];refine r i x H4 _ hx c (a.trans s4) λH5 k=>?_;have d:(((xs.take i).filter f).map g).length<sizeLine:=by
    rw[AB];have:=Vo f (xs.take i);rw[Fi]at this;omega
   refine⟨_,k _ _ (s4 _ _ j),d,xs.length - (i+1),by omega,rfl,h,λb o q=>?_,?_⟩
   .have s:b≠acc:=by rintro rfl;rw[Ao]at q;cases q
    rw[AN s];exact k _ _ (s4 _ _ (a b o q))
   .rw[AV,e1,eM c,Cw];rfl
  .have u:f x=false:=by simpa using c
   rw[u];rw[eJ (by decide)];refine⟨xs.length - (i+1),by omega,rfl,h,a.trans s4,?_⟩;rw[e1,eJ c,Ef];exact s4 _ _ j
 .have e:i=xs.length:=by omega
  subst e;refine .inl ⟨Dv H2 a,hd H2 a ?_⟩;rw[Eh]at j;exact j
theorem fW{K:zu}{xs:List V}{Q:VK}(f:V->Bool)(g:V->V)(b:CA K tp H1 a xs)(Ao:H1 acc=none)(c:xs.length<=sizeLine)
  (d:∀(i:Nat)(x:V)(H':Hp)(Q':Bool->Hp->Prop),xs[i]?=some x->AF H1 H'->(∀GA,AF H' GA->Q' (f x) GA)->tt (Ak js Z++[some x]) H' Q')
  (e:∀(i:Nat)(x:V)(H':Hp)(Q':VK),xs[i]?=some x->f x=true->AF H1 H'->(∀GA,AF H' GA->Q' (g x) GA)->te (Ak js Z++[some x]) H' Q')
  (hd:∀H',AF H1 H'->H' acc=some (.lst ((xs.filter f).map g))->Q (.ref acc) H'):JG (Hx K tp a xs) js tt te Z H1 acc Q:=
 vn xs f g Ao c (λi H s hi=>⟨s.sq b,hi⟩) (λH s=>⟨s.sq b,AW _⟩) (λi H x H' y=>y) d e hd
def EA(xs ys:List V):Bool:=xs.length == ys.length && (List.range xs.length).all λj=>DF (xs.getD j .A7) (ys.getD j .A7)
theorem Fp{xs:List V}{x:V}(h:xs[j]?=some x):xs.getD j .A7=x:=by rw[J7,h];rfl
theorem Z5{xs:List V}{x:V}(h:xs.all DP=true)(e:xs[j]?=some x):DP x=true:=List.all_eq_true.mp h x (BL e)
theorem OR{xs:List V}{BW:List Value}(c:Vals xs A0)(b:Vals ys BW)(i:xs.all DP=true)(h:ys.all DP=true):
  ∀j(h1:j<A0.toArray.size)(h2:j<BW.toArray.size),SeqAt.EqAt A s A0.toArray[j] BW.toArray[j] (DF (xs.getD j .A7) (ys.getD j .A7)):=λj h1 h2=>by
 have l1:=c.length;have l2:=b.length;have n:j<A0.length:=by simpa using h1
 have m:j<BW.length:=by simpa using h2
 have e1:xs[j]?=some (xs[j]'(by omega)):=AL _;have a:ys[j]?=some (ys[j]'(by omega)):=AL _;obtain⟨u,e,g⟩:=c.get e1;obtain⟨v,d,f⟩:=b.get a;rw[AL n]at e;rw[AL m]at d;have l:A0[j]=u:=BB e;have k:BW[j]=v:=BB d;rw[Fp e1,Fp a];have q:=QL (A:=A) (s:=s) g f (Z5 i e1) (Z5 h a);rw[<- l,<- k]at q
 simpa using q
def Kn(K:zu)(neg:Bool):R2:=λx y H Q=>∃p q xs ys,x=.ref p/\y=.ref q/\((AI K H p xs/\AI K H q ys)∨(Ag K H p xs/\Ag K H q ys))/\xs.all DP=true/\ys.all DP=true/\
 Q (.bl (if neg then !EA xs ys else EA xs ys)) H
theorem II{xs:List V}(h:xs.length≠ys.length):EA xs ys=false:=by
 unfold EA;have:(xs.length == ys.length)=false:=by simpa using h
 rw[this,dR]
theorem IS{xs:List V}(h:xs.length=ys.length):EA xs ys=(List.range xs.length).all λj=>DF (xs.getD j .A7) (ys.getD j .A7):=by
 unfold EA;have:(xs.length == ys.length)=true:=by simpa using h
 rw[this,LJ]
theorem Wy(f:X.A.units<cLine):BA X (compareOp .Eq) (Kn X.K false):=by
 intro Zj s Z H x y v u Q I r o h;obtain⟨p,q,xs,ys,rfl,rfl,t,l,k,w⟩:=h;cases r;cases o;have b:Q (.bl (EA xs ys)) H:=w;rcases t with⟨i,g⟩|⟨i,g⟩
 .obtain⟨A0,d,p1,n⟩:=I.list i;obtain⟨BW,c,p2,m⟩:=I.list g;have l1:=d.length;have l2:=c.length
  by_cases a:xs.length=ys.length
  .refine SeqAt.eq_listAt (e:=λj=>DF (xs.getD j .A7) (ys.getD j .A7)) p1.isList p2.isList (by simp;omega) f (OR d c l k) ⟨.bl _,H,I,rfl,?_⟩;rw[IS a]at b;simp only[Bp,<- l1];exact b
  .rw[II a]at b;exact SeqAt.eq_list_lengthsAt p1.isList p2.isList (by simp;omega) f ⟨.bl false,H,I,rfl,b⟩
 .obtain⟨A0,d,p1,n⟩:=I.tuple i;obtain⟨BW,c,p2,m⟩:=I.tuple g;have l1:=d.length;have l2:=c.length;refine SeqAt.eq_tupleAt (e:=λj=>DF (xs.getD j .A7) (ys.getD j .A7)) p1 p2 f (OR d c l k) ⟨.bl _,H,I,rfl,?_⟩;simp only[Bp,<- l1,<- l2]
  by_cases a:xs.length=ys.length
  .rw[IS a]at b;have:(xs.length == ys.length)=true:=by simpa using a
   rw[this,VY,<- a,dw];exact b
  .rw[II a]at b;have:(xs.length == ys.length)=false:=by simpa using a
   rw[this,KH];exact b
theorem OT(f:X.A.units<cLine):BA X (compareOp .NotEq) (Kn X.K true):=by
 intro Zj s Z H x y v u Q I r o h;obtain⟨p,q,xs,ys,rfl,rfl,t,l,k,w⟩:=h;cases r;cases o;have b:Q (.bl (!EA xs ys)) H:=w;rcases t with⟨i,g⟩|⟨i,g⟩
 .obtain⟨A0,d,p1,n⟩:=I.list i;obtain⟨BW,c,p2,m⟩:=I.list g;have l1:=d.length;have l2:=c.length
  by_cases a:xs.length=ys.length
  .refine SeqAt.RcNeAt.lists (e:=λj=>DF (xs.getD j .A7) (ys.getD j .A7)) p1.isList p2.isList (by simp;omega) f (OR d c l k) _ _ _ _ ⟨.bl _,H,I,rfl,?_⟩;rw[IS a]at b;simp only[Bp,<- l1];exact b
  .rw[II a]at b;exact z4 p1.isList p2.isList (by simp;omega) f _ _ _ _ ⟨.bl true,H,I,rfl,b⟩
 .obtain⟨A0,d,p1,n⟩:=I.tuple i;obtain⟨BW,c,p2,m⟩:=I.tuple g;have l1:=d.length;have l2:=c.length;refine SeqAt.RcNeAt.tuples (e:=λj=>DF (xs.getD j .A7) (ys.getD j .A7)) p1 p2 f (OR d c l k) _ _ _ _ ⟨.bl _,H,I,rfl,?_⟩;simp only[Bp,<- l1,<- l2]
  by_cases a:xs.length=ys.length
  .rw[IS a]at b;have:(xs.length == ys.length)=true:=by simpa using a
   rw[this,VY,<- a,dw];exact b
  .rw[II a]at b;have:(xs.length == ys.length)=false:=by simpa using a
   rw[this,KH];exact b
theorem x3:Bw X (.builtin "isinstance") (λxs H Q=>∃x n t b,xs=[x,.ty n]/\E6 X.K H x t/\PySem.W.kitOne X.K t (.type n)=some b/\Q (.bl b) H):=by
 intro Zj s Z H xs us Q I r h;obtain⟨x,n,t,b,rfl,ty,e,q⟩:=h;obtain⟨u,c,rfl,a,rt⟩:=vals2 r;cases rt;exact uW I a ty e λtk=>⟨.bl b,H,I.tok tk,rfl,q⟩
theorem ZN{bs:List Bool}(r:Vals (bs.map V.bl) A0)(e:A0[i]?=some v):v=.bool (bs.getD i false):=by
 have c:=r.length;rw[AB]at c;have hi:i<A0.length:=(List.getElem?_eq_some_iff.mp e).1;have e1:(bs.map V.bl)[i]?=some (.bl (bs[i]'(by omega))):=by rw[AM,AL (by omega)];rfl
 obtain⟨u,a,b⟩:=r.get e1;rw[e]at a;cases a;cases b;rw[J7,AL (by omega)];rfl
theorem range_all(bs:List Bool):(List.range bs.length).all (λi=>bs.getD i false)=bs.all id:=by
 rw[Hk,FI,FI];constructor
 .intro h x hx;obtain⟨i,hi,rfl⟩:=List.mem_iff_getElem.mp hx;have:=h i (List.mem_range.mpr hi);rw[J7,AL hi]at this;exact this
 .intro h i hi;rw[J7,AL (List.mem_range.mp hi)];exact h _ (FJ _)
theorem range_any(bs:List Bool):(List.range bs.length).any (λi=>bs.getD i false)=bs.any id:=by
 rw[Hk,KJ,KJ];constructor
 .rintro⟨i,hi,h⟩;have a:=List.mem_range.mp hi;rw[J7,AL a]at h;exact⟨_,FJ a,h⟩
 .rintro⟨x,hx,h⟩;obtain⟨i,hi,rfl⟩:=List.mem_iff_getElem.mp hx;refine⟨i,List.mem_range.mpr hi,?_⟩;rw[J7,AL hi];exact h
theorem bV(k:X.calm=true):Bw X (.builtin "all") (λxs H Q=>∃(p:Addr)(bs:List Bool),xs=[.ref p]/\AI X.K H p (bs.map V.bl)/\Q (.bl (bs.all id)) H):=by
 intro Zj s Z H xs us Q I r h;obtain⟨p,bs,rfl,j,q⟩:=h;obtain⟨u,rfl,d⟩:=vals1 r;cases d;obtain⟨A0,a,pl,t⟩:=I.list j;have c:=a.length;rw[AB]at c;refine call_all_walk (rY pl.isList ?_);obtain⟨o,n,ho,_⟩:=id pl;have m:p≠s.heap.objs.size:=Ad (AY ho);refine⟨s.heap.objs.size,_,_,_,_,_,λi=>bs.getD i false,rfl,W0 (by rw[N8];exact I.ok.hd k) _ p m A0.toArray,⟨⟨_,Ay _ rfl,rfl,rfl⟩,pl.isList.push _⟩,λi v s' Q' E' g Cr=>?_,λh' tk kp=>?_⟩
 .have l:v=.bool (bs.getD i false):=ZN a (by simpa using g)
  rw[l];exact lZ Cr
 .refine⟨.bl _,H,I.kept (t':=tk) λb f e=>kp b f (by simpa using Ad (AY e)) (Af _ e),rfl,?_⟩
  rw[Bp,<- c,range_all];exact q
theorem ju(k:X.calm=true):Bw X (.builtin "any") (λxs H Q=>∃(p:Addr)(bs:List Bool),xs=[.ref p]/\AI X.K H p (bs.map V.bl)/\Q (.bl (bs.any id)) H):=by
 intro Zj s Z H xs us Q I r h;obtain⟨p,bs,rfl,j,q⟩:=h;obtain⟨u,rfl,d⟩:=vals1 r;cases d;obtain⟨A0,a,pl,t⟩:=I.list j;have c:=a.length;rw[AB]at c;refine call_any_walk (rY pl.isList ?_);obtain⟨o,n,ho,_⟩:=id pl;have m:p≠s.heap.objs.size:=Ad (AY ho);refine⟨s.heap.objs.size,_,_,_,_,_,λi=>bs.getD i false,rfl,W0 (by rw[N8];exact I.ok.hd k) _ p m A0.toArray,⟨⟨_,Ay _ rfl,rfl,rfl⟩,pl.isList.push _⟩,λi v s' Q' E' g Cr=>?_,λh' tk kp=>?_⟩
 .have l:v=.bool (bs.getD i false):=ZN a (by simpa using g)
  rw[l];exact lZ Cr
 .refine⟨.bl _,H,I.kept (t':=tk) λb f e=>kp b f (by simpa using Ad (AY e)) (Af _ e),rfl,?_⟩
  rw[Bp,<- c,range_any];exact q
def Tn:V->List V->Hp->VK->Prop:=λx vs H Q=>∃(l:Addr)(xs:List V)(j:Int)(y:V),x=.ref l/\vs=[.int j,y]/\H l=some (.lst xs)/\0<=j/\j<=xs.length/\xs.length<sizeLine/\Q .A7 (upd H l (.lst (xs.take j.toNat++y::xs.drop j.toNat)))
theorem wo:V7 X "list.insert" Tn:=by
 intro Zj s Z H x vs v us Q I d f h;obtain⟨l,xs,j,y,rfl,rfl,b,u,w,B,q⟩:=h;cases d;obtain⟨A,a,rfl,g,c⟩:=f.two;obtain⟨t,rfl⟩:=g;obtain⟨z,A0,n,r,k,e⟩:=I.Ma b;have h2:j<2 ^ 63:=by
  have C:(xs.length:Int)<=(sizeLine:Int):=Int.ofNat_le.mpr z;have D:((sizeLine:Nat):Int)<2 ^ 63:=by exact_mod_cast KC
  omega
 have o:(!Builtin.List.listFitsIndex j)=true->False:=by
  have h1:Builtin.List.listFitsIndex j=true:=by
   unfold Builtin.List.listFitsIndex;rw[Cn];exact⟨eV (by omega),eV h2⟩
  rw[h1];exact λh=>nomatch h
 have p:A0.toArray.size<=sizeLine:=CC (LM (List.size_toArray.trans k.symm)) z;refine call_meets yq ⟨_,e,rfl⟩ PySem.F.entry_list_insert (PySem.F.args_list_insert_3 _ _ _) (PySem.AutoSeq1.list_insert_list_int_val_1 l A0.toArray n j t a o p) ⟨e,?_⟩;refine⟨.A7,_,I.Rv (its':=A0.take j.toNat++a::A0.drop j.toNat) b e ?_ ((r.take _).append (.cons c (r.drop _))) ?_,rfl,q⟩
 .have m:¬ (j<0):=by omega
  have i:min j.toNat A0.toArray.size=j.toNat:=by simp;omega
  simp only[m,if_false,i];apply Array.toList_inj.mp;simp;exact Vq (by simp)
 .rw[BQ,Am,Fi,Vn];omega
def oR:V->Option Int->Option Int->Hp->VK->Prop:=λx lo hi H Q=>∃z,x=.str z/\z.length<=sizeLine/\Q (.str (Txt.slice z lo hi)) H
theorem part_of{o:Option Int}(p:IsPart v o):∃l:Option (Int×Tok),v=partValue l/\l.map (·.1)=o:=by
 cases p with
 |none=>exact⟨none,rfl,rfl⟩
 |int i t=>exact⟨some (i,t),rfl,rfl⟩
theorem XE:TX X oR:=by
 intro Zj s Z H x v i g lo hi sl Q I a e pl b h;obtain⟨z,rfl,c,q⟩:=h;obtain⟨t,rfl⟩:=a;obtain⟨l,rfl,f⟩:=part_of pl;obtain⟨u,rfl,d⟩:=part_of b;subst f;subst d;refine⟨"str", _,F.slot_str_getitem.lookup,typeIs_str _ _ _,wpAny_getItem_str_slice (l:=l) (u:=u) (st:=none) e rfl (post_val_or_str ⟨CC (Txt.slice_le z _ _) c,λt' k=>?_⟩)⟩;exact⟨.str _,H,I.tok k,⟨t',rfl⟩,q⟩
end L2
set_option exponentiation.threshold 5000
namespace L2
variable{a f p:Addr}{H:Hp}
def AG(P:Program)(w:World)(K:zu)(mg:zw)(Zu:Heap)(x:Str)(k:Nat)(ps:List Str)(sp:Sp):Prop:=
 ∃f fd,DT P w K mg Zu D8 k f fd ps sp/\Binds K fd ps []/\PySem.W.keepIn K (.ref f)=true/\mg x=some (.ref f)
section
variable{P:Program}{w:World}{K:zu}{mg:zw}{Zu:Heap}{x qual:Str}{k:Nat}{ps:List Str}{sp:Sp}{st:Stmt}{fd:FuncData}
theorem AG.mk(F:AQ K x qual st f fd)(b:Binds K fd ps [])(m:mg x=some (.ref f))(h:DT P w K mg Zu D8 k f fd ps sp):AG P w K mg Zu x k ps sp:=⟨f,fd,h,b,F.kp,m⟩
variable{X:Cx}{j:Nat}{p pos:Pos}{e:Expr}{es:List Expr}{t:TA}
def Ii(K:zu):List V->Hp->VK->Prop:=λxs H Q=>∃(p:Addr)(ys:List V),xs=[.ref p]/\(AI K H p ys∨Ag K H p ys)/\Q (.int ys.length) H
theorem CD:Bw X (.builtin "len") (Ii X.K):=LB
def d6(K:zu):List V->Hp->VK->Prop:=λxs H Q=>∃(x:V)(n:String)(t:Value)(b:Bool),xs=[x,.ty n]/\E6 K H x t/\PySem.W.kitOne K t (.type n)=some b/\Q (.bl b) H
theorem aE:Bw X (.builtin "isinstance") (d6 X.K):=x3
theorem Oy:Jc X "list.append" RD:=YM
theorem iW:Jc X "list.insert" Tn:=wo
theorem uM:Jc X "list.pop" Sk:=vA
def pJ(i j:Int):Prop:=i.natAbs<2 ^ 1000/\j.natAbs<2 ^ 1000
theorem WK{n:Nat}(h:n<2 ^ 1000):n.log2<1000:=by
 rcases yc n with e|e
 .subst e;exact(show(0:Nat).log2<1000 by decide)
 .exact(Nat.log2_lt (DO e)).mpr h
theorem bits_le{i:Int}(h:i.natAbs<2 ^ 1000):Builtin.Int.intBits i<=2 ^ 20:=by
 unfold Builtin.Int.intBits;split
 .exact BN _
 .have:=WK h;have e:(2:Nat) ^ 20=1048576:=by decide
  omega
theorem Ju:BA X (binaryOp .Mult) (rI pJ λi j=>.int (i * j)):=Pl λ_ _ _ _ _ _ _ a q=>mul_int q (.of_bits (bits_le a.1) (bits_le a.2))
theorem T9:BA X (binaryOp .FloorDiv) (rI (λ_ j=>0<j/\j.natAbs<2 ^ 1000) λi j=>.int (i / j)):=Pl λi j _ _ _ _ _ a q=>by
 have h1:(0:Int)<j:=a.1;have h2:=WK a.2;exact floordiv_int (by omega) (by rw[Int.fdiv_eq_ediv_of_nonneg i (by omega)];exact q) (.inl (PyProof.noPylong_of_log2 (by omega)))
theorem tI{body rest:List Stmt}{t u:TS}(e:body=st::rest)(h:PS X st t)(h2:DR X rest u):DR X body (Km t u):=by rw[e];exact jb h h2
def UI(t:TS):TS:=λD Z H=>∃J:St->Hp->Prop,t { D with nx:=J } Z H/\∀ σ' H',J σ' H'->D.nx σ' H'
end
theorem r6{K:zu}{tp:Bool}{xs:List V}{g:TG}{tb:TS}{D:Ends}{Z:St}(Pv:Nat->St->Hp->Prop)(j:Pv 0 Z H)(h:∀i Z H,i<=xs.length->Pv i Z H->CA K tp H a xs)
  (f:∀i x Z H,xs[i]?=some x->Pv i Z H->g x Z H λσ2 H2=>tb { D with nx:=Pv (i+1),ct:=Pv (i+1),bk:=D.nx } σ2 H2) (hd:∀ Z H,Pv xs.length Z H->D.nx Z H) :
  ∃W:Nat->Nat->St->Hp->Prop,(∃m,W 0 m Z H)/\∀i m Z H,W i m Z H->
   ((Hx K tp a xs).stop i H/\D.nx Z H)∨((Hx K tp a xs).go i H/\∃N:St->Hp->Prop,(∀ σ' H',N σ' H'->∃b,b < m/\W (i+1) b σ' H')/\∀x H',(Hx K tp a xs).D7 i H x H'->g x Z H' λσ2 H2=>tb { D with nx:=N,ct:=N,bk:=D.nx } σ2 H2):=by
 refine⟨λi m Z H=>m=xs.length - i/\i<=xs.length/\Pv i Z H,⟨xs.length,by simp,BN _,j⟩,λi m Z H⟨e,hi,p⟩=>?_⟩;subst e;have q:=h i Z H hi p
 by_cases c:i<xs.length
 .refine .inr ⟨⟨q,c⟩,Pv (i+1),λσ' H' d=>⟨xs.length - (i+1),by omega,rfl,c,d⟩,λx H' y=>?_⟩;obtain⟨e,y⟩:=y;subst e;exact f i x Z _ y p
 .have e:i=xs.length:=by omega
  subst e;exact .inl ⟨⟨q,AW _⟩,hd Z H p⟩
def FV(p:Addr)(H H':Hp):Prop:=∀b o,b≠p->H b=some o->H' b=some o
theorem FV.trans{H1 H2:Hp}(a:FV p H H1)(b:FV p H1 H2):FV p H H2:=λc o d e=>b c o d (a c o d e)
theorem FV.of{H':Hp}(a:AF H H'):FV p H H':=λc o _ e=>a c o e
theorem FV.upd{o:HO}:FV p H (upd H p o):=λc u a e=>by rw[AN a];exact e
end L2
set_option maxHeartbeats 8000000
namespace L2
variable{ss:List Str}
def EF(acc:List Str)(x:Str):List Str:=if acc.any (· == x)then acc else acc++[x]
def dd(ss:List Str):List Str:=ss.foldl EF []
theorem kX(acc:List Str)(x k:Str):(EF acc x).any (· == k)=(acc.any (· == k) || decide (k=x)):=by
 unfold EF
 by_cases h:acc.any (· == x)=true
 .rw[eM h]
  by_cases e:k=x
  .subst e;rw[h];simp
  .simp[e]
 .rw[eJ h,List.any_append]
  by_cases e:k=x
  .subst e;simp
  .have a:(x == k)=false:=by simpa[w8]using(λh':x=k=>e h'.symm)
   simp[a,e]
theorem WR(acc:List Str)(x:Str):(EF acc x).length=if acc.any (· == x)then acc.length else acc.length+1:=by
 unfold EF;split <;> simp
theorem dH(ss:List Str)(i:Nat)(h:i<ss.length):dd (ss.take (i+1))=EF (dd (ss.take i)) ss[i]:=by
 unfold dd;rw[JA h,yJ];rfl
theorem SI(ss:List Str):(dd ss).length<=ss.length:=by
 have:∀(l acc:List Str),(l.foldl EF acc).length<=acc.length+l.length:=by
  intro l
  induction l with
  |nil=>intro acc;simp
  |cons x r a=>
   intro acc;rw[LL];have h1:=a (EF acc x);rw[WR]at h1;simp only[Am];split at h1 <;> omega
 have q:=this ss [];simp only[ND,NM]at q;exact q
section
variable{prog:Program}{w:World}{A:Around}{R:Result->Shared->Prop}{I:Addr}{fp wr:List Addr}{G:Array GenState->Array GenState->Prop}{n:Nat}{P:Nat->Value->Prop}{St:Nat->Shared->Prop}
variable{E:Value->Shared->Prop}{s:Shared}
theorem sub_tuple_set:isSubtype (.type "tuple") (.type "set")=pure false:=by rw[mI];kernel_rfl
theorem sub_tuple_frozenset:isSubtype (.type "tuple") (.type "frozenset")=pure false:=by rw[mI];kernel_rfl
end
noncomputable def qr(P:Program)(w:World)(a:Addr)(f:Str->Bool)(n:Nat):HO:=.ext λh=>h.SetOf (strKind P w) a f n
section
variable{X:Cx}
theorem bB{A0:List Value}(r:Vals (ss.map V.str) A0){i:Nat}{v:Value}(e:A0[i]?=some v):∃(h:i<ss.length)(t:Tok),v=.str ss[i] t:=by
 have d:=r.length;rw[AB]at d;have hi:i<A0.length:=(List.getElem?_eq_some_iff.mp e).1;have b:i<ss.length:=by omega
 have e1:(ss.map V.str)[i]?=some (.str ss[i]):=by rw[AM,AL b];rfl
 obtain⟨u,a,c⟩:=r.get e1;rw[e]at a;cases a;obtain⟨t,q⟩:=c;exact⟨b,t,q⟩
end
end L2
set_option maxHeartbeats 4000000
namespace L2
variable{X:Cx}{a c e l o tg:Expr}{es ifs:List Expr}{body rest:List Stmt}{t tb:TS}{tc tt:TT}{te tl to:TE}{p pos pos' px:Pos}{name x y:Str}{op:CmpOp}{r:V->List V->Hp->VK->Prop}{ps:List Str}{sp:Sp}{T:String}{wi:TI}{i n:Nat}{g:TG}{w:World}{I f:Addr}
structure QE (X:Cx) (e:Expr) (t:TE):Prop where h:PE X e t
structure QT (X:Cx) (e:Expr) (t:TT):Prop where h:PT X e t
structure QW (X:Cx) (e:Expr) (t:TT):Prop where h:PW X e t
structure QA (X:Cx) (es:List Expr) (t:TA):Prop where h:PA X es t
structure QS (X:Cx) (st:Stmt) (t:TS):Prop where h:PS X st t
structure ER (X:Cx) (st:List Stmt) (t:TS):Prop where h:DR X st t
structure QG (X:Cx) (tg:Expr) (t:TG):Prop where h:PG X tg t
structure Nd (X:Cx) (ts:List Expr) (t:G6):Prop where h:Kc X ts t
structure QI (X:Cx) (tg iter:Expr) (wi:TI):Prop where h:PI X tg iter wi
structure MV (X:Cx) (ifs:List Expr) (t:TT):Prop where h:Gs X ifs t
structure QO (X:Cx) (e:Option Expr) (t:TO):Prop where h:PO X e t
section
variable{b:Expr}{rest:List Expr}{ta tb tc:TE}{tA Hg:TT}{t:TA}{p2 apos CP:Pos}
theorem qv(i:Nat)(g:X.N[i]?=some x:=by rfl)(hv:UZ X.env.scope x:=by first|exact Or.inl rfl|exact Or.inr (Or.inl rfl)|exact Or.inr (Or.inr rfl))(hd:(x == ("__debug__":Str))=false:=by decide)
  (E4:(x == ("__classdict__":Str))=false:=by decide):QE X (.Name x pos) (BE i):=⟨by
 intro Zj s Z H Q I h;obtain⟨v,e,h⟩:=h;obtain⟨m,b,f⟩:=I.loc;obtain⟨u,r,l⟩:=f i x v g e hv;have fin:EP X Zj Z Q u s:=⟨v,H,I,r,h⟩;rcases l with⟨hk,d⟩|⟨hk,c,a,Ya⟩
 .exact wpAny_Name (wpAny_loadName_local I.ok.kind hk b d fin) hd
 .rcases hk with hk|hk
  .exact wpAny_Name (wpAny_loadName_cell I.ok.kind hk a Ya fin) hd
  .exact wpAny_Name (wpAny_loadName_free I.ok.kind hk a Ya fin E4) hd⟩
theorem AD{i j pos}:QE X (.Constant (.int i) j pos) (tC (.int i)):=⟨λ_ _ _ H _ I h=>wpAny_Constant_int ⟨.int i,H,I.tok _,⟨_,rfl⟩,h⟩⟩
theorem GP{b j pos}:QE X (.Constant (.bool b) j pos) (tC (.bl b)):=⟨λ_ _ _ H _ I h=>Constant_bool ⟨.bl b,H,I,rfl,h⟩⟩
theorem VI{j pos}:QE X (.Constant .none j pos) (tC .A7):=⟨λ_ _ _ H _ I h=>Constant_none ⟨.A7,H,I,rfl,h⟩⟩
theorem DB{x j pos}:QE X (.Constant (.str x) j pos) (tC (.str x)):=⟨λ_ _ _ H _ I h=>Calls.Constant_str ⟨.str x,H,I.tok _,⟨_,rfl⟩,h⟩⟩
theorem Wb{v:V}{u:Value}(b:Gl X x)(a:X.mg x=some u)(r:RelV v u)(hd:(x == ("__debug__":Str))=false:=by decide):QE X (.Name x pos) (tC v):=⟨λ_ _ _ H _ I h=>Zv I b a ⟨v,H,I,r,h⟩ hd⟩
theorem ZD(T:String)(a:X.mg x=none)(b:Gl X x:=by rfl)(hv:bootBuiltins x=some (.type T):=by decide +kernel)(hn:x ≠"__name__" := by decide)(hd:(x == ("__debug__":Str))=false:=by decide):
  QE X (.Name x pos) (tC (.ty T)):=⟨mX b a hv rfl hn hd⟩
theorem BD{op:Operator}{r:R2}(ho:BA X (binaryOp op) r)(d:QE X a ta)(c:QE X b tb):QE X (.BinOp a op b pos) (BF r ta tb):=⟨by
 have d:=d.h;have c:=c.h;intro Zj s Z H Q I h;exact wpAny_BinOp (R9 d c I h λv u s2 x y H2 I2 f e q=>ho Zj s2 Z H2 x y v u Q I2 f e q)⟩
theorem UJ{op:UnaryOp}{r:V->Hp->VK->Prop}(ho:P9 X (unaryOp op) r)(b:QE X a ta):QE X (.UnaryOp op a pos) (P0 r ta):=⟨by
 have b:=b.h;intro Zj s Z H Q I h;exact UnaryOp_ (Aq (b Zj s Z H _ I h) λv s1 AU=>by obtain⟨x,H1,I1,c,d⟩:=AU;exact ho Zj s1 Z H1 x v Q I1 c d)⟩
theorem o6{r:R2}(ho:BA X (compareOp op) r)(d:QE X a ta)(c:QE X b tb)(g:behindInMarks op b=false):QE X (.Compare a [op] [b] pos) (BF r ta tb):=⟨by
 have d:=d.h;have c:=c.h;intro Zj s Z H Q I h;exact wpAny_Compare1 (R9 d c I h λv u s2 x y H2 I2 f e q=>ho Zj s2 Z H2 x y v u Q I2 f e q) g⟩
theorem gC{r:R2}(ho:BA X (compareOp op) r)(e:QE X a ta)(d:QE X b tb)(c:behindInMarks op b=false):QT X (.Compare a [op] [b] pos) (M1 (BF r ta tb)):=⟨nc ho e.h d.h c⟩
theorem X3{Jd:CmpOp}{r l:R2}(ho:BA X (compareOp op) r)(Bz:BA X (compareOp Jd) l)(i:QE X a ta)(g:QE X b tb)(f:QE X c tc)
  (D:lastMarks [op,Jd] [b,c]=false:=by with_unfolding_all rfl):QE X (.Compare a [op,Jd] [b,c] pos) (TQ r l ta tb tc):=⟨by
 have i:=i.h;have g:=g.h;have f:=f.h;intro Zj s Z H Q I h;refine Compare_chain (i.k I h λv s1 x H1 I1 w C=>chain_link (g.k I1 C λu s2 y H2 I2 j B=>
  Aq (ho Zj s2 Z H2 x y v u _ I2 w j B) λd p⟨z,H3,I3,t,k,e,m⟩=>?_)) D
 subst e;cases t;refine lZ ?_;cases k with
 |false=>exact ite_ff ⟨.bl false,H3,I3,rfl,m⟩
 |true=>exact ite_tt (chain_last (Aq (f Zj p Z H3 _ I3 m) λo s4⟨n,H4,I4,q,A⟩=>Bz Zj s4 Z H4 y n u o Q I4 j q A))⟩
theorem Lq{op}(h:QE X a ta):QE X (.BoolOp op [a] pos) ta:=⟨by have h:=h.h;exact λZj s Z H Q I hw=>BoolOp_one (h Zj s Z H Q I hw)⟩
theorem MC(f:QE X a ta)(e:QE X (.BoolOp .And (b::rest) pos) tb):QE X (.BoolOp .And (a::b::rest) pos) (SX ta tb):=⟨by
 have f:=f.h;have e:=e.h;intro Zj s Z H Q I h;refine BoolOp_and (f.k I h λv s1 x H1 I1 g d=>?_);obtain⟨c,rfl,d⟩:=d;cases g;refine lZ ?_;cases c with
 |true=>exact e Zj s1 Z H1 Q I1 d
 |false=>exact⟨.bl false,H1,I1,rfl,d⟩⟩
theorem mh(f:QE X a ta)(e:QE X (.BoolOp .Or (b::rest) pos) tb):QE X (.BoolOp .Or (a::b::rest) pos) (R1 ta tb):=⟨by
 have f:=f.h;have e:=e.h;intro Zj s Z H Q I h;refine BoolOp_or (f.k I h λv s1 x H1 I1 g d=>?_);obtain⟨c,rfl,d⟩:=d;cases g;refine lZ ?_;cases c with
 |false=>exact e Zj s1 Z H1 Q I1 d
 |true=>exact⟨.bl true,H1,I1,rfl,d⟩⟩
theorem pN(d:QE X a ta):QE X (.UnaryOp .Not a pos) (UK ta):=⟨by
 have d:=d.h;intro Zj s Z H Q I h;refine UnaryOp_ (d.k I h λv s1 x H1 I1 e b=>?_);obtain⟨c,rfl,b⟩:=b;cases e;exact not_of (lZ ⟨.bl (!c),H1,I1,rfl,b⟩)⟩
theorem ME(b:QT X a tA):QW X (.BoolOp .And [a] pos) tA:=⟨by
 have b:=b.h;intro d Zj s Z H Q I h;refine isTrue_and (Aq (b Zj s Z H Q I h) λc s1 e=>?_);cases c with
 |true=>exact isTrue_and_nil e
 |false=>exact e⟩
theorem V0(b:QT X a tA):QW X (.BoolOp .Or [a] pos) tA:=⟨by
 have b:=b.h;intro d Zj s Z H Q I h;refine isTrue_or (Aq (b Zj s Z H Q I h) λc s1 e=>?_);cases c with
 |false=>exact isTrue_or_nil e
 |true=>exact e⟩
theorem KA(e:QT X a tA)(d:QW X (.BoolOp .And (b::rest) pos) Hg):QW X (.BoolOp .And (a::b::rest) pos) (RX tA Hg):=⟨by
 have e:=e.h;have d:=d.h;intro g Zj s Z H Q I h;refine isTrue_and (Aq (e Zj s Z H _ I h) λc s1 Lv=>?_);obtain⟨H1,I1,f⟩:=Lv;cases c with
 |true=>exact d g Zj s1 Z H1 Q I1 f
 |false=>exact⟨H1,I1,f⟩⟩
theorem Pp(e:QT X a tA)(d:QW X (.BoolOp .Or (b::rest) pos) Hg):QW X (.BoolOp .Or (a::b::rest) pos) (Lj tA Hg):=⟨by
 have e:=e.h;have d:=d.h;intro g Zj s Z H Q I h;refine isTrue_or (Aq (e Zj s Z H _ I h) λc s1 Lv=>?_);obtain⟨H1,I1,f⟩:=Lv;cases c with
 |true=>exact⟨H1,I1,f⟩
 |false=>exact d g Zj s1 Z H1 Q I1 f⟩
theorem QW.pt{t:TT}(h:QW X e t):QT X e t:=⟨h.h.pt⟩
theorem M3(b:QT X a tA):QT X (.UnaryOp .Not a pos) (R5 tA):=⟨by
 have b:=b.h;intro Zj s Z H Q I h;exact isTrue_not (b Zj s Z H (λc H1=>Q (!c) H1) I h)⟩
theorem JL(h:QE X e te)(f:∀a,isTrue e X.env a=(do let v <- a;standAt e.pos;holding [v] (truthy v)):=by intro _;rfl):QT X e (tB te):=⟨by
 have h:=h.h;intro Zj s Z H Q I hw;refine isTrue_plain (h.k I hw λv s1 x H1 I1 b c=>?_) (f _);obtain⟨d,rfl,q⟩:=c;cases b;exact lZ ⟨H1,I1,q⟩⟩
theorem A5:QA X [] BV:=⟨λ_ _ _ _ H Q I h=>Calls.spliced_nil ⟨[],H,I,.nil,h⟩⟩
theorem A3(c:QE X e te)(b:QA X es t)(a:EW X e es:=by rfl):QA X (e::es) (Ah te t):=⟨fw c.h b.h a⟩
theorem Iu{x1}(h:QA X es t):QE X (.Tuple es x1 pos) (S9 t):=⟨xB h.h⟩
theorem EI(h:QA X es t):QE X (.List es pos) (Rz t):=⟨vx h.h⟩
theorem bh:QO X none cp:=⟨by
 intro Zj s Z H Q I h;rw[evalPart_none];exact dP ⟨none,H,I,.none,h⟩⟩
theorem ZX(h:QE X e te):QO X (some e) (aY te):=⟨by
 have h:=h.h;intro Zj s Z H Q I hw;rw[evalPart_some];refine Aq (h Zj s Z H _ I hw) λu s1 V8=>?_;obtain⟨x,H1,I1,a,b⟩:=V8;obtain⟨i,rfl,q⟩:=b;obtain⟨t,rfl⟩:=a;exact⟨some i,H1,I1,.int i t,q⟩⟩
theorem cg{r:V->Option Int->Option Int->Hp->VK->Prop}{lo hi:Option Expr}{tl th:TO}(y:TX X r)(i:QE X e te)(g:QO X lo tl)(f:QO X hi th):QE X (.Subscript e (.Slice lo hi none p2) pos) (XU r te tl th):=⟨by
 have i:=i.h;have g:=g.h;have f:=f.h;intro Zj s Z H Q I h;refine Subscript_ (i.k I h λv s1 x H1 I1 j o=>?_);refine wpAny_Slice (Aq (g Zj s1 Z H1 _ I1 o) λd s2⟨l,H2,I2,pl,n⟩=>Aq (f Zj s2 Z H2 _ I2 n) λc a Sh=>?_);obtain⟨u,H3,I3,p,m⟩:=Sh;rw[evalPart_none];refine dP ?_;have C:Inv X Zj Z H3 { a with heap:=a.heap.push { cls:=.type "slice", data:=.fields #[d,c,.none] } }:=I3.kept (t':=a.toks) λb D q=>Af _ q
 obtain⟨T,id,B,t,z⟩:=y Zj { a with heap:=a.heap.push { cls:=.type "slice", data:=.fields #[d,c,.none] } } Z H3 x v d c l u a.heap.objs.size Q C j (Heap.IsSliceOf.new ..) pl p m
 show wpAny (model X.prog X.w) X.A (subscriptTail e (.Slice lo hi none p2) v (.ref a.heap.objs.size)) (EP X Zj Z Q) X.xe { a with heap:=a.heap.push { cls:=.type "slice", data:=.fields #[d,c,.none] } }
 exact tail_any (ops:=[.ref a.heap.objs.size,v]) t B z (by with_unfolding_all rfl)⟩
theorem uT{r:R2}(i:EY X r)(d:QE X a ta)(c:QE X b tb)(g:Ue b):QE X (.Subscript a b pos) (BF r ta tb):=⟨by
 have d:=d.h;have c:=c.h;intro Zj s Z H Q I h;exact Subscript_ (R9 d c I h λv u s2 x y H2 I2 f e q=>i a b Zj s2 Z H2 x y v u Q I2 f e q (g _ _))⟩
theorem o5{j k:Nat}(h:AG X.prog X.w X.K X.mg X.base x k ps sp)(c:Bc j X.A)(hk:k<=j)(a:QA X (e::es) t)(d:Gl X x:=by rfl)(DG:(x == ("__debug__":Str))=false:=by decide)
  (he:EW X e es:=by rfl) (B0:BEq X pos es:=by rfl):QE X (.Call (.Name x p) (e::es) [] pos) (Dy sp [] E0 t):=⟨by
 have a:=a.h;obtain⟨f,fd,F,b,kp,m⟩:=h;exact fO (F.mono hk) c d m kp b .nil fV a DG he B0⟩
theorem wK{id:String}{r:List V->Hp->VK->Prop}(j:Bw X (.builtin id) r)(i:Gl X x)(g:X.mg x=none)(d:bootBuiltins x=some (.builtin id))(a:QA X (e::es) t)(f:x ≠"__name__" := by decide)(DG:(x == ("__debug__":Str))=false:=by decide)
  (he:EW X e es:=by rfl) (B0:BEq X pos es:=by rfl):QE X (.Call (.Name x p) (e::es) [] pos) (CK r t):=⟨by
 have a:=a.h;intro Zj s Z H Q I h;refine o7 (HH I i g d ?_ f DG);exact PyProof.Rows.callWith_builtin1 (Aq (a pos Zj s Z H _ I h) λus s1 AU=>by obtain⟨vs,H1,I1,b,c⟩:=AU;exact j Zj s1 Z H1 vs us Q I1 b c) he B0⟩
theorem qc{r:List V->Hp->VK->Prop}(j:Bw X (.type T) r)(i:Gl X x)(g:X.mg x=none)(d:bootBuiltins x=some (.type T))(a:QA X (e::es) t)(f:x ≠"__name__" := by decide)(DG:(x == ("__debug__":Str))=false:=by decide)
  (he:EW X e es:=by rfl) (B0:BEq X pos es:=by rfl):QE X (.Call (.Name x p) (e::es) [] pos) (CK r t):=⟨by
 have a:=a.h;intro Zj s Z H Q I h;refine o7 (HH I i g d ?_ f DG);exact NP (Aq (a pos Zj s Z H _ I h) λus s1 AU=>by obtain⟨vs,H1,I1,b,c⟩:=AU;exact j Zj s1 Z H1 vs us Q I1 b c) he B0⟩
theorem ug{id:String}(c:PlainAttrs T)(slot:Slot T name id)(JK:typeOf (.builtin id)=pure (.type "method_descriptor"))(d:Jc X id r)(ho:QE X o to)
  (Jv:attributeBase o name X.env (eval o X.env)=eval o X.env:=by rfl) (Js:(apos.endLine == CP.line)=true:=by rfl):QE X (.Call (.Attribute o name apos) [] [] CP) (RL X.K T r to):=⟨by
 have ho:=ho.h;intro Zj s Z H Q I h;refine wpAny_Call_method0_late Jv Js (ho.k I h λv s1 x H1 I1 a V8=>?_);obtain⟨ty,b⟩:=V8;obtain⟨h1,h2⟩:=Wj I1 a ty;exact⟨T,id,c,slot,JK,h1,h2,xx rfl (PySem.evalArgs_none (d Zj s1 Z H1 x [] v [] Q I1 a .nil b))⟩⟩
theorem Me{id:String}(i:PlainAttrs T)(slot:Slot T name id)(JK:typeOf (.builtin id)=pure (.type "method_descriptor"))(j:Jc X id r)(ho:QE X o to)(a:QA X (e::es) t)
  (Jv:attributeBase o name X.env (eval o X.env)=eval o X.env:=by rfl)
  (U4:((backTo CP (starEach (e::es) X.env)).all (λx=>!x.1) && (backToKw CP (keywordEach [] X.env)).all (λx=>x.1.isSome)
   && decide ((e::es).length+([]:List Keyword).length+(if([]:List Keyword).isEmpty then 0 else 1)<30))=true:=by rfl)
  (Js:(apos.endLine == CP.line)=true:=by rfl) (hs:EW X e es:=by rfl) (Rk:BEq X CP es:=by rfl) :
  QE X (.Call (.Attribute o name apos) (e::es) [] CP) (PZ X.K T r to t):=⟨by
 have ho:=ho.h;have a:=a.h;intro Zj s Z H Q I h;refine wpAny_Call_method_late Jv U4 Js rfl (ho.k I h λv s1 x H1 I1 b l=>?_);obtain⟨ty,g⟩:=l;obtain⟨h1,h2⟩:=Wj I1 b ty;refine⟨T,id,i,slot,JK,h1,h2,?_⟩;have c:=a CP Zj s1 Z H1 _ I1 g;rw[hs]at c ⊢;refine xx (by show(false || (backTo CP (starEach es X.env)).any (·.1))=false;rw[Rk] <;> rfl) (Calls.evalArgs_plain ?_)
 exact Aq c λus s2 AU=>by obtain⟨vs,H2,I2,d,f⟩:=AU;exact j Zj s2 Z H2 x vs v us Q I2 b d f⟩
variable{elt iter:Expr}{scope:Scope}{A6:List Str}{js:List Nat}
theorem EJ(c:QE X l tl):QI X tg l (Ny X.K tl):=⟨by
 have c:=c.h;intro Zj s Z H R I h;refine c.k I h λv s1 x H1 I1 g i=>?_;obtain⟨tp,a,xs,e,d,q⟩:=i;subst e;cases g;have fin:∀b∈[s1.heap.objs.size],Dq X Zj H1 b:=λb m=>by
  have e:b=s1.heap.objs.size:=by simpa using m
  subst e;exact I1.Nk (AW _) (I1.AA.fresh (AW _))
 cases tp with
 |false=>
  obtain⟨A0,f,p,j⟩:=I1.list d;refine rY p.isList ?_;exact⟨s1.heap.objs.size,[s1.heap.objs.size],_,_,H1,rfl,I1.kept (t':=s1.toks) λb o e=>Af _ e,vB a _ xs,⟨_,Ay _ rfl,rfl,rfl⟩,fin,q⟩
 |true=>
  obtain⟨A0,f,p,j⟩:=I1.tuple d;refine pT (show s1.heap.IsTuple a A0.toArray from p) ?_;exact⟨s1.heap.objs.size,[s1.heap.objs.size],_,_,H1,rfl,I1.kept (t':=s1.toks) λb o e=>Af _ e,fL a _ xs,⟨_,Ay _ rfl,rfl,rfl⟩,fin,q⟩⟩
theorem Hj{ta:TA}(m:Gl X "range")(l:X.mg "range"=none)(c:QA X [a] ta)(i:starEach [a] X.env=[(false,eval a X.env)]:=by rfl):QI X tg (.Call (.Name "range" p) [a] [] pos) (Uz ta):=⟨by
 have c:=c.h;intro Zj s Z H R I h;refine Call_ (HH I m l boot_range (NP (c.k pos I h λus s1 vs H1 I1 f b=>?_) i rfl));obtain⟨j,e,b,g,q⟩:=b;subst e;cases f with
 |cons r d=>
  cases d;obtain⟨t,rfl⟩:=r;exact call_range_1 (bU I1 (by omega) (by omega) b g (by simpa using q))⟩
theorem IP:MV X [] La:=⟨Xb⟩
theorem M6{t:TT}(a:QT X c t):MV X [c] t:=⟨j9 a.h⟩
theorem Kd(b:X.calm=true)(S:DL X.N X.env.scope scope x A6 js)(hi:QI X (.Name x px) iter wi)
  (Dc:∀fp C s H,MV (FP X (A6++[x]) scope (BC X.env.cells scope.names) C s H fp) ifs tt) (Ct:∀fp C s H,QE (FP X (A6++[x]) scope (BC X.env.cells scope.names) C s H fp) elt te)
  (a:∀v,foldedSetIterable iter X.env v=pure v:=by intro _;rfl):QE X (.ListComp elt [⟨.Name x px,iter,ifs,0⟩] scope pos) (GN wi js tt te):=⟨eX b S hi.h (λfp C s H=>(Dc fp C s H).h) (λfp C s H=>(Ct fp C s H).h) a⟩
theorem L3{py IK:Pos}(c:X.N.Nodup)(C6:X.N[i]?=some y)(a:Loc X.env.scope y)(b:X.calm=true)(S:DL X.N X.env.scope scope x A6 js)(hi:QI X (.Name x px) iter wi)
  (Dc:∀fp C s H,MV (FP X (A6++[x]) scope (BC X.env.cells scope.names) C s H fp) ifs tt) (Ct:∀fp C s H,QE (FP X (A6++[x]) scope (BC X.env.cells scope.names) C s H fp) elt te)
  (Mb:swapsWith (.ListComp elt [⟨.Name x px,iter,ifs,0⟩] scope pos) (some (.Name y py)) IK.line X.env=pure true:=by rfl)
  (hf:X.fn y=true∨X.env.scope.names.lookup y=some .local:=by first|exact .inl rfl|exact .inr rfl|assumption)
  (hs:∀v,foldedSetIterable iter X.env v=pure v:=by intro _;rfl):QS X (.Assign [.Name y py] (.ListComp elt [⟨.Name x px,iter,ifs,0⟩] scope pos) IK) (Dm (GN wi js tt te) (CU i)):=
 ⟨nY c C6 a b S hi.h (λfp C s H=>(Dc fp C s H).h) (λfp C s H=>(Ct fp C s H).h) Mb hf hs⟩
theorem uE(b:X.N.Nodup)(hi:X.N[i]?=some x)(hx:Loc X.env.scope x)(a:X.fn x=true∨X.env.scope.names.lookup x=some .local:=by first|exact .inl rfl|exact .inr rfl|assumption):QG X (.Name x pos) (CU i):=⟨Sf b hi hx a⟩
theorem XH:Nd X [] Lz:=⟨Zr⟩
theorem Mj{t:TG}{u:G6}(h1:QG X e t)(h2:Nd X es u)
  (a:(assignEach (e::es) X.env).map (·.2)=assign e X.env::(assignEach es X.env).map (·.2):=by rfl):Nd X (e::es) (Hy t u):=⟨Y4 h1.h h2.h a⟩
theorem aq{k:Nat}{t:G6}(b:X.calm=true)(h:Nd X es t)(a:(assignEach es X.env).length=n:=by rfl)(Dv:(assignEach es X.env).findIdx? (·.1)=none:=by rfl):QG X (.Tuple es k pos) (Io X.K n t):=⟨d9 b h.h a Dv⟩
theorem T5{i:Expr}{ti:TE}{t:Pt}(ho:QE X o to)(hi:QE X i ti)(l:RF X t)
  (m:∀v,assign (.Subscript o i pos) X.env v=(do
   let a <- holding [v] (eval o X.env)
   let b <- holding [v,a] (eval i X.env)
   standAt pos
   holding [v,a,b] (setItem a b v)
   release [v,a,b] []):=by intro _;rfl):QG X (.Subscript o i pos) (Oa to ti t):=⟨by
 have ho:=ho.h;have hi:=hi.h;intro Zj s Z H v u Q I r h;rw[m];refine Wo (iZ (ho.k I h λa s1 x H1 I1 d g=>?_));refine Wo (iZ (hi.k I1 g λb s2 y H2 I2 c f=>?_));refine Wo (wpAny_standAt (Wo (iZ (Aq (l Zj s2 Z H2 x y v a b u _ I2 d c r f) λ_ n j=>?_))));obtain⟨H3,I3,e⟩:=j;exact wpAny_release ⟨Z,H3,I3,e⟩⟩
end
section
variable{st:Stmt}{u:TS}
theorem CY:ER X [] TC:=⟨λ_ _ Z H _ I h=>xS ⟨Z,H,I,h⟩⟩
theorem AR(e:body=st::rest)(h:QS X st t)(h2:ER X rest u):ER X body (Km t u):=⟨tI e h.h h2.h⟩
theorem AX(e:body=[st])(h:QS X st t):ER X body t:=⟨by have h:=h.h;rw[e];exact kG h⟩
theorem aR:QS X st cO:=⟨λ_ _ _ _ _ _ h=>h.elim⟩
theorem Gy(a:QE X e te)(c:swapsWith e none pos.line X.env=pure false:=by rfl):QS X (.Expr e pos) (JJ te):=⟨by
 have a:=a.h;intro Zj s Z H D I h;exact wpAny_Expr_any (Aq (a Zj s Z H _ I h) λv s1 AU=>by obtain⟨x,H1,I1,d,b⟩:=AU;exact⟨Z,H1,I1,b⟩) I.quiet c⟩
theorem BS(a:QE X e te):QS X (.Return (some e) pos) (IZ te):=⟨by
 have a:=a.h;intro Zj s Z H D I h;exact wpAny_Return_some (Aq (a Zj s Z H _ I h) λv s1 AU=>by obtain⟨x,H1,I1,b,c⟩:=AU;exact⟨x,Z,H1,I1,b,c⟩)⟩
theorem Cb{a b:List Stmt}(e:QT X c tc)(g:ER X a t)(f:ER X b u):QS X (.If c a b pos) (N4 tc t u):=⟨by
 have e:=e.h;have g:=g.h;have f:=f.h;intro Zj s Z H D I h;refine wpAny_If (Aq (e Zj s Z H _ I h) λd s1 Lv=>?_);obtain⟨H1,I1,i⟩:=Lv;cases d with
 |true=>exact g Zj s1 Z H1 D I1 i
 |false=>exact f Zj s1 Z H1 D I1 i⟩
theorem QK(b:QE X e te)(a:QG X tg g)(f:swapsWithSole [tg] e pos.line X.env=pure false:=by rfl)(hw:swappedStores [tg] e X.env=pure none:=by rfl)
  (h1:(assignEach [tg] X.env).map (·.2)=[assign tg X.env]:=by rfl):QS X (.Assign [tg] e pos) (Dm te g):=⟨by
 have b:=b.h;have a:=a.h;intro Zj s Z H D I h;refine wpAny_Assign_stores (b.k I h λv s1 x H1 I1 c d=>?_) f hw;rw[h1];exact Aq (a Zj s1 Z H1 x v _ I1 c d) λ_ s2 q=>q⟩
theorem xC(f:X.N.Nodup)(hi:X.N[i]?=some x)(hx:Loc X.env.scope x)(a:QE X e te)(d:swapsWith e (some (.Name x pos')) pos.line X.env=pure false:=by rfl)(hf:X.fn x=true∨X.env.scope.names.lookup x=some .local:=by first|exact .inl rfl|exact .inr rfl|assumption):
  QS X (.Assign [.Name x pos'] e pos) (Dm te (CU i)):=⟨by
 have a:=a.h;intro Zj s Z H D I h;refine wpAny_Assign_Name (a.k I h λv s1 y H1 I1 b c=>?_) d;exact Zy I1 f hi hx b (λs2 I2=>⟨_,H1,I2,c⟩) hf⟩
theorem QF(o:PassesOwn (model X.prog X.w) X.A X.env X.xe)(l:QT X c tc)(m:ER X body tb):QS X (.While c body [] pos) (S7 tc tb):=⟨by
 have l:=l.h;have m:=m.h;intro Zj s Z H D I h;obtain⟨W,⟨u,r⟩,a⟩:=h;refine wpAny_While (codeAny_whileLoop (λn s'=>∃ σ' H',Inv X Zj σ' H' s'/\W n σ' H') ?_ u ⟨Z,H,I,r⟩);rintro n s1⟨σ1,H1,I1,q⟩;refine pC o (Aq (l Zj s1 σ1 H1 _ I1 (a n σ1 H1 q)) λb s2 t=>?_);obtain⟨H2,I2,e⟩:=t;cases b with
 |true=>
  obtain⟨N,p,e⟩:=e;rw[eM rfl];refine pC o (Aq (m Zj s2 σ1 H2 _ I2 e) λf x d=>?_);cases f with
  |next=>
   obtain⟨σ3,H3,I3,i⟩:=d;obtain⟨j,k,g⟩:=p σ3 H3 i;exact⟨j,k,σ3,H3,I3,g⟩
  |cont=>
   obtain⟨σ3,H3,I3,i⟩:=d;obtain⟨j,k,g⟩:=p σ3 H3 i;exact⟨j,k,σ3,H3,I3,g⟩
  |brk=>exact d
  |ret v=>exact d
 |false=>
  rw[eJ Co];exact xS ⟨σ1,H2,I2,e⟩⟩
theorem Ek{iter:Expr}(p:PassesOwn (model X.prog X.w) X.A X.env X.xe)(E:X.calm=true)(hi:QI X tg iter wi)(y:QG X tg g)(a:ER X body tb)
  (hs:∀x,foldedSetIterable iter X.env x=pure x:=by intro _;rfl):QS X (.For tg iter body [] pos) (VR wi g tb):=⟨by
 have hi:=hi.h;have y:=y.h;have a:=a.h;intro Zj s Z H D I h;refine wpAny_For (Aq (hi Zj s Z H _ I h) λv s1 h1=>Aq h1 λPN s2 h2=>?_) hs;obtain⟨it,fp,tn,J,H2,e,I2,T,IU,F,W,⟨m0,Q⟩,k⟩:=h2;subst e
 -- qV stays true of Ib z7 objects through Ib loop
 have z:∀{H':Hp},(∀b∈fp,H' b=none)->∀b∈fp,Dq X Zj H' b:=λhn b a=>⟨hn b a,(F b a).2⟩;refine codeAny_forLoop_any (λn s'=>∃i σ' H',Inv X Zj σ' H' s'/\tn i s'.heap/\(∀b∈fp,H' b=none)/\W i n σ' H') ?_ m0 ⟨0,Z,H2,I2,IU,λb a=>(F b a).1,Q⟩;rintro n C⟨i,σ3,H3,I3,G,K,P⟩;rcases k i n σ3 H3 P with⟨stop,qn⟩|⟨go,N,hN,step⟩
 .refine pC p (Aq (T.done X rfl rfl rfl E i Zj C σ3 H3 X.xe I3 (z K) G stop) λr s4 i3=>?_);obtain⟨t,I4⟩:=i3;subst t;exact xS ⟨σ3,H3,I4,qn⟩
 .refine pC p (Aq (T.item X rfl rfl rfl E i Zj C σ3 H3 X.xe I3 (z K) G go) λr s4 lu=>?_);obtain⟨u,t,h4⟩:=lu;subst t;refine pC p (Aq h4 λ_ B Y=>?_);obtain⟨x,H5,I5,V,L,L9,OY⟩:=Y;have R:=I5.pinned (z OY) (T.obj _ _ L9);refine pC p (Aq (y _ B σ3 H5 x u _ R V (step x H5 L)) λ_ S jA=>?_);obtain⟨σ6,H6,I6,σ⟩:=jA;refine pC p (Aq (a _ S σ6 H6 _ I6 σ) λf q j=>?_);have c:∀{σ7:St}{H7:Hp},Inv X (Zj++Mi fp B.heap) σ7 H7 q->N σ7 H7->∃m,m<n/\∃i σ' H',Inv X Zj σ' H' q/\tn i q.heap/\(∀b∈fp,H' b=none)/\W i m σ' H':=λ{σ7 H7}I7 l=>by
   obtain⟨m',hm,O⟩:=hN σ7 H7 l;refine⟨m',hm,i+1,σ7,H7,I7.M4,T.keep _ _ _ L9 λb a o e=>(I7.pin (b,o) (Bo _ (Bo _ (P6 a e)))).1,λb a=>?_,O⟩;obtain⟨o,e,d⟩:=T.obj _ _ L9 b a;exact(I7.pin (b,o) (Bo _ (Bo _ (P6 a e)))).2.1
  cases f with
  |next=>obtain⟨σ7,H7,I7,l⟩:=j;exact c I7 l
  |cont=>obtain⟨σ7,H7,I7,l⟩:=j;exact c I7 l
  |brk=>obtain⟨σ7,H7,I7,j⟩:=j;exact⟨σ7,H7,I7.M4,j⟩
  |ret v=>obtain⟨M,σ7,H7,I7,U,j⟩:=j;exact⟨M,σ7,H7,I7.M4,U,j⟩⟩
theorem Ca(h:QS X st t):QS X st (UI t):=⟨by
 have h:=h.h;intro Zj s Z H D I hw;obtain⟨J,h1,h2⟩:=hw;refine Aq (h Zj s Z H _ I h1) λf s' q=>?_;cases f with
 |next=>obtain⟨σ',H',I',q⟩:=q;exact⟨σ',H',I',h2 σ' H' q⟩
 |ret v=>exact q
 |brk=>exact q
 |cont=>exact q⟩
end
theorem AQ.EE{P:Program}{K:zu}{mg:zw}{Zu:Heap}{qual:Str}{st:Stmt}{fd:FuncData}{N:List Str}{k:Nat}(F:AQ K x qual st f fd)(S:BJ N ps (AS st))(len:∀vs H Q E,sp vs H Q E->vs.length=ps.length)
  (HX:∀(AZ:Value)(A:Around)(outer:List Env)(s:Shared)(H:Hp)(vs:List V)(Q:VK)(E:XK),Bc k (A.deeper (envOfC qual (AS st) s.heap.objs.size f AZ))->sp vs H Q E->
   ∃t,ER (FO D8 P w K mg Zu N qual (AS st) f AZ A outer s H E).Fn (DZ st) t/\t { nx:=λ_ H'=>Q .A7 H',rt:=Q } (start N vs) H):DT P w K mg Zu D8 (k+1) f fd ps sp:=
 F.ok S len λAZ A outer s H vs Q E a h=>let ⟨t,q,r⟩:=HX AZ A outer s H vs Q E a h;⟨t,q.h,r⟩
end L2
namespace L2
variable{X:Cx}{Zj:zv}{Z:St}{H:Hp}{s s1:Shared}{h':Heap}{ep i k1 n nT nl pl sl t':Nat}{fp:List Addr}{I S a it:Addr}{o oT:Obj}{w:World}{es:Array (Int×Value)}{prog:Program}{A:Around}{E Q Q₁:Value->Shared->Prop}{t:SetTable}{α:Type}{e:Int×Value}{f v x:Value}{items ps:Array Value}{vs:List Value}{A4 ss:List Str}{Pc:List Value->Shared->Prop}
theorem Inv.X6(I:Inv X Zj Z H s)(d:∀b∈fp,Dq X Zj H b)(k:∀b o,b∉fp->s.heap.get? b=some o->h'.get? b=some o):
  Inv X Zj Z H { s with heap:=h',toks:=t' }:=by
 have f:∀b u,H b=some u->b∉fp:=λb u e z=>by rw[(d b z).1]at e;cases e
 refine I.step (g':=s.gens) (d':=s.drawn) (ch:=fp) (λb h=>?_) (λb o _ _ a e _=>k b o a e) (λb o _ _ a e _=>⟨o.slots,k b o a e⟩) (λ_ _ _ _ n=>n)
  (λb o a e=>⟨o,k b o a e⟩) (λ_ _ e=>e) (λ_ _ _ e=>e) (λm g=>?_) (λb u e=>?_) I.bare
 .obtain⟨_,h1,_,l,j,i⟩:=d b h;exact⟨l,h1,j,i⟩
 .obtain⟨o,es,ep,ho,r⟩:=g;exact⟨o,es,ep,k _ o (λz=>(d _ z).2.1 rfl) ho,r⟩
 .refine(I.AA b u e).FY (λc v a q=>k c v ?_ q) (λ_ q=>q) λ_ _ q=>q;rcases a with z|z
  .rw[z];exact f b u e
  .exact f c _ z
theorem Inv.Y2{o:HO}(I:Inv X Zj Z H s)(h:∀b∈fp,Dq X Zj H b)(k:∀b o,b∉fp->s.heap.get? b=some o->h'.get? b=some o)
  (i:s.heap.objs.size<=a) (new:Bi X.prog X.w (upd H a o) h' a o):Inv X Zj Z (upd H a o) { s with heap:=h',toks:=t' }:=by
 have l:H a=none:=I.AA.fresh i;have j:∀b u,H b=some u->b∉fp:=λb u e z=>by rw[(h b z).1]at e;cases e
 have ne:∀b u,H b=some u->b≠a:=λb u e=>DE e l;have g:∀b u,s.heap.get? b=some u->b≠a:=λb u e=>Ad (C5 (AY e) i);refine I.step (g':=s.gens) (d':=s.drawn) (ch:=fp) (λb f=>?_) (λb o _ _ d e _=>k b o d e) (λb o _ _ d e _=>⟨o.slots,k b o d e⟩) (λb o _ e n=>by rw[AN (g b o e)];exact n)
  (λb o d e=>⟨o,k b o d e⟩) (λb _ e=>by rw[AN (ne b _ e)];exact e) (λb _ _ e=>by rw[AN (ne b _ e)];exact e) (λm p=>?_) (λb u e=>?_) I.bare
 .obtain⟨_,h1,_,y,x,t⟩:=h b f;exact⟨y,h1,x,t⟩
 .obtain⟨o,es,ep,ho,r⟩:=p;exact⟨o,es,ep,k _ o (λz=>(h _ z).2.1 rfl) ho,r⟩
 .by_cases f:b=a
  .subst f;rw[AV]at e;cases e;exact new
  .rw[AN f]at e;refine(I.AA b u e).FY (λc v d q=>k c v ?_ q) (λc q=>by rw[AN (ne c _ q)];exact q) λc _ q=>by rw[AN (ne c _ q)];exact q
   rcases d with z|z
   .rw[z];exact j b u e
   .exact j c _ z
noncomputable def fk(K:zu)(a:Addr)(xs:List V):It:=
 ⟨λi H=>AI K H a xs/\i<xs.length,λi H x H'=>∃p y,xs[i]?=some y/\x=.ref p/\H p=none/\H'=upd H p (.tup [.int i,y]),λi H=>AI K H a xs/\xs.length<=i⟩
theorem tR{P:Program}{K:zu}{es:List Expr}{p1:Pos}(a e it:Addr)(xs:List V)(Ki:e≠it):
  Turn P w K (.Tuple es k1 p1) (fk K a xs) [e,it] e (λi h=>(∃old,IsEnum h e it i old)/\h.IsListIter it a i) where
 mem:=by simp
 obj:=λi h st b f=>by
  obtain⟨⟨old,h1⟩,o,h2,_,d⟩:=st;rcases List.mem_cons.mp f with z|z
  .subst z;exact⟨_,h1,λv z=>by cases z⟩
  .have:b=it:=by simpa using z
   subst this;exact⟨o,h2,λv z=>by rw[d]at z;cases z⟩
 keep:=λi h h' st k=>⟨let ⟨old,h1⟩:=st.1;⟨old,k e (by simp) _ h1⟩,st.2.at λo q=>k it (by simp) o q⟩
 item:=by
  intro X r hw t A i Zj s Z H E I j st n;subst r hw t;obtain⟨m,hi⟩:=n;obtain⟨⟨old,g⟩,c⟩:=st;obtain⟨A0,l,p,G⟩:=I.list m;obtain⟨u,J,D⟩:=l.get (AL hi);refine wpAny_pyNext_enum_item g c p.isList (x:=u) (by simpa using J) Ki λh1 Ga F Ky N RO=>⟨_,rfl,?_⟩
  refine ZA3 Ga λh2 IA D4=>?_;have C:e<s.heap.objs.size:=AY g;have B:h2.get? s.heap.objs.size=some { cls:=.type "tuple", data:=.seq #[.int i s.toks,u] }:=(D4.2 _ (DO C)).trans Ky;have kp:∀b o,b∉[e,it]->s.heap.get? b=some o->h2.get? b=some o:=λb o f q=>by
   have y:b≠e/\b≠it:=by simpa using f
   exact(D4.2 b y.1).trans (RO b o y.1 y.2 q)
  refine⟨.ref s.heap.objs.size,_,I.Y2 (t':=s.toks+1) (a:=s.heap.objs.size) (o:=.tup [.int i,xs[i]]) j kp (AW _) ?_,rfl,⟨_,_,AL hi,rfl,I.AA.fresh (AW _),rfl⟩,⟨⟨_,IA⟩,F.at λo q=>(D4.2 it (BG Ki)).trans q⟩,λb f=>?_⟩
  .exact⟨(by show 2<=sizeLine;decide),[.int i s.toks,u],.cons ⟨_,rfl⟩ (.cons D .nil),⟨_,B,rfl,_,rfl⟩,λO q=>by rw[B]at q;cases q;rfl⟩
  .have M:b<s.heap.objs.size:=by
    rcases List.mem_cons.mp f with z|z
    .rw[z];exact C
    .have:b=it:=by simpa using z
     obtain⟨o,q,_⟩:=c;rw[this];exact AY q
   rw[AN (Ad M)];exact(j b f).1
 done:=by
  intro X r hw t A i Zj s Z H E I j st n;subst r hw t;obtain⟨m,hx⟩:=n;obtain⟨⟨old,g⟩,c⟩:=st;obtain⟨A0,l,p,G⟩:=I.list m;have Q:=l.length;exact wpAny_pyNext_enum_end (I.ok.hd A) g c p.isList (by simp;omega) λh' L=>⟨rfl,I.X6 (t':=s.toks) j λb o f q=>L b o (λz=>f (by simp[z])) q⟩
 self:=λ_ _ _ _ _ st h=>let ⟨⟨_,g⟩,_⟩:=st;vK g h
theorem jE(t:SetTable)(n:Nat):(t.orStandIn n).led=t.led:=by unfold SetTable.orStandIn;split <;> rfl
theorem Z6(t:SetTable)(es:Array (Int×Value))(h:Int)(x:Value):(layNew t es h x).2.1.led=t.led:=by
 unfold layNew;split
 .show(SetTable.orStandIn (t.put _).1 _).led=t.led;rw[jE];rfl
 .rfl
theorem YZ{mask b c:Nat}{d a:Bool}{e:Array Int}{p:SetTable×Array Nat}(h:SetTable.laid mask b c d a e=some p):p.1.led=d/\p.1.plain=a:=by
 unfold SetTable.laid at h;cases f:SetTable.layClean mask e with
 |none=>rw[f]at h;cases h
 |some ow=>rw[f]at h;cases h;exact⟨rfl,rfl⟩
theorem tE(t:SetTable)(es:Array (Int×Value))(n:Nat)(a:t.plain=false):(relayAll t es n).2.1.led=t.led/\(relayAll t es n).2.1.plain=false:=by
 unfold relayAll;split
 .next t' order hr=>
  have q:=YZ (p:=(t',order)) hr;dsimp only at q ⊢;split
  .exact⟨q.1,q.2.trans a⟩
  .exact⟨rfl,rfl⟩
 .exact⟨rfl,rfl⟩
noncomputable def B9(w:World):Bool:=w.params.followText "set-order"
def AO(prog:Program)(w:World)(h:Heap)(a:Addr)(S:Str->Bool)(n:Nat):Prop:=
 ∃o es ep t,h.get? a=some o/\o.ExactSet/\o.data=.set es ep t/\ElemsOf (PySem.strKind prog w) es.toList/\(∀k,S k=true↔∃e∈es.toList,(PySem.strKind prog w).is k e.2=true)/\
  es.size<scanBound/\t.fits es.size=true/\es.size=n/\(t.led=!B9 w)/\(0<es.size->t.plain=false)
theorem AO.keep{h:Heap}{S:Str->Bool}(x:AO prog w h a S n)(k:∀o,h.get? a=some o->h'.get? a=some o):AO prog w h' a S n:=by
 obtain⟨o,es,ep,t,ho,r⟩:=x;exact⟨o,es,ep,t,k o ho,r⟩
theorem AO.congr{h:Heap}{S S':Str->Bool}{b:Nat}(x:AO prog w h a S n)(e:∀k,S k=S' k)(m:n=b):AO prog w h a S' b:=by
 obtain⟨o,es,ep,t,h1,h2,l,j,i,g,f,d,c⟩:=x;exact⟨o,es,ep,t,h1,h2,l,j,λk=>by rw[<- e k];exact i k,g,f,d.trans m,c⟩
theorem GH{h:Heap}(ho:h.get? a=some o)(hd:o.data=.set es ep t)(Ax:Array (Int×Value))(t':SetTable):
  (h.update a (Obj.putSet Ax t')).get? a=some { o with data:=.set Ax (ep+1) t' }:=by
 have q:=Gk (Obj.putSet Ax t') ho (by rw[putSet_of Ax t' hd];rfl);rw[q,putSet_of Ax t' hd]
theorem AO.put{S:Str->Bool}{k:Str}{tk:Tok}{Q:Bool->Shared->Prop}(Y:AO prog w s.heap a S n)(Fm:n+1<scanBound)
  (h:∀h',Heap.SameBut a s.heap h'->AO prog w h' a (λk'=>S k' || decide (k'=k)) (if S k then n else n+1)->Q (!S k) { s with heap:=h' }) :
  wpAny (model prog w) A (setAddHashed a (.str k tk) ((PySem.strKind prog w).hash k)) Q E s:=by
 obtain⟨o,es,ep,t,ho,d,hd,B2,Aw,I,u,p,Bn,B0⟩:=Y;have B:(PySem.strKind prog w).is k (.str k tk)=true:=Vz prog w k tk;have C:(Value.str k tk).scannable=true:=rfl;have rm:es.size+1<scanBound:=by rw[p];exact Fm
 have J:∀(b:Bool)(s1:Shared)(Q1:Unit->Shared->Prop),Q1 () s1->wpAny (model prog w) A (match b with|true=>rule "set.scan.the-table-gave-way" |false=>pure ()) Q1 E s1:=by
  intro b s1 Q1 q;cases b
  .exact dP q
  .exact oF q
 unfold setAddHashed setAddHashedIn;refine iZ ?_;refine Wo (i4 ho hd u ?_);dsimp only;rw[byScan_of C I B2];simp only[↓reduceIte];unfold setAddByScan;refine Wo ?_;refine Wo (oF ?_);refine Wo (ZA8 B ho hd u B2 ?_);cases H:List.findIdx? (λe=>(PySem.strKind prog w).is k e.2) es.toList with
 |some j=>
  dsimp only;obtain⟨X,KN,_⟩:=List.findIdx?_eq_some_iff_getElem.mp H;have hk:S k=true:=(Aw k).mpr ⟨es.toList[j],FJ X,KN⟩;refine dP ?_;refine dP ?_;have q:=h s.heap (KI a s.heap) ⟨o,es,ep,t,ho,d,hd,B2,λk'=>by
   rw[<- Aw k',Bool.or_eq_true,eW];exact⟨λz=>z.elim id λe=>e▸hk,Or.inl⟩,I,u,by rw[eM hk];exact p,Bn,B0⟩
  rw[hk]at q;exact q
 |none=>
  dsimp only;have hk:S k=false:=by
   cases e:S k with
   |false=>rfl
   |true=>
    obtain⟨x,hx,W⟩:=(Aw k).mp e;have q:=List.findIdx?_eq_none_iff.mp H x hx;rw[W]at q;exact Bool.noConfusion q
  have p1:=layNew_perm t es ((PySem.strKind prog w).hash k) (.str k tk);have l:=layNew_fits t es ((PySem.strKind prog w).hash k) (.str k tk);have l1:=Z6 t es ((PySem.strKind prog w).hash k) (.str k tk);generalize layNew t es ((PySem.strKind prog w).hash k) (.str k tk)=L at p1 l l1 ⊢;obtain⟨Al,t1,P,gv⟩:=L;dsimp only at p1 l l1 ⊢;rw[dQ]at p1;have SS:ElemsOf (PySem.strKind prog w) Al.toList:=(B2.push B C).perm p1;have U:∀k',(S k' || decide (k'=k))=true↔∃e∈Al.toList,(PySem.strKind prog w).is k' e.2=true:=mem_push_iff B Aw p1;have F:Al.size=n+1:=by rw[<- Bs,p1.length_eq,BQ,Bs,p];rfl
  have K:Al.size<scanBound:=by rw[F];exact Fm
  have fin:∀(h':Heap)(o':Obj)(Ax:Array (Int×Value))(EK:Nat)(t':SetTable),Heap.SameBut a s.heap h'->h'.get? a=some o'->o'.ExactSet->o'.data=.set Ax EK t'->Ax.toList.Perm Al.toList->t'.fits Ax.size=true->t'.led=t.led->t'.plain=false->
    Q true { s with heap:=h' }:=by
   intro h' o' Ax EK t' R go O d' f ff V T;have D:Ax.size=n+1:=by rw[<- F,<- Bs,f.length_eq,Bs]
   have q:=h h' R ⟨o',Ax,EK,t',go,O,d',SS.perm f,λk'=>(U k').trans ⟨λ⟨e,v,q⟩=>⟨e,f.mem_iff.mpr v,q⟩,λ⟨e,v,q⟩=>⟨e,f.mem_iff.mp v,q⟩⟩,by rw[D];exact Fm,ff,by rw[hk];exact D,V.trans Bn,λ_=>T⟩;rw[hk]at q;exact q
  have c:∀(t2:SetTable),t2.fits Al.size=true->t2.led=t.led->t2.plain=false->wpAny (model prog w) A (do
    storeSet a Al t2
    if(
      !P && t2.tooFull)=true then do
      (match(relayAll t2 Al (SetTable.grown Al.size)).2.2 with|true=>rule "set.scan.the-table-gave-way" |false=>pure ())
      storeSet a (relayAll t2 Al (SetTable.grown Al.size)).1 (relayAll t2 Al (SetTable.grown Al.size)).2.1
      pure (some true)
     else pure (some true)) (λr s'=>match r with|some b=>Q b s'|none=>False) E s:=by
   intro t2 σ l2 Ng;refine Wo (l7 ho hd ?_ (kd K));have m:=GH ho hd Al t2;have M:=EN s.heap a (Obj.putSet Al t2);split
   .have g:=relayAll_perm t2 Al (SetTable.grown Al.size);have y:=relayAll_fits t2 Al (SetTable.grown Al.size);have i:=tE t2 Al (SetTable.grown Al.size) Ng;generalize relayAll t2 Al (SetTable.grown Al.size)=Rl at g y i ⊢;obtain⟨FN,G,g3⟩:=Rl;dsimp only at g y i ⊢;have N:FN.size=Al.size:=by rw[<- Bs,g.length_eq,Bs]
    refine Wo (J _ _ _ ?_);refine Wo (l7 m rfl ?_ (kd (by rw[N];exact K)));refine dP ?_;exact fin _ _ FN _ G (M.trans (EN _ a _)) (GH m rfl FN G) d rfl g y (i.1.trans l2) i.2
   .exact dP (fin _ _ Al _ t2 M m d rfl (Fh _) σ l2 Ng)
  refine Wo (J _ _ _ ?_);split
  .next Q4=>
   refine Wo ?_;rw[hashByValue_scannable 8 C];refine dP ?_;refine i7 (c { t1 with plain:=false } (SetTable.fits_plain_off l) l1 rfl) (λr s' q=>?_) λ_ _ e=>e
   cases r with
   |none=>exact q.elim
   |some b=>exact dP q
  .next Q4=>
   refine Wo (dP ?_);simp only[↓reduceIte];refine i7 (c t1 l l1 (by simpa using Q4)) (λr s' q=>?_) λ_ _ e=>e
   cases r with
   |none=>exact q.elim
   |some b=>exact dP q
theorem Si{α:Type}:∀(l:List α)(i:Nat)(h:i<l.length),(l[i]::l.eraseIdx i).Perm l
 |_::_,0,_=>Fh _
 |x::r,i+1,h=>(List.Perm.swap x (r[i]'(by simpa using h)) (r.eraseIdx i)).trans ((Si r i (by simpa using h)).cons x)
theorem rF(nx:Nat->Nat):∀(n k:Nat)(l:List α)(out:Array α),l.length=n->(pickOrder.go nx n k l out).toList.Perm (out.toList++l):=by
 intro n
 induction n with
 |zero=>
  intro k l out b;rw[List.length_eq_zero_iff.mp b];unfold pickOrder.go;simp
 |succ n c=>
  intro k l out b;have a:nx k % l.length<l.length:=Vu _ (by omega);unfold pickOrder.go;rw[AL a];dsimp only;refine(c _ _ _ (by rw[yO a];omega)).trans ?_;rw[dQ,BY];exact List.Perm.append_left _ (Si l _ a)
theorem Lf(nx:Nat->Nat)(xs:Array α):(pickOrder nx xs).toList.Perm xs.toList:=by
 have q:=rF nx xs.size 0 xs.toList #[] (by simp)
 simpa[pickOrder]using q
theorem jx{a:Source}{Q:Nat->Shared->Prop}(b:n≠0)(h:∀k d,k<n->Q k { s with drawn:=d }):wpAny (model prog w) A (choose a n) Q E s:=by
 intro Γ p hΓ;show Sem.wp _ _ (.choose a n .pure) _ _ _ _;rw[Sem.wp_choose];refine⟨b,?_⟩;rw[Sem.wp_pure];exact h _ _ (Vu _ (Nat.pos_of_ne_zero b))
theorem aS:∀(n:Nat)(xs:List α)(s:Shared)(Q:List α->Shared->Prop),xs.length<=n->(∀ys d,ys.Perm xs->Q ys { s with drawn:=d })->wpAny (model prog w) A (drawOrder n xs) Q E s:=by
 intro n
 induction n with
 |zero=>
  intro xs s Q a h;rw[List.length_eq_zero_iff.mp (Nat.le_zero.mp a)]at h ⊢;exact dP (h [] s.drawn (Fh _))
 |succ n b=>
  intro xs s Q a h;cases xs with
  |nil=>exact dP (h [] s.drawn (Fh _))
  |cons x r=>
   unfold drawOrder;refine Wo (jx (by simp) λk d hk=>?_);rw[AL hk];dsimp only;refine Wo (b _ _ _ (by rw[yO hk];simp only[Am]at a ⊢;omega) λys d' c=>?_);exact dP (h _ d' ((c.cons _).trans (Si (x::r) _ hk)))
theorem Yb{Q:Bool->Shared->Prop}(ho:s.heap.get? a=some o)(hd:o.data=.set es ep t)(b:t.fits es.size=true)
  (h:Q (!B9 w && (!t.plain && decide (es.size > 1))) s):wpAny (model prog w) A (setDrawn a) Q E s:=by
 unfold setDrawn;refine Wo (i4 ho hd b ?_);dsimp only;unfold setsByText;refine Wo (Wo (jQ (dP ?_)));exact dP h
theorem YG{Q:Option (Value×Nat)->Shared->Prop}(d:B9 w=true)(ho:s.heap.get? a=some o)(hd:o.data=.set es ep t)(b:t.fits es.size=true)
  (h:Q (((pickOrder (w.params.setOrder a ep) es)[i]?).map λe=>(e.2,sl)) s):wpAny (model prog w) A (setNext a sl i ep) Q E s:=by
 have c:w.params.followText "set-order"=true:=d;unfold setNext;refine Wo (i4 ho hd b ?_);dsimp only;unfold setsByText;refine Wo (Wo (jQ (dP ?_)));show wpAny _ _ (if w.params.followText "set-order"=true then _ else _) _ _ _
 rw[eM c,eJ (by simp)];refine Wo ?_;unfold setWalk setsByText;refine Wo (i4 ho hd b ?_);dsimp only;refine Wo (Wo (jQ (dP ?_)));show wpAny _ _ (if w.params.followText "set-order"=true then _ else _) _ _ _
 rw[eM c];exact Wo (jQ (dP (dP h)))
theorem cF{Q:Option (Value×Nat)->Shared->Prop}(d:B9 w=false)(ho:s.heap.get? a=some o)(hd:o.data=.set es ep t)(c:t.fits es.size=true)
  (h1:es.size<=1) (b:t.led=true)
  (h:Q (match es[SetTable.below t.place sl]?,t.place[SetTable.below t.place sl]? with|some (_,x),some j=>some (x,j+1)|_,_=>none) s):wpAny (model prog w) A (setNext a sl i ep) Q E s:=by
 have e:w.params.followText "set-order"=false:=d;unfold setNext;refine Wo (i4 ho hd c ?_);dsimp only;unfold setsByText;refine Wo (Wo (jQ (dP ?_)));show wpAny _ _ (if w.params.followText "set-order"=true then _ else _) _ _ _
 rw[eJ (by rw[e];decide)];show wpAny _ _ (if(!t.plain && decide (es.size > 1))=true then _ else _) _ _ _
 rw[eJ (by rw[fD (by omega)];simp)];refine Wo (m:=_) ?_
 wp_delta
 rw[b];exact dP (dP h)
theorem rC(ho:s.heap.get? a=some o)(hd:o.data=.set es ep t)(b:t.fits es.size=true)(c:es[pl]?=some e)
  (h:Q e.2 s):wpAny (model prog w) A (setNextDrawn a pl ep) Q E s:=by
 unfold setNextDrawn;refine Wo (i4 ho hd b ?_);dsimp only;rw[eJ (by simp),c];exact dP h
theorem WW:Manifest.owners.lookup (String.ofList ['r','o','t','a','r','e','t','i','_','t','e','s'].reverse)=some Manifest.sig_set_iterator:=by kernel_rfl
theorem FF:Slot "set_iterator" "__next__" "set_iterator.__next__" :=
 .of (owner:="set_iterator") (n:="__next__") (by rw[ZAD,vQ];kernel_rfl) (by decide +kernel) (by decide +kernel) (by decide +kernel)
  (by first|exact .inl (by decide +kernel)|exact .inr (by decide +kernel)) (by rw[mI];kernel_rfl)
theorem Po:entryFor table "set_iterator.__next__"=some Builtin.«set_iterator.__next__»:=entryFor_of_tree (by kernel_rfl)
theorem PX(a:Value):argsOk "set_iterator.__next__" ⟨[a],[]⟩:=by
 unfold argsOk;rw[signature?_of (id:="set_iterator.__next__") (n:=['_','_','t','x','e','n','_','_']) (o:=['r','o','t','a','r','e','t','i','_','t','e','s']) (by kernel_rfl) WW];kernel_rfl
theorem W3:Slot "set_iterator" "__iter__" "set_iterator.__iter__" :=
 .of (owner:="set_iterator") (n:="__iter__") (by rw[ZAD,vQ];kernel_rfl) (by decide +kernel) (by decide +kernel) (by decide +kernel)
  (by first|exact .inl (by decide +kernel)|exact .inr (by decide +kernel)) (by rw[mI];kernel_rfl)
theorem jH(a:Value):argsOk "set_iterator.__iter__" ⟨[a],[]⟩:=by
 unfold argsOk;rw[signature?_of (id:="set_iterator.__iter__") (n:=['_','_','r','e','t','i','_','_']) (o:=['r','o','t','a','r','e','t','i','_','t','e','s']) (by kernel_rfl) WW];kernel_rfl
theorem pd:entryFor table "set_iterator.__iter__"=some Builtin.«dict_keyiterator.__iter__»:=
 ZA1 (id' := "dict_keyiterator.__iter__") (by kernel_rfl) (by first|rfl|decide +kernel|(unfold String.splitOn;simp +decide [String.splitOnAux])) (by decide +kernel) (by kernel_rfl)
theorem Xe:entryFor table "set.__iter__"=some Builtin.«frozenset.__iter__»:=
 ZA1 (id' := "frozenset.__iter__") (by kernel_rfl) (by first|rfl|decide +kernel|(unfold String.splitOn;simp +decide [String.splitOnAux])) (by decide +kernel) (by kernel_rfl)
noncomputable def HQ(f:Value)(i:Nat)(S:Addr)(n ep:Nat):Array Value:=#[f,rawInt (i:Int),.ref S,rawInt (n:Int),rawInt (ep:Int)]
def Dr(h:Heap)(I:Addr)(f:Value)(i:Nat)(S:Addr)(n ep:Nat):Prop:=∃o,h.get? I=some o/\o.cls=.type "set_iterator" /\ o.data=.fields (HQ f i S n ep)
theorem Dr.typeIs(x:Dr s.heap I f i S n ep):s.TypeIs (.ref I) "set_iterator" := let ⟨o,ho,hc,_⟩:=x;⟨o,ho,hc⟩
theorem Dr.at{h:Heap}(x:Dr h I f i S n ep)(e:∀o,h.get? I=some o->h'.get? I=some o):Dr h' I f i S n ep:=let ⟨o,ho,r⟩:=x;⟨o,e _ ho,r⟩
theorem XW{Q:α->Shared->Prop}{F:Value->Shared->Prop}(hh:A.handled=none)
  (hF:∀e h',(∀b o,s.heap.get? b=some o->h'.get? b=some o)->(Shared.TypeIs { s with heap:=h' } e "StopIteration")->F e { s with heap:=h' }) :
  wpAny (model prog w) A (newExc (.type "StopIteration") [] >>= λe=>raiseNew e) Q F s:=by
 refine Wo ?_;simp only[newExc,newTuple];refine Wo (j4 ?_ (by size_fits));refine Wo (m:=firstArgMember _ _) (jv (a:=Value.none) (by first|rfl|(simp only[firstArgMember];rfl)) ?_)
 refine j4 ?_ (by size_fits);simp only[raiseNew];refine Wo (wpAny_handled ?_);rw[hh];refine Wo (dP (wpAny_throw ?_));exact hF _ _ (λb o e=>Af _ (Af _ e)) ⟨_,Ay _ rfl,rfl⟩
theorem Rt{nx:Nat}{Q:Option Value->Shared->Prop}(b:Dr s.heap it (rawInt (sl:Int)) i S n ep)
  (ho:s.heap.get? S=some o) (hd:o.data=.set es ep t) (g:t.fits es.size=true) (f:es.size=n)
  (Rc:∀(A1:Around)(E1:Value->Shared->Prop)(Q1:Option (Value×Nat)->Shared->Prop),Q1 (some (x,nx)) s->wpAny (model prog w) A1 (setNext S sl i ep) Q1 E1 s)
  (j:∀h',Dr h' it (rawInt (nx:Int)) (i+1) S n ep->Heap.SameBut it s.heap h'->Q (some x) { s with heap:=h' }):wpAny (model prog w) A (pyNext (.ref it)) Q E s:=by
 obtain⟨k,EV,h,DV⟩:=id b;subst f;unfold pyNext;refine Wo (tJ (lW (name:=Str.ofString "__next__") b.typeIs FF
  (il FF b.typeIs Po ?_ (PX _))))
 unfold Builtin.«set_iterator.__next__»;refine Wo (jv (a:=(Value.ref it,[])) rfl ?_)
 try dsimp only
 refine Wo (ZA0 EV DV ?_);show wpAny _ _ (setEntries S >>= _) _ _ s;refine Wo (k6 ho hd g ?_);rw[eJ (by simp)];show wpAny _ _ (setNext S sl i ep >>= _) _ _ s;refine Wo (Rc _ _ _ ?_);dsimp only;refine Wo (oS EV DV (by simp[HQ]) ?_);have d:=Gk (λe=>Obj.mapFields (·.setIfInBounds 0 (rawInt (nx:Int))) e) EV (Qf (Hn DV _))
 have c:=Hn DV (·.setIfInBounds 0 (rawInt (nx:Int)))
 refine Wo (oS (s:={ s with heap:=_ }) d c (by simp[HQ]) ?_)
 refine dP ⟨x,rfl,dP (j _ ⟨_,Gk _ d (Qf (Hn c _)),?_,?_⟩ ((EN ..).trans (EN ..)))⟩
 .exact(Vv ..).trans ((Vv ..).trans h)
 .rw[Hn c];simp[HQ]
theorem Ro{Q:Option Value->Shared->Prop}(hh:A.handled=none)(c:Dr s.heap it (rawInt (sl:Int)) i S n ep)
  (ho:s.heap.get? S=some o) (hd:o.data=.set es ep t) (g:t.fits es.size=true) (f:es.size=n)
  (Rc:∀(A1:Around)(E1:Value->Shared->Prop)(Q1:Option (Value×Nat)->Shared->Prop),Q1 none s->wpAny (model prog w) A1 (setNext S sl i ep) Q1 E1 s)
  (l:∀h',Heap.ExtBut it s.heap h'->Q none { s with heap:=h' }):wpAny (model prog w) A (pyNext (.ref it)) Q E s:=by
 obtain⟨m,EV,p,DV⟩:=id c;subst f;unfold pyNext;refine Wo (tJ (lW (name:=Str.ofString "__next__") c.typeIs FF
  (il FF c.typeIs Po ?_ (PX _))))
 unfold Builtin.«set_iterator.__next__»;refine Wo (jv (a:=(Value.ref it,[])) rfl ?_)
 try dsimp only
 refine Wo (ZA0 EV DV ?_);show wpAny _ _ (setEntries S >>= _) _ _ s;refine Wo (k6 ho hd g ?_);rw[eJ (by simp)];show wpAny _ _ (setNext S sl i ep >>= _) _ _ s;refine Wo (Rc _ _ _ ?_);dsimp only;refine Wo (oS EV DV (by simp[HQ]) ?_);refine XW (A:=A.in1) hh λe h' k j=>?_;refine Wo (nW (T:="StopIteration") (b:=true) j ZAG ?_);refine dP (l _ (λb d h e=>?_));exact k b d ((J0 _ _ (BG h)).trans e)
theorem og{T:Addr}{Q:Option Value->Shared->Prop}(b:Dr s.heap it (.ref T) i S n ep)
  (ho:s.heap.get? S=some o) (hd:o.data=.set es ep t) (c:t.fits es.size=true) (f:es.size=n) (j:s.heap.get? T=some oT) (Qh:oT.data=.seq ps nT) (d:ps[i]?=some (rawInt (pl:Int))) (g:es[pl]?=some e)
  (k:∀h',Dr h' it (.ref T) (i+1) S n ep->Heap.SameBut it s.heap h'->Q (some e.2) { s with heap:=h' }):wpAny (model prog w) A (pyNext (.ref it)) Q E s:=by
 obtain⟨l,EV,h,DV⟩:=id b;subst f;unfold pyNext;refine Wo (tJ (lW (name:=Str.ofString "__next__") b.typeIs FF
  (il FF b.typeIs Po ?_ (PX _))))
 unfold Builtin.«set_iterator.__next__»;refine Wo (jv (a:=(Value.ref it,[])) rfl ?_)
 try dsimp only
 refine Wo (ZA0 EV DV ?_);show wpAny _ _ (setEntries S >>= _) _ _ s;refine Wo (k6 ho hd c ?_);rw[eJ (by simp)];show wpAny _ _ (seqItems? (.ref T) >>= _) _ _ s;refine Wo ?_;unfold seqItems?;refine Wo (zy j ?_);rw[Qh];refine dP ?_;show wpAny _ _ (match ps[i]? with|some (.int place _)=>_|some _=>_|none=>_) _ _ s
 rw[d];show wpAny _ _ (setNextDrawn S pl ep >>= _) _ _ s;refine Wo (rC ho hd c g ?_);refine Wo (oS EV DV (by simp[HQ]) ?_);refine dP ⟨e.2,rfl,dP (k _ ⟨_,Gk _ EV (Qf (Hn DV _)),?_,?_⟩ (EN ..))⟩
 .exact(Vv ..).trans h
 .rw[Hn DV];simp[HQ]
theorem jK{T:Addr}{Q:Option Value->Shared->Prop}(hh:A.handled=none)(c:Dr s.heap it (.ref T) i S n ep)
  (ho:s.heap.get? S=some o) (hd:o.data=.set es ep t) (m:t.fits es.size=true) (l:es.size=n) (f:s.heap.get? T=some oT) (Qh:oT.data=.seq ps nT) (j:ps[i]?=none)
  (p:∀h',Heap.ExtBut it s.heap h'->Q none { s with heap:=h' }):wpAny (model prog w) A (pyNext (.ref it)) Q E s:=by
 obtain⟨r,EV,u,DV⟩:=id c;subst l;unfold pyNext;refine Wo (tJ (lW (name:=Str.ofString "__next__") c.typeIs FF
  (il FF c.typeIs Po ?_ (PX _))))
 unfold Builtin.«set_iterator.__next__»;refine Wo (jv (a:=(Value.ref it,[])) rfl ?_)
 try dsimp only
 refine Wo (ZA0 EV DV ?_);show wpAny _ _ (setEntries S >>= _) _ _ s;refine Wo (k6 ho hd m ?_);rw[eJ (by simp)];show wpAny _ _ (seqItems? (.ref T) >>= _) _ _ s;refine Wo ?_;unfold seqItems?;refine Wo (zy f ?_);rw[Qh];refine dP ?_;show wpAny _ _ (match ps[i]? with|some (.int place _)=>_|some _=>_|none=>_) _ _ s
 rw[j];dsimp only;refine Wo (oS EV DV (by simp[HQ]) ?_);have h:=Gk (λd=>Obj.mapFields (·.setIfInBounds 0 (rawInt 0)) d) EV (Qf (Hn DV _))
 have q:=Hn DV (·.setIfInBounds 0 (rawInt 0))
 refine Wo (oS (s:={ s with heap:=_ }) h q (by simp[HQ]) ?_)
 refine XW (A:=A.in1) hh λe h' k f=>?_;refine Wo (nW (T:="StopIteration") (b:=true) f ZAG ?_);refine dP (p _ (λb d g e=>?_));exact k b d ((J0 _ _ (BG g)).trans ((J0 _ _ (BG g)).trans e))
theorem Ol(a:Dr s.heap it f i S n ep)(h:Q (.ref it) s):wpAny (model prog w) A (pyIter (.ref it)) Q E s:=by
 refine ZA5 a.typeIs W3 (il W3 a.typeIs pd ?_ (jH _));show wpAny _ _ (ret (.ref it)) _ _ s;exact dP ⟨_,rfl, "set_iterator", _,a.typeIs,FF.lookup,h⟩
theorem Xt(a:B9 w=true)(hh:A.handled=none)(I S:Addr)(AJ:S≠I)(hd:o.data=.set es ep t)(d:t.fits es.size=true):
  Walks prog w A I [I,S] [I] es.size (λi v=>((pickOrder (w.params.setOrder S ep) es).toList.map (·.2))[i]?=some v) (λi h=>Dr h I (rawInt ((0:Nat):Int)) i S es.size ep/\h.get? S=some o) where
 sub:=λb a=>by simp at a;simp[a]
 frame:=λ_ _ _ x hk=>⟨x.1.at λo e=>hk I (by simp) o e,hk S (by simp) _ x.2⟩
 item:=λi s Q E hi x c=>by
  have l:(pickOrder (w.params.setOrder S ep) es).size=es.size:=by
   have q:=(Lf (w.params.setOrder S ep) es).length_eq
   simpa using q
  have k:i<(pickOrder (w.params.setOrder S ep) es).size:=by omega
  refine Rt (x:=((pickOrder (w.params.setOrder S ep) es)[i]).2) (nx:=0) x.1 x.2 hd d rfl (λA1 E1 Q1 q=>YG a x.2 hd d (by rw[Gj k];exact q)) λh' JX j=>?_;exact c _ h' s.toks (by rw[AM,KG,Gj k];rfl) ⟨JX,j.extBut S o AJ x.2⟩ λb f a g=>j.extBut b f (λh=>a (by simp[h])) g
 done:=λs Q E x c=>by
  have l:(pickOrder (w.params.setOrder S ep) es).size=es.size:=by
   have q:=(Lf (w.params.setOrder S ep) es).length_eq
   simpa using q
  refine Ro hh x.1 x.2 hd d rfl (λA1 E1 Q1 q=>YG a x.2 hd d (by rw[VW (by omega)];exact q)) λh' m=>?_;exact c h' s.toks λb f a g=>m b f (λh=>a (by simp[h])) g
 self:=λ_ _ _ _ x c=>Ol x.1 c
theorem Qo:∀(a:Array α),a.size=1->∃x,a=#[x]
 | ⟨[x]⟩,_=>⟨x,rfl⟩
 | ⟨[]⟩,h=>by simp at h
 | ⟨_::_::_⟩,h=>by simp at h
theorem sE(p:Nat):SetTable.below #[p] 0=0:=by simp[SetTable.below,SetTable.below.go]
theorem below_1(p:Nat):SetTable.below #[p] (p+1)=1:=by simp[SetTable.below,SetTable.below.go]
theorem Lg(h:t.fits n=true):t.place.size=n:=by
 simp only[SetTable.fits,Cn,w8]at h;exact h.1
theorem qW(a:B9 w=false)(hh:A.handled=none)(I S:Addr)(AJ:S≠I)(hd:o.data=.set es ep t)(c:t.fits es.size=true)(h1:es.size<=1)(r:t.led=true):
  Walks prog w A I [I,S] [I] es.size (λi v=>(es.toList.map (·.2))[i]?=some v) (λi h=>Dr h I (rawInt (((if i=0 then 0 else t.place.getD 0 0+1:Nat)):Int)) i S es.size ep/\h.get? S=some o) where
 sub:=λb a=>by simp at a;simp[a]
 frame:=λ_ _ _ x hk=>⟨x.1.at λo e=>hk I (by simp) o e,hk S (by simp) _ x.2⟩
 item:=λi s Q E hi x d=>by
  obtain rfl:i=0:=by omega
  have z:es.size=1:=by omega
  have g:t.place.size=1:=(Lg c).trans z;obtain⟨e,rfl⟩:=Qo es z;obtain⟨p,f⟩:=Qo t.place g;have l:=x.1;refine Rt (x:=e.2) (nx:=p+1) l x.2 hd c rfl (λA1 E1 Q1 q=>cF a x.2 hd c h1 r (by rw[f,eM rfl,sE];exact q)) λh' JX n=>?_;refine d _ h' s.toks rfl ⟨?_,n.extBut S o AJ x.2⟩ λb k a m=>n.extBut b k (λh=>a (by simp[h])) m;rw[eJ (by omega),f];exact JX
 done:=λs Q E x d=>by
  refine Ro hh x.1 x.2 hd c rfl (λA1 E1 Q1 q=>cF a x.2 hd c h1 r ?_) λh' y=>?_
  .by_cases z:es.size=0
   .rw[VW (by omega)];exact q
   .have u:es.size=1:=by omega
    have g:t.place.size=1:=(Lg c).trans u;obtain⟨p,f⟩:=Qo t.place g;rw[eJ z,f];show Q1 (match es[SetTable.below #[p] (p+1)]?,(#[p]:Array Nat)[SetTable.below #[p] (p+1)]? with|some (_,x),some j=>some (x,j+1)|_,_=>none) s
    rw[below_1,VW (by omega)];exact q
  .exact d h' s.toks λb k a m=>y b k (λh=>a (by simp[h])) m
 self:=λ_ _ _ _ x d=>Ol x.1 d
theorem cQ(hh:A.handled=none)(I S T:Addr)(AJ:S≠I)(u:T≠I)(hd:o.data=.set es ep t)(l:t.fits es.size=true){ps:List Nat}(g:ps.Perm (List.range es.size))(n:oT.data=.seq (ps.map λi:Nat=>rawInt i).toArray nT):
  Walks prog w A I [I,S,T] [I] es.size (λi v=>(ps.map λp=>(es[p]?.map (·.2)).getD .none)[i]?=some v) (λi h=>Dr h I (.ref T) i S es.size ep/\h.get? S=some o/\h.get? T=some oT) where
 sub:=λb a=>by simp at a;simp[a]
 frame:=λ_ _ _ x hk=>⟨x.1.at λo e=>hk I (by simp) o e,hk S (by simp) _ x.2.1,hk T (by simp) _ x.2.2⟩
 item:=λi s Q E hi x c=>by
  have y:ps.length=es.size:=by have q:=g.length_eq;simpa using q
  have k:i<ps.length:=by omega
  have r:ps[i]<es.size:=by
   have q:=g.mem_iff.mp (FJ k)
   simpa using q
  have m:es[ps[i]]?=some es[ps[i]]:=Gj r;refine og (pl:=ps[i]) (e:=es[ps[i]]) x.1 x.2.1 hd l rfl x.2.2 n (by rw[yK,AM,AL k];rfl) m λh' JX d=>?_;exact c _ h' s.toks (by rw[AM,AL k];simp only[KL,m,yk]) ⟨JX,d.extBut S o AJ x.2.1,d.extBut T oT u x.2.2⟩ λb f a j=>d.extBut b f (λh=>a (by simp[h])) j
 done:=λs Q E x c=>by
  have y:ps.length=es.size:=by have q:=g.length_eq;simpa using q
  refine jK hh x.1 x.2.1 hd l rfl x.2.2 n (by rw[yK,AM,NB (by omega)];rfl) λh' z=>?_;exact c h' s.toks λb f a j=>z b f (λh=>a (by simp[h])) j
 self:=λ_ _ _ _ x c=>Ol x.1 c
theorem Yr(es:Array (Int×Value)):(List.range es.size).map (λp=>(es[p]?.map (·.2)).getD Value.none)=es.toList.map (·.2):=by
 refine QP (by simp) λi h1 h2=>?_;have hi:i<es.size:=by simpa using h1
 simp[Gj hi]
theorem jG{l:List (Int×Value)}(h:ElemsOf (PySem.strKind prog w) l):∃a,StrsAre (l.map (·.2)) a/\∀k,k∈a↔∃e∈l,(PySem.strKind prog w).is k e.2=true:=by
 induction l with
 |nil=>exact⟨[],.nil,λk=>by simp⟩
 |cons e r b=>
  obtain⟨a,h1,h2⟩:=b h.tail;obtain⟨⟨k,hk,_⟩,_⟩:=h.head;obtain⟨tk,c⟩:=Ho hk;refine⟨k::a,?_,λk'=>?_⟩
  .rw[Ce,c];exact .cons k tk h1
  .rw[De,h2 k'];constructor
   .rintro(rfl|⟨x,hx,q⟩)
    .exact⟨e,Ae,hk⟩
    .exact⟨x,Au _ hx,q⟩
   .rintro⟨x,hx,q⟩;rcases List.mem_cons.mp hx with rfl|hx
    .exact .inl ((PySem.strKind prog w).inj x.2 k' k q hk)
    .exact .inr ⟨x,hx,q⟩
theorem StrsAre.len:∀{vs:List Value}{ss:List Str},StrsAre vs ss->vs.length=ss.length
 |_,_,.nil=>rfl
 |_,_,.cons _ _ h=>by rw[Am,Am,StrsAre.len h]
theorem StrsAre.perm{Bl:List Value}(h:StrsAre vs ss)(p:Bl.Perm vs):∃A4,StrsAre Bl A4/\A4.Perm ss:=by
 refine⟨Bl.map strOf,strsAre_map Bl λv a=>h.all v (p.mem_iff.mp a),?_⟩;rw[<- h.strs];exact p.map strOf
section
theorem o8{f:Str->Bool}(K:AO prog w s.heap S f n)
  (h:∀(I:Addr)(h1:Heap)(d:_)(fp:List Addr)(vs:List Value)(m:List Str)(St:Nat->Heap->Prop),(∀A2:Around,A2.handled=none->Walks prog w A2 I fp [I] n (λi v=>vs[i]?=some v) St)->St 0 h1->(∀b∈fp,b=S∨s.heap.objs.size<=b/\b<h1.objs.size)->s.heap.objs.size<=I->s.heap.objs.size<=h1.objs.size->
   (∀b o,s.heap.get? b=some o->h1.get? b=some o)->StrsAre vs m->m.length=n->(∀k,f k=true↔k∈m)->Q (.ref I) { s with heap:=h1,drawn:=d }):wpAny (model prog w) A (pyIter (.ref S)) Q E s:=by
 obtain⟨o,es,ep,t,ho,x,hd,B2,Aw,J,j,H,Bn,B0⟩:=K;subst H;have C:s.TypeIs (.ref S) "set" := ⟨o,ho,x.1⟩;have y:S<s.heap.objs.size:=AY ho;obtain⟨R,t1,t2⟩:=jG B2;have fin:∀(I:Addr)(h1:Heap)(d:_)(fp:List Addr)(vs:List Value)(St:Nat->Heap->Prop),(∀A2:Around,A2.handled=none->Walks prog w A2 I fp [I] es.size (λi v=>vs[i]?=some v) St)->St 0 h1->(∀b∈fp,b=S∨s.heap.objs.size<=b/\b<h1.objs.size)->s.heap.objs.size<=I->s.heap.objs.size<=h1.objs.size->
   (∀b o,s.heap.get? b=some o->h1.get? b=some o)->vs.Perm (es.toList.map (·.2))->Q (.ref I) { s with heap:=h1,drawn:=d }:=by
  intro I h1 d fp vs St a1 a2 P O N M L;obtain⟨m,G,B⟩:=StrsAre.perm t1 L;refine h I h1 d fp vs m St a1 a2 P O N M G ?_ λk=>?_
  .rw[B.length_eq,<- StrsAre.len t1];simp
  .rw[Aw k,<- t2 k];exact B.mem_iff.symm
 refine ZA5 C Vc (il Vc C Xe ?_ (F.args_set_iter_1 _));unfold Builtin.«frozenset.__iter__»;refine Wo (jv (a:=S) rfl ?_);refine Wo ?_;unfold Builtin.Frozenset.sizeOf;refine Wo (k6 ho hd j (dP ?_));refine Wo (Yb ho hd j ?_)
 by_cases p:(!B9 w && (!t.plain && decide (es.size > 1)))=true
 .rw[eM p];refine Wo ?_;refine aS es.size (List.range es.size) _ _ (by rw[Cd];exact AW _) λps d u=>?_;have pz:(ps.map λi:Nat=>rawInt i).length<=sizeLine:=by rw[AB,u.length_eq,Cd];exact kd J
  refine Wo (ZAF ?_ pz);dsimp only;refine Wo (lM (s:={ s with heap:=_,drawn:=d }) (Af _ ho) hd j ?_)
  refine Wo (j4 ?_);have g:∀(q:Obj)(b:Addr)(c:Obj),s.heap.get? b=some c->((s.heap.push (seqObj "tuple" (ps.map λi:Nat=>rawInt i).toArray 0)).push q).get? b=some c:=λq b c e=>Af _ (Af _ e);have l:(s.heap.push (seqObj "tuple" (ps.map λi:Nat=>rawInt i).toArray 0)).objs.size=s.heap.objs.size+1:=C1 ..;refine dP ⟨_,rfl, "set_iterator", _,⟨_,Ay _ rfl,rfl⟩,FF.lookup,?_⟩;refine fin _ _ d [(s.heap.push (seqObj "tuple" (ps.map λi:Nat=>rawInt i).toArray 0)).objs.size,S,s.heap.objs.size] _ _ (λA2 hh=>cQ hh _ S s.heap.objs.size (by rw[l];exact Ad (Dw y)) (by rw[l];exact Ad (Gp _)) hd j u (oT:=seqObj "tuple" (ps.map λi:Nat=>rawInt i).toArray 0) rfl) ⟨⟨_,Ay _ rfl,rfl,rfl⟩,g _ _ _ ho,Af _ (Ay _ rfl)⟩ ?_ (by show s.heap.objs.size<=(s.heap.push (seqObj "tuple" (ps.map λi:Nat=>rawInt i).toArray 0)).objs.size;rw[l];exact Cf _) ?_ (g _) ?_
  .intro b BI;simp only[De,BZ,qU]at BI;rw[C1,l];rcases BI with rfl|rfl|rfl
   .right;rw[l];exact⟨Cf _,Gp _⟩
   .left;rfl
   .right;exact⟨AW _,Dw (Gp _)⟩
  .rw[C1,l];exact Vt (Cf _)
  .rw[<- Yr];exact u.map _
 .rw[eJ p];refine Wo (dP ?_);refine Wo (lM ho hd j ?_);refine Wo (j4 ?_);have g:∀(q:Obj)(b:Addr)(c:Obj),s.heap.get? b=some c->(s.heap.push q).get? b=some c:=λq b c e=>Af _ e;refine dP ⟨_,rfl, "set_iterator", _,⟨_,Ay _ rfl,rfl⟩,FF.lookup,?_⟩;have D:∀(q:Obj),∀b∈[s.heap.objs.size,S],b=S∨s.heap.objs.size<=b/\b<(s.heap.push q).objs.size:=by
   intro q b BI;simp only[De,BZ,qU]at BI;rw[C1];rcases BI with rfl|rfl
   .right;omega
   .left;rfl
  cases r:B9 w with
  |true=>
   refine fin _ _ s.drawn [s.heap.objs.size,S] _ _ (λA2 hh=>Xt r hh _ S (Ad y) hd j) ⟨⟨_,Ay _ rfl,rfl,rfl⟩,g _ _ _ ho⟩ (D _) (AW _) (by rw[C1];omega) (g _) ?_;exact(Lf _ _).map _
  |false=>
   have h1:es.size<=1:=by
    rw[r]at p
    by_cases z:es.size<=1
    .exact z
    .rw[B0 (by omega),eV (by omega:es.size > 1)]at p;exact absurd rfl p
   refine fin _ _ s.drawn [s.heap.objs.size,S] _ _ (λA2 hh=>qW r hh _ S (Ad y) hd j h1 (by rw[Bn,r];rfl)) ⟨⟨_,Ay _ rfl,rfl,rfl⟩,g _ _ _ ho⟩ (D _) (AW _) (by rw[C1];omega) (g _) (Fh _)
theorem cW:typeLookup (.type "set") "__len__"=pure (some (.builtin "set.__len__")):=by rw[ZAD,vQ];kernel_rfl
theorem fB{f:Str->Bool}{Q:List Value->Shared->Prop}(hh:A.handled=none)(r:AO prog w s.heap S f n)(N:n<=sizeLine)
  (h:∀(s':Shared)(vs:List Value)(c:List Str),(∀b o,s.heap.get? b=some o->s'.heap.get? b=some o)->s.heap.objs.size<=s'.heap.objs.size->s'.gens=s.gens->s'.os=s.os->StrsAre vs c->c.length=n->(∀k,f k=true↔k∈c)->Q vs s') :
  wpAny (model prog w) A (collect (.ref S)) Q E s:=by
 have V:S<s.heap.objs.size:=by obtain⟨o,_,_,_,ho,_⟩:=r;exact AY ho
 have x:s.heap.objs.size≠S:=DO V;unfold collect;refine Wo (uj (k9 F.entry_proto_collect ?_));rw[Iz F.plain_proto_collect _];show wpAny _ A.in1 (newList [] >>= λl=>again (.builtin "list.__iadd__" ⟨[l,.ref S],[]⟩)) _ _ s;refine Wo (j4 ?_);refine dP ⟨rJ Vb _,k9 F.entry_list_iadd ?_⟩;rw[Iz Vb _];generalize v:({ cls:=.type "list", data:=.seq ([]:List Value).toArray }:Obj)=so;have D:AO prog w (s.heap.push so) S f n:=r.keep λo e=>Af _ e;have T:(s.heap.push so).get? s.heap.objs.size=some so:=Ay _ (by rw[<- v];rfl);have sz:(s.heap.push so).objs.size=s.heap.objs.size+1:=C1 ..;have y:Shared.TypeIs { s with heap:=s.heap.push so } (.ref S) "set" := by obtain⟨o,_,_,_,ho,j,_⟩:=D;exact⟨o,ho,j.1⟩
 have h1:Builtin.List.listSameRef (.ref s.heap.objs.size) (.ref S)=false:=by simp[Builtin.List.listSameRef,x]
 show wpAny _ A.in1 (Builtin.List.listExtendWith (.ref s.heap.objs.size) (.ref S) (.ref s.heap.objs.size)) _ _ { s with heap:=s.heap.push so }
 unfold Builtin.List.listExtendWith;refine Wo (zx y ?_);rw[eJ (by rw[h1];decide)];refine Wo (o8 (s:={ s with heap:=s.heap.push so }) D λI h2 d fp vs c St W K7 HI P Y kp K5 tl L=>?_)
 have C:s.heap.objs.size∉fp:=λg=>by
  rcases HI _ g with z|⟨z,_⟩
  .exact x z
  .have K:(s.heap.push so).objs.size<=s.heap.objs.size:=z;rw[sz]at K;omega
 have m:Shared.TypeIs { s with heap:=h2,drawn:=d } (.ref S) "set" := by obtain⟨o,ho,O⟩:=y;exact⟨o,kp _ _ ho,O⟩
 refine Wo (iZ ?_);unfold Builtin.List.listLengthHint;refine Wo (ZAC m cW ?_);generalize u:("set.__len__":String)=RN
 wp_delta
 rw[show splitId RN=some ("set","__len__")from by subst u;decide +kernel];subst u;refine Wo (nW (b:=true) m (by rw[mI];kernel_rfl) ?_);rw[eJ (by decide)];refine x8 (λ_=>?_) (λBX=>absurd (by decide +kernel) BX);refine Wo (zx m ?_);refine dP ?_;refine x8 (λ_=>?_) (λBX=>absurd (by decide +kernel) BX);refine Wo (oF ?_);refine Wo ?_;show wpAny _ _ (updateSeq s.heap.objs.size (·.push .none) >>= λ_=>updateSeq s.heap.objs.size (·.pop)) _ _ _
 have J:(#[]:Array Value).size<=sizeLine:=BN _;have p:((#[]:Array Value).push Value.none).size<=sizeLine:=by show 1<=sizeLine;decide
 have H:((#[]:Array Value).push Value.none).size<=sizeLine+1:=Vt p;have G:(((#[]:Array Value).push Value.none).pop).size<=sizeLine+1:=BN _;have t:=kp _ _ T;subst v;refine Wo (wx (s:={ s with heap:=h2,drawn:=d }) t rfl ?_ J H)
 have q:=Gk (Obj.mapSeq (·.push Value.none)) t rfl
 refine wx q rfl ?_ p G;have M:=Gk (Obj.mapSeq (·.pop)) q rfl
 have B:∀b o,b≠s.heap.objs.size->h2.get? b=some o->((h2.update s.heap.objs.size (Obj.mapSeq (·.push Value.none))).update s.heap.objs.size (Obj.mapSeq (·.pop))).get? b=some o:=
  λb o a e=>(J0 _ _ (BG a)).trans ((J0 _ _ (BG a)).trans e)
 refine dP ⟨rJ yo _,codeAny_extend_loopS (W A.in1 hh).toS N _ C _ n 0 _ #[] _ rfl (BN _) ?_ M (ItemsOf.nil _) λs' HD c' g Cs Ao=>?_⟩
 .exact(W A.in1 hh).frame 0 h2 _ K7 λb a o e=>B b o (λz=>C (z▸a)) e
 .show wpAny _ A (load s.heap.objs.size >>= _) _ _ s';refine Wo (zy Cs ?_);have R:HD.toList=vs:=by
   have X:vs.length=n:=(StrsAre.len K5).trans tl;refine QQ λi=>?_
   by_cases hi:i<n
   .have h1:HD[i]?=some (HD[i]'(by rw[Ao.1];exact hi)):=Gj _;rw[KG,h1];exact(Ao.2 i _ h1).symm
   .rw[NB (by rw[Bs,Ao.1];omega),NB (by omega)]
  refine dP ?_;rw[<- R]at K5;refine h s' HD.toList c (λb o e=>?_) (FK (AY Cs)) g.gens g.os K5 tl L;have a:b<s.heap.objs.size:=AY e;refine g.heap b o ?_ (B b o (Ad a) (kp b o (Af _ e)));simp only[De,BZ,qU,not_or];refine⟨Ad a,?_⟩;have U:s.heap.objs.size+1<=I:=by rw[<- sz];exact P
  exact Ad (C5 a (ye U))
variable{R:Result->Shared->Prop}{wr:List Addr}{G:Array GenState->Array GenState->Prop}{P:Nat->Value->Prop}{St:Nat->Shared->Prop}
theorem qp(W:WalksS prog w A.in1 I fp wr G ss.length P St)(S:Addr)(EC:S∉fp)(Jx:∀i v,P i v->∃(h:i<ss.length)(t:Tok),v=.str ss[i] t)(a:ss.length+1<scanBound):
  ∀(k i:Nat)(s:Shared),ss.length - i=k->i<=ss.length->St i s->AO prog w s.heap S (λk'=>(dd (ss.take i)).any (· == k')) (dd (ss.take i)).length->
   (∀s',Moved (S::wr) G s s'->AO prog w s'.heap S (λk'=>(dd ss).any (· == k')) (dd ss).length->R (.ok (.ret .none)) s')->
   codeAny (model prog w) A (.builtin "set.update.loop" ⟨[.ref S,.ref I],[]⟩) R s:=by
 have p:S∉wr:=λh=>EC (W.sub _ h);have j:∀{s s':Shared}{f:Str->Bool}{m:Nat},Moved wr G s s'->AO prog w s.heap S f m->AO prog w s'.heap S f m:=λc d=>d.keep λo ho=>c.heap S _ p ho;intro k
 induction k with
 |zero=>
  intro i s hk hi Dv d fin;have e:i=ss.length:=by omega
  subst e;refine k9 Vw ?_;rw[Iz NO _];show wpAny _ A.in1 (pyNext (.ref I) >>= _) _ _ s;refine Wo (W.done s _ _ Dv λs' c=>?_);show wpAny _ A.in1 (ret Value.none) _ _ s';rw[Eh]at d;exact dP (fin s' (c.mono λb a=>Au _ a) (j c d))
 |succ k l=>
  intro i s hk hi Dv d fin;have g:i<ss.length:=by omega
  refine k9 Vw ?_;rw[Iz NO _];show wpAny _ A.in1 (pyNext (.ref I) >>= _) _ _ s;refine Wo (W.item i s _ _ g Dv λv s' n Rh c=>?_);obtain⟨_,t,rfl⟩:=Jx i v n;have x:=j c d;show wpAny _ A.in1 (holding [Value.str ss[i] t] (setAdd S (.str ss[i] t)) >>= _) _ _ s';refine Wo (iZ ?_);unfold setAdd;have q:(PySem.strKind prog w).is ss[i] (.str ss[i] t)=true:=Vz prog w ss[i] t;refine iZ (Wo ((PySem.strKind prog w).pyHash q ?_));have u:(dd (ss.take i)).length+1<scanBound:=by
   have:=SI (ss.take i);rw[Fi]at this;omega
  refine AO.put (s:={ s' with toks:=s'.toks+1 }) x u λh' Fu HK=>?_
  have r:AO prog w h' S (λk'=>(dd (ss.take (i+1))).any (· == k')) (dd (ss.take (i+1))).length:=
   HK.congr (λk'=>by rw[dH ss i g,kX]) (by rw[dH ss i g,WR])
  refine dP ⟨rJ NO _,l (i+1) _ (by omega) g (W.frame _ s' _ _ Rh (Cf _) λb a o e=>?_) r λHL TK UA=>?_⟩
  .rw[Fu.2 b (by rintro rfl;exact EC a)];exact e
  .refine fin HL (Moved.trans W.gtrans ((c.mono λb a=>Au _ a).then_heap (Cf _) λb o a e=>?_) TK) UA;rw[Fu.2 b (by rintro rfl;exact a Ae)];exact e
theorem X0(a:Value)
  (h:Q₁ (.ref s.heap.objs.size) { s with heap:=s.heap.push { cls:=.type "set", dict:=none,data:=.set #[] 0 (.fresh 0 0 (!B9 w)) } }) :
  codeAny (model prog w) A (.call (.builtin "set.__new__") ⟨[.type "set", a],[]⟩) (wants Q₁ E) s:=by
 refine ZAE ?_;show wpAny _ A.in1 (do checkBuiltinCall "set.__new__" ⟨[.type "set", a],[]⟩;again (.builtin "set.__new__" ⟨[.type "set", a],[]⟩)) _ _ s
 refine Wo (jv (PySem.F.newCall_set_1 a) ?_);refine dP ⟨rJ yp _,k9 PySem.F.entry_set_new ?_⟩;rw[Iz yp _];unfold Builtin.«set.__new__» Builtin.Frozenset.newClass;have c:isSubtype (.type "set") (.type "set")=pure true:=by rw[mI];kernel_rfl
 obtain⟨b,g,d,tk,os⟩:=s;dsimp only
 wp_walk
 refine jQ (dP ?_);dsimp only;simp only[newObj];refine Wo (wpAny_alloc (dP ?_));exact dP h
theorem cC{l:Addr}{T:String}{q:Option Addr}{E5:Array (Option Value)}(ho:s.heap.get? l=some { cls:=.type T,dict:=q,data:=.seq items nl,slots:=E5 })
  (gc:isSubtype (.type T) (.type "set")=pure false) (D4:isSubtype (.type T) (.type "frozenset")=pure false) (AJ:(Value.type T == Value.type "dict")=false) (hb:ss.length+1<scanBound)
  (hit:∀(s1:Shared)(A1:Around)(Q1:Value->Shared->Prop),A1.handled=A.handled->s1.heap.get? l=s.heap.get? l->l<s1.heap.objs.size->
   (∀f St P,WalksS prog w A1.in1 s1.heap.objs.size [s1.heap.objs.size,l] [s1.heap.objs.size] (λa b=>b=a) ss.length P St->(∀i v,P i v->∃(h:i<ss.length)(t:Tok),v=.str ss[i] t)->St 0 { s1 with heap:=s1.heap.push f }->Q1 (.ref s1.heap.objs.size) { s1 with heap:=s1.heap.push f })->
   wpAny (model prog w) A1 (pyIter (.ref l)) Q1 E s1)
  (h:∀(h':Heap)(tk:Nat),AO prog w h' s.heap.objs.size (λk'=>(dd ss).any (· == k')) (dd ss).length->(∀b o,b<s.heap.objs.size->s.heap.get? b=some o->h'.get? b=some o)->Q (.ref s.heap.objs.size) { s with heap:=h',toks:=tk }) :
  wpAny (model prog w) A (call (.type "set") [.ref l]) Q E s:=by
 have x:l<s.heap.objs.size:=AY ho;obtain⟨c,tl,O⟩:=PySem.F.called_set.mro;have M:=PySem.F.called_set.made;have U:=PySem.F.called_set.sub;refine wpAny_call (ZAE (by
  show wpAny _ _ (callAny (.type "set") _) _ _ _;refine dP ⟨dU _ (by decide +kernel),k9 yn ?_⟩;rw[Around.under_plain (weight_type_call_type "set" [.ref l] []) rfl];have h1:=PySem.F.called_set.notType;have h2:=PySem.F.called_set.canCreate;have N:=yu (.ref l)
  repeat (any_goals (first|assumption|wp_step))
  refine pE (X0 (.ref l) (E:=E) (Q₁:=λobj s₁=>obj=.ref s.heap.objs.size/\s₁={ s with heap:=s.heap.push { cls:=.type "set", dict:=none,data:=.set #[] 0 (.fresh 0 0 (!B9 w)) } }) ⟨rfl,rfl⟩) λr s₁ j=>?_
  cases r with
  |error e=>exact j
  |ok D=>
   cases D with
   |ret obj=>
    obtain⟨rfl,rfl⟩:=j;generalize n:({ cls:=.type "set", dict:=none,data:=.set #[] 0 (.fresh 0 0 (!B9 w)) }:Obj)=so;have hsz:(s.heap.push so).objs.size=s.heap.objs.size+1:=C1 ..;have u:(s.heap.push so).get? s.heap.objs.size=some so:=Ay _ (by rw[<- n];rfl);have C:Shared.TypeIs { s with heap:=s.heap.push so } (.ref s.heap.objs.size) "set" := ⟨_,u,by rw[<- n]⟩
    have V:=PySem.F.called_set.init.lookup;have S:=PySem.F.called_set.init.bind (.ref s.heap.objs.size)
    repeat (any_goals (first|assumption|wp_step))
    refine pE (codeAny_call_builtin (R:=wants (λr p=>r=.none/\∃h' tk,p={ s with heap:=h',toks:=tk }/\AO prog w h' s.heap.objs.size (λk'=>(dd ss).any (· == k')) (dd ss).length/\
      (∀b o,b<s.heap.objs.size->s.heap.get? b=some o->h'.get? b=some o)) E) PySem.F.called_set.init.plain ym (check_set_init_1 C ?_)) λy p d=>?_
    .have L:(s.heap.push so).get? l=some { cls:=.type T,dict:=q,data:=.seq items nl,slots:=E5 }:=Af _ ho;subst n;unfold Builtin.«set.__init__» noKeywords Builtin.Frozenset.updateFrom;generalize J:pyIter=PI
     wp_walk
     subst J;refine hit { s with heap:=s.heap.push _ } _ _ rfl (L.trans ho.symm) (yf (Dw x) hsz.symm) λf St P W Jx K7=>?_
     refine Wo (uj ?_);have K:s.heap.objs.size∉[(s.heap.push { cls:=.type "set", dict:=none,data:=.set #[] 0 (.fresh 0 0 (!B9 w)) }).objs.size,l]:=by
      rw[hsz];simp only[De,BZ,qU,not_or];exact⟨Ad (Gp _),DO x⟩
     refine qp W s.heap.objs.size K Jx hb (ss.length - 0) 0 _ rfl (BN _) K7 ?_ ?_
     .have z:=Af f u;exact⟨_,#[],0,_,z,⟨rfl,rfl,rfl⟩,rfl,λe B=>by simp at B,λk=>by simp[dd],by decide,by rfl,rfl,rfl,λh=>absurd h (by simp)⟩
     .intro s' g Cs;obtain⟨h',g',d',Rb,M7⟩:=s';have H:g'=s.gens:=g.gens;have I:d'=s.drawn:=g.drawn;have G:M7=s.os:=g.os;subst H;subst I;subst G;show wpAny _ _ _ _ _ _;refine dP ?_;show wpAny _ _ (ret Value.none) _ _ _;refine dP ⟨rfl,h',Rb,rfl,Cs,λb o BI e=>?_⟩;refine g.heap b o ?_ (Af _ (Af _ e));rw[hsz];simp only[De,BZ,qU,not_or];exact⟨Ad BI,Ad (Dw BI)⟩
    .cases y with
     |error e=>exact d
     |ok m=>
      cases m with
      |ret r=>
       obtain⟨rfl,h',tk,rfl,Cs,GL⟩:=d
       repeat (any_goals (first|assumption|wp_step))
       exact h _ _ Cs GL
      |_=>exact d.elim
   |_=>exact j.elim))
end
noncomputable def CV(P:Program)(w:World)(a:Addr)(f:Str->Bool)(n:Nat):HO:=.ext λh=>AO P w h a f n
theorem Mg(t:X.calm=true):Bw X (.type "set") (λxs H Q=>∃(p:Addr)(tp:Bool)(ss:List Str),xs=[.ref p]/\CA X.K tp H p (ss.map V.str)/\ss.length<4000/\
  ∀l,H l=none->Q (.ref l) (upd H l (CV X.prog X.w l (λk'=>(dd ss).any (· == k')) (dd ss).length))):=by
 intro Zj s Z H xs us Q I r h;obtain⟨p,tp,ss,rfl,m,B,q⟩:=h;obtain⟨u,rfl,z⟩:=vals1 r;cases z;have x:ss.length+1<scanBound:=by unfold scanBound;omega
 have fin:∀(h':Heap)(tk:Nat),AO X.prog X.w h' s.heap.objs.size (λk'=>(dd ss).any (· == k')) (dd ss).length->(∀b o,b<s.heap.objs.size->s.heap.get? b=some o->h'.get? b=some o)->
   EP X Zj Z Q (.ref s.heap.objs.size) { s with heap:=h',toks:=tk }:=λh' tk y kp=>by
  refine⟨.ref s.heap.objs.size,_,I.laid (t':=tk) (λb o e=>kp b o (AY e) e) (AW _) (show Bi X.prog X.w _ h' _ (CV X.prog X.w s.heap.objs.size _ _)from⟨y,?_,λh1 h2 Dk FD=>?_⟩),rfl,q _ (I.AA.fresh (AW _))⟩
  .obtain⟨o,_,_,_,ho,_⟩:=y;exact⟨o,ho⟩
  .exact Dk.keep FD
 cases tp with
 |false=>
  obtain⟨A0,a,pl,K0⟩:=I.list m;have f:=a.length;rw[AB]at f;obtain⟨⟨c,d,dt,sl⟩,n,ho,BR,hd,Es⟩:=id pl;simp only at BR hd Es;subst BR;subst hd;subst Es;refine cC ho yt yr (by decide) x (λs1 A1 Q1 j e1 l1 JQ=>?_) fin;have g:s1.heap.IsList p A0.toArray:=⟨_,e1.trans ho,rfl,n,rfl⟩;have k:A0.toArray.size=ss.length:=List.size_toArray.trans f.symm;refine rY g (JQ _ (λi s=>s.heap.IsListIter s1.heap.objs.size p i/\s.heap.IsList p A0.toArray) (λi v=>A0.toArray[i]?=some v) (by
   have W:=(W0 (prog:=X.prog) (w:=X.w) (A:=A1.in1) (by rw[N8,j];exact I.ok.hd t) s1.heap.objs.size p (Ad l1) A0.toArray).toS;rw[k]at W;exact W) (λi v e=>bB a (by simpa using e)) ⟨⟨_,Ay _ rfl,rfl,rfl⟩,g.push _⟩)
 |true=>
  obtain⟨A0,a,pl,K0⟩:=I.tuple m;have f:=a.length;rw[AB]at f;obtain⟨⟨c,d,dt,sl⟩,ho,BR,n,Es⟩:=id pl;simp only at BR Es;subst BR;subst Es;refine cC ho sub_tuple_set sub_tuple_frozenset (by decide) x (λs1 A1 Q1 j e1 l1 JQ=>?_) fin;have g:s1.heap.IsTuple p A0.toArray:=⟨_,e1.trans ho,rfl,n,rfl⟩;have k:A0.toArray.size=ss.length:=List.size_toArray.trans f.symm;refine pT g (JQ _ (λi s=>s.heap.IsTupleIter s1.heap.objs.size p i/\s.heap.IsTuple p A0.toArray) (λi v=>A0.toArray[i]?=some v) (by
   have W:=(Walks.tuple (prog:=X.prog) (w:=X.w) (A:=A1.in1) (by rw[N8,j];exact I.ok.hd t) s1.heap.objs.size p (Ad l1) A0.toArray).toS;rw[k]at W;exact W) (λi v e=>bB a (by simpa using e)) ⟨⟨_,Ay _ rfl,rfl,rfl⟩,?_⟩)
  exact⟨_,Af _ (e1.trans ho),rfl,n,rfl⟩
theorem Inv.drew(I:Inv X Zj Z H s)(d:Drawn):Inv X Zj Z H { s with drawn:=d }:=
 I.step (h':=s.heap) (g':=s.gens) (t':=s.toks) (d':=d) (ch:=[]) (λ_ z=>nomatch z) (λb o _ _ _ e _=>e) (λb o _ _ _ e _=>⟨o.slots,e⟩) (λ_ _ _ _ n=>n) (λb o _ e=>⟨o,e⟩) (λ_ _ e=>e) (λ_ _ _ e=>e) (λm a=>a) I.AA I.bare
theorem Y6{l:Addr}{Q:List Value->Shared->Prop}(a:IsTup s.heap l vs.toArray)(h:Q vs { s with heap:=(s.heap.push (seqObj "list" #[] 0)).update s.heap.objs.size (Obj.mapSeq (·++vs.toArray)) })(hsz:vs.length<=sizeLine):
  wpAny (model prog w) A (collect (.ref l)) Q E s:=by
 obtain⟨o,ho,b,n,hd⟩:=id a;unfold collect;refine Wo (uj (k9 entry_proto_collect' ?_));show wpAny _ _ (newList [] >>= λx=>again (.builtin "list.__iadd__" ⟨[x,.ref l],[]⟩)) _ _ s;refine Wo (wZ ?_);refine dP ⟨dU _ (by decide +kernel),k9 entry_list_iadd' ?_⟩;show wpAny _ _ (Builtin.List.listExtendWith (.ref s.heap.objs.size) (.ref l) (.ref s.heap.objs.size)) _ _ { s with heap:=s.heap.push (seqObj "list" #[] 0) }
 unfold Builtin.List.listExtendWith;have g:(s.heap.push (seqObj "list" #[] 0)).get? l=some o:=Af _ ho;refine Wo (zx (T:="tuple") ⟨o,g,b⟩ ?_);rw[eM (by simp)];refine Wo (listItems_at g hd ?_);refine Wo (listItems_at (xs:=#[]) (n:=0) (Ay _ rfl) rfl ?_);rw[eJ (by simp)];refine Wo (listUpdate_at (xs:=#[]) (n:=0) (Ay _ rfl) rfl ?_ (BN _) (by show(#[]++vs.toArray).size<=sizeLine+1;simp only[Array.size_append,Bp,ND];omega));refine dP ?_;show wpAny (model prog w) A (load s.heap.objs.size >>= λo=>(match o.data with | .seq xs _=>pure xs.toList|_=>unsupported "internal:collect")) Q E _
 refine Wo (zy (get?_update_seq (Ay _ rfl) _) ?_);show wpAny _ _ (pure ((#[]:Array Value)++vs.toArray).toList) Q E _;have e:((#[]:Array Value)++vs.toArray).toList=vs:=by simp
 rw[e];exact dP h
theorem ar(i:∀(A1:Around)(E1:Value->Shared->Prop)(Q1:List Value->Shared->Prop),A1.handled=A.handled->(∀vs s1,Pc vs s1->Q1 vs s1)->wpAny (model prog w) A1 (collect v) Q1 E1 s)
  (h:∀vs s1,Pc vs s1->vs.length<64/\∃ss,StrsAre vs ss/\∀out A4 e h',(∀b o,s1.heap.get? b=some o->h'.get? b=some o)->h'.get? s1.heap.objs.size=some (seqObj "list" out e)->StrsAre out.toList A4->A4.Perm ss->sortedS A4=true->Q (.ref s1.heap.objs.size) { s1 with heap:=h' }) :
  wpAny (model prog w) A (call (.builtin "sorted") [v]) Q E s:=by
 refine xy kind_sorted plain_sorted entry_sorted (args_sorted1 _) ?_;unfold Builtin.«sorted»;refine Wo (m:=checkCount "sorted" 1 1 _) (dP ?_);refine Wo (i _ _ _ rfl λvs s1 f=>?_);obtain⟨Bh,ss,IH,k⟩:=h vs s1 f;refine Wo (wZ ?_);have a:(s1.heap.push (seqObj "list" vs.toArray 0)).get? s1.heap.objs.size=some (seqObj "list" vs.toArray 0):=Ay _ rfl;refine Wo (iZ (il slot_list_sort ⟨_,a,rfl⟩ entry_list_sort (list_sort_treeK (s:={ s1 with heap:=s1.heap.push (seqObj "list" vs.toArray 0) }) strKind_oneLt a IH.keysOf (λq p rest e=>keyKind_strs (by rw[<- e];exact IH)) Bh λEd a1 a2=>⟨_,rfl,?_⟩) (args_list_sort _)))
 obtain⟨A4,n,l,j⟩:=sorted_out_str IH a1 a2;obtain⟨e,g⟩:=sortedHeap_at (out:=(arrOf Ed).map (·.2)) a
 refine dP ⟨_,rfl,k _ A4 e _ (λb o c=>?_) g n l j⟩;have d:=AY c;rw[sortedHeap_old (Ad d) (by rw[C1];exact Dw d)];exact Af _ c
theorem YT:∀{ss:List Str}{us:List Value},Vals (ss.map V.str) us->StrsAre us ss
 | [],_,.nil=>.nil
 |x::r,_,.cons ⟨t,e⟩ h=>by rw[e];exact .cons x t (YT h)
theorem dJ:∀{ss:List Str}{us:List Value},StrsAre us ss->Vals (ss.map V.str) us
 |_,_,.nil=>.nil
 |_,_,.cons x t h=>.cons ⟨t,rfl⟩ (dJ h)
theorem bC{Q:VK}(I:Inv X Zj Z H s)(d:s1.gens=s.gens)(ho:s1.os=s.os)(hk:∀b o,s.heap.get? b=some o->s1.heap.get? b=some o)(c:s.heap.objs.size<=s1.heap.objs.size)
  {out:Array Value}{e:Nat}(kp:∀b o,s1.heap.get? b=some o->h'.get? b=some o) (f:h'.get? s1.heap.objs.size=some (seqObj "list" out e)) (g:StrsAre out.toList A4) (Bh:A4.length<64)
  (q:∀l,H l=none->Q (.ref l) (upd H l (.lst (A4.map V.str)))):EP X Zj Z Q (.ref s1.heap.objs.size) { s1 with heap:=h' }:=by
 obtain⟨h1,g1,h,t1,i⟩:=s1;simp only at d ho hk c kp f;subst d;subst ho;refine⟨.ref _,_,(I.drew h).laid (a:=h1.objs.size) (h':=h') (t':=t1) (o:=.lst (A4.map V.str)) (λb o q=>kp b o (hk b o q)) c ?_,rfl,q _ (I.AA.fresh c)⟩;refine⟨?_,out.toList,e,dJ g,by simpa[seqObj]using f⟩
 rw[AB];exact CC (FK Bh) (by decide +kernel)
def kD(K:zu):List V->Hp->VK->Prop:=λxs H Q=>∃(p:Addr)(tp:Bool)(ss:List Str),xs=[.ref p]/\CA K tp H p (ss.map V.str)/\ss.length<64/\∀l A4,H l=none->A4.Perm ss->sortedS A4=true->Q (.ref l) (upd H l (.lst (A4.map V.str)))
theorem rV:Bw X (.builtin "sorted") (kD X.K):=by
 intro Zj s Z H xs us Q I r h;obtain⟨p,tp,ss,rfl,d,Bh,q⟩:=h;obtain⟨u,rfl,i⟩:=vals1 r;cases i;have key:∀A0:List Value,Vals (ss.map V.str) A0->(∀(A1:Around)(E1:Value->Shared->Prop)(Q1:List Value->Shared->Prop),Q1 A0 { s with heap:=(s.heap.push (seqObj "list" #[] 0)).update s.heap.objs.size (Obj.mapSeq (·++A0.toArray)) }->wpAny (model X.prog X.w) A1 (collect (.ref p)) Q1 E1 s)->
   wpAny (model X.prog X.w) X.A (call (.builtin "sorted") [.ref p]) (EP X Zj Z Q) X.xe s:=by
  intro A0 c U5;have a:=c.length;rw[AB]at a;refine ar (Pc:=λvs s1=>vs=A0/\s1={ s with heap:=(s.heap.push (seqObj "list" #[] 0)).update s.heap.objs.size (Obj.mapSeq (·++A0.toArray)) }) (λA1 E1 Q1 _ k=>U5 A1 E1 Q1 (k _ _ ⟨rfl,rfl⟩)) ?_
  rintro vs s1⟨rfl,rfl⟩;refine⟨by omega,ss,YT c,λout A4 e h' kp t v f m=>?_⟩;refine bC (s1:={ s with heap:=(s.heap.push (seqObj "list" #[] 0)).update s.heap.objs.size (Obj.mapSeq (·++vs.toArray)) }) I rfl rfl (λb o g=>?_) (by show s.heap.objs.size<=((s.heap.push (seqObj "list" #[] 0)).update s.heap.objs.size (Obj.mapSeq (·++vs.toArray))).objs.size;rw[Vf,C1];exact Cf _) kp t v (by rw[f.length_eq];exact Bh) λl n=>q l A4 n f m
  show((s.heap.push _).update _ _).get? b=some o;rw[Ve _ _ _ _ (Ad (AY g))];exact Af _ g
 cases tp with
 |false=>
  obtain⟨A0,c,pl,j⟩:=I.list d;have a:=c.length;exact key A0 c λA1 E1 Q1 k=>collect_list pl.isList k (by omega)
 |true=>
  obtain⟨A0,c,pl,j⟩:=I.tuple d;have a:=c.length;exact key A0 c λA1 E1 Q1 k=>Y6 pl k (by omega)
def kH(P:Program)(w:World):List V->Hp->VK->Prop:=λxs H Q=>∃(p:Addr)(f:Str->Bool)(n:Nat),xs=[.ref p]/\H p=some (CV P w p f n)/\n<64/\∀l a,H l=none->a.length=n->(∀k,f k=true↔k∈a)->sortedS a=true->Q (.ref l) (upd H l (.lst (a.map V.str)))
theorem vD(z:X.calm=true):Bw X (.builtin "sorted") (kH X.prog X.w):=by
 intro Zj s Z H xs us Q I r h;obtain⟨p,f,n,rfl,C,Bh,q⟩:=h;obtain⟨u,rfl,t⟩:=vals1 r;cases t;have B:AO X.prog X.w s.heap p f n:=(I.AA p _ C).1;have hh:X.A.handled=none:=I.ok.hd z;refine ar (Pc:=λvs s1=>∃a,(∀b o,s.heap.get? b=some o->s1.heap.get? b=some o)/\s.heap.objs.size<=s1.heap.objs.size/\s1.gens=s.gens/\s1.os=s.os/\StrsAre vs a/\a.length=n/\(∀k,f k=true↔k∈a)) (λA1 E1 Q1 D k=>?_) ?_
 .exact fB (D.trans hh) B (CC (FK Bh) (by decide +kernel)) λs' vs a a1 a2 m j d c i=>k vs s' ⟨a,a1,a2,m,j,d,c,i⟩
 .rintro vs s1⟨a,a1,a2,m,j,d,c,i⟩;refine⟨by rw[StrsAre.len d,c];exact Bh,a,d,λout A4 e h' kp y Cs g v=>?_⟩;exact bC I m j a1 a2 kp y Cs (by rw[g.length_eq,c];exact Bh) λl x=>q l A4 x (g.length_eq.trans c) (λk=>(i k).trans g.mem_iff.symm) v
theorem YF(i:∀(A1:Around)(E1:Value->Shared->Prop)(Q1:List Value->Shared->Prop),A1.handled=A.handled->(∀vs s1,Pc vs s1->Q1 vs s1)->wpAny (model prog w) A1 (collect v) Q1 E1 s)
  (h:∀vs s1,Pc vs s1->vs.length<64/\∃ns,IntsAre vs ns/\∀out Di e h',(∀b o,s1.heap.get? b=some o->h'.get? b=some o)->h'.get? s1.heap.objs.size=some (seqObj "list" out e)->IntsAre out.toList Di->Di.Perm ns->Di.Pairwise (·<=·)->Q (.ref s1.heap.objs.size) { s1 with heap:=h' }) :
  wpAny (model prog w) A (call (.builtin "sorted") [v]) Q E s:=by
 refine xy kind_sorted plain_sorted entry_sorted (args_sorted1 _) ?_;unfold Builtin.«sorted»;refine Wo (m:=checkCount "sorted" 1 1 _) (dP ?_);refine Wo (i _ _ _ rfl λvs s1 f=>?_);obtain⟨Bh,ns,IH,k⟩:=h vs s1 f;refine Wo (wZ ?_);have a:(s1.heap.push (seqObj "list" vs.toArray 0)).get? s1.heap.objs.size=some (seqObj "list" vs.toArray 0):=Ay _ rfl;refine Wo (iZ (il slot_list_sort ⟨_,a,rfl⟩ entry_list_sort (list_sort_tree (s:={ s1 with heap:=s1.heap.push (seqObj "list" vs.toArray 0) }) a IH Bh λout Di n l j=>⟨_,rfl,?_⟩) (args_list_sort _)))
 obtain⟨e,g⟩:=sortedHeap_at (out:=out) a;refine dP ⟨_,rfl,k _ Di e _ (λb o c=>?_) g n l j⟩;have d:=AY c;rw[sortedHeap_old (Ad d) (by rw[C1];exact Dw d)];exact Af _ c
theorem X7:∀{ss:List Int}{us:List Value},Vals (ss.map V.int) us->IntsAre us ss
 | [],_,.nil=>.nil
 |x::r,_,.cons ⟨t,e⟩ h=>by rw[e];exact .cons x t (X7 h)
theorem bq:∀{ss:List Int}{us:List Value},IntsAre us ss->Vals (ss.map V.int) us
 |_,_,.nil=>.nil
 |_,_,.cons x t h=>.cons ⟨t,rfl⟩ (bq h)
theorem YQ{Q:VK}(I:Inv X Zj Z H s)(d:s1.gens=s.gens)(ho:s1.os=s.os)(hk:∀b o,s.heap.get? b=some o->s1.heap.get? b=some o)(c:s.heap.objs.size<=s1.heap.objs.size)
  {out:Array Value}{A4:List Int}{e:Nat}(kp:∀b o,s1.heap.get? b=some o->h'.get? b=some o) (f:h'.get? s1.heap.objs.size=some (seqObj "list" out e)) (g:IntsAre out.toList A4) (Bh:A4.length<64)
  (q:∀l,H l=none->Q (.ref l) (upd H l (.lst (A4.map V.int)))):EP X Zj Z Q (.ref s1.heap.objs.size) { s1 with heap:=h' }:=by
 obtain⟨h1,g1,h,t1,i⟩:=s1;simp only at d ho hk c kp f;subst d;subst ho;refine⟨.ref _,_,(I.drew h).laid (a:=h1.objs.size) (h':=h') (t':=t1) (o:=.lst (A4.map V.int)) (λb o q=>kp b o (hk b o q)) c ?_,rfl,q _ (I.AA.fresh c)⟩;refine⟨?_,out.toList,e,bq g,by simpa[seqObj]using f⟩
 rw[AB];exact CC (FK Bh) (by decide +kernel)
def Xp(K:zu):List V->Hp->VK->Prop:=λxs H Q=>∃(p:Addr)(tp:Bool)(ss:List Int),xs=[.ref p]/\CA K tp H p (ss.map V.int)/\ss.length<64/\∀(l:Addr)(A4:List Int),H l=none->A4.Perm ss->A4.Pairwise (·<=·)->Q (.ref l) (upd H l (.lst (A4.map V.int)))
theorem t5:Bw X (.builtin "sorted") (Xp X.K):=by
 intro Zj s Z H xs us Q I r h;obtain⟨p,tp,ss,rfl,d,Bh,q⟩:=h;obtain⟨u,rfl,i⟩:=vals1 r;cases i;have key:∀A0:List Value,Vals (ss.map V.int) A0->(∀(A1:Around)(E1:Value->Shared->Prop)(Q1:List Value->Shared->Prop),Q1 A0 { s with heap:=(s.heap.push (seqObj "list" #[] 0)).update s.heap.objs.size (Obj.mapSeq (·++A0.toArray)) }->wpAny (model X.prog X.w) A1 (collect (.ref p)) Q1 E1 s)->
   wpAny (model X.prog X.w) X.A (call (.builtin "sorted") [.ref p]) (EP X Zj Z Q) X.xe s:=by
  intro A0 c U5;have a:=c.length;rw[AB]at a;refine YF (Pc:=λvs s1=>vs=A0/\s1={ s with heap:=(s.heap.push (seqObj "list" #[] 0)).update s.heap.objs.size (Obj.mapSeq (·++A0.toArray)) }) (λA1 E1 Q1 _ k=>U5 A1 E1 Q1 (k _ _ ⟨rfl,rfl⟩)) ?_
  rintro vs s1⟨rfl,rfl⟩;refine⟨by omega,ss,X7 c,λout A4 e h' kp t v f m=>?_⟩;refine YQ (s1:={ s with heap:=(s.heap.push (seqObj "list" #[] 0)).update s.heap.objs.size (Obj.mapSeq (·++vs.toArray)) }) I rfl rfl (λb o g=>?_) (by show s.heap.objs.size<=((s.heap.push (seqObj "list" #[] 0)).update s.heap.objs.size (Obj.mapSeq (·++vs.toArray))).objs.size;rw[Vf,C1];exact Cf _) kp t v (by rw[f.length_eq];exact Bh) λl n=>q l A4 n f m
  show((s.heap.push _).update _ _).get? b=some o;rw[Ve _ _ _ _ (Ad (AY g))];exact Af _ g
 cases tp with
 |false=>
  obtain⟨A0,c,pl,j⟩:=I.list d;have a:=c.length;exact key A0 c λA1 E1 Q1 k=>collect_list pl.isList k (by omega)
 |true=>
  obtain⟨A0,c,pl,j⟩:=I.tuple d;have a:=c.length;exact key A0 c λA1 E1 Q1 k=>Y6 pl k (by omega)
end L2
namespace HT
open AutoSeq1 (wpAny_loadPart')
variable{prog:Program}{w:World}{A:Around}{E Q:Value->Shared->Prop}{it tu:Addr}{i:Nat}{old v:Value}
theorem sy(tu:Addr)(vals:Array Value)(k:Nat)(e:Option Addr)(Tp:Array (Option Value)):
  Meets (Builtin.«enumerate.__new__» ⟨[.type "enumerate",.ref tu],[]⟩) (λ_ R s=>s.heap.get? tu=some { cls:=.type "tuple", dict:=e,data:=.seq vals k,slots:=Tp }/\R (.ok (.ret (.ref (s.heap.push { cls:=.type "tuple_iterator", data:=.fields #[.ref tu,.int 0 0] }).objs.size)))
    { s with heap:=(s.heap.push { cls:=.type "tuple_iterator", data:=.fields #[.ref tu,.int 0 0] }).push { cls:=.type "enumerate", data:=.fields #[.none,.bool false,.ref s.heap.objs.size,rawInt 0,.none,.none] } }):=.of_wp λprog w A R s h=>by
 obtain⟨b,g,d,tk,os⟩:=s;obtain⟨ho,h⟩:=h;have f:=sub_enumerate;have a:Heap.IsTuple (Shared.heap ⟨b,g,d,tk,os⟩) tu vals:=⟨_,ho,rfl,k,rfl⟩
 wp_walk using wpAny_loadPart' ho
 refine wpAny_stack_any λi=>dP ?_;split
 .rename_i c _ _ _ _ _;cases(c == Value.type "enumerate") <;> (wp_walk using wpAny_loadPart' ho,pT a;exact⟨_,rfl,h⟩)
 .wp_walk using wpAny_loadPart' ho,pT a
  exact⟨_,rfl,h⟩
section
variable{s:Shared}
theorem sU{vals:Array Value}(f:s.heap.IsTuple tu vals)
  (q:∀h',IsEnum h' (s.heap.objs.size+1) s.heap.objs.size 0 .none->h'.IsTupleIter s.heap.objs.size tu 0->h'.objs.size=s.heap.objs.size+2->(∀b o,s.heap.get? b=some o->h'.get? b=some o)->Q (.ref (s.heap.objs.size+1)) { s with heap:=h' }) :
  wpAny (model prog w) A (call (.type "enumerate") [.ref tu]) Q E s:=by
 obtain⟨⟨c,g,dt,Tp⟩,ho,a,k,hd⟩:=f;replace a:c=.type "tuple" := a;replace hd:dt=.seq vals k:=hd;subst a hd;refine callType_new F.called_enumerate (by decide) (F.typeCall_enumerate_1 _) (F.newCall_enumerate_1 _) (λe=>F.args_object_init_2 e _) F.entry_enumerate_new (sy tu vals k g Tp) ⟨ho,?_⟩;have z:(s.heap.push { cls:=.type "tuple_iterator", data:=.fields #[.ref tu,.int 0 0] }).objs.size=s.heap.objs.size+1:=C1 ..;show _/\_;rw[z];have d:IsEnum ((s.heap.push { cls:=.type "tuple_iterator", data:=.fields #[.ref tu,.int 0 0] }).push { cls:=.type "enumerate", data:=.fields #[.none,.bool false,.ref s.heap.objs.size,rawInt 0,.none,.none] }) (s.heap.objs.size+1) s.heap.objs.size 0 .none:=by
  have y:=Ay (s.heap.push { cls:=.type "tuple_iterator", data:=.fields #[.ref tu,.int 0 0] }) (o:={ cls:=.type "enumerate", data:=.fields #[.none,.bool false,.ref s.heap.objs.size,rawInt 0,.none,.none] }) rfl;rw[z]at y;exact y
 exact⟨⟨_,d,rfl⟩,q _ d ⟨_,Af _ (Ay _ rfl),rfl,rfl⟩ (by rw[C1,z]) λb o y=>Af _ (Af _ y)⟩
theorem xQ{vals:Array Value}(hi:s.heap.IsTupleIter it tu i)(c:s.heap.IsTuple tu vals)(b:vals[i]?=some v)
  (q:∀h',h'.IsTupleIter it tu (i+1)->Heap.SameBut it s.heap h'->Q v { s with heap:=h' }):wpAny (model prog w) A (Builtin.SmallTypes.nextOf (.ref it)) Q E s:=by
 obtain⟨o,ho,d,hd⟩:=id hi;obtain⟨e,D1,_,k,a⟩:=c;unfold Builtin.SmallTypes.nextOf;refine Wo (lW (name:=Str.ofString "__next__") hi.typeIs Vd (il Vd hi.typeIs y3 ?_ (y0 _)));show wpAny _ _ (field (.ref it) 0 >>= _) _ _ s;refine Wo (ZA4 ho hd (x:=.ref tu) rfl ?_);show wpAny _ _ (if(Value.ref tu == Value.none)=true then _ else _) _ _ s;rw[eJ (show ¬ ((Value.ref tu == Value.none)=true)from Co)]
 show wpAny _ _ (field (.ref it) 1 >>= _) _ _ s;refine Wo (ZA4 ho hd (x:=.int i 0) rfl ?_);show wpAny _ _ (seqItems? (.ref tu) >>= _) _ _ s;refine Wo (wpAny_seqItems D1 a ?_);simp only[J6,b];refine Wo (oS ho hd (by simp) (dP ⟨v,rfl,dP (q _ ?_ (EN ..))⟩));exact⟨_,Gk _ ho (Qf (Hn hd _)),(Vv ..).trans d,by rw[Hn hd];simp[rawInt]⟩
theorem ae{vals:Array Value}(hh:A.handled=none)(hi:s.heap.IsTupleIter it tu i)(d:s.heap.IsTuple tu vals)(c:vals[i]?=none)
  (q:∀h' e,Heap.ExtBut it s.heap h'->(∃o,h'.get? e=some o/\o.cls=.type "StopIteration")->E (.ref e) { s with heap:=h' }):wpAny (model prog w) A (Builtin.SmallTypes.nextOf (.ref it)) Q E s:=by
 obtain⟨o,ho,g,hd⟩:=id hi;obtain⟨f,D1,_,k,b⟩:=d;unfold Builtin.SmallTypes.nextOf;refine Wo (lW (name:=Str.ofString "__next__") hi.typeIs Vd (il Vd hi.typeIs y3 ?_ (y0 _)));show wpAny _ _ (field (.ref it) 0 >>= _) _ _ s;refine Wo (ZA4 ho hd (x:=.ref tu) rfl ?_);show wpAny _ _ (if(Value.ref tu == Value.none)=true then _ else _) _ _ s;rw[eJ (show ¬ ((Value.ref tu == Value.none)=true)from Co)]
 show wpAny _ _ (field (.ref it) 1 >>= _) _ _ s;refine Wo (ZA4 ho hd (x:=.int i 0) rfl ?_);show wpAny _ _ (seqItems? (.ref tu) >>= _) _ _ s;refine Wo (wpAny_seqItems D1 b ?_);simp only[J6,c];refine Wo (oF (Wo (oS ho hd (by simp) ?_)));show wpAny _ _ (newExc (.type "StopIteration") [] >>= _) _ _ _;refine Wo ?_;simp only[newExc,newTuple];refine Wo (j4 ?_ (by size_fits));refine Wo (m:=firstArgMember _ _) (jv (a:=Value.none) (by first|rfl|(simp only[firstArgMember];rfl)) ?_);refine j4 ?_ (by size_fits)
 simp only[raiseNew];refine Wo (wpAny_handled ?_);first|rw[show A.in1.handled=none from hh]|rw[hh]
 refine Wo (dP (wpAny_throw ?_));exact q _ _ (((EN ..).extBut.push _).push _) ⟨_,Ay _ rfl,rfl⟩
theorem qt{e:Addr}{vals:Array Value}{j:Int}{Q:Option Value->Shared->Prop}(hh:A.handled=none)(a:IsEnum s.heap e it j old)(hi:s.heap.IsTupleIter it tu i)(d:s.heap.IsTuple tu vals)(c:vals[i]?=none)
  (q:∀h',Heap.ExtBut it s.heap h'->Q none { s with heap:=h' }):wpAny (model prog w) A (pyNext (.ref e)) Q E s:=by
 have ty:s.TypeIs (.ref e) "enumerate" := ⟨_,a,rfl⟩;unfold pyNext;refine Wo (tJ (lW (name:=Str.ofString "__next__") ty F.slot_enumerate_next (il F.slot_enumerate_next ty F.entry_enumerate_next ?_ (F.args_enumerate_next_1 _))));show wpAny _ _ (field (.ref e) 2 >>= _) _ _ _;refine Wo (ZA4 a rfl (x:=.ref it) rfl ?_);refine Wo (ae (show A.in1.handled=none from hh) hi d c λh' x g hx=>?_)
 obtain⟨o,ho,f⟩:=hx;exact Wo (nW (T:="StopIteration") (b:=true) ⟨o,ho,f⟩ ZAG (dP (q _ g)))
end
theorem fJ(hh:A.handled=none)(it tu:Addr)(AJ:tu≠it)(vals:Array Value):
  Draws prog w A it [it,tu] vals.size (λi v=>vals[i]?=some v) (λi h=>h.IsTupleIter it tu i/\h.IsTuple tu vals) where
 live:=λ_ _ st=>by obtain⟨o,ho,_⟩:=st.1;exact⟨o,ho⟩
 frame:=λ_ _ _ st hk=>by
  obtain⟨⟨o,ho,r⟩,c,D1,d⟩:=st;exact⟨⟨o,hk it (by simp) o ho,r⟩,c,hk tu (by simp) c D1,d⟩
 item:=λi s Q E hi st e=>xQ st.1 st.2 (v:=vals[i]) (by simp[hi]) λh' a b=>e _ h' s.toks (by simp[hi]) ⟨a,st.2.extBut b.extBut AJ⟩ b
 done:=λs Q E st f=>ae hh st.1 st.2 (by simp) f
end HT
namespace L2
variable{es:List Expr}{k1:Nat}
section
variable{X:Cx}
noncomputable def Wk(K:zu)(tp:Bool)(a:Addr)(xs:List V):It:=
 ⟨λi H=>CA K tp H a xs/\i<xs.length,λi H x H'=>∃p y,xs[i]?=some y/\x=.ref p/\H p=none/\H'=upd H p (.tup [.int i,y]),λi H=>CA K tp H a xs/\xs.length<=i⟩
theorem oV{P:Program}{w:World}{K:zu}{p1:Pos}(a e it:Addr)(xs:List V)(Ki:e≠it):
  Turn P w K (.Tuple es k1 p1) (Wk K true a xs) [e,it] e (λi h=>(∃old,IsEnum h e it i old)/\h.IsTupleIter it a i) where
 mem:=by simp
 obj:=λi h st b f=>by
  obtain⟨⟨old,h1⟩,o,h2,_,d⟩:=st;rcases List.mem_cons.mp f with z|z
  .subst z;exact⟨_,h1,λv z=>by cases z⟩
  .have y:b=it:=by simpa using z
   subst y;exact⟨o,h2,λv z=>by rw[d]at z;cases z⟩
 keep:=λi h h' st k=>⟨let ⟨old,h1⟩:=st.1;⟨old,k e (by simp) _ h1⟩,let ⟨o,h2,r⟩:=st.2;⟨o,k it (by simp) o h2,r⟩⟩
 item:=by
  intro X F hw G D i Zj s Z H E I x st C;subst F hw G;obtain⟨B,hi⟩:=C;obtain⟨⟨old,g⟩,c⟩:=st;obtain⟨A0,m,j,T⟩:=I.tuple B;obtain⟨u,U,O⟩:=m.get (AL hi);have Gu:A0.toArray[i]?=some u:=by simpa using U
  have zM:a<s.heap.objs.size:=j.lt;have W:a≠it:=by
   rintro rfl;obtain⟨o,t,R,_⟩:=c;obtain⟨S,l,p,_⟩:=j;rw[t]at l;cases l;rw[R]at p;exact absurd p (by decide)
  have N:e≠a:=by
   rintro rfl;obtain⟨S,l,p,_⟩:=j;have t:=g;unfold IsEnum at t;rw[t]at l;cases l;exact absurd (show Value.type "enumerate"=Value.type "tuple" from p) (by decide)
  have L:e<s.heap.objs.size:=AY g;refine wpAny_pyNext_enum_itemD (n:=A0.toArray.size) (HT.fJ (show X.A.in1.handled=none from I.ok.hd D) it a W A0.toArray) g ⟨c,j⟩ (by rw[Bp,<- m.length];exact hi) Ki (by simp[Ki,N]) λv h1 SV pv Ga Q Ky sx RO=>⟨_,rfl,?_⟩;have Y:v=u:=by rw[Gu]at pv;exact(BB pv).symm
  subst Y;refine ZA3 Ga λh2 IA D4=>?_;have J:h2.get? s.heap.objs.size=some { cls:=.type "tuple", data:=.seq #[.int i SV,v] }:=(D4.2 _ (DO L)).trans Ky;have kp:∀b o,b∉[e,it]->s.heap.get? b=some o->h2.get? b=some o:=λb o f q=>by
   have y:b≠e/\b≠it:=by simpa using f
   exact(D4.2 b y.1).trans (RO b o y.1 y.2 q)
  refine⟨.ref s.heap.objs.size,_,I.Y2 (t':=SV+1) (a:=s.heap.objs.size) (o:=.tup [.int i,xs[i]]) x kp (AW _) ?_,rfl,⟨_,_,AL hi,rfl,I.AA.fresh (AW _),rfl⟩,⟨⟨_,IA⟩,?_⟩,λb f=>?_⟩
  .exact⟨(by show 2<=sizeLine;decide),[.int i SV,v],.cons ⟨_,rfl⟩ (.cons O .nil),⟨_,J,rfl,_,rfl⟩,λob q=>by rw[J]at q;cases q;rfl⟩
  .obtain⟨o,q,r⟩:=Q.1;exact⟨o,(D4.2 it (BG Ki)).trans q,r⟩
  .have y:b<s.heap.objs.size:=by
    rcases List.mem_cons.mp f with z|z
    .rw[z];exact L
    .have M:b=it:=by simpa using z
     obtain⟨o,q,_⟩:=c;rw[M];exact AY q
   rw[AN (Ad y)];exact(x b f).1
 done:=by
  intro X F hw G D i Zj s Z H E I x st C;subst F hw G;obtain⟨B,hx⟩:=C;obtain⟨⟨old,g⟩,c⟩:=st;obtain⟨A0,m,j,T⟩:=I.tuple B;have hl:=m.length;exact HT.qt (I.ok.hd D) g c j (by simp;omega) λh' σ=>⟨rfl,I.X6 (t':=s.toks) x λb o f q=>σ b o (λz=>f (by simp[z])) q⟩
 self:=λ_ _ _ _ _ st h=>let ⟨⟨_,g⟩,_⟩:=st;vK g h
def Tf(K:zu)(t:TA):TI:=λZ H R=>t Z H λvs H1=>∃a tp xs,vs=[.ref a]/\CA K tp H1 a xs/\R (Wk K tp a xs) H1
theorem XI{p1 p pos:Pos}{l:Expr}{t:TA}(A:Gl X "enumerate")(x:X.mg "enumerate"=none)(e:QA X [l] t)(w:starEach [l] X.env=[(false,eval l X.env)]:=by rfl):
  QI X (.Tuple es k1 p1) (.Call (.Name "enumerate" p) [l] [] pos) (Tf X.K t):=⟨by
 have e:=e.h;intro Zj s Z H R I h;refine o7 (HH I A x (show bootBuiltins "enumerate"=some (.type "enumerate") by decide +kernel) ?_ (by decide) (by decide));refine NP (e.k pos I h λus s1 vs H1 I1 n o=>?_) w rfl;obtain⟨a,tp,xs,rfl,f,q⟩:=o;obtain⟨u,rfl,j⟩:=vals1 n;cases j;have g:s1.heap.objs.size+1≠s1.heap.objs.size:=Nat.succ_ne_self _;have fp:∀b∈[s1.heap.objs.size+1,s1.heap.objs.size],Dq X Zj H1 b:=λb B=>by
  have y:s1.heap.objs.size<=b:=by
   rcases List.mem_cons.mp B with z|z
   .rw[z];exact Cf _
   .have i:b=s1.heap.objs.size:=by simpa using z
    rw[i];exact AW _
  exact I1.Nk y (I1.AA.fresh y)
 cases tp with
 |false=>
  obtain⟨A0,m,p,r⟩:=I1.list f;refine call_enumerate_list p.isList λh' d c hsz kp=>vK d ?_;exact⟨s1.heap.objs.size+1,[s1.heap.objs.size+1,s1.heap.objs.size],_,_,H1,rfl,I1.kept (t':=s1.toks) kp,tR a _ _ xs g,⟨⟨_,d⟩,c⟩,fp,q⟩
 |true=>
  obtain⟨A0,m,v,r⟩:=I1.tuple f;refine HT.sU v λh' d c hsz kp=>vK d ?_;exact⟨s1.heap.objs.size+1,[s1.heap.objs.size+1,s1.heap.objs.size],_,_,H1,rfl,I1.kept (t':=s1.toks) kp,oV a _ _ xs g,⟨⟨_,d⟩,c⟩,fp,q⟩⟩
variable{Zj:zv}{Z:St}{H:Hp}{s:Shared}
end
end L2
namespace MA
noncomputable def N6:Nat->Nat->List Nat
 | 0,n=>[97+n]
 |k+1,n=>if n<26 then[97+n]else(97+n % 26)::N6 k (n / 26)
theorem JR:∀(k:Nat){n:Nat},n<26->N6 k n=[97+n]
 | 0,_,_=>rfl
 |_+1,_,h=>eM h
theorem Ze:∀(k j n:Nat),n<=k->n<=j->N6 k n=N6 j n
 | 0,j,n,h,_=>by rw[JR 0 (Gn h (by decide)),JR j (Gn h (by decide))]
 |k+1,0,n,_,h=>by rw[JR (k+1) (Gn h (by decide)),JR 0 (Gn h (by decide))]
 |k+1,j+1,n,h1,h2=>by
  by_cases c:n<26
  .rw[JR _ c,JR _ c]
  .have d:n / 26<n:=Nat.div_lt_self (C5 (by decide) (Vs c)) (by decide);show(if n<26 then _ else _)=(if n<26 then _ else _)
   rw[eJ c,eJ c,Ze k j (n / 26) (NI (C5 d h1)) (NI (C5 d h2))]
def lets(n:Nat):List Nat:=N6 n n
noncomputable def vals:List Nat->Nat
 | []=>0
 |c::r=>(c - 97)+26 * vals r
theorem Kw{n:Nat}(h:n<26):lets n=[97+n]:=JR n h
theorem MB{n:Nat}(h:¬ n<26):lets n=(97+n % 26)::lets (n / 26):=by
 cases n with
 |zero=>exact absurd (by decide) h
 |succ k=>
  have d:(k+1) / 26<k+1:=Nat.div_lt_self (eB k) (by decide);show(if k+1<26 then _ else _)=_
  rw[eJ h,Ze k ((k+1) / 26) ((k+1) / 26) (NI d) (AW _)];rfl
theorem XX:∀n,vals (lets n)=n:=by
 intro n
 induction n using Nat.strongRecOn with
 |_ n a=>
  by_cases h:n<26
  .rw[Kw h];simp[vals]
  .rw[MB h];have:=a (n / 26) (by omega);simp only[vals,this];omega
theorem i8{a b:Nat}(h:lets a=lets b):a=b:=by rw[<- XX a,h,XX]
theorem Tg(n:Nat):1<=(lets n).length:=by
 by_cases h:n<26
 .rw[Kw h];simp
 .rw[MB h];simp
theorem Q0:∀(k n:Nat),n<26 ^ (k+1)->(lets n).length<=k+1
 | 0,n,h=>by rw[Kw (by simpa using h)];simp
 |k+1,n,h=>by
  by_cases h1:n<26
  .rw[Kw h1];simp
  .rw[MB h1];have:=Q0 k (n / 26) (by rw[dy]at h;exact Nat.div_lt_of_lt_mul (by rw[Nat.mul_comm];exact h));simp only[Am];omega
theorem eS:∀n,∀c∈lets n,97<=c/\c<=122:=by
 intro n
 induction n using Nat.strongRecOn with
 |_ n b=>
  by_cases h:n<26
  .rw[Kw h];intro c a;simp at a;omega
  .rw[MB h];intro c a;rcases List.mem_cons.mp a with e|e
   .omega
   .exact b (n / 26) (by omega) c e
theorem Yh{α:Type}[DecidableEq α]:∀(k:Nat)(f:Nat->α)(l:List α),(∀i j,i<k->j<k->f i=f j->i=j)->(∀i,i<k->f i∈l)->k<=l.length
 | 0,_,_,_,_=>BN _
 |k+1,f,l,hi,hm=>by
  have h1:=hm k (Gp k);have:=Yh k f (l.erase (f k)) (λi j a b e=>hi i j (by omega) (by omega) e) (λi a=>by
   have c:f i≠f k:=λe=>by have:=hi i k (by omega) (by omega) e;omega
   exact(NG c).mpr (hm i (by omega)))
  rw[J8 h1]at this;have d:=QX h1;omega
end MA
namespace Lw
open L2
variable{a l p:Addr}{H H' H2:Hp}{xs:List V}{o:HO}{α:Type}{n:Nat}{i j r:Int}{ns ss:List Str}
def BU(H:Hp)(p:Addr):Prop:=∃a b:Int,H p=some (.lst [.int a,.int b])/\0<=a/\a<10 ^ 256/\0<=b/\b<2147483647
structure Az (p:Addr) (H H':Hp):Prop where
 AH:BU H' p
 same:FV p H H'
theorem Az.trans{H1:Hp}(a:Az p H H1)(b:Az p H1 H2):Az p H H2:=⟨b.AH,a.same.trans b.same⟩
theorem Az.of(h:BU H p)(s:AF H H'):Az p H H':=by
 obtain⟨a,b,e,r⟩:=h;exact⟨⟨a,b,s _ _ e,r⟩,FV.of s⟩
theorem Az.LY{K:zu}(s:Az p H H')(h:AI K H a xs)(AJ:a≠p):AI K H' a xs:=by
 rcases h with(h|⟨o,h⟩)|h
 .exact .inl (.inl (s.same _ _ AJ h))
 .exact .inl (.inr ⟨o,s.same _ _ AJ h⟩)
 .exact .inr h
theorem Az.at'(s:Az p H H')(h:H a=some o)(AJ:a≠p):H' a=some o:=s.same _ _ AJ h
theorem Kf{a:Int}(c:-(10 ^ 20)<a)(h1:a<10 ^ 20):a.natAbs<2 ^ 1000:=by
 have b:a.natAbs<10 ^ 20:=by omega
 exact Qe b (by decide +kernel)
def VO(K:zu):Sp:=λvs H Q _=>∃(a:Addr)(ns:List Int)(k:Int),vs=[.ref a,.int k]/\AI K H a (ns.map V.int)/\0<=k/\k<=1000/\∀p H',H p=none->AF H H'->BU H' p->Q (.ref p) H'
def Ke:Sp:=λvs H Q _=>∃(p:Addr)(m:Int),vs=[.ref p,.int m]/\BU H p/\0<m/\m<10 ^ 18/\∀r H',0<=r->r<m->Az p H H'->Q (.int r) H'
noncomputable def Cm(l:List Nat):Str:=⟨l.toArray⟩
def Wr:Sp:=λvs H Q _=>∃r:Int,vs=[.int r]/\0<=r/\r<26 ^ 8/\∀H',AF H H'->Q (.str (Cm (MA.lets r.toNat))) H'
theorem Pw{xs:List α}{k:Int}{v:α}(b:0<=k)(h:xs[k.toNat]?=some v):BM xs k=some v:=by
 have a:k=((k.toNat:Nat):Int):=by omega
 have q:=DU h;rw[<- a]at q;exact q
noncomputable abbrev YR:Str:="abcdefghijklmnopqrstuvwxyz"
theorem we:∀j,j<26->YR.cps.toList[j]?=some (97+j):=by decide +kernel
theorem Yu{k:Int}(a:0<=k)(h1:k<26):BM YR.cps.toList k=some (97+k.toNat):=Pw a (we _ (by omega))
theorem c6(l:List Nat)(c:Nat):Cm l++(⟨#[c]⟩:Str)=Cm (l++[c]):=by
 show(⟨l.toArray++#[c]⟩:Str)=⟨(l++[c]).toArray⟩;simp
theorem Oq(l:List Nat):(Cm l).length=l.length:=by simp[Cm,Str.length]
theorem b9{l:List Nat}:(V.str (Cm l)=V.str (Str.ofString ""))↔l=[]:=by
 constructor
 .intro h;injection h with h
  have h2:=iI (λx=>x.cps.toList) h;have e:(Str.ofString "").cps.toList=[]:=by decide +kernel
  rw[e]at h2
  simpa[Cm]using h2
 .rintro rfl;rfl
theorem small(h:n<=100000):n<=sizeLine:=CC h (by decide +kernel)
theorem YY{k:Nat}{pre:List Nat}(h:pre++MA.lets k=MA.lets n):(0<k / 26->(pre++[97+k % 26])++MA.lets (k / 26)=MA.lets n)/\(k / 26=0->pre++[97+k % 26]=MA.lets n):=by
 constructor
 .intro h1;rw[MA.MB (by omega)]at h;rw[<- h,BY];rfl
 .intro h1;have h2:k<26:=by omega
  rw[MA.Kw h2]at h;rw[<- h,Nat.mod_eq_of_lt h2]
def Nm(x:Str):Prop:=1<=x.length/\x.length<=8/\∀c∈x.cps.toList,97<=c/\c<=122
instance (x:Str):Decidable (Nm x):=by unfold Nm;exact inferInstance
theorem HZ(x:Str):x.length=x.cps.toList.length:=by simp[Str.length]
theorem Us(h:n<26 ^ 8):Nm (Cm (MA.lets n)):=by
 refine⟨by rw[Oq];exact MA.Tg n,by rw[Oq];exact MA.Q0 7 n h,λc a=>MA.eS n c (by simpa[Cm]using a)⟩
noncomputable def menu:List Str:=["put","take","none","ahead","all","over","next","a","ab","abc","abcdefgh","b","step"]
theorem sD:∀x∈menu,Nm x:=by decide +kernel
noncomputable def PB:List V:=[.str "put",.str "take",.str "none",.str "ahead",.str "all",.str "over",.str "next",.str "a",.str "ab",.str "abc",.str "abcdefgh",.str "b",.str "step"]
theorem fv(a:0<=i)(h1:i<13):∃x,BM PB i=some (.str x)/\Nm x:=by
 have b:menu.length=13:=rfl;have hi:i.toNat<menu.length:=by omega
 have e:PB=menu.map V.str:=rfl;refine⟨menu[i.toNat],Pw a ?_,sD _ (FJ hi)⟩;rw[e,AM,AL hi];rfl
theorem Tt(a:0<=i)(h1:i<ns.length):∃x,BM (ns.map V.str) i=some (.str x)/\x∈ns/\ns[i.toNat]?=some x:=by
 have hi:i.toNat<ns.length:=by omega
 exact⟨ns[i.toNat],Pw a (by rw[AM,AL hi];rfl),FJ hi,AL hi⟩
theorem Gw(ns:List Str):(ns.map V.str).all DP=true:=by
 rw[FI];intro x hx;obtain⟨y,_,rfl⟩:=List.mem_map.mp hx;rfl
theorem Nh(x:Str)(ns:List Str):Il (.str x) (ns.map V.str)=decide (x∈ns):=by
 unfold Il;rw[Hk,KJ,uI];constructor
 .rintro⟨v,b,h⟩;obtain⟨y,a,rfl⟩:=List.mem_map.mp b;have h':(y == x)=true:=h;have:y=x:=by simpa using h'
  rw[<- this];exact a
 .intro h;exact⟨.str x,List.mem_map.mpr ⟨x,h,rfl⟩,by show(x == x)=true;simp⟩
theorem cK(xs:List V):EA xs []=decide (xs=[]):=by
 cases xs with
 |nil=>rfl
 |cons x r=>rw[II (by simp)];simp
theorem vw{x y:Str}(h:x.cps.toList=y.cps.toList):x=y:=by
 cases x;cases y;simp only[Str.mk.injEq];exact Array.toList_inj.mp h
theorem xF(z:Str){a b:Nat}{lo hi:Option Int}(BX:a<=b)(c:b<=z.length)(e:Builtin.Str.strSliceIndices lo hi 1 z.length=Builtin.Str.strSliceIndices (some (a:Int)) (some (b:Int)) 1 z.length):
  (Txt.slice z lo hi).cps.toList=(z.cps.toList.drop a).take (b - a):=by
 have q:=StrLaws.sliced_plain z BX c;rw[<- e]at q;unfold Txt.slice;split
 .rename_i h;have d:(Builtin.Str.strSliceIndices lo hi 1 z.length).length=z.length:=by simpa using h
  rw[e,StrLaws.strSliceIndices_plain BX c,AB,Cd]at d;have h1:a=0:=by omega
  have h2:b=z.length:=by omega
  subst h1;subst h2;rw[List.drop_zero,dz,HZ,Eh]
 .rw[<- q]
theorem ql(h:0<=j):max (0:Int) (min j (n:Int))=max 0 (min ((min j.toNat n:Nat):Int) (n:Int)):=by
 have e:((min j.toNat n:Nat):Int)=min j n:=by
  rcases Nat.le_total j.toNat n with c|c
  .rw[Nat.min_eq_left c,Vh h,Int.min_eq_left (by have:=Int.ofNat_le.mpr c;rw[Vh h]at this;exact this)]
  .rw[yi c,Int.min_eq_right (by have:=Int.ofNat_le.mpr c;rw[Vh h]at this;exact this)]
 rw[e,Int.min_assoc,Int.min_self]
theorem j5(z:Str)(h:0<=j):(Txt.slice z none (some j)).cps.toList=z.cps.toList.take j.toNat:=by
 have e:=xF z (a:=0) (b:=min j.toNat z.length) (lo:=none) (hi:=some j) (BN _) (Nat.min_le_right _ _) (by
  have h1:¬ j<0:=by omega
  have h2:¬ (((min j.toNat z.length:Nat):Int)<0):=Int.not_lt.mpr (y6 _);have c:max (0:Int) (min j (z.length:Int))=max 0 (min ((min j.toNat z.length:Nat):Int) (z.length:Int)):=ql h;simp only[Builtin.Str.strSliceIndices,h1,h2,if_false,c];rfl)
 rw[e,List.drop_zero,dz];rcases Nat.le_total j.toNat z.length with h1|h1
 .rw[Nat.min_eq_left h1]
 .rw[yi h1,HZ,Eh,Vq (by rw[<- HZ];exact h1)]
theorem bN{z:Str}(h:1<=j)(d:j<=8)(b:1<=z.length)(a:∀c∈z.cps.toList,97<=c/\c<=122):Nm (Txt.slice z none (some j)):=by
 have e:=j5 z (j:=j) (by omega);refine⟨?_,?_,λc FR=>a c ?_⟩
 .rw[HZ,e,Fi,<- HZ];omega
 .rw[HZ,e,Fi];omega
 .rw[e]at FR;exact di FR
theorem W7(x y:Str):(x++y).cps.toList=x.cps.toList++y.cps.toList:=by
 show(x.cps++y.cps).toList=_;simp
theorem bE(x y:Str):(x++y).length=x.length+y.length:=by rw[HZ,W7,BQ,<- HZ,<- HZ]
def bx(K:zu):Sp:=λvs H Q _=>∃(p q:Addr)(ns:List Str),vs=[.ref p,.ref q]/\BU H p/\H q=some (.lst (ns.map V.str))/\q≠p/\(∀x∈ns,Nm x)/\ns.length<=1000/\∀x H',Nm x->x∉ns->Az p H H'->Q (.str x) H'
theorem vY{k:Nat}(h:∀j,j<k->Cm (MA.lets j)∈ns):k<=ns.length:=
 MA.Yh k (λj=>Cm (MA.lets j)) ns (λi j _ _ e=>MA.i8 (by
  have:=iI (λx=>x.cps.toList) e
  simpa[Cm]using this)) h
theorem u7:1000<26 ^ 8:=by decide +kernel
theorem gI:(1000:Int)<26 ^ 8:=by decide +kernel
theorem mR:(26:Int) ^ (8:Int).toNat - 26<26 ^ 8:=by decide +kernel
theorem rH:(26:Int)<26 ^ 8:=by decide +kernel
theorem eh:(0:Int)<26 ^ (8:Int).toNat - 26:=by decide +kernel
theorem jj:(26:Int) ^ (8:Int).toNat - 26<10 ^ 18:=by decide +kernel
theorem cU(a:0<=r)(h:r<26 ^ 8):r.toNat<26 ^ 8:=by omega
theorem Az.upd(s:Az p H H2)(h:H l=none)(AJ:l≠p):Az p H (upd H2 l o):=by
 obtain⟨a,b,e,r⟩:=s.AH;refine⟨⟨a,b,by rw[AN (BG AJ)];exact e,r⟩,λc u d q=>?_⟩;rw[AN (DE q h)];exact s.same c u d q
theorem Az.none(s:Az p H H2)(h:H2 l=none):H l=none:=by
 cases q:H l with
 |none=>rfl
 |some o=>
  by_cases e:l=p
  .obtain⟨a,b,c,_⟩:=s.AH;rw[<- e,h]at c;cases c
  .rw[s.same l o e q]at h;cases h
theorem BU.ne(h:BU H p)(a:H l=none):l≠p:=by
 obtain⟨_,_,e,_⟩:=h;exact(DE e a).symm
theorem AF.none(s:AF H H2)(h:H2 l=none):H l=none:=by
 cases q:H l with
 |none=>rfl
 |some o=>rw[s l o q]at h;cases h
def Zc:Sp:=λvs H Q _=>∃(p:Addr)(m:Int),vs=[.ref p,.int m]/\BU H p/\0<=m/\m<=100/\
 ∀l H'(ns:List Str),H l=none->Az p H H'->H' l=some (.lst (ns.map V.str))->(ns.length:Int)=m->(∀x∈ns,Nm x)->ns.Nodup->Q (.ref l) H'
def TB:Sp:=λvs H Q _=>∃(p:Addr)(m:Int),vs=[.ref p,.int m]/\BU H p/\1<=m/\m<=100/\
 ∀l H'(ns:List Str),H l=none->Az p H H'->H' l=some (.lst (ns.map V.str))->(ns.length:Int)<=m->(∀x∈ns,Nm x)->ns.Nodup->Q (.ref l) H'
theorem Qn{l:List α}{x:α}(h:l.Nodup)(hx:x∉l):(l++[x]).Nodup:=by
 rw[EO];exact⟨h,by simp,λa d b c=>by
  have:b=x:=by simpa using c
  subst this;rintro rfl;exact hx d⟩
theorem vC{m:Int}(b:0<=j)(h1:j<3)(a:1<=m):∃k:Int,BM [V.int 0,V.int 1,V.int m] j=some (.int k)/\0<=k/\k<=m:=by
 have:j=0∨j=1∨j=2:=by omega
 rcases this with rfl|rfl|rfl
 .exact⟨0,rfl,by omega,by omega⟩
 .exact⟨1,rfl,by omega,by omega⟩
 .exact⟨m,rfl,by omega,by omega⟩
theorem iR(l:List α):l.filter (λ_=>true)=l:=List.filter_eq_self.mpr λ_ _=>rfl
theorem all_map(f:α->Bool)(l:List α):(l.map f).all id=l.all f:=by rw[List.all_map];rfl
theorem iP{i:Nat}{v:V}(h:(ss.map V.str)[i]?=some v):∃x,v=.str x/\x∈ss:=by
 rw[AM]at h;cases q:ss[i]? with
 |none=>rw[q]at h;cases h
 |some x=>rw[q]at h;simp at h;exact⟨x,h.symm,BL q⟩
theorem lN(xs:List Str):EA (xs.map V.str) (xs.map V.str)=true:=by
 rw[IS rfl,FI];intro j a;have b:j<xs.length:=by simpa using a
 have e:(xs.map V.str)[j]?=some (.str xs[j]):=by rw[AM,AL b];rfl
 rw[Fp e];show(xs[j] == xs[j])=true;simp
theorem gK(K:zu)(t:String):PySem.W.kitOne K (.type t) (.type t)=some true:=by
 unfold PySem.W.kitOne;rw[eM (by simp)]
def gJ(K:zu):Sp:=λvs H Q _=>∃(a:Addr)(ns:List Int),vs=[.ref a]/\AI K H a (ns.map V.int)/\ns.length<=63/\∀H',Q (.bl true) H'
noncomputable def Cz(tp:Bool)(xs:List V):HO:=match tp with
 |false=>.lst xs
 |true=>.tup xs
theorem Cz.sq{K:zu}{tp:Bool}(h:H a=some (Cz tp xs)):CA K tp H a xs:=by
 cases tp
 .exact AI.of h
 .exact Ag.of h
theorem Yv{c A B:Prop}[Decidable c](h:¬ c)(b:B):if c then A else B:=by rw[eJ h];exact b
theorem Pk(ns:List Str):(ns.map V.str).length=ns.length:=AB _
theorem uv(K:zu):PySem.W.kitOne K (.type "int") (.type "bool")=some false:=by
 unfold PySem.W.kitOne;rw[eJ (by decide)];with_unfolding_all rfl
end Lw
namespace Fz
open L2 Lw
variable{F F' H H':Hp}{v:V}{Bl vs:List V}{i i0 j:Nat}{t:TA}{a l:Addr}{r:List V->Hp->VK->Prop}{Z τ:L2.St}{o:HO}{ta tc te:TE}{tb u:TS}{b neg tp:Bool}{A:List Addr}{Q:VK}{f:Int->Int->Bool}{g:TG}{n:String}{c tt:TT}{wi:TI}{X:XK}
inductive PV where
 |A7|bl (b:Bool)|int (i:Int)|str (x:Str)|lst (xs:List PV)|tup (xs:List PV)
 |An (ks:List Key) (xs:List PV)|obj (C:Addr) (ns:List Str) (xs:List PV)|exc (C:Addr) (ns:List Str) (xs:List PV)|con (a:Addr) (xs:List PV)
variable{p:PV}{ps xs:List PV}
noncomputable def PR(a C:Addr)(dx:Option Addr):HO:=.ext λh=>∃b vs,h.get? a=some b/\b.cls=.ref C/\b.dict=dx/\b.data=.fields vs
mutual
inductive Rep (F:Hp):V->PV->Prop where
 |A7:Rep F .A7 .A7
 |bl (b:Bool):Rep F (.bl b) (.bl b)
 |int (i:Int):Rep F (.int i) (.int i)
 |str (x:Str):Rep F (.str x) (.str x)
 |lst {a:Addr}{vs:List V}{xs:List PV}:F a=some (.lst vs)->AE F vs xs->Rep F (.ref a) (.lst xs)
 |tup {a:Addr}{vs:List V}{xs:List PV}:F a=some (.tup vs)->AE F vs xs->Rep F (.ref a) (.tup xs)
 |An {a:Addr}{ks:List Key}{vs:List V}{xs:List PV}:F a=some (.dK (ks.zip vs))->ks.length=vs.length->AE F vs xs->Rep F (.ref a) (.An ks xs)
 |obj {a C dx:Addr}{ns:List Str}{vs:List V}{xs:List PV}:F a=some (.ins C dx (ns.zip vs))->F dx=some (.own a)->ns.length=vs.length->AE F vs xs->Rep F (.ref a) (.obj C ns xs)
 |con {a:Addr}{xs:List PV}:Rep F (.ref a) (.con a xs)
 |Oo {a C:Addr}:F a=some (PR a C none)->Rep F (.ref a) (.exc C [] [])
 |exc {a C dx:Addr}{ns:List Str}{vs:List V}{xs:List PV}:F a=some (PR a C (some dx))->F dx=some (.xd (ns.zip vs))->ns.length=vs.length->AE F vs xs->Rep F (.ref a) (.exc C ns xs)
inductive AE (F:Hp):List V->List PV->Prop where
 |nil:AE F [] []
 |cons {v:V}{p:PV}{vs:List V}{ps:List PV}:Rep F v p->AE F vs ps->AE F (v::vs) (p::ps)
end
theorem Rep.mono(s:AF F F')(r:Rep F v p):Rep F' v p:=
 Rep.rec (motive_1:=λv p _=>Rep F' v p) (motive_2:=λvs ps _=>AE F' vs ps) .A7 .bl .int .str (λh _ i=>.lst (s _ _ h) i) (λh _ i=>.tup (s _ _ h) i) (λh e _ i=>.An (s _ _ h) e i) (λh h2 e _ i=>.obj (s _ _ h) (s _ _ h2) e i) .con (λh=>.Oo (s _ _ h)) (λh h2 e _ i=>.exc (s _ _ h) (s _ _ h2) e i) .nil (λ_ _ i k=>.cons i k) r
def nR(F:Hp)(v:V):PV->Prop
 | .A7=>v=.A7
 | .bl b=>v=.bl b
 | .int i=>v=.int i
 | .str x=>v=.str x
 | .lst xs=>∃a vs,v=.ref a/\F a=some (.lst vs)/\AE F vs xs
 | .tup xs=>∃a vs,v=.ref a/\F a=some (.tup vs)/\AE F vs xs
 | .An ks xs=>∃a vs,v=.ref a/\F a=some (.dK (ks.zip vs))/\ks.length=vs.length/\AE F vs xs
 | .obj C ns xs=>∃a dx vs,v=.ref a/\F a=some (.ins C dx (ns.zip vs))/\F dx=some (.own a)/\ns.length=vs.length/\AE F vs xs
 | .con a _=>v=.ref a
 | .exc C ns xs=>(∃a,v=.ref a/\F a=some (PR a C none)/\ns=[]/\xs=[])∨∃a dx vs,v=.ref a/\F a=some (PR a C (some dx))/\F dx=some (.xd (ns.zip vs))/\ns.length=vs.length/\AE F vs xs
theorem Rep.inv(r:Rep F v p):nR F v p:=by
 cases r with
 |lst h r=>exact⟨_,_,rfl,h,r⟩
 |tup h r=>exact⟨_,_,rfl,h,r⟩
 |An h l r=>exact⟨_,_,rfl,h,l,r⟩
 |obj h h2 l r=>exact⟨_,_,_,rfl,h,h2,l,r⟩
 |Oo h=>exact .inl ⟨_,rfl,h,rfl,rfl⟩
 |exc h h2 l r=>exact .inr ⟨_,_,_,rfl,h,h2,l,r⟩
 |_=>exact rfl
theorem AE.inv(r:AE F vs (p::ps)):∃v ws,vs=v::ws/\Rep F v p/\AE F ws ps:=by
 cases r with
 |cons r t=>exact⟨_,_,rfl,r,t⟩
theorem AE.Ck(r:AE F vs []):vs=[]:=by
 cases r;rfl
theorem AE.mono(s:AF F F')(r:AE F vs ps):AE F' vs ps:=by
 induction ps generalizing vs with
 |nil=>cases r.Ck;exact .nil
 |cons p ps c=>obtain⟨v,ws,rfl,a,b⟩:=r.inv;exact .cons (a.mono s) (c b)
theorem AE.length{F:Hp}{vs:List V}{ps:List PV}(r:AE F vs ps):vs.length=ps.length:=by
 induction ps generalizing vs with
 |nil=>cases r.Ck;rfl
 |cons p ps c=>obtain⟨v,ws,rfl,a,b⟩:=r.inv;exact iI (· + 1) (c b)
theorem AE.get{F:Hp}{vs:List V}{ps:List PV}{i:Nat}{p:PV}(r:AE F vs ps)(e:ps[i]?=some p):∃v,vs[i]?=some v/\Rep F v p:=by
 induction ps generalizing vs i with
 |nil=>cases e
 |cons q ps c=>
  obtain⟨v,ws,rfl,a,b⟩:=r.inv;cases i with
  |zero=>cases e;exact⟨_,rfl,a⟩
  |succ i=>exact c (vs:=ws) (i:=i) b e
theorem AE.get'(r:AE F vs ps)(e:vs[i]?=some v):∃p,ps[i]?=some p/\Rep F v p:=by
 induction ps generalizing vs i with
 |nil=>cases r.Ck;cases e
 |cons q ps c=>
  obtain⟨u,ws,rfl,a,b⟩:=r.inv;cases i with
  |zero=>cases e;exact⟨_,rfl,a⟩
  |succ i=>exact c (vs:=ws) (i:=i) b e
theorem AE.append{ws:List V}{c:List PV}(r:AE F vs ps)(s:AE F ws c):AE F (vs++ws) (ps++c):=by
 induction ps generalizing vs with
 |nil=>cases r.Ck;exact s
 |cons p ps d=>obtain⟨v,us,rfl,a,b⟩:=r.inv;exact .cons a (d b)
theorem AE.take(n:Nat)(r:AE F vs ps):AE F (vs.take n) (ps.take n):=by
 induction ps generalizing vs n with
 |nil=>cases r.Ck;rw[List.take_nil,List.take_nil];exact .nil
 |cons p ps c=>
  obtain⟨v,us,rfl,a,b⟩:=r.inv;cases n with
  |zero=>exact .nil
  |succ n=>exact .cons a (c n b)
theorem AE.drop(n:Nat)(r:AE F vs ps):AE F (vs.drop n) (ps.drop n):=by
 induction ps generalizing vs n with
 |nil=>cases r.Ck;rw[List.drop_nil,List.drop_nil];exact .nil
 |cons p ps c=>
  cases n with
  |zero=>exact r
  |succ n=>obtain⟨v,us,rfl,a,b⟩:=r.inv;exact c n b
theorem AE.one{F:Hp}{v:V}{p:PV}(r:Rep F v p):AE F [v] [p]:=.cons r .nil
noncomputable def flat:PV->Bool
 | .lst _=>false
 | .tup _=>false
 | .An _ _=>false
 | .obj _ _ _=>false
 | .exc _ _ _=>false
 | .con _ _=>false
 |_=>true
noncomputable def enc:PV->V
 | .bl b=>.bl b
 | .int i=>.int i
 | .str x=>.str x
 |_=>.A7
theorem Rep.enc(h:flat p=true)(r:Rep F v p):v=enc p:=by
 cases r <;> first|rfl|cases h
theorem rL(h:flat p=true):Rep F (enc p) p:=by
 cases p with
 |A7=>exact .A7
 |bl b=>exact .bl b
 |int i=>exact .int i
 |str x=>exact .str x
 |lst xs=>cases h
 |tup xs=>cases h
 |An ks xs=>cases h
 |obj C ns xs=>cases h
 |exc C ns xs=>cases h
 |con a xs=>cases h
theorem AE.enc(h:ps.all flat=true)(r:AE F vs ps):vs=ps.map enc:=by
 induction ps generalizing vs with
 |nil=>exact r.Ck
 |cons p ps c=>
  obtain⟨v,us,rfl,a,b⟩:=r.inv;rw[QM,Cn]at h;rw[Ce,<- Rep.enc h.1 a,<- c h.2 b]
theorem MP(h:ps.all flat=true):AE F (ps.map enc) ps:=by
 induction ps with
 |nil=>exact .nil
 |cons p r a=>
  rw[QM,Cn]at h;exact .cons (rL h.1) (a h.2)
theorem Pq(h:flat p=true):DP (Fz.enc p)=true:=by cases p <;> first|rfl|cases h
theorem WS(ns:List Str):(ns.map PV.str).all flat=true:=by
 rw[FI];intro x hx;obtain⟨y,_,rfl⟩:=List.mem_map.mp hx;rfl
theorem Pj(ns:List Int):(ns.map PV.int).all flat=true:=by
 rw[FI];intro x hx;obtain⟨y,_,rfl⟩:=List.mem_map.mp hx;rfl
theorem lC(ns:List Bool):(ns.map PV.bl).all flat=true:=by
 rw[FI];intro x hx;obtain⟨y,_,rfl⟩:=List.mem_map.mp hx;rfl
theorem WT(ns:List Str):(ns.map PV.str).map Fz.enc=ns.map V.str:=by rw[Cq];rfl
theorem fY(ns:List Bool):(ns.map PV.bl).map Fz.enc=ns.map V.bl:=by rw[Cq];rfl
theorem NW(ns:List Int):(ns.map PV.int).map Fz.enc=ns.map V.int:=by rw[Cq];rfl
theorem AE.strs{ns:List Str}(r:AE F vs (ns.map PV.str)):vs=ns.map V.str:=(r.enc (WS ns)).trans (WT ns)
theorem Zn(ns:List Str):AE F (ns.map V.str) (ns.map PV.str):=by rw[<- WT];exact MP (WS ns)
theorem AE.YK{ns:List Bool}(r:AE F vs (ns.map PV.bl)):vs=ns.map V.bl:=(r.enc (lC ns)).trans (fY ns)
theorem AE.ints{ns:List Int}(r:AE F vs (ns.map PV.int)):vs=ns.map V.int:=(r.enc (Pj ns)).trans (NW ns)
inductive NK where
 |lst|An (ks:List Key)|obj (C dx:Addr) (ns:List Str)|O6 (ks:List (List Key))
noncomputable def NK.ho:NK->List V->HO
 | .lst,vs=>.lst vs
 | .An ks,vs=>.dK (ks.zip vs)
 | .obj C dx ns,vs=>.ins C dx (ns.zip vs)
 | .O6 ks,vs=>.dT (ks.zip vs)
noncomputable def NK.more:NK->List Addr
 | .obj _ dx _=>[dx]
 |_=>[]
def NK.side(k:NK)(a:Addr)(H:Hp):Prop:=match k with
 | .obj _ dx _=>H dx=some (.own a)
 |_=>True
def NK.fit(k:NK)(n:Nat):Prop:=match k with
 | .An ks=>ks.length=n
 | .obj _ _ ns=>ns.length=n
 | .O6 ks=>ks.length=n
 |_=>True
inductive OV where
 |fz (p:PV)
 |tp (xs:List OV)
 |nd (k:NK) (a:Addr) (xs:List OV)
mutual
def OV.addrs:OV->List Addr
 | .fz _=>[]
 | .tp xs=>OV.Ap xs
 | .nd k a xs=>a::(k.more++OV.Ap xs)
def OV.Ap:List OV->List Addr
 | []=>[]
 |x::r=>x.addrs++OV.Ap r
end
mutual
def OV.pv:OV->PV
 | .fz p=>p
 | .tp xs=>.tup (OV.Fs xs)
 | .nd .lst _ xs=>.lst (OV.Fs xs)
 | .nd (.An ks) _ xs=>.An ks (OV.Fs xs)
 | .nd (.obj C _ ns) _ xs=>.obj C ns (OV.Fs xs)
 | .nd (.O6 _) a _=>.con a []
def OV.Fs:List OV->List PV
 | []=>[]
 |x::r=>x.pv::OV.Fs r
end
mutual
inductive Ai (F H:Hp):V->OV->Prop where
 |fz {v:V}{p:PV}:Rep F v p->Ai F H v (.fz p)
 |tp {a:Addr}{vs:List V}{xs:List OV}:F a=some (.tup vs)->BH F H vs xs->Ai F H (.ref a) (.tp xs)
 |nd {k:NK}{a:Addr}{vs:List V}{xs:List OV}:H a=some (k.ho vs)->k.side a H->k.fit vs.length->BH F H vs xs->Ai F H (.ref a) (.nd k a xs)
inductive BH (F H:Hp):List V->List OV->Prop where
 |nil:BH F H [] []
 |cons {v:V}{t:OV}{vs:List V}{ts:List OV}:Ai F H v t->BH F H vs ts->BH F H (v::vs) (t::ts)
end
def xH(F H:Hp)(v:V):OV->Prop
 | .fz p=>Rep F v p
 | .tp xs=>∃a vs,v=.ref a/\F a=some (.tup vs)/\BH F H vs xs
 | .nd k a xs=>∃vs,v=.ref a/\H a=some (k.ho vs)/\k.side a H/\k.fit vs.length/\BH F H vs xs
theorem Ai.inv{t:OV}(r:Ai F H v t):xH F H v t:=by
 cases r with
 |fz r=>exact r
 |tp h r=>exact⟨_,_,rfl,h,r⟩
 |nd h a b r=>exact⟨_,rfl,h,a,b,r⟩
theorem BH.inv{t:OV}{a:List OV}(r:BH F H vs (t::a)):∃v ws,vs=v::ws/\Ai F H v t/\BH F H ws a:=by
 cases r with
 |cons r t=>exact⟨_,_,rfl,r,t⟩
theorem BH.Ck(r:BH F H vs []):vs=[]:=by
 cases r;rfl
theorem OV.DS{k:NK}{xs:List OV}:(OV.nd k a xs).addrs=a::(k.more++OV.Ap xs):=by rw[OV.addrs]
theorem OV.Ge{xs:List OV}:(OV.tp xs).addrs=OV.Ap xs:=by rw[OV.addrs]
theorem OV.KS:(OV.fz p).addrs=[]:=by rw[OV.addrs]
theorem OV.D9{x:OV}{r:List OV}:OV.Ap (x::r)=x.addrs++OV.Ap r:=by rw[OV.Ap]
theorem OV.JB:OV.Ap []=[]:=by rw[OV.Ap]
theorem NK.Xl{k:NK}(h:k.side a H)(s:∀b∈k.more,∀o,H b=some o->H' b=some o):k.side a H':=by
 cases k with
 |obj C dx ns=>exact s dx (by simp[NK.more]) _ h
 |_=>trivial
theorem Ai.mono(f:AF F F'){t:OV}(r:Ai F H v t):(∀a∈t.addrs,∀o,H a=some o->H' a=some o)->Ai F' H' v t:=
 Ai.rec (motive_1:=λv t _=>(∀a∈t.addrs,∀o,H a=some o->H' a=some o)->Ai F' H' v t) (motive_2:=λvs d _=>(∀a∈OV.Ap d,∀o,H a=some o->H' a=some o)->BH F' H' vs d)
  (λr _=>.fz (r.mono f))
  (λh _ i s=>.tp (f _ _ h) (i (by rw[OV.Ge]at s;exact s)))
  (λh e j _ i s=>by
   rw[OV.DS]at s;exact .nd (s _ Ae _ h) (NK.Xl e λb g=>s b (Au _ (D6 _ g))) j (i λa c=>s a (Au _ (Bo _ c))))
  (λ_=>.nil)
  (λ_ _ i k s=>by
   rw[OV.D9]at s;exact .cons (i λa c=>s a (D6 _ c)) (k λa c=>s a (Bo _ c)))
  r
theorem BH.mono(f:AF F F'){c:List OV}(r:BH F H vs c)(s:∀a∈OV.Ap c,∀o,H a=some o->H' a=some o):BH F' H' vs c:=by
 induction c generalizing vs with
 |nil=>cases r.Ck;exact .nil
 |cons p ps e=>
  obtain⟨v,ws,rfl,a,b⟩:=r.inv;rw[OV.D9]at s;exact .cons (a.mono f λa d=>s a (D6 _ d)) (e b λa d=>s a (Bo _ d))
theorem Ai.there{t:OV}(r:Ai F H v t):∀a∈t.addrs,H a≠none:=
 Ai.rec (motive_1:=λv t _=>∀a∈t.addrs,H a≠none) (motive_2:=λvs d _=>∀a∈OV.Ap d,H a≠none)
  (λ_ a c=>by rw[OV.KS]at c;cases c)
  (λ_ _ i a c=>i a (by rw[OV.Ge]at c;exact c))
  (λ{k b vs xs}h f g _ i a c=>by
   rw[OV.DS,De,NF]at c;rcases c with rfl|c|c
   .rw[h];exact λz=>by cases z
   .cases k with
    |obj C dx ns=>
     have e:a=dx:=List.mem_singleton.mp c;rw[e,show H dx=some (.own b)from f];exact λz=>by cases z
    |_=>cases c
   .exact i a c)
  (λa c=>by rw[OV.JB]at c;cases c)
  (λ_ _ i k a c=>by
   rw[OV.D9,NF]at c;exact c.elim (i a) (k a))
  r
theorem BH.length{F H:Hp}{vs:List V}{c:List OV}(r:BH F H vs c):vs.length=c.length:=by
 induction c generalizing vs with
 |nil=>cases r.Ck;rfl
 |cons p ps d=>obtain⟨v,ws,rfl,a,b⟩:=r.inv;exact iI (· + 1) (d b)
inductive Slot where
 |any|is (p:PV)|own (xs:List PV)|AH|sq (tp:Bool) (xs:List PV)|raw (P:Hp->V->Prop)|ow (lt:Bool) (t:OV)
variable{ss:List Slot}{s:Slot}{X5 nx:List Slot->Prop}
structure Ent0 where
 A:List Addr
 F0:Hp
 H0:Hp
 B:List Addr
variable{E:Ent0}
noncomputable abbrev E3(A:List Addr)(F H:Hp):Ent0:=⟨A,F,H,[]⟩
def Ok(E:Ent0)(F H:Hp):Slot->Option (Option V)->Prop
 | .any,_=>True
 | .is p,o=>∃v,o=some (some v)/\Rep F v p
 | .own xs,o=>∃l vs,o=some (some (.ref l))/\F l=none/\E.H0 l=none/\H l=some (.lst vs)/\AE F vs xs
 | .AH,o=>∃l,o=some (some (.ref l))/\F l=none/\(E.H0 l=none∨l∈E.A)/\BU H l
 | .sq true xs,o=>∃v,o=some (some v)/\Rep F v (.tup xs)
 | .sq false xs,o=>∃l vs,o=some (some (.ref l))/\(l∉E.A/\l∉E.B)/\E.H0 l=some (.lst vs)/\AE F vs xs
 | .raw P,o=>∃v,o=some (some v)/\P F v/\∀F F',AF F F'->P F v->P F' v
 | .ow lt t,o=>∃v,o=some (some v)/\Ai F H v t/\t.addrs.Nodup/\∀a∈t.addrs,F a=none/\(E.H0 a=none∨(lt=true/\a∈E.B))
def BK:Slot->Option (Option V)->Addr->Prop
 | .own _,o,l=>o=some (some (.ref l))
 | .AH,o,l=>o=some (some (.ref l))
 | .ow _ t,_,l=>l∈t.addrs
 |_,_,_=>False
structure Fin (E:Ent0) (F H:Hp):Prop where
 fh:AF F H
 f0:AF E.F0 F
 keep:∀a o,(a∉E.A/\a∉E.B)->E.H0 a=some o->H a=some o
 fresh:∀a o,F a=some o->E.F0 a=some o∨E.H0 a=none
 DX:∀a,a∈E.A->BU H a
 Kh:∀a,a∈E.A->F a=none
 a0:∀a,a∈E.A->E.H0 a≠none
 bF:∀a,a∈E.B->F a=none
 bH:∀a,a∈E.B->H a≠none
 b0:∀a,a∈E.B->E.H0 a≠none/\a∉E.A
structure Sg (E:Ent0) (ss:List Slot) (Z:L2.St) (F H:Hp):Prop extends Fin E F H where
 len:ss.length=Z.length
 ok:∀(i:Nat)s,ss[i]?=some s->Ok E F H s Z[i]?
 Bd:∀(i j:Nat)s u l,i≠j->ss[i]?=some s->ss[j]?=some u->BK s Z[i]? l->¬ BK u Z[j]? l
structure Ex where
 C:Addr
 ns:List Str
 xs:List PV
def Ex.at(x:Ex)(F:Hp)(C:Value)(dx:Option Addr):Prop:=
 C=.ref x.C/\((x.ns=[]/\x.xs=[]/\dx=none)∨∃a vs,dx=some a/\F a=some (.xd (x.ns.zip vs))/\x.ns.length=vs.length/\AE F vs x.xs)
class Xw where
 e:L2.St->XK
 J:List Slot->Prop
 D:Ex->Prop
structure Ent [Xw] extends Ent0 where
 hx:∀(ss:List Slot)(Z:L2.St)(F H:Hp)(x:Ex)(C:Value)(dx:Option Addr),Xw.J ss->Sg toEnt0 ss Z F H->Xw.D x->x.at F C dx->Xw.e Z C dx H
instance [Xw]:CoeOut Ent Ent0:=⟨Ent.toEnt0⟩
noncomputable instance zZ:Xw:=⟨λ_=>E0,λ_=>True,λ_=>False⟩
def CH(ss:List Slot)(Z:L2.St)(a:Addr):Prop:=∀i:Nat,ss[i]?=some .AH->Z[i]?≠some (some (.ref a))
structure Mv (E:Ent0) (ss:List Slot) (Z:L2.St) (F H F' H':Hp):Prop where
 st:Sg E ss Z F' H'
 ff:AF F F'
 hh:∀a o,CH ss Z a->H a=some o->H' a=some o
 nn:∀a o,F' a=some o->F a=some o∨H a=none
theorem Sg.IC(S:Sg E ss Z F H)(h:H l=none):CH ss Z l:=λi hi e=>by
 obtain⟨b,e1,_,_,_,_,a,_⟩:=S.ok i _ hi;rw[e]at e1;cases e1;rw[h]at a;cases a
theorem Mv.none(m:Mv E ss Z F H F' H')(h:H' a=none):H a=none:=by
 cases e:H a with
 |none=>rfl
 |some o=>rw[m.hh a o (m.st.IC h) e]at h;cases h
theorem Mv.refl{E:Ent0}{ss:List Slot}{Z:L2.St}{F H:Hp}(S:Sg E ss Z F H):Mv E ss Z F H F H:=⟨S,AF.refl _,λ_ _ _ e=>e,λ_ _ e=>.inl e⟩
theorem Mv.trans{F1 H1 F2 H2:Hp}(a:Mv E ss Z F H F1 H1)(b:Mv E ss Z F1 H1 F2 H2):Mv E ss Z F H F2 H2:=
 ⟨b.st,a.ff.trans b.ff,λc o n e=>b.hh c o n (a.hh c o n e),λc o e=>(b.nn c o e).elim (λe=>a.nn c o e) λe=>.inr (a.none e)⟩
theorem Sg.Dl(S:Sg E ss Z F H){p:Addr}(h:H p=none):E.H0 p=none:=by
 cases e:E.H0 p with
 |none=>rfl
 |some o=>
  by_cases q:p∈E.A
  .obtain⟨_,_,e1,_⟩:=S.DX p q;rw[h]at e1;cases e1
  .by_cases a:p∈E.B
   .exact absurd h (S.bH p a)
   .rw[S.keep p o ⟨q,a⟩ e]at h;cases h
theorem Sg.Be(S:Sg E ss Z F H){p:Addr}(h:H p=none):F p=none:=AF.none S.fh h
theorem BU.keep(h:BU H l)(k:∀o,H l=some o->H' l=some o):BU H' l:=by
 obtain⟨a,b,e,r⟩:=h;exact⟨a,b,k _ e,r⟩
theorem Sg.bS(S:Sg E ss Z F H)(h:F l=some o):CH ss Z l:=λi hi e=>by
 obtain⟨b,e1,a,_⟩:=S.ok i _ hi;rw[e]at e1;cases e1;rw[h]at a;cases a
theorem Sg.d7(S:Sg E ss Z F H)(a:l∉E.A)(h:E.H0 l=some o):CH ss Z l:=λi hi e=>by
 obtain⟨b,e1,_,q,_⟩:=S.ok i _ hi;rw[e]at e1;cases e1;rcases q with q|q
 .rw[h]at q;cases q
 .exact a q
theorem Sg.tj(S:Sg E ss Z F H)(h:l∈E.B):CH ss Z l:=λi hi e=>by
 obtain⟨c,e1,_,q,_⟩:=S.ok i _ hi;rw[e]at e1;cases e1;obtain⟨b,a⟩:=S.b0 l h;rcases q with q|q
 .exact b q
 .exact a q
theorem Sg.Fj(S:Sg E ss Z F H)(h:ss[i]?=some s)(m:BK s Z[i]? l):H l≠none:=by
 have k:=S.ok i s h;cases s with
 |own xs=>obtain⟨b,vs,e1,_,_,a,_⟩:=k;rw[show Z[i]?=some (some (.ref l))from m]at e1;cases e1;rw[a];simp
 |AH=>obtain⟨b,e1,_,_,_,_,a,_⟩:=k;rw[show Z[i]?=some (some (.ref l))from m]at e1;cases e1;rw[a];simp
 |ow lt t=>obtain⟨v,_,r,_⟩:=k;exact r.there l m
 |_=>cases m
theorem Sg.JD(S:Sg E ss Z F H)(h:ss[i]?=some s)(a:H l=none):¬ BK s Z[i]? l:=λm=>S.Fj h m a
theorem Sg.Sb(S:Sg E ss Z F H)(h:ss[i]?=some s)(m:BK s Z[i]? l)(np:s≠.AH):CH ss Z l:=λj a b=>
 S.Bd i j s _ l (by rintro rfl;rw[h]at a;exact np (BB a)) h a m b
theorem Ok.go(S:Sg E ss Z F H)(hi:ss[i]?=some s)(ff:AF F F')(hk:∀a o,BK s Z[i]? a->H a=some o->H' a=some o)(Be:∀a,H a≠none->F a=none->F' a=none)(np:s≠.AH):Ok E F' H' s Z[i]?:=by
 have k:=S.ok i s hi;cases s with
 |any=>trivial
 |is p=>obtain⟨v,e,r⟩:=k;exact⟨v,e,r.mono ff⟩
 |own xs=>
  obtain⟨l,vs,e,e1,c,d,r⟩:=k;exact⟨l,vs,e,Be l (by rw[d];simp) e1,c,hk l _ e d,r.mono ff⟩
 |AH=>exact absurd rfl np
 |sq tp xs=>
  cases tp with
  |true=>obtain⟨v,e,r⟩:=k;exact⟨v,e,r.mono ff⟩
  |false=>obtain⟨l,vs,e,e1,c,r⟩:=k;exact⟨l,vs,e,e1,c,r.mono ff⟩
 |raw P=>obtain⟨v,e,r,st⟩:=k;exact⟨v,e,st _ _ ff r,st⟩
 |ow lt t=>
  obtain⟨v,e,r,nd,q⟩:=k;exact⟨v,e,r.mono ff λa b o=>hk a o b,nd,λa b=>⟨Be a (r.there a b) (q a b).1,(q a b).2⟩⟩
theorem Sg.step(S:Sg E ss Z F H)(ff:AF F F')(fh:AF F' H')(hk:∀a o,CH ss Z a->H a=some o->H' a=some o)(d:∀a o,F' a=some o->F a=some o∨H a=none)
  (f:∀(i:Nat)l,ss[i]?=some .AH->Z[i]?=some (some (.ref l))->BU H' l):Mv E ss Z F H F' H':=by
 have Be:∀a,H a≠none->F a=none->F' a=none:=λa h1 h2=>by
  cases e:F' a with
  |none=>rfl
  |some o=>
   rcases d a o e with q|q
   .rw[h2]at q;cases q
   .exact absurd q h1
 have j:∀a,BU H a->CH ss Z a->BU H' a:=λa p n=>BU.keep p λo e=>hk a o n e;refine⟨⟨⟨fh,S.f0.trans ff,λa o b e=>?_,λa o e=>?_,λa b=>?_,λa b=>?_,S.a0,λa c=>Be a (S.bH a c) (S.bF a c),λa c=>?_,S.b0⟩,S.len,λi s hi=>?_,S.Bd⟩,ff,hk,d⟩
 .exact hk a o (S.d7 b.1 e) (S.keep a o b e)
 .rcases d a o e with q|q
  .exact S.fresh a o q
  .exact .inr (S.Dl q)
 .by_cases q:∃i:Nat,ss[i]?=some .AH/\Z[i]?=some (some (.ref a))
  .obtain⟨i,h,g⟩:=q;exact f i a h g
  .exact j a (S.DX a b) λi h1 h2=>q ⟨i,h1,h2⟩
 .refine Be a ?_ (S.Kh a b);obtain⟨_,_,e1,_⟩:=S.DX a b;rw[e1];simp
 .obtain⟨o,e⟩:=Option.ne_none_iff_exists'.mp (S.bH a c);rw[hk a o (S.tj c) e];simp
 .by_cases np:s=.AH
  .subst np;obtain⟨l,e,e1,t,r⟩:=S.ok i _ hi;have u:=r;obtain⟨_,_,k,_⟩:=u;exact⟨l,e,Be l (by rw[k];simp) e1,t,f i l hi e⟩
  .exact Ok.go S hi ff (λa o m=>hk a o (S.Sb hi m np)) Be np
theorem Sg.Ep(S:Sg E ss Z F H)(hi:ss[i]?=some .AH)(e:Z[i]?=some (some (.ref l))):BU H l:=by
 obtain⟨a,e1,_,_,p⟩:=S.ok i _ hi;rw[e]at e1;cases e1;exact p
theorem Sg.alloc(S:Sg E ss Z F H){p:Addr}(h:H p=none)(o:HO):Mv E ss Z F H (upd F p o) (upd H p o):=by
 refine S.step (C0 (S.Be h) _) (λa u e=>?_) (λa u _ e=>C0 h o a u e) (λa u e=>?_) λi l hi e=>BU.keep (S.Ep hi e) λu e=>C0 h o l u e
 .by_cases q:a=p
  .subst q;rw[AV]at e ⊢;exact e
  .rw[AN q]at e ⊢;exact S.fh a u e
 .by_cases q:a=p
  .subst q;exact .inr h
  .rw[AN q]at e;exact .inl e
theorem Sg.make(S:Sg E ss Z F H){p:Addr}(h:H p=none)(o:HO):Mv E ss Z F H F (upd H p o):=
 S.step (AF.refl _) (S.fh.trans (C0 h o)) (λa u _ e=>C0 h o a u e) (λa u e=>.inl e) λi l hi e=>BU.keep (S.Ep hi e) λu e=>C0 h o l u e
theorem Sg.grow(S:Sg E ss Z F H)(s:AF H H'):Mv E ss Z F H F H':=
 S.step (AF.refl _) (S.fh.trans s) (λa u _ e=>s a u e) (λa u e=>.inl e) λi l hi e=>BU.keep (S.Ep hi e) λu e=>s l u e
theorem Sg.setG(S:Sg E ss Z F H)(AA:Ok E F H s (some (some v)))(d:∀l,BK s (some (some v)) l->∀(i:Nat)u,i≠j->ss[i]?=some u->¬ BK u Z[i]? l):Sg E (ss.set j s) (Z.set j (some v)) F H:=by
 refine⟨S.toFin,by rw[Gm,Gm];exact S.len,λi u hi=>?_,λi k u w l OC hi hk mu b=>?_⟩
 .by_cases q:i=j
  .subst q;have a:i<ss.length:=by have:=(List.getElem?_eq_some_iff.mp hi).1;simpa using this
   rw[Cp a]at hi;cases hi;rw[Cp (by rw[<- S.len];exact a)];exact AA
  .rw[CJ (BG q)]at hi ⊢;exact S.ok i u hi
 .by_cases q:i=j
  .subst q;have a:i<ss.length:=by have:=(List.getElem?_eq_some_iff.mp hi).1;simpa using this
   rw[Cp a]at hi;rw[Cp (by rw[<- S.len];exact a)]at mu;cases hi;rw[CJ OC]at hk b;exact d l mu k w (BG OC) hk b
  .rw[CJ (BG q)]at hi mu
   by_cases c:k=j
   .subst c;have a:k<ss.length:=by have:=(List.getElem?_eq_some_iff.mp hk).1;simpa using this
    rw[Cp a]at hk;cases hk;rw[Cp (by rw[<- S.len];exact a)]at b;exact d l b i u OC hi mu
   .rw[CJ (BG c)]at hk b;exact S.Bd i k u w l OC hi hk mu b
theorem Sg.Gf(S:Sg E ss Z F H)(r:Rep F v p):Sg E (ss.set j (.is p)) (Z.set j (some v)) F H:=S.setG ⟨v,rfl,r⟩ λ_ h=>by cases h
def Sv(ss:List Slot)(Z:L2.St)(F H:Hp)(v:V):Bool->List PV->Prop
 |true,xs=>Rep F v (.tup xs)
 |false,xs=>∃l vs,v=.ref l/\CH ss Z l/\H l=some (.lst vs)/\AE F vs xs
def Fv(E:Ent0)(F:Hp)(v:V):Bool->List PV->Prop
 |true,xs=>Rep F v (.tup xs)
 |false,xs=>∃l vs,v=.ref l/\(F l=some (.lst vs)∨((l∉E.A/\l∉E.B)/\E.H0 l=some (.lst vs)))/\AE F vs xs
structure Wp [Xw] (ss:List Slot) (t:TE) (k:PV->Prop):Prop where
 go:∀(E:Ent)(Z:L2.St)(F H:Hp)(Q:VK),Sg E ss Z F H->(∀v p F' H',Mv E ss Z F H F' H'->Rep F' v p->k p->Q v H')->t Z H Q
structure Wn [Xw] (ss:List Slot) (t:TE) (k:List PV->Prop):Prop where
 go:∀(E:Ent)(Z:L2.St)(F H:Hp)(Q:VK),Sg E ss Z F H->(∀l vs xs F' H',Mv E ss Z F H F' H'->F' l=none->H l=none->H' l=some (.lst vs)->AE F' vs xs->k xs->Q (.ref l) H')->t Z H Q
structure Wq [Xw] (ss:List Slot) (t:TE) (k:Bool->List PV->Prop):Prop where
 go:∀(E:Ent)(Z:L2.St)(F H:Hp)(Q:VK),Sg E ss Z F H->(∀v tp xs F' H',Mv E ss Z F H F' H'->Sv ss Z F' H' v tp xs->k tp xs->Q v H')->t Z H Q
structure Wz [Xw] (ss:List Slot) (t:TE) (k:Bool->List PV->Prop):Prop where
 go:∀(E:Ent)(Z:L2.St)(F H:Hp)(Q:VK),Sg E ss Z F H->(∀v tp xs F' H',Mv E ss Z F H F' H'->Fv E F' v tp xs->k tp xs->Q v H')->t Z H Q
structure Wt [Xw] (ss:List Slot) (t:TT) (k:Bool->Prop):Prop where
 go:∀(E:Ent)(Z:L2.St)(F H:Hp)(Q:Bool->Hp->Prop),Sg E ss Z F H->(∀b F' H',Mv E ss Z F H F' H'->k b->Q b H')->t Z H Q
def Av(ss:List Slot)(Z:L2.St)(F H:Hp)(v:V):Slot->Prop
 | .is p=>Rep F v p
 | .sq tp xs=>Sv ss Z F H v tp xs
 | .raw P=>P F v/\∀F F',AF F F'->P F v->P F' v
 |_=>False
inductive GV (ss:List Slot) (Z:L2.St) (F H:Hp):List V->List Slot->Prop where
 |nil:GV ss Z F H [] []
 |cons {v:V}{s:Slot}{vs:List V}{l:List Slot}:Av ss Z F H v s->GV ss Z F H vs l->GV ss Z F H (v::vs) (s::l)
structure Wa [Xw] (ss:List Slot) (t:TA) (k:List Slot->Prop):Prop where
 go:∀(E:Ent)(Z:L2.St)(F H:Hp)(Q:List V->Hp->Prop),Sg E ss Z F H->(∀vs l F' H',Mv E ss Z F H F' H'->GV ss Z F' H' vs l->k l->Q vs H')->t Z H Q
inductive Ac where
 |is (k:PV->Prop)|new (k:List PV->Prop)|AH|ow (k:OV->Prop)|mt (k:PV->OV->Prop)|IQ (k:PV->OV->OV->Prop)
noncomputable def OV.val:OV->V
 | .nd _ a _=>.ref a
 |_=>.A7
def Ac.ok(R:Ac)(E:Ent0)(F' H':Hp)(v:V):Prop:=match R with
 | .is k=>∃p,Rep F' v p/\k p
 | .new k=>∃l vs xs,v=.ref l/\F' l=none/\E.H0 l=none/\H' l=some (.lst vs)/\AE F' vs xs/\k xs
 | .AH=>∃l,v=.ref l/\F' l=none/\E.H0 l=none/\BU H' l
 | .ow k=>∃t,Ai F' H' v t/\t.addrs.Nodup/\(∀a∈t.addrs,F' a=none/\E.H0 a=none)/\k t
 | .mt k=>∃p t,Rep F' v p/\Ai F' H' t.val t/\t.addrs.Nodup/\(∀a∈t.addrs,F' a=none/\(E.H0 a=none∨a∈E.B))/\k p t
 | .IQ k=>∃p t u,Rep F' v p/\Ai F' H' t.val t/\Ai F' H' u.val u/\(t.addrs++u.addrs).Nodup/\(∀a∈t.addrs++u.addrs,F' a=none/\(E.H0 a=none∨a∈E.B))/\k p t u
structure Ws [Xw] (ss:List Slot) (t:TS) (nx:List Slot->Prop) (R:Ac):Prop where
 go:∀(E:Ent)(D:Ends)(Z:L2.St)(F H:Hp),Sg E ss Z F H->(∀A4 σ' F' H',nx A4->Sg E A4 σ' F' H'->AF F F'->D.nx σ' H')->(∀v F' H',Fin E F' H'->R.ok E F' H' v->D.rt v H')->t D Z H
section
variable[Xw]
variable{K:zu}{tb:TE}{k:PV->Prop}{R:Ac}
theorem Sv.mv(h:Sv ss Z F H v tp xs)(m:Mv E ss Z F H F' H'):Sv ss Z F' H' v tp xs:=by
 cases tp with
 |true=>exact Rep.mono m.ff h
 |false=>
  obtain⟨l,vs,e,n,r,q⟩:=h;exact⟨l,vs,e,n,m.hh l _ n r,q.mono m.ff⟩
theorem Sv.seq(S:Sg E ss Z F H)(h:Sv ss Z F H v tp xs):∃l vs,v=.ref l/\H l=some (Cz tp vs)/\AE F vs xs:=by
 cases tp with
 |true=>cases h with|tup e r=>exact⟨_,_,rfl,S.fh _ _ e,r⟩
 |false=>obtain⟨l,vs,e,_,r,q⟩:=h;exact⟨l,vs,e,r,q⟩
theorem Fv.sv(S:Sg E ss Z F H)(h:Fv E F v tp xs):Sv ss Z F H v tp xs:=by
 cases tp with
 |true=>exact h
 |false=>
  obtain⟨l,vs,e,h1|⟨a,h1⟩,r⟩:=h
  .exact⟨l,vs,e,S.bS h1,S.fh _ _ h1,r⟩
  .exact⟨l,vs,e,S.d7 a.1 h1,S.keep _ _ a h1,r⟩
theorem ofT{A B:Prop}(h:if true=true then A else B):A:=h
theorem Pu{A B:Prop}(h:if false=true then A else B):B:=h
class Flt {α:Type} (f:α->PV) (g:outParam (α->V)):Prop where
 eq:∀{F:Hp}{v:V}{i:α},Rep F v (f i)->v=g i
instance:Flt PV.int V.int:=⟨λr=>r.inv⟩
instance:Flt PV.str V.str:=⟨λr=>r.inv⟩
instance:Flt PV.bl V.bl:=⟨λr=>r.inv⟩
instance:Flt (λn:Nat=>PV.int n) λn:Nat=>V.int n:=⟨λr=>r.inv⟩
theorem Wp.el{α:Type}{f:α->PV}{g:α->V}[i:Flt f g]{k:α->Prop}(h:Wp ss te λx=>∃i,x=f i/\k i)(E:Ent)(S:Sg E ss Z F H)(q:∀i F1 H1,Mv E ss Z F H F1 H1->k i->Q (g i) H1):te Z H Q:=
 h.go E Z F H Q S λv p F1 H1 m r z=>by
  obtain⟨j,e,kk⟩:=z;subst e;rw[i.eq r];exact q j F1 H1 m kk
theorem AK(h:ss[i]?=some (.is p))(hk:k p):Wp ss (BE i) k:=⟨λE Z F H Q S q=>by
 obtain⟨v,a,r⟩:=S.ok i _ h;exact⟨v,a,q v p F H (.refl S) r hk⟩⟩
theorem DD{i:Int}(hk:k (.int i)):Wp ss (tC (.int i)) k:=⟨λE Z F H Q S q=>q _ _ F H (.refl S) (.int i) hk⟩
theorem K3(hk:k (.bl b)):Wp ss (tC (.bl b)) k:=⟨λE Z F H Q S q=>q _ _ F H (.refl S) (.bl b) hk⟩
theorem Ko(hk:k .A7):Wp ss (tC .A7) k:=⟨λE Z F H Q S q=>q _ _ F H (.refl S) .A7 hk⟩
theorem Cu(h:Wn ss te (λxs=>k (.lst xs))):Wp ss te k:=⟨λE Z F H Q S q=>h.go E Z F H Q S λl vs xs F' H' m c f Ds r kk=>by
 have b:=m.st;have z:Mv E ss Z F H (upd F' l (.lst vs)) H':=by
  have A:∀a,H' a≠none->a≠l->F' a=none->upd F' l (.lst vs) a=none:=λa _ h1 h2=>by rw[AN h1];exact h2
  refine⟨⟨⟨λa u e=>?_,b.f0.trans (C0 c _),b.keep,λa u e=>?_,b.DX,λa y=>?_,b.a0,λa x=>?_,b.bH,b.b0⟩,b.len,λi s hi=>?_,b.Bd⟩,m.ff.trans (C0 c _),m.hh,λa u e=>?_⟩
  .by_cases q:a=l
   .subst q;rw[AV]at e;rw[<- e];exact Ds
   .rw[AN q]at e;exact b.fh a u e
  .by_cases q:a=l
   .subst q;exact .inr (S.Dl f)
   .rw[AN q]at e;exact b.fresh a u e
  .by_cases q:a=l
   .subst q;obtain⟨_,_,e,_⟩:=S.DX _ y;rw[f]at e;cases e
   .rw[AN q];exact b.Kh a y
  .by_cases q:a=l
   .subst q;exact absurd f (S.bH _ x)
   .rw[AN q];exact b.bF a x
  .have w:∀a,BK s Z[i]? a->a≠l:=by
    rintro a m rfl;exact S.JD hi f m
   have kk:=b.ok i s hi;cases s with
   |any=>trivial
   |is p=>obtain⟨v,e,r⟩:=kk;exact⟨v,e,r.mono (C0 c _)⟩
   |own ys=>
    obtain⟨d,ws,e,e1,g,n,r⟩:=kk;exact⟨d,ws,e,by rw[AN (w d e)];exact e1,g,n,r.mono (C0 c _)⟩
   |AH=>
    obtain⟨d,e,e1,g,n⟩:=kk;exact⟨d,e,by rw[AN (w d e)];exact e1,g,n⟩
   |sq tp ys=>
    cases tp with
    |true=>obtain⟨v,e,r⟩:=kk;exact⟨v,e,r.mono (C0 c _)⟩
    |false=>obtain⟨d,ws,e,e1,g,r⟩:=kk;exact⟨d,ws,e,e1,g,r.mono (C0 c _)⟩
   |raw P=>obtain⟨v,e,r,st⟩:=kk;exact⟨v,e,st _ _ (C0 c _) r,st⟩
   |ow lt t=>
    obtain⟨v,e,r,nd,q⟩:=kk;exact⟨v,e,r.mono (C0 c _) λa _ o h=>h,nd,λa j=>⟨by rw[AN (w a j)];exact(q a j).1,(q a j).2⟩⟩
  .by_cases q:a=l
   .subst q;exact .inr f
   .rw[AN q]at e;exact m.nn a u e
 exact q _ _ _ _ z (.lst AV (r.mono (C0 c _))) kk⟩
theorem Dj{k:Bool->List PV->Prop}(h:Wp ss te (λp=>∃xs,(p=.lst xs/\k false xs)∨(p=.tup xs/\k true xs))):Wq ss te k:=⟨λE Z F H Q S q=>h.go E Z F H Q S λv p F' H' m r AU=>by
 obtain⟨xs,h⟩:=AU;rcases h with⟨rfl,kk⟩|⟨rfl,kk⟩
 .cases r with|lst h r=>exact q _ false xs F' H' m ⟨_,_,rfl,m.st.bS h,m.st.fh _ _ h,r⟩ kk
 .exact q v true xs F' H' m r kk⟩
theorem C8{k:Bool->List PV->Prop}(h:ss[i]?=some (.is (.lst xs)))(hk:k false xs):Wq ss (BE i) k:=Dj (AK h ⟨xs,.inl ⟨rfl,hk⟩⟩)
theorem To{k:Bool->List PV->Prop}(h:ss[i]?=some (.is (.tup xs)))(hk:k true xs):Wq ss (BE i) k:=Dj (AK h ⟨xs,.inr ⟨rfl,hk⟩⟩)
theorem Oh{k:Bool->List PV->Prop}(h:ss[i]?=some (.own xs))(hk:k false xs):Wq ss (BE i) k:=⟨λE Z F H Q S q=>by
 obtain⟨l,vs,e,e1,b,a,r⟩:=S.ok i _ h;exact⟨_,e,q _ false xs F H (.refl S) ⟨l,vs,rfl,S.Sb h e (by simp),a,r⟩ hk⟩⟩
theorem cx{k:Bool->List PV->Prop}(h:ss[i]?=some (.sq tp xs))(hk:k tp xs):Wz ss (BE i) k:=⟨λE Z F H Q S q=>by
 have kk:=S.ok i _ h;cases tp with
 |true=>obtain⟨v,e,r⟩:=kk;exact⟨_,e,q _ true xs F H (.refl S) r hk⟩
 |false=>
  obtain⟨l,vs,e,a,b,r⟩:=kk;exact⟨_,e,q _ false xs F H (.refl S) ⟨l,vs,rfl,.inr ⟨a,b⟩,r⟩ hk⟩⟩
theorem Dg{k:Bool->List PV->Prop}(h:Wp ss te (λp=>∃xs,(p=.lst xs/\k false xs)∨(p=.tup xs/\k true xs))):Wz ss te k:=⟨λE Z F H Q S q=>h.go E Z F H Q S λv p F' H' m r AU=>by
 obtain⟨xs,h⟩:=AU;rcases h with⟨rfl,kk⟩|⟨rfl,kk⟩
 .cases r with|lst h r=>exact q _ false xs F' H' m ⟨_,_,rfl,.inl h,r⟩ kk
 .exact q _ true xs F' H' m r kk⟩
theorem fc{k:Bool->List PV->Prop}(h:Wz ss te k):Wq ss te k:=⟨λE Z F H Q S q=>h.go E Z F H Q S λv tp xs F' H' m f kk=>q v tp xs F' H' m (f.sv m.st) kk⟩
theorem bc{k:Bool->List PV->Prop}(h:ss[i]?=some (.sq tp xs))(hk:k tp xs):Wq ss (BE i) k:=fc (cx h hk)
theorem ak{f:Int->Int->Int}(h:Wp ss ta λx=>∃i,x=.int i/\Wp ss tb λy=>∃j,y=.int j/\k (.int (f i j))):Wp ss (BF (Fd λi j=>.int (f i j)) ta tb) k:=⟨λE Z F H Q S q=>
 h.el E S λi F1 H1 a h2=>
  h2.el E a.st λj F2 H2 m2 kk=>by
   exact⟨i,j,rfl,rfl,q _ _ F2 H2 (a.trans m2) (.int _) kk⟩⟩
theorem uw(h:Wp ss ta λx=>∃i,x=.int i/\Wp ss tb λy=>∃j,y=.int j/\k (.bl (f i j))):Wp ss (BF (Fd λi j=>.bl (f i j)) ta tb) k:=⟨λE Z F H Q S q=>
 h.el E S λi F1 H1 a h2=>
  h2.el E a.st λj F2 H2 m2 kk=>by
   exact⟨i,j,rfl,rfl,q _ _ F2 H2 (a.trans m2) (.bl _) kk⟩⟩
theorem Tw{f:Int->Int}(h:Wp ss ta λx=>∃i,x=.int i/\k (.int (f i))):Wp ss (P0 (rU λi=>.int (f i)) ta) k:=⟨λE Z F H Q S q=>
 h.el E S λi F1 H1 a kk=>by
  exact⟨i,rfl,q _ _ F1 H1 a (.int _) kk⟩⟩
noncomputable def alike:PV->PV->Bool
 | .int i,.int j=>decide (i=j)
 | .str i,.str j=>decide (i=j)
 | .bl i,.bl j=>decide (i=j)
 | .A7,.A7=>true
 |_,_=>false
def Kg(p q:PV):Bool:=flat p && flat q && TV (Fz.enc p) (Fz.enc q)
theorem Yp{q:PV}(h:Kg p q=true):decide (Fz.enc p=Fz.enc q)=alike p q:=by
 unfold Kg at h;rw[Cn,Cn]at h;obtain⟨⟨h1,h2⟩,a⟩:=h;cases p <;> first|exact Bool.noConfusion h1|skip
 all_goals cases q <;> first|exact Bool.noConfusion h2|exact Bool.noConfusion a|rfl|exact decide_eq_decide.mpr ⟨λe=>by injection e,iI _⟩
theorem dC(h:Wp ss ta λx=>Wp ss tb λy=>Kg x y=true/\k (.bl (alike x y))):Wp ss (BF WE ta tb) k:=⟨λE Z F H Q S q=>
 h.go E Z F H _ S λv p F1 H1 a c h2=>h2.go E Z F1 H1 _ a.st λv2 p2 F2 H2 m2 b AU=>by
  obtain⟨sc,kk⟩:=AU;have d:=sc;unfold Kg at sc;rw[Cn,Cn]at sc;rw[c.enc sc.1.1,b.enc sc.1.2];refine⟨sc.2,?_⟩;rw[Yp d];exact q _ _ F2 H2 (a.trans m2) (.bl _) kk⟩
theorem iM(h:Wp ss ta λx=>Wp ss tb λy=>Kg x y=true/\k (.bl (!alike x y))):Wp ss (BF ba ta tb) k:=⟨λE Z F H Q S q=>
 h.go E Z F H _ S λv p F1 H1 a c h2=>h2.go E Z F1 H1 _ a.st λv2 p2 F2 H2 m2 b AU=>by
  obtain⟨sc,kk⟩:=AU;have d:=sc;unfold Kg at sc;rw[Cn,Cn]at sc;rw[c.enc sc.1.1,b.enc sc.1.2];refine⟨sc.2,?_⟩;rw[Yp d];exact q _ _ F2 H2 (a.trans m2) (.bl _) kk⟩
theorem Qg(h:Wp ss ta λx=>∃c,x=.bl c/\if c=true then Wp ss tb k else k (.bl false)):Wp ss (SX ta tb) k:=⟨λE Z F H Q S q=>
 h.el E S λc F1 H1 a h2=>by
  refine⟨c,rfl,?_⟩;cases c with
  |true=>exact Ks ((ofT h2).go E Z F1 H1 _ a.st λv2 p2 F2 H2 m2 b kk=>q _ _ F2 H2 (a.trans m2) b kk)
  |false=>exact L1 (q _ _ F1 H1 a (.bl _) (Pu h2))⟩
theorem jW(h:Wp ss ta λx=>∃c,x=.bl c/\if c=true then k (.bl true)else Wp ss tb k):Wp ss (R1 ta tb) k:=⟨λE Z F H Q S q=>
 h.el E S λc F1 H1 a h2=>by
  refine⟨c,rfl,?_⟩;cases c with
  |true=>exact Ks (q _ _ F1 H1 a (.bl _) (ofT h2))
  |false=>exact L1 ((Pu h2).go E Z F1 H1 _ a.st λv2 p2 F2 H2 m2 b kk=>q _ _ F2 H2 (a.trans m2) b kk)⟩
theorem c7(h:Wp ss ta λx=>∃c,x=.bl c/\k (.bl (!c))):Wp ss (UK ta) k:=⟨λE Z F H Q S q=>
 h.el E S λc F1 H1 a kk=>⟨c,rfl,q _ _ F1 H1 a (.bl _) kk⟩⟩
theorem uJ{g:Int->Int->Bool}(h:Wp ss ta λx=>∃i,x=.int i/\Wp ss tb λy=>∃j,y=.int j/\if f i j=true then Wp ss tc (λz=>∃l,z=.int l/\k (.bl (g j l)))else k (.bl false)):
  Wp ss (TQ (Fd λi j=>.bl (f i j)) (Fd λi j=>.bl (g i j)) ta tb tc) k:=⟨λE Z F H Q S q=>
 h.el E S λi F1 H1 b h2=>
  h2.el E b.st λj F2 H2 m2 a=>by
   refine⟨i,j,rfl,rfl,f i j,rfl,?_⟩;cases c:f i j with
   |true=>
    rw[c,eM rfl]at a;rw[eM rfl];exact a.el E m2.st λl F3 H3 d kk=>by
     exact⟨j,l,rfl,rfl,q _ _ F3 H3 (b.trans (m2.trans d)) (.bl _) kk⟩
   |false=>
    rw[c,eJ (by decide)]at a;rw[eJ (by decide)];exact q _ _ F2 H2 (b.trans m2) (.bl _) a⟩
theorem Hu{k:Bool->Prop}(h:Wp ss te λx=>∃c,x=.bl c/\k c):Wt ss (M1 te) k:=⟨λE Z F H Q S q=>
 h.el E S λc F1 H1 a kk=>⟨c,rfl,q _ F1 H1 a kk⟩⟩
theorem Jg{k:Bool->Prop}(h:Wp ss te λx=>∃c,x=.bl c/\k c):Wt ss (tB te) k:=⟨λE Z F H Q S q=>
 h.el E S λc F1 H1 a kk=>⟨c,rfl,q _ F1 H1 a kk⟩⟩
theorem Ip{k:Bool->Prop}(h:k true):Wt ss La k:=⟨λE Z F H Q S q=>q _ F H (.refl S) h⟩
theorem RQ{t:TT}{k:Bool->Prop}(h:Wt ss t λc=>k (!c)):Wt ss (R5 t) k:=⟨λE Z F H Q S q=>h.go E Z F H _ S λc F1 H1 a kk=>q _ F1 H1 a kk⟩
theorem wH{t u:TT}{k:Bool->Prop}(h:Wt ss t λc=>if c=true then Wt ss u k else k false):Wt ss (RX t u) k:=⟨λE Z F H Q S q=>
 h.go E Z F H _ S λc F1 H1 a h2=>by
  show if c=true then _ else _
  cases c with
  |true=>exact Ks ((ofT h2).go E Z F1 H1 _ a.st λb F2 H2 m2 kk=>q _ F2 H2 (a.trans m2) kk)
  |false=>exact L1 (q _ F1 H1 a (Pu h2))⟩
theorem vf{t u:TT}{k:Bool->Prop}(h:Wt ss t λc=>if c=true then k true else Wt ss u k):Wt ss (Lj t u) k:=⟨λE Z F H Q S q=>
 h.go E Z F H _ S λc F1 H1 a h2=>by
  show if c=true then _ else _
  cases c with
  |true=>exact Ks (q _ F1 H1 a (ofT h2))
  |false=>exact L1 ((Pu h2).go E Z F1 H1 _ a.st λb F2 H2 m2 kk=>q _ F2 H2 (a.trans m2) kk)⟩
end
structure We [Xw] (ss:List Slot) (t:TA) (k:List PV->Prop):Prop where
 go:∀(E:Ent)(Z:L2.St)(F H:Hp)(Q:List V->Hp->Prop),Sg E ss Z F H->(∀vs ps F' H',Mv E ss Z F H F' H'->AE F' vs ps->k ps->Q vs H')->t Z H Q
section
variable[Xw]
variable{K:zu}{tb:TE}{k:PV->Prop}{R:Ac}
theorem IG{k:List PV->Prop}(h:k []):We ss BV k:=⟨λE Z F H Q S q=>q _ _ F H (.refl S) .nil h⟩
theorem Jj{k:List PV->Prop}(h:Wp ss te λp=>We ss t λps=>k (p::ps)):We ss (Ah te t) k:=⟨λE Z F H Q S q=>
 h.go E Z F H _ S λv p F1 H1 a c h2=>h2.go E Z F1 H1 _ a.st λvs ps F2 H2 m2 b kk=>q _ _ F2 H2 (a.trans m2) (.cons (c.mono m2.ff) b) kk⟩
theorem D2{k:List Slot->Prop}(h:k []):Wa ss BV k:=⟨λE Z F H Q S q=>q _ _ F H (.refl S) .nil h⟩
theorem Bj{k:List Slot->Prop}(h:Wp ss te λp=>Wa ss t λl=>k (.is p::l)):Wa ss (Ah te t) k:=⟨λE Z F H Q S q=>
 h.go E Z F H _ S λv p F1 H1 a c h2=>h2.go E Z F1 H1 _ a.st λvs l F2 H2 m2 b kk=>q _ _ F2 H2 (a.trans m2) (.cons (s:=.is p) (c.mono m2.ff) b) kk⟩
theorem OW{k:List Slot->Prop}(h:Wq ss te λtp xs=>Wa ss t λl=>k (.sq tp xs::l)):Wa ss (Ah te t) k:=⟨λE Z F H Q S q=>
 h.go E Z F H _ S λv tp xs F1 H1 a c h2=>h2.go E Z F1 H1 _ a.st λvs l F2 H2 m2 b kk=>q _ _ F2 H2 (a.trans m2) (.cons (s:=.sq tp xs) (c.mv m2) b) kk⟩
theorem kJ{k:List Slot->Prop}{P:Hp->V->Prop}(hi:ss[i]?=some (.raw P))(h:Wa ss t λl=>k (.raw P::l)):Wa ss (Ah (BE i) t) k:=⟨λE Z F H Q S q=>by
 obtain⟨v,e,r,st⟩:=S.ok i _ hi;exact⟨v,e,h.go E Z F H _ S λvs l F2 H2 m2 a kk=>q _ _ F2 H2 m2 (.cons (s:=.raw P) ⟨st _ _ m2.ff r,st⟩ a) kk⟩⟩
theorem JI{n:Nat}(h:n<=99999):n<sizeLine:=C5 (Nat.lt_succ_of_le h) (small (AW 100000))
theorem UC(h:We ss t λps=>ps.length<=100000/\k (.tup ps)):Wp ss (S9 t) k:=⟨λE Z F H Q S q=>
 h.go E Z F H _ S λvs ps F1 H1 c b AU=>by obtain⟨d,kk⟩:=AU;exact⟨small (by rw[b.length];exact d),λa e=>by
  have m2:=c.st.alloc e (.tup vs);exact q _ _ _ _ (c.trans m2) (.tup AV (b.mono m2.ff)) kk⟩⟩
theorem JP{k:List PV->Prop}(h:We ss t λps=>ps.length<=100000/\k ps):Wn ss (Rz t) k:=⟨λE Z F H Q S q=>
 h.go E Z F H _ S λvs ps F1 H1 b d AU=>by obtain⟨f,kk⟩:=AU;exact⟨small (by rw[d.length];exact f),λa c=>by
  have m2:=b.st.make c (.lst vs);refine q a vs ps F1 _ (b.trans m2) (b.st.Be c) ?_ AV d kk;cases e:H a with
  |none=>rfl
  |some o=>rw[b.hh a o (b.st.IC c) e]at c;cases c⟩⟩
theorem GF(h:Wq ss te λ_ xs=>k (.int xs.length)):Wp ss (CK (Ii K) (Ah te BV)) k:=⟨λE Z F H Q S q=>
 h.go E Z F H _ S λv tp xs F1 H1 a sv kk=>by
  obtain⟨l,vs,rfl,b,r⟩:=sv.seq a.st;refine⟨l,vs,rfl,(Cz.sq (K:=K) b).or,?_⟩;rw[r.length];exact q _ _ F1 H1 a (.int _) kk⟩
theorem AE.BM{i:Int}(r:AE F vs xs)(h:L2.BM xs i=some p):∃u,L2.BM vs i=some u/\Rep F u p:=by
 unfold L2.BM at h ⊢;rw[r.length];cases e:EX xs.length i with
 |none=>rw[e]at h;cases h
 |some j=>
  rw[e]at h;exact r.get h
theorem EL(h:Wq ss ta λtp xs=>tp=false/\Wp ss tb λy=>∃i p,y=.int i/\L2.BM xs i=some p/\k p):Wp ss (BF (G7 K) ta tb) k:=⟨λE Z F H Q S q=>
 h.go E Z F H _ S λv tp xs F1 H1 a sv⟨j,h2⟩=>h2.go E Z F1 H1 _ a.st λv2 p2 F2 H2 m2 c⟨i,p,e,g,kk⟩=>by
  subst e;cases c.inv;subst j;obtain⟨l,vs,rfl,f,r⟩:=(sv.mv m2).seq m2.st;obtain⟨u,d,b⟩:=r.BM g;exact⟨l,vs,i,u,rfl,rfl,AI.of f,d,q _ _ F2 H2 (a.trans m2) b kk⟩⟩
theorem UT(h:Wq ss ta λtp xs=>tp=true/\Wp ss tb λy=>∃i p,y=.int i/\L2.BM xs i=some p/\k p):Wp ss (BF (HW K) ta tb) k:=⟨λE Z F H Q S q=>
 h.go E Z F H _ S λv tp xs F1 H1 a sv⟨j,h2⟩=>h2.go E Z F1 H1 _ a.st λv2 p2 F2 H2 m2 c⟨i,p,e,g,kk⟩=>by
  subst e;cases c.inv;subst j;obtain⟨l,vs,rfl,f,r⟩:=(sv.mv m2).seq m2.st;obtain⟨u,d,b⟩:=r.BM g;exact⟨l,vs,i,u,rfl,rfl,Ag.of f,d,q _ _ F2 H2 (a.trans m2) b kk⟩⟩
theorem ve(h:Wp ss ta λp=>∃x,p=.str x/\Wq ss tb λ_ ys=>∃ns:List Str,ys=ns.map PV.str/\k (.bl (if neg then !decide (x∈ns)else decide (x∈ns)))):Wp ss (BF (L5 K neg) ta tb) k:=⟨λE Z F H Q S q=>
 h.el E S λx F1 H1 a h2=>by
  exact h2.go E Z F1 H1 _ a.st λv2 tp ys F2 H2 m2 sv K8=>by
   obtain⟨ns,c,kk⟩:=K8;subst c;obtain⟨l,vs,rfl,b,r⟩:=sv.seq m2.st;rw[r.strs]at b;refine⟨l,_,rfl,(Cz.sq (K:=K) b).or,rfl,Gw ns,?_⟩;rw[Nh];exact q _ _ F2 H2 (a.trans m2) (.bl _) kk⟩
theorem VH{k:List PV->Prop}(d:r=λxs H Q=>∃p ys,xs=[.ref p]/\(AI K H p ys∨Ag K H p ys)/\∀l,H l=none->Q (.ref l) (upd H l (.lst ys)))(h:Wq ss te λ_ xs=>k xs):Wn ss (CK r (Ah te BV)) k:=⟨λE Z F H Q S q=>
 h.go E Z F H _ S λv tp xs F1 H1 b sv kk=>by
  subst d;obtain⟨l,vs,rfl,e,r⟩:=sv.seq b.st;refine⟨l,vs,rfl,(Cz.sq (K:=K) e).or,λa c=>?_⟩;have m2:=b.st.make c (.lst vs);exact q a vs xs F1 _ (b.trans m2) (b.st.Be c) (b.none c) AV r kk⟩
theorem xk(d:r=λxs H Q=>∃p ys,xs=[.ref p]/\((AI K H p ys/\∀l,H l=none->Q (.ref l) (upd H l (.tup ys)))∨(Ag K H p ys/\Q (.ref p) H)))(h:Wq ss te λ_ xs=>k (.tup xs)):Wp ss (CK r (Ah te BV)) k:=⟨λE Z F H Q S q=>
 h.go E Z F H _ S λv tp xs F1 H1 b sv kk=>by
  subst d;cases tp with
  |false=>
   obtain⟨l,vs,rfl,f,r⟩:=sv.seq b.st;refine⟨l,vs,rfl,.inl ⟨AI.of f,λa g=>?_⟩⟩;have m2:=b.st.alloc g (.tup vs);exact q _ _ _ _ (b.trans m2) (.tup AV (r.mono m2.ff)) kk
  |true=>
   have c:Rep F1 v (.tup xs):=sv;cases c with
   |tup e r=>exact⟨_,_,rfl,.inr ⟨Ag.of (b.st.fh _ _ e),q _ _ F1 H1 b (.tup e r) kk⟩⟩⟩
theorem aF{k:List PV->Prop}(h:Wq ss ta λtp xs=>tp=false/\Wq ss tb λBO ys=>BO=false/\xs.length+ys.length<=100000/\k (xs++ys)):Wn ss (BF WH ta tb) k:=⟨λE Z F H Q S q=>
 h.go E Z F H _ S λv tp xs F1 H1 b sv⟨i,h2⟩=>h2.go E Z F1 H1 _ b.st λv2 BO ys F2 H2 m2 G3⟨Sj,f,kk⟩=>by
  subst i;subst Sj;obtain⟨l,vs,rfl,g,r⟩:=(sv.mv m2).seq m2.st;obtain⟨l2,HA,rfl,Bb,d⟩:=G3.seq m2.st;refine⟨l,l2,vs,HA,rfl,rfl,g,Bb,small (by rw[r.length,d.length];exact f),λa c=>?_⟩;have e:=m2.st.make c (.lst (vs++HA));exact q a _ _ F2 _ (b.trans (m2.trans e)) (m2.st.Be c) ((b.trans m2).none c) AV (r.append d) kk⟩
theorem xW(xs ys:List Str):EA (xs.map V.str) (ys.map V.str)=decide (xs=ys):=by
 by_cases h:xs=ys
 .subst h;rw[lN,eV rfl]
 .rw[fD h]
  by_cases a:xs.length=ys.length
  .rw[IS (by simpa using a)]
   cases c:(List.range (xs.map V.str).length).all λj=>DF ((xs.map V.str).getD j .A7) ((ys.map V.str).getD j .A7)with
   |false=>rfl
   |true=>
    exfalso;apply h;apply QP a;intro j h1 h2;have q:=List.all_eq_true.mp c j (List.mem_range.mpr (by simpa using h1))
    have e1:(xs.map V.str)[j]?=some (.str xs[j]):=by rw[AM,AL h1];rfl
    have d:(ys.map V.str)[j]?=some (.str ys[j]):=by rw[AM,AL h2];rfl
    rw[Fp e1,Fp d]at q;have b:(xs[j] == ys[j])=true:=q
    simpa using b
  .rw[II (by simpa using a)]
theorem ib(h:Wq ss ta λtp xs=>∃ns:List Str,xs=ns.map PV.str/\Wq ss tb λBO ys=>BO=tp/\∃ms:List Str,ys=ms.map PV.str/\k (.bl (if neg then !decide (ns=ms)else decide (ns=ms)))):Wp ss (BF (Kn K neg) ta tb) k:=⟨λE Z F H Q S q=>
 h.go E Z F H _ S λv tp xs F1 H1 a sv⟨ns,e1,h2⟩=>h2.go E Z F1 H1 _ a.st λv2 BO ys F2 H2 m2 G3⟨d,ms,e,kk⟩=>by
  subst e1;subst e;subst d;obtain⟨l,vs,rfl,b,r⟩:=(sv.mv m2).seq m2.st;obtain⟨l2,HA,rfl,Bb,c⟩:=G3.seq m2.st;rw[r.strs]at b;rw[c.strs]at Bb;refine⟨l,l2,ns.map V.str,ms.map V.str,rfl,rfl,?_,Gw _,Gw _,?_⟩
  .cases BO
   .exact .inl ⟨AI.of b,AI.of Bb⟩
   .exact .inr ⟨Ag.of b,Ag.of Bb⟩
  .rw[xW];cases neg
   .exact q _ _ F2 H2 (a.trans m2) (.bl _) kk
   .exact q _ _ F2 H2 (a.trans m2) (.bl _) kk⟩
theorem t9(c:r=λxs H Q=>∃(p:Addr)(bs:List Bool),xs=[.ref p]/\AI K H p (bs.map V.bl)/\Q (.bl (bs.all id)) H)(h:Wq ss te λtp xs=>tp=false/\∃bs:List Bool,xs=bs.map PV.bl/\k (.bl (bs.all id))):Wp ss (CK r (Ah te BV)) k:=⟨λE Z F H Q S q=>
 h.go E Z F H _ S λv tp xs F1 H1 a sv AU=>by
  obtain⟨d,bs,e,kk⟩:=AU;subst c;subst e;subst d;obtain⟨l,vs,rfl,b,r⟩:=sv.seq a.st;rw[r.YK]at b;exact⟨l,bs,rfl,AI.of b,q _ _ F1 H1 a (.bl _) kk⟩⟩
theorem aW(c:r=λxs H Q=>∃(p:Addr)(bs:List Bool),xs=[.ref p]/\AI K H p (bs.map V.bl)/\Q (.bl (bs.any id)) H)(h:Wq ss te λtp xs=>tp=false/\∃bs:List Bool,xs=bs.map PV.bl/\k (.bl (bs.any id))):Wp ss (CK r (Ah te BV)) k:=⟨λE Z F H Q S q=>
 h.go E Z F H _ S λv tp xs F1 H1 a sv AU=>by
  obtain⟨d,bs,e,kk⟩:=AU;subst c;subst e;subst d;obtain⟨l,vs,rfl,b,r⟩:=sv.seq a.st;rw[r.YK]at b;exact⟨l,bs,rfl,AI.of b,q _ _ F1 H1 a (.bl _) kk⟩⟩
noncomputable def tyP:PV->String
 | .A7 => "NoneType"
 | .bl _ => "bool"
 | .int _ => "int"
 | .str _ => "str"
 | .lst _ => "list"
 | .tup _ => "tuple"
 | .An _ _ => "dict"
 |_ => ""
def JH:PV->Value
 | .obj _ _ _=>.none
 | .exc _ _ _=>.none
 | .con _ _=>.none
 |p=>.type (tyP p)
theorem Nv(h:PySem.W.kitOne K .none (.type n)=some b):False:=by
 unfold PySem.W.kitOne PySem.W.kitCls PySem.W.subIn at h;simp at h
theorem Rep.iB(s:AF F H)(r:Rep F v p)(a:PySem.W.kitOne K (JH p) (.type n)=some b):E6 K H v (JH p):=by
 cases r with
 |A7=>exact .A7
 |bl b=>exact .bl b
 |int i=>exact .int i
 |str x=>exact .str x
 |lst h _=>exact .lst (s _ _ h)
 |tup h _=>exact .tup (s _ _ h)
 |An h _ _=>exact .dK (s _ _ h)
 |obj _ _ _ _=>exact(Nv a).elim
 |Oo _=>exact(Nv a).elim
 |con=>exact(Nv a).elim
 |exc _ _ _ _=>exact(Nv a).elim
theorem bu(h:Wp ss te λp=>∃b,PySem.W.kitOne K (JH p) (.type n)=some b/\k (.bl b)):Wp ss (CK (d6 K) (Ah te (Ah (tC (.ty n)) BV))) k:=⟨λE Z F H Q S q=>
 h.go E Z F H _ S λv p F1 H1 a r AU=>by obtain⟨b,c,kk⟩:=AU;exact⟨v,n,_,b,rfl,r.iB a.st.fh c,c,q _ _ F1 H1 a (.bl _) kk⟩⟩
theorem oD(c:r=λxs H Q=>∃i j,xs=[.int i,.int j]/\Q (.int (if j > i then j else i)) H)(h:Wp ss ta λx=>∃i,x=.int i/\Wp ss tb λy=>∃j,y=.int j/\k (.int (if j > i then j else i))):Wp ss (CK r (Ah ta (Ah tb BV))) k:=⟨λE Z F H Q S q=>
 h.go E Z F H _ S λv p F1 H1 a b AU=>by
  obtain⟨i,e1,h2⟩:=AU;subst c;subst e1;cases b.inv;exact h2.el E a.st λj F2 H2 m2 kk=>by
   exact⟨i,j,rfl,q _ _ F2 H2 (a.trans m2) (.int _) kk⟩⟩
theorem wq(c:r=λxs H Q=>∃i j,xs=[.int i,.int j]/\Q (.int (if j<i then j else i)) H)(h:Wp ss ta λx=>∃i,x=.int i/\Wp ss tb λy=>∃j,y=.int j/\k (.int (if j<i then j else i))):Wp ss (CK r (Ah ta (Ah tb BV))) k:=⟨λE Z F H Q S q=>
 h.go E Z F H _ S λv p F1 H1 a b AU=>by
  obtain⟨i,e1,h2⟩:=AU;subst c;subst e1;cases b.inv;exact h2.el E a.st λj F2 H2 m2 kk=>by
   exact⟨i,j,rfl,q _ _ F2 H2 (a.trans m2) (.int _) kk⟩⟩
end
structure Src (E:Ent0) (F1:Hp) (J:It) (xs:List PV):Prop where
 go:∀(ss:List Slot)(Z:L2.St)(F H:Hp)(i:Nat),AF F1 F->Sg E ss Z F H->i<xs.length->J.go i H
 stop:∀(ss:List Slot)(Z:L2.St)(F H:Hp),AF F1 F->Sg E ss Z F H->J.stop xs.length H
 D7:∀(ss:List Slot)(Z:L2.St)(F H:Hp)(i:Nat)(x:V)(H':Hp),AF F1 F->Sg E ss Z F H->i<xs.length->J.D7 i H x H'->∃p F',xs[i]?=some p/\Mv E ss Z F H F' H'/\Rep F' x p
structure Wi [Xw] (ss:List Slot) (wi:TI) (k:List PV->Prop):Prop where
 go:∀(E:Ent)(Z:L2.St)(F H:Hp)(R:It->Hp->Prop),Sg E ss Z F H->(∀J xs F' H',Mv E ss Z F H F' H'->Src E F' J xs->k xs->R J H')->wi Z H R
structure Wg [Xw] (ss:List Slot) (g:TG) (p:PV) (k:List Slot->Prop):Prop where
 go:∀(E:Ent)(Z:L2.St)(F H:Hp)(v:V)(Q:L2.St->Hp->Prop),Sg E ss Z F H->Rep F v p->(∀A4 σ',k A4->Sg E A4 σ' F H->Q σ' H)->g v Z H Q
section
variable[Xw]
variable{K:zu}{tb:TE}{k:PV->Prop}{R:Ac}
theorem ay(h:∀(ss:List Slot)(Z:L2.St)(F H:Hp),AF F' F->Sg E ss Z F H->H l=some (Cz tp vs))(r:AE F' vs xs):Src E F' (Hx K tp l vs) xs where
 go:=λss Z F H i s S hi=>⟨Cz.sq (h ss Z F H s S),by rw[r.length];exact hi⟩
 stop:=λss Z F H s S=>⟨Cz.sq (h ss Z F H s S),by rw[r.length];exact AW _⟩
 D7:=λss Z F H i x H' s S hi y=>by
  obtain⟨e,hx⟩:=y;subst e;obtain⟨p,b,a⟩:=r.get' hx;exact⟨p,F,b,.refl S,a.mono s⟩
theorem Et{k:List PV->Prop}(h:Wz ss te λ_ xs=>k xs):Wi ss (Ny K te) k:=⟨λE Z F H R S q=>
 h.go E Z F H _ S λv tp xs F1 H1 a f kk=>by
  cases tp with
  |true=>
   have c:Rep F1 v (.tup xs):=f;cases c with
   |tup e r=>exact⟨true,_,_,rfl,Ag.of (a.st.fh _ _ e),q _ _ F1 H1 a (ay (tp:=true) (λss Z F H s S=>S.fh _ _ (s _ _ e)) r) kk⟩
  |false=>
   obtain⟨l,vs,rfl,h1,r⟩:=f;have b:∀(ss:List Slot)(Z:L2.St)(F H:Hp),AF F1 F->Sg E ss Z F H->H l=some (.lst vs):=λss Z F H s S=>by
    rcases h1 with h1|⟨hA,h1⟩
    .exact S.fh _ _ (s _ _ h1)
    .exact S.keep _ _ hA h1
   exact⟨false,l,vs,rfl,AI.of (b ss Z F1 H1 (AF.refl _) a.st),q _ _ F1 H1 a (ay (tp:=false) b r) kk⟩⟩
noncomputable def FE(n:Nat):List PV:=(List.range n).map λi:Nat=>PV.int (i:Int)
theorem LD(n:Nat):(FE n).length=n:=by simp[FE]
theorem Rn{n:Nat}(h:(FE n)[i]?=some p):i<n/\p=.int (i:Int):=by
 have hi:i<n:=by have:=(List.getElem?_eq_some_iff.mp h).1;rwa [LD]at this
 unfold FE at h;rw[AM,NC hi]at h;exact⟨hi,(BB h).symm⟩
theorem JS{k:List PV->Prop}(h:Wp ss te λp=>∃j:Int,p=.int j/\j<=1000000/\-1000000<=j/\k (FE j.toNat)):Wi ss (Uz (Ah te BV)) k:=⟨λE Z F H R S q=>
 h.el E S λj F1 H1 b a=>by
  obtain⟨h1,h2,kk⟩:=a;refine⟨j,rfl,by omega,by omega,q _ (FE j.toNat) F1 H1 b ⟨λss Z F H i s S hi=>?_,λss Z F H s S=>?_,λss Z F H i x H' s S hi y=>?_⟩ kk⟩
  .rw[LD]at hi;exact hi
  .show _<=_;rw[LD];exact AW _
  .obtain⟨e,hx⟩:=y;subst e;subst hx;rw[LD]at hi;refine⟨.int (i:Int),F,?_,.refl S,?_⟩
   .unfold FE;rw[AM,NC hi];rfl
   .rw[Int.zero_add];exact .int _⟩
theorem G0{k:List Slot->Prop}(h:k (ss.set j (.is p))):Wg ss (CU j) p k:=⟨λE Z F H v Q S r q=>q _ _ h (S.Gf r)⟩
theorem me{k:List Slot->Prop}(h:∃a b,p=.tup [a,b]/\k ((ss.set i (.is a)).set j (.is b))):Wg ss (Io K 2 (Hy (CU i) (Hy (CU j) Lz))) p k:=⟨λE Z F H v Q S r q=>by
 obtain⟨a,b,rfl,kk⟩:=h;obtain⟨_,_,rfl,e,r⟩:=r.inv;obtain⟨_,_,rfl,d,r⟩:=r.inv;obtain⟨_,_,rfl,c,r⟩:=r.inv;obtain rfl:=r.Ck;exact⟨_,_,rfl,Ag.of (S.fh _ _ e),rfl,_,_,rfl,_,_,rfl,rfl,q _ _ kk ((S.Gf d).Gf c)⟩⟩
theorem kP{l:Nat}{k:List Slot->Prop}(h:∃a b c,p=.tup [a,b,c]/\k (((ss.set i (.is a)).set j (.is b)).set l (.is c))):Wg ss (Io K 3 (Hy (CU i) (Hy (CU j) (Hy (CU l) Lz)))) p k:=⟨λE Z F H v Q S r q=>by
 obtain⟨a,b,c,rfl,kk⟩:=h;obtain⟨_,_,rfl,e,r⟩:=r.inv;obtain⟨_,_,rfl,g,r⟩:=r.inv;obtain⟨_,_,rfl,f,r⟩:=r.inv;obtain⟨_,_,rfl,d,r⟩:=r.inv;obtain rfl:=r.Ck;exact⟨_,_,rfl,Ag.of (S.fh _ _ e),rfl,_,_,rfl,_,_,rfl,_,_,rfl,rfl,q _ _ kk (((S.Gf g).Gf f).Gf d)⟩⟩
theorem Bk{t:TS}(h:Ws ss t (λA4=>Ws A4 u nx R) R):Ws ss (Km t u) nx R:=⟨λE D Z F H S c a=>
 h.go E { D with nx:=u D } Z F H S (λA4 σ' F' H' w S' s=>w.go E D σ' F' H' S' (λCS σ2 F2 H2 b S2 s2=>c CS σ2 F2 H2 b S2 (s.trans s2)) a) a⟩
theorem E2{t:TS}(h:Ws ss t nx R):Ws ss (UI t) nx R:=⟨λE D Z F H S b a=>⟨D.nx,h.go E { D with nx:=D.nx } Z F H S b a,λ_ _ q=>q⟩⟩
theorem Ws.mono{t:TS}(h:Ws ss t nx R)(i:∀s,nx s->X5 s):Ws ss t X5 R:=⟨λE D Z F H S b a=>h.go E D Z F H S (λA4 σ' F' H' n=>b A4 σ' F' H' (i _ n)) a⟩
theorem Oi{t:TS}(J:List Slot->Prop)(h:Ws ss t J R)(h2:∀A4,J A4->Ws A4 u nx R):Ws ss (Km t u) nx R:=Bk (h.mono h2)
theorem MI(h:Wp ss te λp=>nx (ss.set i (.is p))):Ws ss (Dm te (CU i)) nx R:=⟨λE D Z F H S b c=>
 h.go E Z F H _ S λv p F1 H1 a r kk=>b _ _ F1 H1 kk (a.st.Gf r) a.ff⟩
theorem uu(h:Wp ss te λp=>Wg ss g p nx):Ws ss (Dm te g) nx R:=⟨λE D Z F H S b c=>
 h.go E Z F H _ S λv p F1 H1 a r kk=>kk.go E Z F1 H1 v _ a.st r λA4 σ' n S'=>b _ _ F1 H1 n S' a.ff⟩
theorem Fw(h:Wn ss te λxs=>nx (ss.set i (.own xs))):Ws ss (Dm te (CU i)) nx R:=⟨λE D Z F H S d k=>
 h.go E Z F H _ S λl vs xs F1 H1 a f b Du r kk=>d _ _ F1 H1 kk (a.st.setG ⟨l,vs,rfl,f,S.Dl b,Du,r⟩ λg e j u _ c mu=>by cases e;exact S.JD c b mu) a.ff⟩
theorem GW(h:Wp ss te k):Ws ss (IZ te) nx (.is k):=⟨λE D Z F H S c b=>
 h.go E Z F H _ S λv p F1 H1 a r kk=>b v F1 H1 a.st.toFin ⟨p,r,kk⟩⟩
theorem Mr{k:List PV->Prop}(h:Wn ss te k):Ws ss (IZ te) nx (.new k):=⟨λE D Z F H S e b=>
 h.go E Z F H _ S λl vs xs F1 H1 a d c Du r kk=>b _ F1 H1 a.st.toFin ⟨l,vs,xs,rfl,d,S.Dl c,Du,r,kk⟩⟩
theorem Uw{k:List PV->Prop}(h:ss[i]?=some (.own xs))(kk:k xs):Ws ss (IZ (BE i)) nx (.new k):=⟨λE D Z F H S d a=>by
 obtain⟨l,vs,e,e1,c,b,r⟩:=S.ok i _ h;exact⟨_,e,a _ F H S.toFin ⟨l,vs,xs,rfl,e1,c,b,r,kk⟩⟩⟩
theorem Gh{t:TS}(h:Wt ss c λb=>if b=true then Ws ss t nx R else Ws ss u nx R):Ws ss (N4 c t u) nx R:=⟨λE D Z F H S e d=>
 h.go E Z F H _ S λb F1 H1 a w=>by
  show if b=true then _ else _
  cases b with
  |true=>rw[eM rfl]at w ⊢;exact w.go E D Z F1 H1 a.st (λCS σ2 F2 H2 n S2 s2=>e CS σ2 F2 H2 n S2 (a.ff.trans s2)) d
  |false=>rw[eJ (by decide)]at w ⊢;exact w.go E D Z F1 H1 a.st (λCS σ2 F2 H2 n S2 s2=>e CS σ2 F2 H2 n S2 (a.ff.trans s2)) d⟩
theorem DQ(h:nx ss):Ws ss TC nx R:=⟨λE D Z F H S a b=>a ss Z F H h S (AF.refl _)⟩
theorem bj(h:Wp ss te λ_=>nx ss):Ws ss (JJ te) nx R:=⟨λE D Z F H S b c=>
 h.go E Z F H _ S λv p F1 H1 a r kk=>b ss Z F1 H1 kk a.st a.ff⟩
theorem Sg.drop(S:Sg E ss Z F H)(i:Nat):Sg E (ss.set i .any) Z F H:=by
 have b:∀(j:Nat)u,(ss.set i .any)[j]?=some u->u=.any∨ss[j]?=some u:=λj u a=>by
  by_cases q:j=i
  .subst q;have d:j<ss.length:=by have:=(List.getElem?_eq_some_iff.mp a).1;simpa using this
   rw[Cp d]at a;exact .inl (BB a).symm
  .rw[CJ (BG q)]at a;exact .inr a
 refine⟨S.toFin,by rw[Gm];exact S.len,λj u a=>?_,λj k u w l Q3 a hk mu c=>?_⟩
 .rcases b j u a with rfl|h
  .trivial
  .exact S.ok j u h
 .rcases b j u a with rfl|h
  .cases mu
  .rcases b k w hk with rfl|h2
   .cases c
   .exact S.Bd j k u w l Q3 h h2 mu c
theorem L4(e:Z[i]?=some (some v)):Z.set i (some v)=Z:=by
 apply QQ;intro j
 by_cases q:j=i
 .subst q;rw[Cp (List.getElem?_eq_some_iff.mp e).1,e]
 .rw[CJ (BG q)]
theorem Sg.Ka(S:Sg E ss Z F H)(k:F a=none)(c:E.H0 a=none∨a∈E.B)(g:∀(i:Nat)s,ss[i]?=some s->¬ BK s Z[i]? a):Sg E ss Z F (upd H a o):=by
 have f:∀b u,b≠a->H b=some u->upd H a o b=some u:=λb u h e=>by rw[AN h];exact e
 refine⟨⟨λb u e=>?_,S.f0,λb u d e=>?_,S.fresh,λb d=>?_,S.Kh,S.a0,S.bF,λb j=>?_,S.b0⟩,S.len,λi s hi=>?_,S.Bd⟩
 .exact f b u (DE e k) (S.fh b u e)
 .refine f b u ?_ (S.keep b u d e);rintro rfl;rcases c with c|c
  .rw[c]at e;cases e
  .exact d.2 c
 .refine BU.keep (S.DX b d) λu e=>f b u ?_ e;rintro rfl;rcases c with c|c
  .exact S.a0 _ d c
  .exact(S.b0 _ c).2 d
 .by_cases q:b=a
  .subst q;rw[AV];simp
  .rw[AN q];exact S.bH b j
 .by_cases np:s=.AH
  .subst np;obtain⟨l,e,e1,p,n⟩:=S.ok i _ hi;exact⟨l,e,e1,p,BU.keep n λu h=>f l u (by rintro rfl;exact g i _ hi e) h⟩
  .exact Ok.go S hi (AF.refl _) (λb u m h=>f b u (by rintro rfl;exact g i _ hi m) h) (λ_ _ h=>h) np
theorem Sg.put(S:Sg E ss Z F H){ys:List PV}(hi:ss[i]?=some (.own xs))(e:Z[i]?=some (some (.ref l)))(f:F l=none)(d:E.H0 l=none)(r:AE F Bl ys):Sg E (ss.set i (.own ys)) Z F (upd H l (.lst Bl)):=by
 have a:∀(j:Nat)s,(ss.set i .any)[j]?=some s->¬ BK s Z[j]? l:=λj s b c=>by
  by_cases q:j=i
  .subst q;have n:j<ss.length:=(List.getElem?_eq_some_iff.mp hi).1;rw[Cp n]at b;cases b;cases c
  .rw[CJ (BG q)]at b;exact S.Bd j i s _ l q b hi c e
 have m:=(S.drop i).Ka (o:=.lst Bl) f (.inl d) a;have g:=m.setG (j:=i) (s:=.own ys) (v:=.ref l) ⟨l,Bl,rfl,f,d,AV,r⟩ λp k j u b h mu=>by cases k;exact a j u h mu
 rw[L4 e,Qd]at g;exact g
theorem U6(hi:ss[i]?=some (.own xs))(h:Wp ss te λp=>xs.length<=99999/\nx (ss.set i (.own (xs++[p])))):Ws ss (JJ (PZ K "list" RD (BE i) (Ah te BV))) nx R:=⟨λE D Z F H S g m=>by
 obtain⟨l,vs,e,e1,n,j,r⟩:=S.ok i _ hi;refine⟨_,e,.inl ⟨rfl,_,AI.of j⟩,h.go E Z F H _ S λv p F1 H1 a d⟨f,kk⟩=>?_⟩;obtain⟨k,Bl,c,CN,B4,Lr,b⟩:=a.st.ok i _ hi;rw[e]at c;cases c;refine⟨l,Bl,v,rfl,rfl,Lr,JI (by rw[b.length];exact f),?_⟩;exact g _ Z F1 _ kk (a.st.put hi e CN B4 (b.append (.one d))) a.ff⟩
theorem c8(hi:ss[i]?=some (.own xs))(h:Wp ss ta λa=>∃j:Int,a=.int j/\0<=j/\j<=xs.length/\Wp ss te λp=>xs.length<=99999/\nx (ss.set i (.own (xs.take j.toNat++p::xs.drop j.toNat)))):
  Ws ss (JJ (PZ K "list" Tn (BE i) (Ah ta (Ah te BV)))) nx R:=⟨λE D Z F H S n u=>by
 obtain⟨l,vs,e,e1,w,s,r⟩:=S.ok i _ hi;refine⟨_,e,.inl ⟨rfl,_,AI.of s⟩,h.go E Z F H _ S λv1 p1 F1 H1 c q⟨j,o,k,g,h2⟩=>?_⟩;subst o;cases q.inv;refine h2.go E Z F1 H1 _ c.st λv p F2 H2 m2 f⟨m,kk⟩=>?_;obtain⟨t,Bl,d,CN,B4,Lr,b⟩:=m2.st.ok i _ hi;rw[e]at d;cases d;refine⟨l,Bl,j,v,rfl,rfl,Lr,k,by rw[b.length];exact g,JI (by rw[b.length];exact m),?_⟩;exact n _ Z F2 _ kk (m2.st.put hi e CN B4 ((b.take _).append (.cons f (b.drop _)))) (c.ff.trans m2.ff)⟩
noncomputable def Ec(F H:Hp)(as:List Addr):Hp:=λa=>if a∈as then H a else F a
theorem Sg.lay(S:Sg E ss Z F H)(as:List Addr)(g:∀a∈as,F a=none/\E.H0 a=none/\H a≠none)(w:∀a∈as,∀(i:Nat)s,ss[i]?=some s->¬ BK s Z[i]? a):Sg E ss Z (Ec F H as) H/\AF F (Ec F H as):=by
 have x:∀a,a∈as->Ec F H as a=H a:=λa h=>eM h;have j:∀a,a∉as->Ec F H as a=F a:=λa h=>eJ h;have ff:AF F (Ec F H as):=λa o e=>by
  by_cases q:a∈as
  .rw[(g a q).1]at e;cases e
  .rw[j a q];exact e
 have f:∀a,a∉as->F a=none->Ec F H as a=none:=λa q h=>by rw[j a q];exact h
 refine⟨⟨⟨λa o e=>?_,S.f0.trans ff,S.keep,λa o e=>?_,S.DX,λa u=>?_,S.a0,λa n=>?_,S.bH,S.b0⟩,S.len,λi s hi=>?_,S.Bd⟩,ff⟩
 .by_cases q:a∈as
  .rw[x a q]at e;exact e
  .rw[j a q]at e;exact S.fh a o e
 .by_cases q:a∈as
  .exact .inr (g a q).2.1
  .rw[j a q]at e;exact S.fresh a o e
 .exact f a (λq=>S.a0 a u (g a q).2.1) (S.Kh a u)
 .exact f a (λq=>(S.b0 a n).1 (g a q).2.1) (S.bF a n)
 .have no:∀a,BK s Z[i]? a->a∉as:=λa m q=>w a q i s hi m;have kk:=S.ok i s hi;cases s with
  |any=>trivial
  |is p=>obtain⟨v,e,r⟩:=kk;exact⟨v,e,r.mono ff⟩
  |own ys=>
   obtain⟨b,ws,q,d,c,k,r⟩:=kk;exact⟨b,ws,q,f b (no b q) d,c,k,r.mono ff⟩
  |AH=>
   obtain⟨b,q,d,c,k⟩:=kk;exact⟨b,q,f b (no b q) d,c,k⟩
  |sq tp ys=>
   cases tp with
   |true=>obtain⟨v,e,r⟩:=kk;exact⟨v,e,r.mono ff⟩
   |false=>obtain⟨b,ws,q,d,c,r⟩:=kk;exact⟨b,ws,q,d,c,r.mono ff⟩
  |raw P=>obtain⟨v,e,r,st⟩:=kk;exact⟨v,e,st _ _ ff r,st⟩
  |ow lt t=>
   obtain⟨v,e,r,nd,q⟩:=kk;exact⟨v,e,r.mono ff λa _ o h=>h,nd,λa l=>⟨f a (no a l) (q a l).1,(q a l).2⟩⟩
theorem Jy{t:TS}(i:Nat)(hi:ss[i]?=some (.own xs))(h:Ws (ss.set i (.is (.lst xs))) t nx R):Ws ss t nx R:=⟨λE D Z F H S k g=>by
 obtain⟨l,vs,e,e1,o,f,r⟩:=S.ok i _ hi;have one:∀a,a∈[l]->a=l:=λa h=>by simpa using h
 obtain⟨S1,d⟩:=(S.drop i).lay [l] (λa h=>by rw[one a h,f];exact⟨e1,o,by simp⟩) λa h j s b m=>by
  rw[one a h]at m
  by_cases q:j=i
  .subst q;rw[Cp (List.getElem?_eq_some_iff.mp hi).1]at b;cases b;cases m
  .rw[CJ (BG q)]at b;exact S.Bd j i s _ l q b hi m e
 have c:=S1.Gf (j:=i) (v:=.ref l) (p:=.lst xs) (.lst (by unfold Ec;rw[eM (by simp)];exact f) (r.mono d));rw[L4 e,Qd]at c;exact h.go E D Z _ H c (λCS σ2 F2 H2 n c s2=>k CS σ2 F2 H2 n c (d.trans s2)) g⟩
theorem Ff{tb:TS}(I:List PV->Nat->List Slot->Prop)(h:Wi ss wi λxs=>I xs 0 ss/\(∀(i:Nat)p A4,xs[i]?=some p->I xs i A4->Wg A4 g p λCS=>Ws CS tb (I xs (i+1)) R)/\∀A4,I xs xs.length A4->nx A4):Ws ss (VR wi g tb) nx R:=⟨λE D Z F H S u s=>
 h.go E Z F H _ S λJ xs F1 H1 k d AU=>by
  obtain⟨i0,r,hd⟩:=AU;refine⟨λi m σ' H'=>m=xs.length - i/\i<=xs.length/\∃A4 F',I xs i A4/\Sg E A4 σ' F' H'/\AF F1 F',⟨_,rfl,BN _,ss,F1,i0,k.st,AF.refl _⟩,?_⟩;rintro i m σ' H'⟨rfl,hi,A4,F',l,S',s'⟩
  by_cases f:i<xs.length
  .refine .inr ⟨d.go A4 σ' F' H' i s' S' f,λσ2 H2=>∃CS F2,I xs (i+1) CS/\Sg E CS σ2 F2 H2/\AF F1 F2,λσ2 H2 K8=>by obtain⟨CS,F2,a,b,c⟩:=K8;exact⟨_,by omega,rfl,f,CS,F2,a,b,c⟩,λx H3 y=>?_⟩;obtain⟨p,F3,t,j,o⟩:=d.D7 A4 σ' F' H' i x H3 s' S' f y;refine(r i p A4 t l).go E σ' F3 H3 x _ j.st o λv σ4 w S4=>?_;exact w.go E _ σ4 F3 H3 S4 (λRx σ5 F5 H5 q S5 n=>⟨Rx,F5,q,S5,(s'.trans j.ff).trans n⟩) s
  .have e:i=xs.length:=by omega
   subst e;exact .inl ⟨d.stop A4 σ' F' H' s' S',u A4 σ' F' H' (hd A4 l) S' (k.ff.trans s')⟩⟩
theorem Z8{tb:TS}(I:Nat->List Slot->Prop)(e:Nat)(o:I e ss)(h:∀m A4,I m A4->Wt A4 c λb=>if b=true then Ws A4 tb (λCS=>∃a,a < m/\I a CS) R else nx A4):Ws ss (S7 c tb) nx R:=⟨λE D Z F H S k j=>by
 refine⟨λm σ' H'=>∃A4 F',I m A4/\Sg E A4 σ' F' H'/\AF F F',⟨e,ss,F,o,S,AF.refl _⟩,?_⟩;rintro m σ' H'⟨A4,F',n,S',s'⟩;refine(h m A4 n).go E σ' F' H' _ S' λb F1 H1 d w=>?_;cases b with
 |true=>
  rw[eM rfl]at w;refine⟨λσ2 H2=>∃CS F2,(∃a,a < m/\I a CS)/\Sg E CS σ2 F2 H2/\AF F F2,λσ2 H2 AU=>by obtain⟨CS,F2,⟨a,l,i⟩,b,c⟩:=AU;exact⟨a,l,CS,F2,i,b,c⟩,?_⟩;exact w.go E _ σ' F1 H1 d.st (λRx σ5 F5 H5 g S5 f=>⟨Rx,F5,g,S5,(s'.trans d.ff).trans f⟩) j
 |false=>
  rw[eJ (by decide)]at w;exact k A4 σ' F1 H1 w d.st (s'.trans d.ff)⟩
end
noncomputable def Br(js:List Nat)(ss:List Slot):List Slot:=js.map λj=>(ss[j]?).getD .any
def LG(js:List Nat)(ss:List Slot):Bool:=js.all λj=>match ss[j]? with
 |some .AH=>false
 |_=>true
section
variable[Xw]
variable{K:zu}{js:List Nat}
theorem cP(h:js[i]?=some j)(e:(Br js ss)[i]?=some s):s=(ss[j]?).getD .any:=by
 unfold Br at e;rw[AM,h]at e;exact(BB e).symm
theorem Sg.A6(S:Sg E ss Z F H)(nd:js.Nodup)(r:AE F vs ps):Sg E (Br js ss++ps.map .is) (Ak js Z++vs.map some) F H:=by
 have d:(Br js ss).length=js.length:=by simp[Br]
 have f:(Ak js Z).length=js.length:=by simp[Ak]
 have k:∀(i:Nat)(hi:i<js.length),(Br js ss++ps.map .is)[i]?=some ((ss[js[i]]?).getD .any)/\(Ak js Z++vs.map some)[i]?=some ((Z[js[i]]?).join):=λi hi=>by
  rw[D5 (by rw[d];exact hi),D5 (by rw[f];exact hi)];unfold Br Ak;rw[AM,AM,AL hi];exact⟨rfl,rfl⟩
 have c:∀(i:Nat)s,js.length<=i->(Br js ss++ps.map .is)[i]?=some s->∃p v,s=.is p/\(Ak js Z++vs.map some)[i]?=some (some v)/\Rep F v p:=λi s hi e=>by
  rw[Eg (by rw[d];exact hi),d,AM]at e;rw[Eg (by rw[f];exact hi),f,AM];cases q:ps[i - js.length]? with
  |none=>rw[q]at e;cases e
  |some p=>
   rw[q]at e;obtain⟨v,h,g⟩:=r.get q;rw[h];exact⟨p,v,(BB e).symm,rfl,g⟩
 have C:∀(s:Slot)(m:Nat)(l:Addr),BK s (some (Z[m]?).join) l->BK s Z[m]? l:=λs m l o=>by
  have w:∀l,some (Z[m]?).join=some (some (V.ref l))->Z[m]?=some (some (.ref l)):=λl e=>by
   cases q:Z[m]? with
   |none=>rw[q]at e;cases e
   |some o=>rw[q]at e;cases o with
    |none=>cases e
    |some v=>simpa using e
  cases s with
  |own xs=>exact w l o
  |AH=>exact w l o
  |ow lt t=>exact o
  |_=>exact o
 have n:∀(i:Nat)s l,(Br js ss++ps.map .is)[i]?=some s->BK s (Ak js Z++vs.map some)[i]? l->∃hi:i<js.length,ss[js[i]]?=some s/\BK s Z[js[i]]? l:=λi s l e m=>by
  by_cases hi:i<js.length
  .rw[(k i hi).2]at m;refine⟨hi,?_,C s _ l m⟩;rw[(k i hi).1]at e;cases q:ss[js[i]]? with
   |none=>rw[q]at e;cases e;cases m
   |some u=>rw[q]at e;exact e
  .obtain⟨p,v,rfl,_⟩:=c i s (by omega) e;cases m
 refine⟨S.toFin,?_,λi s e=>?_,λi j s u l CG hi B ms mu=>?_⟩
 .rw[BQ,BQ,d,f,AB,AB,r.length]
 .by_cases hi:i<js.length
  .obtain⟨a,b⟩:=k i hi;rw[a]at e;rw[b];cases q:ss[js[i]]? with
   |none=>rw[q]at e;cases e;trivial
   |some u=>
    rw[q]at e;have D:u=s:=BB e;subst D;have kk:=S.ok _ _ q;cases u with
    |any=>trivial
    |is p=>obtain⟨v,e,r⟩:=kk;rw[e];exact⟨v,rfl,r⟩
    |own xs=>obtain⟨l,vs,e,r⟩:=kk;rw[e];exact⟨l,vs,rfl,r⟩
    |AH=>obtain⟨l,e,r⟩:=kk;rw[e];exact⟨l,rfl,r⟩
    |sq tp xs=>
     cases tp with
     |true=>obtain⟨v,e,r⟩:=kk;rw[e];exact⟨v,rfl,r⟩
     |false=>obtain⟨l,vs,e,r⟩:=kk;rw[e];exact⟨l,vs,rfl,r⟩
    |raw P=>obtain⟨v,e,r⟩:=kk;rw[e];exact⟨v,rfl,r⟩
    |ow lt t=>obtain⟨v,e,r⟩:=kk;rw[e];exact⟨v,rfl,r⟩
  .obtain⟨p,v,rfl,h,g⟩:=c i s (by omega) e;rw[h];exact⟨v,rfl,g⟩
 .obtain⟨I,y,A⟩:=n i s l hi ms;obtain⟨G,x,z⟩:=n j u l B mu;refine S.Bd js[i] js[j] s u l (λe=>CG ?_) y x A z;exact(yN nd).mp e
theorem Mv.out(S:Sg E ss Z F H)(np:LG js ss=true)(m:Mv E (Br js ss++ps.map .is) τ F H F' H'):Mv E ss Z F H F' H':=by
 have nn:∀a,CH (Br js ss++ps.map .is) τ a:=λa i hi _=>by
  by_cases h:i<(Br js ss).length
  .rw[D5 h]at hi;have b:i<js.length:=by simpa[Br]using h
   have q:=cP (AL b) hi;have z:=List.all_eq_true.mp np js[i] (FJ b);cases w:ss[js[i]]? with
   |none=>rw[w]at q;cases q
   |some u=>rw[w]at q z;cases q;cases z
  .rw[Eg (by omega),AM]at hi;cases w:ps[i - (Br js ss).length]? with
   |none=>rw[w]at hi;cases hi
   |some p=>rw[w]at hi;cases hi
 have hk:∀a o,H a=some o->H' a=some o:=λa o e=>m.hh a o (nn a) e;exact S.step m.ff m.st.fh (λa o _ e=>hk a o e) m.nn λi l hi e=>BU.keep (S.Ep hi e) λo e=>hk l o e
theorem Oj{k:List PV->Prop}(f:PV->Bool)(g:PV->PV)
  (h:Wi ss wi λxs=>xs.length<=100000/\(∀x∈xs,Wt (Br js ss++[.is x]) tt λb=>b=f x)/\(∀x∈xs,f x=true->Wp (Br js ss++[.is x]) te λp=>p=g x)/\k ((xs.filter f).map g))
  (nd:js.Nodup:=by decide) (np:LG js ss=true:=by rfl):Wn ss (GN wi js tt te) k:=⟨λE Z F H Q S q=>
 h.go E Z F H _ S λJ xs F1 H1 c B⟨hz,P,R,kk⟩acc Ao=>by
  have K:CH ss Z acc:=c.st.IC Ao;have σ:=c.st.Dl Ao;have Y:∀(i:Nat)s,ss[i]?=some s->¬ BK s Z[i]? acc:=λi s hi=>c.st.JD hi Ao;refine⟨λi m H2=>m=xs.length - i/\i<=xs.length/\∃F2 vs,Mv E ss Z F1 H1 F2 H2/\F2 acc=none/\H2 acc=some (.lst vs)/\AE F2 vs (((xs.take i).filter f).map g),⟨_,rfl,BN _,F1,[],c.st.make Ao _,c.st.Be Ao,AV,.nil⟩,?_⟩;rintro i m H2⟨rfl,hi,F2,vs,m2,I,v,r⟩
  by_cases l:i<xs.length
  .refine .inr ⟨B.go ss Z F2 H2 i m2.ff m2.st l,λx H3 y=>?_⟩;obtain⟨p,F3,D,t,G⟩:=B.D7 ss Z F2 H2 i x H3 m2.ff m2.st l y;have N:p∈xs:=BL D;have Ee:(xs.take (i+1))=xs.take i++[p]:=by
    have V:xs[i]=p:=by rw[AL l]at D;exact BB D
    rw[JA l,V]
   have e1:List.filter f (xs.take (i+1))=(xs.take i).filter f++(if f p=true then[p]else[]):=by
    rw[Ee,QR];congr 1
    by_cases d:f p=true <;> simp[d]
   have L:∀{F4:Hp},(∀a o,F4 a=some o->F2 a=some o∨H2 a=none)->F4 acc=none:=λ{F4}n=>by
    cases e:F4 acc with
    |none=>rfl
    |some o=>
     rcases n acc o e with w|w
     .rw[I]at w;cases w
     .rw[v]at w;cases w
   have X:=t.st.A6 (js:=js) nd (.one G);refine(P p N).go E _ F3 H3 _ X λb F4 H4 C T=>?_;have j:=t.trans (C.out (ps:=[p]) t.st np);show if b=true then _ else _
   rw[T]
   by_cases d:f p=true
   .rw[eM d];have W:=j.st.A6 (js:=js) nd (.one (G.mono (C.out (ps:=[p]) t.st np).ff));refine(R p N d).go E _ F4 H4 _ W λw pw F5 H5 O Hf U=>?_;have zI:=C.out (ps:=[p]) t.st np;have Jl:=O.out (ps:=[p]) j.st np;have z:=j.trans Jl;have JE:=z.hh acc _ K v;have M:=L z.nn;have u:vs.length<=99999:=by
     rw[r.length,AB];have:=Vo f (xs.take i);rw[Fi]at this;omega
    refine⟨vs,JE,JI u,xs.length - (i+1),by omega,rfl,l,F5,vs++[w],?_,M,AV,?_⟩
    .have A:=m2.trans z;refine⟨A.st.Ka M (.inl σ) Y,A.ff,λa o n e=>?_,A.nn⟩;rw[AN (DE e Ao)];exact A.hh a o n e
    .rw[e1,eM d,Cw];rw[U]at Hf;exact(r.mono z.ff).append (.one Hf)
   .have Jk:f p=false:=by simpa using d
    rw[Jk,eJ (by decide)];refine⟨xs.length - (i+1),by omega,rfl,l,F4,vs,m2.trans j,L j.nn,j.hh acc _ K v,?_⟩;rw[e1,eJ d,Ef];exact r.mono j.ff
  .have e:i=xs.length:=by omega
   subst e;refine .inl ⟨B.stop ss Z F2 H2 m2.ff m2.st,q acc vs _ F2 H2 (c.trans m2) I (c.none Ao) v ?_ kk⟩;rw[Eh]at r;exact r⟩
end
abbrev Pre:=List Slot->Ac->Prop
def B3(pre:Pre):Sp:=λvs H Q _=>∃(ss:List Slot)(R:Ac)(F:Hp)(A:List Addr),pre ss R/\Sg (E3 A F H) ss (vs.map some) F H/\∀v F' H',Fin (E3 A F H) F' H'->R.ok (E3 A F H) F' H' v->Q v H'
section
variable[Xw]
variable{pre:Pre}{k:PV->Prop}
theorem GV.at{l:List Slot}(h:GV ss Z F H vs l):∀{i:Nat}{s:Slot},l[i]?=some s->∃v,vs[i]?=some v/\Av ss Z F H v s:=by
 induction h with
 |nil=>intro i s e;simp at e
 |cons a _ b=>
  intro i s e;cases i with
  |zero=>simp at e;subst e;exact⟨_,rfl,a⟩
  |succ i=>exact b (by simpa using e)
theorem GV.len{l:List Slot}(h:GV ss Z F H vs l):l.length=vs.length:=by
 induction h with
 |nil=>rfl
 |cons a _ b=>rw[Am,Am,b]
theorem Av.ok(S:Sg E ss Z F H)(a:Av ss Z F H v s)(b:∀l,CH ss Z l->l∉A):Ok (E3 A F H) F H s (some (some v))/\∀o l,¬ BK s o l:=by
 cases s with
 |is p=>exact⟨⟨v,rfl,a⟩,λ_ _ z=>z⟩
 |sq tp xs=>
  cases tp with
  |true=>exact⟨⟨v,rfl,a⟩,λ_ _ z=>z⟩
  |false=>obtain⟨l,vs,rfl,n,h,r⟩:=a;exact⟨⟨l,vs,rfl,⟨b l n,BZ⟩,h,r⟩,λ_ _ z=>z⟩
 |raw P=>exact⟨⟨v,rfl,a⟩,λ_ _ z=>z⟩
 |any=>exact a.elim
 |own xs=>exact a.elim
 |AH=>exact a.elim
 |ow lt t=>exact a.elim
theorem Sg.YX(S:Sg E ss Z F H){l:List Slot}(a:GV ss Z F H vs l):Sg (E3 [] F H) l (vs.map some) F H:=by
 have nn:∀{p:Prop}(a:Addr),a∈([]:List Addr)->p:=λa h=>absurd h BZ;refine⟨⟨S.fh,AF.refl _,λ_ _ _ e=>e,λ_ _ e=>.inl e,λa h=>nn a h,λa h=>nn a h,λa h=>nn a h,λa h=>nn a h,λa h=>nn a h,λa h=>nn a h⟩,by rw[AB];exact a.len,λi s hi=>?_,λi j s u l CG hi c ms mu=>?_⟩
 .obtain⟨v,b,q⟩:=a.at hi;rw[AM,b];exact(q.ok S λ_ _ h=>absurd h BZ).1
 .obtain⟨v,b,q⟩:=a.at hi;exact(q.ok S (A:=[]) λ_ _ h=>absurd h BZ).2 _ _ ms
theorem Sg.ja(S:Sg E ss Z F H){p:Addr}(hi:ss[i0]?=some .AH)(e:Z[i0]?=some (some (.ref p))){l:List Slot}(a:GV ss Z F H vs l):Sg (E3 [p] F H) (.AH::l) ((V.ref p::vs).map some) F H:=by
 obtain⟨r,g,fp,_,b⟩:=S.ok i0 _ hi;rw[e]at g;cases g;have f:∀l,CH ss Z l->l∉[p]:=λl n h=>by
  have:l=p:=by simpa using h
  subst this;exact n i0 hi e
 have one:∀a,a∈[p]->a=p:=λa h=>by simpa using h
 have nn:∀{p:Prop}(a:Addr),a∈([]:List Addr)->p:=λa h=>absurd h BZ;refine⟨⟨S.fh,AF.refl _,λ_ _ _ e=>e,λ_ _ e=>.inl e,λa h=>(one a h)▸b,λa h=>(one a h)▸fp,λa h=>?_,λa h=>nn a h,λa h=>nn a h,λa h=>nn a h⟩,by rw[AB,Am,Am];rw[a.len],λi s hi=>?_,λi j s u c CG hi k ms mu=>?_⟩
 .rw[one a h];obtain⟨_,_,q,_⟩:=b;show H p≠none;rw[q];simp
 .cases i with
  |zero=>simp at hi;subst hi;exact⟨p,rfl,fp,.inr (by simp),b⟩
  |succ i=>
   obtain⟨v,d,q⟩:=a.at (i:=i) (s:=s) (by simpa using hi)
   have:((V.ref p::vs).map some)[i+1]?=some (some v):=by rw[Ce,List.getElem?_cons_succ,AM,d];rfl
   rw[this];exact(q.ok S f).1
 .have z:∀(i:Nat)s o c,(Slot.AH::l)[i]?=some s->BK s o c->i=0:=λi s o c h m=>by
   cases i with
   |zero=>rfl
   |succ i=>
    obtain⟨v,d,q⟩:=a.at (i:=i) (s:=s) (by simpa using h)
    exact((q.ok S f).2 _ _ m).elim
  exact absurd ((z i s _ _ hi ms).trans (z j u _ _ k mu).symm) CG
theorem Sg.back(S:Sg E ss Z F H)(d:∀a,a∈A->∃i:Nat,ss[i]?=some .AH/\Z[i]?=some (some (.ref a)))(f:Fin (E3 A F H) F' H'):Mv E ss Z F H F' H':=by
 refine S.step f.f0 f.fh (λa o n e=>f.keep a o ⟨λh=>?_,BZ⟩ e) f.fresh λi l hi e=>?_
 .obtain⟨i,c,b⟩:=d a h;exact n i c b
 .by_cases q:l∈A
  .exact f.DX l q
  .exact BU.keep (S.Ep hi e) λo e=>f.keep l o ⟨q,BZ⟩ e
theorem wp_call(h:Wa ss t λl=>∃k',pre l (.is k')/\∀p,k' p->k p):Wp ss (Dy (B3 pre) [] E0 t) k:=⟨λE Z F H Q S q=>
 h.go E Z F H _ S λvs l F1 H1 b a⟨k',c,kk⟩=>by
  rw[Ef];refine⟨l,.is k',F1,[],c,b.st.YX a,λv F' H' f⟨p,r,kp⟩=>?_⟩;exact q v p F' H' (b.trans (b.st.back (λ_ h=>absurd h BZ) f)) r (kk p kp)⟩
theorem L8{k:List PV->Prop}(h:Wa ss t λl=>∃k',pre l (.new k')/\∀xs,k' xs->k xs):Wn ss (Dy (B3 pre) [] E0 t) k:=⟨λE Z F H Q S q=>
 h.go E Z F H _ S λvs l F1 H1 b a⟨k',d,kk⟩=>by
  rw[Ef];refine⟨l,.new k',F1,[],d,b.st.YX a,λv F' H' f⟨l,vs,xs,e,i,g,Ds,r,c⟩=>?_⟩;subst e;exact q l vs xs F' H' (b.trans (b.st.back (λ_ h=>absurd h BZ) f)) i (b.none g) Ds r (kk xs c)⟩
theorem pL{k:List PV->Prop}(hi:ss[i]?=some .AH)(h:Wa ss t λl=>∃k',pre (.AH::l) (.new k')/\∀xs,k' xs->k xs):Wn ss (Dy (B3 pre) [] E0 (Ah (BE i) t)) k:=⟨λE Z F H Q S q=>by
 obtain⟨p,e,_⟩:=S.ok i _ hi;refine⟨_,e,h.go E Z F H _ S λvs l F1 H1 b a⟨k',d,kk⟩=>?_⟩;show B3 pre ((V.ref p::vs)++[]) H1 Q E0;rw[Ef];refine⟨.AH::l,.new k',F1,[p],d,b.st.ja hi e a,λv F' H' f⟨l,vs,xs,m,j,g,Ds,r,c⟩=>?_⟩;subst m;exact q l vs xs F' H' (b.trans (b.st.back (A:=[p]) (λa h=>⟨i,hi,(show a=p from by simpa using h)▸e⟩) f)) j (b.none g) Ds r (kk xs c)⟩
theorem Sg.grown(S:Sg E ss Z F H)(n:Nat):Sg E (ss++List.replicate n .any) (Z++List.replicate n none) F H:=by
 have f:∀(i:Nat)s,(ss++List.replicate n .any)[i]?=some s->s≠.any->ss[i]?=some s/\(Z++List.replicate n none)[i]?=Z[i]?:=λi s e k=>by
  by_cases h:i<ss.length
  .rw[D5 h]at e;rw[D5 (by rw[<- S.len];exact h)];exact⟨e,rfl⟩
  .rw[Eg (by omega),da]at e;split at e
   .exact absurd (BB e).symm k
   .cases e
 refine⟨S.toFin,by simp[S.len],λi s e=>?_,λi j s u l CG hi m ms mu=>?_⟩
 .cases s with
  |any=>trivial
  |_=>obtain⟨a,b⟩:=f i _ e (by simp);rw[b];exact S.ok i _ a
 .have ns:s≠.any:=by rintro rfl;cases ms
  have g:u≠.any:=by rintro rfl;cases mu
  obtain⟨a,b⟩:=f i s hi ns;obtain⟨c,d⟩:=f j u m g;rw[b]at ms;rw[d]at mu;exact S.Bd i j s u l CG a c ms mu
end
section
variable{pre:Pre}{k:PV->Prop}
noncomputable def SU(E:Ent0):Ent:=⟨E,λ_ _ _ _ _ _ _ _ _ d=>d.elim⟩
theorem Yq{N:List Str}{n:Nat}{t:TS}(h:B3 pre vs H Q X)(c:∀ss R,pre ss R->ss.length=n)
  (hw:∀ss R,pre ss R->Ws (ss++List.replicate (N.length - n) .any) t (λ_=>∃k,R=.is k/\k .A7) R):t { nx:=λ_ H'=>Q .A7 H',rt:=Q } (L2.start N vs) H:=by
 obtain⟨ss,R,F,A,a,S,q⟩:=h;have e:vs.length=n:=by have:=S.len;rw[AB]at this;rw[<- this];exact c ss R a
 unfold L2.start;rw[e];refine(hw ss R a).go (SU (E3 A F H)) _ _ F H (S.grown _) (λA4 σ' F' H'⟨k,e,b⟩S' _=>?_) λv F' H' f ok=>q v F' H' f ok;subst e;exact q .A7 F' H' S'.toFin ⟨.A7,.A7,b⟩
theorem XO{n:Nat}(b:∀ss R,pre ss R->ss.length=n)(h:B3 pre vs H Q X):vs.length=n:=by
 obtain⟨ss,R,F,A,a,S,q⟩:=h;have:=S.len;rw[AB]at this;rw[<- this];exact b ss R a
end
end Fz
namespace L2
section
variable{X:Cx}
def YH(K:zu):R2:=λx y H Q=>∃p q xs,x=.ref p/\y=.ref q/\AI K H p xs/\AI K H q []/\Q (.bl (!decide (xs=[]))) H
theorem Ob(a:X.A.units<cLine):BA X (compareOp .NotEq) (YH X.K):=by
 intro Zj s Z H x y v u Q I f e h;obtain⟨p,q,xs,rfl,rfl,c,b,d⟩:=h;cases f;cases e;obtain⟨A0,i,p1,l⟩:=I.list c;obtain⟨BW,g,p2,k⟩:=I.list b;have l1:=i.length;have l2:=g.length;cases xs with
 |nil=>exact OT a Zj s Z H _ _ _ _ Q I (show RelV (.ref p) (.ref p)from rfl) (show RelV (.ref q) (.ref q)from rfl) ⟨p,q,[],[],rfl,rfl,.inl ⟨c,b⟩,rfl,rfl,d⟩
 |cons y ys=>
  have j:(A0.toArray.size != BW.toArray.size)=true:=by simp only[Bp,<- l1,<- l2];simp
  exact z4 p1.isList p2.isList j a _ _ _ _ ⟨.bl true,H,I,rfl,d⟩
end
end L2
namespace Lw
open L2
variable{acc l ns ss:List Str}{g j:Int}{r:Str}
theorem Lm:∀l:List Nat,¬ l<l
 | [],h=>by simp at h
 |a::r,h=>by
  rw[Vk]at h;rcases h with h|⟨_,h⟩
  .omega
  .exact Lm r h
theorem TR:∀{a b c:List Nat},a<b->b<c->a<c
 |_,[],_,h,_=>by simp at h
 |_,_::_,[],_,h=>by simp at h
 | [],_::_,_::_,_,_=>by simp
 |a::r,b::s,c::t,h,h'=>by
  rw[Vk]at h h' ⊢;rcases h with h|⟨rfl,h⟩
  .rcases h' with h'|⟨rfl,h'⟩
   .left;omega
   .left;exact h
  .rcases h' with h'|⟨rfl,h'⟩
   .left;exact h'
   .right;exact⟨rfl,TR h h'⟩
theorem YV:∀a b:List Nat,a<b∨a=b∨b<a
 | [],[]=>.inr (.inl rfl)
 | [],_::_=>.inl (by simp)
 |_::_,[]=>.inr (.inr (by simp))
 |a::r,b::s=>by
  rw[Vk,Vk];rcases yh a b with h|rfl|h
  .exact .inl (.inl h)
  .rcases YV r s with h|rfl|h
   .exact .inl (.inr ⟨rfl,h⟩)
   .exact .inr (.inl rfl)
   .exact .inr (.inr (.inr ⟨rfl,h⟩))
  .exact .inr (.inr (.inl h))
abbrev IV(a b:Str):Prop:=a.cps.toList<b.cps.toList
theorem YC(a b:Str):IV a b∨a=b∨IV b a:=by
 rcases YV a.cps.toList b.cps.toList with h|h|h
 .exact .inl h
 .exact .inr (.inl (vw h))
 .exact .inr (.inr h)
abbrev Up(ss:List Str):Prop:=ss.Pairwise IV
theorem OQ(h:Up ss):ss.Nodup:=by
 refine y9 (λ{a b}(BX:IV a b)(e:a=b)=>?_) h;subst e;exact Lm _ BX
theorem X1:∀(l:List Str)(p:Str),risingS p l=true->(∀x∈l,¬ IV x p)/\l.Pairwise λa b=>¬ IV b a
 | [],p,_=>⟨λx hx=>absurd hx (by simp),.nil⟩
 |y::r,p,h=>by
  have h1:(!ltCps y.cps.toList p.cps.toList && risingS y r)=true:=h;rw[Cn,ltCps_eq]at h1;have c:¬ IV y p:=by
   intro z;rw[eV z]at h1;exact absurd h1.1 (by decide)
  obtain⟨h2,d⟩:=X1 r y h1.2;refine⟨λx hx=>?_,List.pairwise_cons.mpr ⟨λx hx=>h2 x hx,d⟩⟩;rcases List.mem_cons.mp hx with rfl|hx
  .exact c
  .intro z;rcases YC y p with q|q|q
   .exact c q
   .exact h2 x hx (q▸z)
   .exact h2 x hx (TR z q)
theorem lV(h:sortedS l=true):l.Pairwise λa b=>¬ IV b a:=by
 cases l with
 |nil=>exact .nil
 |cons x r=>
  obtain⟨h1,h2⟩:=X1 r x h;exact List.pairwise_cons.mpr ⟨h1,h2⟩
theorem cE(h:sortedS l=true)(nd:l.Nodup):Up l:=by
 have w:=lV h;have q:=List.Pairwise.and w nd;refine q.imp λ{a b}BX=>?_;rcases YC a b with z|z|z
 .exact z
 .exact absurd z BX.2
 .exact absurd z BX.1
theorem RP:∀{as bs:List Str},Up as->Up bs->(∀x,x∈as↔x∈bs)->as=bs
 | [],[],_,_,_=>rfl
 | [],b::bs,_,_,h=>absurd ((h b).mpr Ae) (by simp)
 |a::as,[],_,_,h=>absurd ((h a).mp Ae) (by simp)
 |a::as,b::bs,ha,hb,h=>by
  obtain⟨a1,a2⟩:=List.pairwise_cons.mp ha;obtain⟨c,d⟩:=List.pairwise_cons.mp hb;have e:a=b:=by
   rcases List.mem_cons.mp ((h a).mp Ae)with z|z
   .exact z
   .rcases List.mem_cons.mp ((h b).mpr Ae)with y|y
    .exact y.symm
    .exact absurd (TR (a1 b y) (c a z)) (Lm _)
  subst e
  congr 1
  refine RP a2 d λx=>⟨λhx=>?_,λhx=>?_⟩
  .rcases List.mem_cons.mp ((h x).mp (Au _ hx))with z|z
   .exact absurd (z▸a1 x hx) (Lm _)
   .exact z
  .rcases List.mem_cons.mp ((h x).mpr (Au _ hx))with z|z
   .exact absurd (z▸c x hx) (Lm _)
   .exact z
theorem RI:∀{as bs:List Str},as.Nodup->(∀x∈as,x∈bs)->as.length<=bs.length
 | [],_,_,_=>BN _
 |a::as,bs,nd,h=>by
  obtain⟨h1,h2⟩:=List.nodup_cons.mp nd;have b:=h a Ae;have q:=RI (bs:=bs.erase a) h2 λx hx=>(NG (λe:x=a=>h1 (by rw[<- e];exact hx))).mpr (h x (Au _ hx));have e:=J8 b;have p:=QX b;simp only[Am];omega
theorem cR:∀{as bs:List Str},as.Nodup->(∀x∈as,x∈bs)->bs.length=as.length->bs.Nodup
 | [],bs,_,_,hl=>by
  have e:bs=[]:=List.length_eq_zero_iff.mp (by simpa using hl)
  rw[e];exact GC
 |a::as,bs,nd,h,hl=>by
  obtain⟨h1,h2⟩:=List.nodup_cons.mp nd;have b:=h a Ae;have d:bs.length=as.length+1:=by simpa using hl
  have sub:∀x∈as,x∈bs.erase a:=λx hx=>(NG (λe:x=a=>h1 (by rw[<- e];exact hx))).mpr (h x (Au _ hx));have e:=J8 b;have q:=cR (bs:=bs.erase a) h2 sub (by omega);have p:=List.perm_cons_erase b;rw[p.nodup_iff,List.nodup_cons];refine⟨λc=>?_,q⟩;have r:=RI (as:=a::as) (bs:=bs.erase a) nd λx hx=>by
   rcases List.mem_cons.mp hx with rfl|hx
   .exact c
   .exact sub x hx
  simp only[Am]at r;omega
theorem t8{x k:Str}:k∈EF acc x↔k∈acc∨k=x:=by
 unfold EF
 by_cases h:acc.any (· == x)=true
 .rw[eM h];refine⟨.inl,λq=>q.elim id λe=>?_⟩;obtain⟨y,a,b⟩:=List.any_eq_true.mp h;have:y=x:=by simpa using b
  rw[e,<- this];exact a
 .rw[eJ h];simp
theorem VT:∀(l acc:List Str),acc.Nodup->(l.foldl EF acc).Nodup/\∀k,k∈l.foldl EF acc↔k∈acc∨k∈l
 | [],acc,h=>⟨h,λk=>by simp⟩
 |x::r,acc,h=>by
  have a:(EF acc x).Nodup:=by
   unfold EF
   by_cases c:acc.any (· == x)=true
   .rw[eM c];exact h
   .rw[eJ c];exact Qn h λb=>c (List.any_eq_true.mpr ⟨x,b,by simp⟩)
  obtain⟨h1,h2⟩:=VT r (EF acc x) a;refine⟨h1,λk=>?_⟩;rw[LL,h2 k,t8,De,or_assoc]
theorem Oc(ss:List Str):(dd ss).Nodup:=(VT ss [] GC).1
theorem JN(ss:List Str)(k:Str):k∈dd ss↔k∈ss:=by
 have q:=(VT ss [] GC).2 k;refine(show(k∈dd ss↔_)from q).trans ⟨λz=>z.elim (λy=>absurd y (by simp)) id,.inr⟩
theorem Y0(l:List Str)(k:Str):l.any (· == k)=true↔k∈l:=by
 rw[KJ];exact⟨λ⟨y,a,e⟩=>by
   have:y=k:=by simpa using e
   rw[<- this];exact a,λh=>⟨k,h,by simp⟩⟩
theorem xi{a:List Str}(e:a.length=(dd ss).length)(c:∀k,(dd ss).any (· == k)=true↔k∈a)(d:sortedS a=true):(ss=a)↔Up ss:=by
 have nd:a.Nodup:=cR (Oc ss) (λx hx=>(c x).mp ((Y0 _ _).mpr hx)) e;have b:=cE d nd;constructor
 .rintro rfl;exact b
 .intro us;exact RP us b λx=>by rw[<- c x,Y0,JN]
theorem p6:∀(as bs:List Str),EA (as.map V.str) (bs.map V.str)=decide (as=bs):=by
 intro as bs
 by_cases a:as.length=bs.length
 .rw[IS (by simpa using a),Hk,FI,uI]
  constructor
  .intro h;refine QP a λi h1 h2=>?_;have q:=h i (by simpa using h1)
   have e1:(as.map V.str)[i]?=some (.str as[i]):=by rw[AM,AL h1];rfl
   have c:(bs.map V.str)[i]?=some (.str bs[i]):=by rw[AM,AL h2];rfl
   rw[Fp e1,Fp c]at q;have b:(as[i] == bs[i])=true:=q
   simpa using b
  .rintro rfl i hi;have h1:i<as.length:=by simpa using hi
   have e1:(as.map V.str)[i]?=some (.str as[i]):=by rw[AM,AL h1];rfl
   rw[Fp e1];show(as[i] == as[i])=true;simp
 .rw[II (by simpa using a),fD]
  rintro rfl;exact a rfl
noncomputable def FZ:List Str:=["none","ahead","all"]
noncomputable def Hs(ss:List Str):Bool:=decide (Up ss)
def Ij(ns ss:List Str):Bool:=ss.all λx=>decide (x∈ns)
noncomputable def JF(n:Nat)(g:Int):Bool:=decide (0<=g) && decide (g<=(n:Int))
def Ei(ns:List Str)(r:Str)(g:Int)(ss:List Str):Bool:=decide (r∈FZ) && (JF ns.length g && (Hs ss && Ij ns ss))
def cZ(K:zu):Sp:=λvs H Q _=>∃(a:Addr)(tp:Bool)(ns:List Str)(g:Int),vs=[.ref a,.int g]/\CA K tp H a (ns.map V.str)/\Q (.bl (JF ns.length g)) H
def bg(K:zu):Sp:=λvs H Q _=>∃(a:Addr)(tp:Bool)(ns:List Str)(c:Addr)(ss:List Str),vs=[.ref a,.ref c]/\CA K tp H a (ns.map V.str)/\Ag K H c (ss.map V.str)/\ss.length<64/\∀H',AF H H'->Q (.bl (Hs ss && Ij ns ss)) H'
def LoopAt(K:zu)(H:Hp)(t:Addr)(r:Str)(g:Int)(ss:List Str):Prop:=∃c,Ag K H t [.str r,.int g,.ref c]/\Ag K H c (ss.map V.str)
def bI(K:zu):Sp:=λvs H Q _=>∃(a:Addr)(tp:Bool)(ns:List Str)(t:Addr)(r:Str)(g:Int)(ss:List Str),vs=[.ref a,.ref t]/\CA K tp H a (ns.map V.str)/\LoopAt K H t r g ss/\ss.length<64/\∀H',AF H H'->Q (.bl (Ei ns r g ss)) H'
def rZ(p:Addr)(H:Hp)(Q:VK)(W:Str->Int->List Str->Prop):Prop:=∀t c r g ss H',H t=none->H c=none->Az p H H'->H' t=some (.tup [.str r,.int g,.ref c])->H' c=some (.tup (ss.map V.str))->W r g ss->Q (.ref t) H'
def Sa:Sp:=λvs H Q _=>∃(p q:Addr)(ns:List Str),vs=[.ref p,.ref q]/\BU H p/\H q=some (.lst (ns.map V.str))/\q≠p/\ns.length<=40/\ns.Nodup/\
 rZ p H Q λr g ss=>r∈FZ/\0<=g/\g<=(ns.length:Int)/\Up ss/\(∀x∈ss,x∈ns)/\ss.length<=40
theorem hZ(ns ss:List Str):((ss.map V.str).filter λ_=>true).map (λv=>V.bl (Il v (ns.map V.str)))=(ss.map λx=>decide (x∈ns)).map V.bl:=by
 rw[iR,Cq,Cq];refine df λx _=>?_;show V.bl _=V.bl _;rw[Nh]
theorem fP{i:Nat}{v:V}(h:(ss.map V.str)[i]?=some v):∃x,v=.str x/\ss[i]?=some x:=by
 rw[AM]at h;cases q:ss[i]? with
 |none=>rw[q]at h;cases h
 |some x=>rw[q]at h;simp at h;exact⟨x,h.symm,rfl⟩
theorem cV(c:0<=j)(h1:j<3):∃r,BM (FZ.map V.str) j=some (.str r)/\r∈FZ:=by
 obtain⟨x,a,b,_⟩:=Tt (ns:=FZ) c h1;exact⟨x,a,b⟩
def Sl(H:Hp)(t:Addr)(r:Str)(g:Int)(ss:List Str):Prop:=∃c,H t=some (.tup [.str r,.int g,.ref c])/\H c=some (.tup (ss.map V.str))
theorem Sl.at{H:Hp}{K:zu}{t:Addr}(h:Sl H t r g ss):LoopAt K H t r g ss:=by
 obtain⟨c,a,b⟩:=h;exact⟨c,Ag.of a,Ag.of b⟩
structure CF (ns:List Str) (r:Str) (g:Int) (ss:List Str):Prop where
 rule:r∈FZ
 g0:0<=g
 g1:g<=(ns.length:Int)
 up:Up ss
 sub:∀x∈ss,x∈ns
theorem CF.Ei(h:CF ns r g ss):Ei ns r g ss=true:=by
 unfold Lw.Ei JF Hs Ij;rw[eV h.rule,eV h.g0,eV h.g1,eV h.up,LJ,LJ,LJ,LJ,FI];intro x hx;exact eV (h.sub x hx)
def TF(K:zu):Sp:=λvs H Q _=>∃(a:Addr)(tp:Bool)(ns:List Str)(t:Addr)(r:Str)(g:Int)(ss:List Str),vs=[.ref a,.ref t]/\CA K tp H a (ns.map V.str)/\LoopAt K H t r g ss/\ss.length<64/\Ei ns r g ss=true/\∀H',AF H H'->Q .A7 H'
end Lw
namespace Lw
open L2
theorem CF.len{ns:List Str}{r:Str}{g:Int}{ss:List Str}(h:CF ns r g ss):ss.length<=ns.length:=RI (OQ h.up) h.sub
end Lw
namespace L2
variable{H H2:Hp}{s s2:Shared}{outer scope:Scope}{C acc it:Addr}{N:List Str}{wi:TI}
structure Hq (N:List Str) (outer scope:Scope) (x z:Str) (A6:List Str) (js:List Nat):Prop where
 kind:scope.kind=.function
 G1:∀y∈scope.names,y.2≠.cell
 loc:∀y∈scope.names,y.2=.local->scope.names.lookup y.1=some .local
 Gb:scope.names.lookup x=some .local
 vz:scope.names.lookup z=some .local
 at':js.map (λj=>N[j]?)=A6.map some
 cell:∀y∈A6,outer.names.lookup y=some .cell
 free:∀y∈A6,scope.names.lookup y=some .free
 all:∀y∈scope.names,y.2=.free->outer.names.lookup y.1=some .cell
 nd:(A6++[x,z]).Nodup
def YN(K:zu)(J:It)(js:List Nat)(te:TE)(Z:St)(H1:Hp)(acc:Addr)(Q:VK):Prop:=
 ∃W:Nat->Nat->Hp->Prop,(∃m,W 0 m (upd H1 acc (.lst [])))/\∀i m H2,W i m H2->
  (J.stop i H2/\Q (.ref acc) H2)∨(J.go i H2/\∀x H3,J.D7 i H2 x H3->∃a u v,x=.ref a/\Ag K H3 a [u,v]/\te (Ak js Z++[some u,some v]) H3 λy H5=>∃ys,H5 acc=some (.lst ys)/\ys.length<sizeLine/\∃b,b < m/\W (i+1) b (upd H5 acc (.lst (ys++[y]))))
def Px(K:zu)(wi:TI)(js:List Nat)(te:TE):TE:=λZ H Q=>wi Z H λJ H1=>∀acc,H1 acc=none->YN K J js te Z H1 acc Q
section
variable{X:Cx}{Zj:zv}{Z:St}{elt iter:Expr}{x z:Str}{px pz tp pos:Pos}{tk:Nat}{A6:List Str}{js:List Nat}{te:TE}{J:It}{fp:List Addr}{tn:Nat->Heap->Prop}
theorem Hq.G(S:Hq N outer scope x z A6 js):D0 N outer scope none [x,z] A6 js:=.WV S.kind S.G1 S.loc S.at' S.cell S.free S.all S.nd
theorem Hq.pg{cl:List (Str×Addr)}(b:X.calm=true)(S:Hq X.N X.env.scope scope x z A6 js):PG (ED X (A6++[x,z]) scope none cl C s H fp) (.Tuple [.Name x px,.Name z pz] tk tp) (Io X.K 2 (Hw A6.length 2)):=
 xR b S.G (λy a=>by rcases List.mem_cons.mp a with rfl|a;exact S.Gb;rw[List.mem_singleton.mp a];exact S.vz) (.cons (.cons .nil)) (λ_=>rfl) (λ_=>rfl)
theorem uz{W:Nat->Nat->Hp->Prop}{i m:Nat}(q:te Z H λy H5=>∃ys,H5 acc=some (.lst ys)/\ys.length<sizeLine/\∃a,a < m/\W (i+1) a (upd H5 acc (.lst (ys++[y])))):Mp La te acc W i m Z H:=by
 show(if true=true then(te Z H λy H5=>∃ys,H5 acc=some (.lst ys)/\ys.length<sizeLine/\∃a,a < m/\W (i+1) a (upd H5 acc (.lst (ys++[y]))))else ∃a,a < m/\W (i+1) a H)
 rw[eM rfl];exact q
theorem x6{K:zu}{tt:TT}(S:Hq N outer scope x z A6 js)(J:It)(Z:St)(H1:Hp)(acc:Addr)(Q:VK)
  (h:∃W:Nat->Nat->Hp->Prop,(∃m,W 0 m (upd H1 acc (.lst [])))/\∀i m H2,W i m H2->
   (J.stop i H2/\Q (.ref acc) H2)∨(J.go i H2/\∀x H3,J.D7 i H2 x H3->∃a u v,x=.ref a/\Ag K H3 a [u,v]/\Mp tt te acc W i m (Ak js Z++[some u,some v]) H3)):KO (Io K 2 (Hw A6.length 2)) 2 J js tt te Z H1 acc Q:=by
 obtain⟨W,c,h⟩:=h;refine iA S.G J Z H1 acc Q ⟨W,c,λi m H2 w=>(h i m H2 w).imp id λz=>⟨z.1,λx H3 y=>?_⟩⟩;obtain⟨a,u,v,e,b,q⟩:=z.2 x H3 y;exact⟨a,[u,v],e,b,rfl,q⟩
theorem ij(c:X.calm=true)(S:Hq X.N X.env.scope scope x z A6 js)(hi:PI X (.Tuple [.Name x px,.Name z pz] tk tp) iter wi)
  (Ct:∀fp C s H,PE (FP X (A6++[x,z]) scope (BC X.env.cells scope.names) C s H fp) elt te)
  (b:∀v,foldedSetIterable iter X.env v=pure v:=by intro _;rfl):PE X (.ListComp elt [⟨.Tuple [.Name x px,.Name z pz] tk tp,iter,[],0⟩] scope pos) (Px X.K wi js te):=
 T6 (CW:=λJ Z H1 acc Q=>YN X.K J js te Z H1 acc Q) (tt:=La) (λJ Z H1 acc Q⟨W,d,h⟩=>x6 S J Z H1 acc Q ⟨W,d,λi m H2 w=>(h i m H2 w).imp id λz=>⟨z.1,λx H3 y=>by
  obtain⟨a,u,v,e,b,q⟩:=z.2 x H3 y;exact⟨a,u,v,e,b,uz q⟩⟩⟩) c S.G hi (λ_ _ _ _=>S.pg c) (λ_ _ _ _=>Xb) Ct b
theorem wy(b:X.calm=true)(S:Hq X.N X.env.scope scope x z A6 js)(hi:QI X (.Tuple [.Name x px,.Name z pz] tk tp) iter wi)(Ct:∀fp C s H,QE (FP X (A6++[x,z]) scope (BC X.env.cells scope.names) C s H fp) elt te)
  (a:∀v,foldedSetIterable iter X.env v=pure v:=by intro _;rfl):QE X (.ListComp elt [⟨.Tuple [.Name x px,.Name z pz] tk tp,iter,[],0⟩] scope pos) (Px X.K wi js te):=⟨ij b S hi.h (λfp C s H=>(Ct fp C s H).h) a⟩
end
end L2
namespace Fz
open L2 Lw
variable{E:Ent0}{ss:List Slot}{Z:L2.St}{F F' H H':Hp}{js:List Nat}{ta tb te:TE}{nx:List Slot->Prop}{R:Ac}{wi:TI}{i:Nat}{α:Type}{xs:List PV}
section
variable[Xw]
variable{K:zu}{k:PV->Prop}
theorem cD{k:List PV->Prop}(g:PV->PV)
  (h:Wi ss wi λxs=>xs.length<=100000/\(∀x∈xs,∃a b,x=.tup [a,b]/\Wp (Br js ss++[.is a,.is b]) te λp=>p=g x)/\k (xs.map g))
  (nd:js.Nodup:=by decide) (np:LG js ss=true:=by rfl):Wn ss (Px K wi js te) k:=⟨λE Z F H Q S q=>
 h.go E Z F H _ S λJ xs F1 H1 c v⟨hz,M,kk⟩acc Ao=>by
  have W:CH ss Z acc:=c.st.IC Ao;have T:=c.st.Dl Ao;have R:∀(i:Nat)s,ss[i]?=some s->¬ BK s Z[i]? acc:=λi s hi=>c.st.JD hi Ao;refine⟨λi m H2=>m=xs.length - i/\i<=xs.length/\∃F2 vs,Mv E ss Z F1 H1 F2 H2/\F2 acc=none/\H2 acc=some (.lst vs)/\AE F2 vs ((xs.take i).map g),⟨_,rfl,BN _,F1,[],c.st.make Ao _,c.st.Be Ao,AV,.nil⟩,?_⟩;rintro i m H2⟨rfl,hi,F2,vs,m2,C,A,j⟩
  by_cases f:i<xs.length
  .refine .inr ⟨v.go ss Z F2 H2 i m2.ff m2.st f,λx H3 y=>?_⟩;obtain⟨p,F3,z,l,B⟩:=v.D7 ss Z F2 H2 i x H3 m2.ff m2.st f y;have σ:p∈xs:=BL z;have Y:(xs.take (i+1))=xs.take i++[p]:=by
    have O:xs[i]=p:=by rw[AL f]at z;exact BB z
    rw[JA f,O]
   have X:∀{F4:Hp},(∀a o,F4 a=some o->F2 a=some o∨H2 a=none)->F4 acc=none:=λ{F4}n=>by
    cases e:F4 acc with
    |none=>rfl
    |some o=>
     rcases n acc o e with w|w
     .rw[C]at w;cases w
     .rw[A]at w;cases w
   obtain⟨a,b,ep,hw⟩:=M p σ;rw[ep]at B;obtain⟨_,_,rfl,e,r⟩:=B.inv;obtain⟨_,_,rfl,I,r⟩:=r.inv;obtain⟨_,_,rfl,G,r⟩:=r.inv;obtain rfl:=r.Ck;refine⟨_,_,_,rfl,Ag.of (l.st.fh _ _ e),?_⟩;have P:=l.st.A6 (js:=js) nd (.cons I (.one G));refine hw.go E _ F3 H3 _ P λw pw F5 H5 L Hf N=>?_;have U:=L.out (ps:=[a,b]) l.st np;have t:=l.trans U;have V:=t.hh acc _ W A;have D:=X t.nn;have d:vs.length<=99999:=by
    rw[j.length,AB,Fi];omega
   refine⟨vs,V,JI d,xs.length - (i+1),by omega,rfl,f,F5,vs++[w],?_,D,AV,?_⟩
   .have u:=m2.trans t;refine⟨u.st.Ka D (.inl T) R,u.ff,λa o n e=>?_,u.nn⟩;rw[AN (DE e Ao)];exact u.hh a o n e
   .rw[Y,Cw];rw[N]at Hf;exact(j.mono t.ff).append (.one Hf)
  .have e:i=xs.length:=by omega
   subst e;refine .inl ⟨v.stop ss Z F2 H2 m2.ff m2.st,q acc vs _ F2 H2 (c.trans m2) C (c.none Ao) A ?_ kk⟩;rw[Eh]at j;exact j⟩
theorem Sg.VL(S:Sg E ss Z F H){p:Addr}(hi:ss[i]?=some .AH)(e:Z[i]?=some (some (.ref p)))(s:Az p H H'):Mv E ss Z F H F H':=by
 obtain⟨g,b,fp,_,f⟩:=S.ok i _ hi;rw[e]at b;cases b;refine S.step (AF.refl _) (λa o q=>s.same a o (DE q fp) (S.fh a o q)) (λa o n q=>s.same a o (λz=>?_) q) (λa o q=>.inl q) λj l c d=>?_
 .rw[z]at n;exact n i hi e
 .by_cases z:l=p
  .rw[z];exact s.AH
  .exact BU.keep (S.Ep c d) λo q=>s.same l o z q
theorem lI(hi:ss[i]?=some .AH)(h:Wp ss te λx=>∃m,x=.int m/\0<m/\m<10 ^ 18/\∀r:Int,0<=r->r<m->k (.int r)):Wp ss (Dy Ke [] E0 (Ah (BE i) (Ah te BV))) k:=⟨λE Z F H Q S q=>by
 obtain⟨p,e,_⟩:=S.ok i _ hi;refine⟨_,e,h.go E Z F H _ S λv x F1 H1 a r⟨m,f,d,MX,kk⟩=>?_⟩;subst f;cases r.inv;exact⟨p,m,rfl,a.st.Ep hi e,d,MX,λr H2 c b s=>q _ _ F1 H2 (a.trans (a.st.VL hi e s)) (.int r) (kk r c b)⟩⟩
theorem sQ{sp:Sp}{k:List PV->Prop}(FC:sp=TB)(hi:ss[i]?=some .AH)(h:Wp ss te λx=>∃m,x=.int m/\1<=m/\m<=100/\∀ns:List Str,(ns.length:Int)<=m->(∀x∈ns,Nm x)->ns.Nodup->k (ns.map PV.str)):Wn ss (Dy sp [] E0 (Ah (BE i) (Ah te BV))) k:=⟨λE Z F H Q S q=>by
 subst FC;obtain⟨p,e,_⟩:=S.ok i _ hi;refine⟨_,e,h.go E Z F H _ S λv x F1 H1 a r⟨m,g,c,MX,kk⟩=>?_⟩;subst g;cases r.inv;refine⟨p,m,rfl,a.st.Ep hi e,c,MX,λl H2 ns b s Bb d f nd=>?_⟩;have m2:=a.st.VL hi e s;exact q l _ _ F1 H2 (a.trans m2) (a.st.Be b) (a.none b) Bb (Zn ns) (kk ns d f nd)⟩
def Rr(K:zu)(ns:List Int):Hp->V->Prop:=λF v=>∃a,v=.ref a/\AI K F a (ns.map V.int)
theorem UH(K:zu)(ns:List Int):∀(v:V)(F F':Hp),AF F F'->Rr K ns F v->Rr K ns F' v:=λv F F' s AU=>by obtain⟨a,e,h⟩:=AU;exact⟨a,e,by
 rcases h with(h|⟨o,h⟩)|h
 .exact .inl (.inl (s _ _ h))
 .exact .inl (.inr ⟨o,s _ _ h⟩)
 .exact .inr h⟩
end
section
variable[Xw]
variable{K:zu}{k:PV->Prop}
theorem Wi.mono{k k':List PV->Prop}(h:Wi ss wi k)(i:∀xs,k xs->k' xs):Wi ss wi k':=⟨λE Z F H R S q=>h.go E Z F H R S λJ xs F' H' m s kk=>q J xs F' H' m s (i xs kk)⟩
theorem Iv{tt:TT}{k:List PV->Prop}(c:α->PV)(f:α->Bool)(g:α->PV)
  (h:Wi ss wi λxs=>∃ns:List α,xs=ns.map c/\ns.length<=100000/\(∀x∈ns,Wt (Br js ss++[.is (c x)]) tt λb=>b=f x)/\(∀x∈ns,f x=true->Wp (Br js ss++[.is (c x)]) te λp=>p=g x)/\k ((ns.filter f).map g))
  (inj:∀x y,c x=c y->x=y) (nd:js.Nodup:=by decide) (np:LG js ss=true:=by rfl):Wn ss (GN wi js tt te) k:=by
 by_cases hα:Nonempty α
 .obtain⟨l⟩:=hα;have inv:∀p:PV,∃x:α,∀y,c y=p->y=x:=λp=>by
   by_cases q:∃y,c y=p
   .obtain⟨y,a⟩:=q;exact⟨y,λz i=>inj _ _ (i.trans a.symm)⟩
   .exact⟨l,λy a=>absurd ⟨y,a⟩ q⟩
  let d:PV->α:=λp=>Classical.choose (inv p)
  have hd:∀x,d (c x)=x:=λx=>(Va (inv (c x)) x rfl).symm;refine Oj (λp=>f (d p)) (λp=>g (d p)) (h.mono λxs⟨ns,e,i,h1,h2,kk⟩=>?_) nd np;subst e;refine⟨by rw[AB];exact i,λx hx=>?_,λx hx j=>?_,?_⟩
  .obtain⟨y,a,rfl⟩:=List.mem_map.mp hx;rw[hd];exact h1 y a
  .obtain⟨y,a,rfl⟩:=List.mem_map.mp hx;rw[hd]at j ⊢;exact h2 y a j
  .have e:((ns.map c).filter λp=>f (d p)).map (λp=>g (d p))=(ns.filter f).map g:=by
    rw[List.filter_map,Cq]
    congr 1
    .funext x;show g (d (c x))=g x;rw[hd]
    .congr 1;funext x;show f (d (c x))=f x;rw[hd]
   rw[e];exact kk
 .refine Oj (λ_=>true) (λp=>p) (h.mono λxs⟨ns,e,i,h1,h2,kk⟩=>?_) nd np;have m:ns=[]:=by
   cases ns with
   |nil=>rfl
   |cons x r=>exact absurd ⟨x⟩ hα
  subst m;subst e;exact⟨by simp,λx hx=>absurd hx (by simp),λx hx=>absurd hx (by simp),kk⟩
theorem RZ:∀x y:Nat,PV.int (x:Int)=PV.int (y:Int)->x=y:=λ_ _ e=>by injection e with e;omega
theorem ka(h:Wp ss ta λp=>∃x,p=.str x/\Wq ss tb λ_ ys=>∃ns:List Str,ys=ns.map PV.str/\k (.bl (decide (x∈ns)))):Wp ss (BF (L5 K false) ta tb) k:=ve h
theorem eU(h:Wq ss ta λtp xs=>∃ns:List Str,xs=ns.map PV.str/\Wq ss tb λBO ys=>BO=tp/\∃ms:List Str,ys=ms.map PV.str/\k (.bl (decide (ns=ms)))):Wp ss (BF (Kn K false) ta tb) k:=ib h
variable{ys:List PV}
noncomputable def Ih(xs:List PV):List PV:=(List.range xs.length).map λi:Nat=>.tup [.int (i:Int),xs.getD i .A7]
theorem M9(xs:List PV):(Ih xs).length=xs.length:=by simp[Ih]
theorem R8{x:PV}(h:xs[i]?=some x):(Ih xs)[i]?=some (.tup [.int (i:Int),x]):=by
 have hi:i<xs.length:=(List.getElem?_eq_some_iff.mp h).1;unfold Ih;rw[AM,NC hi];show some (PV.tup [PV.int (i:Int),xs.getD i PV.A7])=_;rw[J7,h];rfl
theorem xb{p:PV}(h:(Ih xs)[i]?=some p):∃x,xs[i]?=some x/\p=.tup [.int (i:Int),x]:=by
 have hi:i<xs.length:=by have:=(List.getElem?_eq_some_iff.mp h).1;rwa [M9]at this
 have e:=AL hi;refine⟨xs[i],e,?_⟩;rw[R8 e]at h;exact(BB h).symm
theorem Uc{k:List PV->Prop}(h:Wz ss te λ_ xs=>k (Ih xs)):Wi ss (Tf K (Ah te BV)) k:=⟨λE Z F H R S q=>
 h.go E Z F H _ S λv tp xs F1 H1 b f kk=>by
  obtain⟨l,vs,o,a,r⟩:∃l vs,v=.ref l/\(∀(ss:List Slot)(Z:L2.St)(F H:Hp),AF F1 F->Sg E ss Z F H->H l=some (Cz tp vs))/\AE F1 vs xs:=by
   cases tp with
   |true=>
    have n:Rep F1 v (.tup xs):=f;cases n with
    |tup e r=>exact⟨_,_,rfl,λss Z F H s S=>S.fh _ _ (s _ _ e),r⟩
   |false=>
    obtain⟨l,vs,e,h1,r⟩:=f;refine⟨l,vs,e,λss Z F H s S=>?_,r⟩;rcases h1 with h1|⟨hA,h1⟩
    .exact S.fh _ _ (s _ _ h1)
    .exact S.keep _ _ hA h1
  subst o;refine⟨l,tp,vs,rfl,Cz.sq (a ss Z F1 H1 (AF.refl _) b.st),q _ (Ih xs) F1 H1 b ⟨λss Z F H i s S hi=>?_,λss Z F H s S=>?_,λss Z F H i x H' s S hi y=>?_⟩ kk⟩
  .rw[M9]at hi;exact⟨Cz.sq (a ss Z F H s S),by rw[r.length];exact hi⟩
  .refine⟨Cz.sq (a ss Z F H s S),?_⟩;rw[M9,r.length];exact AW _
  .obtain⟨p,y,g,ex,j,t⟩:=y;subst ex;subst t;obtain⟨z,d,c⟩:=r.get' g;have m:=S.alloc j (.tup [.int i,y]);exact⟨_,_,R8 d,m,.tup AV (.cons (.int _) (.one (c.mono (s.trans m.ff))))⟩⟩
theorem gb{k:List PV->Prop}(c d:α->PV)(g:α->PV)
  (h:Wi ss wi λxs=>∃ns:List α,xs=ns.map (λa=>.tup [c a,d a])/\ns.length<=100000/\(∀a∈ns,Wp (Br js ss++[.is (c a),.is (d a)]) te λp=>p=g a)/\k (ns.map g))
  (inj:∀x y,c x=c y->d x=d y->x=y) (nd:js.Nodup:=by decide) (np:LG js ss=true:=by rfl):Wn ss (Px K wi js te) k:=by
 by_cases hα:Nonempty α
 .obtain⟨i⟩:=hα;have inv:∀p:PV,∃x:α,∀y,PV.tup [c y,d y]=p->y=x:=λp=>by
   by_cases q:∃y,PV.tup [c y,d y]=p
   .obtain⟨y,b⟩:=q;refine⟨y,λz f=>?_⟩;have e:=f.trans b.symm;injection e with e
    simp only[List.cons.injEq,and_true]at e;exact inj _ _ e.1 e.2
   .exact⟨i,λy b=>absurd ⟨y,b⟩ q⟩
  let w:PV->α:=λp=>Classical.choose (inv p)
  have hw:∀x,w (.tup [c x,d x])=x:=λx=>(Va (inv (.tup [c x,d x])) x rfl).symm;refine cD (λp=>g (w p)) (h.mono λxs⟨ns,e,f,h1,kk⟩=>?_) nd np;subst e;refine⟨by rw[AB];exact f,λx hx=>?_,?_⟩
  .obtain⟨y,b,rfl⟩:=List.mem_map.mp hx;refine⟨_,_,rfl,?_⟩;rw[hw];exact h1 y b
  .have e:(ns.map λa=>PV.tup [c a,d a]).map (λp=>g (w p))=ns.map g:=by
    rw[Cq]
    congr 1
    funext x;show g (w _)=g x;rw[hw]
   rw[e];exact kk
 .refine cD (λp=>p) (h.mono λxs⟨ns,e,f,h1,kk⟩=>?_) nd np;have j:ns=[]:=by
   cases ns with
   |nil=>rfl
   |cons x r=>exact absurd ⟨x⟩ hα
  subst j;subst e;exact⟨by simp,λx hx=>absurd hx (by simp),kk⟩
end
end Fz
namespace L2
theorem gg{X:Cx}{tg:Expr}{a b:Expr}{ta:TA}{p pos:Pos}(w:Gl X "range")(v:X.mg "range"=none)(f:QA X [a,b] ta)(u:starEach [a,b] X.env=[(false,eval a X.env),(false,eval b X.env)]:=by rfl)(D4:starEach [b] X.env=[(false,eval b X.env)]:=by rfl):QI X tg (.Call (.Name "range" p) [a,b] [] pos) (VD ta):=⟨by
 have f:=f.h;intro Zj s Z H R I h;refine Call_ (HH I w v boot_range (NP (f.k pos I h λus s1 vs H1 I1 g d=>?_) (by rw[u,D4]) (by rw[D4];rfl)));obtain⟨i,j,e,⟨d,o,n,m⟩,q⟩:=d;subst e;cases g with
 |cons r c=>
  cases c with
  |cons l c=>
   cases c;obtain⟨t,rfl⟩:=r;obtain⟨t',rfl⟩:=l;exact call_range_2 (bU I1 d o n m q)⟩
end L2
namespace Fz
open L2 Lw
section
variable[Xw]
variable{E:Ent0}{ss:List Slot}{Z:L2.St}{F H F' H':Hp}{K:zu}{js:List Nat}{ta tb tc te:TE}{k:PV->Prop}{nx:List Slot->Prop}{R:Ac}{xs ys:List PV}
noncomputable def Jz(i:Int)(n:Nat):List PV:=(List.range n).map λj:Nat=>PV.int (i+(j:Int))
theorem N1(i:Int)(n:Nat):(Jz i n).length=n:=by simp[Jz]
theorem kM{i:Int}{n j:Nat}{p:PV}(h:(Jz i n)[j]?=some p):j<n/\p=.int (i+(j:Int)):=by
 have a:j<n:=by have:=(List.getElem?_eq_some_iff.mp h).1;rwa [N1]at this
 unfold Jz at h;rw[AM,NC a]at h;exact⟨a,(BB h).symm⟩
theorem Y1{k:List PV->Prop}(h:Wp ss ta λp=>∃i:Int,p=.int i/\Wp ss tb λp=>∃j:Int,p=.int j/\(i<=1000000/\-1000000<=i/\j<=1000000/\-1000000<=j)/\k (Jz i (j - i).toNat)):Wi ss (VD (Ah ta (Ah tb BV))) k:=⟨λE Z F H R S q=>
 h.el E S λi F1 H1 b h2=>
  h2.el E b.st λj F2 H2 m2 c=>by
   obtain⟨d,kk⟩:=c;refine⟨i,j,rfl,by omega,q _ (Jz i (j - i).toNat) F2 H2 (b.trans m2) ⟨λss Z F H n s S a=>?_,λss Z F H s S=>?_,λss Z F H n x H' s S a y=>?_⟩ kk⟩
   .rw[N1]at a;exact a
   .show _<=_;rw[N1];exact AW _
   .obtain⟨e,hx⟩:=y;subst e;subst hx;rw[N1]at a;refine⟨.int (i+(n:Int)),F,?_,.refl S,.int _⟩;unfold Jz;rw[AM,NC a];rfl⟩
end
end Fz
namespace Fz
open L2 Lw
section
variable[Xw]
variable{E:Ent0}{ss:List Slot}{Z:L2.St}{F H F' H':Hp}{K:zu}{js:List Nat}{ta tb tc te:TE}{k:PV->Prop}{nx:List Slot->Prop}{R:Ac}{xs ys:List PV}{P:Program}{w:World}
theorem Tq(h:Wq ss ta λtp xs=>tp=false/\Wq ss tb λBO ys=>BO=false/\ys=[]/\k (.bl (!decide (xs.length=0)))):Wp ss (BF (YH K) ta tb) k:=⟨λE Z F H Q S q=>
 h.go E Z F H _ S λv tp xs F1 H1 a sv⟨f,h2⟩=>h2.go E Z F1 H1 _ a.st λv2 BO ys F2 H2 m2 G3⟨Sj,d,kk⟩=>by
  subst f;subst Sj;subst d;obtain⟨l,vs,rfl,c,r⟩:=(sv.mv m2).seq m2.st;obtain⟨l2,HA,rfl,Bb,b⟩:=G3.seq m2.st;cases b;refine⟨l,l2,vs,rfl,rfl,AI.of c,AI.of Bb,?_⟩;have e:decide (vs=[])=decide (xs.length=0):=by
   rw[<- r.length];cases vs <;> simp
  rw[e];exact q _ _ F2 H2 (a.trans m2) (.bl _) kk⟩
end
end Fz
namespace L2
variable{HM Uy p1 p2:Pos}{e:Expr}{t:TA}
section
variable{X:Cx}{Zj:zv}{Z:St}{H:Hp}{s:Shared}
theorem W2:∀{xs:List V}{us:List Value},xs.length=us.length->(∀(j:Nat)(x:V)(v:Value),xs[j]?=some x->us[j]?=some v->RelV x v)->Vals xs us
 | [],[],_,_=>.nil
 | [],_::_,h,_=>by cases h
 |_::_,[],h,_=>by cases h
 |_::xs,_::us,h,f=>.cons (f 0 _ _ rfl rfl) (W2 (Hm h) λj x v hx a=>f (j+1) x v hx a)
def Rj(t:TA):TE:=λZ H Q=>t Z H λvs H1=>∃n:Nat,vs=[.int n]/\n<=1000/\∀l,H1 l=none->Q (.ref l) (upd H1 l (.lst ((List.range n).map λi:Nat=>V.int i)))
theorem vM(B:X.calm=true)(UO:Gl X "list")(Uo:X.mg "list"=none)(U1:Gl X "range")(V5:X.mg "range"=none)(C:PA X [e] t)
  (z:starEach [e] X.env=[(false,eval e X.env)]:=by rfl) (IA:starEach [.Call (.Name "range" p2) [e] [] HM] X.env=[(false,eval (.Call (.Name "range" p2) [e] [] HM) X.env)]:=by rfl) :
  PE X (.Call (.Name "list" p1) [.Call (.Name "range" p2) [e] [] HM] [] Uy) (Rj t):=by
 intro Zj s Z H Q I h;refine o7 (HH I UO Uo (show bootBuiltins "list"=some (.type "list") by decide +kernel) ?_ (by decide) (by decide));refine NP ?_ IA rfl;rw[IA];show wpAny _ _ (spliced ((false,eval (.Call (.Name "range" p2) [e] [] HM) X.env)::[])) _ _ s;refine Calls.spliced_cons ?_;refine o7 (HH I U1 V5 (show bootBuiltins "range"=some (.type "range") by decide +kernel) ?_ (by decide) (by decide));refine NP (C.k HM I h λus s1 vs H1 I1 l p=>?_) z rfl;obtain⟨n,rfl,y,q⟩:=p;obtain⟨u,rfl,g⟩:=vals1 l;obtain⟨E,rfl⟩:=g;have hh:X.A.handled=none:=I1.ok.hd B;refine call_range_1 ?_;refine Calls.spliced_nil ?_;refine call_list_range (n:=n) hh (IsRange.new ..) (small_one (by omega) (by omega) (by omega) (by omega)) (by rw[rangeSize_one];split <;> omega) (by omega) λh' tk acc c hk D Ao=>?_
 have kp:∀b o,s1.heap.get? b=some o->h'.get? b=some o:=λb o e=>hk b o (Af _ e);have hsz:∀f:Obj,(s1.heap.push f).objs.size=s1.heap.objs.size+1:=λf=>C1 ..;have a:Vals ((List.range n).map λi:Nat=>V.int i) acc.toList:=by
  obtain⟨r,a⟩:=Ao;refine W2 (by rw[AB,Cd,Bs,r]) λj x v hx L7=>?_;rw[KG]at L7;obtain⟨t,rfl⟩:=a j v L7;rw[AM]at hx;cases d:(List.range n)[j]? with
  |none=>rw[d]at hx;cases hx
  |some m=>
   rw[d]at hx;cases hx;have:=List.getElem?_eq_some_iff.mp d;obtain⟨h1,h2⟩:=this;rw[List.getElem_range]at h2;subst h2;exact⟨t,by congr 1;omega⟩
 refine⟨.ref _,_,I1.laid (t':=tk) kp (by rw[hsz];exact Cf _) (show Bi X.prog X.w _ h' _ (.lst _)from⟨by rw[AB,Cd];exact CC y (by decide),acc.toList,c,a,by rw[xr];exact D⟩),rfl,q _ (I1.AA.fresh (by show _<=_;rw[hsz];exact Cf _))⟩
theorem xf(b:X.calm=true)(UO:Gl X "list")(Uo:X.mg "list"=none)(U1:Gl X "range")(V5:X.mg "range"=none)(c:QA X [e] t)
  (a:starEach [e] X.env=[(false,eval e X.env)]:=by rfl) (IA:starEach [.Call (.Name "range" p2) [e] [] HM] X.env=[(false,eval (.Call (.Name "range" p2) [e] [] HM) X.env)]:=by rfl) :
  QE X (.Call (.Name "list" p1) [.Call (.Name "range" p2) [e] [] HM] [] Uy) (Rj t):=⟨vM b UO Uo U1 V5 c.h a IA⟩
end
end L2
namespace Fz
open L2 Lw
section
variable[Xw]
variable{K:zu}{E:Ent0}{ss:List Slot}{Z:L2.St}{F H:Hp}{te ta tb:TE}{k:PV->Prop}{nx:List Slot->Prop}{R:Ac}{xs ys:List PV}
theorem v8{k:List PV->Prop}(h:Wp ss te λp=>∃j:Int,p=.int j/\0<=j/\j<=1000/\k (FE j.toNat)):Wn ss (Rj (Ah te BV)) k:=⟨λE Z F H Q S q=>
 h.el E S λj F1 H1 b d=>by
  obtain⟨g,m,kk⟩:=d;generalize f:j.toNat=n at kk;refine⟨n,by rw[<- f,Vh g],by omega,λa c=>?_⟩;have m2:=b.st.make c (.lst ((List.range n).map λi:Nat=>V.int i));have e:AE F1 ((List.range n).map λi:Nat=>V.int i) (FE n):=by
   have e1:FE n=((List.range n).map λi:Nat=>(i:Int)).map PV.int:=by unfold FE;rw[Cq];rfl
   have l:((List.range n).map λi:Nat=>V.int (i:Int))=(FE n).map Fz.enc:=by rw[e1,NW,Cq];rfl
   rw[l];exact MP (by rw[e1];exact Pj _)
  exact q a _ _ F1 _ (b.trans m2) (b.st.Be c) (b.none c) AV e kk⟩
end
end Fz
namespace Lw
open L2
variable{c t:Addr}{r:Str}{g:Int}{ss:List Str}
def Je(H:Hp)(t c:Addr)(r:Str)(g:Int)(ss:List Str):Prop:=H t=some (.tup [.str r,.int g,.ref c])/\H c=some (.tup (ss.map V.str))
theorem Je.h{H:Hp}(h:Je H t c r g ss):Sl H t r g ss:=⟨c,h⟩
theorem Je.same{H H':Hp}(s:AF H H')(h:Je H t c r g ss):Je H' t c r g ss:=⟨s _ _ h.1,s _ _ h.2⟩
end Lw
namespace Fz
open L2 Lw
variable{E:Ent0}{ss:List Slot}{Z:L2.St}{F F' F0 F1 H H' H0:Hp}{js m p:List Nat}{ta tb tc te ti:TE}{nx:List Slot->Prop}{R:Ac}{n t u x y:OV}{v:V}{r:Str}{g i j:Nat}{cs:List Str}{ZC ps xs ys:List PV}{Bl vs ws:List V}{A:Around}{A0 BW:List Value}{BO tp:Bool}{a b:Addr}{q:PV}{us:List OV}{as:List Addr}
noncomputable def KY(r:Str)(g:Nat)(ss:List Str):PV:=.tup [.str r,.int g,.tup (ss.map .str)]
section
variable[Xw]
variable{K:zu}{k:PV->Prop}
theorem Mv.adopt(m:Mv E ss Z F H F1 H')(S:Sg E ss Z F H){t:Addr}{o:HO}(c:H t=Option.none)(e:H' t=some o):Mv E ss Z F H (upd F1 t o) H':=by
 have b:AF F1 (upd F1 t o):=λa u q=>by
  by_cases z:a=t
  .subst z;have w:=m.st.fh _ _ q;rw[e]at w;rw[AV];exact w
  .rw[AN z];exact q
 refine S.step (m.ff.trans b) (λa u q=>?_) m.hh (λa u q=>?_) λi l hi d=>m.st.Ep hi d
 .by_cases z:a=t
  .subst z;rw[AV]at q;rw[<- q];exact e
  .rw[AN z]at q;exact m.st.fh a u q
 .by_cases z:a=t
  .subst z;exact .inr c
  .rw[AN z]at q;exact m.nn a u q
theorem kT(h:Rep F v (KY r g cs)):∃t c,v=.ref t/\Je F t c r g cs:=by
 obtain⟨_,_,rfl,e,q⟩:=h.inv;obtain⟨_,_,rfl,a,q⟩:=q.inv;obtain⟨_,_,rfl,b,q⟩:=q.inv;obtain⟨_,_,rfl,c,q⟩:=q.inv;cases q;cases a;cases b;obtain⟨_,_,rfl,d,f⟩:=c.inv;rw[f.strs]at d;exact⟨_,_,rfl,e,d⟩
theorem su{t c:Addr}(h:Je F t c r g cs):Rep F (.ref t) (KY r g cs):=.tup h.1 (.cons (.str _) (.cons (.int _) (.one (.tup h.2 (Zn cs)))))
theorem uY(hi:ss[i]?=some .AH)(h:Wq ss ta λtp xs=>tp=false/\∃ns:List Str,xs=ns.map PV.str/\ns.length<=40/\ns.Nodup/\∀(r:Str)(g:Nat)(cs:List Str),CF ns r g cs->cs.length<=40->k (KY r g cs)):
  Wp ss (Dy Sa [] E0 (Ah (BE i) (Ah ta BV))) k:=⟨λE Z F H Q S q=>by
 obtain⟨p,e,_⟩:=S.ok i _ hi;refine⟨_,e,h.go E Z F H _ S λv tp xs F1 H1 a sv⟨J,ns,ex,A,nd,kk⟩=>?_⟩;subst J;subst ex;obtain⟨l,vs,I,C,d,r⟩:=sv;subst I;rw[r.strs]at d;refine⟨p,l,ns,rfl,a.st.Ep hi e,d,λz=>C i hi (z▸e),A,nd,λt c r g cs H3 B D s e1 f G=>?_⟩;obtain⟨w,b,u,o,m,j⟩:=G;obtain⟨n,rfl⟩:=Vg b;have y:=(a.st.VL hi e s).adopt a.st D f;have x:=y.adopt a.st B e1;refine q _ _ _ H3 (a.trans x) (su (c:=c) ⟨AV,?_⟩) (kk r n cs ⟨w,b,u,o,m⟩ j)
 by_cases z:c=t
 .subst z;rw[AV];exact e1.symm.trans f
 .rw[AN z,AV]⟩
theorem WX{n:Nat}(h:j<n):EX n (j:Int)=some j:=by
 unfold EX;simp;omega
theorem AE.set:∀{xs:List PV}(j:Nat){v:V}{p:PV},AE F vs xs->Rep F v p->AE F (vs.set j v) (xs.set j p):=by
 intro xs
 induction vs generalizing xs with
 |nil=>intro j v p h r;cases h;exact .nil
 |cons a vs c=>
  intro j v p h r;cases h with
  |cons b t=>
   cases j with
   |zero=>exact .cons r t
   |succ j=>exact .cons b (c j t r)
end
mutual
def C4:PV->PV->Bool
 | .lst xs,.lst ys=>DI xs ys
 | .tup xs,.tup ys=>DI xs ys
 | .tup xs,.con _ ys=>DI xs ys
 | .con _ xs,.tup ys=>DI xs ys
 | .con _ xs,.con _ ys=>DI xs ys
 | .A7,.A7=>true
 | .bl a,.bl b=>a == b
 | .bl a,.int b=>(if a then 1 else 0) == b
 | .int a,.bl b=>a == (if b then 1 else 0)
 | .int a,.int b=>a == b
 | .str a,.str b=>a == b
 |_,_=>false
def DI:List PV->List PV->Bool
 | [],[]=>true
 |x::r,y::t=>C4 x y && DI r t
 |_,_=>false
end
theorem SO(x y:PV)(r t:List PV):DI (x::r) (y::t)=(C4 x y && DI r t):=by rw[DI]
theorem RY:∀(xs ys:List PV),xs.length≠ys.length->DI xs ys=false
 | [],[],h=>absurd rfl h
 | [],_::_,_=>by rw[DI];all_goals simp
 |_::_,[],_=>by rw[DI];all_goals simp
 |x::r,y::t,h=>by rw[SO,RY r t (by simpa using h),KH]
theorem SG:∀(xs ys:List PV),xs.length=ys.length->DI xs ys=(List.range xs.length).all λj=>C4 (xs.getD j .A7) (ys.getD j .A7)
 | [],[],_=>by rw[DI];rfl
 |x::r,y::t,h=>by
  rw[SO,SG r t (by simpa using h),Am,List.range_succ_eq_map,QM,List.all_map]
  rfl
def dat(K:zu):Nat->PV->Prop
 |_,.A7=>True
 |_,.bl _=>True
 |_,.int _=>True
 |_,.str _=>True
 |d+1,.lst xs=>∀x∈xs,dat K d x
 |d+1,.tup xs=>∀x∈xs,dat K d x
 |d+1,.con a xs=>(∀x∈xs,dat K d x)/\xs.all flat=true/\∀H,Ag K H a (xs.map Fz.enc)
 |_,_=>False
inductive Fe (K:zu) (H:Hp):V->PV->Bool->Addr->List V->List PV->Prop where
 |lst {a:Addr}{vs:List V}{xs:List PV}:AI K H a vs->AE H vs xs->Fe K H (.ref a) (.lst xs) false a vs xs
 |tup {a:Addr}{vs:List V}{xs:List PV}:Ag K H a vs->AE H vs xs->Fe K H (.ref a) (.tup xs) true a vs xs
 |con {a:Addr}{vs:List V}{xs:List PV}:Ag K H a vs->AE H vs xs->Fe K H (.ref a) (.con a xs) true a vs xs
theorem Gi{K:zu}:∀{d:Nat}{x:V}{p:PV},dat K d p->Rep H x p->(flat p=true/\x=Fz.enc p)∨∃d' tp a vs xs,d=d'+1/\Fe K H x p tp a vs xs/\∀y∈xs,dat K d' y:=by
 intro d x p h r;cases r with
 |A7=>exact .inl ⟨rfl,rfl⟩
 |bl b=>exact .inl ⟨rfl,rfl⟩
 |int b=>exact .inl ⟨rfl,rfl⟩
 |str b=>exact .inl ⟨rfl,rfl⟩
 |lst e r=>cases d with
  |zero=>exact h.elim
  |succ d=>exact .inr ⟨d,_,_,_,_,rfl,.lst (AI.of e) r,h⟩
 |tup e r=>cases d with
  |zero=>exact h.elim
  |succ d=>exact .inr ⟨d,_,_,_,_,rfl,.tup (Ag.of e) r,h⟩
 |con=>cases d with
  |zero=>exact h.elim
  |succ d=>obtain⟨h1,h2,c⟩:=h;exact .inr ⟨d,_,_,_,_,rfl,.con (c H) (MP h2),h1⟩
 |An _ _ _=>cases d <;> exact h.elim
 |obj _ _ _ _=>cases d <;> exact h.elim
 |Oo _=>cases d <;> exact h.elim
 |exc _ _ _ _=>cases d <;> exact h.elim
section
variable{X:Cx}{Zj:zv}{s:Shared}
theorem pW(b:Vals vs A0)(a:Vals ws BW)(d:AE H vs xs)(c:AE H ws ys)
  (h:∀(x y:V)(p q:PV)(u v:Value),p∈xs->q∈ys->Rep H x p->Rep H y q->RelV x u->RelV y v->SeqAt.EqAt A s u v (C4 p q)) :
  ∀j(h1:j<A0.toArray.size)(h2:j<BW.toArray.size),SeqAt.EqAt A s A0.toArray[j] BW.toArray[j] ((λj=>C4 (xs.getD j .A7) (ys.getD j .A7)) j):=λj h1 h2=>by
 have l1:=b.length;have l2:=a.length;have B:=d.length;have z:=c.length;have w:j<A0.length:=by simpa using h1
 have t:j<BW.length:=by simpa using h2
 have a1:j<xs.length:=by omega
 have a2:j<ys.length:=by omega
 obtain⟨x,hx,k⟩:=d.get (i:=j) (p:=xs[j]) (AL a1);obtain⟨y,n,g⟩:=c.get (i:=j) (p:=ys[j]) (AL a2);obtain⟨u,f,m⟩:=b.get hx;obtain⟨v,e,l⟩:=a.get n;rw[AL w]at f;rw[AL t]at e;have r:A0[j]=u:=BB f;have o:BW[j]=v:=BB e;have q:=h x y _ _ u v (FJ a1) (FJ a2) k g m l;rw[<- r,<- o]at q;show SeqAt.EqAt A s _ _ (C4 (xs.getD j .A7) (ys.getD j .A7));rw[J7,AL a1,J7,AL a2]
 simpa using q
theorem Zb{p:PV}{x:V}(h:Fe X.K H x p tp a vs xs)(f:flat q=true):C4 p q=false/\C4 q p=false:=by
 cases h <;> cases q <;> first|exact Bool.noConfusion f|exact⟨rfl,rfl⟩
theorem dD{p:PV}{x y:V}(h:Fe X.K H x p tp a vs xs)(h2:Fe X.K H y q BO b ws ys):C4 p q=(if tp=BO then DI xs ys else false):=by
 cases h <;> cases h2 <;> rfl
theorem OJ{p:PV}(h:flat p=true)(h2:flat q=true):C4 p q=DF (Fz.enc p) (Fz.enc q):=by
 cases p <;> cases q <;> first|exact Bool.noConfusion h|exact Bool.noConfusion h2|rfl
def NS(h:Heap)(tp:Bool)(a:Addr)(A0:Array Value):Prop:=if tp then IsTup h a A0 else h.IsList a A0
theorem Fe.Iy(I:Inv X Zj Z H s){x:V}{p:PV}(h:Fe X.K H x p tp a vs xs):∃A0:List Value,x=.ref a/\Vals vs A0/\NS s.heap tp a A0.toArray/\AE H vs xs:=by
 cases h with
 |lst h r=>obtain⟨A0,b,p1,_⟩:=I.list h;exact⟨A0,rfl,b,p1.isList,r⟩
 |tup h r=>obtain⟨A0,b,p1,_⟩:=I.tuple h;exact⟨A0,rfl,b,p1,r⟩
 |con h r=>obtain⟨A0,b,p1,_⟩:=I.tuple h;exact⟨A0,rfl,b,p1,r⟩
theorem dI{A0:Array Value}{v:Value}(h:NS s.heap tp a A0)(f:flat q=true)(c:RelV (Fz.enc q) v)(b:A.units<cLine):
  (SeqAt.EqAt A s (.ref a) v false/\SeqAt.EqAt A s v (.ref a) false)/\(SeqAt.RcAt A s (.ref a) v false/\SeqAt.RcAt A s v (.ref a) false)/\(SeqAt.RcNeAt A s (.ref a) v true/\SeqAt.RcNeAt A s v (.ref a) true):=by
 cases tp with
 |false=>
  have h':s.heap.IsList a A0:=h;cases q <;> first|exact Bool.noConfusion f|skip
  .cases c;exact⟨⟨.list_none h' b,.none_list h' b⟩,⟨.list_none h' b,.none_list h' b⟩,⟨.list_none h' b,.none_list h' b⟩⟩
  .cases c;exact⟨⟨.list_bool _ h' b,.bool_list _ h' b⟩,⟨.list_bool _ h' b,.bool_list _ h' b⟩,⟨.list_bool _ h' b,.bool_list _ h' b⟩⟩
  .obtain⟨t,rfl⟩:=c;exact⟨⟨.list_int _ _ h' b,.int_list _ _ h' b⟩,⟨.list_int _ _ h' b,.int_list _ _ h' b⟩,⟨.list_int _ _ h' b,.int_list _ _ h' b⟩⟩
  .obtain⟨t,rfl⟩:=c;exact⟨⟨.list_str _ _ h' b,.str_list _ _ h' b⟩,⟨.list_str _ _ h' b,.str_list _ _ h' b⟩,⟨.list_str _ _ h' b,.str_list _ _ h' b⟩⟩
 |true=>
  have h':IsTup s.heap a A0:=h;cases q <;> first|exact Bool.noConfusion f|skip
  .cases c;exact⟨⟨.tuple_none h' b,.none_tuple h' b⟩,⟨.tuple_none h' b,.none_tuple h' b⟩,⟨.tuple_none h' b,.none_tuple h' b⟩⟩
  .cases c;exact⟨⟨.tuple_bool _ h' b,.bool_tuple _ h' b⟩,⟨.tuple_bool _ h' b,.bool_tuple _ h' b⟩,⟨.tuple_bool _ h' b,.bool_tuple _ h' b⟩⟩
  .obtain⟨t,rfl⟩:=c;exact⟨⟨.tuple_int _ _ h' b,.int_tuple _ _ h' b⟩,⟨.tuple_int _ _ h' b,.int_tuple _ _ h' b⟩,⟨.tuple_int _ _ h' b,.int_tuple _ _ h' b⟩⟩
  .obtain⟨t,rfl⟩:=c;exact⟨⟨.tuple_str _ _ h' b,.str_tuple _ _ h' b⟩,⟨.tuple_str _ _ h' b,.str_tuple _ _ h' b⟩,⟨.tuple_str _ _ h' b,.str_tuple _ _ h' b⟩⟩
theorem Fe.inj(I:Inv X Zj Z H s){x y:V}{p q:PV}{tp BO:Bool}{a:Addr}{vs ws:List V}{xs ys:List PV}(h:Fe X.K H x p tp a vs xs)(h2:Fe X.K H y q BO a ws ys):tp=BO/\vs=ws:=by
 have no:∀{vs ws:List V},AI X.K H a vs->Ag X.K H a ws->False:=λ{vs ws}h1 h2=>by
  obtain⟨A0,_,p1,_⟩:=I.list h1;obtain⟨BW,_,p2,_⟩:=I.tuple h2;obtain⟨o,n,e,c,_⟩:=p1;obtain⟨f,b,d,_⟩:=p2;rw[e]at b;cases b;rw[c]at d;exact absurd d (by decide)
 cases h with
 |lst h r=>cases h2 with
  |lst h2 _=>exact⟨rfl,I.bo h h2⟩
  |tup h2 _=>exact(no h h2).elim
  |con h2 _=>exact(no h h2).elim
 |tup h r=>cases h2 with
  |lst h2 _=>exact(no h2 h).elim
  |tup h2 _=>exact⟨rfl,I.MZ h h2⟩
  |con h2 _=>exact⟨rfl,I.MZ h h2⟩
 |con h r=>cases h2 with
  |lst h2 _=>exact(no h2 h).elim
  |tup h2 _=>exact⟨rfl,I.MZ h h2⟩
  |con h2 _=>exact⟨rfl,I.MZ h h2⟩
theorem cX{p:PV}(h:flat p=true):DF (Fz.enc p) (Fz.enc p)=true:=by cases p <;> first|exact Bool.noConfusion h|exact o3 _|rfl
theorem k4(h:∀(x:V)(p q:PV),Rep H x p->Rep H x q->dat X.K d p->dat X.K d q->C4 p q=true)(f:AE H vs xs)(c:AE H vs ys)(h1:∀x∈xs,dat X.K d x)(h2:∀y∈ys,dat X.K d y):DI xs ys=true:=by
 induction xs generalizing vs ys with
 |nil=>
  cases f.Ck;cases ys with
  |nil=>rfl
  |cons y t=>obtain⟨v,ws,e,_⟩:=c.inv;cases e
 |cons x xs g=>
  obtain⟨v,ws,rfl,a,b⟩:=f.inv;cases ys with
  |nil=>have e:=c.Ck;cases e
  |cons y t=>
   obtain⟨v2,j,e,a2,i⟩:=c.inv;cases e;rw[SO,h _ _ _ a a2 (h1 _ Ae) (h2 _ Ae),g b i (λx hx=>h1 x (Au _ hx)) (λx hx=>h2 x (Au _ hx))];rfl
theorem lL(I:Inv X Zj Z H s):∀(d:Nat)(x:V)(p q:PV),Rep H x p->Rep H x q->dat X.K d p->dat X.K d q->C4 p q=true:=λd=>by
 induction d with
 |zero=>
  intro x p q k h h1 h2;rcases Gi h1 k with⟨j,e1⟩|⟨d',_,_,_,_,e,_⟩
  .rcases Gi h2 h with⟨c,g⟩|⟨d',_,_,_,_,e,_⟩
   .rw[OJ j c,<- e1,g];exact cX c
   .cases e
  .cases e
 |succ d o=>
  intro x p q k h h1 h2;rcases Gi h1 k with⟨j,e1⟩|⟨v,tp,a,vs,xs,e,i,k1⟩
  .rcases Gi h2 h with⟨c,g⟩|⟨u,BO,b,ws,ys,e,f,k2⟩
   .rw[OJ j c,<- e1,g];exact cX c
   .obtain⟨_,ex,_⟩:=f.Iy I;subst ex;cases p <;> first|(cases j;done)|(cases e1;done)
  .cases e;rcases Gi h2 h with⟨c,g⟩|⟨u,BO,b,ws,ys,e,f,k2⟩
   .obtain⟨_,ex,_⟩:=i.Iy I;subst ex;cases q <;> first|(cases c;done)|(cases g;done)
   .cases e;obtain⟨_,ex,_,_,n⟩:=i.Iy I;obtain⟨_,l,_,_,m⟩:=f.Iy I;rw[ex]at l;cases l;obtain⟨t,r⟩:=i.inj I f;subst r;rw[dD i f,eM t];exact k4 o n m k1 k2
theorem lJ(b:Vals vs A0)(a:Vals ws BW)(d:AE H vs xs)(c:AE H ws ys):A0.toArray.size=xs.length/\BW.toArray.size=ys.length:=by
 have l1:=b.length;have l2:=a.length;have f:=d.length;have e:=c.length;simp only[Bp];omega
theorem iO(h1:NS s.heap tp a A0.toArray)(h2:NS s.heap BO b BW.toArray)(m:Vals vs A0)(l:Vals ws BW)(o:AE H vs xs)(n:AE H ws ys)(c:A.units<cLine)
  (h:∀(x y:V)(p q:PV)(u v:Value),p∈xs->q∈ys->Rep H x p->Rep H y q->RelV x u->RelV y v->SeqAt.EqAt A.in1 s u v (C4 p q)) :
  SeqAt.RcAt A s (.ref a) (.ref b) (if tp=BO then DI xs ys else false)/\SeqAt.RcNeAt A s (.ref a) (.ref b) (!(if tp=BO then DI xs ys else false)):=by
 obtain⟨i,k⟩:=lJ m l o n;have it:=pW (A:=A.in1) m l o n h;cases tp with
 |false=>cases BO with
  |false=>
   rw[eM rfl];have g:s.heap.IsList a A0.toArray:=h1;have f:s.heap.IsList b BW.toArray:=h2
   by_cases d:xs.length=ys.length
   .rw[SG xs ys d,<- i];exact⟨.lists g f (by omega) c it,.lists g f (by omega) c it⟩
   .rw[RY xs ys d];have r:(A0.toArray.size != BW.toArray.size)=true:=by simp only[bne_iff_ne,ne_eq];omega
    exact⟨.lists_lengths g f r c,.lists_lengths g f r c⟩
  |true=>rw[eJ (by decide)];exact⟨.list_tuple h1 h2 c,.list_tuple h1 h2 c⟩
 |true=>cases BO with
  |false=>rw[eJ (by decide)];exact⟨.tuple_list h1 h2 c,.tuple_list h1 h2 c⟩
  |true=>
   rw[eM rfl];have g:IsTup s.heap a A0.toArray:=h1;have f:IsTup s.heap b BW.toArray:=h2;have e:((List.range (min A0.toArray.size BW.toArray.size)).all (λj=>C4 (xs.getD j .A7) (ys.getD j .A7)) && A0.toArray.size == BW.toArray.size)=DI xs ys:=by
    by_cases d:xs.length=ys.length
    .rw[SG xs ys d,i,k,<- d,dw,o3,VY]
    .rw[RY xs ys d,i,k,show(xs.length == ys.length)=false from by simpa using d,KH]
   have k1:=SeqAt.RcAt.tuples (A:=A) (e:=λj=>C4 (xs.getD j .A7) (ys.getD j .A7)) g f c it;have k2:=SeqAt.RcNeAt.tuples (A:=A) (e:=λj=>C4 (xs.getD j .A7) (ys.getD j .A7)) g f c it;rw[e]at k1 k2;exact⟨k1,k2⟩
theorem pM(I:Inv X Zj Z H s):∀(d:Nat)(x y:V)(p q:PV),Rep H x p->Rep H y q->dat X.K d p->dat X.K d q->∀(A:Around)(u v:Value),RelV x u->RelV y v->A.units+d<cLine->SeqAt.EqAt A s u v (C4 p q):=λd=>by
 induction d with
 |zero=>
  intro x y p q k h h1 h2 A u v f c D;rcases Gi h1 k with⟨i,e1⟩|⟨_,_,_,_,_,e,_⟩
  .rcases Gi h2 h with⟨g,m⟩|⟨_,_,_,_,_,e,_⟩
   .subst e1;subst m;rw[OJ i g];exact QL f c (Pq i) (Pq g)
   .cases e
  .cases e
 |succ d C=>
  intro x y p q k h h1 h2 A u v f c D;rcases Gi h1 k with⟨i,e1⟩|⟨J,tp,a,vs,xs,e,n,k1⟩
  .rcases Gi h2 h with⟨g,m⟩|⟨G,BO,b,ws,ys,e,l,k2⟩
   .subst e1;subst m;rw[OJ i g];exact QL f c (Pq i) (Pq g)
   .obtain⟨A0,o,_,j,_⟩:=l.Iy I;subst e1;subst o;cases(show v=Value.ref b from c);rw[(Zb l i).2];exact(dI j i f (by omega)).1.2
  .cases e;rcases Gi h2 h with⟨g,m⟩|⟨G,BO,b,ws,ys,e,l,k2⟩
   .obtain⟨A0,ex,_,j,_⟩:=n.Iy I;subst m;subst ex;cases(show u=Value.ref a from f);rw[(Zb n g).1];exact(dI j g c (by omega)).1.1
   .cases e;obtain⟨A0,ex,v1,B,w⟩:=n.Iy I;obtain⟨BW,o,v2,z,t⟩:=l.Iy I;subst ex;subst o;cases(show u=Value.ref a from f);cases(show v=Value.ref b from c)
    by_cases r:a=b
    .subst r;rw[lL I (d+1) _ p q k h h1 h2];exact .same _
    .rw[dD n l];refine SeqAt.EqAt.of_refs r (iO B z v1 v2 w t (by omega) λx y p q u v F E k h f c=>?_).1;exact C x y p q k h (k1 p F) (k2 q E) A.in1 u v f c (by show A.units+1+d<cLine;omega)
end
noncomputable def OV.at(t:OV):List Nat->Option OV
 | []=>some t
 |j::p=>match t with
  | .nd _ _ xs=>(xs[j]?).bind λx=>OV.at x p
  | .tp xs=>(xs[j]?).bind λx=>OV.at x p
  | .fz _=>none
noncomputable def OV.put(t:OV)(l:List Nat)(n:OV):OV:=match l with
 | []=>n
 |j::p=>match t with
  | .nd k a xs=>match xs[j]? with
   |some x=>.nd k a (xs.set j (OV.put x p n))
   |none=>.nd k a xs
  | .tp xs=>match xs[j]? with
   |some x=>.tp (xs.set j (OV.put x p n))
   |none=>.tp xs
  | .fz q=>.fz q
theorem OV.Kv:t.at []=some t:=by rw[OV.at]
theorem OV.LZ{k:NK}{xs:List OV}:(OV.nd k a xs).at (j::p)=(xs[j]?).bind λx=>x.at p:=by rw[OV.at]
theorem OV.MG{xs:List OV}:(OV.tp xs).at (j::p)=(xs[j]?).bind λx=>x.at p:=by rw[OV.at]
theorem OV.Mk:t.put [] n=n:=by rw[OV.put]
theorem OV.PD{k:NK}{xs:List OV}(h:xs[j]?=some x):(OV.nd k a xs).put (j::p) n=.nd k a (xs.set j (x.put p n)):=by rw[OV.put,h]
theorem OV.O4{xs:List OV}(h:xs[j]?=some x):(OV.tp xs).put (j::p) n=.tp (xs.set j (x.put p n)):=by rw[OV.put,h]
theorem OV.Og{u w:OV}:∀{p:List Nat}{t:OV}{j:Nat},t.at p=some u->u.at [j]=some w->t.at (p++[j])=some w
 | [],t,j,h,h2=>by rw[OV.Kv]at h;cases h;exact h2
 |i::p,.nd k a xs,j,h,h2=>by
  rw[OV.LZ]at h;rw[Vj,OV.LZ];cases e:xs[i]? with
  |none=>rw[e]at h;cases h
  |some x=>rw[e]at h;exact OV.Og (t:=x) h h2
 |i::p,.tp xs,j,h,h2=>by
  rw[OV.MG]at h;rw[Vj,OV.MG];cases e:xs[i]? with
  |none=>rw[e]at h;cases h
  |some x=>rw[e]at h;exact OV.Og (t:=x) h h2
 |i::p,.fz q,j,h,h2=>by rw[OV.at]at h;cases h
theorem K2:∀{xs:List OV}{j:Nat}{x:OV},xs[j]?=some x->∃l r,OV.Ap xs=l++x.addrs++r/\∀y:OV,OV.Ap (xs.set j y)=l++y.addrs++r
 |x::xs,0,z,h=>by
  simp at h;subst h;exact⟨[],OV.Ap xs,by rw[OV.D9];rfl,λy=>by rw[du,OV.D9];rfl⟩
 |x::xs,j+1,z,h=>by
  obtain⟨l,r,e1,a⟩:=K2 (xs:=xs) (j:=j) (x:=z) (by simpa using h)
  refine⟨x.addrs++l,r,by rw[OV.D9,e1];simp[BY],λy=>by rw[Qc,OV.D9,a];simp[BY]⟩
theorem OV.split{u:OV}:∀{p:List Nat}{t:OV},t.at p=some u->∃l r,t.addrs=l++u.addrs++r/\∀n:OV,(t.put p n).addrs=l++n.addrs++r
 | [],t,h=>by rw[OV.Kv]at h;cases h;exact⟨[],[],by simp,λn=>by rw[OV.Mk];simp⟩
 |j::p,.nd k a xs,h=>by
  rw[OV.LZ]at h;cases e:xs[j]? with
  |none=>rw[e]at h;cases h
  |some x=>
   rw[e]at h;obtain⟨l,r,e1,f⟩:=K2 e;obtain⟨l2,b,d,c⟩:=OV.split (t:=x) h;refine⟨a::(k.more++(l++l2)),b++r,by rw[OV.DS,e1,d];simp[BY],λn=>by rw[OV.PD e,OV.DS,f,c];simp[BY]⟩
 |j::p,.tp xs,h=>by
  rw[OV.MG]at h;cases e:xs[j]? with
  |none=>rw[e]at h;cases h
  |some x=>
   rw[e]at h;obtain⟨l,r,e1,f⟩:=K2 e;obtain⟨l2,b,d,c⟩:=OV.split (t:=x) h;refine⟨l++l2,b++r,by rw[OV.Ge,e1,d];simp[BY],λn=>by rw[OV.O4 e,OV.Ge,f,c];simp[BY]⟩
 |j::p,.fz q,h=>by rw[OV.at]at h;cases h
theorem BH.get{F H:Hp}{vs:List V}{c:List OV}{j:Nat}{t:OV}(r:BH F H vs c)(e:c[j]?=some t):∃v,vs[j]?=some v/\Ai F H v t:=by
 induction c generalizing vs j with
 |nil=>cases e
 |cons q ps d=>
  obtain⟨v,ws,rfl,a,b⟩:=r.inv;cases j with
  |zero=>cases e;exact⟨_,rfl,a⟩
  |succ j=>exact d (vs:=ws) (j:=j) b e
theorem BH.append{xs ys:List OV}(r:BH F H vs xs)(s:BH F H ws ys):BH F H (vs++ws) (xs++ys):=by
 induction xs generalizing vs with
 |nil=>cases r.Ck;exact s
 |cons p ps c=>obtain⟨v,us,rfl,a,b⟩:=r.inv;exact .cons a (c b)
theorem BH.one{F H:Hp}{v:V}{t:OV}(r:Ai F H v t):BH F H [v] [t]:=.cons r .nil
theorem Wh(r:AE F vs xs):BH F H vs (xs.map .fz):=by
 induction xs generalizing vs with
 |nil=>cases r.Ck;exact .nil
 |cons p ps c=>obtain⟨v,us,rfl,a,b⟩:=r.inv;exact .cons (.fz a) (c b)
theorem BH.gA(r:BH F H vs (xs.map .fz)):AE F vs xs:=by
 induction xs generalizing vs with
 |nil=>cases r.Ck;exact .nil
 |cons p ps c=>obtain⟨v,us,rfl,a,b⟩:=r.inv;exact .cons a.inv (c b)
theorem P8:∀(xs:List PV),OV.Ap (xs.map .fz)=[]
 | []=>by rw[QZ,OV.Ap]
 |x::r=>by rw[Ce,OV.D9,OV.KS,P8 r];rfl
theorem BH.set{xs:List OV}(j:Nat)(r:BH F H vs xs)(q:Ai F H v t):BH F H (vs.set j v) (xs.set j t):=by
 induction xs generalizing vs j with
 |nil=>cases r.Ck;exact .nil
 |cons p ps c=>
  obtain⟨u,us,rfl,a,b⟩:=r.inv;cases j with
  |zero=>exact .cons q b
  |succ j=>exact .cons a (c j b)
theorem BH.swap{xs:List OV}(r:BH F H vs xs)(h:xs[j]?=some x)(e:vs[j]?=some v)(hk:∀l r,OV.Ap xs=l++x.addrs++r->(∀z:OV,OV.Ap (xs.set j z)=l++z.addrs++r)->∀b∈l++r,∀o,H b=some o->H' b=some o)(f:Ai F H' v y):BH F H' vs (xs.set j y):=by
 induction xs generalizing vs j with
 |nil=>cases h
 |cons p ps k=>
  obtain⟨u,us,rfl,a,b⟩:=r.inv;cases j with
  |zero=>
   cases h;cases e;refine .cons f (b.mono (AF.refl _) λc d o=>hk [] (OV.Ap ps) (by rw[OV.D9];rfl) (λz=>by rw[du,OV.D9];rfl) c d o)
  |succ j=>
   rw[Qc];obtain⟨l,q,e1,m⟩:=K2 (xs:=ps) (j:=j) h;refine .cons (a.mono (AF.refl _) λc d o=>hk (p.addrs++l) q (by rw[OV.D9,e1,BY,BY,BY]) (λz=>by rw[Qc,OV.D9,m,BY,BY,BY]) c (D6 _ (D6 _ d)) o) (k (vs:=us) (j:=j) b h e λi g CN B4 c d o=>?_);refine hk (p.addrs++i) g (by rw[OV.D9,CN,BY,BY,BY]) (λz=>by rw[Qc,OV.D9,B4,BY,BY,BY]) c ?_ o;rcases List.mem_append.mp d with hz|hz
   .exact D6 _ (Bo _ hz)
   .exact Bo _ hz
theorem Ai.at{F H:Hp}{u:OV}:∀{p:List Nat}{t:OV}{v:V},Ai F H v t->t.at p=some u->∃w,Ai F H w u/\∀(H':Hp)(n:OV),Ai F H' w n->(∀l r,t.addrs=l++u.addrs++r->(∀n:OV,(t.put p n).addrs=l++n.addrs++r)->∀b∈l++r,∀o,H b=some o->H' b=some o)->Ai F H' v (t.put p n)
 | [],t,v,h,e=>by rw[OV.Kv]at e;cases e;exact⟨v,h,λH' n r _=>by rw[OV.Mk];exact r⟩
 |j::p,.fz q,v,h,e=>by rw[OV.at]at e;cases e
 |j::p,.nd k a xs,_,.nd h sd ft r,e=>by
  rw[OV.LZ]at e;cases ex:xs[j]? with
  |none=>rw[ex]at e;cases e
  |some x=>
   rw[ex]at e;obtain⟨D,SY,y⟩:=r.get ex;obtain⟨w,d,go⟩:=Ai.at (t:=x) y e;refine⟨w,d,λH' n s hk=>?_⟩;obtain⟨l2,m,C,B⟩:=OV.split e;have key:∀l r,OV.Ap xs=l++x.addrs++r->(∀z:OV,OV.Ap (xs.set j z)=l++z.addrs++r)->∀b,b∈(a::(k.more++(l++l2)))++(m++r)->∀o,H b=some o->H' b=some o:=λl r e1 i b c o=>
    hk (a::(k.more++(l++l2))) (m++r) (by rw[OV.DS,e1,C];simp[BY]) (λn=>by rw[OV.PD ex,OV.DS,i,B];simp[BY]) b c o
   obtain⟨l,q,e1,i⟩:=K2 ex;rw[OV.PD ex];refine .nd (key l q e1 i a (by simp) _ h) (NK.Xl sd λb c=>key l q e1 i b (by simp[c])) ft ?_;refine r.swap ex SY (λg f CN B4 b c o=>key g f CN B4 b (by rcases List.mem_append.mp c with hz|hz <;> simp[hz]) o) ?_
   refine go H' n s λg f g1 A b c o=>?_;refine hk (a::(k.more++(l++g))) (f++q) (by rw[OV.DS,e1,g1];simp[BY]) (λn=>by rw[OV.PD ex,OV.DS,i,A];simp[BY]) b (by rcases List.mem_append.mp c with hz|hz <;> simp[hz]) o
 |j::p,.tp xs,_,.tp h r,e=>by
  rw[OV.MG]at e;cases ex:xs[j]? with
  |none=>rw[ex]at e;cases e
  |some x=>
   rw[ex]at e;obtain⟨D,SY,y⟩:=r.get ex;obtain⟨w,d,go⟩:=Ai.at (t:=x) y e;refine⟨w,d,λH' n s hk=>?_⟩;obtain⟨l2,m,C,B⟩:=OV.split e;obtain⟨l,q,e1,i⟩:=K2 ex;rw[OV.O4 ex];refine .tp h (r.swap ex SY (λg f CN B4 b c o=>?_) (go H' n s λg f g1 A b c o=>?_))
   .exact hk (g++l2) (m++f) (by rw[OV.Ge,CN,C];simp[BY]) (λn=>by rw[OV.O4 ex,OV.Ge,B4,B];simp[BY]) b (by rcases List.mem_append.mp c with hz|hz <;> simp[hz]) o
   .exact hk (l++g) (f++q) (by rw[OV.Ge,e1,g1];simp[BY]) (λn=>by rw[OV.O4 ex,OV.Ge,i,A];simp[BY]) b (by rcases List.mem_append.mp c with hz|hz <;> simp[hz]) o
theorem Z1{l u r n:List Addr}(h:(l++u++r).Nodup)(g:n.Nodup)(hd:∀b∈n,b∈u∨b∉l++u++r):(l++n++r).Nodup:=by
 rw[EO]at h ⊢;obtain⟨h1,h2,f⟩:=h;rw[EO]at h1 ⊢;obtain⟨a1,a2,i⟩:=h1;refine⟨⟨a1,g,λa c b d e=>?_⟩,h2,λa c b d e=>?_⟩
 .subst e;rcases hd a d with z|z
  .exact i a c a z rfl
  .exact z (by simp[c])
 .subst e;rcases List.mem_append.mp c with c|c
  .exact f a (by simp[c]) a d rfl
  .rcases hd a c with z|z
   .exact f a (by simp[z]) a d rfl
   .exact z (by simp[d])
theorem Sg.Wc(S:Sg E ss Z F H){k:NK}{xs:List OV}{ho:HO}{lt:Bool}(hi:ss[i]?=some (.ow lt t))(Cc:t.at p=some (.nd k a xs))(K:Ai F (upd H a ho) (.ref a) n)(nd:n.addrs.Nodup)
  (ZQ:∀b∈n.addrs,b∈(OV.nd k a xs).addrs∨(F b=none/\E.H0 b=none/\∀(j:Nat)s,ss[j]?=some s->¬ BK s Z[j]? b)):Sg E (ss.set i (.ow lt (t.put p n))) Z F (upd H a ho):=by
 obtain⟨v,e,r,SF,q⟩:=S.ok i _ hi;obtain⟨l,I,e1,y⟩:=OV.split Cc;have f:a∈(OV.nd k a xs).addrs:=by rw[OV.DS];simp
 have h:∀b∈(OV.nd k a xs).addrs,b∈t.addrs:=λb c=>by rw[e1];simp[c]
 have R:∀b∈n.addrs,b∈(OV.nd k a xs).addrs∨b∉t.addrs:=λb c=>(ZQ b c).imp id λz m=>z.2.2 i _ hi m;obtain⟨w,u,go⟩:=r.at Cc;have L:w=.ref a:=by cases u;rfl
 subst L;have g:∀(j:Nat)s,(ss.set i .any)[j]?=some s->∀b,b∈t.addrs->¬ BK s Z[j]? b:=λj s d b c m=>by
  by_cases z:j=i
  .subst z;rw[Cp (List.getElem?_eq_some_iff.mp hi).1]at d;cases d;cases m
  .rw[CJ (BG z)]at d;exact S.Bd j i s _ b z d hi m c
 have Q:=(S.drop i).Ka (o:=ho) (q a (h a f)).1 ((q a (h a f)).2.imp id λz=>z.2) λj s d=>g j s d a (h a f);have C:=SF;rw[e1,EO,EO]at C;obtain⟨⟨_,_,N⟩,_,M⟩:=C;have T:∀b,b∈l++I->b≠a:=λb c z=>by
  subst z;rcases List.mem_append.mp c with c|c
  .exact N b c b f rfl
  .exact M b (by simp[f]) b c rfl
 have J:Ai F (upd H a ho) v (t.put p n):=go _ n K λV U g1 W b c o G=>by
  rw[AN ?_];exact G;rintro rfl;have B:=SF;rw[g1,EO,EO]at B;obtain⟨⟨_,_,P⟩,_,O⟩:=B;rcases List.mem_append.mp c with c|c
  .exact P b c b f rfl
  .exact O b (by simp[f]) b c rfl
 have A:∀b∈(t.put p n).addrs,b∈t.addrs∨(F b=none/\E.H0 b=none/\∀(j:Nat)s,ss[j]?=some s->¬ BK s Z[j]? b):=λb c=>by
  rw[y]at c;rcases List.mem_append.mp c with c|c
  .rcases List.mem_append.mp c with c|c
   .exact .inl (by rw[e1];simp[c])
   .exact(ZQ b c).imp (h b) id
  .exact .inl (by rw[e1];simp[c])
 have D:=Q.setG (j:=i) (s:=.ow lt (t.put p n)) (v:=v) ⟨v,rfl,J,by rw[y];exact Z1 (e1▸SF) nd λb c=>(R b c).imp id (by rw[e1];exact id),λb c=>(A b c).elim (q b) λz=>⟨z.1,.inl z.2.1⟩⟩ λb c j s d x m=>by
  rcases A b c with z|z
  .exact g j s x b z m
  .rw[CJ (BG d)]at x;exact z.2.2 j s x m
 rw[L4 e,Qd]at D;exact D
structure Wl [Xw] (ss:List Slot) (i:Nat) (t:OV) (te:TE) (k:List Nat->OV->Prop):Prop where
 hi:∃lt,ss[i]?=some (.ow lt t)
 go:∀(E:Ent)(Z:L2.St)(F H:Hp)(Q:VK),Sg E ss Z F H->(∀v p u F' H',Mv E ss Z F H F' H'->Ai F' H' v u->t.at p=some u->k p u->Q v H')->te Z H Q
noncomputable def DW:List Nat->List Slot->List Slot
 | [],ss=>ss
 |i::m,ss=>DW m (ss.set i .any)
structure Wx [Xw] (ss:List Slot) (te:TE) (k:List Nat->OV->Prop):Prop where
 go:∀(E:Ent)(Z:L2.St)(F H:Hp)(Q:VK),Sg E ss Z F H->(∀v m u F' H',Mv E ss Z F H F' H'->Ai F' H' v u->u.addrs.Nodup->(∀a∈u.addrs,F' a=none/\E.H0 a=none/\((∃i∈m,∃s,s≠Slot.AH/\ss[i]?=some s/\BK s Z[i]? a)∨H a=none))->k m u->Q v H')->te Z H Q
section
variable[Xw]
variable{K:zu}{k:PV->Prop}
theorem OV.Nb(h:t.at p=some u):∀a∈u.addrs,a∈t.addrs:=λa b=>by
 obtain⟨l,r,e,_⟩:=OV.split h;rw[e];simp[b]
theorem Ai.mv(r:Ai F H v u)(S:Sg E ss Z F H)(hi:∃lt,ss[i]?=some (.ow lt t))(h:t.at p=some u)(m:Mv E ss Z F H F' H'):Ai F' H' v u:=
 r.mono m.ff λa b o e=>m.hh a o (S.Sb hi.choose_spec (OV.Nb h a b) (by simp)) e
theorem G2{lt:Bool}{k:List Nat->OV->Prop}(hi:ss[i]?=some (.ow lt t))(hk:k [] t):Wl ss i t (BE i) k:=⟨⟨lt,hi⟩,λE Z F H Q S q=>by
 obtain⟨v,e,r,_,_⟩:=S.ok i _ hi;exact⟨v,e,q v [] t F H (.refl S) r OV.Kv hk⟩⟩
theorem MJ{k:List Nat->OV->Prop}(h:Wl ss i t ta λp u=>∃a xs,u=.nd .lst a xs/\Wp ss tb λq=>∃(j:Int)(n:Nat)(w:OV),q=.int j/\EX xs.length j=some n/\xs[n]?=some w/\k (p++[n]) w):Wl ss i t (BF (G7 K) ta tb) k:=⟨h.hi,λE Z F H Q S q=>
 h.go E Z F H _ S λv p u F1 H1 b l h1⟨a,xs,r,h2⟩=>h2.go E Z F1 H1 _ b.st λv2 p2 F2 H2 m2 g⟨j,n,w,e,m,hw,kk⟩=>by
  subst e;cases g.inv;have f:=l.mv b.st h.hi h1 m2;subst r;obtain⟨_,rfl,o,s,y,c⟩:=f.inv;obtain⟨x,hx,d⟩:=c.get hw;refine⟨a,_,j,x,rfl,rfl,AI.of o,?_,q x (p++[n]) w F2 H2 (b.trans m2) d (OV.Og h1 (by rw[OV.LZ,hw];exact OV.Kv)) kk⟩;unfold L2.BM;rw[c.length,m];exact hx⟩
theorem O0{k:List Nat->OV->Prop}(h:Wl ss i t ta λp u=>∃xs,u=.tp xs/\Wp ss tb λq=>∃(j:Int)(n:Nat)(w:OV),q=.int j/\EX xs.length j=some n/\xs[n]?=some w/\k (p++[n]) w):Wl ss i t (BF (HW K) ta tb) k:=⟨h.hi,λE Z F H Q S q=>
 h.go E Z F H _ S λv p u F1 H1 a g h1⟨xs,o,h2⟩=>h2.go E Z F1 H1 _ a.st λv2 p2 F2 H2 m2 f⟨j,n,w,e,l,hw,kk⟩=>by
  subst e;cases f.inv;have d:=g.mv a.st h.hi h1 m2;subst o;obtain⟨_,_,rfl,m,b⟩:=d.inv;obtain⟨x,hx,c⟩:=b.get hw;refine⟨_,_,j,x,rfl,rfl,Ag.of (m2.st.fh _ _ m),?_,q x (p++[n]) w F2 H2 (a.trans m2) c (OV.Og h1 (by rw[OV.MG,hw];exact OV.Kv)) kk⟩;unfold L2.BM;rw[b.length,l];exact hx⟩
theorem Kp(h:Wl ss i t te λ_ u=>∃p,u=.fz p/\k p):Wp ss te k:=⟨λE Z F H Q S q=>
 h.go E Z F H _ S λv p u F1 H1 b a h1 AU=>by obtain⟨p,c,kk⟩:=AU;subst c;cases a with|fz r=>exact q v p F1 H1 b r kk⟩
theorem cJ{k:List Nat->OV->Prop}(h:Wp ss te λp=>k [] (.fz p)):Wx ss te k:=⟨λE Z F H Q S q=>
 h.go E Z F H _ S λv p F1 H1 c r kk=>q v [] (.fz p) F1 H1 c (.fz r) (by rw[OV.KS];exact GC) (λa b=>by rw[OV.KS]at b;cases b) kk⟩
theorem O3(a:Addr)(xs:List PV):(OV.nd .lst a (xs.map .fz)).addrs=[a]:=by rw[OV.DS,P8];rfl
theorem Ov{j:Nat}{s:Slot}:∀{m:List Nat}{ss:List Slot},(DW m ss)[j]?=some s->s=.any∨(ss[j]?=some s/\j∉m)
 | [],ss,h=>.inr ⟨h,by simp⟩
 |i::m,ss,h=>by
  rcases Ov (m:=m) (ss:=ss.set i .any) h with e|⟨e,hm⟩
  .exact .inl e
  .by_cases q:j=i
   .subst q;have a:j<ss.length:=by have:=(List.getElem?_eq_some_iff.mp e).1;simpa using this
    rw[Cp a]at e;exact .inl (BB e).symm
   .rw[CJ (BG q)]at e;exact .inr ⟨e,by simp[q,hm]⟩
theorem Sg.DW{E:Ent0}{Z:L2.St}{F H:Hp}:∀(m:List Nat){ss:List Slot},Sg E ss Z F H->Sg E (Fz.DW m ss) Z F H
 | [],_,S=>S
 |i::m,_,S=>Sg.DW m (S.drop i)
theorem Sg.Xn(S0:Sg E ss Z F0 H0)(S:Sg E ss Z F H)(r:Ai F H v u)(nd:u.addrs.Nodup)(c:∀a∈u.addrs,F a=none/\E.H0 a=none/\((∃i∈m,∃s,s≠Slot.AH/\ss[i]?=some s/\BK s Z[i]? a)∨H0 a=none)):
  Sg E ((Fz.DW m ss).set j (.ow false u)) (Z.set j (some v)) F H:=by
 refine(S.DW m).setG ⟨v,rfl,r,nd,λa b=>⟨(c a b).1,.inl (c a b).2.1⟩⟩ λa b i s CG g o=>?_;rcases Ov g with e|⟨Fg,hm⟩
 .subst e;cases o
 .rcases(c a b).2.2 with⟨f,FT,s2,_,D4,d⟩|z
  .exact S.Bd i f s s2 a (by rintro rfl;exact hm FT) Fg D4 o d
  .exact S0.Fj Fg o z
theorem aD(h:Wx ss te λm u=>nx ((Fz.DW m ss).set j (.ow false u))):Ws ss (Dm te (CU j)) nx R:=⟨λE D Z F H S c d=>
 h.go E Z F H _ S λv m u F1 H1 a r nd b kk=>c _ _ F1 H1 kk (Sg.Xn S a.st r nd b) a.ff⟩
theorem jt{t':TS}(i:Nat)(hi:ss[i]?=some (.own xs))(h:∀l,Ws (ss.set i (.ow false (.nd .lst l (xs.map .fz)))) t' nx R):Ws ss t' nx R:=⟨λE D Z F H S f d=>by
 obtain⟨l,vs,e,e1,o,n,r⟩:=S.ok i _ hi;have b:=Sg.Xn (j:=i) (m:=[i]) (v:=.ref l) (u:=.nd .lst l (xs.map .fz)) S S (.nd (k:=.lst) n trivial trivial (Wh r)) (by rw[O3];simp) λa c=>by
  rw[O3]at c;have ea:a=l:=by simpa using c
  subst ea;exact⟨e1,o,.inl ⟨i,by simp,_,by simp,hi,e⟩⟩
 rw[L4 e]at b;have g:(Fz.DW [i] ss).set i (.ow false (.nd .lst l (xs.map .fz)))=ss.set i (.ow false (.nd .lst l (xs.map .fz))):=by show(ss.set i .any).set i _=_;rw[Qd]
 rw[g]at b;exact(h l).go E D Z F H b f d⟩
theorem Ai.rep(ff:AF F F1):∀{v:V}{t:OV},Ai F H v t->(∀a∈t.addrs,∀o,H a=some o->F1 a=some o)->Rep F1 v t.pv:=by
 intro v t r h;exact Ai.rec (motive_1:=λv t _=>(∀a∈t.addrs,∀o,H a=some o->F1 a=some o)->Rep F1 v t.pv) (motive_2:=λvs g _=>(∀a∈OV.Ap g,∀o,H a=some o->F1 a=some o)->AE F1 vs (OV.Fs g))
  (λ{v p}r _=>by rw[OV.pv];exact r.mono ff)
  (λ{a vs xs}e _ c h=>by rw[OV.pv];exact .tup (ff _ _ e) (c (by rw[OV.Ge]at h;exact h)))
  (λ{k a vs xs}e j i _ c h=>by
   rw[OV.DS]at h;have f:=c λa b=>h a (by simp[b]);have d:=h a (by simp) _ e;cases k with
   |lst=>rw[OV.pv];exact .lst d f
   |An ks=>rw[OV.pv];exact .An d i f
   |obj C dx ns=>rw[OV.pv];exact .obj d (h dx (by simp[NK.more]) _ j) i f
   |O6 ks=>rw[OV.pv];exact .con)
  (λ_=>by rw[OV.Fs];exact .nil)
  (λ_ _ Lu Lb h=>by
   rw[OV.D9]at h;rw[OV.Fs];exact .cons (Lu λa b=>h a (by simp[b])) (Lb λa b=>h a (by simp[b])))
  r h
variable{lt:Bool}
theorem QH:(OV.nd .lst a us).addrs=a::OV.Ap us:=by rw[OV.DS];rfl
theorem Sr:∀(us ws:List OV),OV.Ap (us++ws)=OV.Ap us++OV.Ap ws
 | [],ws=>by rw[dj,OV.JB,dj]
 |u::us,ws=>by rw[Vj,OV.D9,OV.D9,Sr us ws,BY]
theorem Ym(u:OV):OV.Ap [u]=u.addrs:=by rw[OV.D9,OV.JB,Ef]
theorem Sg.p5{Cj:List OV}(S0:Sg E ss Z F0 H0)(S:Sg E ss Z F H)(hi:ss[i]?=some (.ow lt t))(Cc:t.at p=some (.nd .lst a us))
  (d:∀a∈u.addrs,F a=none/\E.H0 a=none/\((∃i∈m,∃s,s≠Slot.AH/\ss[i]?=some s/\BK s Z[i]? a)∨H0 a=none)) (Ig:i∉m)
  (I:BH F H Bl Cj) (Ul:(OV.Ap Cj).Nodup) (Iw:∀b∈OV.Ap Cj,b∈OV.Ap us∨b∈u.addrs):Sg E ((Fz.DW m ss).set i (.ow lt (t.put p (.nd .lst a Cj)))) Z F (upd H a (.lst Bl)):=by
 have L:(Fz.DW m ss)[i]?=some (.ow lt t):=by
  have n:∀(m:List Nat)(ss:List Slot),ss[i]?=some (.ow lt t)->i∉m->(Fz.DW m ss)[i]?=some (.ow lt t):=by
   intro m
   induction m with
   |nil=>intro ss h _;exact h
   |cons j m D=>
    intro ss h f;refine D _ ?_ λz=>f (by simp[z]);rw[CJ (by rintro rfl;exact f (by simp))];exact h
  exact n m ss hi Ig
 obtain⟨v,e,r,nd,q⟩:=S.ok i _ hi;have B:∀b,b∈a::OV.Ap us->b∈t.addrs:=λb c=>OV.Nb Cc b (by rw[QH];exact c);have K:∀b∈u.addrs,b∉t.addrs:=λb c z=>by
  rcases(d b c).2.2 with⟨j,J,s,_,g,o⟩|w
  .exact S.Bd j i s _ b (by rintro rfl;exact Ig J) g hi o z
  .exact S0.Fj hi z w
 have A:(OV.nd .lst a us).addrs.Nodup:=by
  obtain⟨l,M,e1,_⟩:=OV.split Cc;rw[e1,EO,EO]at nd;exact nd.1.2.1
 rw[QH]at A;have x:∀b∈OV.Ap Cj,b≠a:=λb c z=>by
  subst z;rcases Iw b c with w|w
  .exact(List.nodup_cons.mp A).1 w
  .exact K b w (B b (by simp))
 refine(S.DW m).Wc L Cc (.nd (k:=.lst) AV trivial trivial (I.mono (AF.refl _) λb c o ho=>by rw[AN (x b c)];exact ho)) (by rw[QH];exact List.nodup_cons.mpr ⟨λz=>x a z rfl,Ul⟩) λb c=>?_;rw[QH]at c ⊢;rcases List.mem_cons.mp c with w|w
 .exact .inl (by simp[w])
 .rcases Iw b w with z|z
  .exact .inl (by simp[z])
  .refine .inr ⟨(d b z).1,(d b z).2.1,λj s g o=>?_⟩;rcases Ov g with y|⟨Fg,f⟩
   .subst y;cases o
   .rcases(d b z).2.2 with⟨G,FT,s2,_,D4,C⟩|y
    .exact S.Bd j G s s2 b (by rintro rfl;exact f FT) Fg D4 o C
    .exact S0.Fj Fg o y
end
def ptr(a:Addr):Hp->V->Prop:=λ_ v=>v=.ref a
section
variable[Xw]
variable{K:zu}{k:PV->Prop}{lt:Bool}
theorem Sg.pX(S:Sg E ss Z F H)(hi:ss[i]?=some (.ow lt t))(Cc:t.at p=some (.nd .lst a (ps.map .fz)))(e:AE F Bl ZC):Sg E (ss.set i (.ow lt (t.put p (.nd .lst a (ZC.map .fz))))) Z F (upd H a (.lst Bl)):=
 Sg.p5 (m:=[]) (u:=.fz .A7) S S hi Cc (λa d=>by rw[OV.KS]at d;cases d) (by simp) (Wh e) (by rw[P8];exact GC) λb c=>by rw[P8]at c;cases c
theorem Sg.gy(S:Sg E ss Z F H)(hi:ss[i]?=some (.ow lt t))(Cc:t.at p=some (.nd .lst a (ps.map .fz))):∃vs,H a=some (.lst vs)/\AE F vs ps:=by
 obtain⟨v,e,r,_,_⟩:=S.ok i _ hi;obtain⟨w,b,_⟩:=r.at Cc;obtain⟨_,rfl,d,_,_,c⟩:=b.inv;exact⟨_,d,c.gA⟩
theorem jB(h:Wp ss te λq=>Wl ss i t ta λp u=>∃(lt:Bool)(a:Addr)(ps:List PV),ss[i]?=some (.ow lt t)/\u=.nd .lst a (ps.map .fz)/\Wp ss ti λj=>∃n:Nat,j=.int n/\n<ps.length/\nx (ss.set i (.ow lt (t.put p (.nd .lst a ((ps.set n q).map .fz)))))):Ws ss (Dm te (Oa ta ti Ra)) nx R:=⟨λE D Z F H S l y=>
 h.go E Z F H _ S λv q F1 H1 d e h2=>h2.go E Z F1 H1 _ d.st λv2 p u F2 H2 m2 g Cc⟨lt,a,ps,hi,r,m⟩=>by
  subst r;have o:v2=.ref a:=by cases g;rfl
  subst o;refine m.go E Z F2 H2 _ m2.st λw x F3 H3 b f⟨n,s,Qm,kk⟩=>?_;subst s;cases f;obtain⟨vs,k,c⟩:=b.st.gy hi Cc;refine⟨a,vs,_,n,rfl,rfl,k,WX (by rw[c.length];exact Qm),?_⟩;exact l _ Z F3 _ kk (b.st.pX hi Cc (c.set n (e.mono (m2.ff.trans b.ff)))) (d.ff.trans (m2.ff.trans b.ff))⟩
end
theorem Ai.nO(r:Ai F H v t):∀a∈t.addrs,∀vs,H a≠some (.tup vs):=
 Ai.rec (motive_1:=λ_ t _=>∀a∈t.addrs,∀vs,H a≠some (.tup vs)) (motive_2:=λ_ d _=>∀a∈OV.Ap d,∀vs,H a≠some (.tup vs))
  (λ_ a c _=>by rw[OV.KS]at c;cases c)
  (λ_ _ i a c vs=>by rw[OV.Ge]at c;exact i a c vs)
  (λ{k}{b}{_}{_}h f _ _ i a c vs=>by
   rw[OV.DS,De,NF]at c;rcases c with rfl|c|c
   .rw[h];cases k <;> (intro z;cases z)
   .cases k with
    |obj C dx ns=>
     have e:a=dx:=List.mem_singleton.mp c;subst e;have g:H a=some (.own b):=f;rw[g];intro z;cases z
    |_=>exact absurd c BZ
   .exact i a c vs)
  (λa c _=>by rw[OV.JB]at c;cases c)
  (λ_ _ i k a c ws=>by
   rw[OV.D9,NF]at c;rcases c with c|c
   .exact i a c ws
   .exact k a c ws)
  r
mutual
def MD:PV->Bool
 | .lst _=>false
 | .An _ _=>false
 | .obj _ _ _=>false
 | .exc _ _ _=>false
 | .tup xs=>K6 xs
 |_=>true
def K6:List PV->Bool
 | []=>true
 |x::r=>MD x && K6 r
end
noncomputable def Gg(F:Hp)(as:List Addr):Hp:=λa=>if a∈as then none else F a
theorem Rep.sub(h:∀a∈as,∀vs,F a≠some (.tup vs)):∀{v:V}{p:PV},Rep F v p->MD p=true->Rep (Gg F as) v p:=by
 intro v p r d;exact Rep.rec (motive_1:=λv p _=>MD p=true->Rep (Gg F as) v p) (motive_2:=λvs ps _=>K6 ps=true->AE (Gg F as) vs ps)
  (λ_=>.A7) (λb _=>.bl b) (λi _=>.int i) (λx _=>.str x)
  (λ_ _ _ z=>Bool.noConfusion (show false=true from z))
  (λ{a vs xs}e _ c z=>.tup (by unfold Gg;rw[eJ (λq=>h a q vs e)];exact e) (c z))
  (λ_ _ _ _ z=>Bool.noConfusion (show false=true from z))
  (λ_ _ _ _ _ z=>Bool.noConfusion (show false=true from z))
  (λ_=>.con)
  (λ_ z=>Bool.noConfusion (show false=true from z))
  (λ_ _ _ _ _ z=>Bool.noConfusion (show false=true from z))
  (λ_=>.nil)
  (λ_ _ Lu Lb z=>by
   have z:=(Cn _ _).mp z;exact .cons (Lu z.1) (Lb z.2))
  r d
theorem AE.sub(h:∀a∈as,∀vs,F a≠some (.tup vs))(r:AE F vs ps)(z:K6 ps=true):AE (Gg F as) vs ps:=by
 induction ps generalizing vs with
 |nil=>cases r.Ck;exact .nil
 |cons p ps c=>
  obtain⟨v,ws,rfl,a,b⟩:=r.inv;have z:=(Cn _ _).mp z;exact .cons (a.sub h z.1) (c b z.2)
theorem Ua:∀(xs:List PV),OV.Fs (xs.map .fz)=xs
 | []=>by rw[QZ,OV.Fs]
 |x::r=>by rw[Ce,OV.Fs,OV.pv,Ua r]
end Fz
namespace L2
variable{M:Model}{A:Around}{E xe:Value->Shared->Prop}{s:Shared}{Zu:Heap}{env:Env}{outer:List Env}{C S ea f fI:Addr}{dx tb:Option Addr}{w:World}{mg:zw}{N ps sn:List Str}{n name par qual x:Str}{scope:Scope}{cd v:Value}{H:Hp}{X:Cx}{E':St->XK}{CP Kx np p pos:Pos}{e e0:Expr}{es:List Expr}{t:TA}{ab tY:Bool}{prog:Program}{Zj z6:zv}{Z:St}{j kk:Nat}{fd:FuncData}{aG body:List Stmt}{b0:Stmt}{XD:(St->XK)->TS}{th:TS}{sp:Sp}
theorem Pk{α:Type}{l:List α}{n:Nat}(h:l.length=n+1):∃a r,l=a::r/\r.length=n:=by
 cases l with
 |nil=>cases h
 |cons a r=>exact⟨a,r,rfl,Hm h⟩
section
variable{K:zu}{x t:Addr}
section
open PySem.Builtin PySem.Builtin.ObjectAttr
end
end
end L2
namespace Fz
open L2 Lw
variable{E:Ent0}{ss:List Slot}{Z:L2.St}{F F' F1 H H':Hp}{ta tb tc te ti:TE}{tp:Bool}{xs:List PV}{nx:List Slot->Prop}{R:Ac}
section
variable[Xw]
variable{K:zu}{k:PV->Prop}{v:V}
theorem gf{k:List PV->Prop}(h:Wq ss te λ_ xs=>∃ns:List Int,xs=ns.map PV.int/\ns.length<64/\∀Di:List Int,Di.Perm ns->Di.Pairwise (·<=·)->k (Di.map PV.int)):Wn ss (CK (Xp K) (Ah te BV)) k:=⟨λE Z F H Q S q=>
 h.go E Z F H _ S λv tp xs F1 H1 b sv AU=>by
  obtain⟨ns,e,f,kk⟩:=AU;subst e;obtain⟨l,vs,rfl,d,r⟩:=sv.seq b.st;rw[r.ints]at d;refine⟨l,tp,ns,rfl,Cz.sq d,f,λa Di c i g=>?_⟩;have m2:=b.st.make c (.lst (Di.map V.int));exact q a _ _ F1 _ (b.trans m2) (b.st.Be c) (b.none c) AV (by rw[<- NW];exact MP (Pj Di)) (kk Di i g)⟩
end
def XZ:Pre:=λl R=>∃i:Int,l=[.is (.int i)]/\R=.is λp=>p=.bl true
end Fz
namespace Fz
open L2 Lw
variable{E:Ent0}{ss:List Slot}{Z:L2.St}{F F' H H':Hp}{te:TE}{nx:List Slot->Prop}{R:Ac}{pre:Nl}
@[reducible] noncomputable def zS (X:XK) (D:Ex->Prop):Xw:=⟨λ_=>X,λ_=>True,D⟩
@[reducible] noncomputable def zd (E:Ent0) (J:List Slot->Prop) (D:Ex->Prop):Xw:=⟨λZ C dx H=>∃ss F x,J ss/\Sg E ss Z F H/\D x/\x.at F C dx,J,D⟩
end Fz
namespace Fz
open L2 Lw
variable{i j n:Nat}{l ss:List Slot}{ta tb te:TE}{a a0:Addr}{N ms ns:List Str}{t t' u:OV}{pre:Pre}{F F' H H':Hp}{Z:L2.St}{E:Ent0}{vs:List V}{nk:NK}{us:List OV}{Q:VK}{X:XK}
theorem kg{b c n:Int}(e:1<=b)(d:b<=c)(a:0<=n):∃m:Nat,(if(if c<n then c else n) > b then(if c<n then c else n)else b)=(m:Int)/\(m:Int)<=c:=by
 have h:∀z:Int,1<=z->z<=c->∃m:Nat,z=(m:Int)/\(m:Int)<=c:=λz f h1=>⟨z.toNat,by omega,by omega⟩;apply h
 .split
  .omega
  .omega
 .split
  .split <;> omega
  .omega
def EM(pre:Pre):Sp:=λvs H Q _=>∃(ss:List Slot)(R:Ac)(F:Hp)(A B:List Addr),pre ss R/\Sg ⟨A,F,H,B⟩ ss (vs.map some) F H/\∀v F' H',Fin ⟨A,F,H,B⟩ F' H'->R.ok ⟨A,F,H,B⟩ F' H' v->Q v H'
inductive Hc (F:Hp):List V->List Slot->Prop where
 |nil:Hc F [] []
 |cons {v:V}{p:PV}{vs:List V}{l:List Slot}:Rep F v p->Hc F vs l->Hc F (v::vs) (.is p::l)
inductive HC (Z:L2.St) (F:Hp) (i:Nat) (t:OV):List V->List Slot->Prop where
 |here {v:V}{vs:List V}{l:List Slot}:Z[i]?=some (some v)->Hc F vs l->HC Z F i t (v::vs) (.ow true t::l)
 |there {v:V}{p:PV}{vs:List V}{l:List Slot}:Rep F v p->HC Z F i t vs l->HC Z F i t (v::vs) (.is p::l)
theorem Hc.len:∀{vs:List V}{l:List Slot},Hc F vs l->l.length=vs.length:=by
 intro vs l h
 induction h with
 |nil=>rfl
 |cons _ _ a=>rw[Am,Am,a]
theorem HC.len:∀{vs:List V}{l:List Slot},HC Z F i t vs l->l.length=vs.length:=by
 intro vs l h
 induction h with
 |here _ r=>rw[Am,Am,r.len]
 |there _ _ a=>rw[Am,Am,a]
theorem Hc.at:∀{vs:List V}{l:List Slot},Hc F vs l->∀{n:Nat}{s:Slot},l[n]?=some s->∃v p,vs[n]?=some v/\s=.is p/\Rep F v p:=by
 intro vs l h
 induction h with
 |nil=>intro n s e;rw[List.getElem?_nil]at e;cases e
 |cons r _ a=>
  intro n s e;cases n with
  |zero=>cases(show some _=some s from e);exact⟨_,_,rfl,rfl,r⟩
  |succ n=>exact a (n:=n) e
theorem HC.at:∀{vs:List V}{l:List Slot},HC Z F i t vs l->∃m:Nat,∀{n:Nat}{s:Slot},l[n]?=some s->(n=m/\s=.ow true t/\∃v,vs[n]?=some v/\Z[i]?=some (some v))∨∃v p,vs[n]?=some v/\s=.is p/\Rep F v p:=by
 intro vs l h
 induction h with
 |here e r=>
  refine⟨0,λ{n s}h=>?_⟩;cases n with
  |zero=>cases(show some _=some s from h);exact .inl ⟨rfl,rfl,_,rfl,e⟩
  |succ n=>exact .inr (r.at (n:=n) h)
 |there r _ b=>
  obtain⟨m,c⟩:=b;refine⟨m+1,λ{n s}q=>?_⟩;cases n with
  |zero=>cases(show some _=some s from q);exact .inr ⟨_,_,rfl,rfl,r⟩
  |succ n=>
   rcases c (n:=n) (s:=s) q with⟨e,es,a⟩|a
   .exact .inl ⟨iI Nat.succ e,es,a⟩
   .exact .inr a
structure I0 (E:Ent0) (ss:List Slot) (Z:L2.St) (i:Nat) (lt:Bool) (t t':OV) (F H F' H':Hp):Prop where
 st:Sg E (ss.set i (.ow lt t')) Z F' H'
 ff:AF F F'
 hh:∀a o,CH ss Z a->a∉t.addrs->H a=some o->H' a=some o
 nn:∀a o,F' a=some o->F a=some o∨H a=none
structure cG [Xw] (ss:List Slot) (ta:TA) (k:List Slot->Prop):Prop where
 go:∀(E:Ent)(Z:L2.St)(F H:Hp)(Q:List V->Hp->Prop),Sg E ss Z F H->(∀vs l F' H',Mv E ss Z F H F' H'->Hc F' vs l->k l->Q vs H')->ta Z H Q
structure NY [Xw] (ss:List Slot) (i:Nat) (t:OV) (ta:TA) (k:List Slot->Prop):Prop where
 go:∀(E:Ent)(Z:L2.St)(F H:Hp)(Q:List V->Hp->Prop),Sg E ss Z F H->(∀vs l F' H',Mv E ss Z F H F' H'->HC Z F' i t vs l->k l->Q vs H')->ta Z H Q
structure Wm [Xw] (ss:List Slot) (i:Nat) (lt:Bool) (t:OV) (te:TE) (k:PV->OV->Prop):Prop where
 go:∀(E:Ent)(Z:L2.St)(F H:Hp)(Q:VK),Sg E ss Z F H->(∀v p t' F' H',I0 E ss Z i lt t t' F H F' H'->Rep F' v p->k p t'->Q v H')->te Z H Q
structure NZ [Xw] (ss:List Slot) (i:Nat) (lt:Bool) (t:OV) (c:TT) (k:Bool->OV->Prop):Prop where
 go:∀(E:Ent)(Z:L2.St)(F H:Hp)(Q:Bool->Hp->Prop),Sg E ss Z F H->(∀b t' F' H',I0 E ss Z i lt t t' F H F' H'->k b t'->Q b H')->c Z H Q
theorem I0.of{lt:Bool}(hi:ss[i]?=some (.ow lt t))(m:Mv E ss Z F H F' H'):I0 E ss Z i lt t t F H F' H':=⟨by
 rw[show ss.set i (.ow lt t)=ss from by
  apply QQ;intro n
  by_cases q:i=n
  .subst q;rw[Cp (List.getElem?_eq_some_iff.mp hi).1,hi]
  .rw[CJ q]]
 exact m.st,m.ff,λa o n _ e=>m.hh a o n e,m.nn⟩
theorem Sg.kl{lt:Bool}(S:Sg E ss Z F H)(hi:ss[i]?=some (.ow lt t))(a:HC Z F i t vs l):Sg ⟨[],F,H,t.addrs⟩ l (vs.map some) F H:=by
 obtain⟨w,e0,c,JO,k⟩:=S.ok i _ hi;have nn:∀{p:Prop}(a:Addr),a∈([]:List Addr)->p:=λa h=>absurd h BZ;obtain⟨m,g⟩:=a.at;refine⟨⟨S.fh,AF.refl _,λ_ _ _ e=>e,λ_ _ e=>.inl e,λa h=>nn a h,λa h=>nn a h,λa h=>nn a h,λa h=>(k a h).1,λa h=>c.there a h,λa h=>⟨c.there a h,BZ⟩⟩,by rw[AB];exact a.len,λn s f=>?_,λn j s u b MQ f x ms mu=>?_⟩
 .rcases g f with⟨_,rfl,v,d,q⟩|⟨v,p,d,rfl,r⟩
  .rw[AM,d];rw[e0]at q;cases q;exact⟨w,rfl,c,JO,λa o=>⟨(k a o).1,.inr ⟨rfl,o⟩⟩⟩
  .rw[AM,d];exact⟨v,rfl,r⟩
 .rcases g f with⟨e1,rfl,_⟩|⟨_,_,_,rfl,_⟩
  .rcases g x with⟨y,rfl,_⟩|⟨_,_,_,rfl,_⟩
   .exact MQ (e1.trans y.symm)
   .cases mu
  .cases ms
theorem Sg.rP{lt:Bool}{GX:NK}{Cj:List OV}(S:Sg E ss Z F H)(hi:ss[i]?=some (.ow lt (.nd nk a0 us)))(f:Fin ⟨[],F,H,(OV.nd nk a0 us).addrs⟩ F' H')(r:Ai F' H' (.ref a0) (.nd GX a0 Cj))(nd:(OV.nd GX a0 Cj).addrs.Nodup)(q:∀a∈(OV.nd GX a0 Cj).addrs,F' a=none/\(H a=none∨a∈(OV.nd nk a0 us).addrs)):
  I0 E ss Z i lt (.nd nk a0 us) (.nd GX a0 Cj) F H F' H':=by
 obtain⟨G,e0,I,JO,w⟩:=S.ok i _ hi;have M:G=.ref a0:=by cases I;rfl
 subst M;have D:i<ss.length:=(List.getElem?_eq_some_iff.mp hi).1;have kp:∀a o,a∉(OV.nd nk a0 us).addrs->H a=some o->H' a=some o:=λa o n e=>f.keep a o ⟨BZ,n⟩ e;have Be:∀a,H a≠none->F a=none->F' a=none:=λa h1 h2=>by
  cases e:F' a with
  |none=>rfl
  |some o=>
   rcases f.fresh a o e with z|z
   .rw[show F a=some o from z]at h2;cases h2
   .exact absurd z h1
 have N:∀a,a∈E.A->a∉(OV.nd nk a0 us).addrs:=λa h m=>by
  rcases(w a m).2 with z|⟨_,z⟩
  .exact S.a0 a h z
  .exact(S.b0 a z).2 h
 have d:∀(j:Nat)s,j≠i->ss[j]?=some s->∀a,BK s Z[j]? a->a∉(OV.nd nk a0 us).addrs:=λj s g t a ho m=>S.Bd j i s _ a g t hi ho m;refine⟨⟨⟨f.fh,S.f0.trans f.f0,λa o h e=>?_,λa o e=>?_,λa h=>?_,λa h=>?_,S.a0,λa v=>?_,λa v=>?_,S.b0⟩,by rw[Gm];exact S.len,λj s g=>?_,λj k s u b Q3 g hk ms mu=>?_⟩,f.f0,λa o _ n e=>kp a o n e,λa o e=>f.fresh a o e⟩
 .refine kp a o (λm=>?_) (S.keep a o h e);rcases(w a m).2 with z|⟨_,z⟩
  .rw[e]at z;cases z
  .exact h.2 z
 .rcases f.fresh a o e with z|z
  .exact S.fresh a o z
  .exact .inr (S.Dl z)
 .exact BU.keep (S.DX a h) λo e=>kp a o (N a h) e
 .obtain⟨_,_,e1,_⟩:=S.DX a h;exact Be a (by rw[e1];simp) (S.Kh a h)
 .exact Be a (S.bH a v) (S.bF a v)
 .by_cases m:a∈(OV.nd nk a0 us).addrs
  .exact f.bH a m
  .intro z;cases e:H a with
   |none=>exact S.bH a v e
   |some o=>rw[kp a o m e]at z;cases z
 .by_cases c:j=i
  .subst c;rw[Cp D]at g;cases g;refine⟨.ref a0,e0,r,nd,λa y=>⟨(q a y).1,?_⟩⟩;rcases(q a y).2 with z|z
   .exact .inl (S.Dl z)
   .exact(w a z).2
  .rw[CJ (BG c)]at g
   by_cases np:s=.AH
   .subst np;obtain⟨l,e,L,K,pt⟩:=S.ok j _ g;obtain⟨_,_,e1,_⟩:=id pt;exact⟨l,e,Be l (by rw[e1];simp) L,K,BU.keep pt λo z=>kp l o (d j _ c g l e) z⟩
   .exact Ok.go S g f.f0 (λa o ho e=>kp a o (d j s c g a ho) e) Be np
 .have at_:∀(n:Nat)s,(ss.set i (.ow lt (.nd GX a0 Cj)))[n]?=some s->(n=i/\s=.ow lt (.nd GX a0 Cj))∨(n≠i/\ss[n]?=some s):=λn s p=>by
   by_cases c:n=i
   .subst c;rw[Cp D]at p;exact .inl ⟨rfl,(BB p).symm⟩
   .rw[CJ (BG c)]at p;exact .inr ⟨c,p⟩
  have C:∀(n:Nat)s,n≠i->ss[n]?=some s->BK s Z[n]? b->b∉(OV.nd GX a0 Cj).addrs:=λn s p t ho m=>by
   rcases(q b m).2 with z|z
   .exact S.Fj t ho z
   .exact d n s p t b ho z
  rcases at_ j s g with⟨e1,rfl⟩|⟨J,h1⟩
  .rcases at_ k u hk with⟨B,rfl⟩|⟨x,h2⟩
   .exact Q3 (e1.trans B.symm)
   .exact C k u x h2 mu ms
  .rcases at_ k u hk with⟨B,rfl⟩|⟨x,h2⟩
   .exact C j s J h1 ms mu
   .exact S.Bd j k s u b Q3 h1 h2 ms mu
section
variable[Xw]
variable{ta:TA}{lt:Bool}{nx:List Slot->Prop}{R:Ac}
theorem Yi{k:List Slot->Prop}(h:k []):cG ss BV k:=⟨λE Z F H Q S q=>q [] [] F H (Mv.refl S) .nil h⟩
theorem Zx{k:List Slot->Prop}(hi:ss[i]?=some (.ow lt t))(h:cG ss ta λl=>k (.ow true t::l)):NY ss i t (Ah (BE i) ta) k:=⟨λE Z F H Q S q=>by
 obtain⟨b,e0,_⟩:=S.ok i _ hi;exact⟨_,e0,h.go E Z F H _ S λvs l F2 H2 m2 a kk=>q _ _ F2 H2 m2 (.here e0 a) kk⟩⟩
theorem Kl{k:List Slot->Prop}(h:Wp ss te λp=>NY ss i t ta λl=>k (.is p::l)):NY ss i t (Ah te ta) k:=⟨λE Z F H Q S q=>
 h.go E Z F H _ S λv p F1 H1 b r h2=>h2.go E Z F1 H1 _ b.st λvs l F2 H2 m2 a kk=>q _ _ F2 H2 (b.trans m2) (.there (r.mono m2.ff) a) kk⟩
theorem Mv.aN{F1 H1 F2 H2:Hp}(hi:ss[i]?=some (.ow lt t))(a:Mv E ss Z F H F1 H1)(b:I0 E ss Z i lt t t' F1 H1 F2 H2):I0 E ss Z i lt t t' F H F2 H2:=
 ⟨b.st,a.ff.trans b.ff,λc o n z e=>b.hh c o n z (a.hh c o n e),λc o e=>(b.nn c o e).elim (λe=>a.nn c o e) λe=>.inr (a.none e)⟩
theorem XB{k:PV->OV->Prop}(hi:ss[i]?=some (.ow lt (.nd nk a0 us)))(h:NY ss i (.nd nk a0 us) ta λl=>∃k',pre l (.mt k')/\∀p t',k' p t'->∃GX Cj,t'=.nd GX a0 Cj/\k p t'):Wm ss i lt (.nd nk a0 us) (Dy (EM pre) [] E0 ta) k:=⟨λE Z F H Q S q=>
 h.go E Z F H _ S λvs l F1 H1 b a⟨k',e,kk⟩=>by
  rw[Ef];refine⟨l,.mt k',F1,[],(OV.nd nk a0 us).addrs,e,b.st.kl hi a,λv F' H' f⟨p,t',r,c,nd,d,kp⟩=>?_⟩;obtain⟨GX,Cj,rfl,k2⟩:=kk p t' kp;exact q v p _ F' H' (b.aN hi (b.st.rP hi f c nd d)) r k2⟩
theorem oz{k:Bool->OV->Prop}(h:Wm ss i lt t te λp t'=>∃c,p=.bl c/\k c t'):NZ ss i lt t (tB te) k:=⟨λE Z F H Q S q=>
 h.go E Z F H _ S λv p t' F1 H1 a r AU=>by
  obtain⟨c,e,kk⟩:=AU;subst e;cases r.inv;exact⟨c,rfl,q c t' F1 H1 a kk⟩⟩
theorem nZ{c d:TT}{k:Bool->OV->Prop}(hi:ss[i]?=some (.ow lt t))(h:Wt ss c λb=>if b=true then k true t else NZ ss i lt t d k):NZ ss i lt t (Lj c d) k:=⟨λE Z F H Q S q=>
 h.go E Z F H _ S λb F1 H1 a kk=>by
  cases b with
  |false=>rw[eJ (by decide)]at kk;exact kk.go E Z F1 H1 _ a.st λb t' F2 H2 m2 k2=>q b t' F2 H2 (a.aN hi m2) k2
  |true=>rw[eM rfl]at kk;exact q true t F1 H1 (I0.of hi a) kk⟩
theorem rG{c:TT}{u v:TS}(h:NZ ss i lt t c λb t'=>if b=true then Ws (ss.set i (.ow lt t')) u nx R else Ws (ss.set i (.ow lt t')) v nx R):Ws ss (N4 c u v) nx R:=⟨λE D Z F H S e d=>
 h.go E Z F H _ S λb t' F1 H1 a kk=>by
  cases b with
  |true=>rw[eM rfl]at kk;exact kk.go E D Z F1 H1 a.st (λA4 σ' F' H' n S' s=>e A4 σ' F' H' n S' (a.ff.trans s)) d
  |false=>rw[eJ (by decide)]at kk;exact kk.go E D Z F1 H1 a.st (λA4 σ' F' H' n S' s=>e A4 σ' F' H' n S' (a.ff.trans s)) d⟩
theorem vy(h:Wm ss i lt t te λ_ t'=>nx (ss.set i (.ow lt t'))):Ws ss (JJ te) nx R:=⟨λE D Z F H S b c=>
 h.go E Z F H _ S λv p t' F1 H1 a r kk=>b _ Z F1 H1 kk a.st a.ff⟩
theorem sL{k:PV->OV->Prop}(hi:ss[i]?=some (.ow lt (.nd nk a0 us)))(h:Wp ss te λp=>k p (.nd nk a0 us)):Ws ss (IZ te) nx (.mt k):=⟨λE D Z F H S l g=>
 h.go E Z F H _ S λv p F1 H1 d r kk=>by
  obtain⟨f,e0,b,JO,c⟩:=d.st.ok i _ hi;have j:f=.ref a0:=by cases b;rfl
  subst j;exact g v F1 H1 d.st.toFin ⟨p,.nd nk a0 us,r,b,JO,λa e=>⟨(c a e).1,(c a e).2.imp id λz=>z.2⟩,kk⟩⟩
end
theorem jN{t:TS}(h:EM pre vs H Q X)(b:∀ss R,pre ss R->ss.length=n)
  (hw:∀ss R,pre ss R->Ws (ss++List.replicate (N.length - n) .any) t (λ_=>False) R):t { nx:=λ_ H'=>Q .A7 H',rt:=Q } (L2.start N vs) H:=by
 obtain⟨ss,R,F,A,B,a,S,q⟩:=h;have e:vs.length=n:=by have:=S.len;rw[AB]at this;rw[<- this];exact b ss R a
 unfold L2.start;rw[e];exact(hw ss R a).go (SU ⟨A,F,H,B⟩) _ _ F H (S.grown _) (λA4 σ' F' H' z S' _=>z.elim) λv F' H' f ok=>q v F' H' f ok
theorem uQ(b:∀ss R,pre ss R->ss.length=n)(h:EM pre vs H Q X):vs.length=n:=by
 obtain⟨ss,R,F,A,B,a,S,q⟩:=h;have:=S.len;rw[AB]at this;rw[<- this];exact b ss R a
theorem Sg.d8(S:Sg E ss Z F H)(d:ss[j]?=some (.ow false u)):Sg E (ss.set j (.is u.pv)) Z (Ec F H u.addrs) H/\AF F (Ec F H u.addrs):=by
 obtain⟨v,e,r,nd,f⟩:=S.ok j _ d;obtain⟨S1,g⟩:=(S.drop j).lay u.addrs (λa b=>⟨(f a b).1,(f a b).2.elim id (λz=>by cases z.1),r.there a b⟩) λa b n s c m=>by
  by_cases q:n=j
  .subst q;rw[Cp (List.getElem?_eq_some_iff.mp d).1]at c;cases c;cases m
  .rw[CJ (BG q)]at c;exact S.Bd n j s _ a q c d m b
 have h:=S1.Gf (j:=j) (v:=v) (p:=u.pv) (r.rep g λa b o ho=>by unfold Ec;rw[eM b];exact ho);rw[L4 e,Qd]at h;exact⟨h,g⟩
theorem kK{p:Slot}(c:ss[j]?=some (.ow false u))(b:p≠.AH)(a:Addr):CH ss Z a->CH (ss.set j p) Z a:=λn k hk=>by
 by_cases q:k=j
 .subst q;rw[Cp (List.getElem?_eq_some_iff.mp c).1]at hk;cases hk;exact absurd rfl b
 .rw[CJ (BG q)]at hk;exact n k hk
theorem Sg.jP(S:Sg E ss Z F H)(d:ss[j]?=some (.ow false u))(ff:AF (Ec F H u.addrs) F')(fh:AF F' H'):(∀a∈u.addrs,F' a=H a/\H' a=H a/\H a≠none)/\∀a∈u.addrs,∀ws,F' a≠some (.tup ws):=by
 obtain⟨v,e,r,nd,f⟩:=S.ok j _ d;have at_:∀a∈u.addrs,F' a=H a/\H' a=H a/\H a≠none:=λa b=>by
  cases q:H a with
  |none=>exact absurd q (r.there a b)
  |some o=>
   have c:F' a=some o:=ff a o (by unfold Ec;rw[eM b];exact q);exact⟨c,fh a o c,by simp⟩
 exact⟨at_,λa b ws q=>by rw[(at_ a b).1]at q;exact r.nO a b ws q⟩
theorem Sg.sO(S:Sg E ss Z F H)(b:ss[j]?=some (.ow false u))(m:Mv E (ss.set j (.is u.pv)) Z (Ec F H u.addrs) H F' H'):Mv E ss Z F H (Gg F' u.addrs) H'/\∀a∈u.addrs,∀ws,F' a≠some (.tup ws):=by
 obtain⟨v,e,r,nd,c⟩:=S.ok j _ b;obtain⟨S2,f⟩:=S.d8 b;obtain⟨at_,d⟩:=S.jP b m.ff m.st.fh;refine⟨S.step (λa o ea=>?_) (λa o ea=>?_) (λa o n ea=>m.hh a o (kK b (λz=>by cases z) a n) ea) (λa o ea=>?_) (λk l hk g=>?_),d⟩
 .unfold Gg;rw[eJ (λq=>by rw[(c a q).1]at ea;cases ea)];exact m.ff a o (f a o ea)
 .unfold Gg at ea;split at ea
  .cases ea
  .exact m.st.fh a o ea
 .unfold Gg at ea;split at ea
  .cases ea
  .rename_i q;rcases m.nn a o ea with z|z
   .unfold Ec at z;rw[eJ q]at z;exact .inl z
   .exact .inr z
 .refine m.st.Ep (i:=k) ?_ g;rw[CJ (λq=>by subst q;rw[b]at hk;cases hk)];exact hk
section
variable[Xw]
variable{lt:Bool}
theorem ag{k:List PV->Prop}(j:Nat)(a:ss[j]?=some (.ow false u))(h:Wn (ss.set j (.is u.pv)) te λys=>K6 ys=true/\k ys):Wn ss te k:=⟨λE Z F H Q S q=>by
 obtain⟨S2,f⟩:=S.d8 a;refine h.go E Z _ H Q S2 λl2 HA ys F' H' m e h2 Cv b⟨d,kk⟩=>?_;obtain⟨M,c⟩:=S.sO a m;exact q l2 HA ys _ H' M (by unfold Gg;split <;> first|rfl|exact e) h2 Cv (b.sub c d) kk⟩
end
end Fz
namespace L2
section
variable{X:Cx}{o i value:Expr}{td ty tv:TE}{pos pos':Pos}
theorem u9(f:X.A.units+1<cLine)(ho:QE X o td)(hi:QE X i ty)(j:UB i):QE X (.Subscript o i pos) (TZ td ty):=⟨by
 have ho:=ho.h;have hi:=hi.h;intro Zj s Z H Q I h;refine tL PySem.F.slot_dict_getitem.lookup j (ho.k I h λu s1 x H1 I1 c e=>hi.k I1 e λn s2 y H2 I2 b⟨a,v,ex,g,d⟩=>?_);subst ex;obtain rfl:u=Value.ref a:=c;exact⟨kO I2 g,wD f I2 g b λl m I3 HF=>⟨v,H2,I3,HF,d⟩⟩⟩
theorem Xq(m:X.A.units+1<cLine)(ho:QE X o td)(hi:QE X i ty)(b:QE X value tv)(n:swapsWith value (some (.Subscript o i pos')) pos.line X.env=pure false:=by rfl):
  QS X (.Assign [.Subscript o i pos'] value pos) (PF td ty tv):=⟨by
 have ho:=ho.h;have hi:=hi.h;have b:=b.h;intro Zj s Z H D I h;refine wpAny_Assign_Subscript (b.k I h λr s1 v H1 I1 e l=>ho.k I1 l λu s2 x H2 I2 d j=>hi.k I2 j λq p y H3 I3 c⟨a,H4,ex,g,f⟩=>?_) n;subst ex;obtain rfl:u=Value.ref a:=d;exact kh m I3 g c e λs4 I4=>⟨Z,H4,I4,f⟩⟩
theorem Rg:QE X (.Dict [] [] pos) NX:=⟨λZj s Z H Q I h=>
 wpAny_Dict_empty ⟨.ref s.heap.objs.size,_,I.laid (a:=s.heap.objs.size) (o:=.dK []) (t':=s.toks) (λ_ _ q=>Af _ q) (AW _) (mU s.heap I.big),rfl,h _ (I.AA.fresh (AW _))⟩⟩
end
end L2
namespace Fz
open L2 Lw
variable{F:Hp}{ss:List Slot}{td tv ty:TE}{nx:List Slot->Prop}{R:Ac}{i:Nat}{ks:List Key}{Bl vs:List V}{t u:OV}{a:Addr}{us:List OV}{m p:List Nat}{f:Str}
noncomputable def Mu:Key->PV
 | .inl i=>.int i
 | .inr x=>.str x
noncomputable def LF:List Key->List PV->Key->Option PV
 |k'::ks,x::xs,k=>if k'=k then some x else LF ks xs k
 |_,_,_=>none
def Fq(ks:List Key)(k:Key):Bool:=ks.any λk'=>decide (k'=k)
def Ie(ks:List Key)(k:Key):List Key:=if Fq ks k=true then ks else ks++[k]
theorem Nn{v:V}{k:Key}(r:Rep F v (Mu k)):v=kV k:=by
 cases k with
 |inl i=>cases r.inv;rfl
 |inr x=>cases r.inv;rfl
theorem r8{k:Key}{y:PV}:∀{ks:List Key}{vs:List V}{xs:List PV},AE F vs xs->ks.length=vs.length->LF ks xs k=some y->∃v,E9 (ks.zip vs) k=some v/\Rep F v y:=by
 intro ks
 induction ks with
 |nil=>intro vs xs _ _ h;cases h
 |cons k' ks d=>
  intro vs xs r e h;cases xs with
  |nil=>cases h
  |cons x xs=>
   obtain⟨v,ws,rfl,a,b⟩:=r.inv;have h:(if k'=k then some x else LF ks xs k)=some y:=h
   rw[Vr]
   by_cases c:k'=k
   .rw[eM c]at h;cases h;exact⟨v,Nw c,a⟩
   .rw[eJ c]at h;obtain⟨w,h1,h2⟩:=d b (Hm e) h;exact⟨w,by rw[OI c];exact h1,h2⟩
section
variable[Xw]
variable{k:PV->Prop}{lt:Bool}
theorem oH(h:Wp ss td λp=>∃ks xs,p=.An ks xs/\Wp ss ty λq=>∃key y,q=Mu key/\LF ks xs key=some y/\k y):Wp ss (TZ td ty) k:=⟨λE Z F H Q S q=>
 h.go E Z F H _ S λv p F1 H1 b f⟨ks,xs,e,h2⟩=>h2.go E Z F1 H1 _ b.st λv2 p2 F2 H2 m2 d⟨key,y,l,g,kk⟩=>by
  subst e;subst l;have m:=f.mono m2.ff;cases m with
  |An j i c=>
   obtain⟨w,hw,a⟩:=r8 c i g;refine⟨_,w,rfl,?_,q w y F2 H2 (b.trans m2) a kk⟩;rw[<- hw,Nn d];exact Gd.k (m2.st.fh _ _ j)⟩
theorem Zf{k:List Nat->OV->Prop}(h:∀a,k [] (.nd (.An []) a (([]:List PV).map .fz))):Wx ss NX k:=⟨λE Z F H Q S q p b=>by
 have m:=S.make b (.dK []);refine q _ [] (.nd (.An []) p (([]:List PV).map .fz)) F _ m (.nd (k:=.An []) (vs:=[]) AV trivial rfl .nil) (by rw[OV.DS];simp[NK.more,OV.JB]) (λa c=>?_) (h p);rw[OV.DS]at c;have e:a=p:=by simpa[NK.more,OV.JB]using c
 subst e;exact⟨S.Be b,S.Dl b,.inr b⟩⟩
theorem UE:∀{ks:List Key}{vs:List V}{key:Key},ks.length=vs.length->(ks.zip vs).any (λkv=>decide (kv.1=key))=Fq ks key
 | [],vs,key,h=>rfl
 |k'::ks,w::vs,key,h=>by
  rw[Vr,LK,UE (by simpa using h)]
  rfl
 |_::_,[],_,h=>by simp at h
noncomputable def Ft:List Key->List V->Key->V->List V
 |k'::ks,x::xs,k,p=>(if k'=k then p else x)::Ft ks xs k p
 |_,xs,_,_=>xs
theorem WZ:∀{ks:List Key}{vs:List V}{key:Key}{v:V},(ks.zip vs).map (λkv=>if kv.1=key then(kv.1,v)else kv)=ks.zip (Ft ks vs key v)
 | [],vs,key,v=>by simp
 |k'::ks,w::vs,key,v=>by
  rw[Vr,Ce,WZ,Ft,Vr]
  by_cases c:k'=key
  .rw[eM c,eM c]
  .rw[eJ c,eJ c]
 |_::_,[],_,_=>by simp[Ft]
end
noncomputable def En:List Key->Key->Option Nat
 | [],_=>none
 |k'::ks,k=>if k'=k then some 0 else(En ks k).map (· + 1)
theorem XN:∀{ks:List Key}{key:Key}{n:Nat},En ks key=some n->ks[n]?=some key
 | [],_,_,h=>by cases h
 |k'::ks,key,n,h=>by
  rw[En]at h
  by_cases c:k'=key
  .rw[eM c]at h;cases h;subst c;rfl
  .rw[eJ c]at h;cases e:En ks key with
   |none=>rw[e]at h;cases h
   |some m=>rw[e]at h;cases h;exact XN (ks:=ks) e
theorem Pa:∀{ks:List Key}{key:Key},(En ks key).isSome=Fq ks key
 | [],_=>rfl
 |k'::ks,key=>by
  rw[En];unfold Fq;rw[LK]
  by_cases c:k'=key
  .rw[eM c,eV c];rfl
  .rw[eJ c,fD c,VZ,eD,Pa];rfl
theorem Zl{key:Key}(a:ks.length=vs.length):(E9 (ks.zip vs) key).isSome=Fq ks key:=by
 rw[<- TM,UE a]
theorem ZP:∀{ks:List Key}{vs:List V}{key:Key}{n:Nat}{v:V},ks.Nodup->En ks key=some n->Ft ks vs key v=vs.set n v
 | [],_,_,_,_,_,h=>by cases h
 |k'::ks,[],key,n,v,_,h=>by rw[Ft];simp;simp
 |k'::ks,w::vs,key,n,v,nd,h=>by
  rw[En]at h;obtain⟨f,d⟩:=List.nodup_cons.mp nd;rw[Ft]
  by_cases c:k'=key
  .rw[eM c]at h;cases h;rw[eM c,du]
   congr 1
   subst c;have a:∀{ks:List Key}{vs:List V},k'∉ks->Ft ks vs k' v=vs:=by
    intro ks
    induction ks with
    |nil=>intro vs _;rw[Ft];simp
    |cons k2 ks g=>
     intro vs b;cases vs with
     |nil=>rw[Ft];simp
     |cons u vs=>
      rw[Ft,eJ (λz=>b (by rw[z];simp)),g (λz=>b (by simp[z]))]
   exact a f
  .rw[eJ c]at h;cases e:En ks key with
   |none=>rw[e]at h;cases h
   |some m=>
    rw[e]at h;cases h;rw[eJ c,Qc,ZP d e]
section
variable[Xw]
variable{ta:TE}{k:PV->Prop}
theorem cA(h:Wp ss ty λq=>Wl ss i t td λ_ u=>∃ks a us key,u=.nd (.An ks) a us/\q=Mu key/\k (.bl (!Fq ks key))):Wp ss (Of ty td) k:=⟨λE Z F H Q S q=>
 h.go E Z F H _ S λv p F1 H1 b d h2=>h2.go E Z F1 H1 _ b.st λv2 p2 u F2 H2 m2 c Cc AU=>by
  obtain⟨ks,a,us,key,g,eq,kk⟩:=AU;subst g;subst eq;obtain⟨vs,rfl,e,j,f,l⟩:=c.inv;refine⟨a,E9 (ks.zip vs) key,rfl,by rw[Nn d];exact Gd.k e,?_⟩;rw[Zl f];exact q _ _ F2 H2 (b.trans m2) (.bl _) kk⟩
theorem sj(h:Wp ss ty λq=>Wp ss td λu=>∃ks xs key,u=.An ks xs/\q=Mu key/\k (.bl (!Fq ks key))):Wp ss (Of ty td) k:=⟨λE Z F H Q S q=>
 h.go E Z F H _ S λv p F1 H1 b d h2=>h2.go E Z F1 H1 _ b.st λv2 u F2 H2 m2 c AU=>by
  obtain⟨ks,xs,key,f,eq,kk⟩:=AU;subst f;subst eq;cases c with
  |@An a _ vs _ g e i=>
   refine⟨a,E9 (ks.zip vs) key,rfl,by rw[Nn d];exact Gd.k (m2.st.fh _ _ g),?_⟩;rw[Zl e];exact q _ _ F2 H2 (b.trans m2) (.bl _) kk⟩
theorem Kt:(OV.nd (.An ks) a us).addrs=a::OV.Ap us:=by rw[OV.DS];rfl
theorem fH{lt:Bool}:∀(m:List Nat)(ss:List Slot),ss[i]?=some (.ow lt t)->i∉m->(Fz.DW m ss)[i]?=some (.ow lt t):=by
 intro m
 induction m with
 |nil=>intro ss h _;exact h
 |cons j m b=>
  intro ss h a;refine b _ ?_ λz=>a (by simp[z]);rw[CJ (by rintro rfl;exact a (by simp))];exact h
theorem Sg.qh{lt:Bool}{E:Ent0}{Z:L2.St}{F0 H0 H:Hp}{O7:List Key}{Cj:List OV}(S0:Sg E ss Z F0 H0)(S:Sg E ss Z F H)(hi:ss[i]?=some (.ow lt t))(Cc:t.at p=some (.nd (.An ks) a us))
  (d:∀a∈u.addrs,F a=none/\E.H0 a=none/\((∃i∈m,∃s,s≠Slot.AH/\ss[i]?=some s/\BK s Z[i]? a)∨H0 a=none)) (Ig:i∉m)
  (B:BH F H Bl Cj) (C:O7.length=Bl.length) (Ul:(OV.Ap Cj).Nodup) (Iw:∀b∈OV.Ap Cj,b∈OV.Ap us∨b∈u.addrs):Sg E ((Fz.DW m ss).set i (.ow lt (t.put p (.nd (.An O7) a Cj)))) Z F (upd H a (.dK (O7.zip Bl))):=by
 have I:=fH m ss hi Ig;obtain⟨v,e,r,nd,q⟩:=S.ok i _ hi;have n:∀b,b∈a::OV.Ap us->b∈t.addrs:=λb c=>OV.Nb Cc b (by rw[Kt];exact c);have G:∀b∈u.addrs,b∉t.addrs:=λb c z=>by
  rcases(d b c).2.2 with⟨j,D,s,_,f,o⟩|w
  .exact S.Bd j i s _ b (by rintro rfl;exact Ig D) f hi o z
  .exact S0.Fj hi z w
 have h:(OV.nd (.An ks) a us).addrs.Nodup:=by
  obtain⟨l,J,e1,_⟩:=OV.split Cc;rw[e1,EO,EO]at nd;exact nd.1.2.1
 rw[Kt]at h;have g:∀b∈OV.Ap Cj,b≠a:=λb c z=>by
  subst z;rcases Iw b c with w|w
  .exact(List.nodup_cons.mp h).1 w
  .exact G b w (n b (by simp))
 refine(S.DW m).Wc I Cc (.nd (k:=.An O7) AV trivial C (B.mono (AF.refl _) λb c o ho=>by rw[AN (g b c)];exact ho)) (by rw[Kt];exact List.nodup_cons.mpr ⟨λz=>g a z rfl,Ul⟩) λb c=>?_;rw[Kt]at c ⊢;rcases List.mem_cons.mp c with w|w
 .exact .inl (by simp[w])
 .rcases Iw b w with z|z
  .exact .inl (by simp[z])
  .refine .inr ⟨(d b z).1,(d b z).2.1,λj s f o=>?_⟩;rcases Ov f with y|⟨Fg,hm⟩
   .subst y;cases o
   .rcases(d b z).2.2 with⟨A,FT,s2,_,D4,x⟩|y
    .exact S.Bd j A s s2 b (by rintro rfl;exact hm FT) Fg D4 o x
    .exact S0.Fj Fg o y
def HV(ks:List Key)(us:List OV)(key:Key)(w:OV):List OV:=match En ks key with
 |some n=>us.set n w
 |none=>us++[w]
theorem aQ(h:Wx ss tv λm w=>Wl ss i t td λp u=>∃lt a ks us,ss[i]?=some (.ow lt t)/\u=.nd (.An ks) a us/\us.length<=99999/\ks.Nodup/\i∉m/\Wp ss ty λq=>∃key,q=Mu key/\nx ((Fz.DW m ss).set i (.ow lt (t.put p (.nd (.An (Ie ks key)) a (HV ks us key w)))))):Ws ss (PF td ty tv) nx R:=⟨λE D Z F H S hn hr=>
 h.go E Z F H _ S λv m w F1 H1 N L Yy a1 h2=>h2.go E Z F1 H1 _ N.st λv2 p u F2 H2 m2 K Cc z=>by
  obtain⟨lt,a,ks,us,hi,rfl,hz,hk,Ig,h3⟩:=z;refine h3.go E Z F2 H2 _ m2.st λv3 q F3 H3 B r3 z=>?_;obtain⟨key,rfl,kk⟩:=z;have ev:v2=.ref a:=K.inv.elim λ_ h=>h.1;subst ev;have C:=m2.trans B;have np:∀b∈w.addrs,CH ss Z b:=λb d k hk P=>by
   rcases(a1 b d).2.2 with⟨j,O,s,I,IH,o⟩|z
   .exact S.Bd j k s _ b (λe=>by subst e;rw[IH]at hk;exact I (BB hk)) IH hk o P
   .exact S.Fj hk P z
  have U:Ai F3 H3 v w:=L.mono C.ff λb d o e=>C.hh b o (np b d) e;have W:∀b∈w.addrs,F3 b=none/\E.H0 b=none/\((∃i∈m,∃s,s≠Slot.AH/\ss[i]?=some s/\BK s Z[i]? b)∨H b=none):=λb d=>by
   refine⟨?_,(a1 b d).2⟩;cases e:F3 b with
   |none=>rfl
   |some o=>
    rcases C.nn b o e with z|z
    .rw[(a1 b d).1]at z;cases z
    .exact absurd z (L.there b d)
  have r4:=K.mv m2.st ⟨lt,hi⟩ Cc B;cases r4 with
  |@nd _ _ vs _ ha sd ft A=>
   have G:ks.length=vs.length:=ft;have vl:=A.length;have σ:(ks.zip vs).length<=99999:=by rw[List.length_zip];omega
   refine⟨a,_,rfl,by rw[Nn r3];exact My.k ha (JI σ),?_⟩;obtain⟨v0,e0,r0,JO,q0⟩:=B.st.ok i _ hi;have J:(OV.nd (.An ks) a us).addrs.Nodup:=by
    obtain⟨l,A,e1,_⟩:=OV.split Cc;rw[e1,EO,EO]at JO;exact JO.1.2.1
   rw[Kt]at J;have f:∀b∈w.addrs,b∉OV.Ap us:=λb d z=>by
    have T:b∈t.addrs:=OV.Nb Cc b (by rw[Kt];simp[z]);rcases(a1 b d).2.2 with⟨j,O,s,_,I,o⟩|y
    .exact S.Bd j i s _ b (by rintro rfl;exact Ig O) I hi o T
    .exact S.Fj hi T y
   obtain⟨Bl,ep,X,sI,Jp,Y⟩:∃Bl:List V,putK (ks.zip vs) key v=(Ie ks key).zip Bl/\(Ie ks key).length=Bl.length/\BH F3 H3 Bl (HV ks us key w)/\(OV.Ap (HV ks us key w)).Nodup/\∀b∈OV.Ap (HV ks us key w),b∈OV.Ap us∨b∈w.addrs:=by
    unfold putK Ie HV;rw[UE G];cases e:En ks key with
    |some n=>
     have c:Fq ks key=true:=by rw[<- Pa,e];rfl
     have iE:n<us.length:=by
      have:=(List.getElem?_eq_some_iff.mp (XN e)).1;omega
     obtain⟨l,r,e1,Q⟩:=K2 (AL iE);rw[eM c,eM c,WZ,ZP hk e];refine⟨vs.set n v,rfl,by rw[Gm];exact G,A.set n U,?_,λb d=>?_⟩
     .show(OV.Ap (us.set n w)).Nodup;rw[Q];have M:=(List.nodup_cons.mp J).2;rw[e1]at M;exact Z1 M Yy λb d=>.inr (by rw[<- e1];exact f b d)
     .have g:b∈OV.Ap (us.set n w):=d;rw[Q]at g;rcases List.mem_append.mp g with z|z
      .rcases List.mem_append.mp z with z|z
       .exact .inl (by rw[e1];simp[z])
       .exact .inr z
      .exact .inl (by rw[e1];simp[z])
    |none=>
     have c:¬ Fq ks key=true:=by rw[<- Pa,e];decide
     rw[eJ c,eJ c];refine⟨vs++[v],by rw[List.zip_append G];rfl,by rw[BQ,BQ,G];rfl,A.append (.one U),?_,λb d=>?_⟩
     .show(OV.Ap (us++[w])).Nodup;rw[Sr,Ym,EO];exact⟨(List.nodup_cons.mp J).2,Yy,λx hx y hy e=>f y hy (e▸hx)⟩
     .have g:b∈OV.Ap (us++[w]):=d;rw[Sr,Ym]at g;exact List.mem_append.mp g
   rw[ep];exact hn _ Z F3 _ kk (Sg.qh (u:=w) S B.st hi Cc W Ig sI X Jp Y) (N.ff.trans C.ff)⟩
variable{K:zu}
end
end Fz
namespace L2
variable{o:Obj}{es:Array (Int×Value)}{C a:Addr}{ep i j n:Nat}{t:SetTable}{xs:Array Nat}{prog:Program}{w:World}{S f:Int->Bool}{A:Around}{E:Value->Shared->Prop}{s:Shared}
def CB(xs:Array Nat):Prop:=xs.toList.Pairwise (· < ·)
theorem CB.get{xs:Array Nat}(a:CB xs){i j:Nat}(CG:i<j)(h:j<xs.size):xs[i]'(by omega)<xs[j]:=by
 have q:=List.pairwise_iff_getElem.mp a i j (by rw[Bs];omega) (by rw[Bs];omega) CG
 simpa using q
theorem vX(xs:Array Nat)(g:CB xs)(j:Nat):∀(f lo hi:Nat),lo<=hi->hi<=xs.size->hi - lo<=f->(∀i,i<lo->(h:i<xs.size)->xs[i]<j)->(∀i,hi<=i->(h:i<xs.size)->j<=xs[i])->
  SetTable.below.go xs j f lo hi<=xs.size/\(∀i,i<SetTable.below.go xs j f lo hi->(h:i<xs.size)->xs[i]<j)/\∀i,SetTable.below.go xs j f lo hi<=i->(h:i<xs.size)->j<=xs[i]:=by
 intro f
 induction f with
 |zero=>
  intro lo hi h1 h2 m c b;have e:lo=hi:=by omega
  subst e;exact⟨h2,c,b⟩
 |succ f d=>
  intro lo hi h1 h2 m c b;unfold SetTable.below.go
  by_cases l:lo<hi
  .rw[eM l];have k:(lo+hi) / 2<xs.size:=by omega
   have n:xs.getD ((lo+hi) / 2) j=xs[(lo+hi) / 2]:=by simp[Array.getD,k]
   dsimp only;rw[n]
   by_cases a:xs[(lo+hi) / 2]<j
   .rw[eM a];refine d _ _ (by omega) h2 (by omega) (λi C6 h=>?_) b
    by_cases e:i=(lo+hi) / 2
    .subst e;exact a
    .exact Qe (g.get (by omega) k) a
   .rw[eJ a];refine d _ _ (by omega) (by omega) (by omega) c (λi C6 h=>?_)
    by_cases e:i=(lo+hi) / 2
    .subst e;omega
    .exact FK (Gn (Vs a) (g.get (by omega) h))
  .rw[eJ l];have e:lo=hi:=by omega
   subst e;exact⟨h2,c,b⟩
theorem OA(a:CB xs)(j:Nat):SetTable.below xs j<=xs.size/\(∀i,i<SetTable.below xs j->(h:i<xs.size)->xs[i]<j)/\∀i,SetTable.below xs j<=i->(h:i<xs.size)->j<=xs[i]:=
 vX xs a j _ _ _ (BN _) (AW _) (by omega) (λi h=>by omega) (λi h h'=>by omega)
theorem iK(a:CB xs):SetTable.below xs 0=0:=by
 obtain⟨h1,h2,b⟩:=OA a 0
 by_cases z:SetTable.below xs 0=0
 .exact z
 .have:=h2 0 (by omega) (by omega);omega
theorem wL(c:CB xs)(hi:i<xs.size):SetTable.below xs (xs[i]+1)=i+1:=by
 obtain⟨h1,h2,d⟩:=OA c (xs[i]+1);have a:i<SetTable.below xs (xs[i]+1):=by
  rcases Nat.lt_or_ge i (SetTable.below xs (xs[i]+1))with h|h
  .exact h
  .have:=d i h hi;omega
 have b:¬ i+1<SetTable.below xs (xs[i]+1):=by
  intro h;have q:=h2 (i+1) h (by omega);have r:=c.get (i:=i) (j:=i+1) (by omega) (by omega);omega
 omega
theorem qY{α:Type}(xs:Array α)(p:Nat)(x:α)(a:p<=xs.size):(SetTable.insertAt xs p x).toList=xs.toList.take p++x::xs.toList.drop p:=by
 unfold SetTable.insertAt;simp[Vq]
theorem CB.insert(f:CB xs)(l:j∉xs.toList):CB (SetTable.insertAt xs (SetTable.below xs j) j):=by
 obtain⟨h1,h2,k⟩:=OA f j;unfold CB;rw[qY _ _ _ h1,List.pairwise_append];refine⟨dX (ya _ _) f,List.pairwise_cons.mpr ⟨λa d=>?_,dX (List.drop_sublist _ _) f⟩,λa d b g=>?_⟩
 .obtain⟨i,hi,e⟩:=List.mem_iff_getElem.mp d;rw[yM]at e;have h:SetTable.below xs j+i<xs.size:=by rw[Vn,Bs]at hi;omega
  have q:=k _ (yd _ _) h;have c:xs[SetTable.below xs j+i]=a:=by simpa using e
  rw[c]at q;have:a≠j:=λz=>l (z▸yS d);omega
 .have m:a<j:=by
   obtain⟨i,hi,e⟩:=List.mem_iff_getElem.mp d;rw[List.getElem_take]at e;rw[Fi,Bs]at hi;have q:=h2 i (by omega) (by omega);have c:xs[i]=a:=by simpa using e
   rw[c]at q;exact q
  rcases List.mem_cons.mp g with rfl|g
  .exact m
  .obtain⟨i,hi,e⟩:=List.mem_iff_getElem.mp g;rw[yM]at e;have h:SetTable.below xs j+i<xs.size:=by rw[Vn,Bs]at hi;omega
   have q:=k _ (yd _ _) h;have c:xs[SetTable.below xs j+i]=b:=by simpa using e
   rw[c]at q;omega
theorem Wv(a:CB t.place)(h:∀i,t.slot j≠.live i):j∉t.place.toList:=by
 intro b;obtain⟨i,hi,e⟩:=List.mem_iff_getElem.mp b;rw[Bs]at hi;have f:t.place[i]=j:=by simpa using e
 obtain⟨h1,h2,d⟩:=OA a j;have c:SetTable.below t.place j=i:=by
  rcases yh i (SetTable.below t.place j)with z|z|z
  .have:=h2 i z hi;omega
  .exact z.symm
  .have q:=d _ (AW _) (by omega);have r:=a.get z hi;omega
 refine h (SetTable.below t.place j) ?_;unfold SetTable.slot;dsimp only;rw[eM (by rw[c,Gj hi,f];simp)]
theorem wV(t:SetTable)(g:Nat->Int)(h:Int):∀(f:Nat)(p:SetTable.Probe)(j:Nat)(d:Option Nat),(∀d',p.dummy=some d'->∀i,t.slot d'≠.live i)->SetTable.probe.go t g h f p=some (.empty j d)->
  (∀i,t.slot j≠.live i)/\∀d',d=some d'->∀i,t.slot d'≠.live i:=by
 intro f
 induction f with
 |zero=>intro p j d _ e;simp[SetTable.probe.go]at e
 |succ f b=>
  intro p j d hd e;have c:∀q:SetTable.Probe,(t.advance q).dummy=q.dummy:=by
   intro q;unfold SetTable.advance;split <;> rfl
  unfold SetTable.probe.go at e;split at e
  .next Fg=>
   simp only[NN,SetTable.Met.empty.injEq]at e;obtain⟨e1,k⟩:=e;subst e1;subst k;exact⟨λi z=>(by rw[Fg]at z;cases z),hd⟩
  .next Fg=>
   refine b _ j d (λd' a i=>?_) e;rw[c]at a;cases a;rw[Fg];intro z;cases z
  .split at e
   .simp at e
   .refine b _ j d (λd' a i=>?_) e;rw[c]at a;exact hd d' a i
theorem qX(a:CB t.place){h:Int}{b:Bool}(e:t.freeSlot h=some (j,b)):j∉t.place.toList:=by
 unfold SetTable.freeSlot at e;split at e
 .next j0 d hp=>
  unfold SetTable.probe at hp;obtain⟨h1,h2⟩:=wV t _ h _ _ j0 d (λd' z=>by simp[SetTable.probeStart]at z) hp;simp only[NN,Prod.mk.injEq]at e;obtain⟨e1,_⟩:=e;subst e1;cases d with
  |none=>exact Wv a h1
  |some d=>exact Wv a (h2 d rfl)
 .simp at e
theorem Pn(n:Nat):CB (Array.range n):=by
 unfold CB;rw[Array.toList_range];exact yU
theorem oM(h:CB t.place):CB (t.orStandIn n).place:=by
 unfold SetTable.orStandIn;split
 .exact h
 .exact Pn n
theorem rR(a:CB t.place)(es:Array (Int×Value))(h:Int)(x:Value):CB (layNew t es h x).2.1.place:=by
 unfold layNew;split
 .next j b e=>
  refine oM ?_;exact a.insert (qX a e)
 .exact Pn _
theorem oN(es:Array (Int×Value))(n:Nat):CB (relayAll t es n).2.1.place:=by
 unfold relayAll;split
 .next t' order hr=>
  dsimp only;split
  .unfold SetTable.relaid SetTable.laid at hr;generalize SetTable.layClean _ _=lc at hr;cases lc with
   |none=>simp at hr
   |some ow=>
    simp only[Option.bind_eq_bind,yj,Option.pure_def,NN,Prod.mk.injEq]at hr;obtain⟨rfl,_⟩:=hr;unfold CB;simp only;rw[NH,List.pairwise_filterMap];refine y9 ?_ (yU (n:=SetTable.sizeAbove n - 1+1));intro a b BX u d v c;cases f:ow.getD a none with
    |none=>rw[f]at d;simp at d
    |some h=>
     rw[f]at d;cases e:ow.getD b none with
     |none=>rw[e]at c;simp at c
     |some g=>
      rw[e]at c;simp only[KL,NN]at d c;subst d;subst c;exact BX
  .exact Pn _
 .exact Pn _
noncomputable def FG(acc:List Int)(x:Int):List Int:=if acc.any (· == x)then acc else acc++[x]
def C3(ss:List Int):List Int:=ss.foldl FG []
theorem gE(acc:List Int)(x k:Int):(FG acc x).any (· == k)=(acc.any (· == k) || decide (k=x)):=by
 unfold FG
 by_cases h:acc.any (· == x)=true
 .rw[eM h]
  by_cases e:k=x
  .subst e;rw[h];simp
  .simp[e]
 .rw[eJ h,List.any_append]
  by_cases e:k=x
  .subst e;simp
  .have a:(x == k)=false:=by simpa[w8]using(λh':x=k=>e h'.symm)
   simp[a,e]
theorem bO(acc:List Int)(x:Int):(FG acc x).length=if acc.any (· == x)then acc.length else acc.length+1:=by
 unfold FG;split <;> simp
theorem ZT(ss:List Int)(i:Nat)(h:i<ss.length):C3 (ss.take (i+1))=FG (C3 (ss.take i)) ss[i]:=by
 unfold C3;rw[JA h,yJ];rfl
theorem aO(ss:List Int):(C3 ss).length<=ss.length:=by
 have:∀(l acc:List Int),(l.foldl FG acc).length<=acc.length+l.length:=by
  intro l
  induction l with
  |nil=>intro acc;simp
  |cons x r a=>
   intro acc;rw[LL];have h1:=a (FG acc x);rw[bO]at h1;simp only[Am];split at h1 <;> omega
 have q:=this ss [];simp only[ND,NM]at q;exact q
theorem rW(t:SetTable)(es:Array (Int×Value))(n:Nat):(relayAll t es n).2.1.led=t.led:=by
 unfold relayAll;split
 .next t' order hr=>
  have q:=YZ (p:=(t',order)) hr;dsimp only at q ⊢;split
  .exact q.1
  .rfl
 .rfl
def CZ(prog:Program)(w:World)(h:Heap)(a:Addr)(S:Int->Bool)(n:Nat):Prop:=
 ∃o es ep t,h.get? a=some o/\o.ExactSet/\o.data=.set es ep t/\ElemsOf (PySem.intKind prog w) es.toList/\(∀k,S k=true↔∃e∈es.toList,(PySem.intKind prog w).is k e.2=true)/\
  es.size<scanBound/\t.fits es.size=true/\es.size=n/\(t.led=!B9 w)/\CB t.place
theorem CZ.keep{h h':Heap}(x:CZ prog w h a S n)(k:∀o,h.get? a=some o->h'.get? a=some o):CZ prog w h' a S n:=by
 obtain⟨o,es,ep,t,ho,r⟩:=x;exact⟨o,es,ep,t,k o ho,r⟩
theorem CZ.congr{h:Heap}{S':Int->Bool}{b:Nat}(x:CZ prog w h a S n)(e:∀k,S k=S' k)(m:n=b):CZ prog w h a S' b:=by
 obtain⟨o,es,ep,t,h1,h2,l,j,i,g,f,d,c⟩:=x;exact⟨o,es,ep,t,h1,h2,l,j,λk=>by rw[<- e k];exact i k,g,f,d.trans m,c⟩
theorem CZ.put{k:Int}{tk:Tok}{Q:Bool->Shared->Prop}(hS:CZ prog w s.heap a S n)(Fm:n+1<scanBound)
  (h:∀h',Heap.SameBut a s.heap h'->CZ prog w h' a (λk'=>S k' || decide (k'=k)) (if S k then n else n+1)->Q (!S k) { s with heap:=h' }) :
  wpAny (model prog w) A (setAddHashed a (.int k tk) ((PySem.intKind prog w).hash k)) Q E s:=by
 obtain⟨o,es,ep,t,ho,d,hd,B2,Aw,K,y,v,Bn,B0⟩:=hS;have D:(PySem.intKind prog w).is k (.int k tk)=true:=by simp[PySem.intKind,Value.isInt]
 have F:(Value.int k tk).scannable=true:=rfl;have rm:es.size+1<scanBound:=by rw[v];exact Fm
 have M:∀(b:Bool)(s1:Shared)(Q1:Unit->Shared->Prop),Q1 () s1->wpAny (model prog w) A (match b with|true=>rule "set.scan.the-table-gave-way" |false=>pure ()) Q1 E s1:=by
  intro b s1 Q1 q;cases b
  .exact dP q
  .exact oF q
 unfold setAddHashed setAddHashedIn;refine iZ ?_;refine Wo (i4 ho hd y ?_);dsimp only;rw[byScan_of F K B2];simp only[↓reduceIte];unfold setAddByScan;refine Wo ?_;refine Wo (oF ?_);refine Wo (ZA8 D ho hd y B2 ?_);cases J:List.findIdx? (λe=>(PySem.intKind prog w).is k e.2) es.toList with
 |some j=>
  dsimp only;obtain⟨σ,KN,_⟩:=List.findIdx?_eq_some_iff_getElem.mp J;have hk:S k=true:=(Aw k).mpr ⟨es.toList[j],FJ σ,KN⟩;refine dP ?_;refine dP ?_;have q:=h s.heap (KI a s.heap) ⟨o,es,ep,t,ho,d,hd,B2,λk'=>by
   rw[<- Aw k',Bool.or_eq_true,eW];exact⟨λz=>z.elim id λe=>e▸hk,Or.inl⟩,K,y,by rw[eM hk];exact v,Bn,B0⟩
  rw[hk]at q;exact q
 |none=>
  dsimp only;have hk:S k=false:=by
   cases e:S k with
   |false=>rfl
   |true=>
    obtain⟨x,hx,Y⟩:=(Aw k).mp e;have q:=List.findIdx?_eq_none_iff.mp J x hx;rw[Y]at q;exact Bool.noConfusion q
  have p1:=layNew_perm t es ((PySem.intKind prog w).hash k) (.int k tk);have l:=layNew_fits t es ((PySem.intKind prog w).hash k) (.int k tk);have f:=rR B0 es ((PySem.intKind prog w).hash k) (.int k tk);have l1:=Z6 t es ((PySem.intKind prog w).hash k) (.int k tk);generalize layNew t es ((PySem.intKind prog w).hash k) (.int k tk)=L at p1 l f l1 ⊢;obtain⟨Al,t1,T,gv⟩:=L;dsimp only at p1 l f l1 ⊢;rw[dQ]at p1;have SS:ElemsOf (PySem.intKind prog w) Al.toList:=(B2.push D F).perm p1;have W:∀k',(S k' || decide (k'=k))=true↔∃e∈Al.toList,(PySem.intKind prog w).is k' e.2=true:=mem_push_iff D Aw p1;have H:Al.size=n+1:=by rw[<- Bs,p1.length_eq,BQ,Bs,v];rfl
  have N:Al.size<scanBound:=by rw[H];exact Fm
  have fin:∀(h':Heap)(o':Obj)(Ax:Array (Int×Value))(EK:Nat)(t':SetTable),Heap.SameBut a s.heap h'->h'.get? a=some o'->o'.ExactSet->o'.data=.set Ax EK t'->Ax.toList.Perm Al.toList->t'.fits Ax.size=true->t'.led=t.led->CB t'.place->
    Q true { s with heap:=h' }:=by
   intro h' o' Ax EK t' U go R d' g ff X V;have G:Ax.size=n+1:=by rw[<- H,<- Bs,g.length_eq,Bs]
   have q:=h h' U ⟨o',Ax,EK,t',go,R,d',SS.perm g,λk'=>(W k').trans ⟨λ⟨e,B,q⟩=>⟨e,g.mem_iff.mpr B,q⟩,λ⟨e,B,q⟩=>⟨e,g.mem_iff.mp B,q⟩⟩,by rw[G];exact Fm,ff,by rw[hk];exact G,X.trans Bn,V⟩;rw[hk]at q;exact q
  have c:∀(t2:SetTable),t2.fits Al.size=true->t2.led=t.led->CB t2.place->wpAny (model prog w) A (do
    storeSet a Al t2
    if(
      !T && t2.tooFull)=true then do
      (match(relayAll t2 Al (SetTable.grown Al.size)).2.2 with|true=>rule "set.scan.the-table-gave-way" |false=>pure ())
      storeSet a (relayAll t2 Al (SetTable.grown Al.size)).1 (relayAll t2 Al (SetTable.grown Al.size)).2.1
      pure (some true)
     else pure (some true)) (λr s'=>match r with|some b=>Q b s'|none=>False) E s:=by
   intro t2 f2 l2 Ng;refine Wo (l7 ho hd ?_ (kd N));have p:=GH ho hd Al t2;have O:=EN s.heap a (Obj.putSet Al t2);split
   .have i:=relayAll_perm t2 Al (SetTable.grown Al.size);have C:=relayAll_fits t2 Al (SetTable.grown Al.size);have m:=oN (t:=t2) Al (SetTable.grown Al.size);have u:=rW t2 Al (SetTable.grown Al.size);generalize relayAll t2 Al (SetTable.grown Al.size)=Rl at i C m u ⊢;obtain⟨FN,I,g3⟩:=Rl;dsimp only at i C m u ⊢;have P:FN.size=Al.size:=by rw[<- Bs,i.length_eq,Bs]
    refine Wo (M _ _ _ ?_);refine Wo (l7 p rfl ?_ (kd (by rw[P];exact N)));refine dP ?_;exact fin _ _ FN _ I (O.trans (EN _ a _)) (GH p rfl FN I) d rfl i C (u.trans l2) m
   .exact dP (fin _ _ Al _ t2 O p d rfl (Fh _) f2 l2 Ng)
  refine Wo (M _ _ _ ?_);split
  .next Q4=>
   refine Wo ?_;rw[hashByValue_scannable 8 F];refine dP ?_;refine i7 (c t1 l l1 f) (λr s' q=>?_) λ_ _ e=>e;cases r with
   |none=>exact q.elim
   |some b=>exact dP q
  .next Q4=>
   refine Wo (dP ?_);simp only[↓reduceIte];refine i7 (c t1 l l1 f) (λr s' q=>?_) λ_ _ e=>e;cases r with
   |none=>exact q.elim
   |some b=>exact dP q
theorem WG{sl:Nat}{Q:Option (Value×Nat)->Shared->Prop}(d:B9 w=false)(ho:s.heap.get? a=some o)(hd:o.data=.set es ep t)(c:t.fits es.size=true)
  (h1:(!t.plain && decide (es.size > 1))=false) (b:t.led=true)
  (h:Q (match es[SetTable.below t.place sl]?,t.place[SetTable.below t.place sl]? with|some (_,x),some j=>some (x,j+1)|_,_=>none) s):wpAny (model prog w) A (setNext a sl i ep) Q E s:=by
 have e:w.params.followText "set-order"=false:=d;unfold setNext;refine Wo (i4 ho hd c ?_);dsimp only;unfold setsByText;refine Wo (Wo (jQ (dP ?_)));show wpAny _ _ (if w.params.followText "set-order"=true then _ else _) _ _ _
 rw[eJ (by rw[e];decide)];show wpAny _ _ (if(!t.plain && decide (es.size > 1))=true then _ else _) _ _ _
 rw[eJ (by rw[h1];decide)];refine Wo (m:=_) ?_
 wp_delta
 rw[b];exact dP (dP h)
noncomputable def Mf(t:SetTable)(i:Nat):Nat:=if i=0 then 0 else t.place.getD (i - 1) 0+1
theorem Zt(a:CB t.place)(hi:i<=t.place.size):SetTable.below t.place (Mf t i)=i:=by
 unfold Mf;split
 .next z=>subst z;exact iK a
 .next z=>
  have h1:i - 1<t.place.size:=by omega
  have e:t.place.getD (i - 1) 0=t.place[i - 1]:=by simp[Array.getD,h1]
  rw[e,wL a h1];omega
theorem sM(a:B9 w=false)(hh:A.handled=none)(I S:Addr)(AJ:S≠I)(hd:o.data=.set es ep t)(c:t.fits es.size=true)(h1:(!t.plain && decide (es.size > 1))=false)(n:t.led=true)(m:CB t.place):
  Walks prog w A I [I,S] [I] es.size (λi v=>(es.toList.map (·.2))[i]?=some v) (λi h=>Dr h I (rawInt ((Mf t i:Nat):Int)) i S es.size ep/\h.get? S=some o) where
 sub:=λb a=>by simp at a;simp[a]
 frame:=λ_ _ _ x hk=>⟨x.1.at λo e=>hk I (by simp) o e,hk S (by simp) _ x.2⟩
 item:=λi s Q E hi x d=>by
  have p:t.place.size=es.size:=Lg c;have g:i<t.place.size:=by omega
  have j:=x.1;refine Rt (x:=es[i].2) (nx:=t.place[i]+1) j x.2 hd c rfl (λA1 E1 Q1 q=>WG a x.2 hd c h1 n (by rw[Zt m (FK g),Gj hi,Gj g];exact q)) λh' JX l=>?_;refine d _ h' s.toks (by rw[AM,KG,Gj hi];rfl) ⟨?_,l.extBut S o AJ x.2⟩ λb f a k=>l.extBut b f (λh=>a (by simp[h])) k;have e:Mf t (i+1)=t.place[i]+1:=by
   unfold Mf;rw[eJ (by omega)];simp[Array.getD,g]
  rw[e];exact JX
 done:=λs Q E x d=>by
  have p:t.place.size=es.size:=Lg c;refine Ro hh x.1 x.2 hd c rfl (λA1 E1 Q1 q=>WG a x.2 hd c h1 n ?_) λh' r=>?_
  .rw[Zt m (by omega),VW (by omega)];exact q
  .exact d h' s.toks λb f a k=>r b f (λh=>a (by simp[h])) k
 self:=λ_ _ _ _ x d=>Ol x.1 d
theorem ints_of{l:List (Int×Value)}(h:ElemsOf (PySem.intKind prog w) l):∃a,IntsAre (l.map (·.2)) a/\∀k,k∈a↔∃e∈l,(PySem.intKind prog w).is k e.2=true:=by
 induction l with
 |nil=>exact⟨[],.nil,λk=>by simp⟩
 |cons e r b=>
  obtain⟨a,h1,h2⟩:=b h.tail;obtain⟨⟨k,hk,_⟩,_⟩:=h.head;obtain⟨tk,c⟩:=Value.isInt_shape hk;refine⟨k::a,?_,λk'=>?_⟩
  .rw[Ce,c];exact .cons k tk h1
  .rw[De,h2 k'];constructor
   .rintro(rfl|⟨x,hx,q⟩)
    .exact⟨e,Ae,hk⟩
    .exact⟨x,Au _ hx,q⟩
   .rintro⟨x,hx,q⟩;rcases List.mem_cons.mp hx with rfl|hx
    .exact .inl ((PySem.intKind prog w).inj x.2 k' k q hk)
    .exact .inr ⟨x,hx,q⟩
theorem IntsAre.len:∀{vs:List Value}{ss:List Int},IntsAre vs ss->vs.length=ss.length
 |_,_,.nil=>rfl
 |_,_,.cons _ _ h=>by rw[Am,Am,IntsAre.len h]
noncomputable def Pe:Value->Int
 | .int n _=>n
 |_=>0
theorem IntsAre.map:∀{vs:List Value}{ss:List Int},IntsAre vs ss->vs.map Pe=ss
 |_,_,.nil=>rfl
 |_,_,.cons x t h=>by rw[Ce,IntsAre.map h];rfl
theorem IntsAre.mk:∀(vs:List Value),(∀v∈vs,∃n t,v=.int n t)->IntsAre vs (vs.map Pe)
 | [],_=>.nil
 |v::r,h=>by
  obtain⟨n,t,rfl⟩:=h v Ae;exact .cons n t (IntsAre.mk r λx hx=>h x (Au _ hx))
theorem IntsAre.mem:∀{vs:List Value}{ss:List Int},IntsAre vs ss->∀v∈vs,∃n t,v=.int n t
 |_,_,.nil,v,h=>nomatch h
 |_,_,.cons x t h,v,hv=>by
  rcases List.mem_cons.mp hv with rfl|hv
  .exact⟨x,t,rfl⟩
  .exact IntsAre.mem h v hv
theorem IntsAre.perm{vs Bl:List Value}{ss:List Int}(h:IntsAre vs ss)(p:Bl.Perm vs):∃A4,IntsAre Bl A4/\A4.Perm ss:=by
 refine⟨Bl.map Pe,IntsAre.mk Bl λv a=>IntsAre.mem h v (p.mem_iff.mp a),?_⟩;rw[<- IntsAre.map h];exact p.map Pe
theorem uC{S:Addr}{Q:Value->Shared->Prop}(J:CZ prog w s.heap S f n)
  (h:∀(I:Addr)(h1:Heap)(d:_)(fp:List Addr)(vs:List Value)(m:List Int)(St:Nat->Heap->Prop),(∀A2:Around,A2.handled=none->Walks prog w A2 I fp [I] n (λi v=>vs[i]?=some v) St)->St 0 h1->(∀b∈fp,b=S∨s.heap.objs.size<=b/\b<h1.objs.size)->s.heap.objs.size<=I->s.heap.objs.size<=h1.objs.size->
   (∀b o,s.heap.get? b=some o->h1.get? b=some o)->IntsAre vs m->m.length=n->(∀k,f k=true↔k∈m)->Q (.ref I) { s with heap:=h1,drawn:=d }):wpAny (model prog w) A (pyIter (.ref S)) Q E s:=by
 obtain⟨o,es,ep,t,ho,x,hd,B2,Aw,H,j,G,Bn,B0⟩:=J;subst G;have B:s.TypeIs (.ref S) "set" := ⟨o,ho,x.1⟩;have y:S<s.heap.objs.size:=AY ho;obtain⟨P,t1,t2⟩:=ints_of B2;have fin:∀(I:Addr)(h1:Heap)(d:_)(fp:List Addr)(vs:List Value)(St:Nat->Heap->Prop),(∀A2:Around,A2.handled=none->Walks prog w A2 I fp [I] es.size (λi v=>vs[i]?=some v) St)->St 0 h1->(∀b∈fp,b=S∨s.heap.objs.size<=b/\b<h1.objs.size)->s.heap.objs.size<=I->s.heap.objs.size<=h1.objs.size->
   (∀b o,s.heap.get? b=some o->h1.get? b=some o)->vs.Perm (es.toList.map (·.2))->Q (.ref I) { s with heap:=h1,drawn:=d }:=by
  intro I h1 d fp vs St a1 a2 O N M L K;obtain⟨m,D,z⟩:=IntsAre.perm t1 K;refine h I h1 d fp vs m St a1 a2 O N M L D ?_ λk=>?_
  .rw[z.length_eq,<- IntsAre.len t1];simp
  .rw[Aw k,<- t2 k];exact z.mem_iff.symm
 refine ZA5 B Vc (il Vc B Xe ?_ (F.args_set_iter_1 _));unfold Builtin.«frozenset.__iter__»;refine Wo (jv (a:=S) rfl ?_);refine Wo ?_;unfold Builtin.Frozenset.sizeOf;refine Wo (k6 ho hd j (dP ?_));refine Wo (Yb ho hd j ?_)
 by_cases p:(!B9 w && (!t.plain && decide (es.size > 1)))=true
 .rw[eM p];refine Wo ?_;refine aS es.size (List.range es.size) _ _ (by rw[Cd];exact AW _) λps d u=>?_;have pz:(ps.map λi:Nat=>rawInt i).length<=sizeLine:=by rw[AB,u.length_eq,Cd];exact kd H
  refine Wo (ZAF ?_ pz);dsimp only;refine Wo (lM (s:={ s with heap:=_,drawn:=d }) (Af _ ho) hd j ?_)
  refine Wo (j4 ?_);have g:∀(q:Obj)(b:Addr)(c:Obj),s.heap.get? b=some c->((s.heap.push (seqObj "tuple" (ps.map λi:Nat=>rawInt i).toArray 0)).push q).get? b=some c:=λq b c e=>Af _ (Af _ e);have l:(s.heap.push (seqObj "tuple" (ps.map λi:Nat=>rawInt i).toArray 0)).objs.size=s.heap.objs.size+1:=C1 ..;refine dP ⟨_,rfl, "set_iterator", _,⟨_,Ay _ rfl,rfl⟩,FF.lookup,?_⟩;refine fin _ _ d [(s.heap.push (seqObj "tuple" (ps.map λi:Nat=>rawInt i).toArray 0)).objs.size,S,s.heap.objs.size] _ _ (λA2 hh=>cQ hh _ S s.heap.objs.size (by rw[l];exact Ad (Dw y)) (by rw[l];exact Ad (Gp _)) hd j u (oT:=seqObj "tuple" (ps.map λi:Nat=>rawInt i).toArray 0) rfl) ⟨⟨_,Ay _ rfl,rfl,rfl⟩,g _ _ _ ho,Af _ (Ay _ rfl)⟩ ?_ (by show s.heap.objs.size<=(s.heap.push (seqObj "tuple" (ps.map λi:Nat=>rawInt i).toArray 0)).objs.size;rw[l];exact Cf _) ?_ (g _) ?_
  .intro b BI;simp only[De,BZ,qU]at BI;rw[C1,l];rcases BI with rfl|rfl|rfl
   .right;rw[l];exact⟨Cf _,Gp _⟩
   .left;rfl
   .right;exact⟨AW _,Dw (Gp _)⟩
  .rw[C1,l];exact Vt (Cf _)
  .rw[<- Yr];exact u.map _
 .rw[eJ p];refine Wo (dP ?_);refine Wo (lM ho hd j ?_);refine Wo (j4 ?_);have g:∀(q:Obj)(b:Addr)(c:Obj),s.heap.get? b=some c->(s.heap.push q).get? b=some c:=λq b c e=>Af _ e;refine dP ⟨_,rfl, "set_iterator", _,⟨_,Ay _ rfl,rfl⟩,FF.lookup,?_⟩;have C:∀(q:Obj),∀b∈[s.heap.objs.size,S],b=S∨s.heap.objs.size<=b/\b<(s.heap.push q).objs.size:=by
   intro q b BI;simp only[De,BZ,qU]at BI;rw[C1];rcases BI with rfl|rfl
   .right;omega
   .left;rfl
  cases r:B9 w with
  |true=>
   refine fin _ _ s.drawn [s.heap.objs.size,S] _ _ (λA2 hh=>Xt r hh _ S (Ad y) hd j) ⟨⟨_,Ay _ rfl,rfl,rfl⟩,g _ _ _ ho⟩ (C _) (AW _) (by rw[C1];omega) (g _) ?_;exact(Lf _ _).map _
  |false=>
   have h1:(!t.plain && decide (es.size > 1))=false:=by
    rw[r]at p
    simpa using p
   refine fin _ _ s.drawn [s.heap.objs.size,S] _ _ (λA2 hh=>sM r hh _ S (Ad y) hd j h1 (by rw[Bn,r];rfl) B0) ⟨⟨_,Ay _ rfl,rfl,rfl⟩,g _ _ _ ho⟩ (C _) (AW _) (by rw[C1];omega) (g _) (Fh _)
theorem sV{S:Addr}{Q:List Value->Shared->Prop}(hh:A.handled=none)(r:CZ prog w s.heap S f n)(N:n<=sizeLine)
  (h:∀(s':Shared)(vs:List Value)(c:List Int),(∀b o,s.heap.get? b=some o->s'.heap.get? b=some o)->s.heap.objs.size<=s'.heap.objs.size->s'.gens=s.gens->s'.os=s.os->IntsAre vs c->c.length=n->(∀k,f k=true↔k∈c)->Q vs s') :
  wpAny (model prog w) A (collect (.ref S)) Q E s:=by
 have V:S<s.heap.objs.size:=by obtain⟨o,_,_,_,ho,_⟩:=r;exact AY ho
 have x:s.heap.objs.size≠S:=DO V;unfold collect;refine Wo (uj (k9 F.entry_proto_collect ?_));rw[Iz F.plain_proto_collect _];show wpAny _ A.in1 (newList [] >>= λl=>again (.builtin "list.__iadd__" ⟨[l,.ref S],[]⟩)) _ _ s;refine Wo (j4 ?_);refine dP ⟨rJ Vb _,k9 F.entry_list_iadd ?_⟩;rw[Iz Vb _];generalize v:({ cls:=.type "list", data:=.seq ([]:List Value).toArray }:Obj)=so;have D:CZ prog w (s.heap.push so) S f n:=r.keep λo e=>Af _ e;have T:(s.heap.push so).get? s.heap.objs.size=some so:=Ay _ (by rw[<- v];rfl);have sz:(s.heap.push so).objs.size=s.heap.objs.size+1:=C1 ..;have y:Shared.TypeIs { s with heap:=s.heap.push so } (.ref S) "set" := by obtain⟨o,_,_,_,ho,j,_⟩:=D;exact⟨o,ho,j.1⟩
 have h1:Builtin.List.listSameRef (.ref s.heap.objs.size) (.ref S)=false:=by simp[Builtin.List.listSameRef,x]
 show wpAny _ A.in1 (Builtin.List.listExtendWith (.ref s.heap.objs.size) (.ref S) (.ref s.heap.objs.size)) _ _ { s with heap:=s.heap.push so }
 unfold Builtin.List.listExtendWith;refine Wo (zx y ?_);rw[eJ (by rw[h1];decide)];refine Wo (uC (s:={ s with heap:=s.heap.push so }) D λI h2 d fp vs c St W K7 HI P Y kp K5 tl L=>?_)
 have C:s.heap.objs.size∉fp:=λg=>by
  rcases HI _ g with z|⟨z,_⟩
  .exact x z
  .have K:(s.heap.push so).objs.size<=s.heap.objs.size:=z;rw[sz]at K;omega
 have m:Shared.TypeIs { s with heap:=h2,drawn:=d } (.ref S) "set" := by obtain⟨o,ho,O⟩:=y;exact⟨o,kp _ _ ho,O⟩
 refine Wo (iZ ?_);unfold Builtin.List.listLengthHint;refine Wo (ZAC m cW ?_);generalize u:("set.__len__":String)=RN
 wp_delta
 rw[show splitId RN=some ("set","__len__")from by subst u;decide +kernel];subst u;refine Wo (nW (b:=true) m (by rw[mI];kernel_rfl) ?_);rw[eJ (by decide)];refine x8 (λ_=>?_) (λBX=>absurd (by decide +kernel) BX);refine Wo (zx m ?_);refine dP ?_;refine x8 (λ_=>?_) (λBX=>absurd (by decide +kernel) BX);refine Wo (oF ?_);refine Wo ?_;show wpAny _ _ (updateSeq s.heap.objs.size (·.push .none) >>= λ_=>updateSeq s.heap.objs.size (·.pop)) _ _ _
 have J:(#[]:Array Value).size<=sizeLine:=BN _;have p:((#[]:Array Value).push Value.none).size<=sizeLine:=by show 1<=sizeLine;decide
 have H:((#[]:Array Value).push Value.none).size<=sizeLine+1:=Vt p;have G:(((#[]:Array Value).push Value.none).pop).size<=sizeLine+1:=BN _;have t:=kp _ _ T;subst v;refine Wo (wx (s:={ s with heap:=h2,drawn:=d }) t rfl ?_ J H)
 have q:=Gk (Obj.mapSeq (·.push Value.none)) t rfl
 refine wx q rfl ?_ p G;have M:=Gk (Obj.mapSeq (·.pop)) q rfl
 have B:∀b o,b≠s.heap.objs.size->h2.get? b=some o->((h2.update s.heap.objs.size (Obj.mapSeq (·.push Value.none))).update s.heap.objs.size (Obj.mapSeq (·.pop))).get? b=some o:=
  λb o a e=>(J0 _ _ (BG a)).trans ((J0 _ _ (BG a)).trans e)
 refine dP ⟨rJ yo _,codeAny_extend_loopS (W A.in1 hh).toS N _ C _ n 0 _ #[] _ rfl (BN _) ?_ M (ItemsOf.nil _) λs' HD c' g Cs Ao=>?_⟩
 .exact(W A.in1 hh).frame 0 h2 _ K7 λb a o e=>B b o (λz=>C (z▸a)) e
 .show wpAny _ A (load s.heap.objs.size >>= _) _ _ s';refine Wo (zy Cs ?_);have R:HD.toList=vs:=by
   have X:vs.length=n:=(IntsAre.len K5).trans tl;refine QQ λi=>?_
   by_cases hi:i<n
   .have h1:HD[i]?=some (HD[i]'(by rw[Ao.1];exact hi)):=Gj _;rw[KG,h1];exact(Ao.2 i _ h1).symm
   .rw[NB (by rw[Bs,Ao.1];omega),NB (by omega)]
  refine dP ?_;rw[<- R]at K5;refine h s' HD.toList c (λb o e=>?_) (FK (AY Cs)) g.gens g.os K5 tl L;have a:b<s.heap.objs.size:=AY e;refine g.heap b o ?_ (B b o (Ad a) (kp b o (Af _ e)));simp only[De,BZ,qU,not_or];refine⟨Ad a,?_⟩;have U:s.heap.objs.size+1<=I:=by rw[<- sz];exact P
  exact Ad (C5 a (ye U))
end L2
set_option maxHeartbeats 200000
namespace L2
section
variable{prog:Program}{w:World}{A:Around}{E:Value->Shared->Prop}{s:Shared}
theorem KR{v:Value}{Q:Bool->Shared->Prop}(a:s.TypeIs v "set")(h:Q true s):wpAny (model prog w) A (Builtin.Frozenset.isAnySet v) Q E s:=by
 unfold Builtin.Frozenset.isAnySet;refine Wo (nW (b:=true) a (by rw[mI];kernel_rfl) ?_);exact dP h
theorem Yj{a:Addr}{o:Obj}{es:Array (Int×Value)}{ep:Nat}{t:SetTable}{Q:Array (Int×Value)->Shared->Prop}(ho:s.heap.get? a=some o)(hd:o.data=.set es ep t)(c:t.fits es.size=true)(Bn:t.led=!B9 w)(Fb:B9 w=false->(!t.plain && decide (es.size > 1))=false)
  (h:∀Ax:Array (Int×Value),Ax.toList.Perm es.toList->Q Ax s):wpAny (model prog w) A (setWalk a) Q E s:=by
 unfold setWalk setsByText;refine Wo (i4 ho hd c ?_);dsimp only;refine Wo (Wo (jQ (dP ?_)));show wpAny _ _ (if B9 w=true then _ else _) _ _ _
 cases b:B9 w with
 |true=>
  rw[eM rfl];exact Wo (jQ (dP (h _ (Lf _ _))))
 |false=>
  rw[eJ (by decide)];show wpAny _ _ (if(!t.plain && decide (es.size > 1))=true then _ else _) _ _ _
  rw[eJ (by rw[Fb b];decide)];refine Wo (m:=_) ?_
  wp_delta
  rw[Bn,b];exact dP (dP (h es (Fh _)))
theorem mE:entryFor table "set.__sub__"=some Builtin.«frozenset.__sub__»:=
 ZA1 (id' := "frozenset.__sub__") (by kernel_rfl) (by first|rfl|decide +kernel|(unfold String.splitOn;simp +decide [String.splitOnAux])) (by decide +kernel) (by kernel_rfl)
end
end L2
set_option maxHeartbeats 4000000
namespace L2
variable{prog:Program}{w:World}{ss:List Int}{i n nl:Nat}{I l:Addr}{E Q:Value->Shared->Prop}{X:Cx}
theorem isInt_self(k:Int)(t:Tok):(PySem.intKind prog w).is k (.int k t)=true:=by simp[PySem.intKind,Value.isInt]
theorem fS(b:Bool):CB (SetTable.fresh 0 0 b).place:=List.Pairwise.nil
theorem ZE{A0:List Value}(r:Vals (ss.map V.int) A0){v:Value}(e:A0[i]?=some v):∃(h:i<ss.length)(t:Tok),v=.int ss[i] t:=by
 have d:=r.length;rw[AB]at d;have hi:i<A0.length:=(List.getElem?_eq_some_iff.mp e).1;have b:i<ss.length:=by omega
 have e1:(ss.map V.int)[i]?=some (.int ss[i]):=by rw[AM,AL b];rfl
 obtain⟨u,a,c⟩:=r.get e1;rw[e]at a;cases a;obtain⟨t,q⟩:=c;exact⟨b,t,q⟩
section
variable{A:Around}{R:Result->Shared->Prop}{fp wr:List Addr}{G:Array GenState->Array GenState->Prop}{P:Nat->Value->Prop}{St:Nat->Shared->Prop}
theorem ml(W:WalksS prog w A.in1 I fp wr G ss.length P St)(S:Addr)(EC:S∉fp)(Jx:∀i v,P i v->∃(h:i<ss.length)(t:Tok),v=.int ss[i] t)(a:ss.length+1<scanBound):
  ∀(k i:Nat)(s:Shared),ss.length - i=k->i<=ss.length->St i s->CZ prog w s.heap S (λk'=>(C3 (ss.take i)).any (· == k')) (C3 (ss.take i)).length->
   (∀s',Moved (S::wr) G s s'->CZ prog w s'.heap S (λk'=>(C3 ss).any (· == k')) (C3 ss).length->R (.ok (.ret .none)) s')->
   codeAny (model prog w) A (.builtin "set.update.loop" ⟨[.ref S,.ref I],[]⟩) R s:=by
 have p:S∉wr:=λh=>EC (W.sub _ h);have j:∀{s s':Shared}{f:Int->Bool}{m:Nat},Moved wr G s s'->CZ prog w s.heap S f m->CZ prog w s'.heap S f m:=λc d=>d.keep λo ho=>c.heap S _ p ho;intro k
 induction k with
 |zero=>
  intro i s hk hi Dv d fin;have e:i=ss.length:=by omega
  subst e;refine k9 Vw ?_;rw[Iz NO _];show wpAny _ A.in1 (pyNext (.ref I) >>= _) _ _ s;refine Wo (W.done s _ _ Dv λs' c=>?_);show wpAny _ A.in1 (ret Value.none) _ _ s';rw[Eh]at d;exact dP (fin s' (c.mono λb a=>Au _ a) (j c d))
 |succ k l=>
  intro i s hk hi Dv d fin;have g:i<ss.length:=by omega
  refine k9 Vw ?_;rw[Iz NO _];show wpAny _ A.in1 (pyNext (.ref I) >>= _) _ _ s;refine Wo (W.item i s _ _ g Dv λv s' n Rh c=>?_);obtain⟨_,t,rfl⟩:=Jx i v n;have x:=j c d;show wpAny _ A.in1 (holding [Value.int ss[i] t] (setAdd S (.int ss[i] t)) >>= _) _ _ s';refine Wo (iZ ?_);unfold setAdd;have q:(PySem.intKind prog w).is ss[i] (.int ss[i] t)=true:=isInt_self ss[i] t;refine iZ (Wo ((PySem.intKind prog w).pyHash q ?_));have u:(C3 (ss.take i)).length+1<scanBound:=by
   have:=aO (ss.take i);rw[Fi]at this;omega
  refine CZ.put (k:=ss[i]) (s:={ s' with toks:=s'.toks+1 }) x u λh' Fu HK=>?_
  have r:CZ prog w h' S (λk'=>(C3 (ss.take (i+1))).any (· == k')) (C3 (ss.take (i+1))).length:=
   HK.congr (λk'=>by rw[ZT ss i g,gE]) (by rw[ZT ss i g,bO])
  refine dP ⟨rJ NO _,l (i+1) _ (by omega) g (W.frame _ s' _ _ Rh (Cf _) λb a o e=>?_) r λHL TK UA=>?_⟩
  .rw[Fu.2 b (by rintro rfl;exact EC a)];exact e
  .refine fin HL (Moved.trans W.gtrans ((c.mono λb a=>Au _ a).then_heap (Cf _) λb o a e=>?_) TK) UA;rw[Fu.2 b (by rintro rfl;exact a Ae)];exact e
variable{s:Shared}
theorem aj{T:String}{items:Array Value}{q:Option Addr}{E5:Array (Option Value)}(ho:s.heap.get? l=some { cls:=.type T,dict:=q,data:=.seq items nl,slots:=E5 })
  (gc:isSubtype (.type T) (.type "set")=pure false) (D4:isSubtype (.type T) (.type "frozenset")=pure false) (AJ:(Value.type T == Value.type "dict")=false) (hb:ss.length+1<scanBound)
  (hit:∀(s1:Shared)(A1:Around)(Q1:Value->Shared->Prop),A1.handled=A.handled->s1.heap.get? l=s.heap.get? l->l<s1.heap.objs.size->
   (∀f St P,WalksS prog w A1.in1 s1.heap.objs.size [s1.heap.objs.size,l] [s1.heap.objs.size] (λa b=>b=a) ss.length P St->(∀i v,P i v->∃(h:i<ss.length)(t:Tok),v=.int ss[i] t)->St 0 { s1 with heap:=s1.heap.push f }->Q1 (.ref s1.heap.objs.size) { s1 with heap:=s1.heap.push f })->
   wpAny (model prog w) A1 (pyIter (.ref l)) Q1 E s1)
  (h:∀(h':Heap)(tk:Nat),CZ prog w h' s.heap.objs.size (λk'=>(C3 ss).any (· == k')) (C3 ss).length->(∀b o,b<s.heap.objs.size->s.heap.get? b=some o->h'.get? b=some o)->Q (.ref s.heap.objs.size) { s with heap:=h',toks:=tk }) :
  wpAny (model prog w) A (call (.type "set") [.ref l]) Q E s:=by
 have x:l<s.heap.objs.size:=AY ho;obtain⟨c,tl,O⟩:=PySem.F.called_set.mro;have M:=PySem.F.called_set.made;have U:=PySem.F.called_set.sub;refine wpAny_call (ZAE (by
  show wpAny _ _ (callAny (.type "set") _) _ _ _;refine dP ⟨dU _ (by decide +kernel),k9 yn ?_⟩;rw[Around.under_plain (weight_type_call_type "set" [.ref l] []) rfl];have h1:=PySem.F.called_set.notType;have h2:=PySem.F.called_set.canCreate;have N:=yu (.ref l)
  repeat (any_goals (first|assumption|wp_step))
  refine pE (X0 (.ref l) (E:=E) (Q₁:=λobj s₁=>obj=.ref s.heap.objs.size/\s₁={ s with heap:=s.heap.push { cls:=.type "set", dict:=none,data:=.set #[] 0 (.fresh 0 0 (!B9 w)) } }) ⟨rfl,rfl⟩) λr s₁ j=>?_
  cases r with
  |error e=>exact j
  |ok D=>
   cases D with
   |ret obj=>
    obtain⟨rfl,rfl⟩:=j;generalize n:({ cls:=.type "set", dict:=none,data:=.set #[] 0 (.fresh 0 0 (!B9 w)) }:Obj)=so;have hsz:(s.heap.push so).objs.size=s.heap.objs.size+1:=C1 ..;have u:(s.heap.push so).get? s.heap.objs.size=some so:=Ay _ (by rw[<- n];rfl);have C:Shared.TypeIs { s with heap:=s.heap.push so } (.ref s.heap.objs.size) "set" := ⟨_,u,by rw[<- n]⟩
    have V:=PySem.F.called_set.init.lookup;have S:=PySem.F.called_set.init.bind (.ref s.heap.objs.size)
    repeat (any_goals (first|assumption|wp_step))
    refine pE (codeAny_call_builtin (R:=wants (λr p=>r=.none/\∃h' tk,p={ s with heap:=h',toks:=tk }/\CZ prog w h' s.heap.objs.size (λk'=>(C3 ss).any (· == k')) (C3 ss).length/\
      (∀b o,b<s.heap.objs.size->s.heap.get? b=some o->h'.get? b=some o)) E) PySem.F.called_set.init.plain ym (check_set_init_1 C ?_)) λy p d=>?_
    .have L:(s.heap.push so).get? l=some { cls:=.type T,dict:=q,data:=.seq items nl,slots:=E5 }:=Af _ ho;subst n;unfold Builtin.«set.__init__» noKeywords Builtin.Frozenset.updateFrom;generalize J:pyIter=PI
     wp_walk
     subst J;refine hit { s with heap:=s.heap.push _ } _ _ rfl (L.trans ho.symm) (yf (Dw x) hsz.symm) λf St P W Jx K7=>?_
     refine Wo (uj ?_);have K:s.heap.objs.size∉[(s.heap.push { cls:=.type "set", dict:=none,data:=.set #[] 0 (.fresh 0 0 (!B9 w)) }).objs.size,l]:=by
      rw[hsz];simp only[De,BZ,qU,not_or];exact⟨Ad (Gp _),DO x⟩
     refine ml W s.heap.objs.size K Jx hb (ss.length - 0) 0 _ rfl (BN _) K7 ?_ ?_
     .have z:=Af f u;exact⟨_,#[],0,_,z,⟨rfl,rfl,rfl⟩,rfl,λe B=>by simp at B,λk=>by simp[C3],by decide,by rfl,rfl,rfl,fS _⟩
     .intro s' g Cs;obtain⟨h',g',d',Rb,M7⟩:=s';have H:g'=s.gens:=g.gens;have I:d'=s.drawn:=g.drawn;have G:M7=s.os:=g.os;subst H;subst I;subst G;show wpAny _ _ _ _ _ _;refine dP ?_;show wpAny _ _ (ret Value.none) _ _ _;refine dP ⟨rfl,h',Rb,rfl,Cs,λb o BI e=>?_⟩;refine g.heap b o ?_ (Af _ (Af _ e));rw[hsz];simp only[De,BZ,qU,not_or];exact⟨Ad BI,Ad (Dw BI)⟩
    .cases y with
     |error e=>exact d
     |ok m=>
      cases m with
      |ret r=>
       obtain⟨rfl,h',tk,rfl,Cs,GL⟩:=d
       repeat (any_goals (first|assumption|wp_step))
       exact h _ _ Cs GL
      |_=>exact d.elim
   |_=>exact j.elim))
end
noncomputable def LO(P:Program)(w:World)(a:Addr)(f:Int->Bool)(n:Nat):HO:=.ext λh=>CZ P w h a f n
theorem md(t:X.calm=true):Bw X (.type "set") (λxs H Q=>∃(p:Addr)(tp:Bool)(ss:List Int),xs=[.ref p]/\CA X.K tp H p (ss.map V.int)/\ss.length<4000/\
  ∀l,H l=none->Q (.ref l) (upd H l (LO X.prog X.w l (λk'=>(C3 ss).any (· == k')) (C3 ss).length))):=by
 intro Zj s Z H xs us Q I r h;obtain⟨p,tp,ss,rfl,m,B,q⟩:=h;obtain⟨u,rfl,z⟩:=vals1 r;cases z;have x:ss.length+1<scanBound:=by unfold scanBound;omega
 have fin:∀(h':Heap)(tk:Nat),CZ X.prog X.w h' s.heap.objs.size (λk'=>(C3 ss).any (· == k')) (C3 ss).length->(∀b o,b<s.heap.objs.size->s.heap.get? b=some o->h'.get? b=some o)->
   EP X Zj Z Q (.ref s.heap.objs.size) { s with heap:=h',toks:=tk }:=λh' tk y kp=>by
  refine⟨.ref s.heap.objs.size,_,I.laid (t':=tk) (λb o e=>kp b o (AY e) e) (AW _) (show Bi X.prog X.w _ h' _ (LO X.prog X.w s.heap.objs.size _ _)from⟨y,?_,λh1 h2 Dk FD=>?_⟩),rfl,q _ (I.AA.fresh (AW _))⟩
  .obtain⟨o,_,_,_,ho,_⟩:=y;exact⟨o,ho⟩
  .exact Dk.keep FD
 cases tp with
 |false=>
  obtain⟨A0,a,pl,K0⟩:=I.list m;have f:=a.length;rw[AB]at f;obtain⟨⟨c,d,dt,sl⟩,n,ho,BR,hd,Es⟩:=id pl;simp only at BR hd Es;subst BR;subst hd;subst Es;refine aj ho yt yr (by decide) x (λs1 A1 Q1 j e1 l1 JQ=>?_) fin;have g:s1.heap.IsList p A0.toArray:=⟨_,e1.trans ho,rfl,n,rfl⟩;have k:A0.toArray.size=ss.length:=List.size_toArray.trans f.symm;refine rY g (JQ _ (λi s=>s.heap.IsListIter s1.heap.objs.size p i/\s.heap.IsList p A0.toArray) (λi v=>A0.toArray[i]?=some v) (by
   have W:=(W0 (prog:=X.prog) (w:=X.w) (A:=A1.in1) (by rw[N8,j];exact I.ok.hd t) s1.heap.objs.size p (Ad l1) A0.toArray).toS;rw[k]at W;exact W) (λi v e=>ZE a (by simpa using e)) ⟨⟨_,Ay _ rfl,rfl,rfl⟩,g.push _⟩)
 |true=>
  obtain⟨A0,a,pl,K0⟩:=I.tuple m;have f:=a.length;rw[AB]at f;obtain⟨⟨c,d,dt,sl⟩,ho,BR,n,Es⟩:=id pl;simp only at BR Es;subst BR;subst Es;refine aj ho sub_tuple_set sub_tuple_frozenset (by decide) x (λs1 A1 Q1 j e1 l1 JQ=>?_) fin;have g:s1.heap.IsTuple p A0.toArray:=⟨_,e1.trans ho,rfl,n,rfl⟩;have k:A0.toArray.size=ss.length:=List.size_toArray.trans f.symm;refine pT g (JQ _ (λi s=>s.heap.IsTupleIter s1.heap.objs.size p i/\s.heap.IsTuple p A0.toArray) (λi v=>A0.toArray[i]?=some v) (by
   have W:=(Walks.tuple (prog:=X.prog) (w:=X.w) (A:=A1.in1) (by rw[N8,j];exact I.ok.hd t) s1.heap.objs.size p (Ad l1) A0.toArray).toS;rw[k]at W;exact W) (λi v e=>ZE a (by simpa using e)) ⟨⟨_,Ay _ rfl,rfl,rfl⟩,?_⟩)
  exact⟨_,Af _ (e1.trans ho),rfl,n,rfl⟩
def Y3(P:Program)(w:World):List V->Hp->VK->Prop:=λxs H Q=>∃(p:Addr)(f:Int->Bool)(n:Nat),xs=[.ref p]/\H p=some (LO P w p f n)/\n<64/\∀(l:Addr)(a:List Int),H l=none->a.length=n->(∀k,f k=true↔k∈a)->a.Pairwise (·<=·)->Q (.ref l) (upd H l (.lst (a.map V.int)))
theorem nX(z:X.calm=true):Bw X (.builtin "sorted") (Y3 X.prog X.w):=by
 intro Zj s Z H xs us Q I r h;obtain⟨p,f,n,rfl,C,Bh,q⟩:=h;obtain⟨u,rfl,t⟩:=vals1 r;cases t;have B:CZ X.prog X.w s.heap p f n:=(I.AA p _ C).1;have hh:X.A.handled=none:=I.ok.hd z;refine YF (Pc:=λvs s1=>∃a,(∀b o,s.heap.get? b=some o->s1.heap.get? b=some o)/\s.heap.objs.size<=s1.heap.objs.size/\s1.gens=s.gens/\s1.os=s.os/\IntsAre vs a/\a.length=n/\(∀k,f k=true↔k∈a)) (λA1 E1 Q1 D k=>?_) ?_
 .exact sV (D.trans hh) B (CC (FK Bh) (by decide +kernel)) λs' vs a a1 a2 m j d c i=>k vs s' ⟨a,a1,a2,m,j,d,c,i⟩
 .rintro vs s1⟨a,a1,a2,m,j,d,c,i⟩;refine⟨by rw[IntsAre.len d,c];exact Bh,a,d,λout A4 e h' kp y Cs g v=>?_⟩;exact YQ I m j a1 a2 kp y Cs (by rw[g.length_eq,c];exact Bh) λl x=>q l A4 x (g.length_eq.trans c) (λk=>(i k).trans g.mem_iff.symm) v
def Yt(K:zu)(P:PySem.Program)(w:PySem.World):List V->Hp->VK->Prop:=λxs H Q=>∃(p:PySem.Addr)(tp:Bool)(ss:List Int),xs=[.ref p]/\CA K tp H p (ss.map V.int)/\ss.length<4000/\
  ∀l,H l=none->Q (.ref l) (upd H l (LO P w l (λk'=>(C3 ss).any (· == k')) (C3 ss).length))
theorem tD(a:X.calm=true):Bw X (.type "set") (Yt X.K X.prog X.w):=md a
theorem UW(ss:List Int):(C3 ss).Nodup/\∀k,k∈C3 ss↔k∈ss:=by
 have:∀(l acc:List Int),acc.Nodup->(l.foldl FG acc).Nodup/\∀k,k∈l.foldl FG acc↔k∈acc∨k∈l:=by
  intro l
  induction l with
  |nil=>intro acc h;exact⟨h,λk=>by simp⟩
  |cons x r f=>
   intro acc h;rw[LL];have h1:(FG acc x).Nodup/\∀k,k∈FG acc x↔k∈acc∨k=x:=by
    unfold FG
    by_cases hx:acc.any (· == x)=true
    .rw[eM hx];have c:x∈acc:=by simpa using hx
     exact⟨h,λk=>⟨.inl,λz=>z.elim id λe=>e▸c⟩⟩
    .rw[eJ hx];have c:x∉acc:=by simpa using hx
     refine⟨?_,λk=>by simp⟩;rw[EO];exact⟨h,List.nodup_cons.mpr ⟨by simp,GC⟩,λa g b d=>by
      rw[J9]at d;subst d;exact λe=>c (e▸g)⟩
   obtain⟨a,b⟩:=f _ h1.1;refine⟨a,λk=>?_⟩;rw[b k,h1.2 k,De];exact⟨λz=>z.elim (λz=>z.elim .inl λe=>.inr (.inl e)) λz=>.inr (.inr z),λz=>z.elim (λz=>.inl (.inl z)) λz=>z.elim (λe=>.inl (.inr e)) .inr⟩
 obtain⟨a,b⟩:=this ss [] GC;exact⟨a,λk=>by rw[C3,b k];simp⟩
end L2
namespace Fz
open L2 Lw
theorem iw(ns:List Int)(k:Int):(C3 ns).any (· == k)=true↔k∈ns:=by
 rw[<- (UW ns).2 k];simp
theorem sub_len{l:List Int}:∀{m:List Int},l.Nodup->(∀k∈l,k∈m)->l.length<=m.length:=by
 induction l with
 |nil=>intro m _ _;exact BN _
 |cons x r b=>
  intro m c a;obtain⟨h1,h2⟩:=List.nodup_cons.mp c;have hx:=a x Ae;have:=b (m:=m.erase x) h2 λk hk=>(NG (λe:k=x=>h1 (e▸hk))).mpr (a k (Au _ hk));rw[J8 hx]at this;have:=QX hx;rw[Am];omega
theorem xJ{l m:List Int}(b:l.Nodup)(c:∀k∈l,k∈m)(a:m.length<=l.length):m.Nodup:=by
 have key:∀(n:Nat)(l m:List Int),m.length=n->l.Nodup->(∀k∈l,k∈m)->m.length<=l.length->m.Nodup:=by
  intro n
  induction n with
  |zero=>intro l m e _ _ _;rw[List.length_eq_zero_iff.mp e];exact GC
  |succ n f=>
   intro l m e b c a;cases m with
   |nil=>exact GC
   |cons x r=>
    by_cases hx:x∈r
    .have:∀k∈l,k∈r:=λk hk=>(List.mem_cons.mp (c k hk)).elim (λe=>by rw[e];exact hx) id;have:=sub_len b this;rw[Am]at a;omega
    .refine List.nodup_cons.mpr ⟨hx,f (l.erase x) r (by rw[Am]at e;omega) (b.erase x) (λk hk=>?_) ?_⟩
     .have g:=List.mem_of_mem_erase hk;rcases List.mem_cons.mp (c k g)with e1|e1
      .subst e1;exact absurd hk (List.Nodup.not_mem_erase b)
      .exact e1
     .by_cases d:x∈l
      .rw[J8 d];rw[Am]at a;omega
      .rw[List.erase_of_not_mem d];rw[Am]at a;omega
 exact key _ l m rfl b c a
section
variable[Xw]
variable{E:Ent0}{ss:List Slot}{Z:L2.St}{F H F' H':Hp}{K:zu}{js:List Nat}{ta tb tc te:TE}{nx:List Slot->Prop}{R:Ac}{xs ys:List PV}{P:Program}{w:World}
theorem ki{k:List PV->Prop}(h:Wq ss te λ_ xs=>∃ns:List Int,xs=ns.map PV.int/\ns.length<64/\∀c:List Int,c.Nodup->(∀x,x∈c↔x∈ns)->c.Pairwise (·<=·)->k (c.map PV.int)):
  Wn ss (CK (Y3 P w) (Ah (CK (Yt K P w) (Ah te BV)) BV)) k:=⟨λE Z F H Q S q=>
 h.go E Z F H _ S λv tp xs F1 H1 d sv AU=>by
  obtain⟨ns,e,m,kk⟩:=AU;subst e;obtain⟨l,vs,rfl,g,r⟩:=sv.seq d.st;rw[r.ints]at g;refine⟨l,tp,ns,rfl,Cz.sq g,by omega,λa p=>?_⟩;have m2:=d.st.make p (LO P w a (λk'=>(C3 ns).any (· == k')) (C3 ns).length)
  refine⟨a,_,_,rfl,AV,Gn (aO ns) m,λb c f Bb o n=>?_⟩;have j:=m2.st.make f (.lst (c.map V.int));have i:∀x,x∈c↔x∈ns:=λx=>(o x).symm.trans (iw ns x);refine q b _ _ F1 _ (d.trans (m2.trans j)) (m2.st.Be f) ((d.trans m2).none f) AV (by rw[<- NW];exact MP (Pj c)) (kk c (xJ (UW ns).1 (λx hx=>(i x).mpr (((UW ns).2 x).mp hx)) (LM Bb)) i n)⟩
variable{k:PV->Prop}
end
end Fz
namespace Fz
open L2 Lw
variable{neg tp:Bool}{ps xs:List PV}{js:List Nat}
section
variable[Xw]
variable{E:Ent0}{ss:List Slot}{Z:L2.St}{F H F' H':Hp}{K:zu}{ta tb tc te:TE}{k:PV->Prop}{v:V}{nx:List Slot->Prop}{R:Ac}
theorem vG(xs ys:List Int):EA (xs.map V.int) (ys.map V.int)=decide (xs=ys):=by
 by_cases a:xs.length=ys.length
 .rw[IS (by simpa using a)]
  cases c:(List.range (xs.map V.int).length).all λj=>DF ((xs.map V.int).getD j .A7) ((ys.map V.int).getD j .A7)with
  |false=>
   symm;rw[ud];rintro rfl;rw[<- Bool.not_eq_true]at c;apply c;rw[FI];intro j d;have f:j<xs.length:=by simpa using List.mem_range.mp d
   have e1:(xs.map V.int)[j]?=some (.int xs[j]):=by rw[AM,AL f];rfl
   rw[Fp e1];show(xs[j] == xs[j])=true;simp
  |true=>
   symm;rw[uI];apply QP a;intro j h1 h2;have q:=List.all_eq_true.mp c j (List.mem_range.mpr (by simpa using h1))
   have e1:(xs.map V.int)[j]?=some (.int xs[j]):=by rw[AM,AL h1];rfl
   have e:(ys.map V.int)[j]?=some (.int ys[j]):=by rw[AM,AL h2];rfl
   rw[Fp e1,Fp e]at q;have b:(xs[j] == ys[j])=true:=q
   simpa using b
 .rw[II (by simpa using a),fD]
  rintro rfl;exact a rfl
theorem WD(ns:List Int):(ns.map V.int).all DP=true:=by
 rw[FI];intro x hx;obtain⟨y,_,rfl⟩:=List.mem_map.mp hx;rfl
theorem tw(h:Wq ss ta λtp xs=>∃ns:List Int,xs=ns.map PV.int/\Wq ss tb λBO ys=>BO=tp/\∃ms:List Int,ys=ms.map PV.int/\k (.bl (if neg then !decide (ns=ms)else decide (ns=ms)))):Wp ss (BF (Kn K neg) ta tb) k:=⟨λE Z F H Q S q=>
 h.go E Z F H _ S λv tp xs F1 H1 a sv⟨ns,e1,h2⟩=>h2.go E Z F1 H1 _ a.st λv2 BO ys F2 H2 m2 G3⟨d,ms,e,kk⟩=>by
  subst e1;subst e;subst d;obtain⟨l,vs,rfl,b,r⟩:=(sv.mv m2).seq m2.st;obtain⟨l2,HA,rfl,Bb,c⟩:=G3.seq m2.st;rw[r.ints]at b;rw[c.ints]at Bb;refine⟨l,l2,ns.map V.int,ms.map V.int,rfl,rfl,?_,WD _,WD _,?_⟩
  .cases BO
   .exact .inl ⟨AI.of b,AI.of Bb⟩
   .exact .inr ⟨Ag.of b,Ag.of Bb⟩
  .rw[vG];cases neg
   .exact q _ _ F2 H2 (a.trans m2) (.bl _) kk
   .exact q _ _ F2 H2 (a.trans m2) (.bl _) kk⟩
theorem mF(h:Wq ss ta λtp xs=>∃ns:List Int,xs=ns.map PV.int/\Wq ss tb λBO ys=>BO=tp/\∃ms:List Int,ys=ms.map PV.int/\k (.bl (!decide (ns=ms)))):Wp ss (BF (Kn K true) ta tb) k:=tw h
theorem c3{i j:Nat}(h:js[i]?=some j):(Ak js Z)[i]?=some ((Z[j]?).join):=by
 unfold Ak;rw[AM,h];rfl
theorem join_some{o:Option (Option V)}{a:Addr}(h:some o.join=some (some (V.ref a))):o=some (some (.ref a)):=by
 cases o with
 |none=>cases h
 |some q=>cases q with
  |none=>cases h
  |some v=>simpa using h
theorem Mv.NT{vs:List V}(S:Sg E ss Z F H)(m:Mv E (Br js ss++ps.map .is) (Ak js Z++vs.map some) F H F' H'):Mv E ss Z F H F' H':=by
 have g:(Br js ss).length=js.length:=by simp[Br]
 have r:(Ak js Z).length=js.length:=by simp[Ak]
 have k:∀(i:Nat)(a:Addr),(Br js ss++ps.map .is)[i]?=some .AH->(Ak js Z++vs.map some)[i]?=some (some (.ref a))->∃j,js[i]?=some j/\ss[j]?=some .AH/\Z[j]?=some (some (.ref a)):=λi a hi f=>by
  by_cases h:i<js.length
  .rw[D5 (by rw[g];exact h)]at hi;rw[D5 (by rw[r];exact h)]at f;have d:=AL h;have q:=cP d hi;rw[c3 d]at f;refine⟨js[i],d,?_,join_some f⟩;cases w:ss[js[i]]? with
   |none=>rw[w]at q;cases q
   |some u=>rw[w]at q;cases q;rfl
  .rw[Eg (by omega),AM]at hi;cases w:ps[i - (Br js ss).length]? with
   |none=>rw[w]at hi;cases hi
   |some p=>rw[w]at hi;cases hi
 refine S.step m.ff m.st.fh (λa o n e=>m.hh a o (λi hi f=>?_) e) m.nn λi l hi e=>?_
 .obtain⟨j,_,h1,h2⟩:=k i a hi f;exact n j h1 h2
 .by_cases c:∃b:Nat,js[b]?=some i
  .obtain⟨b,c⟩:=c;have lt:b < js.length:=(List.getElem?_eq_some_iff.mp c).1;refine m.st.Ep (i:=b) ?_ ?_
   .rw[D5 (by rw[g];exact lt)];unfold Br;rw[AM,c];show some ((ss[i]?).getD .any)=_;rw[hi];rfl
   .rw[D5 (by rw[r];exact lt),c3 c,e];rfl
  .refine BU.keep (S.Ep hi e) λo v=>m.hh l o (λb C6 s=>?_) v;obtain⟨j,t,h1,h2⟩:=k b l C6 s;have d:j≠i:=by rintro rfl;exact c ⟨b,t⟩
   exact S.Bd j i _ _ l d h1 hi h2 e
theorem wM{wi:TI}{tt:TT}{k:List PV->Prop}(P:PV->PV->Prop)
  (h:Wi ss wi λxs=>xs.length<=100000/\(∀x∈xs,Wt (Br js ss++[.is x]) tt λb=>b=true)/\(∀x∈xs,Wp (Br js ss++[.is x]) te (P x))/\∀ys:List PV,ys.length=xs.length->(∀(j:Nat)x y,xs[j]?=some x->ys[j]?=some y->P x y)->k ys)
  (nd:js.Nodup:=by decide):Wn ss (GN wi js tt te) k:=⟨λE Z F H Q S q=>
 h.go E Z F H _ S λJ xs F1 H1 d t⟨hz,U,V,kk⟩acc Ao=>by
  have Hi:CH ss Z acc:=d.st.IC Ao;have Jt:=d.st.Dl Ao;have KD:∀(i:Nat)s,ss[i]?=some s->¬ BK s Z[i]? acc:=λi s hi=>d.st.JD hi Ao;refine⟨λi m H2=>m=xs.length - i/\i<=xs.length/\∃F2 vs ys,Mv E ss Z F1 H1 F2 H2/\F2 acc=none/\H2 acc=some (.lst vs)/\AE F2 vs ys/\ys.length=i/\∀(j:Nat)x y,xs[j]?=some x->ys[j]?=some y->P x y,⟨_,rfl,BN _,F1,[],[],d.st.make Ao _,d.st.Be Ao,AV,.nil,rfl,λj x y _ e=>by simp at e⟩,?_⟩;rintro i m H2⟨rfl,hi,F2,vs,ys,m2,K,A,u,FU,I⟩
  by_cases C:i<xs.length
  .refine .inr ⟨t.go ss Z F2 H2 i m2.ff m2.st C,λx H3 y=>?_⟩;obtain⟨p,F3,G,v,D⟩:=t.D7 ss Z F2 H2 i x H3 m2.ff m2.st C y;have N:p∈xs:=BL G;have Gz:∀{F4:Hp},(∀a o,F4 a=some o->F2 a=some o∨H2 a=none)->F4 acc=none:=λ{F4}n=>by
    cases e:F4 acc with
    |none=>rfl
    |some o=>
     rcases n acc o e with w|w
     .rw[K]at w;cases w
     .rw[A]at w;cases w
   have σ:=v.st.A6 (js:=js) nd (.one D);refine(U p N).go E _ F3 H3 _ σ λb F4 H4 T f=>?_;have L:=T.NT (ps:=[p]) (vs:=[x]) v.st;have B:=v.trans L;show if b=true then _ else _
   rw[f,eM rfl];have Y:=B.st.A6 (js:=js) nd (.one (D.mono L.ff));refine(V p N).go E _ F4 H4 _ Y λw O F5 H5 R Hf W=>?_;have Jl:=R.NT (ps:=[p]) (vs:=[x]) B.st;have l:=B.trans Jl;have JE:=l.hh acc _ Hi A;have M:=Gz l.nn;have g:vs.length<=99999:=by
    rw[u.length,FU];omega
   refine⟨vs,JE,JI g,xs.length - (i+1),by omega,rfl,C,F5,vs++[w],ys++[O],?_,M,AV,(u.mono l.ff).append (.one Hf),by simp[FU],λj a b z f=>?_⟩
   .have r:=m2.trans l;refine⟨r.st.Ka M (.inl Jt) KD,r.ff,λa o n e=>?_,r.nn⟩;rw[AN (DE e Ao)];exact r.hh a o n e
   .by_cases c:j<ys.length
    .rw[D5 c]at f;exact I j a b z f
    .have X:j=i:=by
      have:=(List.getElem?_eq_some_iff.mp f).1;rw[BQ,QY]at this;omega
     subst X;rw[Eg (by omega),FU,NL]at f;rw[G]at z;cases z;cases f;exact W
  .have e:i=xs.length:=by omega
   subst e;exact .inl ⟨t.stop ss Z F2 H2 m2.ff m2.st,q acc vs _ F2 H2 (d.trans m2) K (d.none Ao) A u (kk ys FU I)⟩⟩
variable{i:Nat}{t:OV}
end
end Fz
namespace Fz
open L2 Lw
@[reducible] noncomputable def zg (X:XK) (t:OV) (D:Ex->Prop):Xw:=⟨λ_=>X,λss=>ss[0]?=some (.ow true t),D⟩
variable{pre:Pre}
section
variable{P:Program}{w:World}{K:zu}{mg:zw}{Zu:Heap}{x qual:Str}{st:Stmt}{f:Addr}{fd:FuncData}{N ps:List Str}{k:Nat}
theorem eN(F:AQ K x qual st f fd)(S:BJ N ps (AS st))(a:∀ss R,pre ss R->ss.length=ps.length)
  (c:∀{AZ:Value}{A:Around}{outer:List Env}{s:Shared}{H:Hp}{E:XK},Bc k (A.deeper (envOfC qual (AS st) s.heap.objs.size f AZ))->
   ∃t,ER (FO D8 P w K mg Zu N qual (AS st) f AZ A outer s H E).Fn (DZ st) t/\∀ss R,pre ss R->Ws (ss++List.replicate (N.length - ps.length) .any) t (λ_=>∃k,R=.is k/\k .A7) R):DT P w K mg Zu D8 (k+1) f fd ps (B3 pre):=
 F.EE S (λvs H Q E h=>XO a h) λAZ A outer s H vs Q E b h=>let ⟨t,q,r⟩:=c b;⟨t,q,Yq h a r⟩
theorem nq(F:AQ K x qual st f fd)(S:BJ N ps (AS st))(a:∀ss R,pre ss R->ss.length=ps.length)
  (c:∀{AZ:Value}{A:Around}{outer:List Env}{s:Shared}{H:Hp}{E:XK},Bc k (A.deeper (envOfC qual (AS st) s.heap.objs.size f AZ))->
   ∃t,ER (FO D8 P w K mg Zu N qual (AS st) f AZ A outer s H E).Fn (DZ st) t/\∀ss R,pre ss R->Ws (ss++List.replicate (N.length - ps.length) .any) t (λ_=>False) R):DT P w K mg Zu D8 (k+1) f fd ps (EM pre):=
 F.EE S (λvs H Q E h=>uQ a h) λAZ A outer s H vs Q E b h=>let ⟨t,q,r⟩:=c b;⟨t,q,jN h a r⟩
theorem hF(F:AQ K x qual st f fd)(b:∀(kV a c:Value)(g:Option Addr)(AZ ct:Value)(us:List Value),us.length=ps.length->bindArgs (PySem.W.fnOf x qual (Hv st) (DZ st) (AS st) .none kV a c g AZ ct) ⟨us,[]⟩=pure (ps.zip us))(m:mg x=some (.ref f))(S:BJ N ps (AS st))(d:∀ss R,pre ss R->ss.length=ps.length)
  (e:∀{AZ:Value}{A:Around}{outer:List Env}{s:Shared}{H:Hp}{E:XK},Bc k (A.deeper (envOfC qual (AS st) s.heap.objs.size f AZ))->
   ∃t,ER (FO D8 P w K mg Zu N qual (AS st) f AZ A outer s H E).Fn (DZ st) t/\∀ss R,pre ss R->Ws (ss++List.replicate (N.length - ps.length) .any) t (λ_=>∃k,R=.is k/\k .A7) R):AG P w K mg Zu x (k+1) ps (B3 pre):=
 AG.mk F (F.binds b) m (eN F S d e)
theorem hM(F:AQ K x qual st f fd)(b:∀(kV a c:Value)(g:Option Addr)(AZ ct:Value)(us:List Value),us.length=ps.length->bindArgs (PySem.W.fnOf x qual (Hv st) (DZ st) (AS st) .none kV a c g AZ ct) ⟨us,[]⟩=pure (ps.zip us))(m:mg x=some (.ref f))(S:BJ N ps (AS st))(d:∀ss R,pre ss R->ss.length=ps.length)
  (e:∀{AZ:Value}{A:Around}{outer:List Env}{s:Shared}{H:Hp}{E:XK},Bc k (A.deeper (envOfC qual (AS st) s.heap.objs.size f AZ))->
   ∃t,ER (FO D8 P w K mg Zu N qual (AS st) f AZ A outer s H E).Fn (DZ st) t/\∀ss R,pre ss R->Ws (ss++List.replicate (N.length - ps.length) .any) t (λ_=>False) R):AG P w K mg Zu x (k+1) ps (EM pre):=
 AG.mk F (F.binds b) m (nq F S d e)
end
end Fz
namespace Kz
variable{u v w:Nat}{ab:Nat->List Nat}
abbrev Lo:=List (Option Nat)
noncomputable def lows(lo:Lo):List Nat:=lo.filterMap id
mutual
def fu(ab:Nat->List Nat):Nat->Nat->Lo->List Nat->Bool×Lo×List Nat
 | 0,_,lo,tr=>(false,lo,tr)
 |n+1,v,lo,tr=>Bu ab n v (ab v) lo tr
def Bu(ab:Nat->List Nat):Nat->Nat->List Nat->Lo->List Nat->Bool×Lo×List Nat
 |_,_,[],lo,tr=>(false,lo,tr)
 |n,v,u::r,lo,tr=>
  if u∈tr then Bu ab n v r lo tr
  else match lo[u]?.join with
   |none=>(true,lo.set u (some v),tr++[u])
   |some w=>match fu ab n w lo (tr++[u])with
    | (true,B7,BP)=>(true,B7.set u (some v),BP)
    | (false,B7,BP)=>Bu ab n v r B7 BP
end
def AP(ab:Nat->List Nat)(lo:Lo):Nat->List Nat->Prop
 |_,[]=>False
 |v,[u]=>u∈ab v/\u<lo.length/\lo[u]?.join=none
 |v,u::u2::r=>u∈ab v/\∃w,lo[u]?.join=some w/\AP ab lo w (u2::r)
noncomputable def app(lo:Lo):Nat->List Nat->Lo
 |_,[]=>lo
 |v,u::r=>(app lo ((lo[u]?.join).getD 0) r).set u (some v)
theorem Ll(lo:Lo):∀(v:Nat)(us:List Nat),(app lo v us).length=lo.length
 |_,[]=>rfl
 |v,u::r=>by unfold app;rw[Gm];exact Ll lo _ r
theorem Yn{lo:Lo}{i:Nat}:∀{v:Nat}{us:List Nat},i∉us->(app lo v us)[i]?=lo[i]?
 |_,[],_=>rfl
 |v,u::r,h=>by
  unfold app;rw[CJ (λz=>h (by rw[z];exact Ae))];exact Yn λz=>h (Au _ z)
theorem join_some{lo:Lo}(h:lo[u]?.join=some w):lo[u]?=some (some w):=by
 cases e:lo[u]? with
 |none=>rw[e]at h;cases h
 |some o=>rw[e]at h;exact iI some h
theorem Ey{lo:Lo}:w∈lows lo↔∃u:Nat,lo[u]?=some (some w):=by
 unfold lows;rw[yR];constructor
 .rintro⟨o,ho,e⟩;obtain⟨u,a⟩:=List.mem_iff_getElem?.mp ho;exact⟨u,by rw[a,show o=some w from e]⟩
 .rintro⟨u,e⟩;exact⟨some w,BL e,rfl⟩
theorem Zg{lo:Lo}(h:u<lo.length):∃l r,lows lo=l++(lo[u]?.join).toList++r/\lows (lo.set u (some v))=l++v::r:=by
 refine⟨lows (lo.take u),lows (lo.drop (u+1)),?_,?_⟩
 .have e:lo=lo.take u++lo[u]::lo.drop (u+1):=by rw[<- QN h,Vp]
  unfold lows
  conv=>lhs;rw[e,yE]
  rw[AL h];cases q:lo[u]with
  |none=>simp
  |some w=>simp
 .rw[List.set_eq_take_append_cons_drop,eM h];unfold lows;rw[yE];simp
theorem Wu{ab:Nat->List Nat}{lo:Lo}:∀{v:Nat}{us:List Nat},AP ab lo v us->us.Nodup->(∀u∈us,u<lo.length)->(lows (app lo v us)).Perm (v::lows lo)
 |_,[],h,_,_=>h.elim
 |v,[u],h,_,_=>by
  obtain⟨l,r,e1,b⟩:=Zg (v:=v) h.2.1;unfold app app;rw[b,e1,h.2.2]
  simpa using yW
 |v,u::u2::r,h,nd,lt=>by
  obtain⟨_,w,hw,h2⟩:=h;have e:=List.nodup_cons.mp nd;have d:=Wu h2 e.2 (λx hx=>lt x (Au _ hx));unfold app;rw[hw];show(lows ((app lo w (u2::r)).set u (some v))).Perm (v::lows lo);obtain⟨l,c,e1,b⟩:=Zg (lo:=app lo w (u2::r)) (u:=u) (v:=v) (by rw[Ll];exact lt u Ae);rw[Yn e.1,hw]at e1;rw[e1]at d;rw[b];have p1:(w::(l++c)).Perm (w::lows lo):=by
   refine List.Perm.trans ?_ d
   simpa using(yW (a:=w) (l₁:=l) (l₂:=c)).symm
  exact List.perm_middle.trans (p1.cons_inv.cons v)
def KZ(ab:Nat->List Nat)(lo:Lo):Prop:=∀u w,lo[u]?=some (some w)->u∈ab w
theorem Z3{ab:Nat->List Nat}{lo:Lo}(f:KZ ab lo):∀{v:Nat}{us:List Nat},AP ab lo v us->us.Nodup->KZ ab (app lo v us)
 |_,[],h,_=>h.elim
 |v,[u],h,_=>λu' w e=>by
  unfold app app at e
  by_cases z:u=u'
  .subst z;rw[Cp h.2.1]at e;cases e;exact h.1
  .rw[CJ z]at e;exact f u' w e
 |v,u::u2::r,h,nd=>λu' a e=>by
  obtain⟨c,w,hw,h2⟩:=h;have d:=List.nodup_cons.mp nd;have b:=Z3 f h2 d.2;unfold app at e;rw[hw]at e
  by_cases z:u=u'
  .subst z;rw[Cp (by rw[Ll];exact(List.getElem?_eq_some_iff.mp (join_some hw)).1)]at e;cases e;exact c
  .rw[CJ z]at e;exact b u' a e
def D3(ab:Nat->List Nat)(v:Nat)(lo:Lo):Prop:=∃σ:List Nat,(∀u∈ab v,u∈σ)/\∀z∈σ,∃w,lo[z]?=some (some w)/\∀u∈ab w,u∈σ
theorem D3.no{ab:Nat->List Nat}{lo:Lo}{σ:List Nat}(cl:∀z∈σ,∃w,lo[z]?=some (some w)/\∀u∈ab w,u∈σ):∀{v:Nat}{us:List Nat},(∀u∈ab v,u∈σ)->¬ AP ab lo v us
 |_,[],_,h=>h
 |v,[u],hv,h=>by
  obtain⟨w,e,_⟩:=cl u (hv u h.1);have a:=h.2.2;rw[e]at a;cases a
 |v,u::u2::r,hv,h=>by
  obtain⟨b,w,hw,h2⟩:=h;obtain⟨d,e,c⟩:=cl u (hv u b);rw[join_some hw]at e;cases e;exact D3.no cl c h2
theorem GJ:∀{l1 l2:List Nat},l1.Nodup->(∀x∈l1,x∈l2)->l1.length<=l2.length
 | [],_,_,_=>BN _
 |a::r,l2,nd,h=>by
  have b:=List.nodup_cons.mp nd;have c:=GJ (l2:=l2.erase a) b.2 λx hx=>(NG (λz=>b.1 (by rw[<- z];exact hx))).mpr (h x (Au _ hx));rw[J8 (h a Ae)]at c;have:0<l2.length:=QX (h a Ae);rw[Am];omega
theorem WA{lo:Lo}:(lows lo).Nodup->∀{u u' w:Nat},lo[u]?=some (some w)->lo[u']?=some (some w)->u=u':=by
 unfold lows
 induction lo with
 |nil=>intro _ u u' w e;cases e
 |cons o r b=>
  intro nd u u' w e a;have sub:∀{k x:Nat},r[k]?=some (some x)->x∈r.filterMap id:=λ{k x}e=>List.mem_filterMap.mpr ⟨some x,BL e,rfl⟩;cases u with
  |zero=>
   cases u' with
   |zero=>rfl
   |succ u'=>
    cases(show some o=some (some w)from e);rw[yF (show id (some w)=some w from rfl)]at nd;exact absurd (sub (k:=u') a) (List.nodup_cons.mp nd).1
  |succ u=>
   cases u' with
   |zero=>
    cases(show some o=some (some w)from a);rw[yF (show id (some w)=some w from rfl)]at nd;exact absurd (sub (k:=u) e) (List.nodup_cons.mp nd).1
   |succ u'=>
    have c:(r.filterMap id).Nodup:=by
     cases o with
     |none=>simpa using nd
     |some x=>exact(List.nodup_cons.mp (by simpa using nd)).2
    rw[b c (u:=u) (u':=u') (w:=w) e a]
theorem D3.FY{lo B7:Lo}(s:D3 ab v lo)(B:(lows lo).Nodup)(f:KZ ab B7)(keep:∀w∈lows lo,w∈lows B7):D3 ab v B7:=by
 obtain⟨Z0,F,ZV⟩:=s
 -- without zN
 let σ:=(List.range lo.length).filter λz=>decide (z∈Z0)
 have m:∀z,z∈σ↔z∈Z0:=λz=>by
  simp only[σ,Qa,Qb,eW];refine⟨λh=>h.2,λh=>⟨?_,h⟩⟩;obtain⟨w,e,_⟩:=ZV z h;exact(List.getElem?_eq_some_iff.mp e).1
 have A:σ.Nodup:=List.nodup_range.sublist yG;have cl:∀z∈σ,∃w,lo[z]?=some (some w)/\∀u∈ab w,u∈σ:=λz d=>by
  obtain⟨w,e,c⟩:=ZV z ((m z).mp d);exact⟨w,e,λu n=>(m u).mpr (c u n)⟩
 -- each zB lower one zF in B7 at a place of σ
 have mv:∀z∈σ,∃y∈σ,B7[y]?=lo[z]?:=λz d=>by
  obtain⟨w,e,c⟩:=cl z d;obtain⟨y,g⟩:=Ey.mp (keep w (Ey.mpr ⟨z,e⟩));exact⟨y,c y (f y w g),by rw[g,e]⟩
 have ex:∀l:List Nat,(∀z∈l,z∈σ)->l.Nodup->∃ys:List Nat,ys.length=l.length/\ys.Nodup/\∀y∈ys,y∈σ/\∃z∈l,B7[y]?=lo[z]?:=by
  intro l
  induction l with
  |nil=>intro _ _;exact⟨[],rfl,.nil,λy h=>by cases h⟩
  |cons z r C=>
   intro o nd;have t:=List.nodup_cons.mp nd;obtain⟨ys,e1,p,i⟩:=C (λx hx=>o x (Au _ hx)) t.2;obtain⟨y,D,g⟩:=mv z (o z Ae);refine⟨y::ys,by rw[Am,Am,e1],List.nodup_cons.mpr ⟨λE=>?_,p⟩,λx hx=>?_⟩
   .obtain⟨_,j,K0,q⟩:=i y E;obtain⟨w,k,_⟩:=cl z (o z Ae);rw[g,k]at q;have:=WA B k q.symm;exact t.1 (by rw[this];exact K0)
   .rcases List.mem_cons.mp hx with rfl|hx
    .exact⟨D,z,Ae,g⟩
    .obtain⟨a,j,b,c⟩:=i x hx;exact⟨a,j,Au _ b,c⟩
 obtain⟨ys,e1,p,i⟩:=ex σ (λ_ h=>h) A;have all:∀z∈σ,z∈ys:=λz d=>N9 λno=>by
  have:=GJ (l1:=z::ys) (l2:=σ) (List.nodup_cons.mpr ⟨no,p⟩) λx hx=>by
   rcases List.mem_cons.mp hx with rfl|hx
   .exact d
   .exact(i x hx).1
  rw[Am]at this;omega
 refine⟨σ,λu n=>(m u).mpr (F u n),λz d=>?_⟩;obtain⟨_,j,K0,e⟩:=i z (all z d);obtain⟨w,k,c⟩:=cl j K0;exact⟨w,by rw[e,k],c⟩
def Res(ab:Nat->List Nat)(lo:Lo)(v:Nat)(us tr:List Nat):Bool×Lo×List Nat->Prop
 | (true,B7,_)=>∃p,AP ab lo v p/\p.Nodup/\(∀u∈p,u∉tr/\u<lo.length)/\B7=app lo v p
 | (false,B7,BP)=>B7=lo/\(∀z∈tr,z∈BP)/\BP.Nodup/\(∀z∈BP,z<lo.length)/\tr.length<=BP.length/\(∀u∈us,u∈BP)/\∀z∈BP,z∈tr∨∃w,lo[z]?=some (some w)/\∀u∈ab w,u∈BP
theorem Kk{ab:Nat->List Nat}{lo:Lo}(BX:∀v u,u∈ab v->u<lo.length):∀(n v:Nat)(tr:List Nat),tr.Nodup->(∀z∈tr,z<lo.length)->lo.length<n+tr.length->Res ab lo v (ab v) tr (fu ab n v lo tr)
 | 0,v,tr,nd,lt,i=>by
  have:=GJ (l2:=List.range lo.length) nd λx hx=>List.mem_range.mpr (lt x hx);rw[Cd]at this;omega
 |n+1,v,tr,nd,lt,i=>by
  have go:∀(us tr:List Nat),(∀u∈us,u∈ab v)->tr.Nodup->(∀z∈tr,z<lo.length)->lo.length<n+1+tr.length->Res ab lo v us tr (Bu ab n v us lo tr):=by
   intro us
   induction us with
   |nil=>
    intro tr _ nd lt i;rw[Bu];exact⟨rfl,λz h=>h,nd,lt,AW _,λu h=>(by cases h),λz h=>.inl h⟩
   |cons u r D=>
    intro tr sub nd lt i;have E:∀x∈r,x∈ab v:=λx hx=>sub x (Au _ hx);have o:=sub u Ae;have l:=BX v u o;rw[Bu]
    by_cases f:u∈tr
    .rw[eM f];have q:=D tr E nd lt i;cases e:Bu ab n v r lo tr with
     |mk b x=>
      rw[e]at q;cases b with
      |true=>exact q
      |false=>
       obtain⟨a1,a2,B,A,g,t,s⟩:=q;exact⟨a1,a2,B,A,g,λy d=>by
        rcases List.mem_cons.mp d with rfl|d
        .exact a2 _ f
        .exact t y d,s⟩
    .rw[eJ f];have O:(tr++[u]).Nodup:=List.nodup_append.mpr ⟨nd,List.nodup_cons.mpr ⟨BZ,.nil⟩,λa G b F=>by rw[List.mem_singleton.mp F];exact λz=>f (by rw[<- z];exact G)⟩;have N:∀z∈tr++[u],z<lo.length:=λz c=>by
      rcases List.mem_append.mp c with c|c
      .exact lt z c
      .rw[List.mem_singleton.mp c];exact l
     cases j:lo[u]?.join with
     |none=>exact⟨[u],⟨o,l,j⟩,List.nodup_cons.mpr ⟨BZ,.nil⟩,λx hx=>by rw[List.mem_singleton.mp hx];exact⟨f,l⟩,rfl⟩
     |some w=>
      have q:=Kk BX n w (tr++[u]) O N (by rw[BQ];simp;omega);show Res ab lo v (u::r) tr (match fu ab n w lo (tr++[u])with
       | (true,B7,BP)=>(true,B7.set u (some v),BP)
       | (false,B7,BP)=>Bu ab n v r B7 BP)
      cases e:fu ab n w lo (tr++[u])with
      |mk b x=>
       obtain⟨B7,BP⟩:=x;rw[e]at q;cases b with
       |true=>
        obtain⟨p,ap,pn,pt,rfl⟩:=q;cases p with
        |nil=>exact ap.elim
        |cons C p=>
         refine⟨u::C::p,⟨o,w,j,ap⟩,List.nodup_cons.mpr ⟨λz=>(pt u z).1 (Bo _ Ae),pn⟩,λx hx=>?_,?_⟩
         .rcases List.mem_cons.mp hx with rfl|hx
          .exact⟨f,l⟩
          .exact⟨λz=>(pt x hx).1 (D6 _ z),(pt x hx).2⟩
         .show _=(app lo ((lo[u]?.join).getD 0) (C::p)).set u (some v);rw[j];rfl
       |false=>
        obtain⟨rfl,a2,B,A,g,t,s⟩:=q;have m:=D BP E B A (by rw[BQ]at g;simp at g;omega);show Res ab B7 v (u::r) tr (Bu ab n v r B7 BP);cases H:Bu ab n v r B7 BP with
        |mk b x=>
         obtain⟨Q,P⟩:=x;rw[H]at m;cases b with
         |true=>
          obtain⟨p,ap,pn,pt,el⟩:=m;exact⟨p,ap,pn,λx hx=>⟨λz=>(pt x hx).1 (a2 x (D6 _ z)),(pt x hx).2⟩,el⟩
         |false=>
          obtain⟨M,k,L,K,R,J,I⟩:=m;refine⟨M,λz c=>k z (a2 z (D6 _ c)),L,K,by rw[BQ]at g;simp at g;omega,λy d=>?_,λz c=>?_⟩
          .rcases List.mem_cons.mp d with rfl|d
           .exact k _ (a2 _ (Bo _ Ae))
           .exact J y d
          .rcases I z c with c|c
           .rcases s z c with c|⟨w2,ew,hw⟩
            .rcases List.mem_append.mp c with c|c
             .exact .inl c
             .rw[List.mem_singleton.mp c];exact .inr ⟨w,join_some j,λy d=>k y (t y d)⟩
            .exact .inr ⟨w2,ew,λy d=>k y (hw y d)⟩
           .exact .inr c
  rw[fu];exact go (ab v) tr (λ_ h=>h) nd lt i
theorem step{lo:Lo}{n:Nat}(BX:∀v u,u∈ab v->u<lo.length)(i:lo.length<n)(nd:(lows lo).Nodup)(f:KZ ab lo)(d:v∉lows lo):
  ∃b B7 BP,fu ab n v lo []=(b,B7,BP)/\B7.length=lo.length/\(lows B7).Nodup/\KZ ab B7/\(v∈lows B7∨D3 ab v B7)/\(∀w∈lows B7,w=v∨w∈lows lo)/\∀w,(w∈lows lo∨D3 ab w lo)->w∈lows B7∨D3 ab w B7:=by
 have q:=Kk BX n v [] .nil (λz h=>by cases h) (by simpa using i)
 cases e:fu ab n v lo []with
 |mk b x=>
  obtain⟨B7,BP⟩:=x;rw[e]at q;refine⟨b,B7,BP,rfl,?_⟩;cases b with
  |true=>
   obtain⟨p,ap,pn,pt,rfl⟩:=q;have a:=Wu ap pn λu g=>(pt u g).2;have ff:=Z3 f ap pn;have kp:∀w∈lows lo,w∈lows (app lo v p):=λw hw=>a.mem_iff.mpr (Au _ hw);refine⟨Ll lo v p,a.nodup_iff.mpr (List.nodup_cons.mpr ⟨d,nd⟩),ff,.inl (a.mem_iff.mpr Ae),λw hw=>List.mem_cons.mp (a.mem_iff.mp hw),λw h=>h.imp (kp w) λs=>s.FY nd ff kp⟩
  |false=>
   obtain⟨rfl,_,_,_,_,k,j⟩:=q;exact⟨rfl,nd,f,.inr ⟨BP,k,λz c=>(j z c).resolve_left (by simp)⟩,λw hw=>.inr hw,λw h=>h⟩
end Kz
namespace L2
variable{X:Cx}{Zj:zv}{Z:St}{H H2:Hp}{s s2 s₁:Shared}{T a c c' f it kS:Addr}{o:Obj}{N3 kp pos px:Pos}{q qn x:Str}{keys ps:Array Value}{h' h1:Heap}{e1 i t':Nat}{params:Arguments}{body elt:Expr}{outer scope:Scope}{LV cl:List (Str×Addr)}{E Q:Value->Shared->Prop}{A:Around}{cd u:Value}{js:List Nat}{m:zw}{tb te:TE}{w:World}{A0 us vs:List Value}{kz ns:List Int}{W:Nat->List Int->Hp->Prop}{xs:List V}{ta:TA}{N loose:List Str}{ifs:List Expr}{tt:TT}
theorem Inv.Kj(I:Inv X Zj Z H s)(h:s.heap.get? a=some o)(n:H a=none)(hL:a≠X.env.locals)(c:a∉X.fs)(d:∀v,o.data≠.cell v):Inv X ((a,o)::Zj) Z H s:=by
 refine⟨I.ok,I.os,I.bare,I.base,I.loc,I.cell,I.free,I.Eu,λp b=>?_,I.AA,I.len⟩;rcases List.mem_append.mp b with z|z
 .exact I.pin p (D6 _ z)
 .rcases List.mem_cons.mp z with rfl|z
  .exact⟨h,n,hL,c,d⟩
  .exact I.pin p (Bo _ z)
theorem Inv.L6{p:Addr×Obj}(I:Inv X (p::Zj) Z H s):Inv X Zj Z H s:=by
 refine⟨I.ok,I.os,I.bare,I.base,I.loc,I.cell,I.free,I.Eu,λq a=>I.pin q ?_,I.AA,I.len⟩;rcases List.mem_append.mp a with z|z
 .exact D6 _ z
 .exact Bo _ (Au _ z)
theorem Inv.coded{P:Addr}(I:Inv X Zj Z H s)(a:H P=some (.By (.tab pos q)))(hx:Heap.ExtBut P s.heap h')(f:s.heap.objs.size<=c')(w:h'.CodeRec (.ref c') q)
  (c:h'.get? P=some (PySem.W.tabObj ps)) (tok:TriplesOk ps.toList) (y:codeAmong pos ps.toList=some (.ref c')):Inv X Zj Z (upd H c' (.By (.HE q))) { s with heap:=h',toks:=t' }:=by
 have k:H c'=none:=I.AA.fresh f;have ne:∀b u,H b=some u->b≠c':=λb u e=>DE e k;have nP:∀b,H b=none->b≠P:=λb n z=>by rw[z,a]at n;cases n
 have old:∀b o,s.heap.get? b=some o->b≠c':=λb o e=>Ad (C5 (AY e) f);refine I.step (g':=s.gens) (d':=s.drawn) (ch:=[]) (λ_ z=>nomatch z) (λb o _ _ _ e n=>hx b o (nP b n) e) (λb o _ _ _ e n=>⟨o.slots,hx b o (nP b n) e⟩) (λb o _ e n=>by rw[AN (old b o e)];exact n)
  (λb o _ e=>?_) (λb x e=>by rw[AN (ne b _ e)];exact e) (λb _ _ e=>by rw[AN (ne b _ e)];exact e) (λm l=>?_) (λb u e=>?_) I.bare
 .by_cases z:b=P
  .subst z;exact⟨_,c⟩
  .exact⟨o,hx b o z e⟩
 .obtain⟨o,es,ep,ho,r⟩:=l;exact⟨o,es,ep,hx _ o (nP _ I.free) ho,r⟩
 .by_cases g:b=c'
  .subst g;rw[AV]at e;cases e;obtain⟨B,i,vs,t,p,ho,hd,j⟩:=w;cases p;exact⟨i,vs,t,ho,hd,j⟩
  .rw[AN g]at e
   by_cases z:b=P
   .subst z;rw[a]at e;cases e;exact⟨ps,c,tok,λA h=>by rw[y]at h;cases h;exact⟨c',rfl,AV⟩⟩
   .refine(I.AA b u e).FY (λd v hd q=>hx d v ?_ q) (λd q=>by rw[AN (ne d _ q)];exact q) λd _ q=>by rw[AN (ne d _ q)];exact q
    rcases hd with rfl|hd
    .exact z
    .rintro rfl;rw[a]at hd;cases hd
theorem kF{P:Addr}
  (I:Inv X Zj Z H s) (k:H P=some (.By (.tab pos q))) (C:PySem.W.CodeHd X.base c P) (j:X.env.code=.ref c) (i:X.env.globals=mainGlobals) (BR:closureFor scope X.env=pure LV) (y:X.base.BuiltinsAt X.mg P) (Hd:mainGlobals≠P)
  (x:X.env.qual ++ "<lambda>"=q) (Mx:defaultsOf params X.env=([],[]))
  (h:∀f c' DJ s' H',Inv X ((f,PySem.W.kla_obj "<lambda>" q params body scope LV ((X.mg "__name__").getD .none) c' DJ)::Zj) Z H' s'->(∀b o,H b=some o->H' b=some o)->H' c'=some (.By (.HE q))->s'.os=s.os->Q (.ref f) s') :
  wpAny (model X.prog X.w) X.A (eval (.Lambda params body scope pos) X.env) Q E s:=by
 subst x;have G:=I.ok.mod.glob.keeps I.bk;obtain⟨ps,l,tok,S⟩:=I.AA P _ k;have B:s.heap.BuiltinsAt X.mg P:=by
  obtain⟨F,o,R,O,N,M,L,K⟩:=y;exact⟨F,o,R,O,N,M,I.bk _ _ L,K⟩
 have m:∀(a b:Str)(c':Addr)(DJ:Value)v,(PySem.W.kla_obj a b params body scope LV ((X.mg "__name__").getD .none) c' DJ).data≠.cell v:=λa b c' DJ v z=>by cases z
 refine PySem.W.kla_eval Mx ?_;cases g:codeAmong pos ps.toList with
 |none=>
  refine PySem.W.kla_makeFunction (mg:=X.mg) BR i G j (C.keeps I.bk) l tok g Hd B λc' DJ h' tk hx UG A8 n p=>?_;have t:codeAmong pos (ps++#[rawInt pos.line,rawInt pos.col,.ref c']).toList=some (.ref c'):=by
   rw[dO];exact codeAmong_snoc _ tok g
  have r:TriplesOk (ps++#[rawInt pos.line,rawInt pos.col,.ref c']).toList:=by
   rw[dO];exact TriplesOk_snoc _ _ _ _ tok
  have J:=(I.coded (t':=tk) k hx UG n p r t).kept (t':=tk) (h':=h'.push (PySem.W.kla_obj "<lambda>" (X.env.qual ++ "<lambda>") params body scope LV ((X.mg "__name__").getD .none) c' DJ)) λb u e=>Af _ e;have d:s.heap.objs.size<=h'.objs.size:=CC UG (FK A8);refine h _ c' DJ _ _ (J.Kj (Ay _ rfl) ?_ (DO (C5 I.lt d)) (I.Li d) (m _ _ _ _)) (λb o e=>by rw[AN (DE e (I.AA.fresh UG))];exact e) AV rfl;rw[AN (DO A8)];exact I.AA.fresh d
 |some D=>
  obtain⟨c',rfl,FR⟩:=S D g;refine PySem.W.kla_makeFunctionHit (mg:=X.mg) BR i G j (C.keeps I.bk) l tok g B λDJ h' tk hk d=>?_;have J:=I.kept (t':=tk) (h':=h'.push (PySem.W.kla_obj "<lambda>" (X.env.qual ++ "<lambda>") params body scope LV ((X.mg "__name__").getD .none) c' DJ)) λb u e=>Af _ (hk b u e);exact h _ c' DJ _ _ (J.Kj (Ay _ rfl) (I.AA.fresh d) (DO (C5 I.lt d)) (I.Li d) (m _ _ _ _)) (λb o e=>e) FR rfl
noncomputable abbrev MF(q:Str)(scope:Scope)(x:Str)(cl:List (Str×Addr))(L f:Addr)(cd:Value):Env:=newEnv scope L mainGlobals ((x,L+1)::cl) (q ++ ".<locals>.") (some f) cd none builtinsNs
noncomputable abbrev Pz(X:Cx)(A:Around)(N:List Str)(x:Str)(env:Env)(s:Shared)(H:Hp):Cx:=
 { X with A:=A.deeper env,N:=N,s₀:=s,H₀:=H,env:=env,outer:=X.stack,stack:=env::X.stack,ex:=[],fn:=λy=>y == x,calm:=true,pn:=[],xe:=λ_ _=>False }
theorem oe{M:Model}{Q:Env->Shared->Prop}(hk:scope.kind=.function)(hx:scope.names.lookup x=some .cell)
  (cf:∀(n:Nat)(cl:List (Str×Addr)),cellsFrom n scope.names cl=GB (some x) n++cl) (pc:∀h:Heap,pushCells h scope.names=N0 (some x) h)
  (g:∀h' m,h'.Ns s.heap.objs.size m->(∀b o,s.heap.get? b=some o->h'.get? b=some o)->h'.IsCell (s.heap.objs.size+1) (some u)->Q (MF q scope x cl s.heap.objs.size f cd) { s with heap:=h' }) :
  wpAny M A (newFunctionEnv scope mainGlobals cl [(x,u)] (q ++ ".<locals>.") (some f) cd none builtinsNs) Q E s:=by
 simp only[newFunctionEnv,Option.isSome_none,Bool.false_eq_true,if_false];refine Wo (wpAny_alloc ?_);refine Wo (wpAny_layCells _ (λname kind cells=>by cases i:kind == NameKind.cell <;> simp[i]) _ _ _ _ ?_)
 rw[cf,pc];rw[show({ s with heap:=s.heap.push { cls:=.type "frame", data:=.dict #[] } }:Shared).heap.objs.size=s.heap.objs.size+1 from C1 ..]
 refine Wo ?_;rw[dZ];refine Wo (Wo (wpAny_storeName_cell (c:=s.heap.objs.size+1) (v₀:=none) hk hx Om ?_ λh' d a=>dP ?_))
 .exact⟨_,Ay _ rfl |> λz=>by rw[C1]at z;exact z,rfl⟩
 .dsimp only;rw[Vm];refine dP (dP (g h' _ (Heap.Ns.sameBut ((Heap.Ns.new s.heap (.type "frame")).push _) a (Ad (Gp _))) (λb o e=>?_) d));exact a.extBut b o (Ad (Dw (AY e))) (Af _ (Af _ e))
section
variable{A6:List Str}{v:V}
theorem ee(S:D0 X.N X.env.scope scope (some x) [x] A6 js)(hx:scope.names.lookup x=some .cell)(I:Inv X Zj Z H s)(e0:HJ X.prog X.w X.K X.mg X.base A X.stack s H)(hd:A.handled=none)(U:RelV v u)
  (EG:h1.Ns s.heap.objs.size m) (old:∀b o,s.heap.get? b=some o->h1.get? b=some o) (BR:h1.IsCell (s.heap.objs.size+1) (some u)) :
  Inv (Pz X A (A6++[x]) x (MF q scope x (BC X.env.cells scope.names) s.heap.objs.size f cd) s H) [] (Ak js Z++[some v]) H { s with heap:=h1,toks:=t' }:=by
 have σ:∀y∈scope.names,y.2=.free->(X.env.cells.lookup y.1).isSome=true:=λy g hk=>by
  obtain⟨c,e⟩:=I.ok.has y.1 (S.all y g hk);rw[e];rfl
 have R:∀y c,(BC X.env.cells scope.names).lookup y=some c->X.env.cells.lookup y=some c:=Qt scope.names [] σ (λ_ _ e=>by cases e);have B:js.length=A6.length:=by have:=iI List.length S.at';simpa using this
 have Q:∀y c,X.env.cells.lookup y=some c->c<s.heap.objs.size:=λy c e=>by
  obtain⟨v,o,ho,_⟩:=I.cell y c e;exact AY ho
 have d:∀c v,s.heap.IsCell c v->h1.IsCell c v:=λc v AU=>by obtain⟨o,ho,hd⟩:=AU;exact⟨o,old c o ho,hd⟩
 have C:∀y c,((x,s.heap.objs.size+1)::BC X.env.cells scope.names).lookup y=some c->(some x=some y/\c=s.heap.objs.size+1)∨(some x≠some y/\X.env.cells.lookup y=some c):=λy c e=>(ZW (ce:=some x) e).imp id λz=>⟨z.1,R y c z.2⟩;have T:∀y∈A6,some x≠some y:=λy g z=>(List.nodup_append.mp S.nd).2.2 y g y (S.sub y z) rfl;refine⟨⟨e0.mod,S.kind,rfl,rfl,AW _,λy z c e1 F=>?_,λy g=>?_,λy c L e=>?_,λ_=>hd,Around.frames_deeper e0.frames,.inr ⟨rfl,rfl⟩,λb E=>(by cases E),e0.bs,e0.GZ,λb o e E=>(by cases E),λb E=>(by cases E),e0.FA,e0.Ht⟩,
  rfl,e0.bare,Un.kept old,⟨m,EG,λi y D e1 F e3=>?_⟩,λy c e=>?_,I.AA.fresh (AW _),λy c e=>?_,λp W=>(by cases W),I.AA.kept old,?_⟩
 .rcases C y c e1 with⟨a1,rfl⟩|⟨_,C9⟩
  .rcases C z _ F with⟨a2,_⟩|⟨_,Cv⟩
   .exact BB (a1.symm.trans a2)
   .exact absurd (Q z _ Cv) (NJ (Cf _))
  .rcases C z c F with⟨_,rfl⟩|⟨_,Cv⟩
   .exact absurd (Q y _ C9) (NJ (Cf _))
   .exact I.ok.inj y z c C9 Cv
 .have L:scope.names.lookup y=some .free∨some x=some y:=g.elim (λg=>.inr (S.one _ (Gr (show scope.names.lookup y=some .cell from g)) rfl)) λg=>.inl g;show ∃c,List.lookup y ((x,s.heap.objs.size+1)::BC X.env.cells scope.names)=some c
  by_cases ex:some x=some y
  .rw[<- BB ex];exact⟨_,Om⟩
  .have z:=Q9 (ce:=some x) (n:=s.heap.objs.size+1) (cl:=BC X.env.cells scope.names) ex;rw[show List.lookup y ((x,s.heap.objs.size+1)::BC X.env.cells scope.names)=_ from z];exact Option.isSome_iff_exists.mp (M8 scope.names [] (.inr (Gr (L.resolve_right ex))))
 .rcases C y c e with⟨_,rfl⟩|⟨V,_⟩
  .exact Cf _
  .exact absurd (iI some (eq_of_beq L).symm) V
 .have O:(Ak js Z).length=A6.length:=by unfold Ak;rw[AB,B]
  by_cases hi:i<A6.length
  .have t:A6[i]?=some y:=by
    have t:(A6++[x])[i]?=some y:=e1
    rwa [D5 hi]at t
   have a:(Ak js Z)[i]?=some (some D):=by
    have a:(Ak js Z++[some v])[i]?=some (some D):=F
    rwa [D5 (by rw[O];exact hi)]at a
   have G:y∈A6:=BL t;unfold Ak at a;rw[AM]at a;cases J:js[i]? with
   |none=>rw[J]at a;cases a
   |some j=>
    rw[J]at a;have Y:X.N[j]?=some y:=by
     have q:=iI (λl=>l[i]?) S.at';simp only[AM,J,t,KL]at q;exact BB q
    have hσ:Z[j]?=some (some D):=by
     simp only[KL,NN]at a;cases q:Z[j]? with
     |none=>rw[q]at a;cases a
     |some w=>rw[q]at a;simp at a;rw[a]
    obtain⟨m0,fU,Im⟩:=I.loc;obtain⟨u',r,l⟩:=Im j y D Y hσ (.inr (S.cell y G));refine⟨u',r,?_⟩;rcases l with⟨k,_⟩|⟨_,c,e,z⟩
    .have k':X.env.scope.names.lookup y=some .local:=k;rcases S.cell y G with z|z <;> (rw[z]at k';cases k')
    .obtain⟨c',M⟩:=Option.isSome_iff_exists.mp (M8 (cells:=X.env.cells) scope.names [] (.inr (Gr (S.free y G))));have P:=R y c' M;rw[e]at P;cases P;exact .inr ⟨.inr (S.free y G),c,(Q9 (ce:=some x) (T y G)).trans M,d c _ z⟩
  .have t:(A6++[x])[i]?=some y:=e1;have a:(Ak js Z++[some v])[i]?=some (some D):=F;rw[Eg (by omega)]at t;rw[Eg (by omega),O]at a;have z:i - A6.length=0:=by
    have:=(List.getElem?_eq_some_iff.mp t).1
    simpa using this
   rw[z]at t a;cases t;cases a;exact⟨u,U,.inr ⟨.inl hx,_,Om,BR⟩⟩
 .rcases C y c e with⟨_,rfl⟩|⟨_,C9⟩
  .exact⟨some u,BR⟩
  .obtain⟨v,z⟩:=I.cell y c C9;exact⟨v,d c v z⟩
 .rcases C y c e with⟨_,rfl⟩|⟨_,C9⟩
  .exact I.AA.fresh (Cf _)
  .exact I.Eu y c C9
 .show(Ak js Z++[some v]).length=(A6++[x]).length;unfold Ak;simp[B]
theorem sJ{k:Nat}{DJ b:Value}{Q:VK}(S:D0 X.N X.env.scope scope (some x) [x] A6 js)(hx:scope.names.lookup x=some .cell)(I:Inv X Zj Z H s)
  (e0:HJ X.prog X.w X.K X.mg X.base A X.stack s H) (c:Bc k A) (o:s.heap.get? f=some (PySem.W.kla_obj "<lambda>" q params body scope (BC X.env.cells scope.names) b c' DJ)) (p:H c'=some (.By (.HE q)))
  (co:scope.isCoroutine=false) (gen:scope.isGenerator=false) (a:∀u,bindArgs (PySem.W.kla_fn "<lambda>" q params body scope (BC X.env.cells scope.names) b (.ref c') DJ) ⟨[u],[]⟩=pure [(x,u)]) (g:RelV v u)
  (r:PE (Pz X A (A6++[x]) x (MF q scope x (BC X.env.cells scope.names) s.heap.objs.size f (.ref c')) s H) body tb) (h:tb (Ak js Z++[some v]) H Q) :
  codeAny (model X.prog X.w) A (.call (.ref f) ⟨[u],[]⟩) (CR D8 X.stack X.prog X.w H s Q (λ_ _ _=>False)) s:=by
 have B:s.heap.CodeRec (.ref c') q:=by
  obtain⟨l,vs,t,e,d,n⟩:=I.AA c' _ p;exact⟨c',l,vs,t,rfl,e,d,n⟩
 refine PySem.W.kla_callFunE c.depth o rfl co gen rfl B ?_;rw[a];refine dP (oe S.kind hx S.cf S.pc λh' m EG old BR=>⟨I.nolimit.keeps old,?_⟩);have J:=ee (t':=s.toks) (q:=q) (f:=f) (cd:=.ref c') S hx I e0 c.hd g EG old BR;refine PySem.W.kla_codeExpr (i7 (r [] _ _ H Q J h) (λu' s' z=>?_) λe s' z=>False.elim z);obtain⟨y,H',J',i,j⟩:=z;exact⟨y,H',J'.os,J'.bare,J'.base,J'.AA,i,j⟩
end
theorem sG{h:Heap}{b:zw}(x:h.Ns a m)(y:h.Ns a b):m=b:=by
 obtain⟨o,es,ep,ho,hd,_,c⟩:=x;obtain⟨o',Ax,EK,Bz,FH,_,Jk⟩:=y;rw[ho]at Bz;cases Bz;rw[hd]at FH;cases FH
 funext n
 rw[<- c n,Jk n]
section
variable{prog:Program}
theorem iL{L:Addr}{e:Nat}{P:PySem.Fin->Shared->Prop}(EG:s.heap.Ns L m)(hk:s.heap.get? kS=some (seqObj "list" keys e))(r:s.heap.get? a=some (seqObj "list" #[] e1))
  (OH:kS≠a) (l:kS≠L) (t:a≠L) (n:IntsAre keys.toList kz) (f:kz.length=vs.length) (Bh:vs.length<64)
  (h:∀h' tk out c,h'.Ns L m->(∀b o,b≠L->b≠kS->b≠a->s.heap.get? b=some o->h'.get? b=some o)->h'.get? a=some (seqObj "list" out c)->KskOut false kz vs out.toList->P (.done (.ret .none)) { s with heap:=h',toks:=tk }) :
  wpAny (model prog w) A (ksk_end a false vs.toArray e1 (.ref kS) keys) P E s:=by
 have mem:∀{b:Addr}{o:Obj},(b,o)∈(GO.ledger s.heap L kS).filter (λp=>decide (p.1≠a))↔(b≠L/\b≠kS/\s.heap.get? b=some o)/\b≠a:=λ{b o}=>by
  rw[Qa,GO.iJ,uI]
 refine ksk_end_ (e:=e) (h₀:=GO.OK s.heap) (L:=L) (m:=m) (news:=(GO.ledger s.heap L kS).filter (λp=>decide (p.1≠a))) (GO.pI EG) (λp d=>?_) OH (λ⟨b,o⟩d=>(mem.mp d).1.2.1) (λ⟨b,o⟩d=>(mem.mp d).2) n f Bh λh' tk out c F N k=>?_
 .rcases List.mem_append.mp d with z|z
  .obtain⟨b,o⟩:=p;have q:=mem.mp z;exact⟨q.1.2.2,q.1.1,GO.OB _ _⟩
  .rcases List.mem_cons.mp z with rfl|z
   .exact⟨hk,l,GO.OB _ _⟩
   .rw[List.mem_singleton.mp z];exact⟨r,t,GO.OB _ _⟩
 .exact h h' tk out c F.ns (λb o j i g e=>(N (b,o) (Au _ (mem.mpr ⟨⟨j,i,e⟩,g⟩))).1) (N (a,seqObj "list" out c) Ae).1 k
theorem Inv.mC{o:HO}(I:Inv X Zj Z H s)(n:H a=none)(f:X.s₀.heap.objs.size<=a)(hL:a≠X.env.locals)(i:∀x c,X.env.cells.lookup x=some c->c≠a)(g:∀p∈X.pn++Zj,p.1≠a)(ok:Bi X.prog X.w (upd H a o) s.heap a o):Inv X Zj Z (upd H a o) s:=by
 have ne:∀b u,H b=some u->b≠a:=λb u e=>DE e n;refine I.step (h':=s.heap) (g':=s.gens) (d':=s.drawn) (t':=s.toks) (ch:=[a]) (λb d=>?_) (λb u _ _ _ e _=>e) (λb u _ _ _ e _=>⟨u.slots,e⟩) (λb u d e n=>by rw[AN (λz=>d (by simp[z]))];exact n) (λb u _ e=>⟨u,e⟩)
  (λb x e=>by rw[AN (ne b _ e)];exact e) (λb _ _ e=>by rw[AN (ne b _ e)];exact e) (λm h=>h) (λb u e=>?_) I.bare
 .have e:b=a:=by simpa using d
  subst e;exact⟨.inr f,hL,i,g⟩
 .by_cases z:b=a
  .subst z;rw[AV]at e;cases e;exact ok
  .rw[AN z]at e;exact(I.AA b u e).FY (λ_ _ _ e=>e) (λc e=>by rw[AN (ne c _ e)];exact e) λc _ e=>by rw[AN (ne c _ e)];exact e
theorem Inv.Q5(I:Inv X Zj Z H s)(e:s.heap.get? a=some o)(h:∀v,o.data≠.cell v):∀x c,X.env.cells.lookup x=some c->c≠a:=λx c q z=>by
 obtain⟨v,o',ho,hd⟩:=I.cell x c q;rw[z,e]at ho;cases ho;exact h _ hd
theorem Inv.jO{o':Obj}(I:Inv X ((a,o)::Zj) Z H s)(d:Heap.SameBut a s.heap h')(e:h'.get? a=some o')(c:X.s₀.heap.objs.size<=a)(f:∀p∈X.pn++Zj,p.1≠a)(i:∀v,o'.data≠.cell v):
  Inv X ((a,o')::Zj) Z H { s with heap:=h',toks:=t' }:=by
 obtain⟨g,n,hL,h,T4⟩:=I.pin (a,o) (Bo _ Ae);exact(I.L6.turned (t':=t') (λb u j q=>(d.2 b j).trans q) n hL (.inr c) (I.Q5 g T4) f).Kj e n hL h i
theorem u0{P:PySem.Fin->Shared->Prop}(I:Inv X ((kS,seqObj "list" #[] 0)::(a,seqObj "list" #[] e1)::Zj) Z H s)
  (hk:X.s₀.heap.objs.size<=kS) (ha:X.s₀.heap.objs.size<=a) (OH:kS≠a) (D:∀p∈X.pn++Zj,p.1≠kS) (V:∀p∈X.pn++Zj,p.1≠a) (Bh:A0.length<64) (S:W 0 [] H)
  (B:∀i ks H2 s2 P2 v,A0[i]?=some v->ks.length=i->W i ks H2->Inv X P2 Z H2 s2->(∀p∈Zj,p∈P2)->wpAny (model X.prog X.w) A (call (.ref f) [v]) (EP X P2 Z (λy H3=>∃k:Int,y=.int k/\W (i+1) (ks++[k]) H3)) (λ_ _=>False) s2)
  (h:∀ks H2 s2 out c,W A0.length ks H2->ks.length=A0.length->KskOut false ks A0 out.toList->Inv X ((a,seqObj "list" out c)::Zj) Z H2 s2->P (.done (.ret .none)) s2) :
  wpAny (model X.prog X.w) A (ksk_rest a (.ref f) false A0.toArray e1 (.ref kS)) P E s:=by
 unfold ksk_rest;refine Wo (oF ?_)
 first
  |rw[List.forIn_toArray]
  | (rw[<- xq];simp only[List.toList_toArray])
  |rw[<- xq]
 have T:∀p∈X.pn++(a,seqObj "list" #[] e1)::Zj,p.1≠kS:=λp F=>by
  rcases List.mem_append.mp F with z|z
  .exact D p (D6 _ z)
  .rcases List.mem_cons.mp z with rfl|z
   .exact OH.symm
   .exact D p (Bo _ z)
 refine Wo (ksk_fold (λi s'=>∃g e ks H2,Inv X ((kS,seqObj "list" g e)::(a,seqObj "list" #[] e1)::Zj) Z H2 s'/\W i ks H2/\IntsAre g.toList ks/\ks.length=i) A0 0 s ⟨#[],0,[],H,I,S,.nil,rfl⟩ ?step ?done)
 case step=>
  rintro j x s' hx⟨g,e,ks,H2,I2,hw,hi,r⟩;simp only[NM]at hw r ⊢;have hj:j<A0.length:=(List.getElem?_eq_some_iff.mp hx).1;refine Wo (tJ (i7 (B j ks H2 s' _ x hx r hw I2 λp F=>Au _ (Au _ F)) (λv s2 he=>?_) λ_ _ hF=>hF.elim));obtain⟨y,H3,I3,U,k,rfl,Y⟩:=he;obtain⟨t,rfl⟩:∃t,v=.int k t:=U
  try dsimp only
  have nk:=(I3.pin (kS,seqObj "list" g e) (Bo _ Ae)).1;have hz:g.size<=A0.length:=by
   have h1:=hi.length;rw[Bs]at h1;omega
  have s1:=EN s2.heap kS (Obj.mapSeq (·.push (.int k t)))
  obtain⟨K,Jw⟩:∃K,(s2.heap.update kS (Obj.mapSeq (·.push (.int k t)))).get? kS=some (seqObj "list" (g.push (.int k t)) K):=⟨_,get?_update_seq nk (·.push (.int k t))⟩
  refine Wo (listUpdate_at nk rfl ?_ (by rw[rh];omega) (CC (LM (Array.size_push ..)) (by rw[rh];omega)));refine dP ⟨rfl,g.push (.int k t),K,ks++[k],H3,I3.jO (t':=s2.toks) s1 Jw hk T (λv z=>by cases z),Y,?_,by rw[BQ,r];rfl⟩;rw[show(g.push (Value.int k t)).toList=g.toList++[Value.int k t] by simp];exact ksk_snoc hi
 case done=>
  rintro s'⟨g,e,ks,H2,I2,hw,hi,r⟩;rw[NM]at hw r;obtain⟨nk,σ,Q,kf,_⟩:=I2.pin (kS,seqObj "list" g e) (Bo _ Ae);have J:=I2.L6;obtain⟨M,R,L,af,_⟩:=J.pin (a,seqObj "list" #[] e1) (Bo _ Ae);obtain⟨m,EG,_⟩:=J.loc
  try dsimp only
  refine Wo (listItems_at nk rfl ?_);refine iL EG nk M OH Q L hi r Bh λh' tk out c O keep ea ko=>?_;have C:∀b u,H2 b=some u->b≠kS/\b≠a:=λb u e=>⟨λz=>absurd (e.symm.trans (z▸σ)) (by simp),λz=>absurd (e.symm.trans (z▸R)) (by simp)⟩;have J1:Inv X Zj Z H2 { s' with heap:=h',toks:=tk }:=by
   refine J.L6.step (g':=s'.gens) (d':=s'.drawn) (ch:=[kS,a]) (λb G=>?_) (λb o h1 _ l e _=>?_) (λb o h1 _ l e _=>⟨o.slots,?_⟩) (λ_ _ _ _ n=>n) (λb o l e=>?_) (λ_ _ e=>e) (λ_ _ _ e=>e) (λm2 h2=>by rw[sG h2 EG];exact O) (λb u e=>?_) I2.bare
   .rcases List.mem_cons.mp G with rfl|G
    .exact⟨.inr hk,Q,I2.Q5 nk (λv z=>by cases z),D⟩
    .rw[List.mem_singleton.mp G];exact⟨.inr ha,L,I2.Q5 M (λv z=>by cases z),V⟩
   .exact keep b o h1 (λz=>l (by simp[z])) (λz=>l (by simp[z])) e
   .exact keep b o h1 (λz=>l (by simp[z])) (λz=>l (by simp[z])) e
   .by_cases z:b=X.env.locals
    .obtain⟨o',_,_,Bz,_⟩:=O;exact⟨o',z▸Bz⟩
    .exact⟨o,keep b o z (λz=>l (by simp[z])) (λz=>l (by simp[z])) e⟩
   .have N:∀d v,H2 d=some v->d≠X.env.locals:=λd v e z=>by rw[z,I2.free]at e;cases e
    refine(I2.AA b u e).FY (λd v hd q=>?_) (λ_ q=>q) λ_ _ q=>q;rcases hd with rfl|hd
    .exact keep d v (N d _ e) (C d _ e).1 (C d _ e).2 q
    .exact keep d v (N d _ hd) (C d _ hd).1 (C d _ hd).2 q
  exact h ks H2 _ out c hw r ko (J1.Kj ea R L af λv z=>by cases z)
theorem xV{l:Addr}(I:Inv X Zj Z H s)(n:s.heap.IsList l A0.toArray)(Bh:A0.length<64)(x:W 0 [] H)
  (e:∀i ks H2 s2 P2 v,A0[i]?=some v->ks.length=i->W i ks H2->Inv X P2 Z H2 s2->(∀p∈Zj,p∈P2)->wpAny (model X.prog X.w) X.A.in1.in1 (call (.ref f) [v]) (EP X P2 Z (λy H3=>∃k:Int,y=.int k/\W (i+1) (ks++[k]) H3)) (λ_ _=>False) s2)
  (h:∀D ks H2 s2 out c,W A0.length ks H2->ks.length=A0.length->KskOut false ks A0 out.toList->Inv X ((D,seqObj "list" out c)::Zj) Z H2 s2->s.heap.objs.size<=D->Q (.ref D) s2) :
  wpAny (model X.prog X.w) X.A (call (.builtin "sorted") [.ref l] [(Str.ofString "key",.ref f)]) Q E s:=by
 refine call_function_entry_kw kind_sorted plain_sorted entry_sorted (ksk_s1 _ _) ?_;unfold Builtin.«sorted»;refine Wo (m:=checkCount "sorted" 1 1 _) (dP ?_);refine Wo (collect_list n ?_ (by rw[rh];omega));refine Wo (wZ ?_ (by rw[rh];omega));have hsz:((s.heap.push (seqObj "list" #[] 0)).update s.heap.objs.size (Obj.mapSeq (·++A0.toArray))).objs.size=s.heap.objs.size+1:=by
  rw[Vf,C1]
 have d:(((s.heap.push (seqObj "list" #[] 0)).update s.heap.objs.size (Obj.mapSeq (·++A0.toArray))).push (seqObj "list" A0.toArray 0)).get? (s.heap.objs.size+1)=some (seqObj "list" A0.toArray 0):=by
  rw[<- hsz];exact Ay _ rfl
 have keep:∀b o,s.heap.get? b=some o->(((s.heap.push (seqObj "list" #[] 0)).update s.heap.objs.size (Obj.mapSeq (·++A0.toArray))).push (seqObj "list" A0.toArray 0)).get? b=some o:=λb o q=>by
  have t:b<s.heap.objs.size:=AY q;rw[Heap.get?_push_ne _ _ _ (by rw[hsz];exact Ad (Dw t)),Ve _ _ _ _ (Ad t),Heap.get?_push_ne _ _ _ (Ad t)];exact q
 show wpAny _ _ _ _ _ { s with heap:=((s.heap.push (seqObj "list" #[] 0)).update s.heap.objs.size (Obj.mapSeq (·++A0.toArray))).push (seqObj "list" A0.toArray 0) }
 rw[hsz];generalize hh:((s.heap.push (seqObj "list" #[] 0)).update s.heap.objs.size (Obj.mapSeq (·++A0.toArray))).push (seqObj "list" A0.toArray 0)=g at d keep
 refine Wo (iZ (wpAny_call_entry_kw slot_list_sort ⟨_,d,rfl⟩ entry_list_sort ?body (ksk_l1 _ _)))
 case body=>
  show wpAny (model X.prog X.w) X.A.in1.in1 (Builtin.«list.sort» ⟨[.ref (s.heap.objs.size+1)],[(Str.ofString "key",.ref f)]⟩) _ _ _;rw[ksk_t1];obtain⟨e1,Xi⟩:∃e1,(g.update (s.heap.objs.size+1) (Obj.mapSeq λ_=>(#[]:Array Value))).get? (s.heap.objs.size+1)=some (seqObj "list" #[] e1):=⟨_,get?_update_seq d λ_=>#[]⟩;unfold ksk_tree;refine Wo (listItems_at d rfl ?_);refine Wo (listUpdate_at d rfl ?_ (by rw[Bp,rh];omega) (BN _));refine Wo (seqEpoch_at Xi rfl ?_);refine Wo (ZAF ?_ (by show A0.length<=_;rw[rh];omega));refine Wo (wZ ?_ (BN _));refine iZ ?_;have F:s.heap.objs.size+1<g.objs.size:=AY d;have up:∀b o,b≠s.heap.objs.size+1->g.get? b=some o->(((g.update (s.heap.objs.size+1) (Obj.mapSeq λ_=>(#[]:Array Value))).push (seqObj "tuple" A0.toArray 0)).push (seqObj "list" #[] 0)).get? b=some o:=λb o r q=>Af _ (Af _ ((Ve _ _ _ _ r).trans q));have old:∀b o,s.heap.get? b=some o->(((g.update (s.heap.objs.size+1) (Obj.mapSeq λ_=>(#[]:Array Value))).push (seqObj "tuple" A0.toArray 0)).push (seqObj "list" #[] 0)).get? b=some o:=λb o q=>up b o (Ad (Dw (AY q))) (keep b o q);have kz:((g.update (s.heap.objs.size+1) (Obj.mapSeq λ_=>(#[]:Array Value))).push (seqObj "tuple" A0.toArray 0)).objs.size=g.objs.size+1:=by rw[C1,Vf]
  have G:(((g.update (s.heap.objs.size+1) (Obj.mapSeq λ_=>(#[]:Array Value))).push (seqObj "tuple" A0.toArray 0)).push (seqObj "list" #[] 0)).get? (g.objs.size+1)=some (seqObj "list" #[] 0):=by rw[<- kz];exact Ay _ rfl
  have K:(((g.update (s.heap.objs.size+1) (Obj.mapSeq λ_=>(#[]:Array Value))).push (seqObj "tuple" A0.toArray 0)).push (seqObj "list" #[] 0)).get? (s.heap.objs.size+1)=some (seqObj "list" #[] e1):=Af _ (Af _ Xi);show wpAny _ _ (ksk_rest (s.heap.objs.size+1) (.ref f) false A0.toArray e1 (.ref ((g.update (s.heap.objs.size+1) (Obj.mapSeq λ_=>(#[]:Array Value))).push (seqObj "tuple" A0.toArray 0)).objs.size)) _ _ _;rw[kz];have a:s.heap.objs.size<=s.heap.objs.size+1:=Cf _;have j:s.heap.objs.size<=g.objs.size+1:=by omega
  have u:∀{b:Addr},s.heap.objs.size<=b->∀p∈X.pn++Zj,p.1≠b:=λr p C z=>absurd (AY (I.pin p C).1) (by rw[z];exact NJ r);have J:=I.kept (t':=s.toks) old;have M:=J.Kj K (I.AA.fresh a) (DO (C5 I.lt a)) (I.Li a) (λv z=>by cases z);have L:=M.Kj G (I.AA.fresh j) (DO (C5 I.lt j)) (I.Li j) (λv z=>by cases z);refine u0 L (CC I.sz j) (CC I.sz a) (DO (Dw F)) (u j) (u a) Bh x e λks H2 s2 out c hw n B J3=>⟨_,rfl,?_⟩;exact dP ⟨_,rfl,h _ ks H2 s2 out c hw n B J3 a⟩
end
theorem AI.up{K:zu}{H':Hp}(h:AI K H a xs)(up:∀b o,H b=some o->H' b=some o):AI K H' a xs:=by
 rcases h with h|h
 .exact .inl (h.imp (up _ _) λ⟨o,e⟩=>⟨o,up _ _ e⟩)
 .exact .inr h
theorem _root_.PySem.Paired.kQ(r:Vals xs us)(e:us[i]?=some u):∃x,xs[i]?=some x/\RelV x u:=by
 have hi:=(List.getElem?_eq_some_iff.mp e).1;have c:=r.length;obtain⟨u',a,b⟩:=r.get (AL (show i<xs.length by omega));rw[e]at a;cases a;exact⟨_,AL (by omega),b⟩
def aV(kz:List Int)(xs ys:List V):Prop:=∃ps:List (Int×V),ps.Perm (kz.zip xs)/\ys=ps.map (·.2)/\ps.Pairwise λp q=>p.1<=q.1
theorem cI{α β:Type}{F:α->β->Prop}{l2 m2:List β}(p:m2.Perm l2):∀{l1:List α},Paired F l1 l2->∃b:List α,b.Perm l1/\Paired F b m2:=by
 induction p with
 |nil=>intro l1 r;exact⟨l1,.refl _,r⟩
 |cons x p d=>
  intro l1 r;cases r with
  |cons h t=>
   obtain⟨m,a,rm⟩:=d t;exact⟨_,a.cons _,.cons h rm⟩
 |swap x y l=>
  intro l1 r;cases r with
  |cons h t=>
   cases t with
   |cons h2 t=>exact⟨_,.swap _ _ _,.cons h2 (.cons h t)⟩
 |trans p1 p2 Lu Lb=>
  intro l1 r;obtain⟨m,a,rm⟩:=Lb r;obtain⟨n,pn,c⟩:=Lu rm;exact⟨n,pn.trans a,c⟩
theorem p9(r:Vals xs vs):Paired (λ(p:Int×V)(q:Int×Value)=>p.1=q.1/\RelV p.2 q.2) (kz.zip xs) (kz.zip vs):=by
 induction r generalizing kz with
 |nil=>rw[yb,yb];exact .nil
 |cons h t a=>
  cases kz with
  |nil=>exact .nil
  |cons k kz=>exact .cons ⟨rfl,h⟩ a
theorem oY{out:List Value}(r:Vals xs vs)(k:KskOut false kz vs out):∃ys,aV kz xs ys/\Vals ys out:=by
 obtain⟨ps,g,rfl,d⟩:=k;obtain⟨c,f,j⟩:=cI g (p9 r);refine⟨c.map (·.2),⟨c,f,rfl,?_⟩,?_⟩
 .have e:c.map (·.1)=ps.map (·.1):=by
   clear d g f
   induction j with
   |nil=>rfl
   |cons h t i=>rw[Ce,Ce,h.1,i]
  have l:(ps.map (·.1)).Pairwise (λa b:Int=>a<=b):=List.pairwise_map.mpr (d.imp λh=>by simpa using h)
  rw[<- e]at l;exact List.pairwise_map.mp l
 .clear d g f
  induction j with
  |nil=>exact .nil
  |cons h t i=>exact .cons h.2 i
def Sd(K:zu)(P:Addr)(pos:Pos)(q:Str)(js:List Nat)(ta:TA)(tb:TE):TE:=λZ H Q=>ta Z H λvs H1=>∃a xs,vs=[.ref a]/\AI K H1 a xs/\xs.length<64/\H1 P=some (.By (.tab pos q))/\
 ∀c' H2,(∀b o,H1 b=some o->H2 b=some o)->H2 c'=some (.By (.HE q))->
  ∃W:Nat->List Int->Hp->Prop,W 0 [] H2/\(∀i ks H3,W i ks H3->H3 c'=some (.By (.HE q)))/\
   (∀i ks H3 v,W i ks H3->ks.length=i->xs[i]?=some v->tb (Ak js Z++[some v]) H3 λy H4=>∃k:Int,y=.int k/\W (i+1) (ks++[k]) H4)/\
   ∀ks H3 ys,W xs.length ks H3->ks.length=xs.length->aV ks xs ys->∀l,H3 l=none->Q (.ref l) (upd H3 l (.lst ys))
theorem lX{P:Addr}{k:Nat}{p:Pos}{l:Expr}{A6:List Str}(hr:Bc (k+2) X.A)(BR:X.calm=true)(hg:Gl X "sorted")(hm:X.mg "sorted"=none)(ha:PA X [l] ta)
  (S:D0 X.N X.env.scope scope (some x) [x] A6 js) (hx:scope.names.lookup x=some .cell) (co:scope.isCoroutine=false) (gen:scope.isGenerator=false) (hC:PySem.W.codeHdIn X.K c P=true) (hc:X.env.code=.ref c) (TJ:X.env.globals=mainGlobals)
  (hb:X.base.BuiltinsAt X.mg P) (Hd:mainGlobals≠P) (d:X.env.qual ++ "<lambda>"=q) (Mx:defaultsOf params X.env=([],[]))
  (t:∀(cl:List (Str×Addr))(pm DJ u:Value)(c':Addr),bindArgs (PySem.W.kla_fn "<lambda>" q params body scope cl pm (.ref c') DJ) ⟨[u],[]⟩=pure [(x,u)])
  (HX:∀(f:Addr)(cd:Value)(s:Shared)(H:Hp),PE (Pz X X.A.in1.in1 (A6++[x]) x (MF q scope x (BC X.env.cells scope.names) s.heap.objs.size f cd) s H) body tb)
  (E:starEach [l] X.env=[(false,eval l X.env)]:=by rfl) :
  PE X (.Call (.Name "sorted" p) [l] [⟨some "key",.Lambda params body scope N3,kp⟩] pos) (Sd X.K P N3 q js ta tb):=by
 intro Zj s Z H Q I h;refine o7 (HH I hg hm (show bootBuiltins "sorted"=some (.builtin "sorted") by decide +kernel) ?_ (by decide) (by decide));refine callWith_kw (ha.k pos I h λus s1 vs H1 I1 V σ=>?_) (by rw[E];rfl) (by rw[E];rfl) rfl rfl;obtain⟨a,xs,rfl,G,Bh,hP,Y⟩:=σ;obtain⟨u,rfl,U⟩:=vals1 V;cases U;have Lk:∀y∈scope.names,y.2=.free->(X.env.cells.lookup y.1).isSome=true:=λy m hk=>by
  obtain⟨c,e⟩:=I1.ok.has y.1 (S.all y m hk);rw[e];rfl
 refine kws_cons (kF I1 hP (yx I1.ok.mod.HB hC) hc TJ (Zs Lk) hb Hd d Mx λf c' DJ s2 H2 I2 up FR ho=>?_);refine kws_nil ?_;show wpAny (model X.prog X.w) X.A (call (.builtin "sorted") [.ref a] [(Str.ofString "key",.ref f)]) (EP X Zj Z Q) X.xe s2;obtain⟨W,M,L,j,fin⟩:=Y c' H2 up FR;obtain⟨A0,B,pl,_⟩:=I2.list (G.up up);have b:=B.length;refine xV (W:=W) I2 pl.isList (by omega) M (λi ks H3 R P2 v hv C hw I3 sub=>?_) (λD ks H3 R out F hw C ko I3 big=>?_)
 .obtain⟨y,m,T⟩:=B.kQ hv;have hf:=(I3.pin (f,PySem.W.kla_obj "<lambda>" q params body scope (BC X.env.cells scope.names) ((X.mg "__name__").getD .none) c' DJ) (Bo _ (sub _ Ae))).1;refine wpAny_call (pE (sJ (k:=k) S hx I3 I3.bJ.in1.in1 hr.in1.in1 hf (L _ _ _ hw) co gen (λu=>t _ _ _ u _) T (HX _ _ _ _) (j i ks H3 y hw C m)) λr s' d=>?_);cases r with
  |error e=>exact False.elim d
  |ok fl=>
   cases fl with
   |ret u=>exact I3.after d
   |next=>exact False.elim d
   |brk=>exact False.elim d
   |cont=>exact False.elim d
 .obtain⟨ys,kv,O⟩:=oY B ko;obtain⟨g,n,hL,_,T4⟩:=I3.pin (D,seqObj "list" out F) (Bo _ Ae);have J:=I3.L6.L6;have m:ys.length<=sizeLine:=by
   obtain⟨ps,pp,e,_⟩:=kv;have:=pp.length_eq;rw[List.length_zip]at this;rw[e,AB,this,rh];omega
  refine⟨.ref D,_,J.mC (o:=.lst ys) n (CC I2.sz big) hL (J.Q5 g T4) (λp hp z=>?_) ⟨m,out.toList,F,O,by rw[xr];exact g⟩,rfl,fin ks H3 ys (by rw[b];exact hw) (by rw[b];exact C) kv D n⟩;exact absurd (AY (I2.L6.pin p hp).1) (by rw[z];exact NJ big)
theorem uZ{P:Program}{K:zu}{mg p:zw}{CX:Fc}{k:Nat}{y:Addr}{fd:FuncData}{sp:Sp}
  (KX:K.In s₁.heap) (EG:s₁.heap.Ns mainGlobals mg) (f:s₁.heap.Ns builtinsNs p) (U:∀x:Str,x ≠"__name__" -> p x=bootBuiltins x) (O:s₁.heap.NoLimit) (σ:s₁.gens=#[])
  (i:s₁.heap.get? a=some { cls:=.type "list", data:=.seq vs.toArray }) (hi:IntsAre vs ns) (hl:ns.length<=sizeLine) (hr:Bc k callerA)
  (hT:s₁.heap.get? T=some (PySem.W.tabObj #[])) (hB:s₁.heap.BuiltinsAt mg T) (hC:PySem.W.CodeHd s₁.heap c T) (nT:K.lookup T=none)
  (F:∀Zu:Heap,K.In Zu->Zu.Ns mainGlobals mg->Zu.BuiltinsAt mg T->DT P w K mg Zu CX k y fd [x] sp) (ly:∀(s:Shared)(u:Value),BindsTo s fd ⟨[u],[]⟩ [(x,u)])
  (FC:∀H:Hp,H T=some (.By (.tab pos q))->AI K H a (ns.map V.int)->sp [.ref a] H (λv _=>v=.bl true) λ_ _ _=>False)
  (RV:∀H e s',CX [] H s₁ (λ_ _ _=>False) e s'->False) :
  codeAny (model P w) callerA (.call (.ref y) ⟨[.ref a],[]⟩) (λr s'=>r=.ok (.ret (.bool true))/\OldK s₁.heap s'.heap/\s'.os=s₁.os/\AllBare s'.gens) s₁:=by
 have D:=YD hi;have X:=hi.length;have L:a≠T:=λz=>by rw[z,hT]at i;cases i
 have g:∀H:Hp,(∀b,b≠T->H b=none∨∃o xs,H b=some (.Ea o (.lst xs)))->H T=some (.By (.tab pos q))->AI K H a (ns.map V.int)->Bt P w H s₁.heap->(∀b,H b≠none->b=a∨b=T)->(H a≠none->K.lookup a=none)->
   codeAny (model P w) callerA (.call (.ref y) ⟨[.ref a],[]⟩) (λr s'=>r=.ok (.ret (.bool true))/\OldK s₁.heap s'.heap/\s'.os=s₁.os/\AllBare s'.gens) s₁:=by
  intro H hO Z7 hS AA t hK;have C:∀{b:Addr}{o:Obj},s₁.heap.get? b=some o->H b=none->(GI s₁.heap H).get? b=some o:=λe n=>wQ e n;have K9:∀{b:Addr}{o:Obj}{es:Array DictEntry}{ep:Nat},s₁.heap.get? b=some o->o.data=.dict es ep->H b=none:=λ{b o es ep}e d=>by
   cases q:H b with
   |none=>rfl
   |some u=>
    rcases t b (by rw[q];simp)with e'|e'
    .subst e';rw[i]at e;cases e;have d':Data.seq vs.toArray _=Data.dict es ep:=d;cases d'
    .subst e';rw[hT]at e;cases e;have d':Data.fields (#[]:Array Value)=Data.dict es ep:=d;cases d'
  have l:∀{b:Addr}{m:zw},s₁.heap.Ns b m->(GI s₁.heap H).Ns b m:=λ{b m}AU=>by obtain⟨o,es,ep,e,d,r⟩:=AU;exact⟨o,es,ep,C e (K9 e d),d,r⟩
  have G:K.In (GI s₁.heap H):=λb o e=>C (KX b o e) (by
   cases q:H b with
   |none=>rfl
   |some u=>
    rcases t b (by rw[q];simp)with e'|e'
    .subst e';rw[hK (by rw[q];simp)]at e;cases e
    .subst e';rw[nT]at e;cases e)
  have hM:Mod K mg (GI s₁.heap H):=⟨G,l EG,⟨p,l f,U⟩,let ⟨mc,h1,h2⟩:=O;⟨mc,l h1,h2⟩⟩;have Y:(GI s₁.heap H).BuiltinsAt mg T:=by
   obtain⟨A,o,b1,b2,b3,J,B,I,b7⟩:=hB;refine⟨A,o,b1,b2,b3,J,C B ?_,I,b7⟩;cases q:H A with
   |none=>rfl
   |some u=>
    rcases t A (by rw[q];simp)with e'|e'
    .rw[e',i]at B;cases B;exact absurd (show Value.type "list"=Value.type "module" from I) (by decide)
    .exact absurd e' J
  have e0:HJ P w K mg (GI s₁.heap H) callerA [] s₁ H:=⟨rfl,hM,λb o e=>mP e,LM (ux _ _),trivial,λb f=>absurd (show b∈([]:List Addr)from f) (by simp),AA,.of_eq σ⟩;refine pE ((F _ G (l EG) Y).run callerA [] s₁ H ⟨[.ref a],[]⟩ [.ref a] [.ref a] _ _ hr e0 (ly s₁ (.ref a)) (.cons rfl .nil) (FC H Z7 hS)) λr s' h=>?_;cases r with
  |error e=>exact(RV H e s' h).elim
  |ok fl=>
   cases fl with
   |next=>exact False.elim h
   |brk=>exact False.elim h
   |cont=>exact False.elim h
   |ret u=>
    obtain⟨v,H',os,bare,un,W4,R,qv⟩:=h;have S:v=.bl true:=qv;subst S;obtain rfl:u=Value.bool true:=R;have Q:=un.HS T (.By (.tab pos q)) Z7;obtain⟨ps,E,_⟩:=W4 T _ Q;have keep:∀b o,b≠T->s₁.heap.get? b=some o->s'.heap.get? b=some o:=λb o j e=>by
     cases q:H b with
     |none=>exact un.keep b o e q (by intro z;exact absurd (show b∈([]:List Addr)from z) (by simp)) (by simp)
     |some u=>
      rcases hO b j with z|⟨ob,xs,z⟩
      .rw[q]at z;cases z
      .have N:=un.HG b ob _ z;obtain⟨e1,_⟩:=AA b _ z;obtain⟨e2,_⟩:=W4 b _ N;rw[e]at e1;cases e1;exact e2
    refine⟨rfl,⟨λb o e=>?_,λb o e=>?_⟩,os,bare⟩
    .by_cases j:b=T
     .subst j;rw[hT]at e;cases e;exact .inr (.inl ⟨(hC.tab hT).isCodeTable,rfl,#[],ps,rfl,by rw[E];simp⟩)
     .exact .inl (keep b o j e)
    .by_cases j:b=T
     .subst j;exact⟨_,E⟩
     .exact⟨o,keep b o j e⟩
 have M:∀H:Hp,Bi P w H s₁.heap T (.By (.tab pos q)):=λH=>⟨#[],hT,trivial,λcv h=>by cases h⟩;cases hk:K.lookup a with
 |some o=>
  have e:=KX a o hk;rw[i]at e;cases e;refine g (upd (λ_=>none) T (.By (.tab pos q))) (λb f=>.inl (AN f)) AV (.inr ⟨_,vs.toArray,_,hk,rfl,rfl,rfl,by rw[Bp,X];exact hl,by simpa using D⟩) (λb u z=>?_) (λb z=>?_) λz=>absurd (AN L) z
  .by_cases f:b=T
   .subst f;rw[AV]at z;cases z;exact M _
   .rw[AN f]at z;cases z
  .by_cases f:b=T
   .exact .inr f
   .exact absurd (AN f) z
 |none=>
  refine g (upd (upd (λ_=>none) a (.Ea { cls:=.type "list", data:=.seq vs.toArray } (.lst (ns.map V.int)))) T (.By (.tab pos q))) (λb f=>?_) AV (.inl (.inr ⟨{ cls:=.type "list", data:=.seq vs.toArray },by rw[AN L,AV]⟩)) (λb u z=>?_) (λb z=>?_) λ_=>hk
  .rw[AN f]
   by_cases h2:b=a
   .subst h2;exact .inr ⟨_,_,AV⟩
   .exact .inl (AN h2)
  .by_cases f:b=T
   .subst f;rw[AV]at z;cases z;exact M _
   .rw[AN f]at z
    by_cases h2:b=a
    .subst h2;rw[AV]at z;cases z;exact⟨i,by rw[AB];exact hl,vs,_,D,i⟩
    .rw[AN h2]at z;cases z
  .by_cases f:b=T
   .exact .inr f
   .rw[AN f]at z
    by_cases h2:b=a
    .exact .inl h2
    .exact absurd (AN h2) z
theorem iN{l:PySem.W.OpenLaw}{n k:Nat}{q:Program}{XP:(zw)->Heap->Prop}{YP:World->Heap->Prop}{d:DefRec}{K:Params->zu}{CX:World->Fc}{sp:World->Sp}
  (D:l.most=some n) (Jo:n<=sizeLine) (MW:d.params.defaults=[]) (C:Bc k callerA)
  (J:∀(w:World)(h:Heap),YP w h->(K w.params).In h) (y:∀(w:World)(h:Heap),YP w h->h.get? T=some (PySem.W.tabObj #[])) (hC:∀w:World,PySem.W.codeHdIn (K w.params) c T=true) (nT:∀w:World,(K w.params).lookup T=none)
  (F:∀(w:World)(mg:zw)(p:Addr)(h:Heap),(K w.params).In h->h.Ns mainGlobals mg->mg d.name=some (.ref p)->
   ∃fd:FuncData,(∀(s:Shared)(u:Value),BindsTo s fd ⟨[u],[]⟩ [(x,u)])/\
    ∀Zu:Heap,(K w.params).In Zu->Zu.Ns mainGlobals mg->Zu.BuiltinsAt mg T->DT l.prog w (K w.params) mg Zu (CX w) k p fd [x] (sp w))
  (FC:∀(w:World)(H:Hp)(a:Addr)(ns:List Int),ns.length<=n->H T=some (.By (.tab pos qn))->AI (K w.params) H a (ns.map V.int)->sp w [.ref a] H (λv _=>v=.bl true) λ_ _ _=>False)
  (RV:∀(w:World)(H:Hp)(s:Shared)(e:Value)(s':Shared),CX w [] H s (λ_ _ _=>False) e s'->False) :
  PySem.W.WalkO q loose XP YP l.row.toRowW d [] (λf vs=>PySem.call f vs):=by
 refine GO.pG D MW λw s₀ s₁ mg S p o R cd M a vs ns G Y ho hd E4 N7 Se j i E=>?_;have t:=J w _ Y;obtain⟨fd,I,hF⟩:=F w mg p _ t G.T.g N7;have L:s₁.heap.BuiltinsAt mg T:=by
  obtain⟨N,B,Q,P,m,A,O,r⟩:=G.T.bmain;refine⟨N,B,Q,P,λz=>?_,λz=>?_,m,A,O,r⟩
  .obtain⟨o,es,ep,e,hd,_⟩:=G.T.g;rw[z,e]at m;cases m;rw[hd]at r;cases r
  .rw[z,y w _ Y]at m;cases m;cases A
 exact uZ t G.T.g G.T.b G.T.builtins G.T.nolimit E Se j (CC i Jo) C (y w _ Y) L (yx t (hC w)) (nT w) hF I (λH h1 h2=>FC w H a ns i h1 h2) λH e s'=>RV w H s₁ e s'
structure QD (N:List Str) (outer scope:Scope) (x:Str) (A6:List Str) (js:List Nat):Prop where
 kind:scope.kind=.function
 loc:∀y∈scope.names,y.2=.local->scope.names.lookup y.1=some .local
 Gb:scope.names.lookup x=some .cell
 one:∀y∈scope.names,y.2=.cell->y.1=x
 cf:∀(n:Nat)(cl:List (Str×Addr)),cellsFrom n scope.names cl=(x,n)::cl
 pc:∀h:Heap,pushCells h scope.names=h.push { cls:=.type "cell", data:=.cell none }
 at':js.map (λj=>N[j]?)=A6.map some
 cell:∀y∈A6,outer.names.lookup y=some .cell
 free:∀y∈A6,scope.names.lookup y=some .free
 all:∀y∈scope.names,y.2=.free->outer.names.lookup y.1=some .cell
 nd:(A6++[x]).Nodup
section
variable{iter:Expr}{A6:List Str}{J:It}{fp:List Addr}{tn:Nat->Heap->Prop}
theorem QD.G(S:QD N outer scope x A6 js):D0 N outer scope (some x) [x] A6 js:=
 ⟨S.kind,S.loc,λy a e=>by rw[S.one y a e],λy e=>by rw[BB e];exact List.mem_singleton_self _,S.cf,S.pc,S.at',λy a=>.inl (S.cell y a),S.free,λy a e=>.inl (S.all y a e),S.nd⟩
end
structure Nx (N:List Str) (outer scope:Scope) (x:Str) (A6:List Str) (js:List Nat):Prop where
 kind:scope.kind=.function
 G1:∀y∈scope.names,y.2≠.cell
 loc:∀y∈scope.names,y.2=.local->scope.names.lookup y.1=some .local
 Gb:scope.names.lookup x=some .local
 at':js.map (λj=>N[j]?)=A6.map some
 cell:∀y∈A6,outer.names.lookup y=some .cell∨outer.names.lookup y=some .free
 free:∀y∈A6,scope.names.lookup y=some .free
 all:∀y∈scope.names,y.2=.free->outer.names.lookup y.1=some .cell∨outer.names.lookup y.1=some .free
 nd:(A6++[x]).Nodup
section
variable{iter:Expr}{A6:List Str}{wi:TI}
theorem Nx.G(S:Nx N outer scope x A6 js):D0 N outer scope none [x] A6 js:=
 ⟨S.kind,S.loc,λy a e=>absurd e (S.G1 y a),λx e=>(by cases e),λn cl=>T3 S.G1,λh=>R6 S.G1,S.at',S.cell,S.free,S.all,S.nd⟩
theorem sP(b:X.calm=true)(S:Nx X.N X.env.scope scope x A6 js)(hi:QI X (.Name x px) iter wi)
  (Dc:∀fp C s H,MV (FP X (A6++[x]) scope (BC X.env.cells scope.names) C s H fp) ifs tt) (Ct:∀fp C s H,QE (FP X (A6++[x]) scope (BC X.env.cells scope.names) C s H fp) elt te)
  (a:∀v,foldedSetIterable iter X.env v=pure v:=by intro _;rfl):QE X (.ListComp elt [⟨.Name x px,iter,ifs,0⟩] scope pos) (GN wi js tt te):=
 ⟨T6 (CW:=λJ Z H1 acc Q=>JG J js tt te Z H1 acc Q) (UM S.G) b S.G hi.h (λ_ _ _ _=>TY S.G (.inl S.Gb)) (λfp C s H=>(Dc fp C s H).h) (λfp C s H=>(Ct fp C s H).h) a⟩
theorem qD{P:Addr}{k:Nat}{p:Pos}{l:Expr}(e:Bc (k+2) X.A)(BR:X.calm=true)(j:Gl X "sorted")(i:X.mg "sorted"=none)(o:QA X [l] ta)
  (S:QD X.N X.env.scope scope x A6 js) (hx:scope.names.lookup x=some .cell) (co:scope.isCoroutine=false) (gen:scope.isGenerator=false) (hC:PySem.W.codeHdIn X.K c P=true) (m:X.env.code=.ref c) (TJ:X.env.globals=mainGlobals)
  (n:X.base.BuiltinsAt X.mg P) (Hd:mainGlobals≠P) (g:X.env.qual ++ "<lambda>"=q) (Mx:defaultsOf params X.env=([],[]))
  (a:∀(cl:List (Str×Addr))(b DJ u:Value)(c':Addr),bindArgs (PySem.W.kla_fn "<lambda>" q params body scope cl b (.ref c') DJ) ⟨[u],[]⟩=pure [(x,u)])
  (HX:∀(f:Addr)(cd:Value)(s:Shared)(H:Hp),QE (Pz X X.A.in1.in1 (A6++[x]) x (MF q scope x (BC X.env.cells scope.names) s.heap.objs.size f cd) s H) body tb)
  (d:starEach [l] X.env=[(false,eval l X.env)]:=by rfl) :
  QE X (.Call (.Name "sorted" p) [l] [⟨some "key",.Lambda params body scope N3,kp⟩] pos) (Sd X.K P N3 q js ta tb):=
 ⟨lX e BR j i o.h S.G hx co gen hC m TJ n Hd g Mx a (λf cd s H=>(HX f cd s H).h) d⟩
end
end L2
namespace Fz
open L2 Lw
variable{F:Hp}{xs:List PV}{key:PV->Int}
section
variable{P:Program}{w:World}{K:zu}{mg:zw}{Zu:Heap}{x qual:Str}{st:Stmt}{f c:Addr}{fd:FuncData}{N ps:List Str}{k:Nat}
theorem hL{pre:Pre}(F:AQ K x qual st f fd)(Ur:fd.code=.ref c)(b:∀(kV a d:Value)(g:Option Addr)(AZ ct:Value)(us:List Value),us.length=ps.length->bindArgs (PySem.W.fnOf x qual (Hv st) (DZ st) (AS st) .none kV a d g AZ ct) ⟨us,[]⟩=pure (ps.zip us))(m:mg x=some (.ref f))(S:BJ N ps (AS st))(e:∀ss R,pre ss R->ss.length=ps.length)
  (l:∀{A:Around}{outer:List Env}{s:Shared}{H:Hp}{E:XK},Bc k (A.deeper (envOfC qual (AS st) s.heap.objs.size f (.ref c)))->
   ∃t,ER (FO D8 P w K mg Zu N qual (AS st) f (.ref c) A outer s H E).Fn (DZ st) t/\∀ss R,pre ss R->Ws (ss++List.replicate (N.length - ps.length) .any) t (λ_=>∃k,R=.is k/\k .A7) R):AG P w K mg Zu x (k+1) ps (B3 pre):=by
 refine AG.mk F (F.binds b) m ?_;obtain⟨o,n,kV,a,d,g,AZ,ct,E5,rfl,i,E4⟩:=F.ex;obtain rfl:AZ=.ref c:=Ur;refine Y5 i E4 S (λvs H Q E h=>XO e h) λA outer s H vs Q E j h=>?_;obtain⟨t,q,r⟩:=l (A:=A) (outer:=outer) (s:=s) (H:=H) (E:=E) j;exact⟨t,q.h.Fn,Yq h e r⟩
end
theorem q8{a:List (Int×V)}(r:Paired (λ(p:PV)(q:Int×V)=>q.1=key p/\Rep F q.2 p) xs a):AE F (a.map (·.2)) xs/\a.map (·.1)=xs.map key:=by
 induction r with
 |nil=>exact⟨.nil,rfl⟩
 |cons h t b=>exact⟨.cons h.2 b.1,by rw[Ce,Ce,h.1,b.2]⟩
theorem pZ{vs:List V}(r:AE F vs xs):Paired (λ(p:PV)(q:Int×V)=>q.1=key p/\Rep F q.2 p) xs ((xs.map key).zip vs):=by
 induction xs generalizing vs with
 |nil=>rw[r.Ck];exact .nil
 |cons p ps c=>
  obtain⟨v,ws,rfl,a,b⟩:=r.inv;exact .cons ⟨rfl,a⟩ (c b)
section
variable[Xw]
variable{ss:List Slot}{ta:TA}{tb:TE}{k:List PV->Prop}{K:zu}{js:List Nat}{P:Addr}{pos:Pos}{q:Str}
theorem eP{jp:Nat}{G:Hp->V->Prop}(key:PV->Int)(T:ss[jp]?=some (.raw G))(X:∀F v,G F v->F P=some (.By (.tab pos q)))
  (h:Wa ss ta λl=>∃xs,l=[.sq false xs]/\xs.length<64/\(∀x∈xs,Wp (Br js ss++[.is x]) tb λp=>p=.int (key x))/\∀ys:List PV,ys.Perm xs->(ys.Pairwise λa b=>key a<=key b)->k ys)
  (nd:js.Nodup:=by decide) (np:LG js ss=true:=by rfl):Wn ss (Sd K P pos q js ta tb) k:=⟨λE Z F H Q S D=>
 h.go E Z F H _ S λvs l F1 H1 d σ z=>by
  obtain⟨xs,rfl,N,hk,kk⟩:=z;cases σ with
  |cons a t=>
   cases t;obtain⟨l,ws,rfl,_,R,r⟩:=a;obtain⟨_,_,U,_⟩:=d.st.ok jp _ T;refine⟨l,ws,rfl,AI.of R,by rw[r.length];exact N,d.st.fh _ _ (X _ _ U),λc' H2 up FR=>?_⟩;have m2:=d.st.grow up;have W:CH ss Z c':=λi hi e=>by
    obtain⟨l',e1,_,_,pt⟩:=m2.st.ok i _ hi;rw[e]at e1;cases e1;obtain⟨x,y,j,_⟩:=pt;rw[FR]at j;cases j
   refine⟨λi ks H3=>i<=xs.length/\ks=(xs.take i).map key/\∃F3,Mv E ss Z F1 H2 F3 H3,⟨BN _,rfl,F1,.refl m2.st⟩,λi ks H3 z=>?_,λi ks H3 v z hi O=>?_,λks H3 ys z _ kv l2 m=>?_⟩
   .obtain⟨_,_,F3,c⟩:=z;exact c.hh c' _ W FR
   .obtain⟨_,g,F3,c⟩:=z;obtain⟨p,f,B⟩:=r.get' O;have n:=(List.getElem?_eq_some_iff.mp f).1;have S3:=c.st.A6 (js:=js) nd (.one (B.mono c.ff));refine(hk p (BL f)).go E _ F3 H3 _ S3 λw o F4 H4 L M Y=>?_;subst Y;cases M.inv;refine⟨key p,rfl,n,?_,F4,c.trans (L.out (ps:=[p]) c.st np)⟩;have j:xs[i]=p:=by rw[AL n]at f;exact BB f
    rw[JA n,j,Cw,g];rfl
   .obtain⟨_,g,F3,c⟩:=z;rw[r.length,Eh]at g;obtain⟨ps,s,rfl,o⟩:=kv;rw[g]at s;obtain⟨zs,pz,u⟩:=cI s (pZ (key:=key) (r.mono c.ff));obtain⟨A,C⟩:=q8 u;have I:(zs.map key).Pairwise (λa b:Int=>a<=b):=by rw[<- C];exact List.pairwise_map.mpr o
    have J:=m2.trans (c.trans (c.st.make m (.lst (ps.map (·.2)))))
    exact D l2 _ zs F3 _ (d.trans J) (c.st.Be m) (d.none (m2.none (c.none m))) AV A (kk zs pz (List.pairwise_map.mp I))⟩
end
end Fz
namespace L2
section
variable{X:Cx}
def aU(K:zu):R2:=λx y H Q=>∃a b xs ys,x=.ref a/\y=.ref b/\Ag K H a xs/\Ag K H b ys/\xs.length+ys.length<=sizeLine/\(xs=[]->Q (.ref b) H)/\(xs≠[]->ys=[]->Q (.ref a) H)/\(xs≠[]->ys≠[]->∀p,H p=none->Q (.ref p) (upd H p (.tup (xs++ys))))
theorem rN:BA X (binaryOp .Add) (aU X.K):=by
 intro Zj s Z H x y v u Q I g f h;obtain⟨a,b,xs,ys,rfl,rfl,k,j,w,r,o,m⟩:=h
 by_cases hx:xs=[]
 .have q:=r hx;subst hx;cases g;cases f;obtain⟨A0,l,p1,_⟩:=I.tuple k;obtain⟨BW,A,p2,_⟩:=I.tuple j;obtain⟨⟨cls,dd,data,sl⟩,ho,i,n,hd⟩:=id p1;obtain⟨⟨B,PJ,d,Ot⟩,D1,Jw,t,c⟩:=id p2;simp only at i hd Jw c;subst i hd Jw c;have e:A0=[]:=l.OL.mpr rfl;exact concat_meets ⟨_,ho,rfl⟩ ⟨_,D1,rfl⟩ ZAA seq_tuple_add eI eG (eF _ _)
   (tuple_addW0 a b A0.toArray BW.toArray n t dd PJ sl Ot (by simp[e])) ⟨ho,D1,⟨.ref b,H,I,rfl,q⟩⟩
 .exact gZ Zj s Z H _ _ _ _ Q I g f ⟨a,b,xs,ys,rfl,rfl,k,j,hx,w,λe=>o hx e,λe p z=>m hx e p z⟩
end
end L2
namespace Fz
open L2 Lw
theorem AE.append'{F:Hp}:∀{vs ws:List V}{xs ys:List PV},AE F vs xs->AE F ws ys->AE F (vs++ws) (xs++ys):=by
 intro vs ws xs ys r h
 induction xs generalizing vs with
 |nil=>cases r.Ck;exact h
 |cons p ps c=>obtain⟨v,vs,rfl,a,b⟩:=r.inv;exact .cons a (c b)
section
variable[Xw]
variable{E:Ent0}{ss:List Slot}{Z:L2.St}{F H F' H':Hp}{K:zu}{i:Nat}{t:OV}{ta tb tc te:TE}{nx:List Slot->Prop}{R:Ac}
theorem qI{k:PV->Prop}(h:Wp ss ta λp=>∃xs,p=.tup xs/\Wp ss tb λq=>∃ys,q=.tup ys/\xs.length+ys.length<=100000/\k (.tup (xs++ys))):Wp ss (BF (aU K) ta tb) k:=⟨λE Z F H Q S q=>
 h.go E Z F H _ S λv p F1 H1 d j⟨xs,e,h2⟩=>h2.go E Z F1 H1 _ d.st λv2 p2 F2 H2 m2 i⟨ys,n,o,kk⟩=>by
  subst e;subst n;cases j with
  |@tup a vs _ m s1=>
   cases i with
   |@tup b ws _ g s2=>
    have g1:=m2.ff _ _ m;have t1:=s1.mono m2.ff;have l1:=t1.length;have l2:=s2.length;refine⟨a,b,vs,ws,rfl,rfl,Ag.of (m2.st.fh _ _ g1),Ag.of (m2.st.fh _ _ g),small (by omega),λz=>?_,λ_ z=>?_,λ_ _ c l=>?_⟩
    .have e:xs=[]:=by rw[z]at l1;exact List.length_eq_zero_iff.mp l1.symm
     rw[e,dj]at kk;exact q (.ref b) _ F2 H2 (d.trans m2) (.tup g s2) kk
    .have e:ys=[]:=by rw[z]at l2;exact List.length_eq_zero_iff.mp l2.symm
     rw[e,Ef]at kk;exact q (.ref a) _ F2 H2 (d.trans m2) (.tup g1 t1) kk
    .have f:=m2.st.alloc l (.tup (vs++ws));exact q (.ref c) _ _ _ (d.trans (m2.trans f)) (.tup AV ((AE.append' t1 s2).mono f.ff)) kk⟩
end
end Fz
namespace L2
section
variable{prog:Program}{w:World}{A:Around}{s:Shared}{R:Result->Shared->Prop}
variable{X:Cx}
variable{i o:Expr}{ty td:TE}{pos:Pos}
theorem Xs(a:X.A.units+1<cLine)(hi:QE X i ty)(ho:QE X o td)(b:behindInMarks .NotIn o=false:=by with_unfolding_all rfl):QT X (.Compare i [.NotIn] [o] pos) (tB (Of ty td)):=⟨jc (uB a hi.h ho.h) b⟩
end
end L2
namespace Fz
open L2 Lw
theorem bZ{F H:Hp}:∀{vs:List V}{xs:List PV},BH F H vs (xs.map .fz)->AE F vs xs
 |_,[],h=>by cases h;exact .nil
 |_,x::xs,h=>by
  obtain⟨_,_,rfl,a,b⟩:=h.inv;cases a with|fz r=>exact .cons r (bZ b)
end Fz
namespace Fz
open L2 Lw
variable{ss:List Slot}{ta tb te ti:TE}{i:Nat}{F F1:Hp}
section
variable[Xw]
variable{E:Ent0}{Z:L2.St}{H F' H':Hp}{K:zu}{ks:List (List Bool)}{tc:TE}{R:Ac}
variable{js:List Nat}
theorem wJ{wi:TI}{tt:TT}{k:List PV->Prop}
  (h:Wi ss wi λxs=>xs.length<=100000/\(∀x∈xs,Wt (Br js ss++[.is x]) tt λ_=>True)/\(∀x∈xs,Wp (Br js ss++[.is x]) te λp=>p=x)/\∀ys:List PV,ys.Sublist xs->k ys)
  (nd:js.Nodup:=by decide):Wn ss (GN wi js tt te) k:=⟨λE Z F H Q S q=>
 h.go E Z F H _ S λJ xs F1 H1 c u⟨hz,P,R,kk⟩acc Ao=>by
  have G:CH ss Z acc:=c.st.IC Ao;have Y:=c.st.Dl Ao;have X:∀(i:Nat)s,ss[i]?=some s->¬ BK s Z[i]? acc:=λi s hi=>c.st.JD hi Ao;refine⟨λi m H2=>m=xs.length - i/\i<=xs.length/\∃F2 vs ys,Mv E ss Z F1 H1 F2 H2/\F2 acc=none/\H2 acc=some (.lst vs)/\AE F2 vs ys/\ys.Sublist (xs.take i),⟨_,rfl,BN _,F1,[],[],c.st.make Ao _,c.st.Be Ao,AV,.nil,yT _⟩,?_⟩;rintro i m H2⟨rfl,hi,F2,vs,ys,m2,C,l,j,FU⟩
  by_cases f:i<xs.length
  .refine .inr ⟨u.go ss Z F2 H2 i m2.ff m2.st f,λx H3 y=>?_⟩;obtain⟨p,F3,z,v,A⟩:=u.D7 ss Z F2 H2 i x H3 m2.ff m2.st f y;have M:p∈xs:=BL z;have L:(xs.take (i+1))=xs.take i++[p]:=by
    have U:xs[i]=p:=by rw[AL f]at z;exact BB z
    rw[JA f,U]
   have I:∀{F4:Hp},(∀a o,F4 a=some o->F2 a=some o∨H2 a=none)->F4 acc=none:=λ{F4}n=>by
    cases e:F4 acc with
    |none=>rfl
    |some o=>
     rcases n acc o e with w|w
     .rw[C]at w;cases w
     .rw[l]at w;cases w
   have W:=v.st.A6 (js:=js) nd (.one A);refine(P p M).go E _ F3 H3 _ W λb F4 H4 O hb=>?_;have D:=O.NT (ps:=[p]) (vs:=[x]) v.st;have d:=v.trans D;have g:vs.length<=99999:=by
    have:=FU.length_le;rw[Fi]at this;rw[j.length];omega
   show if b=true then _ else _
   cases b with
   |true=>
    rw[eM rfl];have V:=d.st.A6 (js:=js) nd (.one (A.mono D.ff));refine(R p M).go E _ F4 H4 _ V λw B F5 H5 N Hf T=>?_;subst T;have σ:=N.NT (ps:=[B]) (vs:=[x]) d.st;have r:=d.trans σ;have JE:=r.hh acc _ G l;have K:=I r.nn;refine⟨vs,JE,JI g,xs.length - (i+1),by omega,rfl,f,F5,vs++[w],ys++[B],?_,K,AV,(j.mono r.ff).append (.one Hf),by rw[L];exact FU.append (yB _)⟩;have t:=m2.trans r;refine⟨t.st.Ka K (.inl Y) X,t.ff,λa o n e=>?_,t.nn⟩;rw[AN (DE e Ao)];exact t.hh a o n e
   |false=>
    rw[eJ (by decide)];refine⟨xs.length - (i+1),by omega,rfl,f,F4,vs,ys,m2.trans d,I d.nn,d.hh acc _ G l,j.mono d.ff,by rw[L];exact FU.trans (yZ _ _)⟩
  .have e:i=xs.length:=by omega
   subst e;rw[Eh]at FU;exact .inl ⟨u.stop ss Z F2 H2 m2.ff m2.st,q acc vs _ F2 H2 (c.trans m2) C (c.none Ao) l j (kk ys FU)⟩⟩
variable{nx:List Slot->Prop}{k:PV->Prop}{xs:List PV}
theorem ua(h:Wq ss ta λtp xs=>∃ns:List Str,xs=ns.map PV.str/\Wp ss tb λp=>∃(r:Str)(g:Nat)(cs:List Str),p=KY r g cs/\cs.length<64/\Ei ns r g cs=true/\k .A7):
  Wp ss (Dy (TF K) [] E0 (Ah ta (Ah tb BV))) k:=⟨λE Z F H Q S q=>
 h.go E Z F H _ S λv tp xs F1 H1 a sv⟨ns,ex,h2⟩=>h2.go E Z F1 H1 _ a.st λv2 p2 F2 H2 m2 d⟨r,g,cs,ep,f,Ds,kk⟩=>by
  subst ex;subst ep;obtain⟨l,vs,i,b,c⟩:=(sv.mv m2).seq m2.st;subst i;rw[c.strs]at b;obtain⟨tl,j,rfl,e⟩:=kT d;refine⟨l,tp,ns,tl,r,g,cs,rfl,Cz.sq b,(e.same m2.st.fh).h.at,f,Ds,λH3 s=>?_⟩;exact q _ _ F2 H3 (a.trans (m2.trans (m2.st.grow s))) .A7 kk⟩
theorem VP{t:TT}{k k':Bool->Prop}(h:Wt ss t k')(hk:∀b,k' b->k b):Wt ss t k:=⟨λE Z F H Q S q=>h.go E Z F H Q S λb F' H' m a=>q b F' H' m (hk b a)⟩
end
structure Lp where
 r:Str
 g:Nat
 cs:List Str
def Lp.P(l:Lp):PV:=KY l.r l.g l.cs
def Lp.Good(ns:List Str)(l:Lp):Prop:=CF ns l.r l.g l.cs
theorem cV{k:Nat}(h:k<3):∃r:Str,r∈FZ/\L2.BM [PV.str "none",.str "ahead",.str "all"] (k:Int)=some (.str r):=by
 have:k=0∨k=1∨k=2:=by omega
 rcases this with rfl|rfl|rfl
 .exact⟨_,by decide,rfl⟩
 .exact⟨_,by decide,rfl⟩
 .exact⟨_,by decide,rfl⟩
noncomputable def OS:PV->Bool
 | .A7=>true
 |_=>false
theorem WQ{v:V}{p:PV}(r:Rep F v p):decide (v=.A7)=OS p:=by
 cases r <;> rfl
section
variable[Xw]
variable{k:PV->Prop}
theorem d3(h:Wp ss ta λp=>Wp ss tb λq=>q=.A7/\k (.bl (OS p))):Wp ss (BF (λx y H Q=>y=.A7/\Q (.bl (decide (x=.A7))) H) ta tb) k:=⟨λE Z F H Q S q=>
 h.go E Z F H _ S λv p F1 H1 a c h2=>h2.go E Z F1 H1 _ a.st λv2 p2 F2 H2 m2 b AU=>by
  obtain⟨e,kk⟩:=AU;subst e;cases b.inv;refine⟨rfl,?_⟩;rw[WQ c];exact q _ _ F2 H2 (a.trans m2) (.bl _) kk⟩
theorem Yl(h:Wp ss ta λp=>Wp ss tb λq=>q=.A7/\k (.bl (!OS p))):Wp ss (BF (λx y H Q=>y=.A7/\Q (.bl (!decide (x=.A7))) H) ta tb) k:=⟨λE Z F H Q S q=>
 h.go E Z F H _ S λv p F1 H1 a c h2=>h2.go E Z F1 H1 _ a.st λv2 p2 F2 H2 m2 b AU=>by
  obtain⟨e,kk⟩:=AU;subst e;cases b.inv;refine⟨rfl,?_⟩;rw[WQ c];exact q _ _ F2 H2 (a.trans m2) (.bl _) kk⟩
end
def c9:Pre:=λl R=>∃(tp:Bool)(ns:List Str)(a:Bool)(Ls:List Lp),l=[.sq tp (ns.map .str),.sq a (Ls.map Lp.P)]/\ns.length<=40/\Ls.length<=12/\(∀l∈Ls,l.Good ns)/\R=.is λp=>p=.A7
end Fz
namespace L2
variable{x:Str}{r:List V->Hp->VK->Prop}{op:CmpOp}
section
variable{X:Cx}{a b e o:Expr}{es:List Expr}{ta tb te:TE}{t:TA}{pos p:Pos}
theorem B8{id:String}(c:Bw X (.builtin id) r)(a:X.mg x=none)(d:QA X (e::es) t)(b:Gl X x:=by rfl)(hv:bootBuiltins x=some (.builtin id):=by decide +kernel)(hn:x ≠"__name__" := by decide)(DG:(x == ("__debug__":Str))=false:=by decide)
  (he:EW X e es:=by rfl) (B0:BEq X pos es:=by rfl):QE X (.Call (.Name x p) (e::es) [] pos) (CK r t):=wK c b a hv d hn DG he B0
theorem G8{T:String}(c:Bw X (.type T) r)(a:X.mg x=none)(d:QA X (e::es) t)(b:Gl X x:=by rfl)(hv:bootBuiltins x=some (.type T):=by decide +kernel)(hn:x ≠"__name__" := by decide)(DG:(x == ("__debug__":Str))=false:=by decide)
  (he:EW X e es:=by rfl) (B0:BEq X pos es:=by rfl):QE X (.Call (.Name x p) (e::es) [] pos) (CK r t):=qc c b a hv d hn DG he B0
theorem Aa{r:R2}(d:EY X r)(f:QE X a ta)(e:QE X b tb)(c:Ue b:=by exact λ_ _=>rfl):QE X (.Subscript a b pos) (BF r ta tb):=uT d f e c
theorem Aj{j k:Nat}{ps:List Str}{sp:Sp}(h:AG X.prog X.w X.K X.mg X.base x k ps sp)(a:Bc j X.A)(b:QA X (e::es) t)(hk:k<=j:=by decide)(hg:Gl X x:=by rfl)(DG:(x == ("__debug__":Str))=false:=by decide)
  (he:EW X e es:=by rfl) (B0:BEq X pos es:=by rfl):QE X (.Call (.Name x p) (e::es) [] pos) (Dy sp [] E0 t):=o5 h a hk b hg DG he B0
theorem LI{r:R2}(ho:BA X (compareOp op) r)(e:QE X a ta)(d:QE X b tb)(c:behindInMarks op b=false:=by first|exact ZM _|with_unfolding_all rfl):QE X (.Compare a [op] [b] pos) (BF r ta tb):=o6 ho e d c
theorem Bf{r:R2}(ho:BA X (compareOp op) r)(e:QE X a ta)(d:QE X b tb)(c:behindInMarks op b=false:=by first|exact ZM _|with_unfolding_all rfl):QT X (.Compare a [op] [b] pos) (M1 (BF r ta tb)):=gC ho e d c
theorem B1(i:Nat){pos':Pos}(b:X.N.Nodup)(a:QE X e te)(hi:X.N[i]?=some x:=by rfl)(hx:Loc X.env.scope x:=by first|exact Or.inl rfl|exact Or.inr rfl)(hs:swapsWith e (some (.Name x pos')) pos.line X.env=pure false:=by rfl)(hf:X.fn x=true∨X.env.scope.names.lookup x=some .local:=by first|exact .inl rfl|exact .inr rfl|assumption):
  QS X (.Assign [.Name x pos'] e pos) (Dm te (CU i)):=xC b hi hx a hs hf
theorem DY(i:Nat)(a:X.N.Nodup)(hi:X.N[i]?=some x:=by rfl)(hx:Loc X.env.scope x:=by first|exact Or.inl rfl|exact Or.inr rfl)(hf:X.fn x=true∨X.env.scope.names.lookup x=some .local:=by first|exact .inl rfl|exact .inr rfl|assumption):QG X (.Name x pos) (CU i):=uE a hi hx hf
end
end L2
namespace Fz
open L2 Lw
variable{ns:List Str}
noncomputable def Jb:Str:="line_of.<locals>.<lambda>"
def Df(s:Stmt):Pos:=match DZ s with
 | [.Return (some (.Call _ _ [⟨_,.Lambda _ _ _ p,_⟩] _)) _]=>p
 |_=>⟨0,0,0,0⟩
def FW(T:Addr)(pos:Pos)(ns:List Str):Hp->V->Prop:=λF v=>Rep F v (.lst (ns.map .str))/\F T=some (.By (.tab pos Jb))
theorem qM(T:Addr)(pos:Pos)(ns:List Str):∀F F',AF F F'->∀v,FW T pos ns F v->FW T pos ns F' v:=λF F' s v h=>⟨h.1.mono s,s _ _ h.2⟩
section
variable[Xw]
variable{ss:List Slot}{i j:Nat}{T:Addr}{pos:Pos}
theorem RC{k:PV->Prop}(h:ss[i]?=some (.raw (FW T pos ns)))(hk:k (.lst (ns.map .str))):Wp ss (BE i) k:=⟨λE Z F H Q S q=>by
 obtain⟨v,a,r,_⟩:=S.ok i _ h;exact⟨v,a,q v _ F H (.refl S) r.1 hk⟩⟩
end
def GD(Ls:List Lp)(ch:List Nat)(x:Str):Int:=((ch.filter λn=>match Ls[n]? with|some l=>decide (x∈l.cs)|none=>false).length:Nat)
noncomputable def S8:PV->Str
 | .str x=>x
 |_ => ""
theorem vv{ys:List PV}(p:ys.Perm (ns.map .str)):∃ms:List Str,ys=ms.map .str/\ms.Perm ns:=by
 refine⟨ys.map S8,?_,?_⟩
 .rw[Cq];refine(List.map_id _).symm.trans (df λy a=>?_);obtain⟨x,_,rfl⟩:=List.mem_map.mp (p.mem_iff.mp a);rfl
 .have q:=p.map S8;rw[Cq]at q;exact q.trans (by rw[show S8 ∘ PV.str=id from rfl,List.map_id])
def mJ(Ls:List Lp)(ch:List Nat):PV->Int
 | .str x=>GD Ls ch x
 |_=>0
def WI(T:Addr)(pos:Pos):Pre:=λl R=>∃(ns:List Str)(Ls:List Lp)(ch:List Nat),l=[.raw (FW T pos ns),.is (.lst (Ls.map Lp.P)),.is (.lst (ch.map λn:Nat=>PV.int n))]/\ns.length<=40/\Ls.length<=12/\ch.length<=12/\(∀n∈ch,n<Ls.length)/\
 R=.new λxs=>∃ms:List Str,xs=ms.map .str/\ms.Perm ns/\ms.Pairwise λa b=>GD Ls ch a<=GD Ls ch b
end Fz
set_option maxHeartbeats 400000
namespace L2
variable{ep i j mask n:Nat}{owner:Array (Option Nat)}{xs:List (Option Nat)}{α:Type}{prog:Program}{w:World}{A:Around}{E:Value->Shared->Prop}{s:Shared}{a r:Addr}{f:Str->Bool}{Q:Bool->Shared->Prop}{so:Obj}
noncomputable def lp(mask:Nat)(p:Nat×Nat):Nat×Nat:=SetTable.leap mask p.1 p.2
def DK(mask:Nat):Nat->Nat×Nat->Nat×Nat
 | 0,p=>p
 |t+1,p=>DK mask t (lp mask p)
theorem Ph(mask a b:Nat)(p:Nat×Nat):DK mask (a+b) p=DK mask b (DK mask a p):=by
 induction a generalizing p with
 |zero=>rw[NM];rfl
 |succ a c=>rw[show a+1+b=(a+b)+1 by omega];exact c _
theorem VV(mask t:Nat)(p:Nat×Nat):(DK mask t p).2=p.2 / 32 ^ t:=by
 induction t generalizing p with
 |zero=>simp[DK]
 |succ t a=>
  show(DK mask t (lp mask p)).2=_;rw[a];show p.2 / 32 / 32 ^ t=_;rw[Nat.div_div_eq_div_mul,dy,Nat.mul_comm]
theorem l9(t:Nat){p:Nat×Nat}(h:p.1<=mask):(DK mask t p).1<=mask:=by
 induction t generalizing p with
 |zero=>exact h
 |succ t a=>exact a (NI (Vu _ (eB _)))
theorem uS(fuel i p:Nat)(h:SetTable.layClean.free mask owner fuel i p=none):∀t<fuel,(owner.getD (DK mask t (i,p)).1 (some 0)).isNone=false:=by
 induction fuel generalizing i p with
 |zero=>intro t c;omega
 |succ fuel b=>
  intro t c;unfold SetTable.layClean.free at h;cases a:(List.range (SetTable.runEnd mask i+1 - i)).find? λk=>(owner.getD (i+k) (some 0)).isNone with
  |some k=>rw[a]at h;cases h
  |none=>
   rw[a]at h;cases t with
   |zero=>
    have q:=List.find?_eq_none.mp a 0 (by rw[Qb];unfold SetTable.runEnd;split <;> omega)
    exact Bool.eq_false_iff.mpr (by simpa[DK]using q)
   |succ t=>exact b _ _ h t (by omega)
def good(mask:Nat):Bool:=(DK mask (mask+1) (0,0)).1 == 0 && (List.range (mask+1)).all λj=>(List.range (mask+1)).any λt=>(DK mask t (0,0)).1 == j
theorem Sq:[7,15,31,63,127].all good=true:=by decide +kernel
theorem kZ(c:good mask=true)(hi:i<=mask)(d:j<=mask):∃t,t<=mask/\(DK mask t (i,0)).1=j:=by
 unfold good at c;rw[Cn,w8,FI]at c;obtain⟨h,h1⟩:=c;have at':∀j,j<=mask->∃t,t<=mask/\(DK mask t (0,0))=(j,0):=λj d=>by
  have q:=h1 j (List.mem_range.mpr (by omega));rw[KJ]at q;obtain⟨t,g,e⟩:=q;rw[Qb]at g;rw[w8]at e;exact⟨t,by omega,Prod.ext e (by rw[VV];simp)⟩
 obtain⟨a,l,ea⟩:=at' i hi;obtain⟨b,k,f⟩:=at' j d
 by_cases m:a<=b
 .refine⟨b - a,by omega,?_⟩;rw[<- ea,<- Ph,show a+(b - a)=b by omega,f]
 .refine⟨b+(mask+1) - a,by omega,?_⟩;have e0:DK mask (mask+1) (0,0)=(0,0):=Prod.ext h (by rw[VV];simp);rw[<- ea,<- Ph,show a+(b+(mask+1) - a)=(mask+1)+b by omega,Ph,e0,f]
theorem qO(h:Int):SetTable.bits h<2 ^ 64:=by
 unfold SetTable.bits;have h1:=J5 h (show(2 ^ 64:Int)≠0 by decide);have h2:=J4 h (show(0:Int)<2 ^ 64 by decide);omega
theorem nJ(f:good mask=true){p:Nat}(hi:i<=mask)(b:p<2 ^ 64)(d:j<=mask)(c:owner.getD j (some 0)=none):∃k,SetTable.layClean.free mask owner (SetTable.turns mask) i p=some k:=by
 cases h:SetTable.layClean.free mask owner (SetTable.turns mask) i p with
 |some k=>exact⟨k,rfl⟩
 |none=>
  have a:DK mask 13 (i,p)=((DK mask 13 (i,p)).1,0):=Prod.ext rfl (by
   rw[VV];exact Nat.div_eq_of_lt (C5 b (by decide)))
  obtain⟨t,g,e⟩:=kZ f (l9 13 (p:=(i,p)) hi) d;have q:=uS _ _ _ h (13+t) (by unfold SetTable.turns;omega);rw[Ph,a,e,c]at q;cases q
theorem ph(fuel i p k:Nat)(h:SetTable.layClean.free mask owner fuel i p=some k):owner.getD k (some 0)=none:=by
 induction fuel generalizing i p with
 |zero=>cases h
 |succ fuel b=>
  unfold SetTable.layClean.free at h;cases a:(List.range (SetTable.runEnd mask i+1 - i)).find? λk=>(owner.getD (i+k) (some 0)).isNone with
  |some k'=>
   rw[a]at h;cases h;have q:=List.find?_some a
   simpa using q
  |none=>rw[a]at h;exact b _ _ h
theorem mV{v:Nat}(h:xs[j]?=some none):((xs.set j (some v)).filterMap id).Perm (v::xs.filterMap id):=by
 induction xs generalizing j with
 |nil=>cases h
 |cons x xs a=>
  cases j with
  |zero=>
   cases h;exact Fh _
  |succ j=>
   have q:=a (j:=j) (by simpa using h)
   cases x with
   |none=>exact q
   |some y=>exact(q.cons y).trans (List.Perm.swap _ _ _)
theorem mK(h:(xs.filterMap id).length<xs.length):∃j:Nat,xs[j]?=some none:=by
 induction xs with
 |nil=>simp at h
 |cons x xs a=>
  cases x with
  |none=>exact⟨0,rfl⟩
  |some y=>
   obtain⟨j,b⟩:=a (by simpa using h)
   exact⟨j+1,by simpa using b⟩
theorem iC(r:good mask=true)(b:Array Int)(q:b.size<=mask):∃owner,SetTable.layClean mask b=some owner/\owner.size=mask+1/\(owner.toList.filterMap id).Perm (List.range b.size):=by
 have key:∀(l:List Int)(owner:Array (Option Nat))(k:Nat),owner.size=mask+1->(owner.toList.filterMap id).Perm (List.range k)->k+l.length<=mask->
   ∃RW,l.foldl (λacc h=>do
    let (owner,k) <- acc
    let j <- SetTable.layClean.free mask owner (SetTable.turns mask) (SetTable.bits h % (mask+1)) (SetTable.bits h)
    pure (owner.setIfInBounds j (some k),k+1)) (some (owner,k))=some (RW,k+l.length)/\RW.size=mask+1/\(RW.toList.filterMap id).Perm (List.range (k+l.length)):=by
  intro l
  induction l with
  |nil=>intro owner k h1 h2 _;exact⟨owner,rfl,h1,h2⟩
  |cons h l f=>
   intro owner k h1 h2 s;rw[Am]at s;obtain⟨j,g⟩:=mK (xs:=owner.toList) (by rw[h2.length_eq,Cd,Bs];omega);have v:j<owner.size:=by have:=(List.getElem?_eq_some_iff.mp g).1;simpa using this
   have o:owner.getD j (some 0)=none:=by
    rw[KG]at g;rw[dN,g];rfl
   obtain⟨c,m⟩:=nJ (owner:=owner) r (i:=SetTable.bits h % (mask+1)) (p:=SetTable.bits h) (NI (Vu _ (eB _))) (qO h) (show j<=mask by omega) o;have a:=ph _ _ _ _ m;have u:owner.toList[c]?=some none:=by
    rw[KG];rw[dN]at a;cases e:owner[c]? with
    |none=>rw[e]at a;cases a
    |some y=>rw[e]at a;exact iI some a
   obtain⟨o',t,s',d⟩:=f (owner.setIfInBounds c (some k)) (k+1) (by simpa using h1) (by
    rw[Array.toList_setIfInBounds];refine(mV u).trans ?_;rw[List.range_succ];exact(h2.cons k).trans (List.perm_append_singleton k _).symm) (by omega)
   refine⟨o',?_,s',by rw[Am,show k+(l.length+1)=k+1+l.length by omega];exact d⟩;rw[LL,Am,show k+(l.length+1)=k+1+l.length by omega,<- t]
   congr 1
   show(some (owner,k)).bind _=_;simp only[yj,m];rfl
 obtain⟨o',e,s',d⟩:=key b.toList (Array.replicate (mask+1) none) 0 (by simp) (by
  rw[Array.toList_replicate];have:∀n,(List.replicate n (none:Option Nat)).filterMap id=[]:=λn=>by induction n with
   |zero=>rfl
   |succ n f=>rw[yX];exact f
  rw[this];exact Fh _) (by simpa using q)
 refine⟨o',?_,s',by simpa using d⟩
 unfold SetTable.layClean;rw[<- Array.foldl_toList,e];rfl
theorem Ux(f:good mask=true)(g mv:Nat)(ld pl:Bool)(b:Array Int)(d:b.size<=mask):∃t a,SetTable.laid mask g mv ld pl b=some (t,a)/\t.led=ld/\t.plain=pl/\t.mask=mask/\t.dummies=#[]/\t.place.size=b.size/\a.toList.Perm (List.range b.size):=by
 obtain⟨owner,e,s,p⟩:=iC f b d;have c:((List.range (mask+1)).filterMap λj=>(owner.getD j none).map λx=>(j,x)).map (·.2)=owner.toList.filterMap id:=by
  rw[List.map_filterMap];have h:owner.toList=(List.range (mask+1)).map λj=>owner.getD j none:=by
   refine QP (by simp[s]) λn h1 h2=>?_;simp at h1;simp[dN,h1]
  rw[h,List.filterMap_map]
  congr 1
  funext j
  show Option.map _ (Option.map _ (owner.getD j none))=owner.getD j none;cases owner.getD j none <;> rfl
 refine⟨_,_,by unfold SetTable.laid;rw[e];rfl,rfl,rfl,rfl,rfl,?_,?_⟩
 .have q:=iI List.length c;rw[AB]at q;rw[Bp,AB];exact q.trans (by rw[p.length_eq,Cd])
 .show(List.map _ _).Perm _;rw[c];exact p
theorem K4[DecidableEq α]{l:List α}:∀{m:List α},l.Nodup->(∀k∈l,k∈m)->l.length<=m.length:=by
 induction l with
 |nil=>intro m _ _;exact BN _
 |cons x r b=>
  intro m c a;obtain⟨h1,h2⟩:=List.nodup_cons.mp c;have hx:=a x Ae;have:=b (m:=m.erase x) h2 λk hk=>(NG (λe:k=x=>h1 (e▸hk))).mpr (a k (Au _ hk));rw[J8 hx]at this;have:=QX hx;rw[Am];omega
theorem sR[DecidableEq α]{ds A B:List α}{k:α}(nd:ds.Nodup)(b:∀x∈ds,x∈A++k::B)(a:(A++k::B).length<=ds.length):k∉A++B:=by
 intro hk;have q:=K4 (m:=A++B) nd λx hx=>by
  rcases List.mem_append.mp (b x hx)with h|h
  .exact List.mem_append.mpr (.inl h)
  .rcases List.mem_cons.mp h with rfl|h
   .exact hk
   .exact List.mem_append.mpr (.inr h)
 simp only[BQ,Am]at a q;omega
theorem AO.typeIs(h:AO prog w s.heap a f n):s.TypeIs (.ref a) "set" := by
 obtain⟨o,_,_,_,ho,b,_⟩:=h;exact⟨o,ho,b.1⟩
theorem Zm(l:List Addr)(d:∀a∈l,∃f n,AO prog w s.heap a f n)(h:Q true s):wpAny (model prog w) A (setsQuiet l) Q E s:=by
 unfold setsQuiet;refine Wo ?_;refine ZA9 _ (λrest r s'=>s'=s/\r=(none,())/\∀a∈rest,∃f n,AO prog w s.heap a f n) _ ?_ ?_ _ _ ⟨rfl,rfl,d⟩
 .rintro a rest r s'⟨rfl,rfl,c⟩;obtain⟨f,n,o,es,ep,t,ho,i,hd,B2,Aw,p,g,m,Bn,B0⟩:=c a Ae;refine Wo (k6 ho hd g ?_);refine Wo (dv _ (λrest r s2=>s2=s'/\r=(none,())/\∀e∈rest,∃k,(PySem.strKind prog w).is k e.2=true) _ ?_ ?_ _ _ ⟨rfl,rfl,B2.keys⟩)
  .rintro⟨hh,x⟩j r s2⟨rfl,rfl,Nc⟩;obtain⟨k,hk⟩:=Nc _ Ae;obtain⟨tk,rfl⟩:=Ho hk;exact dP ⟨rfl,rfl,λe b=>Nc e (Au _ b)⟩
  .rintro r s2⟨rfl,rfl,_⟩;exact dP ⟨rfl,rfl,λe b=>c e (Au _ b)⟩
 .rintro r s'⟨rfl,rfl,_⟩;exact dP h
noncomputable def kv:Value->Str
 | .str k _=>k
 |_=>default
theorem LH{es:List (Int×Value)}(B2:ElemsOf (PySem.strKind prog w) es)(k:Str):(∃e∈es,(PySem.strKind prog w).is k e.2=true)↔k∈es.map (kv ·.2):=by
 rw[dh];constructor
 .rintro⟨e,a,hk⟩;obtain⟨t,b⟩:=Ho hk;exact⟨e,a,by rw[b];rfl⟩
 .rintro⟨e,a,rfl⟩;obtain⟨⟨k,hk,_⟩,_⟩:=B2 e a;obtain⟨t,b⟩:=Ho hk;refine⟨e,a,?_⟩;rw[b];exact Vz prog w _ t
theorem AO.cut{ds:List Str}{k:Str}{tk:Tok}(nd:ds.Nodup)(G:AO prog w s.heap a (λk=>decide (k∈ds)) ds.length)
  (H:k∉ds->Q false s)
  (h1:k∈ds->∀h',Heap.SameBut a s.heap h'->AO prog w h' a (λk'=>decide (k'∈ds.erase k)) (ds.erase k).length->Q true { s with heap:=h' }) :
  wpAny (model prog w) A (setDiscardHashed a (.str k tk) ((PySem.strKind prog w).hash k)) Q E s:=by
 obtain⟨o,es,ep,t,ho,i,hd,B2,Aw,F,b,q,Bn,B0⟩:=G;have K:(PySem.strKind prog w).is k (.str k tk)=true:=Vz prog w k tk;have L:(Value.str k tk).scannable=true:=rfl;have d:∀k,k∈ds↔k∈es.toList.map (kv ·.2):=λk=>by rw[<- LH B2,<- Aw k,eW]
 unfold setDiscardHashed setFind setFindIn;refine Wo (Wo (i4 ho hd b ?_));dsimp only;rw[byScan_of L F B2];simp only[↓reduceIte];refine Wo (oF ?_);refine Wo (ZA8 K ho hd b B2 ?_);cases m:List.findIdx? (λe=>(PySem.strKind prog w).is k e.2) es.toList with
 |none=>
  dsimp only;refine dP ?_;dsimp only;refine dP (H λhk=>?_);obtain⟨e,l,y⟩:=(LH B2 k).mpr ((d k).mp hk);have:=List.findIdx?_eq_none_iff.mp m e l;rw[y]at this;exact Bool.noConfusion this
 |some j=>
  dsimp only;refine dP ?_;dsimp only;obtain⟨g,KN,_⟩:=List.findIdx?_eq_some_iff_getElem.mp m;have hk:k∈ds:=(d k).mpr ((LH B2 k).mp ⟨_,FJ g,KN⟩);refine Wo (i4 ho hd b ?_);dsimp only;have N:j<es.size:=by simpa using g
  rw[NM];have el:(SetTable.eraseAt es j).toList=es.toList.take j++es.toList.drop (j+1):=by
   unfold SetTable.eraseAt;rw[dO,xt,xt];simp;exact Vq (by simp)
  have I:(SetTable.eraseAt es j).size=es.size - 1:=by
   rw[<- Bs,el];simp;omega
  have sp:es.toList=es.toList.take j++es.toList[j]::es.toList.drop (j+1):=by
   rw[<- QN g,Vp]
  have C:kv es.toList[j].2=k:=by
   obtain⟨t,J⟩:=Ho KN;rw[J];rfl
  have f:es.toList.map (kv ·.2)=(es.toList.take j).map (kv ·.2)++k::(es.toList.drop (j+1)).map (kv ·.2):=by
   conv=>lhs;rw[sp]
   rw[Cw,Ce,C]
  have nk:=sR (k:=k) (A:=(es.toList.take j).map (kv ·.2)) (B:=(es.toList.drop (j+1)).map (kv ·.2)) nd (λx hx=>by rw[<- f];exact(d x).mp hx) (by rw[<- f,AB,Bs,q];exact AW _)
  have u:(SetTable.eraseAt es j).size<scanBound:=by omega
  refine Wo (l7 ho hd ?_ (kd u));refine Wo (wpAny_point ?_);have M:t.place.size=es.size:=Lg b;have v:t.fill<=t.mask:=by
   unfold SetTable.fits at b;rw[Cn,eW]at b;exact b.2
  have n:t.place[j]?=some (t.place[j]'(by omega)):=Gj _;have td:t.drop j={ t with place:=SetTable.eraseAt t.place j,dummies:=SetTable.insertAt t.dummies (SetTable.below t.dummies (t.place[j]'(by omega))) (t.place[j]'(by omega)) }:=by
   unfold SetTable.drop;rw[n]
  have D:∀(xs:Array Nat)(p x:Nat),(SetTable.insertAt xs p x).size<=xs.size+1:=λxs p x=>by
   unfold SetTable.insertAt;simp;omega
  have pz:∀(xs:Array Nat)(p:Nat),p<xs.size->(SetTable.eraseAt xs p).size=xs.size - 1:=λxs p n=>by
   unfold SetTable.eraseAt;simp;omega
  have r:ElemsOf (PySem.strKind prog w) (SetTable.eraseAt es j).toList:=by
   rw[el];intro e l;refine B2 e ?_;rw[sp];rcases List.mem_append.mp l with h|h
   .exact List.mem_append.mpr (.inl h)
   .exact List.mem_append.mpr (.inr (Au _ h))
  refine dP (h1 hk _ (EN s.heap a _) ⟨_,SetTable.eraseAt es j,_,_,GH ho hd _ _,i,rfl,?_,λk'=>?_,u,?_,?_,?_,λz=>?_⟩)
  .exact r
  .rw[LH r,el,Cw,eW,nd.mem_erase_iff,d,f];constructor
   .rintro⟨AJ,c⟩;rcases List.mem_append.mp c with h|h
    .exact List.mem_append.mpr (.inl h)
    .rcases List.mem_cons.mp h with h|h
     .exact absurd h AJ
     .exact List.mem_append.mpr (.inr h)
   .intro c;refine⟨λe=>nk (e▸c),?_⟩;rcases List.mem_append.mp c with h|h
    .exact List.mem_append.mpr (.inl h)
    .exact List.mem_append.mpr (.inr (Au _ h))
  .rw[td];unfold SetTable.fits SetTable.fill;rw[Cn,w8,eW];have P:=pz t.place j (by omega);have O:=D t.dummies (SetTable.below t.dummies (t.place[j]'(by omega))) (t.place[j]'(by omega));unfold SetTable.fill at v;refine⟨by show(SetTable.eraseAt t.place j).size=_;omega,?_⟩;show(SetTable.eraseAt t.place j).size+(SetTable.insertAt _ _ _).size<=t.mask;omega
  .rw[I,J8 hk,q]
  .rw[td];exact Bn
  .rw[td];exact B0 (by omega)
noncomputable def W9(n:Nat):Bool:=[7,15,31,63,127].contains (SetTable.sizeAbove ((0+n) * 2) - 1) && decide (n<=SetTable.sizeAbove ((0+n) * 2) - 1) && decide (SetTable.sizeAbove ((0+n) * 2)<=128)
theorem gG:(List.range 64).all W9=true:=by decide +kernel
section
structure Rq (w:World) (h:Heap) (r:Addr) (n:Nat) (so:Obj) (ep:Nat) (t:SetTable):Prop where
 at':h.get? r=some so
 ex:so.ExactSet
 dt:so.data=.set #[] ep t
 pl:t.place=#[]
 dm:t.dummies=#[]
 ld:t.led=!B9 w
 gd:good t.mask=true
 rm:n<=t.mask
theorem Rq.fits{h:Heap}{t:SetTable}(x:Rq w h r n so ep t):t.fits (#[]:Array (Int×Value)).size=true:=by
 unfold SetTable.fits SetTable.fill;rw[x.pl,x.dm];simp
theorem fN{Q:Unit->Shared->Prop}(b:s.heap.get? r=some so)(hx:so.ExactSet)(hd:so.data=.set #[] 0 (.fresh 0 0 (!B9 w)))(k:n<64)
  (h:∀h' l ep t,Heap.SameBut r s.heap h'->Rq w h' r n l ep t->Q () { s with heap:=h' }):wpAny (model prog w) A (setRoomFor r n) Q E s:=by
 have e:(SetTable.fresh 0 0 (!B9 w)).fits (#[]:Array (Int×Value)).size=true:=rfl;unfold setRoomFor;refine Wo (i4 b hd e ?_);dsimp only;have g:(SetTable.fresh 0 0 (!B9 w)).roomFor n=if(0+n) * 5>=7 * 3 then some ((0+n) * 2)else none:=rfl
 rw[g]
 by_cases d:(0+n) * 5>=7 * 3
 .rw[eM d];dsimp only;have q:=List.all_eq_true.mp gG n (List.mem_range.mpr k);unfold W9 at q;rw[Cn,Cn,eW,eW]at q;obtain⟨⟨c,j⟩,z⟩:=q;replace c:=List.all_eq_true.mp Sq _ (List.contains_iff_mem.mp c);unfold setRelay;refine Wo (i4 b hd e ?_);dsimp only;have i:¬ SetTable.sizeAbove ((0+n) * 2) > sizeLine:=by
   have:128<=sizeLine:=by decide +kernel
   omega
  rw[eJ i];obtain⟨t,a,e1,y,B,f,x,v,u⟩:=Ux c 0 ((SetTable.fresh 0 0 (!B9 w)).movedTo (SetTable.sizeAbove ((0+n) * 2) - 1)) (!B9 w) true #[] (BN _);have p:(SetTable.fresh 0 0 (!B9 w)).relaid ((#[]:Array (Int×Value)).map (·.1)) ((0+n) * 2)=some (t,a):=by
   have m:(#[]:Array (Int×Value)).map (·.1)=#[]:=by simp
   rw[m];unfold SetTable.relaid;exact e1
  refine Wo ?_
  wp_delta
  rw[p];dsimp only;have o:a=#[]:=by
   have:=u.length_eq;simp at this;exact this
  subst o;rw[eJ (by simp)];refine dP ?_;dsimp only;refine l7 b hd ?_ (BN _);exact h _ _ _ t (EN s.heap r _) ⟨GH b hd _ _,hx,rfl,xp v,x,y,by rw[f];exact c,by rw[f];exact j⟩
 .rw[eJ d];dsimp only;exact dP (h s.heap so 0 _ (KI r s.heap) ⟨b,hx,hd,rfl,rfl,rfl,List.all_eq_true.mp Sq 7 (by simp),by show n<=7;omega⟩)
theorem kc{b:Addr}{g:Sem Unit}{Q:Unit->Shared->Prop}(AJ:r≠b)(p:s.heap.get? r=some so)(hx:so.ExactSet)(hd:so.data=.set #[] 0 (.fresh 0 0 (!B9 w)))
  (G:AO prog w s.heap b f n) (N:n<64) (h:∀h',Heap.SameBut r s.heap h'->AO prog w h' r f n->Q () { s with heap:=h' }):wpAny (model prog w) A (setMerge r b g) Q E s:=by
 obtain⟨o,es,ep,t,ho,F,D,B2,Aw,d,u,l,Bn,B0⟩:=G;unfold setMerge;rw[eJ (by simpa using AJ)]
 refine Wo (i4 ho D u ?_);dsimp only
 by_cases j:es.isEmpty=true
 .rw[eM j];have e0:es=#[]:=by simpa using j
  subst e0;exact dP (h s.heap (KI r s.heap) ⟨so,#[],0,_,p,hx,hd,B2,Aw,d,rfl,l,rfl,λz=>by simp at z⟩)
 .rw[eJ j];have Kx:0<es.size:=by
   rcases yc es.size with z|z
   .exact absurd (by simpa using xp z) j
   .exact z
  refine Wo (fN p hx hd (n:=es.size) (by omega) λh1 L M t1 El B=>?_);refine Wo (i4 (s:={ s with heap:=h1 }) B.at' B.dt B.fits ?_)
  dsimp only;have C:¬ (t1.fill != 0)=true:=by unfold SetTable.fill;rw[B.pl,B.dm];simp
  by_cases v:(t1.mask == t.mask && t.dummies.isEmpty)=true
  .have e:t1.road t=.slotForSlot:=by unfold SetTable.road;rw[eJ C,eM v]
   rw[e];dsimp only;refine l7 (s:={ s with heap:=h1 }) B.at' B.dt ?_ (kd d)
   refine h _ (El.trans (EN h1 r _)) ⟨_,es,_,_,GH B.at' B.dt _ _,B.ex,rfl,B2,Aw,d,u,l,?_,λz=>?_⟩
   .show(t1.led && t.led)=!B9 w;rw[B.ld,Bn,Bool.and_self]
   .show(t1.plain && t.plain)=false;rw[B0 z,KH]
  .have e:t1.road t=.clean:=by unfold SetTable.road;rw[eJ C,eJ v]
   rw[e];dsimp only;obtain⟨t',a,e1,K,J,I,H,y,x⟩:=Ux B.gd t1.finger t1.moves (t1.led && t.led) (t1.plain && t.plain) (es.map (·.1)) (by rw[VX];exact B.rm)
   rw[VX]at y x;refine Wo ?_
   wp_delta
   rw[e1];dsimp only;have i:(a.filterMap (es[·]?)).toList.Perm es.toList:=by
    rw[xu];exact(x.filterMap _).trans (by rw[filterMap_getElem?_range])
   have c:(a.filterMap (es[·]?)).size=es.size:=by rw[<- Bs,i.length_eq,Bs]
   rw[eJ (by rw[c];simp)];refine dP ?_;dsimp only;refine l7 (s:={ s with heap:=h1 }) B.at' B.dt ?_ (kd (by rw[c];exact d))
   refine h _ (El.trans (EN h1 r _)) ⟨_,_,_,_,GH B.at' B.dt _ _,B.ex,rfl,B2.perm i,λk=>(Aw k).trans ⟨λ⟨e,m,q⟩=>⟨e,i.mem_iff.mpr m,q⟩,λ⟨e,m,q⟩=>⟨e,i.mem_iff.mp m,q⟩⟩,by rw[c];exact d,?_,c.trans l,?_,λ_=>?_⟩
   .unfold SetTable.fits SetTable.fill;rw[H,y,c,I];have:=B.rm;simp;omega
   .rw[K,B.ld,Bn,Bool.and_self]
   .rw[J,B0 Kx,KH]
variable{X:Cx}
end
end L2
set_option maxHeartbeats 4000000
namespace Fz
open L2 Lw
theorem QB(ns:List Str):(λk'=>(dd ns).any (· == k'))=λk'=>decide (k'∈dd ns):=by
 funext k
 rw[Hk,eW];simp
end Fz
namespace L2
variable{prog:Program}{w:World}{A:Around}{E:Value->Shared->Prop}{s:Shared}{a b r:Addr}{o:Obj}{es:Array (Int×Value)}{ep m mask n:Nat}{t:SetTable}{Q:Array (Int×Value)->Shared->Prop}{f g:Str->Bool}{HU:String}{X:Cx}{gs:List Str}
theorem oO{p:Str->Bool}{j:Nat}(l:AO prog w s.heap a f n)(C:AO prog w s.heap b g m)(i:AO prog w s.heap r p j)
  (ho:s.heap.get? a=some o) (hd:o.data=.set es ep t)
  (h:∀(Ax:Array (Int×Value))(h':Heap),Ax.toList.Perm es.toList->Heap.SameBut r s.heap h'->AO prog w h' r p j->Q Ax { s with heap:=h' }):wpAny (model prog w) A (setWalkUnseen a [b,r] (some r)) Q E s:=by
 have D:=l;obtain⟨o',Ax,EK,t',Bz,B,FH,B2,Aw,H,k,G,Bn,B0⟩:=l;rw[ho]at Bz;cases Bz;rw[hd]at FH;cases FH;unfold setWalkUnseen setsByText;refine Wo (i4 ho hd k ?_);dsimp only;refine Wo (Wo (jQ (dP ?_)));show wpAny _ _ (if(B9 w || (t.led && t.plain) || decide (es.size<=1))=true then _ else _) _ _ _
 by_cases e:(B9 w || (t.led && t.plain) || decide (es.size<=1))=true
 .rw[eM e];refine Yj ho hd k Bn (λEm=>?_) λAx q=>h Ax s.heap q (KI r s.heap) i;rw[Em]at e Bn;cases v:t.plain with
  |true=>rfl
  |false=>
   rw[v]at e;simp only[KH,dS,VZ,eW]at e;simp only[Bool.not_false,LJ,ud];omega
 .rw[eJ e];refine Wo (Zm _ (λx hx=>?_) ?_)
  .simp only[De,BZ,qU]at hx;rcases hx with rfl|rfl|rfl
   .exact⟨_,_,D⟩
   .exact⟨_,_,C⟩
   .exact⟨_,_,i⟩
  rw[eJ (by decide)];refine Wo (oF ?_);obtain⟨u,FN,Ys,t2,D1,d,c,P5,VQ,Kb,M5,Jo,Te,RE⟩:=i;refine Wo (i4 D1 c M5 ?_);dsimp only;have y:t.led=true:=by
   rw[Bn];cases F:B9 w with
   |false=>rfl
   |true=>rw[F]at e;simp at e
  split
  .refine Wo (l7 D1 c ?_ (kd Kb));refine dP (h es _ (Fh _) (EN s.heap r _) ⟨_,FN,_,_,GH D1 c FN _,d,rfl,P5,VQ,Kb,M5,Jo,?_,λz=>?_⟩)
   .show(t2.led && t.led)=!B9 w;rw[y,Te,VY]
   .show(t2.plain && t.plain)=false;rw[RE z,dR]
  .exact dP (h es s.heap (Fh _) (KI r s.heap) ⟨u,FN,Ys,t2,D1,d,c,P5,VQ,Kb,M5,Jo,Te,RE⟩)
theorem AO.setOf{b:Heap}(h:AO prog w b a f n):b.SetOf (PySem.strKind prog w) a f n:=by
 obtain⟨o,es,ep,t,h1,h2,j,i,g,e,d,c,_⟩:=h;exact⟨o,es,ep,t,h1,h2,j,i,g,e,d,c⟩
theorem GK{Q:Nat->Shared->Prop}(e:AO prog w s.heap a f n)(h:Q n s):wpAny (model prog w) A (Builtin.Frozenset.sizeOf a) Q E s:=by
 obtain⟨o,es,ep,t,ho,d,hd,B2,Aw,g,c,b,Bn,B0⟩:=e;unfold Builtin.Frozenset.sizeOf;refine Wo (k6 ho hd c (dP ?_));rw[b];exact h
theorem j6{Q:Value->Shared->Prop}(B:AO prog w s.heap a f n)(C:AO prog w s.heap b g m)(hsz:n / 4<=m)
  (h:∀(h':Heap)(ds:List Str),ds.Nodup->(∀k,k∈ds↔f k=true/\g k=false)->ds.length<=n->AO prog w h' s.heap.objs.size (λk=>decide (k∈ds)) ds.length->(∀b o,s.heap.get? b=some o->h'.get? b=some o)->Q (.ref s.heap.objs.size) { s with heap:=h' }) :
  wpAny (model prog w) A (Builtin.Frozenset.difference HU a (.ref b)) Q E s:=by
 unfold Builtin.Frozenset.difference;refine Wo (KR C.typeIs ?_);dsimp only;rw[eJ (by decide)];refine Wo (jv (a:=b) rfl ?_);rw[eJ (by simp)];rw[eM rfl];refine Wo (GK C ?_);refine Wo (GK B ?_);rw[eJ (by omega)];refine Wo ?_;unfold Builtin.Frozenset.baseOf;refine Wo (nW (b:=true) B.typeIs (by rw[mI];kernel_rfl) ?_);refine dP ?_;rw[eM rfl];unfold newSet setsByText;refine Wo (Wo (Wo (jQ (dP ?_))));dsimp only;refine j4 ?_;show wpAny _ _ _ _ _ { s with heap:=s.heap.push { cls:=.type "set", data:=.set #[] 0 (.fresh 0 0 (!B9 w)) } }
 generalize O:({ cls:=.type "set", data:=.set #[] 0 (.fresh 0 0 (!B9 w)) }:Obj)=so;have TL:(s.heap.push so).get? s.heap.objs.size=some so:=Ay _ (by rw[<- O];rfl);have H:∀b o,s.heap.get? b=some o->(s.heap.push so).get? b=some o:=λb o e=>Af _ e;have VM:AO prog w (s.heap.push so) s.heap.objs.size (λ_=>false) 0:=by
  subst O;exact⟨_,#[],0,_,TL,⟨rfl,rfl,rfl⟩,rfl,λe c=>by simp at c,λk=>by simp,by decide,by rfl,rfl,rfl,λz=>by simp at z⟩
 have P:AO prog w (s.heap.push so) a f n:=B.keep λo e=>H _ _ e;have N:AO prog w (s.heap.push so) b g m:=C.keep λo e=>H _ _ e;have HK:=P;obtain⟨o,es,ep,t,ho,σ,hd,B2,Aw,hb,L,J,Bn,B0⟩:=HK;have A8:a<s.heap.objs.size:=by obtain⟨o,_,_,_,ho,_⟩:=B;exact AY ho
 have Na:b<s.heap.objs.size:=by obtain⟨o,_,_,_,ho,_⟩:=C;exact AY ho
 refine Wo (jv (a:=s.heap.objs.size) rfl ?_);refine Wo (lM (s:={ s with heap:=s.heap.push so }) ho hd L ?_)
 refine Wo (iZ ?_);rw[eM rfl];refine Wo (oO (s:={ s with heap:=s.heap.push so }) P N VM ho hd λAx h1 F El Um=>?_)
 have R:s.heap.objs.size≠a:=DO A8;have V:s.heap.objs.size≠b:=DO Na;have S:Ax.toList.length=es.size:=by rw[F.length_eq,Bs]
 refine Wo (dv _ (λrest _ s2=>∃(h2:Heap)(ds:List Str),s2={ s with heap:=h2 }/\Heap.SameBut s.heap.objs.size (s.heap.push so) h2/\ds.Nodup/\AO prog w h2 s.heap.objs.size (λk=>decide (k∈ds)) ds.length/\ds.length+rest.length<=n/\
   (∀k∈ds,f k=true/\g k=false)/\(∀k,f k=true->g k=false->k∈ds∨∃e∈rest,(PySem.strKind prog w).is k e.2=true)/\∀e∈rest,e∈es.toList) _ ?_ ?_ _ _ ⟨h1,[],rfl,El,GC,Um.congr (λk=>by simp) rfl,by rw[S,J];simp,λk hk=>by simp at hk,λk hk v=>.inr ?_,λe c=>F.mem_iff.mp c⟩)
 .rintro⟨X,x⟩rest u s2⟨h2,ds,rfl,j,nd,He,G,l,D,q⟩;obtain⟨⟨k,hk,hh⟩,ET⟩:=B2 _ (q _ Ae);obtain⟨tk,rfl⟩:=Ho hk;have Mo:X=(PySem.strKind prog w).hash k:=hh;subst Mo;have W:f k=true:=(Aw k).mpr ⟨_,q _ Ae,hk⟩;have T:AO prog w h2 b g m:=N.keep λo e=>by rw[j.2 b (BG V)];exact e
  have ZY:h2.get? a=some o:=by rw[j.2 a (BG R)];exact ho
  refine Wo (iZ ?_);rw[eM rfl];dsimp only;refine Wo (wpAny_setFind_of (knd:=PySem.strKind prog w) (k:=k) (s:={ s with heap:=h2 }) hk ET T.setOf λr Y=>?_)
  refine Wo (dP ?_);rw[Y];have more:∀Cy:List Str,(∀k',k'∈Cy↔k'∈ds∨(k'=k/\g k=false))->∀k',f k'=true->g k'=false->k'∈Cy∨∃e∈rest,(PySem.strKind prog w).is k' e.2=true:=by
   intro Cy K k' Jk YL;rcases D k' Jk YL with z|⟨e,c,z⟩
   .exact .inl ((K k').mpr (.inl z))
   .rcases List.mem_cons.mp c with rfl|c
    .have e1:=(PySem.strKind prog w).inj _ k' k z hk;subst e1;exact .inl ((K k').mpr (.inr ⟨rfl,YL⟩))
    .exact .inr ⟨e,c,z⟩
  have d:∀(i:Heap)(Cy:List Str),Heap.SameBut s.heap.objs.size (s.heap.push so) i->Cy.Nodup->AO prog w i s.heap.objs.size (λk=>decide (k∈Cy)) Cy.length->Cy.length+rest.length<=n->(∀k∈Cy,f k=true/\g k=false)->(∀k',f k'=true->g k'=false->k'∈Cy∨∃e∈rest,(PySem.strKind prog w).is k' e.2=true)->
    wpAny (model prog w) A (do Builtin.Frozenset.unchanged HU a ep;pure (ForInStep.yield PUnit.unit)) (λr s'=>match r with | .yield b'=>∃(h2:Heap)(ds:List Str),s'={ s with heap:=h2 }/\Heap.SameBut s.heap.objs.size (s.heap.push so) h2/\ds.Nodup/\AO prog w h2 s.heap.objs.size (λk=>decide (k∈ds)) ds.length/\ds.length+rest.length<=n/\
   (∀k∈ds,f k=true/\g k=false)/\(∀k,f k=true->g k=false->k∈ds∨∃e∈rest,(PySem.strKind prog w).is k e.2=true)/\∀e∈rest,e∈es.toList | .done b'=>False) E { s with heap:=i }:=by
   intro i Cy Jr Dh Qw Ds p1 p2;have U:i.get? a=some o:=by rw[Jr.2 a (BG R)];exact ho
   unfold Builtin.Frozenset.unchanged;refine Wo (Wo (lM (s:={ s with heap:=i }) U hd L ?_))
   rw[eJ (by simp)];refine dP ?_;exact dP ⟨i,Cy,rfl,Jr,Dh,Qw,Ds,p1,p2,λe c=>q e (Au _ c)⟩
  rw[Am]at G;cases v:g k with
  |true=>
   rw[eJ (by decide)];refine dP ?_;refine i7 (d h2 ds j nd He (by omega) l (more ds λk'=>⟨.inl,λz=>z.elim id λz=>by rw[v]at z;cases z.2⟩)) (λr s' z=>?_) λ_ _ z=>z;cases r with
   |yield _=>exact z
   |done _=>exact z.elim
  |false=>
   rw[eM (by decide)];have VG:n<scanBound:=by rw[<- J];exact hb
   refine Wo (AO.put (s:={ s with heap:=h2 }) He (by omega) λi Mn L0=>?_)
   refine dP ?_;have M:=j.trans Mn
   by_cases p:k∈ds
   .refine i7 (d i ds M nd (L0.congr (λk'=>?_) ?_) (by omega) l (more ds λk'=>⟨.inl,λz=>z.elim id λz=>z.1▸p⟩)) (λr s' z=>?_) λ_ _ z=>z
    .by_cases e:k'=k
     .subst e;simp[p]
     .simp[e]
    .simp[p]
    .cases r with
     |yield _=>exact z
     |done _=>exact z.elim
   .refine i7 (d i (ds++[k]) M ?_ (L0.congr (λk'=>?_) ?_) ?_ ?_ (more _ λk'=>?_)) (λr s' z=>?_) λ_ _ z=>z
    .rw[EO];exact⟨nd,List.nodup_cons.mpr ⟨by simp,GC⟩,λx hx y I=>by
      rw[J9]at I;subst I;exact λe=>p (e▸hx)⟩
    .by_cases e:k'=k
     .subst e;simp
     .simp[e]
    .simp[p]
    .rw[BQ];simp only[Am,ND];omega
    .intro k' GL;rcases List.mem_append.mp GL with z|z
     .exact l k' z
     .rw[J9]at z;subst z;exact⟨W,v⟩
    .rw[NF,J9];exact⟨λz=>z.elim .inl λe=>.inr ⟨e,v⟩,λz=>z.elim .inl λe=>.inr e.1⟩
    .cases r with
     |yield _=>exact z
     |done _=>exact z.elim
 .rintro u s2⟨h2,ds,rfl,j,nd,He,G,l,D,q⟩;refine dP (dP ?_);refine h h2 ds nd (λk=>⟨l k,λz=>?_⟩) (by simpa using G) He λx ox e=>?_
  .rcases D k z.1 z.2 with z|⟨e,c,_⟩
   .exact z
   .simp at c
  .rw[j.2 x (Ad (AY e))];exact H _ _ e
 .obtain⟨e,c,z⟩:=(Aw k).mp hk;exact⟨e,F.mem_iff.mpr c,z⟩
def Ug(mask:Nat):Nat->Nat×Nat->List Nat
 | 0,_=>[]
 |k+1,p=>p.1::Ug mask k (lp mask p)
theorem gk{j:Nat}:∀{k:Nat}{p:Nat×Nat},j∈Ug mask k p->∃t,t<k/\(DK mask t p).1=j:=by
 intro k
 induction k with
 |zero=>intro p h;cases h
 |succ k a=>
  intro p h;rcases List.mem_cons.mp h with e|h
  .exact⟨0,by omega,e.symm⟩
  .obtain⟨t,b,e⟩:=a h;exact⟨t+1,by omega,e⟩
theorem tT(c:((DK mask (mask+1) (0,0)).1 == 0)=true)(h:((List.range (mask+1)).all λj=>(Ug mask (mask+1) (0,0)).contains j)=true):good mask=true:=by
 unfold good;rw[Cn];refine⟨c,?_⟩;rw[FI]at h ⊢;intro j b;obtain⟨t,a,e⟩:=gk (List.contains_iff_mem.mp (h j b));rw[KJ];exact⟨t,List.mem_range.mpr a,by rw[w8];exact e⟩
theorem i5:good 255=true:=tT (by decide +kernel) (by decide +kernel)
noncomputable def tidy(n:Nat):Bool:=[7,15,31,63,127,255].contains (SetTable.sizeAbove (SetTable.grown n) - 1) && decide (n<=SetTable.sizeAbove (SetTable.grown n) - 1) && decide (SetTable.sizeAbove (SetTable.grown n)<=256)
theorem pK:(List.range 64).all tidy=true:=by decide +kernel
theorem fm(h:[7,15,31,63,127,255].contains mask=true):good mask=true:=by
 have:=List.contains_iff_mem.mp h;rcases List.mem_append.mp (show mask∈[7,15,31,63,127]++[255]from this)with h|h
 .exact List.all_eq_true.mp Sq _ h
 .rw[List.mem_singleton.mp h];exact i5
theorem nj(d:AO prog w s.heap a f n)(k:AO prog w s.heap r g m)
  (ho:s.heap.get? a=some o) (hd:o.data=.set es ep t)
  (h:∀(Ax:Array (Int×Value)),Ax.toList.Perm es.toList->Q Ax s):wpAny (model prog w) A (setWalkUnseen a [r] none) Q E s:=by
 have l:=d;obtain⟨o',Ax,EK,t',Bz,j,FH,B2,Aw,q,c,p,Bn,B0⟩:=d;rw[ho]at Bz;cases Bz;rw[hd]at FH;cases FH;unfold setWalkUnseen setsByText;refine Wo (i4 ho hd c ?_);dsimp only;refine Wo (Wo (jQ (dP ?_)));show wpAny _ _ (if(B9 w || (t.led && t.plain) || decide (es.size<=1))=true then _ else _) _ _ _
 by_cases b:(B9 w || (t.led && t.plain) || decide (es.size<=1))=true
 .rw[eM b];refine Yj ho hd c Bn (λEm=>?_) λAx e=>h Ax e;rw[Em]at b Bn;cases i:t.plain with
  |true=>rfl
  |false=>
   rw[i]at b;simp only[KH,dS,VZ,eW]at b;simp only[Bool.not_false,LJ,ud];omega
 .rw[eJ b];refine Wo (Zm _ (λx hx=>?_) ?_)
  .simp only[De,BZ,qU]at hx;rcases hx with rfl|rfl
   .exact⟨_,_,l⟩
   .exact⟨_,_,k⟩
  rw[eJ (by decide)];refine Wo (oF ?_);exact dP (h es (Fh _))
theorem v5{Q:Unit->Shared->Prop}(B:AO prog w s.heap r f n)(J:n<64)(h:∀h',Heap.SameBut r s.heap h'->AO prog w h' r f n->Q () { s with heap:=h' }):wpAny (model prog w) A (setTidy r) Q E s:=by
 obtain⟨o,es,ep,t,ho,c,hd,B2,Aw,l,i,m,Bn,B0⟩:=B;unfold setTidy;refine Wo (i4 ho hd i ?_);dsimp only
 by_cases p:t.tooManyDummies=true
 .rw[eM p];have q:=List.all_eq_true.mp pK es.size (List.mem_range.mpr (by omega));unfold tidy at q;rw[Cn,Cn,eW,eW]at q;obtain⟨⟨g,y⟩,I⟩:=q;replace g:=fm g;unfold setRelay;refine Wo (i4 ho hd i ?_);dsimp only;have x:¬ SetTable.sizeAbove (SetTable.grown es.size) > sizeLine:=by
   have:256<=sizeLine:=by decide +kernel
   omega
  rw[eJ x];obtain⟨t',a,e1,H,G,F,D,v,u⟩:=Ux g t.finger (t.movedTo (SetTable.sizeAbove (SetTable.grown es.size) - 1)) t.led t.plain (es.map (·.1)) (by rw[VX];exact y)
  rw[VX]at v u;have C:t.relaid (es.map (·.1)) (SetTable.grown es.size)=some (t',a):=by
   unfold SetTable.relaid;exact e1
  refine Wo ?_
  wp_delta
  rw[C];dsimp only;have d:(a.filterMap (es[·]?)).toList.Perm es.toList:=by
   rw[xu];exact(u.filterMap _).trans (by rw[filterMap_getElem?_range])
  have b:(a.filterMap (es[·]?)).size=es.size:=by rw[<- Bs,d.length_eq,Bs]
  rw[eJ (by rw[b];simp)];refine dP ?_;dsimp only;refine l7 ho hd ?_ (kd (by rw[b];exact l));refine h _ (EN s.heap r _) ⟨_,_,_,_,GH ho hd _ _,c,rfl,B2.perm d,λk=>(Aw k).trans ⟨λ⟨e,j,q⟩=>⟨e,d.mem_iff.mpr j,q⟩,λ⟨e,j,q⟩=>⟨e,d.mem_iff.mp j,q⟩⟩,by rw[b];exact l,?_,b.trans m,?_,λz=>?_⟩
  .unfold SetTable.fits SetTable.fill;rw[D,v,b,F];simp;omega
  .rw[H,Bn]
  .rw[G,B0 (by rw[b]at z;exact z)]
 .rw[eJ p];exact dP (h s.heap (KI r s.heap) ⟨o,es,ep,t,ho,c,hd,B2,Aw,l,i,m,Bn,B0⟩)
theorem rM{fs:List Str}{Q:Unit->Shared->Prop}(AJ:r≠a)(F:gs.Nodup)(N:gs.length<64)(hsz:fs.length / 8<=gs.length)
  (l:AO prog w s.heap a (λk=>decide (k∈fs)) fs.length) (v:AO prog w s.heap r (λk=>decide (k∈gs)) gs.length)
  (h:∀(h':Heap)(ds:List Str),ds.Nodup->(∀k,k∈ds↔k∈gs/\k∉fs)->Heap.SameBut r s.heap h'->AO prog w h' r (λk=>decide (k∈ds)) ds.length->Q () { s with heap:=h' }) :
  wpAny (model prog w) A (Builtin.Frozenset.differenceUpdate HU r (.ref a)) Q E s:=by
 unfold Builtin.Frozenset.differenceUpdate;rw[eJ (by simpa using BG AJ)]
 refine Wo (KR l.typeIs ?_);rw[eM rfl];refine Wo (jv (a:=a) rfl ?_);refine Wo (GK l ?_);refine Wo (GK v ?_);rw[eJ (by omega)];have M:=l;obtain⟨o,es,ep,t,ho,H,hd,B2,Aw,P,C,O,Bn,B0⟩:=M;refine Wo (lM ho hd C ?_);refine Wo (iZ ?_);refine Wo (nj l v ho hd λAx j=>?_);have HB:∀k,k∈fs↔k∈Ax.toList.map (kv ·.2):=λk=>by
  have K:ElemsOf (PySem.strKind prog w) Ax.toList:=B2.perm j;rw[<- LH K,<- eW (p:=k∈fs),Aw k];exact⟨λ⟨e,f,q⟩=>⟨e,j.mem_iff.mpr f,q⟩,λ⟨e,f,q⟩=>⟨e,j.mem_iff.mp f,q⟩⟩
 refine Wo (dv _ (λrest _ s2=>∃(h2:Heap)(ds:List Str)(c:List Str),s2={ s with heap:=h2 }/\Heap.SameBut r s.heap h2/\ds.Nodup/\AO prog w h2 r (λk=>decide (k∈ds)) ds.length/\ds.length<=gs.length/\
   Ax.toList.map (kv ·.2)=c++rest.map (kv ·.2)/\(∀k,k∈ds↔k∈gs/\k∉c)/\∀e∈rest,e∈es.toList) _ ?_ ?_ _ _ ⟨s.heap,gs,[],rfl,KI r s.heap,F,v,AW _,rfl,λk=>by simp,λe f=>j.mem_iff.mp f⟩)
 .rintro⟨G,x⟩rest u s2⟨h2,ds,c,rfl,i,nd,He,B,n,g,m⟩;obtain⟨⟨k,hk,hh⟩,ET⟩:=B2 _ (m _ Ae);obtain⟨tk,rfl⟩:=Ho hk;have L:G=(PySem.strKind prog w).hash k:=hh;subst L;have J:∀b,Heap.SameBut r s.heap b->b.get? a=some o:=λb Jr=>by rw[Jr.2 a (BG AJ)];exact ho
  have d:∀(b:Heap)(Cy:List Str),Heap.SameBut r s.heap b->Cy.Nodup->AO prog w b r (λk=>decide (k∈Cy)) Cy.length->Cy.length<=gs.length->(∀k',k'∈Cy↔k'∈gs/\k'∉c++[k])->
    wpAny (model prog w) A (do Builtin.Frozenset.unchanged HU a ep;pure (ForInStep.yield PUnit.unit)) (λD s'=>match D with | .yield I=>(∃(h2:Heap)(ds:List Str)(c:List Str),s'={ s with heap:=h2 }/\Heap.SameBut r s.heap h2/\ds.Nodup/\AO prog w h2 r (λk=>decide (k∈ds)) ds.length/\ds.length<=gs.length/\Ax.toList.map (kv ·.2)=c++rest.map (kv ·.2)/\(∀k,k∈ds↔k∈gs/\k∉c)/\∀e∈rest,e∈es.toList) | .done I=>False) E { s with heap:=b }:=by
   intro b Cy Jr Dh Qw Ds p1;unfold Builtin.Frozenset.unchanged;refine Wo (Wo (lM (s:={ s with heap:=b }) (J b Jr) hd C ?_))
   rw[eJ (by simp)];refine dP ?_;exact dP ⟨b,Cy,c++[k],rfl,Jr,Dh,Qw,Ds,by rw[n,BY];rfl,p1,λe f=>m e (Au _ f)⟩
  have mk:∀k':Str,k'∈c++[k]↔k'∈c∨k'=k:=λk'=>by rw[NF,J9]
  dsimp only;refine Wo (iZ ?_);refine AO.cut (s:={ s with heap:=h2 }) nd He (λHh=>?_) λHh b Mn L0=>?_
  .refine i7 (d h2 ds i nd He B λk'=>?_) (λr s' z=>?_) λ_ _ z=>z
   .rw[mk,g k']
    by_cases e:k'=k
    .subst e;have:=mt (g k').mpr Hh;constructor
     .exact λz=>absurd z this
     .exact λz=>absurd (Or.inr rfl) z.2
    .simp only[e,qU]
   .cases r with
    |yield _=>exact z
    |done _=>exact z.elim
  .have y:=J8 Hh;refine i7 (d b (ds.erase k) (i.trans Mn) (nd.erase k) L0 (by omega) λk'=>?_) (λr s' z=>?_) λ_ _ z=>z
   .rw[mk,nd.mem_erase_iff,g k']
    by_cases e:k'=k
    .subst e;simp
    .simp[e]
   .cases r with
    |yield _=>exact z
    |done _=>exact z.elim
 .rintro u s2⟨h2,ds,c,rfl,i,nd,He,B,n,g,m⟩;refine dP ?_;refine v5 (s:={ s with heap:=h2 }) He (by omega) λb Mn L0=>?_
  refine h b ds nd (λk=>?_) (i.trans Mn) L0;rw[g k,HB k,n];simp
theorem sN{fs:List Str}{Q:Value->Shared->Prop}(p:fs.Nodup)(j:fs.length<64)(c:AO prog w s.heap a (λk=>decide (k∈fs)) fs.length)(d:AO prog w s.heap b (λk=>decide (k∈gs)) gs.length)
  (h:∀(h':Heap)(ds:List Str),ds.Nodup->(∀k,k∈ds↔k∈fs/\k∉gs)->AO prog w h' s.heap.objs.size (λk=>decide (k∈ds)) ds.length->(∀b o,s.heap.get? b=some o->h'.get? b=some o)->Q (.ref s.heap.objs.size) { s with heap:=h' }) :
  wpAny (model prog w) A (Builtin.Frozenset.difference HU a (.ref b)) Q E s:=by
 by_cases hsz:fs.length / 4<=gs.length
 .refine j6 c d hsz λh' ds nd f y r kp=>h h' ds nd (λk=>?_) r kp;rw[f k];simp
 .unfold Builtin.Frozenset.difference;refine Wo (KR d.typeIs ?_);dsimp only;rw[eJ (by decide)];refine Wo (jv (a:=b) rfl ?_);rw[eJ (by simp)];rw[eM rfl];refine Wo (GK d ?_);refine Wo (GK c ?_);rw[eM (by omega)];refine Wo (oF ?_);refine Wo ?_;unfold Builtin.Frozenset.copyOf;refine Wo ?_;unfold Builtin.Frozenset.baseOf;refine Wo (nW (b:=true) c.typeIs (by rw[mI];kernel_rfl) ?_);refine dP ?_;rw[eM rfl];unfold newSet setsByText;refine Wo (Wo (Wo (jQ (dP ?_))));dsimp only;refine j4 ?_;show wpAny _ _ _ _ _ { s with heap:=s.heap.push { cls:=.type "set", data:=.set #[] 0 (.fresh 0 0 (!B9 w)) } }
  generalize i:({ cls:=.type "set", data:=.set #[] 0 (.fresh 0 0 (!B9 w)) }:Obj)=so;have t:(s.heap.push so).get? s.heap.objs.size=some so:=Ay _ (by rw[<- i];rfl);have g:∀b o,s.heap.get? b=some o->(s.heap.push so).get? b=some o:=λb o e=>Af _ e;have v:AO prog w (s.heap.push so) a _ fs.length:=c.keep λo e=>g _ _ e;have u:AO prog w (s.heap.push so) b _ gs.length:=d.keep λo e=>g _ _ e;have x:a<s.heap.objs.size:=by obtain⟨o,_,_,_,ho,_⟩:=c;exact AY ho
  have m:b<s.heap.objs.size:=by obtain⟨o,_,_,_,ho,_⟩:=d;exact AY ho
  refine Wo (jv (a:=s.heap.objs.size) rfl ?_);refine Wo (kc (s:={ s with heap:=s.heap.push so }) (DO x) t (by rw[<- i];exact⟨rfl,rfl,rfl⟩) (by rw[<- i]) v j λh1 El VM=>?_)
  refine dP ?_;have n:AO prog w h1 b _ gs.length:=u.keep λo e=>by rw[El.2 b (Ad m)];exact e
  refine Wo (jv (a:=s.heap.objs.size) rfl ?_);refine Wo (iZ ?_);refine rM (s:={ s with heap:=h1 }) (DO m) p j (by omega) n VM λh2 ds nd f q Um=>?_
  refine dP ?_;refine h h2 ds nd f Um λb o e=>?_;have l:=Ad (AY e);rw[q.2 b l];show h1.get? b=_;rw[El.2 b l];exact g _ _ e
def XQ(P:Program)(w:World):V->V->Hp->VK->Prop:=λx y H Q=>∃(p q:Addr)(fs gs:List Str),x=.ref p/\y=.ref q/\fs.Nodup/\fs.length<64/\H p=some (CV P w p (λk=>decide (k∈fs)) fs.length)/\H q=some (CV P w q (λk=>decide (k∈gs)) gs.length)/\
 ∀(l:Addr)(ds:List Str),H l=none->ds.Nodup->(∀k,k∈ds↔k∈fs/\k∉gs)->Q (.ref l) (upd H l (CV P w l (λk=>decide (k∈ds)) ds.length))
theorem kN:BA X (binaryOp .Sub) (XQ X.prog X.w):=by
 intro Zj s Z H x y v u Q I f e h;obtain⟨p,q,fs,gs,rfl,rfl,g,i,k,j,h⟩:=h;cases f;cases e;have b:AO X.prog X.w s.heap p _ fs.length:=(I.AA p _ k).1;have c:AO X.prog X.w s.heap q _ gs.length:=(I.AA q _ j).1;refine wpAny_binaryOp_same (T:="set") (op:=.Sub) b.typeIs c.typeIs F.fills_set_sub F.slot_set_sub (il F.slot_set_sub b.typeIs mE ?_ (F.args_set_sub_2 _ _));unfold Builtin.«frozenset.__sub__»
 wp_delta
 refine Wo (jv (a:=(Value.ref p,Value.ref q)) rfl ?_);dsimp only;rw[eJ (by decide)];dsimp only;refine Wo (Wo (KR b.typeIs ?_));refine KR c.typeIs ?_;rw[eJ (by decide)];refine Wo (jv (a:=p) rfl ?_);refine Wo (sN g i b c λh' ds nd l d kp=>?_);refine dP ⟨_,rfl,(λz=>nomatch z),?_⟩;refine⟨.ref s.heap.objs.size,_,I.laid (t':=s.toks) kp (AW _) (show Bi X.prog X.w _ h' _ (CV X.prog X.w s.heap.objs.size _ _)from⟨d,?_,λh1 h2 Dk FD=>Dk.keep FD⟩),rfl,h _ ds (I.AA.fresh (AW _)) nd l⟩;obtain⟨o,_,_,_,ho,_⟩:=d;exact⟨o,ho⟩
theorem u6:entryFor table "set.__eq__"=some Builtin.«frozenset.__eq__»:=
 ZA1 (id' := "frozenset.__eq__") (by kernel_rfl) (by first|rfl|decide +kernel|(unfold String.splitOn;simp +decide [String.splitOnAux])) (by decide +kernel) (by kernel_rfl)
theorem vI{Q:List (Int×Value)->Shared->Prop}(q:AO prog w s.heap a f n)(u:AO prog w s.heap b g m)
  (ho:s.heap.get? a=some o) (hd:o.data=.set es ep t) (h:Q es.toList s):wpAny (model prog w) A (Builtin.Frozenset.walkUnseen a b) Q E s:=by
 obtain⟨o',Ax,EK,t',Bz,p,FH,B2,Aw,z,l,y,Bn,B0⟩:=q;rw[ho]at Bz;cases Bz;rw[hd]at FH;cases FH;obtain⟨v,FN,Ys,t2,D1,j,d,P5,VQ,Kb,M5,Jo,Te,RE⟩:=u;unfold Builtin.Frozenset.walkUnseen;refine Wo (k6 ho hd l ?_);refine Wo (k6 D1 d M5 ?_);refine Wo ?_;refine ZA9 _ (λrest r s'=>s'=s/\r=(none,())/\∀e∈rest,∃k,(PySem.strKind prog w).is k e.2=true) _ ?_ ?_ _ _ ⟨rfl,rfl,λe c=>(List.mem_append.mp c).elim (B2.keys e) (P5.keys e)⟩
 .rintro⟨hh,x⟩rest r s'⟨rfl,rfl,i⟩;obtain⟨k,hk⟩:=i _ Ae;obtain⟨tk,rfl⟩:=Ho hk;refine Wo (m:=Builtin.Frozenset.quietEq _) ?_;unfold Builtin.Frozenset.quietEq;refine dP ?_;rw[eJ (by decide)];exact dP ⟨rfl,rfl,λe c=>i e (Au _ c)⟩
 .rintro r s'⟨rfl,rfl,_⟩;exact dP h
theorem pY{fs:List Str}{Q:Bool->Shared->Prop}(B:fs.length<=gs.length)
  (j:AO prog w s.heap a (λk=>decide (k∈fs)) fs.length) (l:AO prog w s.heap b (λk=>decide (k∈gs)) gs.length)
  (h:Q (decide (∀k∈fs,k∈gs)) s):wpAny (model prog w) A (Builtin.Frozenset.subsetOf HU a b) Q E s:=by
 unfold Builtin.Frozenset.subsetOf;refine Wo (GK j ?_);refine Wo (GK l ?_);rw[eJ (by omega)];have y:=j;obtain⟨o,es,ep,t,ho,u,hd,B2,Aw,D,m,C,Bn,B0⟩:=y;refine Wo (lM ho hd m ?_);refine Wo (vI j l ho hd ?_);have HB:∀k,k∈fs↔k∈es.toList.map (kv ·.2):=λk=>by rw[<- LH B2,<- eW (p:=k∈fs),Aw k]
 refine Wo ?_;refine i7 (ZA9 _ (λrest r s'=>s'=s/\r=(none,())/\(∀e∈rest,e∈es.toList)/\∀e∈es.toList,e∈rest∨kv e.2∈gs) (λr s'=>s'=s/\((r=(none,())/\∀k∈fs,k∈gs)∨(r=(some false,())/\¬ ∀k∈fs,k∈gs))) ?_ ?_ _ _ ⟨rfl,rfl,λe c=>c,λe c=>.inl c⟩) (λr s' d=>?_) λ_ _ z=>z
 .rintro⟨q,x⟩rest r s'⟨rfl,rfl,i,g⟩;obtain⟨⟨k,hk,hh⟩,ET⟩:=B2 _ (i _ Ae);obtain⟨tk,rfl⟩:=Ho hk;have v:q=(PySem.strKind prog w).hash k:=hh;subst v;have n:k∈fs:=(HB k).mpr (List.mem_map.mpr ⟨_,i _ Ae,rfl⟩);dsimp only;refine Wo (iZ ?_);refine wpAny_setFind_of (knd:=PySem.strKind prog w) (k:=k) hk ET l.setOf λr d=>?_
  by_cases f:k∈gs
  .have e:r.isSome=true:=by rw[d];exact eV f
   rw[eJ (by cases r <;> simp_all)]
   unfold Builtin.Frozenset.unchanged;refine Wo (Wo (lM ho hd m ?_));rw[eJ (by simp)];refine dP ?_;refine dP ⟨rfl,rfl,λe c=>i e (Au _ c),λe c=>?_⟩;rcases g e c with h|h
   .rcases List.mem_cons.mp h with rfl|h
    .exact .inr f
    .exact .inl h
   .exact .inr h
  .have e:r.isSome=false:=by rw[d];exact fD f
   rw[eM (by cases r <;> simp_all)]
   exact dP ⟨rfl,.inr ⟨rfl,λz=>f (z k n)⟩⟩
 .rintro r s'⟨rfl,rfl,_,g⟩;refine⟨rfl,.inl ⟨rfl,λk hk=>?_⟩⟩;obtain⟨e,c,rfl⟩:=List.mem_map.mp ((HB k).mp hk);exact(g e c).resolve_left BZ
 .obtain⟨rfl,⟨rfl,z⟩|⟨rfl,z⟩⟩:=d
  .rw[eV z]at h;exact dP h
  .rw[fD z]at h;exact dP h
def Wd(P:Program)(w:World):V->V->Hp->VK->Prop:=λx y H Q=>∃(p q:Addr)(fs gs:List Str),x=.ref p/\y=.ref q/\fs.Nodup/\gs.Nodup/\H p=some (CV P w p (λk=>decide (k∈fs)) fs.length)/\H q=some (CV P w q (λk=>decide (k∈gs)) gs.length)/\
 ∀b:Bool,(b=true↔∀k,k∈fs↔k∈gs)->Q (.bl b) H
theorem vJ(r:X.A.units<cLine):BA X (compareOp .Eq) (Wd X.prog X.w):=by
 intro Zj s Z H x y v u Q I j i h;obtain⟨p,q,fs,gs,rfl,rfl,g,o,B,t,h⟩:=h;cases j;cases i;have c:AO X.prog X.w s.heap p _ fs.length:=(I.AA p _ B).1;have f:AO X.prog X.w s.heap q _ gs.length:=(I.AA q _ t).1;refine wpAny_richCompare_same_room (op:=.Eq) c.typeIs f.typeIs F.slot_set_eq (il F.slot_set_eq c.typeIs u6 ?_ (F.args_set_eq_2 _ _)) r;unfold Builtin.«frozenset.__eq__»
 wp_delta
 refine Wo (jv (a:=(Value.ref p,Value.ref q)) rfl ?_);dsimp only;refine Wo (KR f.typeIs ?_);rw[eJ (by decide)];refine Wo (jv (a:=p) rfl ?_);refine Wo (jv (a:=q) rfl ?_);refine Wo (GK c ?_);refine Wo (GK f ?_);refine Wo ?_
 by_cases d:fs.length=gs.length
 .rw[eJ (by simpa using d)]
  refine Wo ?_;refine Wo (nW (b:=false) c.typeIs (by rw[mI];kernel_rfl) ?_);refine dP ?_;rw[eJ (by decide)];refine pY (LM d) c f ?_;refine dP ⟨_,rfl,(λx=>nomatch x),.bl _,H,I,rfl,h _ ?_⟩;rw[eW];exact⟨λz k=>⟨z k,λhk=>N9 λC=>by
   have n:=K4 (l:=k::fs) (m:=gs) (List.nodup_cons.mpr ⟨C,g⟩) λx hx=>(List.mem_cons.mp hx).elim (λe=>e▸hk) (z x);rw[Am]at n;omega⟩,λz k hk=>(z k).mp hk⟩
 .rw[eM (by simpa using d)]
  refine dP ?_;refine dP ⟨_,rfl,(λx=>nomatch x),.bl _,H,I,rfl,h _ ⟨λz=>(nomatch z),λz=>absurd (Nat.le_antisymm (K4 g λk hk=>(z k).mp hk) (K4 o λk hk=>(z k).mpr hk)) d⟩⟩
end L2
namespace Fz
open L2 Lw
section
variable[Xw]
variable{ss:List Slot}{K:zu}{ta tb:TE}{P:Program}{w:World}
theorem mf{k:PV->Prop}(h:Wq ss ta λ_ xs=>∃ns:List Str,xs=ns.map PV.str/\ns.length<4000/\Wq ss tb λ_ ys=>∃ms:List Str,ys=ms.map PV.str/\ms.length<4000/\∀b:Bool,(b=true↔∀x,x∈ns↔x∈ms)->k (.bl b)):
  Wp ss (BF (Wd P w) (CK (λxs H Q=>∃(p:Addr)(tp:Bool)(ss:List Str),xs=[.ref p]/\CA K tp H p (ss.map V.str)/\ss.length<4000/\∀l,H l=none->Q (.ref l) (upd H l (CV P w l (λk'=>(dd ss).any (· == k')) (dd ss).length))) (Ah ta BV)) (CK (λxs H Q=>∃(p:Addr)(tp:Bool)(ss:List Str),xs=[.ref p]/\CA K tp H p (ss.map V.str)/\ss.length<4000/\∀l,H l=none->Q (.ref l) (upd H l (CV P w l (λk'=>(dd ss).any (· == k')) (dd ss).length))) (Ah tb BV))) k:=⟨λE Z F H Q S q=>
 h.go E Z F H _ S λv tp xs F1 H1 d sv⟨ns,e,m,h2⟩=>by
  subst e;obtain⟨l,vs,rfl,g,r⟩:=sv.seq d.st;rw[r.strs]at g;refine⟨l,tp,ns,rfl,Cz.sq g,m,λa i=>?_⟩;have m2:=d.st.make i (CV P w a (λk'=>(dd ns).any (· == k')) (dd ns).length)
  refine h2.go E Z F1 _ _ m2.st λv2 BO ys F2 H2 c G3⟨ms,s,PM,kk⟩=>?_;subst s;obtain⟨l2,HA,rfl,Bb,j⟩:=G3.seq c.st;rw[j.strs]at Bb;refine⟨l2,BO,ms,rfl,Cz.sq Bb,PM,λa2 IJ=>?_⟩;have f:=c.st.make IJ (CV P w a2 (λk'=>(dd ms).any (· == k')) (dd ms).length)
  have np:CH ss Z a:=d.st.IC i;have g0:=c.hh a _ np (AV (H:=H1) (a:=a) (o:=CV P w a (λk'=>(dd ns).any (· == k')) (dd ns).length))
  have g1:=f.hh a _ np g0;rw[QB ns]at g1;refine⟨a,a2,dd ns,dd ms,rfl,rfl,Oc ns,Oc ms,g1,by rw[<- QB ms];exact AV,λb n=>?_⟩;refine q _ _ F2 _ (d.trans (m2.trans (c.trans f))) (.bl _) (kk b ?_);rw[n];exact forall_congr' λx=>by rw[JN,JN]⟩
theorem oy{k : PV -> Prop}(h : Wq ss ta λ_ xs => ∃ns : List Str, xs = ns.map PV.str /\ ns.length<64 /\ Wq ss tb λ_ ys => ∃ms : List Str, ys = ms.map PV.str /\ ms.length<64 /\
   ∀n:Nat,(n=0↔∀x∈ns,x∈ms)->k (.int (n:Nat))):
  Wp ss (CK (λxs H Q=>∃l f n,xs=[.ref l]/\H l=some (CV P w l f n)/\Q (.int (n:Nat)) H) (Ah (BF (XQ P w) (CK (λxs H Q=>∃(p:Addr)(tp:Bool)(ss:List Str),xs=[.ref p]/\CA K tp H p (ss.map V.str)/\ss.length<4000/\∀l,H l=none->Q (.ref l) (upd H l (CV P w l (λk'=>(dd ss).any (· == k')) (dd ss).length))) (Ah ta BV))
   (CK (λxs H Q=>∃(p:Addr)(tp:Bool)(ss:List Str),xs=[.ref p]/\CA K tp H p (ss.map V.str)/\ss.length<4000/\∀l,H l=none->Q (.ref l) (upd H l (CV P w l (λk'=>(dd ss).any (· == k')) (dd ss).length))) (Ah tb BV))) BV)) k:=⟨λE Z F H Q S q=>
 h.go E Z F H _ S λv tp xs F1 H1 c sv⟨ns,e,B,h2⟩=>by
  subst e;obtain⟨l,vs,rfl,g,r⟩:=sv.seq c.st;rw[r.strs]at g;refine⟨l,tp,ns,rfl,Cz.sq g,by omega,λa i=>?_⟩;have m2:=c.st.make i (CV P w a (λk'=>(dd ns).any (· == k')) (dd ns).length)
  refine h2.go E Z F1 _ _ m2.st λv2 BO ys F2 H2 b G3⟨ms,D,PM,kk⟩=>?_;subst D;obtain⟨l2,HA,rfl,Bb,m⟩:=G3.seq b.st;rw[m.strs]at Bb;refine⟨l2,BO,ms,rfl,Cz.sq Bb,by omega,λa2 IJ=>?_⟩;have d:=b.st.make IJ (CV P w a2 (λk'=>(dd ms).any (· == k')) (dd ms).length)
  have np:CH ss Z a:=c.st.IC i;have g0:=b.hh a _ np (AV (H:=H1) (a:=a) (o:=CV P w a (λk'=>(dd ns).any (· == k')) (dd ns).length))
  have g1:=d.hh a _ np g0;rw[QB ns]at g1;refine⟨a,a2,dd ns,dd ms,rfl,rfl,Oc ns,Gn (SI ns) B,g1,by rw[<- QB ms];exact AV,λj ds s G Yw=>?_⟩;have A:=d.st.make s (CV P w j (λk=>decide (k∈ds)) ds.length);refine⟨j,_,_,rfl,AV,q _ _ F2 _ (c.trans (m2.trans (b.trans (d.trans A)))) (.int _) (kk ds.length ⟨λz x hx=>N9 λC=>?_,λz=>?_⟩)⟩
  .rw[List.length_eq_zero_iff]at z;subst z;exact absurd ((Yw x).mpr ⟨(JN ns x).mpr hx,λy=>C ((JN ms x).mp y)⟩) BZ
  .cases ds with
   |nil=>rfl
   |cons x r=>
    obtain⟨u,t⟩:=(Yw x).mp Ae;exact absurd ((JN ms x).mpr (z x ((JN ns x).mp u))) t⟩
end
end Fz
namespace Fz
open L2 Lw
def UY(K:zu):R2:=λx y H Q=>∃(q:PV)(a:Addr)(vs:List V)(xs:List PV),y=.ref a/\AI K H a vs/\AE H vs xs/\Rep H x q/\(∀p∈xs,dat K 40 p)/\dat K 40 q/\Q (.bl (!xs.any λp=>C4 p q)) H
section
variable{X:Cx}
theorem wm(P:X.A.units+64<cLine):BA X (compareOp .NotIn) (UY X.K):=by
 intro Zj s Z H x y v u Q I C B h;obtain⟨q,a,vs,xs,rfl,F,rs,D,hx,hd,k⟩:=h;cases B;obtain⟨A0,r,pl,O⟩:=I.list F;have R:=r.length;have S:=rs.length
 classical
 have at':∀(i:Nat)(w:Value),A0[i]?=some w->∃p,xs[i]?=some p/\SeqAt.EqAt X.A.in1 s w v (C4 p q):=λi w hw=>by
  have hi:i<A0.length:=(List.getElem?_eq_some_iff.mp hw).1;have m:vs[i]?=some vs[i]:=AL (by omega);obtain⟨N,n,E⟩:=r.get m;rw[hw]at n;cases n;obtain⟨p,d,z⟩:=rs.get' m;exact⟨p,d,pM I 40 vs[i] x p q z D (hx p (BL d)) hd X.A.in1 w v E C (by show X.A.units+1+40<cLine;omega)⟩
 let e:Value->Bool:=λw=>decide (∃(i:Nat)(p:PV),A0[i]?=some w/\xs[i]?=some p/\C4 p q=true)
 refine SeqAt.notIn_listAt e pl.isList (λw hw=>?_) ⟨.bl _,H,I,rfl,?_⟩
 .obtain⟨i,hi,L⟩:=Array.mem_iff_getElem.mp hw;have t:A0[i]?=some w:=by
   have:i<A0.length:=by simpa using hi
   rw[AL this];simpa using L
  by_cases f:∃(i:Nat)(p:PV),A0[i]?=some w/\xs[i]?=some p/\C4 p q=true
  .have:e w=true:=eV f;rw[this];obtain⟨j,p,h1,h2,l⟩:=f;obtain⟨c,g,b⟩:=at' j w h1;rw[h2]at g;cases g;rw[l]at b;exact b
  .have:e w=false:=fD f;rw[this];obtain⟨c,g,b⟩:=at' i w t;have:C4 c q=false:=by
    cases J:C4 c q with
    |false=>rfl
    |true=>exact absurd ⟨i,c,t,g,J⟩ f
   rw[this]at b;exact b
 .have ea:A0.toArray.any e=xs.any λp=>C4 p q:=by
   rw[Hk,Array.any_eq_true,KJ];constructor
   .rintro⟨i,hi,h⟩;obtain⟨j,p,_,h2,l⟩:=iY h;exact⟨p,BL h2,l⟩
   .rintro⟨p,d,h⟩;obtain⟨j,G,M⟩:=List.mem_iff_getElem.mp d;have o:j<A0.length:=by omega
    exact⟨j,by simpa using o,eV ⟨j,p,by rw[AL o];simp,by rw[AL G,M],h⟩⟩
  rw[ea];exact k
end
section
variable[Xw]
variable{ss:List Slot}{ta tb:TE}{K:zu}{k:PV->Prop}{nx:List Slot->Prop}{R:Ac}{xs:List PV}
theorem ot(h:Wp ss ta λq=>Wq ss tb λtp xs=>tp=false/\(∀p∈xs,dat K 40 p)/\dat K 40 q/\k (.bl (!xs.any λp=>C4 p q))):Wp ss (BF (UY K) ta tb) k:=⟨λE Z F H Q S q=>
 h.go E Z F H _ S λv p F1 H1 a b h2=>h2.go E Z F1 H1 _ a.st λv2 tp xs F2 H2 m2 sv AU=>by
  obtain⟨d,f,e,kk⟩:=AU;subst d;obtain⟨l,vs,rfl,c,r⟩:=sv.seq m2.st;exact⟨p,l,vs,xs,rfl,AI.of c,r.mono m2.st.fh,(b.mono m2.ff).mono m2.st.fh,f,e,q _ _ F2 H2 (a.trans m2) (.bl _) kk⟩⟩
variable{te:TE}
variable{P:Program}{w:World}
end
end Fz
namespace Fz
open L2 Lw
variable{ss:List Slot}{ta tb tc te ti:TE}{nx:List Slot->Prop}{R:Ac}{i j:Nat}
section
variable[Xw]
variable{K:zu}{xs ys:List PV}{k:PV->Prop}
theorem ic{y:PV}(c:ss[j]?=some (.own ys))(g:ys[ys.length - 1]?=some y)(h:nx ((ss.set j (.own ys.dropLast)).set i (.is y))):Ws ss (Dm (RL K "list" Sk (BE j)) (CU i)) nx R:=⟨λE D Z F H S k n=>by
 obtain⟨l,vs,e,e1,m,d,r⟩:=S.ok j _ c;obtain⟨w,hw,a⟩:=r.get g;have b:=r.length;refine⟨_,e,.inl ⟨rfl,_,AI.of d⟩,l,vs,w,rfl,rfl,d,by rw[b];exact hw,?_⟩;have f:AE F vs.dropLast ys.dropLast:=by
  rw[yC,yC,b];exact r.take _
 exact k _ _ F _ h ((S.put c e e1 m f).Gf a) (AF.refl _)⟩
variable{lt:Bool}
end
theorem ao{pre:Pre}(b:∀ss R,¬ pre ss R){vs:List V}{H:Hp}{Q:VK}{E:XK}(h:EM pre vs H Q E):False:=by
 obtain⟨ss,R,F,A,B,a,_⟩:=h;exact b ss R a
end Fz
namespace L2
section
variable{X:Cx}
theorem xA:Bw X (.builtin "len") (λxs H Q=>∃l f n,xs=[.ref l]/\H l=some (CV X.prog X.w l f n)/\Q (.int n) H):=by
 intro Zj s Z H xs us Q I r h;obtain⟨l,f,n,rfl,e,q⟩:=h;obtain⟨u,rfl,b⟩:=vals1 r;cases b;obtain⟨⟨o,es,ep,t,ho,a,hd,_,_,Fu,d,c,_⟩,_,_⟩:=I.AA l _ e;subst c;refine PySem.call_len_set ho a hd d ?_ ⟨.int _,H,I.tok _,⟨_,rfl⟩,q⟩;have:es.size<4096:=Fu;have h2:(4096:Int)<2 ^ 63:=by decide
 omega
end
end L2
namespace Fz
open L2 Lw
variable{ch pre:List Nat}{n u x:Nat}{Ls:List Lp}
def CT(l o:Lp):Prop:=∀x∈o.cs,x∈l.cs
instance (l o:Lp):Decidable (CT l o):=inferInstanceAs (Decidable (∀x∈o.cs,x∈l.cs))
def Z2:Pre:=λl R=>∃l1 l2:Lp,l=[.is l1.P,.is l2.P]/\l1.cs.length<=40/\l2.cs.length<=40/\R=.is (·=.bl (decide (CT l1 l2)))
def Qk:Pre:=λl R=>∃l1 l2:Lp,l=[.is l1.P,.is l2.P]/\l1.cs.length<=40/\l2.cs.length<=40/\R=.is (·=.bl (decide (CT l2 l1)))
def Xk:Pre:=λl R=>∃l1 l2:Lp,l=[.is l1.P,.is l2.P]/\l1.cs.length<=40/\l2.cs.length<=40/\R=.is (·=.bl (decide (CT l2 l1∨CT l1 l2)))
noncomputable def Dz(p:Int×Int):PV:=.tup [.int p.1,.int p.2]
def XF:Pre:=λl R=>∃(Ls:List Lp)(ps:List (Int×Int)),l=[.is (.lst (Ls.map Lp.P)),.is (.lst (ps.map Dz))]/\(Ls.length<=12/\∀l∈Ls,l.cs.length<=40)/\ps.length=Ls.length/\
 (∀(j k:Nat)a b p q,Ls[j]?=some a->Ls[k]?=some b->ps[j]?=some p->ps[k]?=some q->p.1=q.1->p.2<=q.2->CT a b)/\R=.is (·=.bl true)
noncomputable def Ba(Ls:List Lp)(n u:Nat):Bool:=match Ls[n]?,Ls[u]? with
 |some a,some b=>if a.cs=b.cs then decide (n<u)else decide (CT b a)
 |_,_=>false
def Ml(Ls:List Lp):Prop:=Ls.length<=12/\∀l∈Ls,l.cs.length<=40
def cy:Pre:=λl R=>∃(Ls:List Lp)(n u:Nat),l=[.is (.lst (Ls.map Lp.P)),.is (.int n),.is (.int u)]/\Ml Ls/\n<Ls.length/\u<Ls.length/\R=.is (·=.bl (Ba Ls n u))
def ups(Ls:List Lp)(n:Nat):List Nat:=(List.range Ls.length).filter (Ba Ls n)
def W5:Pre:=λl R=>∃(Ls:List Lp)(n:Nat),l=[.is (.lst (Ls.map Lp.P)),.is (.int n)]/\Ml Ls/\n<Ls.length/\R=.new (·=(ups Ls n).map λu:Nat=>PV.int u)
def Bv:Option Nat->PV
 |none=>.A7
 |some n=>.int n
inductive Dn (lo:List (Option Nat)):Nat->List Nat->Prop
 |one {n:Nat}:lo[n]?=some none->Dn lo n [n]
 |more {n m:Nat}{ch:List Nat}:lo[n]?=some (some m)->Dn lo m ch->Dn lo n (n::ch)
def YJ:Pre:=λl R=>∃(lo:List (Option Nat))(top:Nat)(ch:List Nat),l=[.sq false (lo.map Bv),.is (.int top)]/\lo.length<=12/\Dn lo top ch/\ch.length<=12/\R=.new (·=ch.map λn:Nat=>PV.int n)
theorem XC:BM ((pre++[x]).map λn:Nat=>PV.int n) (-1)=some (.int x):=by
 rw[Cw];exact rB _ _
theorem aw{α:Type}[DecidableEq α]{l m:List α}(nd:l.Nodup)(a:∀k∈l,k∈m)(c:m.length<=l.length):∀k∈m,k∈l:=λx hx=>N9 λb=>by
 have q:=K4 (l:=x::l) (m:=m) (List.nodup_cons.mpr ⟨b,nd⟩) λk hk=>(List.mem_cons.mp hk).elim (λe=>e▸hx) (a k);rw[Am]at q;omega
structure Uq (Ls:List Lp):Prop where
 len:Ls.length<=12
 nd:∀a∈Ls,a.cs.Nodup
 uq:∀a∈Ls,∀b∈Ls,(∀x,x∈a.cs↔x∈b.cs)->a.cs=b.cs
noncomputable def mu(Ls:List Lp)(n:Nat):Nat:=match Ls[n]? with
 |some l=>l.cs.length * 100+n
 |none=>0
theorem Q8{l:Lp}(h:Ls[n]?=some l):mu Ls n=l.cs.length * 100+n:=by unfold mu;rw[h]
theorem GY(h:Ba Ls n u=true):∃a b,Ls[n]?=some a/\Ls[u]?=some b/\((a.cs=b.cs/\n<u)∨(a.cs≠b.cs/\CT b a)):=by
 unfold Ba at h;cases ea:Ls[n]? with
 |none=>rw[ea]at h;cases h
 |some a=>
  cases d:Ls[u]? with
  |none=>rw[ea,d]at h;cases h
  |some b=>
   rw[ea,d]at h;refine⟨a,b,rfl,rfl,?_⟩;dsimp only at h
   by_cases c:a.cs=b.cs
   .rw[eM c]at h;exact .inl ⟨c,iY h⟩
   .rw[eJ c]at h;exact .inr ⟨c,iY h⟩
theorem IT(U:Uq Ls)(h:Ba Ls n u=true):mu Ls n<mu Ls u:=by
 obtain⟨a,b,ea,f,c⟩:=GY h;have i:=(List.getElem?_eq_some_iff.mp ea).1;have j:=U.len;rw[Q8 ea,Q8 f];rcases c with⟨c,A8⟩|⟨c,d⟩
 .rw[c];omega
 .have e:=BL ea;have g:=BL f;have q:=K4 (U.nd a e) d;rcases yg q with q|q
  .omega
  .exact absurd (U.uq a e b g λx=>⟨d x,aw (U.nd a e) d (LM q.symm) x⟩) c
theorem jM{a b c:Nat}(U:Uq Ls)(h:Ba Ls a b=true)(h2:Ba Ls b c=true):Ba Ls a c=true:=by
 have l:=IT U h;have m2:=IT U h2;obtain⟨x,y,ex,n,j⟩:=GY h;obtain⟨o,z,Yk,f,i⟩:=GY h2;rw[n]at Yk;cases Yk;have m:CT z x:=by
  rcases j with⟨e1,_⟩|⟨_,s1⟩ <;> rcases i with⟨g,_⟩|⟨_,s2⟩
  .intro k hk;rw[<- g,<- e1];exact hk
  .intro k hk;exact s2 k (e1▸hk)
  .intro k hk;rw[<- g];exact s1 k hk
  .intro k hk;exact s2 k (s1 k hk)
 have d:mu Ls a<mu Ls c:=Qe l m2;rw[Q8 ex,Q8 f]at d;unfold Ba;rw[ex,f];dsimp only
 by_cases e:x.cs=z.cs
 .rw[eM e];rw[e]at d;exact eV (by omega)
 .rw[eJ e];exact eV m
theorem UU{lo:List (Option Nat)}(U:Uq Ls)(l:lo.length=Ls.length)(h:∀u v,lo[u]?=some (some v)->Ba Ls v u=true):∀(k n:Nat),mu Ls n<=k->n<lo.length->∃ch,Dn lo n ch/\ch.Nodup/\(∀x∈ch,x<lo.length/\mu Ls x<=mu Ls n):=by
 have one:∀n,n<lo.length->lo[n]?=some none->∃ch,Dn lo n ch/\ch.Nodup/\(∀x∈ch,x<lo.length/\mu Ls x<=mu Ls n):=λn c e=>
  ⟨[n],.one e,List.nodup_cons.mpr ⟨BZ,GC⟩,λx hx=>by rw[J9]at hx;subst hx;exact⟨c,AW _⟩⟩
 intro k
 induction k with
 |zero=>
  intro n hk c;have e:=AL c;cases d:lo[n]with
  |none=>rw[d]at e;exact one n c e
  |some v=>
   rw[d]at e;have:=IT U (h n v e);omega
 |succ k j=>
  intro n hk c;have e:=AL c;cases d:lo[n]with
  |none=>rw[d]at e;exact one n c e
  |some v=>
   rw[d]at e;have o:=IT U (h n v e);obtain⟨a,b,ea,p,_⟩:=GY (h n v e);have m:v<lo.length:=l▸(List.getElem?_eq_some_iff.mp ea).1;obtain⟨ch,i,g,f⟩:=j v (by omega) m;refine⟨n::ch,.more e i,List.nodup_cons.mpr ⟨λhx=>?_,g⟩,λx hx=>?_⟩
   .have:=(f n hx).2;omega
   .rcases List.mem_cons.mp hx with rfl|hx
    .exact⟨c,AW _⟩
    .exact⟨(f x hx).1,CC (f x hx).2 (FK o)⟩
theorem wC{lo:List (Option Nat)}(nd:ch.Nodup)(h:∀x∈ch,x<lo.length):ch.length<=lo.length:=by
 have q:=K4 (m:=List.range lo.length) nd λx hx=>List.mem_range.mpr (h x hx)
 rwa [Cd]at q
theorem Dn.uniq{lo:List (Option Nat)}{JV:List Nat}(a:Dn lo n ch)(b:Dn lo n JV):ch=JV:=by
 induction a generalizing JV with
 |one e=>
  cases b with
  |one _=>rfl
  |more c _=>rw[e]at c;cases c
 |more e _ d=>
  cases b with
  |one c=>rw[e]at c;cases c
  |more c f=>rw[e]at c;cases c;rw[d f]
theorem Dn.bQ{lo:List (Option Nat)}(U:Uq Ls)(h:∀u v,lo[u]?=some (some v)->Ba Ls v u=true)(a:Dn lo n ch):ch.Pairwise (λu v=>Ba Ls v u=true)/\∀x∈ch,x=n∨Ba Ls x n=true:=by
 induction a with
 |one e=>exact⟨dr _ _,λx hx=>.inl (List.mem_singleton.mp hx)⟩
 |@more n m ch e _ b=>
  have c:=h _ _ e;have key:∀x∈ch,Ba Ls x n=true:=λx hx=>by
   rcases b.2 x hx with rfl|q
   .exact c
   .exact jM U q c
  refine⟨List.pairwise_cons.mpr ⟨key,b.1⟩,λx hx=>?_⟩;rcases List.mem_cons.mp hx with rfl|hx
  .exact .inl rfl
  .exact .inr (key x hx)
end Fz
namespace Kz
variable{ab:Nat->List Nat}{n t:Nat}{A T ch tr:List Nat}{Ls:List Lp}
def Cl(ab:Nat->List Nat)(lo:Lo)(T:List Nat):Prop:=∀z∈T,∃w,lo[z]?=some (some w)/\∀u∈ab w,u∈T
theorem vg{lo:Lo}{v:Nat}(BX:∀v u,u∈ab v->u<lo.length)(s:D3 ab v lo)(nd:tr.Nodup)(lt:∀z∈tr,z<lo.length)(l:lo.length<n+tr.length)(cl:Cl ab lo tr):
  ∃BP,fu ab n v lo tr=(false,lo,BP)/\BP.Nodup/\(∀z∈BP,z<lo.length)/\(∀z∈tr,z∈BP)/\(∀u∈ab v,u∈BP)/\Cl ab lo BP:=by
 have q:=Kk BX n v tr nd lt l;obtain⟨σ,m,o⟩:=s;cases e:fu ab n v lo tr with
 |mk b x=>
  obtain⟨B7,BP⟩:=x;rw[e]at q;cases b with
  |true=>
   obtain⟨p,k,_⟩:=q;exact absurd k (D3.no o m)
  |false=>
   obtain⟨rfl,a,g,f,_,d,c⟩:=q;refine⟨BP,rfl,g,f,a,d,λz i=>?_⟩;rcases c z i with h|h
   .obtain⟨w,e,h⟩:=cl z h;exact⟨w,e,λu j=>a u (h u j)⟩
   .exact h
noncomputable def gp(ab:Nat->List Nat)(m n:Nat):Nat->Lo
 | 0=>List.replicate m none
 |k+1=>(fu ab n k (gp ab m n k) []).2.1
theorem Uk{ab:Nat->List Nat}{m n:Nat}(BX:∀v u,u∈ab v->u<m)(a:m<n):∀k,(gp ab m n k).length=m/\(lows (gp ab m n k)).Nodup/\KZ ab (gp ab m n k)/\(∀w∈lows (gp ab m n k),w<k)/\∀w,w<k->w∈lows (gp ab m n k)∨D3 ab w (gp ab m n k)
 | 0=>by
  have e:∀m,lows (List.replicate m none)=[]:=λm=>by
   induction m with
   |zero=>rfl
   |succ m o=>rw[yX];exact o
  refine⟨de,by show(lows (List.replicate m none)).Nodup;rw[e];exact .nil,λu w h=>?_,λw h=>?_,λw h=>absurd h (Nat.not_lt_zero w)⟩
  .have:=Ey.mpr ⟨u,h⟩;rw[show lows (gp ab m n 0)=[]from e m]at this;cases this
  .rw[show lows (gp ab m n 0)=[]from e m]at h;cases h
 |k+1=>by
  obtain⟨h1,h2,q,c,p⟩:=Uk BX a k;obtain⟨b,B7,BP,e,l,j,i,g,f,d⟩:=step (v:=k) (λv u h=>by rw[h1];exact BX v u h) (by rw[h1];exact a) h2 q λh=>LN _ (c k h);have el:gp ab m n (k+1)=B7:=by show(fu ab n k (gp ab m n k) []).2.1=B7;rw[e]
  rw[el];refine⟨l.trans h1,j,i,λw hw=>?_,λw hw=>?_⟩
  .rcases f w hw with rfl|h
   .exact Gp _
   .exact Dw (c w h)
  .rcases yg (NI hw)with h|rfl
   .exact d w (p w h)
   .exact g
noncomputable def tryAll(ab:Nat->List Nat)(n:Nat)(lo:Lo):List Nat->List Nat->List Nat
 | [],tr=>tr
 |t::ts,tr=>tryAll ab n lo ts (fu ab n t lo tr).2.2
theorem bf{ab:Nat->List Nat}{lo:Lo}{n:Nat}(BX:∀v u,u∈ab v->u<lo.length)(d:lo.length<n):∀(a tr:List Nat),(∀t∈a,D3 ab t lo)->tr.Nodup->(∀z∈tr,z<lo.length)->Cl ab lo tr->
  (tryAll ab n lo a tr).Nodup/\(∀z∈tr,z∈tryAll ab n lo a tr)/\Cl ab lo (tryAll ab n lo a tr)/\∀t∈a,∀u∈ab t,u∈tryAll ab n lo a tr
 | [],tr,_,nd,_,cl=>⟨nd,λ_ h=>h,cl,λ_ h=>by cases h⟩
 |t::a,tr,s,nd,lt,cl=>by
  obtain⟨BP,e,h1,h2,i,g,f⟩:=vg (n:=n) BX (s t Ae) nd lt (by omega) cl;have q:=bf BX d a BP (λx hx=>s x (Au _ hx)) h1 h2 f;have el:tryAll ab n lo (t::a) tr=tryAll ab n lo a BP:=by show tryAll ab n lo a (fu ab n t lo tr).2.2=_;rw[e]
  rw[el];refine⟨q.1,λz c=>q.2.1 z (i z c),q.2.2.1,λx hx u b=>?_⟩;rcases List.mem_cons.mp hx with rfl|hx
  .exact q.2.1 u (g u b)
  .exact q.2.2.2 x hx u b
open Fz in
theorem Y8{lo:Lo}(cl:Cl ab lo T)(d:Dn lo n ch):(∀u∈ab n,u∈T)->∃x r,(ch.filter λy=>decide (y∉T))=x::r/\x∈ch/\x∉T/\∀u∈ab x,u∈T:=by
 induction d with
 |@one n e=>
  intro h;have a:n∉T:=λz=>by
   obtain⟨w,b,_⟩:=cl n z;rw[e]at b;cases b
  exact⟨n,[],by simp[a],Ae,a,h⟩
 |@more n m ch e _ c=>
  intro h
  by_cases a:n∈T
  .obtain⟨w,b,hw⟩:=cl n a;rw[e]at b;cases b;obtain⟨x,r,h1,h2,g,f⟩:=c hw;exact⟨x,r,by rw[QU (by simp[a]),h1],Au _ h2,g,f⟩
  .exact⟨n,ch.filter λy=>decide (y∉T),by rw[QV (by simp[a])],Ae,a,h⟩
open Fz
theorem sF{B:List Nat}(R:Nat->Nat->Prop)(d:∀a∈A,∃b,b∈B/\R a b)(inj:∀a∈A,∀j∈A,∀b,R a b->R j b->a=j)(nd:A.Nodup):A.length<=B.length:=by
 obtain⟨f,g⟩:∃f:Nat->Nat,∀a∈A,f a∈B/\R a (f a):=by
  have k:∀a,Decidable (∃b,b∈B/\R a b):=λ_=>Classical.propDecidable _;exact⟨λa=>if h:∃b,b∈B/\R a b then Classical.choose h else 0,λa c=>by
   dsimp only;rw[dif_pos (d a c)];exact Va (d a c)⟩
 have nm:(A.map f).Nodup:=by
  unfold List.Nodup at nd ⊢;rw[NH];refine dW (λ{a b}c i AJ e=>AJ (inj a c b i (f a) (g a c).2 (e▸(g b i).2))) nd
 have q:=GJ (l2:=B) nm λx hx=>by
  obtain⟨a,c,rfl⟩:=List.mem_map.mp hx;exact(g a c).1
 rwa [AB]at q
theorem VJ{lo:Lo}(d:Dn lo n ch):n∈ch:=by cases d <;> exact Ae
theorem Md{lo:Lo}(d:Dn lo n ch):∀x∈ch,x=n∨∃u∈ch,lo[u]?=some (some x):=by
 induction d with
 |one _=>intro x hx;exact .inl (List.mem_singleton.mp hx)
 |@more n m ch e d a=>
  intro x hx;rcases List.mem_cons.mp hx with rfl|hx
  .exact .inl rfl
  .rcases a x hx with rfl|⟨u,hu,e2⟩
   .exact .inr ⟨n,Ae,e⟩
   .exact .inr ⟨u,Au _ hu,e2⟩
theorem fi{lo:Lo}(d:Dn lo n ch):∀u∈ch,∀x,lo[u]?=some (some x)->x∈ch:=by
 induction d with
 |one e=>
  intro u b x a;rw[List.mem_singleton.mp b,e]at a;cases a
 |@more n m ch e d c=>
  intro u b x a;rcases List.mem_cons.mp b with rfl|b
  .rw[e]at a;cases a;exact Au _ (VJ d)
  .exact Au _ (c u b x a)
structure Pg (Ls:List Lp) (lo:Lo):Prop where
 uq:Uq Ls
 len:lo.length=Ls.length
 fit:∀u v,lo[u]?=some (some v)->Ba Ls v u=true
 nd:(lows lo).Nodup
 bd:∀l∈Ls,l.cs.length<=40
theorem Q6{lo:Lo}(G:Pg Ls lo)(n:Nat):mu Ls n<=5000:=by
 unfold mu;cases e:Ls[n]? with
 |none=>exact BN _
 |some l=>
  have h1:=G.bd l (BL e);have h2:=(List.getElem?_eq_some_iff.mp e).1;have a:=G.uq.len;show l.cs.length * 100+n<=5000;omega
theorem WL{lo:Lo}(G:Pg Ls lo):∀(k n:Nat),5000 - mu Ls n<=k->n<lo.length->∃t,t<lo.length/\t∉lows lo/\∃ch,Dn lo t ch/\n∈ch:=by
 have top:∀n,n<lo.length->n∉lows lo->∃t,t<lo.length/\t∉lows lo/\∃ch,Dn lo t ch/\n∈ch:=λn a h=>by
  obtain⟨ch,d,_⟩:=UU G.uq G.len G.fit _ n (AW _) a;exact⟨n,a,h,ch,d,VJ d⟩
 intro k
 induction k with
 |zero=>
  intro n hk a;refine top n a λh=>?_;obtain⟨u,e⟩:=Ey.mp h;have:=IT G.uq (G.fit u n e);have:=Q6 G u;omega
 |succ k f=>
  intro n hk a
  by_cases h:n∈lows lo
  .obtain⟨u,e⟩:=Ey.mp h;have h1:=IT G.uq (G.fit u n e);have h2:=Q6 G u;obtain⟨t,c,b,ch,d,g⟩:=f u (by omega) (List.getElem?_eq_some_iff.mp e).1;exact⟨t,c,b,ch,d,fi d u g n e⟩
  .exact top n a h
theorem Xf{lo:Lo}(G:Pg Ls lo){t':Nat}{JV:List Nat}(c:t∉lows lo)(a:t'∉lows lo)(d:Dn lo t ch)(d':Dn lo t' JV):∀(k n:Nat),5000 - mu Ls n<=k->n∈ch->n∈JV->t=t':=by
 have no:∀{t n:Nat},t∉lows lo->(∃u∈ch,lo[u]?=some (some t))->False:=λh⟨u,_,e⟩=>h (Ey.mpr ⟨u,e⟩);intro k
 induction k with
 |zero=>
  intro n hk h h';have top:n∉lows lo:=λh=>by
   obtain⟨u,e⟩:=Ey.mp h;have:=IT G.uq (G.fit u n e);have:=Q6 G u;omega
  rcases Md d n h with e|⟨u,_,e⟩
  .rcases Md d' n h' with e'|⟨u,_,e'⟩
   .exact e.symm.trans e'
   .exact absurd (Ey.mpr ⟨u,e'⟩) top
  .exact absurd (Ey.mpr ⟨u,e⟩) top
 |succ k b=>
  intro n hk h h';rcases Md d n h with e|⟨u,hu,e⟩
  .rcases Md d' n h' with e'|⟨u,_,e'⟩
   .exact e.symm.trans e'
   .exact absurd (Ey.mpr ⟨u,e▸e'⟩) c
  .rcases Md d' n h' with e'|⟨u',Gu,e'⟩
   .exact absurd (Ey.mpr ⟨u,e'▸e⟩) a
   .have f:=WA G.nd e e';subst f;have h1:=IT G.uq (G.fit u n e);have h2:=Q6 G u;exact b u (by omega) hu Gu
def B6(lo:Lo):List Nat:=(List.range lo.length).filter λn=>decide (n∉lows lo)
theorem DN{lo:Lo}:t∈B6 lo↔t<lo.length/\t∉lows lo:=by unfold B6;simp[Qa,Qb]
theorem qe{lo:Lo}(G:Pg Ls lo)(nd:A.Nodup)(lt:∀a∈A,a<lo.length)(ap:∀a∈A,∀b∈A,a≠b->¬ Ba Ls a b=true):A.length<=(B6 lo).length:=by
 refine sF (λa t=>t∉lows lo/\∃ch,Dn lo t ch/\a∈ch) (λa c=>?_) (λa c b e t h h'=>?_) nd
 .obtain⟨t,h1,h2,k⟩:=WL G _ a (AW _) (lt a c);exact⟨t,DN.mpr ⟨h1,h2⟩,h2,k⟩
 .obtain⟨_,ch,d,i⟩:=h;obtain⟨_,JV,d',g⟩:=h';have m:=Dn.uniq d d';subst m;refine N9 λAJ=>?_;obtain⟨f,_⟩:=Dn.bQ G.uq G.fit d;have key:∀(l:List Nat),l.Pairwise (λu v=>Ba Ls v u=true)->a∈l->b∈l->Ba Ls a b=true∨Ba Ls b a=true:=λl=>by
   induction l with
   |nil=>intro _ h;cases h
   |cons x r j=>
    intro p h1 h2;obtain⟨p1,p2⟩:=List.pairwise_cons.mp p;rcases List.mem_cons.mp h1 with rfl|m1 <;> rcases List.mem_cons.mp h2 with rfl|m2
    .exact absurd rfl AJ
    .exact .inr (p1 _ m2)
    .exact .inl (p1 _ m1)
    .exact j p2 m1 m2
  rcases key ch f i g with h|h
  .exact ap a c b e AJ h
  .exact ap b e a c (BG AJ) h
theorem Pr{u:Nat}:u∈ups Ls n↔u<Ls.length/\Ba Ls n u=true:=by unfold ups;simp[Qa,Qb]
theorem oo(U:Uq Ls)(bd:∀l∈Ls,l.cs.length<=40)(d:Ls.length<n):Pg Ls (gp (ups Ls) Ls.length n Ls.length)/\∀t∈B6 (gp (ups Ls) Ls.length n Ls.length),D3 (ups Ls) t (gp (ups Ls) Ls.length n Ls.length):=by
 obtain⟨h1,h2,g,i,f⟩:=Uk (ab:=ups Ls) (m:=Ls.length) (n:=n) (λv u h=>(Pr.mp h).1) d Ls.length;refine⟨⟨U,h1,λu v e=>(Pr.mp (g u v e)).2,h2,bd⟩,λt c=>?_⟩;obtain⟨b,a⟩:=DN.mp c;exact(f t (h1▸b)).resolve_left a
theorem p7{lo:Lo}(G:Pg Ls lo)(cl:Cl (ups Ls) lo T)(l:∀t∈B6 lo,∀u∈ups Ls t,u∈T)(f:Nat->Nat)(c:Nat->List Nat)(j:∀t∈B6 lo,Dn lo t (c t))(m:∀t∈B6 lo,∃r,((c t).filter λy=>decide (y∉T))=f t::r):
  ((B6 lo).map f).Nodup/\(∀a∈(B6 lo).map f,a<lo.length)/\∀a∈(B6 lo).map f,∀b∈(B6 lo).map f,¬ Ba Ls a b=true:=by
 have one:∀t∈B6 lo,f t∈c t/\f t∉T/\(∀u∈ups Ls (f t),u∈T)/\f t<lo.length:=λt h=>by
  obtain⟨x,r,e,h1,h2,n⟩:=Y8 cl (j t h) (l t h);obtain⟨o,k⟩:=m t h;rw[e]at k;injection k with k _
  subst k;obtain⟨ch,d,_,q⟩:=UU G.uq G.len G.fit _ t (AW _) (DN.mp h).1;have:=Dn.uniq d (j t h);subst this;exact⟨h1,h2,n,(q _ h1).1⟩
 refine⟨?_,λa g=>?_,λa g b i BX=>?_⟩
 .have nd:(B6 lo).Nodup:=y8 _ dk;unfold List.Nodup at nd ⊢;rw[NH];refine dW (λ{a b}g i AJ e=>AJ ?_) nd;exact Xf G (DN.mp g).2 (DN.mp i).2 (j a g) (j b i) _ (f a) (AW _) (one a g).1 (e▸(one b i).1)
 .obtain⟨t,h,rfl⟩:=List.mem_map.mp g;exact(one t h).2.2.2
 .obtain⟨t,h,rfl⟩:=List.mem_map.mp g;obtain⟨t',h',rfl⟩:=List.mem_map.mp i;exact(one t' h').2.1 ((one t h).2.2.1 _ (Pr.mpr ⟨G.len▸(one t' h').2.2.2,BX⟩))
theorem ck{x y:Nat}{a b:Lp}(AJ:x≠y)(e:Ls[x]?=some a)(d:Ls[y]?=some b):(CT a b∨CT b a)↔(Ba Ls x y=true∨Ba Ls y x=true):=by
 have e1:Ba Ls x y=if a.cs=b.cs then decide (x<y)else decide (CT b a):=by unfold Ba;rw[e,d]
 have f:Ba Ls y x=if b.cs=a.cs then decide (y<x)else decide (CT a b):=by unfold Ba;rw[d,e]
 rw[e1,f]
 by_cases c:a.cs=b.cs
 .rw[eM c,eM c.symm];refine⟨λ_=>?_,λ_=>.inl λk hk=>c▸hk⟩;rcases Nat.lt_or_gt_of_ne AJ with h|h
  .exact .inl (eV h)
  .exact .inr (eV h)
 .rw[eJ c,eJ (BG c)];rw[eW,eW];exact⟨Or.symm,Or.symm⟩
end Kz
namespace Fz
open L2 Lw
variable{l ss:List Slot}{te:TE}{nx:List Slot->Prop}{R:Ac}{F H:Hp}{v1 v2 vp:V}{t1 t2:OV}{b c d l1 l2:Bool}{vs:List V}{E:Ent0}{Z:L2.St}{A:List Addr}{a:Addr}{i j n:Nat}{s:Slot}{k1 k2:NK}{DM Eo:List OV}{kk:PV->OV->OV->Prop}
section
variable[Xw]
variable{K:zu}{k:PV->Prop}
theorem mT{t':TS}{l:Addr}{xs:List PV}(i:Nat)(hi:ss[i]?=some (.ow false (.nd .lst l (xs.map .fz))))(h:Ws (ss.set i (.own xs)) t' nx R):Ws ss t' nx R:=⟨λE D Z F H S n m=>by
 obtain⟨v,e,r,_,f⟩:=S.ok i _ hi;obtain⟨vs,rfl,q,w,x,d⟩:=r.inv;have a:=f l (by rw[O3];simp);have c:=S.setG (j:=i) (s:=.own xs) (v:=.ref l) ⟨l,vs,rfl,a.1,a.2.elim id (λz=>by cases z.1),q,bZ d⟩ λb p j u o k g=>by
  have t:l=b:=by have z:some (some (V.ref l))=some (some (V.ref b)):=p;injection z with z;injection z with z;injection z
  subst t;exact S.Bd j i u _ l o k hi g (by show l∈OV.addrs _;rw[O3];simp)
 rw[L4 e]at c;exact h.go E D Z F H c n m⟩
end
inductive E7 (F:Hp) (vp v1 v2:V) (t1 t2:OV):Bool->Bool->Bool->List V->List Slot->Prop where
 |nil:E7 F vp v1 v2 t1 t2 false false false [] []
 |is {b c d:Bool}{v:V}{p:PV}{vs:List V}{l:List Slot}:Rep F v p->E7 F vp v1 v2 t1 t2 b c d vs l->E7 F vp v1 v2 t1 t2 b c d (v::vs) (.is p::l)
 |AH {c d:Bool}{vs:List V}{l:List Slot}:E7 F vp v1 v2 t1 t2 false c d vs l->E7 F vp v1 v2 t1 t2 true c d (vp::vs) (.AH::l)
 |one {b d:Bool}{vs:List V}{l:List Slot}:E7 F vp v1 v2 t1 t2 b false d vs l->E7 F vp v1 v2 t1 t2 b true d (v1::vs) (.ow true t1::l)
 |two {b c:Bool}{vs:List V}{l:List Slot}:E7 F vp v1 v2 t1 t2 b c false vs l->E7 F vp v1 v2 t1 t2 b c true (v2::vs) (.ow true t2::l)
section
variable{F':Hp}
theorem E7.len(h:E7 F vp v1 v2 t1 t2 b c d vs l):l.length=vs.length:=by
 induction h with
 |nil=>rfl
 |is _ _ a=>rw[Am,Am,a]
 |AH _ a=>rw[Am,Am,a]
 |one _ a=>rw[Am,Am,a]
 |two _ a=>rw[Am,Am,a]
theorem E7.at(h:E7 F vp v1 v2 t1 t2 b c d vs l):∃(n0 j i:Nat),∀(n:Nat)(s:Slot),l[n]?=some s->
  (∃v p,vs[n]?=some v/\s=.is p/\Rep F v p)∨(b=true/\n=n0/\s=.AH/\vs[n]?=some vp)∨(c=true/\n=j/\s=.ow true t1/\vs[n]?=some v1)∨(d=true/\n=i/\s=.ow true t2/\vs[n]?=some v2):=by
 induction h with
 |nil=>exact⟨0,0,0,λn s h=>by simp at h⟩
 |is r _ g=>
  obtain⟨n0,j,i,g⟩:=g;refine⟨n0+1,j+1,i+1,λn s h=>?_⟩;cases n with
  |zero=>simp at h;subst h;exact .inl ⟨_,_,rfl,rfl,r⟩
  |succ n=>
   rcases g n s (by simpa using h)with⟨v,p,q⟩|⟨a,q,f,e⟩|⟨a,q,f,e⟩|⟨a,q,f,e⟩
   .exact .inl ⟨v,p,by simpa using q⟩
   .exact .inr (.inl ⟨a,by rw[q],f,by simpa using e⟩)
   .exact .inr (.inr (.inl ⟨a,by rw[q],f,by simpa using e⟩))
   .exact .inr (.inr (.inr ⟨a,by rw[q],f,by simpa using e⟩))
 |AH _ g=>
  obtain⟨n0,j,i,g⟩:=g;refine⟨0,j+1,i+1,λn s h=>?_⟩;cases n with
  |zero=>simp at h;subst h;exact .inr (.inl ⟨rfl,rfl,rfl,rfl⟩)
  |succ n=>
   rcases g n s (by simpa using h)with⟨v,p,q⟩|⟨a,q,f,e⟩|⟨a,q,f,e⟩|⟨a,q,f,e⟩
   .exact .inl ⟨v,p,by simpa using q⟩
   .cases a
   .exact .inr (.inr (.inl ⟨a,by rw[q],f,by simpa using e⟩))
   .exact .inr (.inr (.inr ⟨a,by rw[q],f,by simpa using e⟩))
 |one _ g=>
  obtain⟨n0,j,i,g⟩:=g;refine⟨n0+1,0,i+1,λn s h=>?_⟩;cases n with
  |zero=>simp at h;subst h;exact .inr (.inr (.inl ⟨rfl,rfl,rfl,rfl⟩))
  |succ n=>
   rcases g n s (by simpa using h)with⟨v,p,q⟩|⟨a,q,f,e⟩|⟨a,q,f,e⟩|⟨a,q,f,e⟩
   .exact .inl ⟨v,p,by simpa using q⟩
   .exact .inr (.inl ⟨a,by rw[q],f,by simpa using e⟩)
   .cases a
   .exact .inr (.inr (.inr ⟨a,by rw[q],f,by simpa using e⟩))
 |two _ g=>
  obtain⟨n0,j,i,g⟩:=g;refine⟨n0+1,j+1,0,λn s h=>?_⟩;cases n with
  |zero=>simp at h;subst h;exact .inr (.inr (.inr ⟨rfl,rfl,rfl,rfl⟩))
  |succ n=>
   rcases g n s (by simpa using h)with⟨v,p,q⟩|⟨a,q,f,e⟩|⟨a,q,f,e⟩|⟨a,q,f,e⟩
   .exact .inl ⟨v,p,by simpa using q⟩
   .exact .inr (.inl ⟨a,by rw[q],f,by simpa using e⟩)
   .exact .inr (.inr (.inl ⟨a,by rw[q],f,by simpa using e⟩))
   .cases a
variable{H':Hp}
def KP(ss:List Slot)(Z:L2.St)(b:Bool)(vp:V)(A:List Addr):Prop:=(b=false/\A=[])∨∃(q:Nat)(lp:Addr),b=true/\A=[lp]/\vp=.ref lp/\ss[q]?=some .AH/\Z[q]?=some (some (.ref lp))
theorem KP.own(h:KP ss Z b vp A)(c:a∈A):∃q:Nat,ss[q]?=some .AH/\Z[q]?=some (some (.ref a)):=by
 rcases h with⟨_,rfl⟩|⟨q,lp,_,rfl,_,h1,h2⟩
 .cases c
 .rw[List.mem_singleton.mp c];exact⟨q,h1,h2⟩
theorem Sg.call2(S:Sg E ss Z F H)(y:KP ss Z b vp A)(G:Ai F H v1 t1)(D:Ai F H v2 t2)(nd:(t1.addrs++t2.addrs).Nodup)
  (w:∀a∈t1.addrs++t2.addrs,F a=none) (k:∀a∈t1.addrs++t2.addrs,a∉A)(a:E7 F vp v1 v2 t1 t2 b c d vs l):Sg ⟨A,F,H,t1.addrs++t2.addrs⟩ l (vs.map some) F H:=by
 obtain⟨n0,K,J,m⟩:=a.at;have th:∀x∈t1.addrs++t2.addrs,H x≠none:=λx hx=>by
  rcases List.mem_append.mp hx with h|h
  .exact G.there x h
  .exact D.there x h
 have pt:∀x∈A,BU H x/\F x=none:=λx hx=>by
  obtain⟨q,h1,h2⟩:=y.own hx;obtain⟨l,e,I,_,p⟩:=S.ok q _ h1;rw[h2]at e;cases e;exact⟨p,I⟩
 have t:=List.nodup_append.mp nd;refine⟨⟨S.fh,AF.refl _,λ_ _ _ e=>e,λ_ _ e=>.inl e,λx h=>(pt x h).1,λx h=>(pt x h).2,λx h=>by obtain⟨_,_,e,_⟩:=(pt x h).1;show H x≠none;rw[e];simp,w,th,λx h=>⟨th x h,k x h⟩⟩,by rw[AB];exact a.len,λn s B=>?_,λn j s u x MQ B C ms mu=>?_⟩
 .rcases m n s B with⟨v,p,f,rfl,r⟩|⟨g,_,rfl,f⟩|⟨_,_,rfl,f⟩|⟨_,_,rfl,f⟩
  .rw[AM,f];exact⟨v,rfl,r⟩
  .rw[AM,f];rcases y with⟨h,_⟩|⟨q,lp,_,rfl,rfl,h1,h2⟩
   .rw[h]at g;cases g
   .exact⟨lp,rfl,(pt lp (by simp)).2,.inr (by simp),(pt lp (by simp)).1⟩
  .rw[AM,f];exact⟨v1,rfl,G,t.1,λx hx=>⟨w x (by simp[hx]),.inr ⟨rfl,by simp[hx]⟩⟩⟩
  .rw[AM,f];exact⟨v2,rfl,D,t.2.1,λx hx=>⟨w x (by simp[hx]),.inr ⟨rfl,by simp[hx]⟩⟩⟩
 .have o:∀{n:Nat},b=true->vs[n]?=some vp->BK .AH ((vs.map some)[n]?) x->x∈A:=λ{n}g f ho=>by
   rcases y with⟨h,_⟩|⟨q,lp,_,rfl,rfl,h1,h2⟩
   .rw[h]at g;cases g
   .rw[AM,f]at ho;have z:some (some (V.ref lp))=some (some (V.ref x)):=ho;injection z with z;injection z with z;injection z with z
    rw[z];simp
  rcases m n s B with⟨v,p,f,rfl,r⟩|⟨g,e1,rfl,f⟩|⟨_,e1,rfl,f⟩|⟨_,e1,rfl,f⟩
  .cases ms
  .rcases m j u C with⟨_,_,_,rfl,_⟩|⟨_,i,rfl,_⟩|⟨_,i,rfl,_⟩|⟨_,i,rfl,_⟩
   .cases mu
   .exact MQ (e1.trans i.symm)
   .exact k x (D6 _ mu) (o g f ms)
   .exact k x (Bo _ mu) (o g f ms)
  .rcases m j u C with⟨_,_,_,rfl,_⟩|⟨g,i,rfl,RT⟩|⟨_,i,rfl,_⟩|⟨_,i,rfl,_⟩
   .cases mu
   .exact k x (D6 _ ms) (o g RT mu)
   .exact MQ (e1.trans i.symm)
   .exact t.2.2 x ms x mu rfl
  .rcases m j u C with⟨_,_,_,rfl,_⟩|⟨g,i,rfl,RT⟩|⟨_,i,rfl,_⟩|⟨_,i,rfl,_⟩
   .cases mu
   .exact k x (Bo _ ms) (o g RT mu)
   .exact t.2.2 x mu x ms rfl
   .exact MQ (e1.trans i.symm)
theorem Sg.Za{lt:Bool}{I G:OV}(S:Sg E ss Z F H)(T:KP ss Z b vp A)(CG:i≠j)(hi:ss[i]?=some (.ow lt t1))(X:ss[j]?=some (.ow lt t2))
  (e1:Z[i]?=some (some v1)) (e2:Z[j]?=some (some v2)) (f:Fin ⟨A,F,H,t1.addrs++t2.addrs⟩ F' H') (r1:Ai F' H' v1 I) (r2:Ai F' H' v2 G) (nd:(I.addrs++G.addrs).Nodup)
  (q:∀a∈I.addrs++G.addrs,F' a=none/\(H a=none∨a∈t1.addrs++t2.addrs)) :
  Sg E ((ss.set i (.ow lt I)).set j (.ow lt G)) Z F' H'/\(∀a o,CH ss Z a->a∉t1.addrs++t2.addrs->H a=some o->H' a=some o):=by
 obtain⟨w1,x1,_,_,R⟩:=S.ok i _ hi;obtain⟨w2,x2,_,_,Q⟩:=S.ok j _ X;have IY:i<ss.length:=(List.getElem?_eq_some_iff.mp hi).1;have tN:j<ss.length:=(List.getElem?_eq_some_iff.mp X).1;have P:∀a∈t1.addrs++t2.addrs,F a=none/\(E.H0 a=none∨a∈E.B):=λa g=>by
  rcases List.mem_append.mp g with h|h
  .exact⟨(R a h).1,(R a h).2.imp id λz=>z.2⟩
  .exact⟨(Q a h).1,(Q a h).2.imp id λz=>z.2⟩
 have kp:∀a o,a∉A->a∉t1.addrs++t2.addrs->H a=some o->H' a=some o:=λa o L K e=>f.keep a o ⟨L,K⟩ e;have Be:∀a,H a≠none->F a=none->F' a=none:=λa h1 h2=>by
  cases e:F' a with
  |none=>rfl
  |some o=>
   rcases f.fresh a o e with z|z
   .rw[show F a=some o from z]at h2;cases h2
   .exact absurd z h1
 have mL:∀a∈A,E.H0 a=none∨a∈E.A:=λa g=>by
  obtain⟨n,h1,h2⟩:=T.own g;obtain⟨l,e,_,W,_⟩:=S.ok n _ h1;rw[h2]at e;cases e;exact W
 have Uu:∀a,a∈E.A->a∉t1.addrs++t2.addrs:=λa k t=>by
  rcases(P a t).2 with z|z
  .exact S.a0 a k z
  .exact(S.b0 a z).2 k
 have d:∀(n:Nat)s,n≠i->n≠j->ss[n]?=some s->∀a,BK s Z[n]? a->a∉t1.addrs++t2.addrs:=λn s h1 h2 w a ho t=>by
  rcases List.mem_append.mp t with h|h
  .exact S.Bd n i s _ a h1 w hi ho h
  .exact S.Bd n j s _ a h2 w X ho h
 have K9:∀(n:Nat)s,s≠.AH->ss[n]?=some s->∀a,BK s Z[n]? a->a∉A:=λn s np w a ho t=>by
  obtain⟨m,h1,h2⟩:=T.own t
  by_cases c:n=m
  .subst c;rw[w]at h1;exact np (BB h1)
  .exact S.Bd n m s _ a c w h1 ho h2
 have DX:∀a,BU H a->a∉t1.addrs++t2.addrs->BU H' a:=λa p n=>by
  by_cases c:a∈A
  .exact f.DX a c
  .exact BU.keep p λo e=>kp a o c n e
 have at_:∀(n:Nat)s,((ss.set i (.ow lt I)).set j (.ow lt G))[n]?=some s->(n=j/\s=.ow lt G)∨(n=i/\s=.ow lt I)∨(n≠i/\n≠j/\ss[n]?=some s):=λn s C=>by
  by_cases c:n=j
  .subst c;rw[Cp (by rw[Gm];exact tN)]at C;exact .inl ⟨rfl,(BB C).symm⟩
  .rw[CJ (BG c)]at C
   by_cases D:n=i
   .subst D;rw[Cp IY]at C;exact .inr (.inl ⟨rfl,(BB C).symm⟩)
   .rw[CJ (BG D)]at C;exact .inr (.inr ⟨D,c,C⟩)
 have qn:∀a∈I.addrs++G.addrs,E.H0 a=none∨a∈E.B:=λa g=>by
  rcases(q a g).2 with z|z
  .exact .inl (S.Dl z)
  .exact(P a z).2
 have O:=List.nodup_append.mp nd;have U:∀a,a∈E.B->a∈I.addrs++G.addrs->lt=true:=λa J g=>by
  rcases(q a g).2 with z|z
  .exact absurd (S.Dl z) (S.b0 a J).1
  .rcases List.mem_append.mp z with h|h
   .exact((R a h).2.resolve_left (S.b0 a J).1).1
   .exact((Q a h).2.resolve_left (S.b0 a J).1).1
 have σ:∀{u:OV}{v:V}{n:Nat},Z[n]?=some (some v)->Ai F' H' v u->u.addrs.Nodup->(∀a∈u.addrs,a∈I.addrs++G.addrs)->Ok E F' H' (.ow lt u) Z[n]?:=λ{u v n}e r Dh w=>by
  refine⟨v,e,r,Dh,λa g=>⟨(q a (w a g)).1,?_⟩⟩;rcases qn a (w a g)with z|z
  .exact .inl z
  .exact .inr ⟨U a z (w a g),z⟩
 refine⟨⟨⟨f.fh,S.f0.trans f.f0,λa o k e=>?_,λa o e=>?_,λa k=>?_,λa k=>?_,S.a0,λa J=>?_,λa J=>?_,S.b0⟩,by rw[Gm,Gm];exact S.len,λn s C=>?_,λn m s u x VB C t ms mu=>?_⟩,λa o np nb e=>?_⟩
 .refine kp a o (λz=>?_) (λz=>?_) (S.keep a o k e)
  .rcases mL a z with y|y
   .rw[e]at y;cases y
   .exact k.1 y
  .rcases(P a z).2 with y|y
   .rw[e]at y;cases y
   .exact k.2 y
 .rcases f.fresh a o e with z|z
  .exact S.fresh a o z
  .exact .inr (S.Dl z)
 .exact DX a (S.DX a k) (Uu a k)
 .obtain⟨_,_,e1,_⟩:=S.DX a k;exact Be a (by rw[e1];simp) (S.Kh a k)
 .exact Be a (S.bH a J) (S.bF a J)
 .by_cases t:a∈t1.addrs++t2.addrs
  .exact f.bH a t
  .by_cases k:a∈A
   .obtain⟨_,_,e1,_⟩:=f.DX a k;rw[e1];simp
   .intro z;cases e:H a with
    |none=>exact S.bH a J e
    |some o=>rw[kp a o k t e]at z;cases z
 .rcases at_ n s C with⟨rfl,rfl⟩|⟨rfl,rfl⟩|⟨L,K,h⟩
  .exact σ e2 r2 O.2.1 λa g=>Bo _ g
  .exact σ e1 r1 O.1 λa g=>D6 _ g
  .by_cases np:s=.AH
   .subst np;obtain⟨l,e,fl,W,pt⟩:=S.ok n _ h;obtain⟨_,_,e3,_⟩:=id pt;exact⟨l,e,Be l (by rw[e3];simp) fl,W,DX l pt (d n _ L K h l e)⟩
   .exact Ok.go S h f.f0 (λa o ho e=>kp a o (K9 n s np h a ho) (d n s L K h a ho) e) Be np
 .have N:∀(n:Nat)s,n≠i->n≠j->ss[n]?=some s->BK s Z[n]? x->x∉I.addrs++G.addrs:=λn s h1 h2 w ho t=>by
   rcases(q x t).2 with z|z
   .exact S.Fj w ho z
   .exact d n s h1 h2 w x ho z
  rcases at_ n s C with⟨Y,rfl⟩|⟨Y,rfl⟩|⟨L,K,h⟩
  .rcases at_ m u t with⟨D,rfl⟩|⟨D,rfl⟩|⟨M,m2,h'⟩
   .exact VB (Y.trans D.symm)
   .exact O.2.2 x mu x ms rfl
   .exact N m u M m2 h' mu (Bo _ ms)
  .rcases at_ m u t with⟨D,rfl⟩|⟨D,rfl⟩|⟨M,m2,h'⟩
   .exact O.2.2 x ms x mu rfl
   .exact VB (Y.trans D.symm)
   .exact N m u M m2 h' mu (D6 _ ms)
  .rcases at_ m u t with⟨D,rfl⟩|⟨D,rfl⟩|⟨M,m2,h'⟩
   .exact N n s L K h ms (Bo _ mu)
   .exact N n s L K h ms (D6 _ mu)
   .exact S.Bd n m s u x VB h h' ms mu
 .refine kp a o (λz=>?_) nb e;obtain⟨n,h1,h2⟩:=T.own z;exact np n h1 h2
end
noncomputable def Mm(Z:L2.St)(q:Nat):V:=match Z[q]? with
 |some (some v)=>v
 |_=>.A7
def Nq(s:Slot)(a:Addr):Prop:=(∃lt k us,s=.ow lt (.nd k a us))∨s=.raw (ptr a)
theorem Nq.val(p:Nq s a)(S:Sg E ss Z F H)(c:ss[n]?=some s):Z[n]?=some (some (.ref a)):=by
 rcases p with⟨lt,k,us,rfl⟩|rfl
 .obtain⟨v,e,r,_⟩:=S.ok n _ c;have b:v=.ref a:=by cases r;rfl
  rw[<- b];exact e
 .obtain⟨v,e,r,_⟩:=S.ok n _ c;have b:v=.ref a:=r;rw[<- b];exact e
structure Ow (E:Ent0) (ss A4:List Slot) (Z:L2.St) (t1 t2:OV) (F H F' H':Hp):Prop where
 st:Sg E A4 Z F' H'
 ff:AF F F'
 hh:∀a o,CH ss Z a->a∉t1.addrs++t2.addrs->H a=some o->H' a=some o
 nn:∀a o,F' a=some o->F a=some o∨H a=none
structure IL [Xw] (ss:List Slot) (q:Nat) (a1 a2:Addr) (t1 t2:OV) (b c d:Bool) (ta:TA) (k:List Slot->Prop):Prop where
 go:∀(E:Ent)(Z:L2.St)(F H:Hp)(Q:List V->Hp->Prop),Sg E ss Z F H->(∀vs l F' H',Mv E ss Z F H F' H'->E7 F' (Mm Z q) (.ref a1) (.ref a2) t1 t2 b c d vs l->k l->Q vs H')->ta Z H Q
structure Z4 [Xw] (ss:List Slot) (t1 t2:OV) (new:OV->OV->List Slot) (te:TE) (k:PV->OV->OV->Prop):Prop where
 go:∀(E:Ent)(Z:L2.St)(F H:Hp)(Q:VK),Sg E ss Z F H->(∀v p u1 u2 F' H',Ow E ss (new u1 u2) Z t1 t2 F H F' H'->Rep F' v p->k p u1 u2->Q v H')->te Z H Q
structure ON [Xw] (ss:List Slot) (t1 t2:OV) (new:OV->OV->List Slot) (c:TT) (k:Bool->OV->OV->Prop):Prop where
 go:∀(E:Ent)(Z:L2.St)(F H:Hp)(Q:Bool->Hp->Prop),Sg E ss Z F H->(∀b u1 u2 F' H',Ow E ss (new u1 u2) Z t1 t2 F H F' H'->k b u1 u2->Q b H')->c Z H Q
section
variable[Xw]
variable{ta:TA}{q:Nat}{lt:Bool}{a1 a2:Addr}{k:List Slot->Prop}{new:OV->OV->List Slot}
theorem iH(h:k []):IL ss q a1 a2 t1 t2 false false false BV k:=⟨λE Z F H Q S go=>go [] [] F H (Mv.refl S) .nil h⟩
theorem cM(h:Wp ss te λp=>IL ss q a1 a2 t1 t2 b c d ta λl=>k (.is p::l)):IL ss q a1 a2 t1 t2 b c d (Ah te ta) k:=⟨λE Z F H Q S go=>
 h.go E Z F H _ S λv p F1 H1 e r h2=>h2.go E Z F1 H1 _ e.st λvs l F2 H2 m2 a kk=>go _ _ F2 H2 (e.trans m2) (.is (r.mono m2.ff) a) kk⟩
theorem i6(c:ss[n]?=some s)(ps:Nq s a1)(h:IL ss q a1 a2 t1 t2 b false d ta λl=>k (.ow true t1::l)):IL ss q a1 a2 t1 t2 b true d (Ah (BE n) ta) k:=⟨λE Z F H Q S go=>
 ⟨_,ps.val S c,h.go E Z F H _ S λvs l F2 H2 m2 a kk=>go _ _ F2 H2 m2 (.one a) kk⟩⟩
theorem lQ(d:ss[n]?=some s)(ps:Nq s a2)(h:IL ss q a1 a2 t1 t2 b c false ta λl=>k (.ow true t2::l)):IL ss q a1 a2 t1 t2 b c true (Ah (BE n) ta) k:=⟨λE Z F H Q S go=>
 ⟨_,ps.val S d,h.go E Z F H _ S λvs l F2 H2 m2 a kk=>go _ _ F2 H2 m2 (.two a) kk⟩⟩
theorem fE(S:Sg E ss Z F H)(d:b=true->ss[q]?=some .AH):∃A,KP ss Z b (Mm Z q) A/\∀a∈A,∃m:Nat,ss[m]?=some .AH/\Z[m]?=some (some (.ref a)):=by
 cases b with
 |false=>exact⟨[],.inl ⟨rfl,rfl⟩,λ_ h=>absurd h BZ⟩
 |true=>
  obtain⟨c,e,_⟩:=S.ok q _ (d rfl);have g:Mm Z q=.ref c:=by unfold Mm;rw[e]
  have P:KP ss Z true (Mm Z q) [c]:=.inr ⟨q,c,rfl,rfl,g,d rfl,e⟩;exact⟨[c],P,λa f=>P.own f⟩
theorem eZ{pre:Pre}(CG:i≠j)(hi:ss[i]?=some (.ow lt (.nd k1 a1 DM)))(s:ss[j]?=some (.ow lt (.nd k2 a2 Eo)))(Y:b=true->ss[q]?=some .AH)
  (h:IL ss q a1 a2 (.nd k1 a1 DM) (.nd k2 a2 Eo) b c d ta λl=>∃k',pre l (.IQ k')/\∀p k g,k' p k g->k.val=.ref a1/\g.val=.ref a2/\kk p k g) :
  Z4 ss (.nd k1 a1 DM) (.nd k2 a2 Eo) (λk g=>(ss.set i (.ow lt k)).set j (.ow lt g)) (Dy (EM pre) [] E0 ta) kk:=⟨λE Z F H Q S go=>
 h.go E Z F H _ S λvs l F1 H1 r a⟨k',σ,U⟩=>by
  rw[Ef];have n:=r.st;obtain⟨v1,I,u,T,O⟩:=n.ok i _ hi;obtain⟨v2,G,t,R,N⟩:=n.ok j _ s;have e1:v1=.ref a1:=by cases u;rfl
  have e2:v2=.ref a2:=by cases t;rfl
  subst e1;subst e2;obtain⟨A,B,own⟩:=fE n Y;have W:((OV.nd k1 a1 DM).addrs++(OV.nd k2 a2 Eo).addrs).Nodup:=List.nodup_append.mpr ⟨T,R,λx hx y X e=>n.Bd i j _ _ x CG hi s hx (by rw[e];exact X)⟩;refine⟨l,.IQ k',F1,A,_,σ,n.call2 B u t W (λx hx=>?_) (λx hx hA=>?_) a,λv F' H' f⟨p,k,g,L,D,C,nd,M,kp⟩=>?_⟩
  .rcases List.mem_append.mp hx with z|z
   .exact(O x z).1
   .exact(N x z).1
  .obtain⟨m,p1,p2⟩:=own x hA;rcases List.mem_append.mp hx with z|z
   .by_cases w:m=i
    .subst w;rw[hi]at p1;cases p1
    .exact n.Bd m i _ _ x w p1 hi p2 z
   .by_cases w:m=j
    .subst w;rw[s]at p1;cases p1
    .exact n.Bd m j _ _ x w p1 s p2 z
  .obtain⟨K,J,V⟩:=U p k g kp;rw[K]at D;rw[J]at C;obtain⟨S2,hh⟩:=n.Za B CG hi s I G f D C nd M;exact go v p k g F' H' ⟨S2,r.ff.trans f.f0,λa o np P e=>hh a o np P (r.hh a o np e),λa o e=>(f.fresh a o e).elim (λe=>r.nn a o e) λe=>.inr (r.none e)⟩ L V⟩
theorem jd{kk:Bool->OV->OV->Prop}(h:Z4 ss t1 t2 new te λp b a=>∃c,p=.bl c/\kk c b a):ON ss t1 t2 new (tB te) kk:=⟨λE Z F H Q S go=>
 h.go E Z F H _ S λv p b a F1 H1 d r AU=>by
  obtain⟨c,e,k2⟩:=AU;subst e;cases r.inv;exact⟨c,rfl,go c b a F1 H1 d k2⟩⟩
theorem gQ{x:TT}{u v:TS}(h:ON ss t1 t2 new x λb d c=>if b=true then Ws (new d c) u nx R else Ws (new d c) v nx R):Ws ss (N4 x u v) nx R:=⟨λE D Z F H S f e=>
 h.go E Z F H _ S λb d c F1 H1 a kk=>by
  cases b with
  |true=>rw[eM rfl]at kk;exact kk.go E D Z F1 H1 a.st (λA4 σ' F' H' n S' s=>f A4 σ' F' H' n S' (a.ff.trans s)) e
  |false=>rw[eJ (by decide)]at kk;exact kk.go E D Z F1 H1 a.st (λA4 σ' F' H' n S' s=>f A4 σ' F' H' n S' (a.ff.trans s)) e⟩
theorem Sg.two(S:Sg E ss Z F H)(CG:i≠j)(hi:ss[i]?=some (.ow l1 (.nd k1 a1 DM)))(g:ss[j]?=some (.ow l2 (.nd k2 a2 Eo))):
  Ai F H (.ref a1) (.nd k1 a1 DM)/\Ai F H (.ref a2) (.nd k2 a2 Eo)/\((OV.nd k1 a1 DM).addrs++(OV.nd k2 a2 Eo).addrs).Nodup/\∀a∈(OV.nd k1 a1 DM).addrs++(OV.nd k2 a2 Eo).addrs,F a=none/\(E.H0 a=none∨a∈E.B):=by
 obtain⟨v1,q,c,l,f⟩:=S.ok i _ hi;obtain⟨v2,p,b,k,d⟩:=S.ok j _ g;have e1:v1=.ref a1:=by cases c;rfl
 have o:v2=.ref a2:=by cases b;rfl
 subst e1;subst o;refine⟨c,b,List.nodup_append.mpr ⟨l,k,λx hx y m e=>S.Bd i j _ _ x CG hi g hx (by rw[e];exact m)⟩,λa n=>?_⟩;rcases List.mem_append.mp n with h|h
 .exact⟨(f a h).1,(f a h).2.imp id λz=>z.2⟩
 .exact⟨(d a h).1,(d a h).2.imp id λz=>z.2⟩
theorem Zi(CG:i≠j)(hi:ss[i]?=some (.ow l1 (.nd k1 a1 DM)))(f:ss[j]?=some (.ow l2 (.nd k2 a2 Eo)))(h:Wp ss te λp=>kk p (.nd k1 a1 DM) (.nd k2 a2 Eo)):Ws ss (IZ te) nx (.IQ kk):=⟨λE D Z F H S g e=>
 h.go E Z F H _ S λv p F1 H1 a r kp=>by
  obtain⟨c,b,nd,d⟩:=a.st.two CG hi f;exact e v F1 H1 a.st.toFin ⟨p,.nd k1 a1 DM,.nd k2 a2 Eo,r,c,b,nd,d,kp⟩⟩
end
end Fz
namespace Fz
open L2 Lw
variable{ss:List Slot}{F H:Hp}{t:OV}{tb te:TE}{i j:Nat}{nx:List Slot->Prop}{R:Ac}{T a1:Addr}{pos:Pos}{N ns:List Str}
section
variable{E:Ent0}{Z:List (Option V)}
theorem Sg.snoc{v:V}{lt:Bool}(S:Sg E ss Z F H)(r:Ai F H v t)(nd:t.addrs.Nodup)(q:∀a∈t.addrs,F a=none/\E.H0 a=none/\∀(n:Nat)s,ss[n]?=some s->¬ BK s Z[n]? a):Sg E (ss++[.ow lt t]) (Z++[some v]) F H:=by
 have at_:∀(n:Nat)s,(ss++[Slot.ow lt t])[n]?=some s->(n<ss.length/\ss[n]?=some s/\(Z++[some v])[n]?=Z[n]?)∨(s=.ow lt t/\n=ss.length/\(Z++[some v])[n]?=some (some v)):=λn s h=>by
  by_cases c:n<ss.length
  .rw[D5 c]at h;exact .inl ⟨c,h,D5 (S.len▸c)⟩
  .rw[Eg (Vs c)]at h;have e:n - ss.length=0:=by
    cases e:n - ss.length with
    |zero=>rfl
    |succ k=>rw[e]at h;simp at h
   rw[e]at h;refine .inr ⟨(BB h).symm,by omega,?_⟩;rw[Eg (by rw[<- S.len];omega),<- S.len,e];rfl
 refine⟨S.toFin,by rw[BQ,BQ,S.len];rfl,λn s h=>?_,λi j s u a CG hi f ms mu=>?_⟩
 .rcases at_ n s h with⟨_,h,e⟩|⟨rfl,_,e⟩
  .rw[e];exact S.ok n s h
  .rw[e];exact⟨v,rfl,r,nd,λa d=>⟨(q a d).1,.inl (q a d).2.1⟩⟩
 .rcases at_ i s hi with⟨_,h1,e1⟩|⟨rfl,e1,_⟩ <;> rcases at_ j u f with⟨_,h2,b⟩|⟨rfl,b,_⟩
  .rw[e1]at ms;rw[b]at mu;exact S.Bd i j s u a CG h1 h2 ms mu
  .rw[e1]at ms;exact(q a mu).2.2 i s h1 ms
  .rw[b]at mu;exact(q a ms).2.2 j u h2 mu
  .exact CG (e1.trans b.symm)
theorem Sg.wO{s:Slot}{o:Option V}(S:Sg E (ss++[s]) (Z++[o]) F H):Sg E ss Z F H:=by
 have b:ss.length=Z.length:=by have:=S.len;rw[BQ,BQ]at this;exact Hm this
 have at_:∀(n:Nat)u,ss[n]?=some u->(ss++[s])[n]?=some u/\(Z++[o])[n]?=Z[n]?:=λn u h=>by
  have c:=(List.getElem?_eq_some_iff.mp h).1;exact⟨(D5 c).trans h,D5 (b▸c)⟩
 refine⟨S.toFin,b,λn u h=>?_,λi j u w a CG hi d ms mu=>?_⟩
 .obtain⟨h1,h2⟩:=at_ n u h;rw[<- h2];exact S.ok n u h1
 .obtain⟨h1,h2⟩:=at_ i u hi;obtain⟨f,e⟩:=at_ j w d;exact S.Bd i j u w a CG h1 f (by rw[h2];exact ms) (by rw[e];exact mu)
end
section
variable[Xw]
variable{ta:TA}{lt:Bool}{K:zu}
theorem qR{pre:Pre}{t1 t2:TE}{k1:NK}{DM:List OV}(hi:ss[i]?=some (.ow lt (.nd k1 a1 DM)))
  (h:Wp ss t1 λp1=>Wp ss t2 λp2=>∀a2,∃k',pre [.is p1,.is p2,.ow true (.nd k1 a1 DM),.ow true (.nd (.An []) a2 [])] (.IQ k')/\∀p c g,k' p c g->c.val=.ref a1/\g.val=.ref a2/\nx (ss.set i (.ow lt c))) :
  Ws ss (JJ (Dy (EM pre) [] E0 (Ah t1 (Ah t2 (Ah (BE i) (Ah NX BV)))))) nx R:=⟨λE D Z F H S X hr=>
 h.go E Z F H _ S λv1 p1 F1 H1 z M h2=>h2.go E Z F1 H1 _ z.st λv2 p2 F2 H2 m2 L Y=>by
  obtain⟨q,l,_⟩:=m2.st.ok i _ hi;refine⟨q,l,λa2 IJ=>?_⟩;have w:=m2.st.make IJ (.dK []);have d:=w.st;obtain⟨zq,C,t,Q,O⟩:=d.ok i _ hi;rw[l]at C;cases C;have σ:q=.ref a1:=t.inv.elim λ_ h=>h.1;subst σ;have j:i<ss.length:=(List.getElem?_eq_some_iff.mp hi).1;have hF:F2 a2=none:=m2.st.Be IJ;have r:Ai F2 (upd H2 a2 (.dK [])) (.ref a2) (.nd (.An []) a2 []):=.nd (k:=.An []) (vs:=[]) AV trivial rfl .nil;have ea:(OV.nd (.An []) a2 []).addrs=[a2]:=by rw[OV.DS,OV.JB];rfl
  have u:∀(n:Nat)s,ss[n]?=some s->¬ BK s Z[n]? a2:=λn s U ho=>m2.st.Fj U ho IJ;have S4:=d.snoc (lt:=lt) r (by rw[ea];exact List.nodup_cons.mpr ⟨BZ,.nil⟩) λa h=>by
   rw[ea,J9]at h;subst h;exact⟨hF,m2.st.Dl IJ,u⟩
  obtain⟨k',W,T⟩:=Y a2;have Jp:((OV.nd k1 a1 DM).addrs++(OV.nd (.An []) a2 []).addrs).Nodup:=by
   rw[ea];exact List.nodup_append.mpr ⟨Q,List.nodup_cons.mpr ⟨BZ,.nil⟩,λx hx y B=>by
    rw[J9]at B;subst B;exact λe=>u i _ hi (by rw[<- e];exact hx)⟩
  show EM pre ([v1,v2,.ref a1,.ref a2]++[]) (upd H2 a2 (.dK [])) (λx H1=>D.nx Z H1) E0;rw[Ef];refine⟨_,.IQ k',F2,[],_,W,d.call2 (b:=false) (vp:=.A7) (.inl ⟨rfl,rfl⟩) t r Jp (λa h=>?_) (λa h=>BZ) (.is (M.mono (m2.ff)) (.is L (.one (.two .nil)))),λv F' H' f⟨p,c,g,rp,o,m,nd,N,kp⟩=>?_⟩
  .rcases List.mem_append.mp h with h|h
   .exact(O a h).1
   .rw[ea,J9]at h;subst h;exact hF
  .obtain⟨e1,e2,kk⟩:=T p c g kp;rw[e1]at o;rw[e2]at m;have CG:i≠ss.length:=Ad j;have P:(ss++[Slot.ow lt (.nd (.An []) a2 [])])[i]?=some (.ow lt (.nd k1 a1 DM)):=(D5 j).trans hi;have K:(ss++[Slot.ow lt (.nd (.An []) a2 [])])[ss.length]?=some (.ow lt (.nd (.An []) a2 [])):=by rw[Eg (AW _),NL];rfl
   have J:(Z++[some (V.ref a2)])[i]?=some (some (.ref a1)):=(D5 (d.len▸j)).trans l;have I:(Z++[some (V.ref a2)])[ss.length]?=some (some (.ref a2)):=by rw[d.len,Eg (AW _),NL];rfl
   have G:=(S4.Za (b:=false) (vp:=.A7) (A:=[]) (.inl ⟨rfl,rfl⟩) CG P K J I f o m nd N).1;rw[List.set_append_left _ _ j,show ss.length=(ss.set i (.ow lt c)).length from(Gm).symm,yY _ _ (AW _),NL]at G;exact X _ Z F' H' kk G.wO (z.ff.trans (m2.ff.trans (w.ff.trans f.f0)))⟩
theorem je{P:Hp->V->Prop}{k:List Slot->Prop}(j:Nat)(c:ss[j]?=some (.raw P))(d:∀F v,P F v->F T=some (.By (.tab pos Jb)))
  (h:Wp ss te λp=>p=.lst (ns.map .str)/\Wa ss ta λl=>k (.raw (FW T pos ns)::l)):Wa ss (Ah te ta) k:=⟨λE Z F H Q S q=>
 h.go E Z F H _ S λv p F1 H1 b r⟨e,h2⟩=>h2.go E Z F1 H1 _ b.st λvs l F2 H2 m2 a kk=>by
  subst e;obtain⟨_,_,pv,_⟩:=m2.st.ok j _ c;exact q _ _ F2 H2 (b.trans m2) (.cons (s:=.raw (FW T pos ns)) ⟨⟨r.mono m2.ff,d _ _ pv⟩,λF F' s h=>qM T pos ns F F' s v h⟩ a) kk⟩
def IB(K:zu)(T:Addr)(pos:Pos)(ns:List Int):Hp->V->Prop:=λF v=>Rr K ns F v/\F T=some (.By (.tab pos Jb))
theorem rk(K:zu)(T:Addr)(pos:Pos)(ns:List Int):∀(v:V)(F F':Hp),AF F F'->IB K T pos ns F v->IB K T pos ns F' v:=λv F F' s h=>⟨UH K ns v F F' s h.1,s _ _ h.2⟩
variable{ns:List Int}
theorem oG{k:PV->Prop}(hi:ss[i]?=some (.raw (IB K T pos ns)))(h:k (.int ns.length)):Wp ss (CK (Ii K) (Ah (BE i) BV)) k:=⟨λE Z F H Q S q=>by
 obtain⟨v,e,⟨⟨a,c,b⟩,_⟩,st⟩:=S.ok i _ hi;subst c;obtain⟨d,ea,Qu⟩:=UH K ns _ F H S.fh ⟨a,rfl,b⟩;cases ea;refine⟨_,e,a,_,rfl,.inl Qu,?_⟩;rw[AB];exact q _ _ F H (.refl S) (.int _) h⟩
theorem ir(hi:ss[i]?=some (.raw (IB K T pos ns)))(h:Wp ss te λx=>∃m,x=.int m/\0<=m/\m<=1000/\nx (ss.set j .AH)):Ws ss (Dm (Dy (VO K) [] E0 (Ah (BE i) (Ah te BV))) (CU j)) nx R:=⟨λE D Z F H S q z=>by
 obtain⟨v,e,⟨⟨a,t,A⟩,_⟩,st⟩:=S.ok i _ hi;subst t;refine⟨_,e,h.go E Z F H _ S λv x F1 H1 c r⟨m,w,n,MX,kk⟩=>?_⟩;subst w;cases r.inv;obtain⟨y,f,⟨g,_⟩,_⟩:=c.st.ok i _ hi;rw[e]at f;cases f;obtain⟨B,ea,Qu⟩:=UH K ns _ F1 H1 c.st.fh g;cases ea;refine⟨a,ns,m,rfl,Qu,n,MX,λp H2 d s k=>?_⟩;have m2:=c.st.grow s;exact q _ _ F1 H2 kk (m2.st.setG ⟨p,rfl,c.st.Be d,.inl (c.st.Dl d),k⟩ λl e b u _ o mu=>by cases e;exact c.st.JD o d mu) c.ff⟩
end
def Mh(K:zu)(T:Addr)(pos:Pos):Sp:=λvs H Q X=>H T=some (.By (.tab pos Jb))/\gJ K vs H Q X
theorem rO{K:zu}{vs:List V}{Q:VK}{X:XK}{t:TS}(h:Mh K T pos vs H Q X)(hw:∀ns:List Int,ns.length<=63->Ws (.raw (IB K T pos ns)::List.replicate (N.length - 1) .any) t (λ_=>False) (.is λp=>p=.bl true)):t { nx:=λ_ H'=>Q .A7 H',rt:=Q } (L2.start N vs) H:=by
 obtain⟨b,a,ns,rfl,c,ZR,q⟩:=h;have S:Sg (E3 [] H H) [.raw (IB K T pos ns)] [some (.ref a)] H H:=by
  have nn:∀{p:Prop}(a:Addr),a∈([]:List Addr)->p:=λa h=>absurd h BZ;refine⟨⟨AF.refl _,AF.refl _,λ_ _ _ e=>e,λ_ _ e=>.inl e,λa h=>nn a h,λa h=>nn a h,λa h=>nn a h,λa h=>nn a h,λa h=>nn a h,λa h=>nn a h⟩,rfl,λi s hi=>?_,λi j s u l CG hi d ms=>?_⟩
  .cases i with
   |zero=>cases hi;exact⟨_,rfl,⟨⟨a,rfl,c⟩,b⟩,rk K T pos ns _⟩
   |succ i=>simp at hi
  .cases i with
   |zero=>cases hi;cases ms
   |succ i=>simp at hi
 refine(hw ns ZR).go (SU (E3 [] H H)) _ _ H H (S.grown _) (λ_ _ _ _ h=>h.elim) λv F' H' f ok=>?_;obtain⟨p,r,rfl⟩:=ok;cases r.inv;exact q H'
end Fz
namespace Fz
open L2 Lw
variable{i j m n t u v w x:Nat}{new:OV->OV->List Slot}{ab c:Nat->List Nat}{A D b ch l r s tr xs:List Nat}{ns:List Str}{a:Addr}{chs rs:List (List Nat)}{f:Nat->Nat}{Ls:List Lp}{ls:List (List Str)}{ps:List (Int×Int)}
section
variable[Xw]
variable{ss:List Slot}{K:zu}{te:TE}{k:PV->Prop}
variable{l1 l2:Bool}{t1 t2:OV}
theorem Mv.m2{E:Ent0}{Z:L2.St}{F H F' H' F2 H2:Hp}{d c:OV}(m:Mv E ss Z F H F' H')(b:Ow E ss (new d c) Z t1 t2 F' H' F2 H2):Ow E ss (new d c) Z t1 t2 F H F2 H2:=
 ⟨b.st,m.ff.trans b.ff,λa o np f e=>b.hh a o np f (m.hh a o np e),λa o e=>(b.nn a o e).elim (λe=>m.nn a o e) λe=>.inr (m.none e)⟩
theorem iy{c d:TT}{kk:Bool->OV->OV->Prop}(j:new t1 t2=ss)(h:Wt ss c λb=>if b=true then kk true t1 t2 else ON ss t1 t2 new d kk):ON ss t1 t2 new (Lj c d) kk:=⟨λE Z F H Q S go=>
 h.go E Z F H _ S λb F1 H1 f z=>by
  cases b with
  |true=>
   rw[eM rfl]at z;exact go true t1 t2 F1 H1 ⟨by rw[j];exact f.st,f.ff,λa o np _ e=>f.hh a o np e,f.nn⟩ z
  |false=>
   rw[eJ (by decide)]at z;exact z.go E Z F1 H1 _ f.st λb i g F2 H2 m2 k2=>go b i g F2 H2 (f.m2 m2) k2⟩
end
open Kz
noncomputable abbrev nP(n:Nat):PV:=.int n
noncomputable def Er(a:Addr)(lo:Lo):OV:=.nd .lst a ((lo.map Bv).map .fz)
noncomputable def CO(tr:List Nat):List Key:=tr.map λu:Nat=>.inl (u:Int)
def CQ(a:Addr)(tr:List Nat):OV:=.nd (.An (CO tr)) a (tr.map λ_=>.fz (.bl true))
noncomputable def Cg(ab:Nat->List Nat)(m:Nat):PV:=.lst ((List.range m).map λv=>.lst ((ab v).map nP))
structure CM (n:Nat) (ab:Nat->List Nat) (m v:Nat) (lo:Lo) (tr:List Nat):Prop where
 len:lo.length=m
 Eb:m<=12
 lt:v<m
 ab:∀v u,u∈ab v->u<m
 lw:∀(u w:Nat),lo[u]?=some (some w)->w<m
 nd:tr.Nodup
 tl:∀z∈tr,z<m
 fuel:m<n+tr.length
def Ji(n:Nat):Pre:=λl R=>∃(ab:Nat->List Nat)(m v:Nat)(lo:Lo)(s:Slot)(tr:List Nat)(a2:Addr),l=[.is (nP v),.is (Cg ab m),s,.ow true (CQ a2 tr)]/\CM n ab m v lo tr/\
 ((
   ∃a1,s=.ow true (Er a1 lo)/\R=.IQ λp t1 t2=>p=.bl (fu ab n v lo tr).1/\t1=Er a1 (fu ab n v lo tr).2.1/\t2=CQ a2 (fu ab n v lo tr).2.2)∨
   (s=.is (.lst (lo.map Bv))/\D3 ab v lo/\R=.mt λp t=>p=.bl false/\t=CQ a2 (fu ab n v lo tr).2.2))
theorem Xa:∀ss R,¬ Ji 0 ss R:=by
 rintro ss R⟨ab,m,v,lo,s,tr,a2,_,ok,_⟩;have q:=GJ (l2:=List.range m) ok.nd λx hx=>List.mem_range.mpr (ok.tl x hx);have:=ok.fuel;rw[Cd]at q;omega
theorem CM.le{lo:Lo}(h:CM n ab m v lo tr):tr.length<=12:=by
 have q:=GJ (l2:=List.range m) h.nd λx hx=>List.mem_range.mpr (h.tl x hx);have:=h.Eb;rw[Cd]at q;omega
theorem Lx(ns:List Nat)(x:Nat):Fq (CO ns) (.inl (x:Int))=decide (x∈ns):=by
 unfold Fq CO;rw[List.any_map]
 by_cases h:x∈ns
 .rw[eV h];exact List.any_eq_true.mpr ⟨x,h,eV rfl⟩
 .rw[fD h];rw[xv];intro z;obtain⟨y,a,e⟩:=List.any_eq_true.mp z;have e:=iY e;injection e with e
  exact h (Int.ofNat_inj.mp e▸a)
theorem Xm{ns:List Nat}(h:ns.Nodup):(CO ns).Nodup:=yA _ (λa b(h:a≠b)=>λz=>h (by injection z with z;exact Int.ofNat_inj.mp z)) h
theorem Py{ns:List Nat}{us:List OV}{u:OV}(h:x∉ns):Ie (CO ns) (.inl (x:Int))=CO (ns++[x])/\HV (CO ns) us (.inl (x:Int)) u=us++[u]:=by
 unfold HV Ie;have e:En (CO ns) (.inl (x:Int))=none:=by
  have q:=Pa (ks:=CO ns) (key:=.inl (x:Int));rw[Lx,fD h]at q;cases e:En (CO ns) (.inl (x:Int))with
  |none=>rfl
  |some j=>rw[e]at q;cases q
 rw[e,Lx,fD h];exact⟨by unfold CO;rw[Cw];rfl,rfl⟩
theorem sA(h:x∉tr):OV.nd (.An (Ie (CO tr) (.inl (x:Int)))) a (HV (CO tr) (tr.map λ_=>OV.fz (.bl true)) (.inl (x:Int)) (.fz (.bl true)))=CQ a (tr++[x]):=by
 rw[(Py (us:=[]) (u:=.fz .A7) h).1,(Py h).2];unfold CQ;rw[Cw];rfl
theorem CM.at{lo:Lo}(h:CM n ab m v lo tr):BM ((List.range m).map λv=>PV.lst ((ab v).map nP)) (v:Int)=some (.lst ((ab v).map nP)):=DU (by rw[AM,NC h.lt];rfl)
theorem c5{lo:Lo}(h:u∈tr):Bu ab n v (u::r) lo tr=Bu ab n v r lo tr:=by rw[Bu,eM h]
theorem wu{lo:Lo}(h:u∉tr)(e:lo[u]?.join=none):Bu ab n v (u::r) lo tr=(true,lo.set u (some v),tr++[u]):=by rw[Bu,eJ h,e]
theorem qH{lo:Lo}(h:u∉tr)(e:lo[u]?.join=some w)(a:(fu ab n w lo (tr++[u])).1=true):Bu ab n v (u::r) lo tr=(true,(fu ab n w lo (tr++[u])).2.1.set u (some v),(fu ab n w lo (tr++[u])).2.2):=by
 rw[Bu,eJ h,e];dsimp only;cases q:fu ab n w lo (tr++[u])with
 |mk b x=>rw[q]at a;cases(show b=true from a);rfl
theorem Xo{lo:Lo}(h:u∉tr)(e:lo[u]?.join=some w)(c:(fu ab n w lo (tr++[u])).1=false)(a:(fu ab n w lo (tr++[u])).2.1=lo):Bu ab n v (u::r) lo tr=Bu ab n v r lo (fu ab n w lo (tr++[u])).2.2:=by
 rw[Bu,eJ h,e];dsimp only;cases q:fu ab n w lo (tr++[u])with
 |mk b x=>
  rw[q]at c a;cases(show b=false from c);obtain⟨l,t⟩:=x;cases(show l=lo from a);rfl
theorem CM.fin{lo:Lo}(h:CM n ab m v lo tr)(c:(fu ab n v lo tr).1=false):(fu ab n v lo tr).2.1=lo/\(fu ab n v lo tr).2.2.Nodup/\(∀z∈(fu ab n v lo tr).2.2,z<m)/\tr.length<=(fu ab n v lo tr).2.2.length:=by
 have q:=Kk (ab:=ab) (lo:=lo) (λv u d=>h.len▸h.ab v u d) n v tr h.nd (λz a=>h.len▸h.tl z a) (h.len▸h.fuel);cases e:fu ab n v lo tr with
 |mk b x=>
  rw[e]at q c;cases(show b=false from c);obtain⟨l,t⟩:=x;exact⟨q.1,q.2.2.1,λz a=>h.len▸q.2.2.2.1 z a,q.2.2.2.2.1⟩
theorem CM.yes{lo:Lo}(h:CM n ab m v lo tr)(a:(fu ab n v lo tr).1=true):(fu ab n v lo tr).2.1.length=m:=by
 have q:=Kk (ab:=ab) (lo:=lo) (λv u d=>h.len▸h.ab v u d) n v tr h.nd (λz c=>h.len▸h.tl z c) (h.len▸h.fuel);cases e:fu ab n v lo tr with
 |mk b x=>
  rw[e]at q a;cases(show b=true from a);obtain⟨l,t⟩:=x;obtain⟨p,_,_,_,e⟩:=q;exact(iI List.length e).trans ((Ll _ _ _).trans h.len)
theorem CM.sub{lo:Lo}(h:CM (n+1) ab m v lo tr)(b:u∈ab v)(c:u∉tr)(e:lo[u]?.join=some w):CM n ab m w lo (tr++[u]):=
 ⟨h.len,h.Eb,h.lw u w (Kz.join_some e),h.ab,h.lw,Qn h.nd c,λz a=>by
  rcases List.mem_append.mp a with a|a
  .exact h.tl z a
  .rw[List.mem_singleton.mp a];exact h.ab v u b,by have:=h.fuel;rw[BQ,QY];omega⟩
theorem CM.next{lo:Lo}(h:CM (n+1) ab m v lo tr)(k:CM n ab m w lo (tr++[u]))(d:(fu ab n w lo (tr++[u])).1=false):CM (n+1) ab m v lo (fu ab n w lo (tr++[u])).2.2:=by
 obtain⟨e,c,b,a⟩:=k.fin d;refine⟨h.len,h.Eb,h.lt,h.ab,h.lw,c,b,?_⟩;have:=h.fuel;rw[BQ,QY]at a;omega
theorem sC{lo:Lo}(h:u<lo.length):∃o,(lo.map Bv)[u]?=some (Bv o)/\lo[u]?.join=o/\lo[u]?=some o:=by
 refine⟨lo[u],?_,?_,AL h⟩
 .rw[AM,AL h];rfl
 .rw[AL h];rfl
theorem xM(o:Option Nat):OS (Bv o)=o.isNone:=by cases o <;> rfl
theorem gx{lo:Lo}:OV.nd .lst a ((((lo.map Bv).set u (nP v))).map .fz)=Er a (lo.set u (some v)):=by
 unfold Er;rw[dg,dg,dg];rfl
theorem XG(h:l[i]?=some x):l.drop i=x::l.drop (i+1):=by
 obtain⟨hi,rfl⟩:=List.getElem?_eq_some_iff.mp h;exact QN hi
theorem CM.stuck{lo:Lo}(h:CM n ab m v lo tr)(s:D3 ab v lo):(fu ab n v lo tr).1=false:=by
 have q:=Kk (ab:=ab) (lo:=lo) (λv u c=>h.len▸h.ab v u c) n v tr h.nd (λz a=>h.len▸h.tl z a) (h.len▸h.fuel);obtain⟨σ,f,g⟩:=s;cases e:fu ab n v lo tr with
 |mk b x=>
  cases b with
  |false=>rfl
  |true=>
   rw[e]at q;obtain⟨l,t⟩:=x;obtain⟨p,d,_⟩:=q;exact absurd d (D3.no g f)
theorem qC{lo:Lo}(s:D3 ab v lo)(b:u∈ab v):∃w,lo[u]?.join=some w/\D3 ab w lo:=by
 obtain⟨σ,c,a⟩:=s;obtain⟨w,e,h⟩:=a u (c u b);exact⟨w,by rw[e];rfl,σ,h,a⟩
noncomputable def Ar(ch:List Nat):PV:=.lst (ch.map nP)
theorem Xd(a b:List Nat)(h:Ar a=Ar b):a=b:=by
 injection h with h
 induction a generalizing b with
 |nil=>cases b with
  |nil=>rfl
  |cons y b=>cases h
 |cons x a c=>cases b with
  |nil=>cases h
  |cons y b=>
   injection h with h1 h2
   injection h1 with h1
   rw[Int.ofNat_inj.mp h1,c b h2]
theorem xE(a:Addr)(T:List Nat):(CQ a T).pv=.An (CO T) (T.map λ_=>.bl true):=by
 unfold CQ;rw[OV.pv,show(T.map λ_=>OV.fz (.bl true))=(T.map λ_=>PV.bl true).map .fz by rw[Cq];rfl,Ua]
theorem Qp{α:Type}(g:α->PV)(h:∀x,MD (g x)=true):∀(l:List α),K6 (l.map g)=true
 | []=>rfl
 |x::l=>by
  rw[Ce];show(MD (g x) && K6 (l.map g))=true;rw[h x,Qp g h l];rfl
structure UR (ab:Nat->List Nat) (m:Nat):Prop where
 Eb:m<=12
 ab:∀v u,u∈ab v->u<m
theorem lG(h:UR ab m)(hi:i<m):CM 13 ab m i (gp ab m 13 i) []:=by
 obtain⟨h1,h2,d,b,c⟩:=Uk h.ab (show m<13 by have:=h.Eb;omega) i;exact⟨h1,h.Eb,hi,h.ab,λu w e=>Qe (b w (Ey.mpr ⟨u,e⟩)) hi,.nil,λz a=>(by cases a),by have:=h.Eb;simp;omega⟩
def dB:Pre:=λl R=>∃(ab:Nat->List Nat)(m:Nat),l=[.is (Cg ab m)]/\UR ab m/\R=.new (·=(gp ab m 13 m).map Bv)
def Zo:Pre:=λl R=>∃(ch T:List Nat)(x:Nat)(r:List Nat),l=[.is (Ar ch),.is (.An (CO T) (T.map λ_=>.bl true))]/\ch.length<=12/\(ch.filter λy=>decide (y∉T))=x::r/\R=.is (·=nP x)
def JC(T ch:List Nat):Nat:=(ch.filter λy=>decide (y∉T)).headD 0
structure IX (ab:Nat->List Nat) (m:Nat) (lo:Lo) (chs:List (List Nat)):Prop where
 ok:UR ab m
 len:lo.length=m
 lw:∀(u w:Nat),lo[u]?=some (some w)->w<m
 cl:chs.length<=12
 ch:∀ch∈chs,∃t r,ch=t::r/\t<m/\D3 ab t lo/\Dn lo t ch/\ch.length<=12
noncomputable def FQ(ch:List Nat):Nat:=ch.headD 0
def Yc:Pre:=λl R=>∃(ab:Nat->List Nat)(m:Nat)(lo:Lo)(chs:List (List Nat)),l=[.is (Cg ab m),.is (.lst (lo.map Bv)),.is (.lst (chs.map Ar))]/\IX ab m lo chs/\
 R=.new λxs=>∃A:List Nat,xs=A.map nP/\A.Perm (chs.map (JC (tryAll ab 13 lo (chs.map FQ) [])))/\A.Pairwise (·<=·)
theorem ZJ(ab:Nat->List Nat)(n:Nat)(lo:Lo):∀(a:List Nat)(t:Nat)(tr:List Nat),tryAll ab n lo (a++[t]) tr=(fu ab n t lo (tryAll ab n lo a tr)).2.2
 | [],t,tr=>rfl
 |s::a,t,tr=>by
  show tryAll ab n lo (a++[t]) (fu ab n s lo tr).2.2=(fu ab n t lo (tryAll ab n lo a (fu ab n s lo tr).2.2)).2.2;exact ZJ ab n lo a t _
theorem IX.at{lo:Lo}(h:IX ab m lo chs)(i:Nat):let T:=tryAll ab 13 lo ((chs.take i).map FQ) [];T.Nodup/\(∀z∈T,z<m)/\Cl ab lo T/\∀t∈(chs.take i).map FQ,∀u∈ab t,u∈T:=by
 have q:=bf (ab:=ab) (lo:=lo) (n:=13) (λv u b=>h.len▸h.ok.ab v u b) (by rw[h.len];have:=h.ok.Eb;omega) ((chs.take i).map FQ) [] (λt c=>by
  obtain⟨ch,d,rfl⟩:=List.mem_map.mp c;obtain⟨t,r,rfl,_,s,_⟩:=h.ch ch (di d);exact s) .nil (λz a=>by cases a) (λz a=>by cases a)
 refine⟨q.1,λz a=>?_,q.2.2.1,q.2.2.2⟩;obtain⟨w,e,_⟩:=q.2.2.1 z a;exact h.len▸(List.getElem?_eq_some_iff.mp e).1
theorem IX.fu{lo:Lo}(h:IX ab m lo chs)(a:t<m):CM 13 ab m t lo (tryAll ab 13 lo ((chs.take i).map FQ) []):=
 ⟨h.len,h.ok.Eb,a,h.ok.ab,h.lw,(h.at i).1,(h.at i).2.1,by have:=h.ok.Eb;omega⟩
theorem nU{α β:Type}{f:α->β}{xs:List α}{x:α}(h:xs[i]?=some x):(xs.take (i+1)).map f=(xs.take i).map f++[f x]:=by
 obtain⟨hi,rfl⟩:=List.getElem?_eq_some_iff.mp h;rw[JA hi,Cw];rfl
theorem IX.first{lo:Lo}(h:IX ab m lo chs)(a:ch∈chs):∃r,(ch.filter λy=>decide (y∉tryAll ab 13 lo (chs.map FQ) []))=JC (tryAll ab 13 lo (chs.map FQ) []) ch::r:=by
 have q:=h.at chs.length;rw[Eh]at q;obtain⟨t,r,rfl,_,_,d,_⟩:=h.ch ch a;obtain⟨x,b,e,_⟩:=Y8 q.2.2.1 d λu c=>q.2.2.2 t (List.mem_map.mpr ⟨t::r,a,rfl⟩) u c;exact⟨b,by unfold JC;rw[e];rfl⟩
structure MR (m:Nat) (chs:List (List Nat)) (f:Nat->Nat):Prop where
 Eb:m<=12
 nd:chs.flatten.Nodup
 all:∀n,n<m↔n∈chs.flatten
 at_:∀(k:Nat)ch,chs[k]?=some ch->∀n∈ch,f n=k
def aA:Pre:=λl R=>∃(ns:List Str)(Ls:List Lp)(chs:List (List Nat))(f:Nat->Nat),l=[.is (.lst (ns.map .str)),.is (.lst (Ls.map Lp.P)),.is (.lst (chs.map Ar))]/\MR Ls.length chs f/\
 R=.new (·=(Ls.zipIdx.map λp=>((f p.2:Int),(ns.length:Int) - (p.1.cs.length:Int))).map Dz)
def Hr(a:Addr)(f:Nat->Nat)(D:List Nat):OV:=.nd (.An (CO D)) a ((D.map λn=>nP (f n)).map .fz)
theorem tQ{k:Nat}(h:x∉D)(hk:f x=k):OV.nd (.An (Ie (CO D) (.inl (x:Int)))) a (HV (CO D) ((D.map λn=>nP (f n)).map .fz) (.inl (x:Int)) (.fz (nP k)))=Hr a f (D++[x]):=by
 rw[(Py (us:=[]) (u:=.fz .A7) h).1,(Py h).2];unfold Hr;rw[Cw,Cw,<- hk];rfl
theorem valN:∀{D:List Nat}{f:Nat->Nat}{x:Nat},x∈D->LF (CO D) (D.map λn=>nP (f n)) (.inl (x:Int))=some (nP (f x))
 | [],_,_,h=>by cases h
 |d::D,f,x,h=>by
  show(if(Sum.inl (d:Int):Key)=.inl (x:Int)then some (nP (f d))else LF (CO D) (D.map λn=>nP (f n)) (.inl (x:Int)))=_
  by_cases c:d=x
  .subst c;rw[eM rfl]
  .rw[eJ λz=>c (by injection z with z;exact Int.ofNat_inj.mp z)]
   exact valN ((List.mem_cons.mp h).resolve_left λz=>c z.symm)
theorem lr{k:Nat}(h:xs[k]?=some x):xs.take (k+1)=xs.take k++[x]:=by rw[List.take_add_one,h];rfl
theorem vd(a:Addr)(f:Nat->Nat)(D:List Nat):(Hr a f D).pv=.An (CO D) (D.map λn=>nP (f n)):=by unfold Hr;rw[OV.pv,Ua]
theorem n4{p:Lp×Nat}(h:p∈Ls.zipIdx):Ls[p.2]?=some p.1:=List.mk_mem_zipIdx_iff_getElem?.mp h
theorem fq(Ls:List Lp):Ih (Ls.map Lp.P)=Ls.zipIdx.map λa=>.tup [.int (a.2:Int),a.1.P]:=by
 apply QQ;intro i;rw[AM,yL];cases e:Ls[i]? with
 |none=>
  rw[NB (by rw[M9,AB];exact List.getElem?_eq_none_iff.mp e)];rfl
 |some l=>
  rw[R8 (show(Ls.map Lp.P)[i]?=some l.P by rw[AM,e];rfl)];simp
theorem xa{a b:Lp}(h:a.P=b.P):a=b:=by
 obtain⟨r,g,cs⟩:=a;obtain⟨c,d,e⟩:=b;have h:PV.tup [.str r,.int g,.tup (cs.map .str)]=.tup [.str c,.int d,.tup (e.map .str)]:=h;injection h with h
 injection h with h1 h
 injection h with h2 h
 injection h with h3 h
 injection h1 with h1
 injection h2 with h2
 injection h3 with h3
 rw[h1,Int.ofNat_inj.mp h2,List.map_inj_right (λ_ _ z=>by injection z) |>.mp h3]
theorem MR.len(h:MR m chs f):chs.flatten.length<=12:=by
 have q:=GJ (l2:=List.range m) h.nd λx hx=>List.mem_range.mpr ((h.all x).mpr hx);rw[Cd]at q;have:=h.Eb;omega
theorem mQ(h:chs[i]?=some ch)(hx:ch[j]?=some x):∃r,chs.flatten=((chs.take i).flatten++ch.take j)++x::r:=by
 obtain⟨hi,rfl⟩:=List.getElem?_eq_some_iff.mp h;obtain⟨a,rfl⟩:=List.getElem?_eq_some_iff.mp hx;refine⟨chs[i].drop (j+1)++(chs.drop (i+1)).flatten,?_⟩;have e1:chs=chs.take i++chs[i]::chs.drop (i+1):=by rw[<- QN hi,Vp]
 have c:chs[i]=chs[i].take j++chs[i][j]::chs[i].drop (j+1):=by rw[<- QN a,Vp]
 have b:chs.flatten=(chs.take i).flatten++(chs[i]++(chs.drop (i+1)).flatten):=by
  conv=>lhs;rw[e1,yH,yI]
 rw[b];exact(iI (λz=>(chs.take i).flatten++(z++(chs.drop (i+1)).flatten)) c).trans (by rw[BY (List.take j _),Vj,BY])
theorem oC(h:chs[i]?=some ch):(chs.take (i+1)).flatten=(chs.take i).flatten++ch:=by
 obtain⟨hi,rfl⟩:=List.getElem?_eq_some_iff.mp h;rw[JA hi,yH];simp
theorem X9{S:List Str}:∀{l:List Str},(l.Pairwise λa b=>a∈S->b∈S)->l=(l.filter λx=>decide (x∉S))++l.filter λx=>decide (x∈S)
 | [],_=>rfl
 |x::l,h=>by
  obtain⟨h1,h2⟩:=List.pairwise_cons.mp h;have d:=X9 h2
  by_cases c:x∈S
  .have e0:(l.filter λx=>decide (x∉S))=[]:=List.filter_eq_nil_iff.mpr λa e=>by simp[h1 a e c]
   rw[QU (by simp[c]),QV (by simp[c]),e0];rw[e0]at d;exact iI (x :: ·) d
  .rw[QV (by simp[c]),QU (by simp[c])];exact iI (x :: ·) d
theorem qQ{S l:List Str}(nd:ns.Nodup)(sn:S.Nodup)(sub:∀x∈S,x∈ns)(p:l.Perm ns)(up:l.Pairwise λa b=>a∈S->b∈S):(l.drop (ns.length - S.length)).Perm S:=by
 have e:=X9 up;have c:(l.filter λx=>decide (x∈S)).Perm S:=by
  refine(p.filter _).trans ((yV (nd.sublist yG) sn).mpr λx=>?_);rw[Qa,eW];exact⟨And.right,λh=>⟨sub x h,h⟩⟩
 have d:(l.filter λx=>decide (x∉S)).length=ns.length - S.length:=by
  have q:=iI List.length e;rw[BQ,c.length_eq,p.length_eq]at q;omega
 conv=>lhs;rw[e,<- d,List.drop_left]
 exact c
noncomputable def Ic(Ls:List Lp)(x:Str)(n:Nat):Bool:=match Ls[n]? with
 |some l=>decide (x∈l.cs)
 |none=>false
theorem Ni{a:Lp}(h:Ls[n]?=some a)(x:Str):Ic Ls x n=decide (x∈a.cs):=by unfold Ic;rw[h]
theorem XM{x:Str}:GD Ls ch x=((ch.filter (Ic Ls x)).length:Nat):=rfl
theorem k7(up:ch.Pairwise λu v=>Ba Ls v u=true){a:Lp}(w:n∈ch)(e:Ls[n]?=some a){x y:Str}(hx:x∈a.cs)(g:y∉a.cs):GD Ls ch y<GD Ls ch x:=by
 have i:∀{u v:Nat}{b:Lp}{z:Str}{c:Lp},Ba Ls v u=true->Ls[v]?=some c->z∈c.cs->Ls[u]?=some b->z∈b.cs:=λ{u v b z c}h A f B=>by
  obtain⟨c',C,e1,d,q⟩:=GY h;rw[A]at e1;cases e1;rw[B]at d;cases d;rcases q with⟨q,_⟩|⟨_,q⟩
  .rw[<- q];exact f
  .exact q z f
 obtain⟨l,r,rfl⟩:=List.append_of_mem w;obtain⟨_,m,k⟩:=List.pairwise_append.mp up;obtain⟨j,_⟩:=List.pairwise_cons.mp m;rw[XM,XM,QR,QR,BQ,BQ];have p:Ic Ls x n=true:=by rw[Ni e];exact eV hx
 have o:¬ Ic Ls y n=true:=by rw[Ni e];simp[g]
 rw[QV p,QU o];have e1:l.filter (Ic Ls x)=l:=List.filter_eq_self.mpr λu t=>by
  have h:=k u t n Ae;obtain⟨_,b,_,d,_⟩:=GY h;rw[Ni d];exact eV (i h e hx d)
 have d:r.filter (Ic Ls y)=[]:=List.filter_eq_nil_iff.mpr λv s=>by
  have h:=j v s;obtain⟨c,_,e1,_,_⟩:=GY h;rw[Ni e1];intro z;exact g (i h e1 (iY z) e)
 rw[e1,d];have q:=Vo (Ic Ls y) l;rw[ND,Am];omega
structure HY (ns:List Str) (Ls:List Lp) (ls:List (List Str)) (ps:List (Int×Int)) (A:List Nat):Prop where
 len:ls.length=A.length
 perm:∀l∈ls,l.Perm ns
 pz:ps.length=Ls.length
 kI:∀(n:Nat)l,Ls[n]?=some l->∃(k:Nat)(line:List Str),ps[n]?=some ((k:Int),(ns.length:Int) - (l.cs.length:Int))/\ls[k]?=some line/\(line.drop (ns.length - l.cs.length)).Perm l.cs
 ip:∀k:Nat,k<ls.length->∃(n:Nat)(g:Int),ps[n]?=some ((k:Int),g)
 fits:∀(j k:Nat)a b p q,Ls[j]?=some a->Ls[k]?=some b->ps[j]?=some p->ps[k]?=some q->p.1=q.1->p.2<=q.2->CT a b
 up:A.Pairwise (· < ·)
 lt:∀a∈A,a<Ls.length
 ap:∀a∈A,∀b∈A,¬ Ba Ls a b=true
 most:∀B:List Nat,B.Nodup->(∀b∈B,b<Ls.length)->(∀a∈B,∀b∈B,a≠b->¬ Ba Ls a b=true)->B.length<=A.length
def B5(Ls:List Lp):Lo:=gp (ups Ls) Ls.length 13 Ls.length
theorem Zk(e:Ls.length<=12)(c:∀l∈Ls,l.Good ns):Uq Ls:=⟨e,λa d=>OQ (show CF ns a.r a.g a.cs from c a d).up,λa d b f h=>RP (show CF ns a.r a.g a.cs from c a d).up (show CF ns b.r b.g b.cs from c b f).up h⟩
theorem Qy(c:Ls.length<=12)(b:ns.length<=40)(a:∀l∈Ls,l.Good ns):Pg Ls (B5 Ls)/\∀t∈B6 (B5 Ls),D3 (ups Ls) t (B5 Ls):=
 oo (Zk c a) (λl d=>CC (CF.len (show CF ns l.r l.g l.cs from a l d)) b) (by omega)
theorem Yz{lo:Lo}(d:Dn lo n ch):∃r,ch=n::r:=by cases d <;> exact⟨_,rfl⟩
theorem YO{n:Nat}:∀{chs:List (List Nat)},chs.flatten.Nodup->∀{i k:Nat}{a b:List Nat},chs[i]?=some a->chs[k]?=some b->n∈a->n∈b->i=k
 | [],_,_,_,_,_,h,_,_,_=>by cases h
 |c::chs,nd,i,k,a,b,ha,hb,na,nb=>by
  rw[yI]at nd;obtain⟨_,e,d⟩:=List.nodup_append.mp nd;cases i with
  |zero=>
   cases(show some c=some a from ha);cases k with
   |zero=>rfl
   |succ k=>exact absurd rfl (d n na n (List.mem_flatten.mpr ⟨b,BL (show chs[k]?=some b from hb),nb⟩))
  |succ i=>
   cases k with
   |zero=>cases(show some c=some b from hb);exact absurd rfl (d n nb n (List.mem_flatten.mpr ⟨a,BL (show chs[i]?=some a from ha),na⟩))
   |succ k=>exact iI (· + 1) (YO e (show chs[i]?=some a from ha) (show chs[k]?=some b from hb) na nb)
theorem fT{lo:Lo}(G:Pg Ls lo):∃c:Nat->List Nat,∀t,t<lo.length->Dn lo t (c t)/\(c t).length<=12/\(c t).Nodup/\∀x∈c t,x<lo.length:=by
 have b:∀t,Decidable (t<lo.length):=λ_=>inferInstance;have ex:∀t,t<lo.length->∃ch,Dn lo t ch/\ch.length<=12/\ch.Nodup/\∀x∈ch,x<lo.length:=λt a=>by
  obtain⟨ch,d,nd,h⟩:=UU G.uq G.len G.fit _ t (AW _) a;have q:=wC nd λx hx=>(h x hx).1;have:=G.uq.len;have:=G.len;exact⟨ch,d,by omega,nd,λx hx=>(h x hx).1⟩
 refine⟨λt=>if h:t<lo.length then Classical.choose (ex t h)else[],λt h=>?_⟩
 dsimp only;rw[dif_pos h];exact Va (ex t h)
theorem jg{lo:Lo}(G:Pg Ls lo)(i:∀t,t<lo.length->Dn lo t (c t)/\(c t).length<=12/\(c t).Nodup/\∀x∈c t,x<lo.length):∃f,MR Ls.length ((B6 lo).map c) f:=by
 have m:(B6 lo).Nodup:=y8 _ dk;have nd:((B6 lo).map c).flatten.Nodup:=by
  unfold List.Nodup;refine List.pairwise_flatten.mpr ⟨λl r=>?_,?_⟩
  .obtain⟨t,j,rfl⟩:=List.mem_map.mp r;exact(i t (DN.mp j).1).2.2.1
  .rw[NH];unfold List.Nodup at m;refine dW (λ{a b}p o AJ x hx y q e=>AJ ?_) m;subst e;exact Xf G (DN.mp p).2 (DN.mp o).2 (i a (DN.mp p).1).1 (i b (DN.mp o).1).1 _ x (AW _) hx q
 refine⟨λn=>((B6 lo).map c).findIdx λch=>decide (n∈ch),G.uq.len,nd,λn=>⟨λh=>?_,λh=>?_⟩,λk ch hk n g=>?_⟩
 .obtain⟨t,h1,h2,ch,d,g⟩:=WL G _ n (AW _) (G.len▸h);rw[Dn.uniq d (i t h1).1]at g;exact List.mem_flatten.mpr ⟨c t,List.mem_map.mpr ⟨t,DN.mpr ⟨h1,h2⟩,rfl⟩,g⟩
 .obtain⟨ch,Dp,g⟩:=List.mem_flatten.mp h;obtain⟨t,j,rfl⟩:=List.mem_map.mp Dp;exact G.len▸(i t (DN.mp j).1).2.2.2 n g
 .have s:=BL hk;have h1:((B6 lo).map c).findIdx (λch=>decide (n∈ch))<((B6 lo).map c).length:=List.findIdx_lt_length_of_exists ⟨ch,s,eV g⟩;have h2:=List.findIdx_getElem (w:=h1);exact YO nd (AL h1) hk (iY h2) g
theorem Zz(b:Ls.length<=12)(f:ns.length<=40)(g:∀l∈Ls,l.Good ns)(a:∀t,t<(B5 Ls).length->Dn (B5 Ls) t (c t)/\(c t).length<=12/\(c t).Nodup/\∀x∈c t,x<(B5 Ls).length):IX (ups Ls) Ls.length (B5 Ls) ((B6 (B5 Ls)).map c):=by
 obtain⟨G,st⟩:=Qy b f g;refine⟨⟨b,λv u h=>(Pr.mp h).1⟩,G.len,λu w e=>?_,?_,λch Dp=>?_⟩
 .obtain⟨_,_,e1,_⟩:=GY (G.fit u w e);exact(List.getElem?_eq_some_iff.mp e1).1
 .rw[AB];have q:(B6 (B5 Ls)).length<=(List.range (B5 Ls).length).length:=Vo _ _;have:=G.len;rw[Cd]at q;omega
 .obtain⟨t,d,rfl⟩:=List.mem_map.mp Dp;have h1:=(DN.mp d).1;obtain⟨r,e⟩:=Yz (a t h1).1;exact⟨t,r,e,G.len▸h1,st t d,(a t h1).1,(a t h1).2.1⟩
theorem pw_two{R:Nat->Nat->Prop}:l.Pairwise R->∀{a b:Nat},a∈l->b∈l->a=b∨R a b∨R b a:=by
 induction l with
 |nil=>intro _ a b h;cases h
 |cons x r c=>
  intro p a b h1 h2;obtain⟨p1,p2⟩:=List.pairwise_cons.mp p;rcases List.mem_cons.mp h1 with rfl|m1 <;> rcases List.mem_cons.mp h2 with rfl|m2
  .exact .inl rfl
  .exact .inr (.inl (p1 _ m2))
  .exact .inr (.inr (p1 _ m1))
  .exact c p2 m1 m2
theorem gD(I:Ls.length<=12)(M:ns.length<=40)(nd:ns.Nodup)(C:∀l∈Ls,l.Good ns)(F:∀t,t<(B5 Ls).length->Dn (B5 Ls) t (c t)/\(c t).length<=12/\(c t).Nodup/\∀x∈c t,x<(B5 Ls).length)(J:MR Ls.length ((B6 (B5 Ls)).map c) f)
  (hl:ls.length=(B6 (B5 Ls)).length) (Od:∀(k:Nat)ch l,((B6 (B5 Ls)).map c)[k]?=some ch->ls[k]?=some l->l.Perm ns/\l.Pairwise λa b=>GD Ls ch a<=GD Ls ch b)
  (z:A.Perm (((B6 (B5 Ls)).map c).map (JC (tryAll (ups Ls) 13 (B5 Ls) (((B6 (B5 Ls)).map c).map FQ) [])))) (W:A.Pairwise (·<=·)) :
  HY ns Ls ls (Ls.zipIdx.map λp=>((f p.2:Int),(ns.length:Int) - (p.1.cs.length:Int))) A:=by
 obtain⟨G,st⟩:=Qy I M C;have U:=Zk I C;have K:=Zz I M C F;have q:=K.at ((B6 (B5 Ls)).map c).length;rw[Eh]at q;obtain⟨_,_,cl,hT⟩:=q;have H:∀{n:Nat}{l:Lp},Ls[n]?=some l->(Ls.zipIdx.map λp=>((f p.2:Int),(ns.length:Int) - (p.1.cs.length:Int)))[n]?=some ((f n:Int),(ns.length:Int) - (l.cs.length:Int)):=λh=>by
  rw[AM,yL,h];simp
 have N:∀{n:Nat}{l:Lp},Ls[n]?=some l->l.cs.length<=ns.length:=λh=>CF.len (show CF ns _ _ _ from C _ (BL h));have d:∀{n:Nat},n<Ls.length->∃(k:Nat)(ch:List Nat),((B6 (B5 Ls)).map c)[k]?=some ch/\n∈ch/\f n=k:=λ{n}h=>by
  obtain⟨ch,h1,h2⟩:=List.mem_flatten.mp ((J.all n).mp h);obtain⟨k,hk⟩:=List.mem_iff_getElem?.mp h1;exact⟨k,ch,hk,h2,J.at_ k ch hk n h2⟩
 have w:∀{k:Nat}{ch:List Nat},((B6 (B5 Ls)).map c)[k]?=some ch->ch.Pairwise λu v=>Ba Ls v u=true:=λ{k ch}h=>by
  obtain⟨t,s,rfl⟩:=List.mem_map.mp (BL h);exact(Dn.bQ G.uq G.fit (F t (DN.mp s).1).1).1
 have S:A.length=(B6 (B5 Ls)).length:=by rw[z.length_eq,AB,AB]
 have ap:=p7 (T:=tryAll (ups Ls) 13 (B5 Ls) (((B6 (B5 Ls)).map c).map FQ) []) G cl (λt s u hu=>hT t (List.mem_map.mpr ⟨c t,List.mem_map.mpr ⟨t,s,rfl⟩,by
  obtain⟨r,e⟩:=Yz (F t (DN.mp s).1).1;rw[e];rfl⟩) u hu) (λt=>JC (tryAll (ups Ls) 13 (B5 Ls) (((B6 (B5 Ls)).map c).map FQ) []) (c t)) c (λt s=>(F t (DN.mp s).1).1) λt s=>K.first (List.mem_map.mpr ⟨t,s,rfl⟩)
 rw[Cq]at z;have σ:A.Nodup:=z.nodup_iff.mpr ap.1;refine⟨hl.trans S.symm,λl h=>?_,by rw[AB,yP],λn l h=>?_,λk hk=>?_,λj k a b p q m i P O e1 R=>?_,?_,λa m=>G.len▸ap.2.1 a (z.mem_iff.mp m),λa m b i=>ap.2.2 a (z.mem_iff.mp m) b (z.mem_iff.mp i),λB Y lB aB=>?_⟩
 .obtain⟨k,hk⟩:=List.mem_iff_getElem?.mp h;have GL:=(List.getElem?_eq_some_iff.mp hk).1;exact(Od k _ l (AL (by rw[AB];omega)) hk).1
 .have hn:=(List.getElem?_eq_some_iff.mp h).1;obtain⟨k,ch,h1,h2,h3⟩:=d hn;have hk:k<ls.length:=by
   have:=(List.getElem?_eq_some_iff.mp h1).1;rw[AB]at this;omega
  obtain⟨p,up⟩:=Od k ch _ h1 (AL hk);have Q:CF ns l.r l.g l.cs:=C l (BL h);refine⟨k,ls[k],by rw[H h,h3],AL hk,qQ nd (OQ Q.up) Q.sub p (up.imp λ{a b}le m=>N9 λi=>?_)⟩;have:=k7 (w h1) h2 h m i;omega
 .obtain⟨t,s,e⟩:∃t∈B6 (B5 Ls),((B6 (B5 Ls)).map c)[k]?=some (c t):=by
   have V:k<(B6 (B5 Ls)).length:=by omega
   exact⟨(B6 (B5 Ls))[k],FJ V,by rw[AM,AL V];rfl⟩
  have h1:=(DN.mp s).1;have h2:t<Ls.length:=G.len▸h1;exact⟨t,_,by rw[H (AL h2),J.at_ k (c t) e t (VJ (F t h1).1)]⟩
 .rw[H m]at P;rw[H i]at O;cases P;cases O;have e1:(f j:Int)=(f k:Int):=e1;have R:(ns.length:Int) - (a.cs.length:Int)<=(ns.length:Int) - (b.cs.length:Int):=R;have la:=N m;have lb:=N i;obtain⟨i1,c1,p1,p2,p3⟩:=d (List.getElem?_eq_some_iff.mp m).1;obtain⟨i2,c2,L,X,q3⟩:=d (List.getElem?_eq_some_iff.mp i).1;have ei:i1=i2:=by omega
  subst ei;rw[p1]at L;cases L;rcases pw_two (w p1) p2 X with e|h|h
  .subst e;rw[m]at i;cases i;exact λx hx=>hx
  .obtain⟨x,y,E,D,o⟩:=GY h;rw[i]at E;cases E;rw[m]at D;cases D;rcases o with⟨o,_⟩|⟨_,o⟩
   .intro x hx;rw[<- o];exact hx
   .exact o
  .obtain⟨x,y,E,D,o⟩:=GY h;rw[m]at E;cases E;rw[i]at D;cases D;rcases o with⟨o,_⟩|⟨_,o⟩
   .intro x hx;rw[o];exact hx
   .exact aw (OQ (show CF ns a.r a.g a.cs from C a (BL m)).up) o (by omega)
 .exact(List.pairwise_and_iff.mpr ⟨W,σ⟩).imp λ{a b}h=>Nat.lt_of_le_of_ne h.1 h.2
 .rw[S];exact qe G Y (λb i=>G.len.symm▸lB b i) aB
theorem aI{P:List Nat->List Str->Prop}:∀{chs:List (List Nat)}{ys:List PV},ys.length=(chs.map Ar).length->(∀(j:Nat)x y,(chs.map Ar)[j]?=some x->ys[j]?=some y->∀ch,x=Ar ch->∃ms:List Str,y=.lst (ms.map .str)/\P ch ms)->
  ∃ls:List (List Str),ys=ls.map (λl=>PV.lst (l.map .str))/\∀(k:Nat)ch l,chs[k]?=some ch->ls[k]?=some l->P ch l
 | [],[],_,_=>⟨[],rfl,λk ch l h=>by cases h⟩
 | [],_::_,h,_=>by cases h
 |_::_,[],h,_=>by cases h
 |ch::chs,y::ys,h,hP=>by
  obtain⟨ls,rfl,q⟩:=aI (chs:=chs) (ys:=ys) (Hm h) λj x y hx a=>hP (j+1) x y hx a;obtain⟨ms,rfl,p⟩:=hP 0 _ _ rfl rfl ch rfl;exact⟨ms::ls,rfl,λk ch l h1 h2=>by
   cases k with
   |zero=>cases h1;cases h2;exact p
   |succ k=>exact q k ch l h1 h2⟩
theorem lP(lo:Lo):((List.range lo.length).filter λt:Nat=>!((lo.map Bv).any λp=>C4 p (.int (t:Int))))=B6 lo:=by
 unfold B6;refine List.filter_congr λt _=>?_;have e:((lo.map Bv).any λp=>C4 p (.int (t:Int)))=decide (t∈lows lo):=by
  refine Bool.eq_iff_iff.mpr ?_;rw[eW,KJ];constructor
  .rintro⟨p,b,e⟩;obtain⟨o,ho,rfl⟩:=List.mem_map.mp b;cases o with
   |none=>cases e
   |some w=>
    have e:decide ((w:Int)=(t:Int))=true:=e;have e:=Int.ofNat_inj.mp (iY e);subst e;exact List.mem_filterMap.mpr ⟨some w,ho,rfl⟩
  .intro h;obtain⟨u,a⟩:=Ey.mp h;exact⟨.int (t:Int),List.mem_map.mpr ⟨some t,BL a,rfl⟩,eV rfl⟩
 rw[e,decide_not]
def WU(T:Addr)(pos:Pos):Pre:=λl R=>∃(ns:List Str)(Ls:List Lp),l=[.raw (FW T pos ns),.is (.lst (Ls.map Lp.P))]/\(ns.length<=40/\ns.Nodup)/\Ls.length<=12/\(∀l∈Ls,l.Good ns)/\
 R=.is λp=>∃(ls:List (List Str))(ps:List (Int×Int))(A:List Nat),p=.tup [.lst (ls.map λl=>.lst (l.map .str)),.lst (ps.map Dz),.lst (A.map nP)]/\HY ns Ls ls ps A
noncomputable def EH(Ls:List Lp)(j k:Nat):Bool:=match Ls[j]?,Ls[k]? with
 |some a,some b=>decide (CT b a∨CT a b)
 |_,_=>false
structure G4 (Ls:List Lp) (s:List Nat):Prop where
 up:s.Pairwise (· < ·)
 lt:∀x∈s,x<Ls.length
 ap:s.Pairwise λj k=>EH Ls j k=false
def As(s:List Nat):Nat:=match s.getLast? with
 |none=>0
 |some x=>x+1
def wN(n:Nat)(s:List Nat):Nat:=2 ^ (n - As s)
def exts(Ls:List Lp)(s:List Nat)(m:Nat):List (List Nat):=(((List.range m).map (As s + ·)).filter λk=>!(s.any λj=>EH Ls j k)).map λk=>s++[k]
noncomputable def WN(n:Nat)(rs:List (List Nat)):Nat:=(rs.map (wN n)).sum
theorem Ry(n:Nat)(a b:List (List Nat)):WN n (a++b)=WN n a+WN n b:=by unfold WN;rw[Cw,List.sum_append]
theorem Sn(n:Nat)(s:List Nat):WN n [s]=wN n s:=by simp[WN]
theorem Rw(n:Nat):∀(rs:List (List Nat)),rs.length<=WN n rs
 | []=>BN _
 |s::rs=>by
  have q:=Rw n rs;have h:0<wN n s:=eC _;show rs.length+1<=((s::rs).map (wN n)).sum;rw[Ce,List.sum_cons];show _<=wN n s+WN n rs;omega
theorem Q7(s:List Nat)(x:Nat):As (s++[x])=x+1:=by unfold As;rw[List.getLast?_concat]
theorem vR(up:s.Pairwise (· < ·)):∀x∈s,x<As s:=by
 intro x hx;rcases Vl s with rfl|⟨l,y,rfl⟩
 .cases hx
 .rw[Vi]at hx up ⊢;rw[Q7];rcases List.mem_append.mp hx with h|h
  .have:=(List.pairwise_append.mp up).2.2 x h y Ae;omega
  .rw[List.mem_singleton.mp h];omega
theorem YW(Ls:List Lp)(s:List Nat)(m:Nat):exts Ls s (m+1)=exts Ls s m++if(s.any λj=>EH Ls j (As s+m))then[]else[s++[As s+m]]:=by
 unfold exts;rw[List.range_succ,Cw,QR,Cw]
 congr 1
 show((List.filter _ [As s+m]).map _)=_;cases h:s.any λj=>EH Ls j (As s+m)with
 |true=>rw[QU (by rw[h];decide)];rfl
 |false=>rw[QV (by rw[h];rfl)];rfl
theorem U0(Ls:List Lp)(s:List Nat)(n:Nat):∀m,m<=n - As s->WN n (exts Ls s m)+2 ^ (n - As s - m)<=2 ^ (n - As s)
 | 0,_=>by show 0+_<=_;rw[dz];omega
 |m+1,h=>by
  have a:=U0 Ls s n m (by omega);rw[YW,Ry];have e:n - As s - m=(n - As s - (m+1))+1:=by omega
  rw[e,dy]at a;have q:WN n (if(s.any λj=>EH Ls j (As s+m))then[]else[s++[As s+m]])<=2 ^ (n - As s - (m+1)):=by
   split
   .exact BN _
   .rw[Sn];unfold wN;rw[Q7];exact LM (iI (2 ^ ·) (by omega))
  omega
structure JM (Ls:List Lp) (b:List Nat) (rs:List (List Nat)):Prop where
 rows:∀s∈rs,G4 Ls s
 best:G4 Ls b
 all:∀B,G4 Ls B->B.length<=b.length∨∃s∈rs,s <+: B
theorem G4.nil(Ls:List Lp):G4 Ls []:=⟨.nil,λx h=>(by cases h),.nil⟩
theorem JM.init(Ls:List Lp):JM Ls [] [[]]:=⟨λs h=>by rw[List.mem_singleton.mp h];exact .nil Ls,.nil Ls,λB _=>.inr ⟨[],Ae,List.nil_prefix⟩⟩
noncomputable def GS(b s:List Nat):List Nat:=if b.length<s.length then s else b
theorem JM.step(I:JM Ls b (rs++[s])):JM Ls (GS b s) (rs++exts Ls s (Ls.length - As s)):=by
 have gs:G4 Ls s:=I.rows s (by simp);refine⟨λt d=>?_,?_,λB a=>?_⟩
 .rcases List.mem_append.mp d with h|h
  .exact I.rows t (by simp[h])
  .obtain⟨k,hk,rfl⟩:=List.mem_map.mp h;obtain⟨h1,h2⟩:=List.mem_filter.mp hk;obtain⟨i,hi,rfl⟩:=List.mem_map.mp h1;have hi:=List.mem_range.mp hi;refine⟨List.pairwise_append.mpr ⟨gs.up,dr _ _,λx hx y c=>?_⟩,λx hx=>?_,List.pairwise_append.mpr ⟨gs.ap,dr _ _,λx hx y c=>?_⟩⟩
   .rw[List.mem_singleton.mp c];have:=vR gs.up x hx;omega
   .rcases List.mem_append.mp hx with h|h
    .exact gs.lt x h
    .rw[List.mem_singleton.mp h];omega
   .rw[List.mem_singleton.mp c];cases e:EH Ls x (As s+i)with
    |false=>rfl
    |true=>
     have q:(s.any λj=>EH Ls j (As s+i))=true:=List.any_eq_true.mpr ⟨x,hx,e⟩;rw[q]at h2;cases h2
 .unfold GS;split
  .exact gs
  .exact I.best
 .have g:b.length<=(GS b s).length/\s.length<=(GS b s).length:=by unfold GS;split <;> omega
  rcases I.all B a with h|⟨t,d,hp⟩
  .exact .inl (CC h g.1)
  .rcases List.mem_append.mp d with h|h
   .exact .inr ⟨t,D6 _ h,hp⟩
   .rw[List.mem_singleton.mp h]at hp;obtain⟨r,rfl⟩:=hp;cases r with
    |nil=>rw[Ef];exact .inl g.2
    |cons k r=>
     obtain⟨p,o,f⟩:=List.pairwise_append.mp a.up;obtain⟨_,_,n⟩:=List.pairwise_append.mp a.ap;have hk:As s<=k:=by
      rcases Vl s with rfl|⟨l,y,rfl⟩
      .exact BN _
      .rw[Vi]at f ⊢;rw[Q7];exact f y (by simp) k Ae
     have u:=a.lt k (by simp);refine .inr ⟨s++[k],Bo _ (List.mem_map.mpr ⟨k,List.mem_filter.mpr ⟨List.mem_map.mpr ⟨k - As s,List.mem_range.mpr (by omega),by omega⟩,?_⟩,rfl⟩),⟨r,by rw[BY];rfl⟩⟩;have q:(s.any λj=>EH Ls j k)=false:=by
      rw[xv];intro z;obtain⟨j,m,e⟩:=List.any_eq_true.mp z;rw[n j m k Ae]at e;cases e
     rw[q];rfl
def dM:Pre:=λl R=>∃(Ls:List Lp),l=[.is (.lst (Ls.map Lp.P))]/\Ml Ls/\R=.is λp=>∃b,p=Ar b/\G4 Ls b/\∀B,G4 Ls B->B.length<=b.length
theorem OU{k:Nat}{a b:Lp}(d:Ls[j]?=some a)(c:Ls[k]?=some b):EH Ls j k=decide (CT b a∨CT a b):=by unfold EH;rw[d,c]
theorem qZ(h:HY ns Ls ls ps A)(i:G4 Ls b)(j:∀B,G4 Ls B->B.length<=b.length):A.length=b.length:=by
 have at_:∀{x:Nat},x<Ls.length->∃l,Ls[x]?=some l:=λh=>⟨_,AL h⟩;refine Nat.le_antisymm (j A ⟨h.up,h.lt,?_⟩) (h.most b (i.up.imp λh=>Ad h) i.lt λx hx y d AJ=>?_)
 .refine h.up.imp_of_mem λ{x y}hx d A8=>?_;obtain⟨a,ea⟩:=at_ (h.lt x hx);obtain⟨c,g⟩:=at_ (h.lt y d);rw[OU ea g];refine fD λz=>?_;rcases(Kz.ck (Ad A8) ea g).mp z.symm with q|q
  .exact h.ap x hx y d q
  .exact h.ap y d x hx q
 .intro q;obtain⟨a,ea⟩:=at_ (i.lt x hx);obtain⟨c,g⟩:=at_ (i.lt y d);have f:=(Kz.ck AJ ea g).mpr (.inl q);rcases pw_two i.ap hx d with e|e|e
  .exact AJ e
  .rw[OU ea g]at e;exact of_decide_eq_false e f.symm
  .rw[OU g ea]at e;exact of_decide_eq_false e f
theorem uc(h:s.getLast?=some x):BM (s.map nP) (-1)=some (nP x):=by
 obtain⟨l,rfl⟩:=List.getLast?_eq_some_iff.mp h;exact XC
def X8:Pre:=λl R=>∃(ns:List Str)(m:Nat),l=[.AH,.is (.lst (ns.map .str)),.is (.int m)]/\m<=12/\ns.length<=40/\ns.Nodup/\R=.new λxs=>∃Ls:List Lp,xs=Ls.map Lp.P/\Ls.length<=m/\∀l∈Ls,l.Good ns
theorem HY.le(h:HY ns Ls ls ps A):ls.length<=Ls.length:=by
 have q:=Kz.GJ (l2:=List.range Ls.length) (h.up.imp λh=>Ad h) λx hx=>List.mem_range.mpr (h.lt x hx);rw[Cd]at q;have:=h.len;omega
theorem HY.aJ(h:HY ns Ls ls ps A){p:Int×Int}(c:p∈ps):∃k:Nat,k<ls.length/\p.1=(k:Int):=by
 obtain⟨n,b⟩:=List.mem_iff_getElem?.mp c;have d:n<Ls.length:=h.pz▸(List.getElem?_eq_some_iff.mp b).1;obtain⟨k,a,e,hk,_⟩:=h.kI n _ (AL d);rw[b]at e;cases e;exact⟨k,(List.getElem?_eq_some_iff.mp hk).1,rfl⟩
theorem HY.range(h:HY ns Ls ls ps A){c:List Int}(nd:c.Nodup)(mem:∀x,x∈c↔x∈ps.map Prod.fst)(up:c.Pairwise (·<=·)):c=(List.range ls.length).map λk:Nat=>(k:Int):=by
 have d:((List.range ls.length).map λk:Nat=>(k:Int)).Pairwise (·<=·):=List.pairwise_map.mpr (List.pairwise_lt_range.imp λh=>Int.ofNat_le.mpr (FK h))
 have f:((List.range ls.length).map λk:Nat=>(k:Int)).Nodup:=yA _ (λa b(h:a≠b)z=>h (Int.ofNat_inj.mp z)) dk;refine List.Perm.eq_of_pairwise (λa b _ _ h1 h2=>Int.le_antisymm h1 h2) up d ((yV nd f).mpr λx=>?_);rw[mem,dh,dh];constructor
 .rintro⟨p,i,rfl⟩;obtain⟨k,hk,e⟩:=h.aJ i;exact⟨k,List.mem_range.mpr hk,e.symm⟩
 .rintro⟨k,hk,rfl⟩;obtain⟨n,g,e⟩:=h.ip k (List.mem_range.mp hk);exact⟨_,BL e,rfl⟩
theorem lR(a b:Int×Int)(h:Dz a=Dz b):a=b:=by
 obtain⟨x,y⟩:=a;obtain⟨z,w⟩:=b;have h:PV.tup [.int x,.int y]=.tup [.int z,.int w]:=h;injection h with h
 injection h with h1 h
 injection h with h2 h
 injection h1 with h1
 injection h2 with h2
 rw[h1,h2]
end Fz
set_option maxHeartbeats 8000000
namespace Pf
open L2 Lw
variable{w:World}{mg:zw}{IE T c cT f:Addr}{α:Type}{Ta:Tok}{l:PySem.W.OpenLaw}
abbrev St:=L2.St
noncomputable def top(i:Nat):Stmt:=PySem.Challenge.pw_stirround_k46_as_many_lines.main.body.getD i (.Pass ⟨0,0,0,0⟩)
abbrev Sw:Stmt:=top 26
abbrev R0:Stmt:=top 27
abbrev R4:Stmt:=top 28
abbrev Uj:Stmt:=top 29
abbrev R3:Stmt:=top 30
abbrev VE:Stmt:=top 31
abbrev U8:Stmt:=top 33
abbrev OP:Stmt:=top 34
abbrev Tx:Stmt:=top 5
abbrev OD:Stmt:=top 12
abbrev Tj:Stmt:=top 9
abbrev VF:Stmt:=top 10
abbrev SQ:Stmt:=top 11
abbrev QC:Stmt:=top 19
abbrev Ox:Stmt:=top 18
abbrev Rf:Stmt:=top 15
abbrev Uh:Stmt:=top 16
abbrev Nt:Stmt:=top 17
abbrev Qi:Stmt:=top 20
abbrev Ci:Stmt:=top 21
abbrev Ou:Stmt:=top 22
abbrev Nu:Stmt:=top 24
abbrev PK:Stmt:=top 23
abbrev LA:Stmt:=top 14
abbrev Qx:Stmt:=top 35
abbrev SD:Stmt:=top 36
abbrev OX:Stmt:=top 37
abbrev VC:Stmt:=top 38
abbrev Uv:Stmt:=top 32
abbrev ID:Stmt:=top 39
variable{P:Program}{K:zu}{Zu:Heap}{fd:FuncData}
def ZH{us:List α}(h:us.length=1):∃a,us=[a]:=by
 rcases us with _|⟨a,_|⟨b,us⟩⟩
 .cases h
 .exact⟨a,rfl⟩
 .cases h
def ln2{us:List α}(h:us.length=2):∃a b,us=[a,b]:=by
 rcases us with _|⟨a,us⟩
 .cases h
 .obtain⟨b,rfl⟩:=ZH (Hm h);exact⟨a,b,rfl⟩
def WO{us:List α}(h:us.length=3):∃a b c,us=[a,b,c]:=by
 rcases us with _|⟨a,us⟩
 .cases h
 .obtain⟨b,c,rfl⟩:=ln2 (Hm h);exact⟨a,b,c,rfl⟩
def Ye{us:List α}(h:us.length=4):∃a b c d,us=[a,b,c,d]:=by
 rcases us with _|⟨a,us⟩
 .cases h
 .obtain⟨b,c,d,rfl⟩:=WO (Hm h);exact⟨a,b,c,d,rfl⟩
def b8{us:List α}(h:us.length=5):∃a b c d e,us=[a,b,c,d,e]:=by
 rcases us with _|⟨a,us⟩
 .cases h
 .obtain⟨b,c,d,e,rfl⟩:=Ye (Hm h);exact⟨a,b,c,d,e,rfl⟩
def gi{us:List α}(h:us.length=6):∃a b c d e f,us=[a,b,c,d,e,f]:=by
 rcases us with _|⟨a,us⟩
 .cases h
 .obtain⟨b,c,d,e,f,rfl⟩:=b8 (Hm h);exact⟨a,b,c,d,e,f,rfl⟩
local macro_rules | `(tactic| walk_at "bD1")=>`(tactic| (intro _ _ _ _ _ _ us hl;obtain⟨_,e⟩:=ZH hl;subst e;rfl))
local macro_rules | `(tactic| walk_at "bD2")=>`(tactic| (intro _ _ _ _ _ _ us hl;obtain⟨_,_,e⟩:=ln2 hl;subst e;rfl))
local macro_rules | `(tactic| walk_at "bD3")=>`(tactic| (intro _ _ _ _ _ _ us hl;obtain⟨_,_,_,e⟩:=WO hl;subst e;rfl))
local macro_rules | `(tactic| walk_at "bD4")=>`(tactic| (intro _ _ _ _ _ _ us hl;obtain⟨_,_,_,_,e⟩:=Ye hl;subst e;rfl))
local macro_rules | `(tactic| walk_at "bD5")=>`(tactic| (intro _ _ _ _ _ _ us hl;obtain⟨_,_,_,_,_,e⟩:=b8 hl;subst e;rfl))
local macro_rules | `(tactic| walk_at "bD6")=>`(tactic| (intro _ _ _ _ _ _ us hl;obtain⟨_,_,_,_,_,_,e⟩:=gi hl;subst e;rfl))
abbrev nS(K:zu)(x:Str)(v:Value):Prop:=PySem.W.nsIn K mainGlobals x=some (some v)
abbrev nN(K:zu)(x:Str):Prop:=PySem.W.nsIn K mainGlobals x=some none
open Fz
def ZWM(t:String):Lean.MacroM (Lean.TSyntax `tactic):=do
 let g:Lean.TSyntax `tactic←`(tactic| fail)
 let k←`(tactic| case wk=>rfl)
 let n (s:String):=`(tactic| walk_at $(Lean.quote s):str)
 (t.splitOn " ").foldrM (λs r=>do
  let l:=((s.drop 1).toString.splitOn "/").map λx=>Lean.mkIdent (`Fz++x.toName)
  let h:Lean.Ident:=l.getLast!
  let c:=s.front
  let w:=(h.getId.getString!.toLower.replace "o" "e").replace "i" "e"
  let z←if c=='j' then `($h ?wj ?wk ?_)else if c=='k'||c=='K' then `($h ?wk ?_)else `($h ?_)
  let z←l.dropLast.foldrM (λ(f:Lean.Ident)(z:Lean.Term)=>`($f ($z))) z
  let p←if c=='e' then `(tactic| show ∃_,_=$h _/\_)else if c=='s' then `(tactic| show $h _ _ _)else `(tactic| refine' $z)
  let p←if c=='K'||c=='R'||c=='j' then pure p else `(tactic| with_reducible $p:tactic)
  let q←if c=='e' then `(tactic| refine⟨_,rfl,?_⟩)else if c=='s' then n w else if c=='n' then n "wn" else if c=='p' then n "wp" else if c=='k'||c=='K' then pure k else if c=='j' then `(tactic| ((case wj=>rfl);$k:tactic))else `(tactic| skip)
  `(tactic| first|($p:tactic;$q:tactic) | $r:tactic)) g
local macro_rules | `(tactic| walk_at "wp")=>ZWM "kKp/O0/G2 kKp/MJ/G2 kKp/O0/O0/G2 kKp/MJ/MJ/G2 kKp/MJ/O0/G2 kuY kAK rDD rK3 rKo rak ruw rdC riM rQg rjW rc7 ruJ rTw koG rGF rEL rUT rka rUC reU klI rTq KoD Kwq Kt9 KaW Kxk"
local macro_rules | `(tactic| walk_at "wn")=>ZWM "rJP raF rv8 KVH jsQ"
local macro_rules | `(tactic| walk_at "wq")=>do
 let z←ZWM "kOh kbc kC8 kTo"
 `(tactic| first | $z:tactic|(refine Dj (Cu ?_);walk_at "wn")|(refine Dj ?_;walk_at "wp"))
local macro_rules | `(tactic| walk_at "wz")=>`(tactic| first
 | ((with_reducible refine' cx ?wk ?_);(case wk=>rfl))
 | (refine Dg (Cu ?_);walk_at "wn")
 | (refine Dg ?_;walk_at "wp"))
local macro_rules | `(tactic| walk_at "wt")=>ZWM "rHu rJg rIp rRQ rwH rvf"
local macro_rules | `(tactic| walk_at "we")=>ZWM "rJj rIG rJS rY1 rUc rEt"
local macro_rules | `(tactic| walk_at "w")=>do
 let z←ZWM "rBk rE2 rGh rDQ kU6 kc8 kir nFw pMI kUw nMr pGW"
 let z1←ZWM "eOV.tp eOV.fz"
 let z2←ZWM "edP"
 let z3←ZWM "sWn sWq sWz sWt sWe sWo sWi"
 let z4←ZWM "ePV.int ePV.str ePV.bl"
 `(tactic| first | $z1:tactic|((with_reducible show ∃_ _,_=OV.nd NK.lst _ _/\_);refine⟨_,_,rfl,?_⟩)|((with_reducible show ∃_ _ _,_=PV.int _/\_/\_/\_);refine⟨_,_,_,rfl,rfl,rfl,?_⟩)|((with_reducible show ∃_ _ _,_=KY _ _ _/\_);refine⟨_,_,_,rfl,?_⟩) | $z2:tactic|((with_reducible show Wp _ _ _);first|walk_at "wp" | (refine Cu ?_;walk_at "wn")) | $z3:tactic|((with_reducible show Ws _ _ _ _);$z:tactic) | $z4:tactic|((with_reducible show(_:Bool)=_/\_);refine⟨rfl,?_⟩)|((with_reducible show ∃_ _,_=PV.int _/\L2.BM _ _=some _/\_);refine⟨_,_,rfl,rfl,?_⟩)|((with_reducible show ∃_,(_=PV.lst _/\_)∨(_=PV.tup _/\_));first|refine⟨_,.inl ⟨rfl,?_⟩⟩|refine⟨_,.inr ⟨rfl,?_⟩⟩)|((with_reducible show ∃_,_=List.map _ _/\_);first|refine⟨_,rfl,?_⟩|refine⟨[],rfl,?_⟩))
local macro_rules | `(tactic| walk_at "ww")=>`(tactic| repeat walk_at "w")
local macro_rules | `(tactic| walk_at "z1")=>`(tactic| exact⟨rfl,rfl,rfl,by decide +kernel,rfl,by decide +kernel,by decide +kernel⟩)
local macro_rules | `(tactic| walk_at "z2")=>`(tactic| exact⟨rfl,by decide +kernel,by decide +kernel,rfl,rfl,by decide +kernel,by decide +kernel,by decide +kernel,by decide +kernel⟩)
def MM:BJ ["script","k","cell","rest_here"] ["script","k"] (AS Sw):=by walk_at "z1"
variable(Ab:mg "len"=none)(Mz:AG P w K mg Zu "_law_letters" 1 ["number"] (Wr))(Bx:AG P w K mg Zu "_law_take" 1 ["pot","many"] (Ke))(U7:AG P w K mg Zu "_law_name" 2 ["pot","names"] (bx K))(C7:mg "range"=none)(VA:AG P w K mg Zu "_law_names" 3 ["pot","many"] (Zc))(E8:mg "sorted"=none)(KW:mg "tuple"=none)(SW:AG P w K mg Zu "_law_some_loop" 2 ["pot","row"] (Sa))(Ku:mg "all"=none)(Hz:mg "list"=none)(EZ:mg "set"=none)(SR:AG P w K mg Zu "is_coming" 1 ["row","coming"] (bg K))(Qs:AG P w K mg Zu "is_gap" 1 ["row","gap"] (cZ K))(Ui:mg "RULES"=some (.ref IE))(V6:∀H,Ag K H IE [.str "none",.str "ahead",.str "all"])(Ud:AG P w K mg Zu "is_loop" 2 ["row","thing"] (bI K))(T2:AG P w K mg Zu "check_loop" 3 ["row","loop"] (TF K))(U2:mg "MOST_LOOPS"=some (.int 12 Ta))(Ql:AG P w K mg Zu "has_all_of" 1 ["loop","other"] (B3 Z2))(Sm:AG P w K mg Zu "is_above" 2 ["loops","number","upper"] (B3 cy))(Ur:fd.code=.ref c)(hC:PySem.W.codeHdIn K c T=true)(bA:Zu.BuiltinsAt mg T)(Hd:mainGlobals≠T)(NV:mg "enumerate"=none)(Rm:AG P w K mg Zu "uppermost_untried" 1 ["chain","tried"] (B3 Zo))(Ru:AG P w K mg Zu "apart_of" 15 ["above","lower_of","chains"] (B3 Yc))(Th:AG P w K mg Zu "chain_down" 1 ["lower_of","top"] (B3 YJ))(V9:AG P w K mg Zu "check_loops" 4 ["row","loops"] (B3 c9))(Tz:AG P w K mg Zu "greatest_pairing" 15 ["above"] (B3 dB))(So:AG P w K mg Zu "line_of" 3 ["row","loops","chain"] (B3 (WI T (Df Ci))))(S6:AG P w K mg Zu "numbers_above" 3 ["loops","number"] (B3 W5))(Tv:AG P w K mg Zu "seats_of" 1 ["row","loops","chains"] (B3 aA))(Jf:AG P w K mg Zu "_law_within" 1 ["one","other"] (B3 Qk))(Tu:AG P w K mg Zu "_law_fit" 2 ["one","other"] (B3 Xk))(Qr:mg "any"=none)(Qz:mg "bool"=none)(UQ:mg "int"=none)(OF:mg "isinstance"=none)(T1:AG P w K mg Zu "_law_fewest_lines" 3 ["loops"] (B3 dM))(Ss:AG P w K mg Zu "_law_loops" 3 ["pot","row","most"] (B3 X8))(Rp:AG P w K mg Zu "_law_pot" 1 ["script","k"] (VO K))(T7:AG P w K mg Zu "_law_rising" 2 ["loops","seats"] (B3 XF))(SE:AG P w K mg Zu "_law_row" 4 ["pot","most"] (TB))(UL:AG P w K mg Zu "_law_whole" 1 ["found"] (B3 XZ))(U3:AG P w K mg Zu "lines_of" 16 ["row","loops"] (B3 (WU T (Df Ci))))(Ts:mg "max"=none)(TU:mg "min"=none)
def m6(F:AQ K "_law_pot" "_law_pot" Sw f fd)(m:mg "_law_pot"=some (.ref f)):
  AG P w K mg Zu "_law_pot" 1 ["script","k"] (VO K):=by
 refine AG.mk F (F.binds (by walk_at "bD2")) m (F.EE (k:=0) MM (λvs H Q E h=>?_) (λAZ A outer s H vs Q E t h=>?_))
 .obtain⟨a,ns,k,rfl,b,e,k1,q⟩:=h;rfl
 obtain⟨a,ns,k,rfl,b,e,k1,q⟩:=h;refine⟨_,(AR rfl (B1 2 MM.nd AD)
   (AR rfl (Ca (Cb (Bf O9 (qv 1) (B8 LB Ab (A3 (qv 0) A5))) (AX rfl (B1 2 MM.nd (BD Iq (Aa Bg (qv 0) (qv 1)) (BD Ju (BD Ju (BD Ju (BD KU AD AD) (BD KU AD AD)) (BD KU AD AD)) (BD KU AD AD))))) CY))
   (AR rfl (B1 3 MM.nd AD)
   (AR rfl (Ca (Cb (Bf pR (qv 2) (BD KU AD AD)) (AX rfl (B1 3 MM.nd (qv 2))) CY))
   (AX rfl (BS (EI (A3 (qv 3) (A3 (BD Iq (BD Ju (BD G9 (BD G9 (BD Iq (qv 2) AD) (BD Ju AD (qv 1))) AD) AD) AD) A5))))))))),?_⟩
 have j:(ns.map V.int).length=ns.length:=AB _;refine⟨λσ' H'=>∃c:Int,σ'=[some (.ref a),some (.int k),some (.int c),none]/\H=H'/\0<=c/\c<10 ^ 256,?_,?_⟩
 .refine⟨_,rfl,_,rfl,a,_,rfl,.inl b,_,_,rfl,rfl,_,rfl,?_⟩;refine CI (λc=>?_) (λc=>?_)
  .have c':k<(((ns.map V.int).length:Nat):Int):=iY c;rw[j]at c';have hk:k.toNat<ns.length:=by omega
   have i:BM (ns.map V.int) k=some (.int ns[k.toNat]):=Pw e (by rw[AM,AL hk] <;> rfl)
   refine⟨_,rfl,_,rfl,a,_,_,_,rfl,rfl,b,i,_,_,rfl,rfl,⟨by decide,by decide,by decide +kernel⟩,_,_,rfl,rfl,⟨by decide,by decide,by decide +kernel⟩,_,_,rfl,rfl,⟨by decide +kernel,by decide +kernel⟩,_,_,rfl,rfl,⟨by decide,by decide,by decide +kernel⟩,_,_,rfl,rfl,⟨by decide +kernel,by decide +kernel⟩,
    _,_,rfl,rfl,⟨by decide,by decide,by decide +kernel⟩,_,_,rfl,rfl,⟨by decide +kernel,by decide +kernel⟩,_,_,rfl,rfl,(by show(0:Int)<_;decide +kernel),?_⟩
   exact⟨_,rfl,rfl,J5 _ (by decide +kernel),J4 _ (by decide +kernel)⟩
  .exact⟨0,rfl,rfl,by decide,by decide +kernel⟩
 rintro σ' H'⟨c,rfl,rfl,r,o⟩;refine⟨λσ' H'=>∃d:Int,σ'=[some (.ref a),some (.int k),some (.int c),some (.int d)]/\H=H'/\0<=d/\d<10 ^ 256,?_,?_⟩
 .refine⟨_,rfl,_,_,rfl,rfl,⟨by decide,by decide,by decide +kernel⟩,_,_,rfl,rfl,_,rfl,?_⟩;refine CI (λ_=>?_) (λ_=>?_)
  .exact⟨_,rfl,c,rfl,rfl,r,o⟩
  .exact⟨0,rfl,rfl,by decide,by decide +kernel⟩
 rintro σ' H'⟨d,rfl,rfl,n,l⟩;have e0:0<=c % 2147483629:=J5 _ (by decide);have e1:c % 2147483629<2147483629:=J4 _ (by decide);refine⟨_,rfl,_,rfl,_,_,rfl,rfl,(by show(0:Int)<2147483629;decide),_,rfl,_,_,rfl,rfl,⟨by decide +kernel,Kf (by omega) (by omega)⟩,_,_,rfl,rfl,_,_,rfl,rfl,_,_,rfl,rfl,⟨Kf (by omega) (by omega),by decide +kernel⟩,_,_,rfl,rfl,(by show(0:Int)<2147483647;decide),?_⟩;refine⟨(by show 2<=sizeLine;decide),λp g=>?_⟩;exact q p _ g (C0 g _) ⟨d,_,AV,n,l,J5 _ (by decide),J4 _ (by decide)⟩
def ZG:BJ ["pot","many","found"] ["pot","many"] (AS R0):=by walk_at "z1"
def uR(F:AQ K "_law_take" "_law_take" R0 f fd)(m:mg "_law_take"=some (.ref f)):
  AG P w K mg Zu "_law_take" 1 ["pot","many"] (Ke):=by
 refine AG.mk F (F.binds (by walk_at "bD2")) m (F.EE (k:=0) ZG (λvs H Q E h=>?_) (λAZ A outer s H vs Q E r h=>?_))
 .obtain⟨p,m,rfl,⟨a,b,d,a0,a1,b0,i⟩,e,n,q⟩:=h;rfl
 obtain⟨p,m,rfl,⟨a,b,d,a0,a1,b0,i⟩,e,n,q⟩:=h;refine⟨_,(AR rfl (Cb (Bf MS (Aa Bg (qv 0) AD) AD) (AR rfl (B1 2 ZG.nd (BD Iq (Aa Bg (qv 0) AD) (qv 1)))
   (AR rfl (QK (BD T9 (Aa Bg (qv 0) AD) (qv 1)) (T5 (qv 0) AD set_list))
   (AX rfl (BS (qv 2))))) CY)
   (AR rfl (QK (BD Iq (BD G9 (BD Ju (Aa Bg (qv 0) AD) AD) AD) AD) (T5 (qv 0) AD set_list))
   (AX rfl (BS (BD Iq (BD T9 (BD Iq (BD Ju (Aa Bg (qv 0) AD) (Aa Bg (qv 0) AD)) AD) AD) (qv 1)))))),?_⟩
 refine⟨_,rfl,p,_,_,_,rfl,rfl,AI.of d,rfl,_,_,rfl,rfl,_,rfl,?_⟩;refine CI (λc=>?_) (λc=>?_)
 .have c':0<a:=iY c;refine⟨_,rfl,p,_,_,_,rfl,rfl,AI.of d,rfl,_,rfl,_,_,rfl,rfl,e,?_⟩;refine⟨_,rfl,p,_,_,_,rfl,rfl,AI.of d,rfl,_,rfl,_,_,rfl,rfl,⟨e,Kf (by omega) (by omega)⟩,?_⟩;refine⟨_,rfl,p,_,_,_,rfl,rfl,d,rfl,?_⟩;refine⟨_,rfl,?_⟩;refine q _ _ (J5 _ (by omega)) (J4 _ e) ⟨⟨a / m,b,AV,Int.ediv_nonneg a0 (by omega),y4 (Int.ediv_le_self _ a0) a1,b0,i⟩,FV.upd⟩
 .refine⟨_,rfl,p,_,_,_,rfl,rfl,AI.of d,rfl,_,_,rfl,rfl,⟨Kf (by omega) (by omega),by decide +kernel⟩,_,_,rfl,rfl,_,_,rfl,rfl,(by show(0:Int)<2147483647;decide),?_⟩;refine⟨_,rfl,p,_,_,_,rfl,rfl,d,rfl,?_⟩;have l:0<=(b * 69621+12345) % 2147483647:=J5 _ (by decide);have j:(b * 69621+12345) % 2147483647<2147483647:=J4 _ (by decide);generalize o:(b * 69621+12345) % 2147483647=b' at l j;have g:(upd H p (.lst [.int a,.int ((b * 69621+12345) % 2147483647)])) p=some (.lst [.int a,.int b']):=by rw[AV,o]
  refine⟨_,rfl,p,_,_,_,rfl,rfl,AI.of g,rfl,_,rfl,p,_,_,_,rfl,rfl,AI.of g,rfl,_,_,rfl,rfl,⟨Kf (by omega) (by omega),Kf (by omega) (by omega)⟩,_,_,rfl,rfl,(by show(0:Int)<2147483629;decide),?_⟩;refine⟨_,_,rfl,rfl,⟨(by show(0:Int)<64;decide),by decide +kernel⟩,_,rfl,_,_,rfl,rfl,e,?_⟩;exact q _ _ (J5 _ (by omega)) (J4 _ e) ⟨⟨a,b',g,a0,a1,l,j⟩,FV.upd⟩
def OG:BJ ["number","word"] ["number"] (AS R4):=by walk_at "z1"
def l8(F:AQ K "_law_letters" "_law_letters" R4 f fd)(m:mg "_law_letters"=some (.ref f)):
  AG P w K mg Zu "_law_letters" 1 ["number"] (Wr):=by
 refine AG.mk F (F.binds (by walk_at "bD1")) m (F.EE (k:=0) OG (λvs H Q E h=>?_) (λAZ A outer s H vs Q E u h=>?_))
 .obtain⟨r,rfl,i,o,q⟩:=h;rfl
 obtain⟨r,rfl,i,o,q⟩:=h;refine⟨_,(AR rfl (B1 1 OG.nd DB)
   (AR rfl (Ca (QF Dx (Pp (Bf GR (qv 1) DB) (V0 (Bf MS (qv 0) AD))).pt (AR rfl (B1 1 OG.nd (BD Xg (qv 1) (Aa wW DB (BD Iq (qv 0) AD))))
   (AX rfl (B1 0 OG.nd (BD T9 (qv 0) AD))))))
   (AX rfl (BS (qv 1))))),?_⟩
 obtain⟨n,rfl⟩:=Vg i;have j:n<26 ^ 8:=by omega
 rw[J6]at q;refine⟨λσ' H'=>∃v,σ'=[some v,some (.str (Cm (MA.lets n)))]/\H=H',?_,?_⟩
 .refine⟨λm σ' H'=>∃(k:Nat)(pre:List Nat),σ'=[some (.int k),some (.str (Cm pre))]/\H=H'/\((pre=[]/\k=n/\m=n+2)∨(pre≠[]/\m=k+1/\(0<k->pre++MA.lets k=MA.lets n)/\(k=0->pre=MA.lets n))),⟨n+2,n,[],rfl,rfl,.inl ⟨rfl,rfl,rfl⟩⟩,?_⟩;rintro m σ' H'⟨k,pre,rfl,rfl,l⟩;refine⟨_,rfl,rfl,_,rfl,?_⟩;refine CI (λc=>Ks ?_) (λc=>⟨_,rfl,_,_,rfl,rfl,_,rfl,?_⟩)
  .have d:pre=[]:=b9.mp (iY c);obtain⟨_,hk,p⟩|⟨h,_⟩:=l
   .have b:pre++MA.lets k=MA.lets n:=by rw[d,hk];rfl
    have a:pre.length+1<=8:=by
     have h1:=iI List.length b;rw[BQ]at h1;have h2:=MA.Q0 7 n j;have t:=MA.Tg k;omega
    refine⟨λσ' H'=>σ'=[some (.int ((k:Int) / 26)),some (.str (Cm pre++⟨#[97+((k:Int) % 26).toNat]⟩))]/\H=H',?_,?_⟩
    .rintro σ' H'⟨rfl,rfl⟩;have nx:=YY b;have e1:((k:Int) % 26).toNat=k % 26:=by omega
     have e:(k:Int) / 26=((k / 26:Nat):Int):=by omega
     exact⟨k / 26+1,by omega,k / 26,pre++[97+k % 26],by rw[e1,e,c6],rfl,.inr ⟨by simp,rfl,nx.1,nx.2⟩⟩
    .refine⟨_,rfl,_,rfl,_,_,rfl,rfl,(by show(0:Int)<26;decide),_,_,_,rfl,rfl,(by decide +kernel),Yu (J5 _ (by decide)) (J4 _ (by decide)),_,_,rfl,rfl,?_,?_⟩
     .rw[Oq];exact small (show pre.length+1<=_ by omega)
     .exact⟨_,rfl,_,_,rfl,rfl,⟨(by show(0:Int)<26;decide),by decide +kernel⟩,rfl,rfl⟩
   .exact absurd d h
  .have d:pre≠[]:=λh=>c (eV (b9.mpr h));obtain⟨h,_⟩|⟨_,p,h1,h2⟩:=l
   .exact absurd h d
   refine CI (λg=>?_) (λg=>?_)
   .have hk:0<k:=by have:(0:Int)<k:=iY g;omega
    have b:=h1 hk;have a:pre.length+1<=8:=by
     have h1:=iI List.length b;rw[BQ]at h1;have h2:=MA.Q0 7 n j;have t:=MA.Tg k;omega
    refine⟨λσ' H'=>σ'=[some (.int ((k:Int) / 26)),some (.str (Cm pre++⟨#[97+((k:Int) % 26).toNat]⟩))]/\H=H',?_,?_⟩
    .rintro σ' H'⟨rfl,rfl⟩;have nx:=YY b;have e1:((k:Int) % 26).toNat=k % 26:=by omega
     have e:(k:Int) / 26=((k / 26:Nat):Int):=by omega
     exact⟨k / 26+1,by omega,k / 26,pre++[97+k % 26],by rw[e1,e,c6],rfl,.inr ⟨by simp,rfl,nx.1,nx.2⟩⟩
    .refine⟨_,rfl,_,rfl,_,_,rfl,rfl,(by show(0:Int)<26;decide),_,_,_,rfl,rfl,(by decide +kernel),Yu (J5 _ (by decide)) (J4 _ (by decide)),_,_,rfl,rfl,?_,?_⟩
     .rw[Oq];exact small (show pre.length+1<=_ by omega)
     .exact⟨_,rfl,_,_,rfl,rfl,⟨(by show(0:Int)<26;decide),by decide +kernel⟩,rfl,rfl⟩
   .have hk:k=0:=by
     have:¬ (0:Int)<k:=λz=>g (eV z);omega
    exact⟨_,by rw[h2 hk],rfl⟩
 .rintro σ' H'⟨v,rfl,rfl⟩;exact⟨_,rfl,q _ (AF.refl _)⟩
def FX:BJ ["pot","names","some","way","name","number"] ["pot","names"] (AS Uj):=by walk_at "z1"
def jf(F:AQ K "_law_name" "_law_name" Uj f fd)(m:mg "_law_name"=some (.ref f)):
  AG P w K mg Zu "_law_name" 2 ["pot","names"] (bx K):=by
 refine AG.mk F (F.binds (by walk_at "bD2")) m (F.EE (k:=1) FX (λvs H Q E h=>?_) (λAZ A outer s H vs Q E g h=>?_))
 .obtain⟨p,q,ns,rfl,X,B,AJ,σ,hL,K1⟩:=h;rfl
 obtain⟨p,q,ns,rfl,X,B,AJ,σ,hL,K1⟩:=h;refine⟨_,(AR rfl (B1 2 FX.nd (Iu (A3 DB (A3 DB (A3 DB (A3 DB (A3 DB (A3 DB (A3 DB (A3 DB (A3 DB (A3 DB (A3 DB (A3 DB (A3 DB A5)))))))))))))))
   (AR rfl (B1 3 FX.nd (Aj Bx g (A3 (qv 0) (A3 AD A5))))
   (AR rfl (B1 4 FX.nd (Aa C2 (qv 2) (Aj Bx g (A3 (qv 0) (A3 AD A5)))))
   (AR rfl (Ca (Cb (Bf GR (qv 3) AD) (AX rfl (B1 4 FX.nd (Aj Mz g (A3 (Aj Bx g (A3 (qv 0) (A3 (BD aZ (BD KU AD AD) AD) A5))) A5)))) CY))
   (AR rfl (Ca (Cb (KA (Bf GR (qv 3) AD) (ME (Bf (OT g.GG) (qv 1) (EI A5)))).pt (AR rfl (B1 4 FX.nd (Aa Bg (qv 1) (Aj Bx g (A3 (qv 0) (A3 (B8 LB Ab (A3 (qv 1) A5)) A5)))))
   (AX rfl (B1 4 FX.nd (cg XE (BD Xg (qv 4) (Aj Mz g (A3 (Aj Bx g (A3 (qv 0) (A3 AD A5))) A5))) bh (ZX AD))))) CY))
   (AR rfl (Ca (Cb (KA (Bf GR (qv 3) AD) (ME (Bf (OT g.GG) (qv 1) (EI A5)))).pt (AR rfl (B1 4 FX.nd (Aa Bg (qv 1) (Aj Bx g (A3 (qv 0) (A3 (B8 LB Ab (A3 (qv 1) A5)) A5)))))
   (AX rfl (B1 4 FX.nd (cg XE (qv 4) bh (ZX (BD G9 AD (Aj Bx g (A3 (qv 0) (A3 (B8 tU Ab (A3 (qv 4) A5)) A5))))))))) CY))
   (AR rfl (B1 5 FX.nd AD)
   (AR rfl (Ca (QF Dx (Bf NU (qv 4) (qv 1)) (AR rfl (B1 4 FX.nd (Aj Mz g (A3 (qv 5) A5)))
   (AX rfl (B1 5 FX.nd (BD G9 (qv 5) AD))))))
   (AX rfl (BS (qv 4))))))))))),?_⟩
 have I:(ns.map V.str).length=ns.length:=AB _;have B:AI K H q (ns.map V.str):=AI.of B;refine⟨(by show 13<=sizeLine;decide +kernel),λo Xv=>?_⟩;have FC:o≠p:=by
  obtain⟨_,_,e,_⟩:=X;exact(DE e Xv).symm
 have g0:Az p H (upd H o (.tup PB)):=Az.of X (C0 Xv _);refine⟨_,rfl,p,4,rfl,g0.AH,by decide,by decide,λd H1 w0 w1 s1=>?_⟩;refine⟨_,rfl,_,rfl,p,13,rfl,s1.AH,by decide,by decide,λi H2 i0 u s2=>?_⟩;have h2:H2 o=some (.tup PB):=s2.at' (s1.at' AV FC) FC;obtain⟨x,hx,nx⟩:=fv i0 u;refine⟨o,_,_,_,rfl,rfl,Ag.of h2,hx,?_⟩;have S:=g0.trans (s1.trans s2);refine⟨λσ' H'=>∃x,σ'=[some (.ref p),some (.ref q),some (.ref o),some (.int d),some (.str x),none]/\Nm x/\Az p H H',?_,?_⟩
 .refine⟨_,rfl,rfl,_,rfl,?_⟩;refine CI (λc=>?_) (λc=>?_)
  .refine⟨_,rfl,_,_,rfl,rfl,⟨by decide,by decide,by decide +kernel⟩,_,_,rfl,rfl,p,_,rfl,S.AH,eh,jj,λr H3 G O s3=>?_⟩;have L:r<26 ^ 8:=Int.lt_trans O mR;exact⟨r,rfl,G,L,λH4 s4=>⟨_,rfl,Us (cU G L),(S.trans s3).trans (Az.of s3.AH s4)⟩⟩
  .exact⟨x,rfl,nx,S⟩
 clear h2 hx nx s2 S i0 u;rintro σ' H3⟨y,rfl,t,l⟩;refine⟨λσ' H'=>∃x,σ'=[some (.ref p),some (.ref q),some (.ref o),some (.int d),some (.str x),none]/\Nm x/\Az p H H',?_,?_⟩
 .refine⟨_,rfl,rfl,_,rfl,?_⟩;refine CI (λc=>?_) (λc=>L1 ⟨y,rfl,t,l⟩);refine⟨_,rfl,(by show 0<=sizeLine;decide),λe Y=>?_⟩;have b:=l.trans (Az.of l.AH (C0 Y (.lst [])));have N:=b.LY B AJ;refine⟨q,e,_,[],rfl,rfl,.inl ⟨N,AI.of AV⟩,Gw ns,rfl,_,rfl,?_⟩;rw[cK];refine CI (λM=>?_) (λM=>⟨y,rfl,t,b⟩);have Kx:0<ns.length:=by
   cases ns with
   |nil=>simp at M
   |cons a r=>simp
  refine⟨_,rfl,_,rfl,_,rfl,q,_,rfl,.inl N,p,_,rfl,b.AH,(by rw[I];omega),(by rw[I];omega),λi H5 i0 u U=>?_⟩;rw[I]at u;have D:=b.trans U;obtain⟨z,W,Sz,_⟩:=Tt i0 u;have C:=σ z Sz;refine⟨q,_,_,_,rfl,rfl,D.LY B AJ,W,?_⟩;refine⟨_,rfl,_,rfl,p,26,rfl,D.AH,by decide,by decide,λr H6 G O T=>?_⟩;have R:=D.trans T;have L:r<26 ^ 8:=Int.lt_trans O rH;refine⟨r,rfl,G,L,λH7 s7=>?_⟩;have R:=R.trans (Az.of R.AH s7);have nl:=Us (n:=r.toNat) (cU G L);have hlen:z.length+(Cm (MA.lets r.toNat)).length<=16:=by have:=C.2.1;have:=nl.2.1;omega
  refine⟨_,_,rfl,rfl,small (by omega),?_⟩;refine⟨_,rfl,_,rfl,small (by rw[bE];omega),?_⟩;refine⟨_,rfl,bN (by decide) (by decide) (by rw[bE];have:=C.1;omega) (λc J=>?_),R⟩;rw[W7]at J;rcases List.mem_append.mp J with J|J
  .exact C.2.2 c J
  .exact nl.2.2 c J
 clear t l;rintro σ' H3⟨y,rfl,t,l⟩;refine⟨λσ' H'=>∃x,σ'=[some (.ref p),some (.ref q),some (.ref o),some (.int d),some (.str x),none]/\Nm x/\Az p H H',?_,?_⟩
 .refine⟨_,rfl,rfl,_,rfl,?_⟩;refine CI (λc=>?_) (λc=>L1 ⟨y,rfl,t,l⟩);refine⟨_,rfl,(by show 0<=sizeLine;decide),λe Y=>?_⟩;have b:=l.trans (Az.of l.AH (C0 Y (.lst [])));have N:=b.LY B AJ;refine⟨q,e,_,[],rfl,rfl,.inl ⟨N,AI.of AV⟩,Gw ns,rfl,_,rfl,?_⟩;rw[cK];refine CI (λM=>?_) (λM=>⟨y,rfl,t,b⟩);have Kx:0<ns.length:=by
   cases ns with
   |nil=>simp at M
   |cons a r=>simp
  refine⟨_,rfl,_,rfl,_,rfl,q,_,rfl,.inl N,p,_,rfl,b.AH,(by rw[I];omega),(by rw[I];omega),λi H5 i0 u U=>?_⟩;rw[I]at u;have D:=b.trans U;obtain⟨z,W,Sz,_⟩:=Tt i0 u;have C:=σ z Sz;refine⟨q,_,_,_,rfl,rfl,D.LY B AJ,W,?_⟩;have eY:=C.1;have z9:=C.2.1;refine⟨_,rfl,_,rfl,_,rfl,_,rfl,small (by omega),p,_,rfl,D.AH,(by omega),(by omega),λr H6 G O T=>?_⟩;refine⟨_,_,rfl,rfl,_,rfl,_,rfl,small (by omega),?_⟩;exact⟨_,rfl,bN (by omega) (by omega) eY C.2.2,D.trans T⟩
 clear t l;rintro σ' H3⟨y,rfl,t,l⟩;refine⟨λσ' H'=>∃x v,σ'=[some (.ref p),some (.ref q),some (.ref o),some (.int d),some (.str x),some v]/\Nm x/\x∉ns/\Az p H H',?_,?_⟩
 .refine⟨λm σ' H'=>∃(k:Nat)(x:Str),σ'=[some (.ref p),some (.ref q),some (.ref o),some (.int d),some (.str x),some (.int k)]/\Az p H H'/\Nm x/\m=ns.length+1 - k/\k<=ns.length+1/\(0<k->x=Cm (MA.lets (k - 1)))/\(∀j,j+1<k->Cm (MA.lets j)∈ns),
   ⟨ns.length+1,0,y,rfl,l,t,rfl,BN _,λh=>absurd h (by decide),λj h=>absurd h (by omega)⟩,?_⟩
  rintro m σ' H'⟨k,x,rfl,b,nx,rfl,hk,hx,hj⟩;refine⟨_,rfl,_,rfl,q,_,rfl,.inl (b.LY B AJ),rfl,Gw ns,_,rfl,?_⟩;rw[eJ (by decide),Nh];refine CI (λc=>?_) (λc=>⟨x,_,rfl,nx,λz=>c (eV z),b⟩);have Ir:x∈ns:=iY c;have OE:∀j,j<k->Cm (MA.lets j)∈ns:=λj Ld=>by
   by_cases e:j+1<k
   .exact hj j e
   .have e2:j=k - 1:=by omega
    rw[e2,<- hx (by omega)];exact Ir
  have gR:=vY OE;refine⟨λσ' H'=>σ'=[some (.ref p),some (.ref q),some (.ref o),some (.int d),some (.str (Cm (MA.lets k))),some (.int ((k:Int)+1))]/\Az p H H',?_,?_⟩
  .rintro σ' H'⟨rfl,b⟩;exact⟨ns.length+1 - (k+1),by omega,k+1,Cm (MA.lets k),rfl,b,Us (Gn (CC gR hL) u7),rfl,by omega,λ_=>rfl,λj Ld=>OE j (by omega)⟩
  .refine⟨_,rfl,k,rfl,by omega,?_,λH4 s4=>?_⟩
   .have:(k:Int)<=1000:=by omega
    exact y4 this gI
   .rw[J6];exact⟨_,rfl,_,_,rfl,rfl,rfl,b.trans (Az.of b.AH s4)⟩
 rintro σ' H'⟨x,v,rfl,nx,hx,b⟩;exact⟨_,rfl,K1 x H' nx hx b⟩
def R7:BJ ["pot","many","names","k"] ["pot","many"] (AS R3):=by walk_at "z1"
def qT(F:AQ K "_law_names" "_law_names" R3 f fd)(m:mg "_law_names"=some (.ref f)):
  AG P w K mg Zu "_law_names" 3 ["pot","many"] (Zc):=by
 refine AG.mk F (F.binds (by walk_at "bD2")) m (F.EE (k:=2) R7 (λvs H Q E h=>?_) (λAZ A outer s H vs Q E u h=>?_))
 .obtain⟨p,m,rfl,j,r,o,q⟩:=h;rfl
 obtain⟨p,m,rfl,j,r,o,q⟩:=h;refine⟨_,(AR rfl (B1 2 R7.nd (EI A5))
   (AR rfl (Ca (Ek Dx rfl (Hj rfl C7 (A3 (qv 1) A5)) (DY 3 R7.nd) (AX rfl (Gy (Me NQ Vx Vy Oy (qv 2) (A3 (Aj U7 u (A3 (qv 0) (A3 (qv 2) A5))) A5))))))
   (AX rfl (BS (qv 2))))),?_⟩
 refine⟨(by show 0<=sizeLine;decide),λl c=>?_⟩;have d:=j.ne c;refine⟨λσ' H'=>∃(ns:List Str)(v:Option V),σ'=[some (.ref p),some (.int m),some (.ref l),v]/\Az p H H'/\H' l=some (.lst (ns.map V.str))/\(ns.length:Int)=m/\(∀x∈ns,Nm x)/\ns.Nodup,?_,?_⟩
 .refine⟨_,rfl,m,rfl,by omega,by omega,vH (n:=m.toNat) (λi σ' H'=>∃(ns:List Str)(v:Option V),σ'=[some (.ref p),some (.int m),some (.ref l),v]/\Az p H H'/\H' l=some (.lst (ns.map V.str))/\ns.length=i/\(∀x∈ns,Nm x)/\ns.Nodup) ?_ ?_ ?_⟩
  .exact⟨[],none,rfl,(Az.of j (AF.refl H)).upd c d,AV,rfl,λx hx=>absurd hx (by simp),by simp⟩
  .rintro i σ' H' hi⟨ns,v,rfl,g,e,a,b,nd⟩;refine⟨_,rfl,.inl ⟨rfl,_,AI.of e⟩,_,rfl,_,rfl,p,l,ns,rfl,g.AH,e,d,b,by omega,λx H2 nx hx s2=>?_⟩;refine⟨l,_,_,rfl,rfl,s2.at' e d,Gn (m:=100) (by rw[AB];omega) (by decide +kernel),?_⟩;refine⟨ns++[x],_,rfl,(g.trans s2).upd c d,by rw[AV,Cw];rfl,by rw[BQ];simp[a],λy t=>?_,Qn nd hx⟩;rcases List.mem_append.mp t with h|h
   .exact b y h
   .have:y=x:=by simpa using h
    rw[this];exact nx
  .rintro σ' H'⟨ns,v,rfl,g,e,a,b,nd⟩;exact⟨ns,v,rfl,g,e,by omega,b,nd⟩
 rintro σ' H'⟨ns,v,rfl,g,e,a,b,nd⟩;exact⟨_,rfl,q l H' ns c g e a b nd⟩
def Td:BJ ["pot","most","many"] ["pot","most"] (AS VE):=by walk_at "z1"
def tM(F:AQ K "_law_row" "_law_row" VE f fd)(m:mg "_law_row"=some (.ref f)):
  AG P w K mg Zu "_law_row" 4 ["pot","most"] (TB):=by
 refine AG.mk F (F.binds (by walk_at "bD2")) m (F.EE (k:=3) Td (λvs H Q E h=>?_) (λAZ A outer s H vs Q E b h=>?_))
 .obtain⟨p,m,rfl,o,i,x,q⟩:=h;rfl
 obtain⟨p,m,rfl,o,i,x,q⟩:=h;refine⟨_,(AR rfl (B1 2 Td.nd (Aj Bx b (A3 (qv 0) (A3 (BD G9 (qv 1) AD) A5))))
   (AR rfl (Ca (Cb (Bf GR (Aj Bx b (A3 (qv 0) (A3 AD A5))) AD) (AX rfl (B1 2 Td.nd (Aa C2 (Iu (A3 AD (A3 AD (A3 (qv 1) A5)))) (Aj Bx b (A3 (qv 0) (A3 AD A5)))))) CY))
   (AX rfl (BS (Aj VA b (A3 (qv 0) (A3 (qv 2) A5))))))),?_⟩
 refine⟨_,rfl,_,rfl,_,_,rfl,rfl,p,_,rfl,o,by omega,by omega,λa H1 n0 J s1=>?_⟩;refine⟨λσ' H'=>∃k:Int,σ'=[some (.ref p),some (.int m),some (.int k)]/\0<=k/\k<=m/\Az p H H',?_,?_⟩
 .refine⟨_,rfl,p,8,rfl,s1.AH,by decide,by decide,λr H2 I G s2=>?_⟩;have c:=s1.trans s2;refine⟨rfl,_,rfl,?_⟩;refine CI (λ_=>?_) (λ_=>⟨a,rfl,n0,by omega,c⟩);refine⟨_,rfl,(by show 3<=sizeLine;decide +kernel),λt n=>?_⟩;have D:=c.AH.ne n;have v:=c.trans (Az.of c.AH (C0 n (.tup [.int 0,.int 1,.int m])));refine⟨_,rfl,p,3,rfl,v.AH,by decide,by decide,λj H4 z y s4=>?_⟩;obtain⟨k,hk,d,k1⟩:=vC z y i;exact⟨t,_,_,_,rfl,rfl,Ag.of (s4.at' AV D),hk,k,rfl,d,k1,v.trans s4⟩
 rintro σ' H'⟨k,rfl,d,k1,g⟩;refine⟨_,rfl,_,rfl,p,k,rfl,g.AH,d,by omega,λl H' ns B s e u C nd=>?_⟩;exact q l H' ns (g.none B) (g.trans s) e (by omega) C nd
def MU:BJ ["pot","row","coming","share","name","rule"] ["pot","row"] (AS U8):=by walk_at "z1"
def nD(F:AQ K "_law_some_loop" "_law_some_loop" U8 f fd)(m:mg "_law_some_loop"=some (.ref f)):
  AG P w K mg Zu "_law_some_loop" 2 ["pot","row"] (Sa):=by
 refine AG.mk F (F.binds (by walk_at "bD2")) m (F.EE (k:=1) MU (λvs H Q E h=>?_) (λAZ A outer s H vs Q E u h=>?_))
 .obtain⟨p,q,ns,rfl,D,b,AJ,S,nd,K1⟩:=h;rfl
 obtain⟨p,q,ns,rfl,D,b,AJ,S,nd,K1⟩:=h;refine⟨_,(AR rfl (B1 2 MU.nd (EI A5))
   (AR rfl (B1 3 MU.nd (BD G9 AD (Aj Bx u (A3 (qv 0) (A3 AD A5)))))
   (AR rfl (Ca (Ek Dx rfl (EJ (qv 1)) (DY 4 MU.nd) (AX rfl (Cb (Bf O9 (Aj Bx u (A3 (qv 0) (A3 AD A5))) (qv 3)) (AX rfl (Gy (Me NQ Vx Vy Oy (qv 2) (A3 (qv 4) A5)))) CY))))
   (AR rfl (B1 5 MU.nd (Aa C2 (Iu (A3 DB (A3 DB (A3 DB A5)))) (Aj Bx u (A3 (qv 0) (A3 AD A5)))))
   (AX rfl (BS (Iu (A3 (qv 5) (A3 (Aj Bx u (A3 (qv 0) (A3 (BD G9 (B8 LB Ab (A3 (qv 1) A5)) AD) A5))) (A3 (G8 aX KW (A3 (B8 rV E8 (A3 (qv 2) A5)) A5)) A5)))))))))),?_⟩
 have z:=Lw.Pk ns;refine⟨(by show 0<=sizeLine;decide),λl Im=>?_⟩;have n:=D.ne Im;have zt:l≠q:=(DE b Im).symm;have g0:Az p H (upd H l (.lst [])):=Az.of D (C0 Im _);refine⟨_,rfl,p,4,rfl,g0.AH,by decide,by decide,λL H1 _ _ s1=>⟨_,_,rfl,rfl,?_⟩⟩;have g1:=g0.trans s1;refine⟨λσ' H'=>∃(cs:List Str)(v:Option V),σ'=[some (.ref p),some (.ref q),some (.ref l),some (.int (1+L)),v,none]/\Az p H H'/\H' l=some (.lst (cs.map V.str))/\cs.Sublist ns,?_,?_⟩
 .refine⟨_,rfl,false,q,_,rfl,AI.of (g1.at' b AJ),r6 (λi σ' H'=>∃(cs:List Str)(v:Option V),σ'=[some (.ref p),some (.ref q),some (.ref l),some (.int (1+L)),v,none]/\Az p H H'/\H' l=some (.lst (cs.map V.str))/\cs.Sublist (ns.take i)) ?_ ?_ ?_ ?_⟩
  .exact⟨[],none,rfl,g1,s1.at' AV n,yT _⟩
  .rintro i σ' H' _⟨cs,v,rfl,g,e,a⟩;exact AI.of (g.at' b AJ)
  .rintro i x σ' H' hx⟨cs,v,rfl,g,e,a⟩;obtain⟨y,rfl,T⟩:=fP hx;have hi:i<ns.length:=(List.getElem?_eq_some_iff.mp T).1;have Y:ns.take (i+1)=ns.take i++[y]:=by
    rw[List.take_succ,T];rfl
   have J:cs.length<=40:=by
    have h1:=a.length_le;rw[Fi]at h1;omega
   refine⟨_,rfl,p,4,rfl,g.AH,by decide,by decide,λr H2 r0 r1 s2=>⟨_,rfl,_,_,rfl,rfl,_,rfl,?_⟩⟩;have d:=s2.at' e n;refine CI (λc=>?_) (λc=>?_)
   .refine⟨_,rfl,.inl ⟨rfl,_,AI.of d⟩,_,rfl,l,_,_,rfl,rfl,d,Gn (m:=40) (by rw[AB];exact J) (by decide +kernel),?_⟩;exact⟨cs++[y],_,rfl,(g.trans s2).upd Im n,by rw[AV,Cw];rfl,by rw[Y];exact a.append (yB _)⟩
   .exact⟨cs,_,rfl,g.trans s2,d,by rw[Y];exact a.trans (yZ _ _)⟩
  .rintro σ' H'⟨cs,v,rfl,g,e,a⟩;rw[z,Eh]at a;exact⟨cs,v,rfl,g,e,a⟩
 rintro σ' H2⟨cs,v,rfl,I,d,a⟩;refine⟨(by show 3<=sizeLine;decide),λt1 Ky=>?_⟩;have σ:=I.AH.ne Ky;have R:=C0 Ky (.tup (FZ.map V.str));have X:=I.trans (Az.of I.AH R);refine⟨_,rfl,p,3,rfl,X.AH,by decide,by decide,λj H4 j0 j1 s4=>?_⟩;obtain⟨r,jF,Nc⟩:=cV j0 j1;refine⟨t1,_,_,_,rfl,rfl,Ag.of (s4.at' AV σ),jF,?_⟩;have G:=X.trans s4;have q4:=G.at' b AJ;refine⟨_,rfl,_,rfl,_,rfl,q,_,rfl,.inl (AI.of q4),_,_,rfl,rfl,p,_,rfl,G.AH,(by rw[z];omega),(by rw[z];omega),λgp H5 p0 p1 M=>?_⟩;rw[z]at p1;have B:=G.trans M;have e5:=M.at' (s4.at' (R _ _ d) n) n;have J:cs.length<=40:=CC a.length_le S;refine⟨_,rfl,l,false,cs,rfl,AI.of e5,by omega,λl2 o Bb EU Dv=>?_⟩;have C:=C0 Bb (.lst (o.map V.str));refine⟨l2,_,rfl,.inl ⟨AI.of AV,λc W=>?_⟩⟩;have O:=C0 W (.tup (o.map V.str));refine⟨(by show 3<=sizeLine;decide),λt U=>?_⟩;have N:=C0 U (.tup [.str r,.int gp,.ref c]);have g8:=B.trans (Az.of B.AH (C.trans (O.trans N)));have iU:o.Nodup:=EU.nodup_iff.mpr (nd.sublist a);refine K1 t c r gp o _ (B.none (AF.none (C.trans O) U)) (B.none (AF.none C W)) g8 AV (N _ _ AV) ⟨Nc,p0,by omega,cE Dv iU,λx hx=>a.subset (EU.mem_iff.mp hx),by rw[EU.length_eq];exact J⟩
def HP:BJ ["pot","row","most","loops","k","loop","way","one","coming"] ["pot","row","most"] (AS OP):=by walk_at "z1"
noncomputable abbrev Sc(l):=Scope.mk .function l false false []
def nM:=Sc [(".0",.local),("name",.local),("_law_take",.globalImplicit),("pot",.free)]
def lO:DL ["pot","row","most","loops","k","loop","way","one","coming"] (AS OP) nM "name" ["pot"] [0]:=by walk_at "z2"
def gT(F:AQ K "_law_loops" "_law_loops" OP f fd)(m:mg "_law_loops"=some (.ref f)):
  AG P w K mg Zu "_law_loops" 3 ["pot","row","most"] (B3 X8):=by
 refine Fz.hF (k:=2) F (by walk_at "bD3") m HP (by rintro _ _⟨ns,m,rfl,_,J,nd,rfl⟩;rfl) λn=>⟨_,(AR rfl (B1 3 HP.nd (EI A5))
   (AR rfl (Ca (Ek Dx rfl (Hj rfl C7 (A3 (Aj Bx n (A3 (qv 0) (A3 (BD G9 (qv 2) AD) A5))) A5)) (DY 4 HP.nd) (AR rfl (B1 5 HP.nd (Aj SW n (A3 (qv 0) (A3 (qv 1) A5))))
   (AR rfl (B1 6 HP.nd (Aj Bx n (A3 (qv 0) (A3 AD A5))))
   (AR rfl (Ca (Cb (KA (Bf GR (qv 6) AD) (ME (Bf (Ob n.GG) (qv 3) (EI A5)))).pt (AR rfl (B1 7 HP.nd (Aa Bg (qv 3) (Aj Bx n (A3 (qv 0) (A3 (B8 CD Ab (A3 (qv 3) A5)) A5)))))
   (AR rfl (L3 (i:=8) HP.nd rfl (Or.inl rfl) rfl lO (EJ (Aa C2 (qv 7) AD)) (λ_ _ _ _=>by exact(M6 (Bf MS (Aj Bx n (A3 (qv 0) (A3 AD A5))) AD))) (λ_ _ _ _=>by exact(qv 1)))
   (AX rfl (B1 5 HP.nd (Iu (A3 (Aa C2 (qv 5) AD) (A3 (Aa C2 (qv 5) AD) (A3 (G8 aX KW (A3 (qv 8) A5)) A5)))))))) CY))
   (AR rfl (Ca (Cb (KA (Bf GR (qv 6) AD) (KA (Bf (Ob n.GG) (qv 3) (EI A5)) (ME (Bf GR (Aj Bx n (A3 (qv 0) (A3 AD A5))) AD)))).pt (AX rfl (B1 5 HP.nd (Iu (A3 (Aa C2 (qv 5) AD) (A3 (Aa C2 (qv 5) AD) (A3 (Aa C2 (Aa Bg (qv 3) (Aj Bx n (A3 (qv 0) (A3 (B8 CD Ab (A3 (qv 3) A5)) A5)))) AD) A5)))))) CY))
   (AX rfl (Gy (Me NQ yq PySem.F.type_list_insert iW (qv 3) (A3 (Aj Bx n (A3 (qv 0) (A3 (BD G9 (B8 CD Ab (A3 (qv 3) A5)) AD) A5))) (A3 (qv 5) A5)))))))))))
   (AX rfl (BS (qv 3))))),?_⟩
 rintro _ _⟨ns,m,rfl,W,J,nd,rfl⟩;show Ws [_,_,_,.any,.any,.any,.any,.any,.any] _ _ _
 walk_at "ww"
 refine⟨by simp,?_⟩;refine Bk (E2 (Ff (λ_ i A4=>∃(Ls:List Lp)(s4 B A d a:Slot),A4=[.AH,.is (.lst (ns.map .str)),.is (.int m),.own (Ls.map Lp.P),s4,B,A,d,a]/\Ls.length=i/\∀l∈Ls,l.Good ns) ?_))
 walk_at "ww"
 refine⟨by omega,by omega,λr Y h1=>⟨_,rfl,by omega,by omega,⟨[],_,_,_,_,_,rfl,rfl,by simp⟩,?_,?_⟩⟩
 .rintro i p A4 O⟨Ls,s4,B,A,d,a,rfl,hL,s⟩;obtain⟨hi,rfl⟩:=Rn O;refine G0 ?_
  walk_at "ww"
  refine⟨J,nd,λI g cs gd X=>?_⟩
  walk_at "ww"
  refine⟨by decide,by decide,λo T S=>?_⟩;have R:(Ls.map Lp.P).length<=12:=by rw[AB];omega
  refine Oi (λA4=>∃(l:Lp)(d a:Slot),A4=[.AH,.is (.lst (ns.map .str)),.is (.int m),.own (Ls.map Lp.P),.is (.int i),.is l.P,.is (.int o),d,a]/\l.Good ns) (E2 ?_) ?_
  .refine Gh (VP (k':=λb=>b=true->Ls≠[]) ?_ ?_)
   .walk_at "ww"
    refine CI (λc=>?_) (λc=>?_)
    .walk_at "ww"
     refine⟨by simp,_,.inl ⟨rfl,rfl,rfl,_,rfl,λh e=>?_⟩⟩;subst e;simp at h
    .walk_at "ww"
     exact λz=>by cases z
   .intro b E;refine CI (λc=>?_) (λc=>DQ ⟨⟨I,g,cs⟩,_,_,rfl,gd⟩);have H:=E c;have L:0<(Ls.map Lp.P).length:=by rw[AB];exact List.length_pos_iff.mpr H
    walk_at "ww"
    refine⟨by omega,by omega,λq D C=>?_⟩;obtain⟨q,rfl⟩:=Vg D;have u:q<Ls.length:=by rw[AB]at C;omega
    refine⟨_,Ls[q].P,rfl,DU (by rw[AM,AL u];rfl),?_⟩;have t:CF ns Ls[q].r Ls[q].g Ls[q].cs:=s _ (FJ u);have v:=CF.len t;refine Bk (Fw (wJ ?_))
    walk_at "ww"
    refine⟨by rw[AB];omega,λx hx=>?_,λx hx=>AK rfl rfl,λys FU=>?_⟩
    .walk_at "ww"
     exact⟨by decide,by decide,λr _ _=>⟨_,rfl,DD ⟨_,rfl,_,rfl,trivial⟩⟩⟩
    .obtain⟨ds,Y9,rfl⟩:=List.sublist_map_iff.mp FU
     walk_at "ww"
     exact⟨by simp,⟨I,g,ds⟩,_,_,rfl,gd.rule,gd.g0,gd.g1,dX Y9 t.up,λy N=>t.sub y (Y9.subset N)⟩
  .rintro _⟨l,d,a,rfl,v⟩;refine Oi (λA4=>∃(l:Lp)(d a:Slot),A4=[.AH,.is (.lst (ns.map .str)),.is (.int m),.own (Ls.map Lp.P),.is (.int i),.is l.P,.is (.int o),d,a]/\l.Good ns) (E2 ?_) ?_
   .refine Gh (VP (k':=λb=>b=true->Ls≠[]) ?_ ?_)
    .walk_at "ww"
     refine CI (λc=>?_) (λc=>?_)
     .walk_at "ww"
      refine⟨by simp,_,.inl ⟨rfl,rfl,rfl,_,rfl,?_⟩⟩;refine CI (λQ=>VP (k':=λ_=>True) ?_ λb _ _ e=>?_) (λ_ z=>by cases z)
      .walk_at "ww"
       exact⟨by decide,by decide,λr _ _=>DD ⟨rfl,_,rfl,trivial⟩⟩
      .subst e;simp at Q
     .walk_at "ww"
      exact λz=>by cases z
    .intro b E;refine CI (λc=>?_) (λc=>DQ ⟨l,_,_,rfl,v⟩);have H:=E c;have L:0<(Ls.map Lp.P).length:=by rw[AB];exact List.length_pos_iff.mpr H
     walk_at "ww"
     refine⟨by omega,by omega,λq D C=>?_⟩;obtain⟨q,rfl⟩:=Vg D;have u:q<Ls.length:=by rw[AB]at C;omega
     have t:CF ns Ls[q].r Ls[q].g Ls[q].cs:=s _ (FJ u);have G:CF ns l.r l.g l.cs:=v;refine⟨_,Ls[q].P,rfl,DU (by rw[AM,AL u];rfl),_,.inr ⟨rfl,rfl,?_⟩⟩
     walk_at "ww"
     exact⟨by simp,⟨l.r,l.g,Ls[q].cs⟩,_,_,rfl,G.rule,G.g0,G.g1,t.up,t.sub⟩
   .rintro _⟨l,d,a,rfl,v⟩;refine c8 rfl ?_
    walk_at "ww"
    refine⟨by omega,by omega,λj M V=>⟨_,rfl,M,by omega,AK rfl ⟨by omega,Ls.take j.toNat++l::Ls.drop j.toNat,.is (.int i),.is l.P,.is (.int o),d,a,?_,?_,λU Ds=>?_⟩⟩⟩
    .rw[Cw,Ce,List.map_take,List.map_drop];rfl
    .rw[BQ,Am,Fi,Vn];omega
    .rcases List.mem_append.mp Ds with h|h
     .exact s _ (di h)
     .rcases List.mem_cons.mp h with h|h
      .subst h;exact v
      .exact s _ (yS h)
 .rintro A4⟨Ls,s4,B,A,d,a,rfl,hL,s⟩;refine Uw rfl ⟨Ls,rfl,?_,s⟩;rw[hL,LD];omega
def xX:BJ ["row","gap"] ["row","gap"] (AS Tx):=by walk_at "z1"
def m8(F:AQ K "is_gap" "is_gap" Tx f fd)(m:mg "is_gap"=some (.ref f)):
  AG P w K mg Zu "is_gap" 1 ["row","gap"] (cZ K):=by
 refine AG.mk F (F.binds (by walk_at "bD2")) m (F.EE (k:=0) xX (λvs H Q E h=>?_) (λAZ A outer s H vs Q E i h=>?_))
 .obtain⟨a,tp,ns,g,rfl,b,q⟩:=h;rfl
 obtain⟨a,tp,ns,g,rfl,b,q⟩:=h;refine⟨_,(AX rfl (BS (X3 PH PH AD (qv 1) (B8 LB Ab (A3 (qv 0) A5))))),?_⟩;have d:=Lw.Pk ns;refine⟨_,rfl,_,_,rfl,rfl,_,rfl,?_⟩;refine CI (λc=>?_) (λc=>?_)
 .refine⟨_,rfl,a,_,rfl,b.or,_,_,rfl,rfl,?_⟩;rw[d];have e:JF ns.length g=decide (g<=(ns.length:Int)):=by unfold JF;rw[c];rfl
  show Q (.bl (decide (g<=(ns.length:Int)))) H;rw[<- e];exact q
 .have e:JF ns.length g=false:=by unfold JF;rw[Bool.eq_false_iff.mpr c];rfl
  show Q (.bl false) H;rw[<- e];exact q
def t4:BJ ["row","coming"] ["row","coming"] (AS OD):=by walk_at "z1"
def kB:=Sc [(".0",.local),("name",.local),("row",.free)]
def xZ:DL ["row","coming"] (AS OD) kB "name" ["row"] [0]:=by walk_at "z2"
def wa(F:AQ K "is_coming" "is_coming" OD f fd)(m:mg "is_coming"=some (.ref f)):
  AG P w K mg Zu "is_coming" 1 ["row","coming"] (bg K):=by
 refine AG.mk F (F.binds (by walk_at "bD2")) m (F.EE (k:=0) t4 (λvs H Q E h=>?_) (λAZ A outer s H vs Q E z h=>?_))
 .obtain⟨a,tp,ns,c,ss,rfl,o,hC,Bh,q⟩:=h;rfl
 obtain⟨a,tp,ns,c,ss,rfl,o,hC,Bh,q⟩:=h;refine⟨_,(AX rfl (BS (MC (LI (Wy z.GG) (G8 VU Hz (A3 (qv 1) A5)) (B8 (vD rfl) E8 (A3 (G8 (Mg rfl) EZ (A3 (qv 1) A5)) A5))) (Lq (B8 (bV rfl) Ku (A3 (Kd rfl xZ (EJ (qv 1)) (λ_ _ _ _=>by exact IP) (λ_ _ _ _=>by exact(LI (show BA _ (compareOp .In) (L5 K false)from NU) (qv 1) (qv 0)))) A5)))))),?_⟩;have B:=Lw.Pk ss;refine⟨_,rfl,c,_,rfl,.inr hC,λl1 Du=>?_⟩;have n:=C0 Du (.lst (ss.map V.str));refine⟨_,rfl,c,true,ss,rfl,n.VN hC,by omega,λl2 Bb=>?_⟩;have l:=C0 Bb (CV P w l2 (λk'=>(dd ss).any (· == k')) (dd ss).length)
 refine⟨l2,_,_,rfl,AV,by have:=SI ss;omega,λt b C e1 G D=>?_⟩;have j:=C0 C (.lst (b.map V.str));have d:=n.trans (l.trans j);refine⟨l1,t,_,_,rfl,rfl,.inl ⟨AI.of (j _ _ (l _ _ AV)),AI.of AV⟩,Gw ss,Gw b,_,rfl,?_⟩;have y:EA (ss.map V.str) (b.map V.str)=Hs ss:=by rw[p6];unfold Hs;rw[decide_eq_decide];exact xi e1 G D
 show if EA (ss.map V.str) (b.map V.str)=true then _ else _
 rw[y];refine CI (λg=>?_) (λg=>?_)
 .have r:=d.VN hC;refine⟨_,rfl,true,c,_,rfl,r,λacc Ao=>fW (tp:=true) (λ_=>true) (λv=>.bl (Il v (ns.map V.str))) r Ao (by rw[B];exact small (by omega)) (λi v H' Q' _ _ h=>h H' (AF.refl _)) (λi v H' Q' u _ s4 h=>?_) (λH' s4 p=>?_)⟩
  .obtain⟨x,rfl,I⟩:=iP u;exact⟨_,rfl,_,rfl,a,_,rfl,((d.trans s4).sq o).or,rfl,Gw ns,h _ (AF.refl _)⟩
  .rw[hZ]at p;refine⟨acc,_,rfl,AI.of p,?_⟩;rw[all_map];have e:(Hs ss && Ij ns ss)=Ij ns ss:=by rw[g];rfl
   show Q (.bl (Ij ns ss)) H';rw[<- e];exact q _ (d.trans s4)
 .have e:(Hs ss && Ij ns ss)=false:=by rw[Bool.eq_false_iff.mpr g];rfl
  rw[<- e];exact q _ d
def xn:BJ ["row","thing"] ["row","thing"] (AS Tj):=by walk_at "z1"
def oP(F:AQ K "is_loop" "is_loop" Tj f fd)(m:mg "is_loop"=some (.ref f)):
  AG P w K mg Zu "is_loop" 2 ["row","thing"] (bI K):=by
 refine AG.mk F (F.binds (by walk_at "bD2")) m (F.EE (k:=1) xn (λvs H Q E h=>?_) (λAZ A outer s H vs Q E l h=>?_))
 .obtain⟨a,tp,ns,t,r,g,ss,rfl,i,⟨c,b,hC⟩,Bh,q⟩:=h;rfl
 obtain⟨a,tp,ns,t,r,g,ss,rfl,i,⟨c,b,hC⟩,Bh,q⟩:=h;refine⟨_,(AX rfl (BS (MC (LI NU (Aa C2 (qv 1) AD) (Wb (v:=.ref IE) (by rfl) Ui rfl)) (MC (Aj Qs l (A3 (qv 0) (A3 (Aa C2 (qv 1) AD) A5))) (Lq (Aj SR l (A3 (qv 0) (A3 (Aa C2 (qv 1) AD) A5)))))))),?_⟩;refine⟨_,rfl,t,_,_,_,rfl,rfl,b,rfl,IE,_,rfl,.inr (V6 H),rfl,rfl,_,rfl,?_⟩;have n:Il (.str r) (FZ.map V.str)=decide (r∈FZ):=Nh r FZ;show if Il (.str r) (FZ.map V.str)=true then _ else _
 rw[n];refine CI (λd=>?_) (λd=>?_)
 .refine⟨_,rfl,_,rfl,t,_,_,_,rfl,rfl,b,rfl,a,tp,ns,g,rfl,i,_,rfl,?_⟩;refine CI (λj=>?_) (λj=>?_)
  .refine⟨_,rfl,_,rfl,t,_,_,_,rfl,rfl,b,rfl,a,tp,ns,c,ss,rfl,i,hC,Bh,λH' s'=>?_⟩;have e:Ei ns r g ss=(Hs ss && Ij ns ss):=by unfold Ei;rw[d,j];rfl
   rw[<- e];exact q _ s'
  .have e:Ei ns r g ss=false:=by unfold Ei;rw[d,Bool.eq_false_iff.mpr j];rfl
   rw[<- e];exact q _ (AF.refl _)
 .have e:Ei ns r g ss=false:=by unfold Ei;rw[Bool.eq_false_iff.mpr d];rfl
  rw[<- e];exact q _ (AF.refl _)
def j8:BJ ["row","loop"] ["row","loop"] (AS VF):=by walk_at "z1"
def pU(F:AQ K "check_loop" "check_loop" VF f fd)(m:mg "check_loop"=some (.ref f)):
  AG P w K mg Zu "check_loop" 3 ["row","loop"] (TF K):=by
 refine AG.mk F (F.binds (by walk_at "bD2")) m (F.EE (k:=2) j8 (λvs H Q E h=>?_) (λAZ A outer s H vs Q E c h=>?_))
 .obtain⟨a,tp,ns,t,r,g,ss,rfl,b,hL,Bh,ok,q⟩:=h;rfl
 obtain⟨a,tp,ns,t,r,g,ss,rfl,b,hL,Bh,ok,q⟩:=h;refine⟨_,(AX rfl (Cb (M3 (JL (Aj Ud c (A3 (qv 0) (A3 (qv 1) A5))))) (AX rfl aR) CY)),?_⟩;refine⟨_,rfl,_,rfl,a,tp,ns,t,r,g,ss,rfl,b,hL,Bh,λH' s1=>⟨_,rfl,?_⟩⟩;refine Yv (by rw[ok];decide) ?_;exact q _ s1
def Xr:BJ ["row","loops","loop"] ["row","loops"] (AS SQ):=by walk_at "z1"
def xj(F:AQ K "check_loops" "check_loops" SQ f fd)(m:mg "check_loops"=some (.ref f)):
  AG P w K mg Zu "check_loops" 4 ["row","loops"] (B3 c9):=by
 refine Fz.hF (k:=3) F (by walk_at "bD2") m Xr (by rintro _ _⟨tp,ns,a,Ls,rfl,d,h,c,rfl⟩;rfl) λe=>⟨_,(AR rfl (Cb (Bf MS (B8 CD Ab (A3 (qv 1) A5)) (Wb (v:=.int 12) (by rfl) U2 ⟨_,rfl⟩)) (AX rfl aR) CY)
   (AX rfl (Ek Dx rfl (EJ (qv 1)) (DY 2 Xr.nd) (AX rfl (Gy (Aj T2 e (A3 (qv 0) (A3 (qv 2) A5)))))))),?_⟩
 rintro _ _⟨tp,ns,a,Ls,rfl,d,h,c,rfl⟩;show Ws [_,_,.any] _ _ _
 walk_at "ww"
 refine Yv (by rw[AB];simp;omega) (DQ ?_);refine Ff (λ_ i A4=>∃s,A4=[.sq tp (ns.map .str),.sq a (Ls.map Lp.P),s]) ?_
 walk_at "ww"
 refine⟨⟨_,rfl⟩,?_,?_⟩
 .rintro i p A4 b⟨s,rfl⟩;rw[AM]at b;obtain⟨l,Ds,rfl⟩:=Option.map_eq_some_iff.mp b;have g:=c l (BL Ds);have:=CF.len g;refine G0 ?_;refine bj (ua ?_)
  walk_at "ww"
  refine⟨by omega,CF.Ei g,⟨_,rfl⟩⟩
 .rintro A4⟨s,rfl⟩;exact⟨_,rfl,rfl⟩
def UP:BJ ["number","above","lower_of","tried","upper"] ["number","above","lower_of","tried"] (AS QC):=by walk_at "z1"
def xU(n:Nat)(F:AQ K "finds_upper" "finds_upper" QC f fd)(m:mg "finds_upper"=some (.ref f))(IM:AG P w K mg Zu "finds_upper" (1+n) ["number","above","lower_of","tried"] (EM (Ji (n)))):
  AG P w K mg Zu "finds_upper" (1+n+1) ["number","above","lower_of","tried"] (EM (Ji (n+1))):=by
 refine Fz.hM (k:=1+n) F (by walk_at "bD4") m UP (by rintro _ _⟨ab,m,v,lo,s,tr,a2,rfl,_⟩;rfl) λy=>⟨_,(AR rfl (Ca (Ek Dx rfl (EJ (Aa Bg (qv 1) (qv 0))) (DY 4 UP.nd) (AX rfl (Cb (Xs (LU y) (qv 4) (qv 3)) (AR rfl (Xq (LU y) (qv 3) (qv 4) GP)
   (AX rfl (Cb (Pp (Bf oQ (Aa Bg (qv 2) (qv 4)) VI) (V0 (JL (Aj (hk:=by omega) IM y (A3 (Aa Bg (qv 2) (qv 4)) (A3 (qv 1) (A3 (qv 2) (A3 (qv 3) A5)))))))).pt (AR rfl (QK (qv 0) (T5 (qv 2) (qv 4) set_list))
   (AX rfl (BS GP))) CY))) CY))))
   (AX rfl (BS GP))),?_⟩
 rintro _ R⟨ab,m,v,lo,s,tr,a2,rfl,ok,H⟩;show Ws [.is (nP v),.is (Cg ab m),s,.ow true (CQ a2 tr),.any] _ _ _;have A:Kz.fu ab (n+1) v lo tr=Kz.Bu ab n v (ab v) lo tr:=by rw[Kz.fu]
 have E:∀{s2:Slot}{u:Nat}{T:List Nat}{nx:List Slot->Prop}{R:Ac},CM (n+1) ab m v lo T->u∉T->nx [.is (nP v),.is (Cg ab m),s2,.ow true (CQ a2 (T++[u])),.is (nP u)]->Ws [.is (nP v),.is (Cg ab m),s2,.ow true (CQ a2 T),.is (nP u)] (PF (BE 3) (BE 4) (tC (.bl true))) nx R:=λ{s2 u T nx R}CL a h=>by
  refine aQ (i:=3) (cJ (K3 (G2 rfl ⟨true,a2,CO T,_,rfl,rfl,by rw[AB];have:=CL.le;omega,Xm CL.nd,BZ,AK rfl ⟨.inl (u:Int),rfl,?_⟩⟩)));rw[OV.Mk,sA a];exact h
 rcases H with⟨a1,rfl,rfl⟩|⟨rfl,st,rfl⟩
 .refine Bk (E2 (Ff (λxs i A4=>∃(T:List Nat)(s4:Slot),A4=[.is (nP v),.is (Cg ab m),.ow true (Er a1 lo),.ow true (CQ a2 T),s4]/\CM (n+1) ab m v lo T/\Kz.Bu ab n v ((ab v).drop i) lo T=Kz.Bu ab n v (ab v) lo tr) (Et (Dg (EL (C8 rfl ⟨rfl,AK rfl ⟨_,_,rfl,ok.at,?_⟩⟩))))));refine⟨_,.inl ⟨rfl,⟨tr,_,rfl,ok,rfl⟩,?_,?_⟩⟩
  .rintro i p A4 t⟨T,s4,rfl,CL,c⟩;rw[AM]at t;obtain⟨u,x,rfl⟩:=Option.map_eq_some_iff.mp t;have l:=BL x;rw[XG x]at c;refine G0 ?_;show Ws [.is (nP v),.is (Cg ab m),.ow true (Er a1 lo),.ow true (CQ a2 T),.is (nP u)] _ _ _;refine Gh (Jg (cA (AK rfl (G2 (i:=3) rfl ⟨_,a2,_,.inl (u:Int),rfl,rfl,_,rfl,?_⟩))));rw[Lx]
   by_cases a:u∈T
   .rw[eV a,eJ (by decide)];exact DQ ⟨T,_,rfl,CL,by rw[<- c,c5 a]⟩
   rw[fD a,eM (by decide)];refine Bk (E CL a ?_);obtain⟨o,e1,g,J⟩:=sC (lo:=lo) (u:=u) (by rw[CL.len];exact CL.ab v u l);have r:∀{k:PV->Prop},k (Bv o)->Wp [.is (nP v),.is (Cg ab m),.ow true (Er a1 lo),.ow true (CQ a2 (T++[u])),.is (nP u)] (BF (G7 K) (BE 2) (BE 4)) k:=λh=>Kp (MJ (G2 (i:=2) rfl ⟨a1,_,rfl,AK rfl ⟨(u:Int),u,.fz (Bv o),rfl,WX (by rw[AB];exact(List.getElem?_eq_some_iff.mp e1).1),by rw[AM,e1];rfl,_,rfl,h⟩⟩));have fin:∀{B7:Kz.Lo}{T':List Nat},B7.length=m->Kz.Bu ab n v (u::(ab v).drop (i+1)) lo T=(true,B7.set u (some v),T')->Ws [.is (nP v),.is (Cg ab m),.ow true (Er a1 B7),.ow true (CQ a2 T'),.is (nP u)] (Km (Dm (BE 0) (Oa (BE 2) (BE 4) Ra)) (IZ (tC (.bl true)))) (λA4=>∃(T:List Nat)(s4:Slot),A4=[.is (nP v),.is (Cg ab m),.ow true (Er a1 lo),.ow true (CQ a2 T),s4]/\CM (n+1) ab m v lo T/\Kz.Bu ab n v ((ab v).drop (i+1)) lo T=Kz.Bu ab n v (ab v) lo tr) (.IQ λp t1 t2=>p=.bl (Kz.fu ab (n+1) v lo tr).1/\t1=Er a1 (Kz.fu ab (n+1) v lo tr).2.1/\t2=CQ a2 (Kz.fu ab (n+1) v lo tr).2.2):=λ{B7 T'}G I=>by
    refine Bk (jB (i:=2) (AK rfl (G2 rfl ⟨true,a1,_,rfl,rfl,AK rfl ⟨u,rfl,by rw[AB,G];exact CL.ab v u l,?_⟩⟩)));rw[OV.Mk,gx];refine Zi (i:=2) (j:=3) (by decide) rfl rfl (K3 ?_);rw[A,<- c,I];exact⟨rfl,rfl,rfl⟩
   refine gQ (t1:=Er a1 lo) (t2:=CQ a2 (T++[u])) (new:=λC B=>[.is (nP v),.is (Cg ab m),.ow true C,.ow true B,.is (nP u)]) (iy rfl (Hu (d3 (r (Ko ⟨rfl,_,rfl,?_⟩)))));rw[xM];cases o with
   |none=>
    rw[eM (by rfl),eM rfl];exact fin CL.len (wu a g)
   |some w=>
    rw[eJ (λz=>by cases z)];have e:=CL.sub l a g;refine jd (eZ (i:=2) (j:=3) (q:=0) (b:=false) (by decide) rfl rfl (λz=>by cases z) (cM (r (cM (AK rfl (i6 (n:=2) rfl (.inl ⟨_,_,_,rfl⟩) (lQ (n:=3) rfl (.inl ⟨_,_,_,rfl⟩) (iH ⟨_,⟨ab,m,w,lo,_,T++[u],a2,rfl,e,.inl ⟨a1,rfl,rfl⟩⟩,?_⟩))))))));rintro p C B⟨rfl,rfl,rfl⟩;refine⟨rfl,rfl,_,rfl,?_⟩;cases d:(Kz.fu ab n w lo (T++[u])).1 with
    |true=>
     rw[eM rfl];exact fin (e.yes d) (qH a g d)
    |false=>
     rw[eJ (by decide),(e.fin d).1];exact DQ ⟨_,_,rfl,CL.next e d,by rw[<- c,Xo a g d (e.fin d).1]⟩
  .rintro A4⟨T,s4,rfl,CL,c⟩;rw[AB,yD,Kz.Bu]at c;refine Zi (i:=2) (j:=3) (by decide) rfl rfl (K3 ?_);rw[A,<- c];exact⟨rfl,rfl,rfl⟩
 .refine Bk (E2 (Ff (λxs i A4=>∃(T:List Nat)(s4:Slot),A4=[.is (nP v),.is (Cg ab m),.is (.lst (lo.map Bv)),.ow true (CQ a2 T),s4]/\CM (n+1) ab m v lo T/\Kz.Bu ab n v ((ab v).drop i) lo T=Kz.Bu ab n v (ab v) lo tr) (Et (Dg (EL (C8 rfl ⟨rfl,AK rfl ⟨_,_,rfl,ok.at,?_⟩⟩))))));refine⟨_,.inl ⟨rfl,⟨tr,_,rfl,ok,rfl⟩,?_,?_⟩⟩
  .rintro i p A4 t⟨T,s4,rfl,CL,c⟩;rw[AM]at t;obtain⟨u,x,rfl⟩:=Option.map_eq_some_iff.mp t;have l:=BL x;rw[XG x]at c;refine G0 ?_;show Ws [.is (nP v),.is (Cg ab m),.is (.lst (lo.map Bv)),.ow true (CQ a2 T),.is (nP u)] _ _ _;refine Gh (Jg (cA (AK rfl (G2 (i:=3) rfl ⟨_,a2,_,.inl (u:Int),rfl,rfl,_,rfl,?_⟩))));rw[Lx]
   by_cases a:u∈T
   .rw[eV a,eJ (by decide)];exact DQ ⟨T,_,rfl,CL,by rw[<- c,c5 a]⟩
   rw[fD a,eM (by decide)];refine Bk (E CL a ?_);obtain⟨w,g,D⟩:=qC st l;have e1:(lo.map Bv)[u]?=some (.int w):=by rw[AM,Kz.join_some g];rfl
   have r:∀{k:PV->Prop},k (.int w)->Wp [.is (nP v),.is (Cg ab m),.is (.lst (lo.map Bv)),.ow true (CQ a2 (T++[u])),.is (nP u)] (BF (G7 K) (BE 2) (BE 4)) k:=λh=>EL (C8 rfl ⟨rfl,AK rfl ⟨_,_,rfl,DU e1,h⟩⟩);refine rG (i:=3) (nZ rfl (Hu (d3 (r (Ko ⟨rfl,_,rfl,?_⟩)))));rw[eJ (λz=>by cases z)];have e:=CL.sub l a g;have d:=e.stuck D;refine oz (XB rfl (Kl (r (Kl (AK rfl (Kl (AK rfl (Zx rfl (Yi ⟨_,⟨ab,m,w,lo,_,T++[u],a2,rfl,e,.inr ⟨rfl,D,rfl⟩⟩,?_⟩)))))))));rintro p t'⟨rfl,rfl⟩;refine⟨_,_,rfl,_,rfl,?_⟩;rw[eJ (by decide)];exact DQ ⟨_,_,rfl,CL.next e d,by rw[<- c,Xo a g d (e.fin d).1]⟩
  .rintro A4⟨T,s4,rfl,CL,c⟩;rw[AB,yD,Kz.Bu]at c;refine sL (i:=3) rfl (K3 ?_);rw[A,<- c];exact⟨rfl,rfl⟩
def vc(F:AQ K "finds_upper" "finds_upper" QC f fd)(m:mg "finds_upper"=some (.ref f)): AG P w K mg Zu "finds_upper" 14 ["number","above","lower_of","tried"] (EM (Ji 13)):=by
 have z:∀n:Nat,AG P w K mg Zu "finds_upper" (1+n) ["number","above","lower_of","tried"] (EM (Ji (n))):=λn=>by
  induction n with
  |zero=>exact AG.mk F (F.binds (by walk_at "bD4")) m (F.EE (k:=0) UP (λvs H Q E h=>(Fz.ao (Xa) h).elim) (λAZ A outer s H vs Q E b h=>(Fz.ao (Xa) h).elim))
  |succ n a=>exact xU  n F m a
 exact z 13
def RU:BJ ["above","lower_of","number"] ["above"] (AS Ox):=by walk_at "z1"
def pD:=Sc [(".0",.local),("uppers",.local)]
def iD:DL ["above","lower_of","number"] (AS Ox) pD "uppers" [] []:=by walk_at "z2"
def lx(F:AQ K "greatest_pairing" "greatest_pairing" Ox f fd)(m:mg "greatest_pairing"=some (.ref f))(IM:AG P w K mg Zu "finds_upper" 14 ["number","above","lower_of","tried"] (EM (Ji 13))):
  AG P w K mg Zu "greatest_pairing" 15 ["above"] (B3 dB):=by
 refine Fz.hF (k:=14) F (by walk_at "bD1") m RU (by rintro _ _⟨ab,m,rfl,_,rfl⟩;rfl) λb=>⟨_,(AR rfl (L3 (i:=1) RU.nd rfl (Or.inl rfl) rfl iD (EJ (qv 0)) (λ_ _ _ _=>by exact IP) (λ_ _ _ _=>by exact VI))
   (AR rfl (Ca (Ek Dx rfl (Hj rfl C7 (A3 (B8 CD Ab (A3 (qv 0) A5)) A5)) (DY 2 RU.nd) (AX rfl (Gy (Aj IM b (A3 (qv 2) (A3 (qv 0) (A3 (qv 1) (A3 Rg A5)))))))))
   (AX rfl (BS (qv 1))))),?_⟩
 rintro _ _⟨ab,m,rfl,ok,rfl⟩;show Ws [.is (Cg ab m),.any,.any] _ _ _;have g:=ok.Eb;refine Bk (Fw (Oj (λ_=>true) (λ_=>PV.A7) (Et (Dg (AK rfl ⟨_,.inl ⟨rfl,by rw[AB,Cd];omega,λ_ _=>Ip rfl,λ_ _ _=>Ko rfl,?_⟩⟩)))));rw[List.filter_eq_self.mpr λ_ _=>rfl,Cq,show((List.range m).map ((λ_=>PV.A7) ∘ λv=>PV.lst ((ab v).map nP)))=(Kz.gp ab m 13 0).map Bv by rw[Kz.gp,yQ];exact List.map_const' .. |>.trans (by rw[Cd];rfl)];refine jt 1 rfl λa=>?_;show Ws [.is (Cg ab m),.ow false (Er a (Kz.gp ab m 13 0)),.any] _ _ _;refine Bk (E2 (Ff (λ_ i A4=>∃s2,A4=[.is (Cg ab m),.ow false (Er a (Kz.gp ab m 13 i)),s2]) (JS (GF (C8 rfl ⟨(m:Int),by rw[AB,Cd],by omega,by omega,⟨_,rfl⟩,?_,?_⟩)))))
 .rintro i p A4 c⟨s2,rfl⟩;obtain⟨hi,rfl⟩:=Rn c;rw[J6]at hi;refine G0 ?_;refine qR (i:=1) rfl (AK rfl (AK rfl λa2=>⟨_,⟨ab,m,i,_,_,[],a2,rfl,lG ok hi,.inl ⟨a,rfl,rfl⟩⟩,?_⟩));rintro p e d⟨rfl,rfl,rfl⟩;exact⟨rfl,rfl,_,rfl⟩
 .rintro A4⟨s2,rfl⟩;rw[LD,J6];refine mT 1 rfl (Uw (i:=1) rfl rfl)
def eL:BJ ["loop","other"] ["loop","other"] (AS Rf):=by walk_at "z1"
def pQ(F:AQ K "has_all_of" "has_all_of" Rf f fd)(m:mg "has_all_of"=some (.ref f)):
  AG P w K mg Zu "has_all_of" 1 ["loop","other"] (B3 Z2):=by
 refine Fz.hF (k:=0) F (by walk_at "bD2") m eL (by rintro _ _⟨l1,l2,rfl,_,_,rfl⟩;rfl) λo=>⟨_,(AX rfl (BS (LI GR (B8 xA Ab (A3 (BD kN (G8 (Mg rfl) EZ (A3 (Aa C2 (qv 1) AD) A5)) (G8 (Mg rfl) EZ (A3 (Aa C2 (qv 0) AD) A5))) A5)) AD))),?_⟩
 rintro _ _⟨⟨e,g1,c⟩,⟨d,i,b⟩,rfl,h,g,rfl⟩;have l:c.length<=40:=h;have j:b.length<=40:=g;show Ws [.is (.tup [.str e,.int g1,.tup (c.map .str)]),.is (.tup [.str d,.int i,.tup (b.map .str)])] _ _ _;refine GW (dC (oy ?_))
 walk_at "ww"
 refine⟨by omega,?_⟩
 walk_at "ww"
 refine⟨by omega,λn a=>?_⟩
 walk_at "ww"
 exact iI PV.bl (decide_eq_decide.mpr ⟨λz=>a.mp (Int.ofNat_inj.mp z),λz=>by rw[a.mpr z];rfl⟩)
def gu:BJ ["loops","number","upper"] ["loops","number","upper"] (AS Uh):=by walk_at "z1"
def qJ(F:AQ K "is_above" "is_above" Uh f fd)(m:mg "is_above"=some (.ref f)):
  AG P w K mg Zu "is_above" 2 ["loops","number","upper"] (B3 cy):=by
 refine Fz.hF (k:=1) F (by walk_at "bD3") m gu (by rintro _ _⟨Ls,n,u,rfl,_,_,_,rfl⟩;rfl) λh=>⟨_,(AR rfl (Cb (Bf (Wy h.GG) (Aa C2 (Aa Bg (qv 0) (qv 1)) AD) (Aa C2 (Aa Bg (qv 0) (qv 2)) AD)) (AX rfl (BS (LI O9 (qv 1) (qv 2)))) CY)
   (AX rfl (BS (Aj Ql h (A3 (Aa Bg (qv 0) (qv 2)) (A3 (Aa Bg (qv 0) (qv 1)) A5)))))),?_⟩
 rintro _ _⟨Ls,n,u,rfl,q,p,o,rfl⟩;obtain⟨a,ea⟩:∃a,Ls[n]?=some a:=⟨_,AL p⟩;obtain⟨b,d⟩:∃b,Ls[u]?=some b:=⟨_,AL o⟩;have l:=q.2 a (BL ea);have j:=q.2 b (BL d);have g:BM (Ls.map Lp.P) (n:Int)=some a.P:=DU (by rw[AM,ea];rfl);have e:BM (Ls.map Lp.P) (u:Int)=some b.P:=DU (by rw[AM,d];rfl);have i:Ba Ls n u=if a.cs=b.cs then decide (n<u)else decide (CT b a):=by unfold Ba;rw[ea,d]
 show Ws [.is (.lst (Ls.map Lp.P)),.is (.int n),.is (.int u)] _ _ _
 walk_at "ww"
 refine⟨_,_,rfl,g,_,.inr ⟨rfl,rfl,DD ⟨_,_,rfl,rfl,?_⟩⟩⟩
 walk_at "ww"
 refine⟨_,_,rfl,e,_,.inr ⟨rfl,rfl,DD ⟨_,_,rfl,rfl,?_⟩⟩⟩
 walk_at "ww"
 refine CI (λc=>?_) (λc=>?_)
 .rw[i,eM (iY c)]
  walk_at "ww"
  exact iI PV.bl (decide_eq_decide.mpr Int.ofNat_lt)
 .rw[i,eJ λz=>c (eV z)]
  walk_at "ww"
  refine GW (wp_call (Bj (EL (C8 rfl ⟨rfl,AK rfl ⟨_,_,rfl,e,Bj (EL (C8 rfl ⟨rfl,AK rfl ⟨_,_,rfl,g,D2 ⟨_,⟨b,a,rfl,j,l,rfl⟩,?_⟩⟩⟩))⟩⟩))));rintro _ rfl;rfl
def vO:BJ ["loops","number"] ["loops","number"] (AS Nt):=by walk_at "z1"
def tO:=Sc [(".0",.local),("upper",.local),("is_above",.globalImplicit),("loops",.free),("number",.free)]
def tK:DL ["loops","number"] (AS Nt) tO "upper" ["loops","number"] [0,1]:=by walk_at "z2"
def fj(F:AQ K "numbers_above" "numbers_above" Nt f fd)(m:mg "numbers_above"=some (.ref f)):
  AG P w K mg Zu "numbers_above" 3 ["loops","number"] (B3 W5):=by
 refine Fz.hF (k:=2) F (by walk_at "bD2") m vO (by rintro _ _⟨Ls,n,rfl,_,_,rfl⟩;rfl) λb=>⟨_,(AX rfl (BS (Kd rfl tK (Hj rfl C7 (A3 (B8 CD Ab (A3 (qv 0) A5)) A5)) (λ_ _ _ _=>by exact(M6 (JL (Aj Sm b (A3 (qv 0) (A3 (qv 1) (A3 (qv 2) A5))))))) (λ_ _ _ _=>by exact(qv 2))))),?_⟩
 rintro _ _⟨Ls,n,rfl,q,c,rfl⟩;have e:=q.1;show Ws [.is (.lst (Ls.map Lp.P)),.is (.int n)] _ _ _;refine Mr (Iv (λu:Nat=>PV.int u) (Ba Ls n) (λu:Nat=>PV.int u) (JS (GF (C8 rfl ⟨(Ls.length:Int),by rw[AB],by omega,by omega,List.range Ls.length,rfl,by rw[Cd];omega,λu a=>?_,λu _ _=>AK rfl rfl,rfl⟩))) RZ);have d:=List.mem_range.mp a
 walk_at "ww"
 show Wp [.is (.lst (Ls.map Lp.P)),.is (.int n),.is (.int u)] _ _;refine wp_call (Bj (AK rfl (Bj (AK rfl (Bj (AK rfl (D2 ⟨_,⟨Ls,n,u,rfl,q,c,d,rfl⟩,?_⟩)))))));rintro _ rfl;exact⟨_,rfl,rfl⟩
def Zq:BJ ["lower_of","top","chain"] ["lower_of","top"] (AS Qi):=by walk_at "z1"
def pP(F:AQ K "chain_down" "chain_down" Qi f fd)(m:mg "chain_down"=some (.ref f)):
  AG P w K mg Zu "chain_down" 1 ["lower_of","top"] (B3 YJ):=by
 refine Fz.hF (k:=0) F (by walk_at "bD2") m Zq (by rintro _ _⟨lo,top,ch,rfl,_,_,_,rfl⟩;rfl) λj=>⟨_,(AR rfl (B1 2 Zq.nd (EI (A3 (qv 1) A5)))
   (AR rfl (Ca (QF Dx (Bf jL (Aa Bg (qv 0) (Aa Bg (qv 2) (UJ TH AD))) VI) (AX rfl (Gy (Me NQ Vx Vy Oy (qv 2) (A3 (Aa Bg (qv 0) (Aa Bg (qv 2) (UJ TH AD))) A5))))))
   (AX rfl (BS (qv 2))))),?_⟩
 rintro _ _⟨lo,top,ch,rfl,g,hd,p,rfl⟩;show Ws [.sq false (lo.map Bv),.is (.int top),.any] _ _ _
 walk_at "ww"
 refine⟨by simp,?_⟩;refine Bk (E2 (Z8 (λm A4=>∃(pre a:List Nat)(x:Nat),A4=[.sq false (lo.map Bv),.is (.int top),.own ((pre++[x]).map λn:Nat=>PV.int n)]/\Dn lo x a/\pre++a=ch/\m=a.length) ch.length ⟨[],ch,top,rfl,hd,rfl,rfl⟩ ?_));rintro m _⟨pre,a,x,rfl,hx,b,rfl⟩;have c:∀{k:PV->Prop}{o:Option Nat},lo[x]?=some o->k (Bv o)->Wp [.sq false (lo.map Bv),.is (.int top),.own ((pre++[x]).map λn:Nat=>PV.int n)] (BF (G7 K) (BE 0) (BF (G7 K) (BE 2) (P0 (rU λi=>V.int (-i)) (tC (V.int 1))))) k:=λe h=>EL (bc rfl ⟨rfl,EL (Oh rfl ⟨rfl,Tw (DD ⟨_,rfl,_,_,rfl,XC,_,_,rfl,DU (by rw[AM,e];rfl),h⟩)⟩)⟩);cases hx with
 |one e=>
  refine Hu (Yl (c e (Ko ⟨rfl,false,rfl,?_⟩)));rw[eJ (by decide)];subst b
  walk_at "ww"
  try rfl
 |@more _ y r e d=>
  refine Hu (Yl (c e (Ko ⟨rfl,true,rfl,?_⟩)));rw[eM rfl];have l:pre.length+(r.length+1)<=12:=by have q:=iI List.length b;rw[BQ,Am]at q;omega
  refine U6 rfl (c e ⟨by rw[AB,BQ,QY];omega,r.length,by rw[Am];omega,pre++[x],r,y,?_,d,by rw[<- b,BY];rfl,rfl⟩);show[_,_,Slot.own _]=[_,_,Slot.own _];rw[Cw (l₁:=pre++[x])];rfl
def tS:BJ ["row","loops","chain"] ["row","loops","chain"] (AS Ci):=by walk_at "z1"
def ZO(s:Stmt):Scope:=match DZ s with
 | [.Return (some (.Call _ _ [⟨_,.Lambda _ _ sc _,_⟩] _)) _]=>sc
 |_=>{ kind:=.function,names:=[],isGenerator:=false,isCoroutine:=false }
noncomputable def jn:Scope:={ kind:=.function,names:=[(".0",.local),("number",.local),("loops",.free),("thing",.free)],isGenerator:=false,isCoroutine:=false }
def fX:QD ["row","loops","chain"] (AS Ci) (ZO Ci) "thing" ["chain","loops"] [2,1]:=⟨rfl,by decide +kernel,rfl,by decide +kernel,λ_ _=>rfl,λ_=>rfl,rfl,by decide +kernel,by decide +kernel,by decide +kernel,by decide +kernel⟩
def wI:Nx ["chain","loops","thing"] (ZO Ci) jn "number" ["loops","thing"] [1,2]:=by walk_at "z2"
def mH(F:AQ K "line_of" "line_of" Ci f fd)(m:mg "line_of"=some (.ref f)):
  AG P w K mg Zu "line_of" 3 ["row","loops","chain"] (B3 (WI T (Df Ci))):=by
 refine Fz.hL (k:=2) F Ur (by walk_at "bD3") m tS (by rintro _ _⟨ns,Ls,ch,rfl,_,_,_,_,rfl⟩;rfl) λj=>⟨_,(AX rfl (BS (qD (k:=0) (c:=c) (P:=T) (q:=Jb) (x:="thing") (tb:=CK (Ii K) (Ah (GN (Ny K (BE 0)) [1,2] (M1 (BF (L5 K false) (BE 1) (BF (HW K) (BF (G7 K) (BE 0) (BE 2)) (tC (.int 2))))) (BE 2)) BV)) j rfl rfl E8 (A3 (qv 0) A5) fX rfl rfl rfl hC rfl rfl bA Hd (show((("line_of":Str) ++ ".<locals>.") ++ "<lambda>":Str)=Jb by decide +kernel) rfl (λ_ _ _ _ _=>rfl) λf cd s H=>by
  exact B8 (show Bw _ (.builtin "len") (Ii K)from CD) Ab (A3 (sP rfl wI (by exact EJ (qv 0)) (λ_ _ _ _=>by exact M6 (Bf (show BA _ (compareOp .In) (L5 K false)from NU) (qv 1) (Aa (show EY _ (HW K)from C2) (Aa (show EY _ (G7 K)from Bg) (qv 0) (qv 2)) AD))) (λ_ _ _ _=>by exact qv 2)) A5)
  ))),?_⟩
 rintro _ _⟨ns,Ls,ch,rfl,r,hL,t,o,rfl⟩;show Ws [.raw (FW T (Df Ci) ns),.is (.lst (Ls.map Lp.P)),.is (.lst (ch.map λn:Nat=>PV.int n))] _ _ _;refine Mr (eP (jp:=0) (mJ Ls ch) rfl (λF v h=>h.2) (OW (Dj (RC rfl ⟨_,.inl ⟨rfl,D2 ⟨ns.map .str,rfl,by rw[AB];omega,λx hx=>?_,λys g d=>?_⟩⟩⟩))))
 .obtain⟨x,_,rfl⟩:=List.mem_map.mp hx;show Wp [.is (.lst (ch.map λn:Nat=>PV.int n)),.is (.lst (Ls.map Lp.P)),.is (.str x)] _ _;refine GF (Dj (Cu (Iv (λn:Nat=>PV.int n) (λn=>match Ls[n]? with|some l=>decide (x∈l.cs)|none=>false) (λn:Nat=>PV.int n) (Et (Dg (AK rfl ⟨_,.inl ⟨rfl,ch,rfl,by omega,λn p=>?_,λn _ _=>AK rfl rfl,?_⟩⟩))) (λa b e=>by injection e with e;exact Int.ofNat.inj e))))
  .have hi:=o n p;obtain⟨l,el⟩:∃l,Ls[n]?=some l:=⟨_,AL hi⟩;rw[el];show Wt [.is (.lst (Ls.map Lp.P)),.is (.str x),.is (.int n)] _ _
   walk_at "ww"
   refine⟨_,l.P,rfl,DU (by rw[AM,el];rfl),_,.inr ⟨rfl,rfl,DD ⟨_,_,rfl,rfl,_,.inr ⟨rfl,l.cs,rfl,_,rfl,rfl⟩⟩⟩⟩
  .exact⟨_,.inl ⟨rfl,by rw[AB];rfl⟩⟩
 .obtain⟨ms,rfl,i⟩:=vv g;exact⟨ms,rfl,i,(NH (f:=PV.str)).mp d⟩
def MK:BJ ["row","loops","chains","line_with","line","chain","number"] ["row","loops","chains"] (AS Ou):=by walk_at "z1"
def iV:=Sc [(".0",.local),("number",.local),("loop",.local),("len",.globalImplicit),("line_with",.free),("row",.free)]
def jJ:Hq ["row","loops","chains","line_with","line","chain","number"] (AS Ou) iV "number" "loop" ["line_with","row"] [3,0]:=⟨rfl,by decide +kernel,by decide +kernel,rfl,rfl,rfl,by decide +kernel,by decide +kernel,by decide +kernel,by decide +kernel⟩
def oW(F:AQ K "seats_of" "seats_of" Ou f fd)(m:mg "seats_of"=some (.ref f)):
  AG P w K mg Zu "seats_of" 1 ["row","loops","chains"] (B3 aA):=by
 refine Fz.hF (k:=0) F (by walk_at "bD3") m MK (by rintro _ _⟨ns,Ls,chs,f,rfl,_,rfl⟩;rfl) λo=>⟨_,(AR rfl (B1 3 MK.nd Rg)
   (AR rfl (Ca (Ek Dx rfl (XI rfl NV (A3 (qv 2) A5)) (aq rfl (Mj (DY 4 MK.nd) (Mj (DY 5 MK.nd) XH))) (AX rfl (Ek Dx rfl (EJ (qv 5)) (DY 6 MK.nd) (AX rfl (Xq (LU o) (qv 3) (qv 6) (qv 4)))))))
   (AX rfl (BS (wy rfl jJ (XI rfl NV (A3 (qv 1) A5)) (λ_ _ _ _=>by exact(Iu (A3 (u9 (LU o) (qv 0) (qv 2) (λ_ _=>rfl)) (A3 (BD aZ (B8 (show Bw _ (.builtin "len") (Ii K)from CD) Ab (A3 (qv 1) A5)) (B8 (show Bw _ (.builtin "len") (Ii K)from CD) Ab (A3 (Aa (show EY _ (HW K)from C2) (qv 3) AD) A5))) A5))))))))),?_⟩
 rintro _ _⟨ns,Ls,chs,f,rfl,ok,rfl⟩;show Ws [.is (.lst (ns.map .str)),.is (.lst (Ls.map Lp.P)),.is (.lst (chs.map Ar)),.any,.any,.any,.any] _ _ _;have s:=ok.len;refine Bk (aD (Zf λa=>?_));refine Bk (E2 (Ff (λ_ i A4=>∃s4 d b,A4=[.is (.lst (ns.map .str)),.is (.lst (Ls.map Lp.P)),.is (.lst (chs.map Ar)),.ow false (Hr a f (chs.take i).flatten),s4,d,b]) (Uc (Dg (AK rfl ⟨_,.inl ⟨rfl,⟨_,_,_,rfl⟩,?_,?_⟩⟩)))))
 .rintro i p A4 c⟨s4,d,b,rfl⟩;obtain⟨q,eq,rfl⟩:=xb c;rw[AM]at eq;obtain⟨ch,g,rfl⟩:=Option.map_eq_some_iff.mp eq;refine me ⟨_,_,rfl,?_⟩;show Ws [.is (.lst (ns.map .str)),.is (.lst (Ls.map Lp.P)),.is (.lst (chs.map Ar)),.ow false (Hr a f (chs.take i).flatten),.is (nP i),.is (Ar ch),b] _ _ _;refine Ff (λ_ j A4=>∃b,A4=[.is (.lst (ns.map .str)),.is (.lst (Ls.map Lp.P)),.is (.lst (chs.map Ar)),.ow false (Hr a f ((chs.take i).flatten++ch.take j)),.is (nP i),.is (Ar ch),b]) (Et (Dg (AK rfl ⟨_,.inl ⟨rfl,⟨_,by rw[List.take_zero,Ef]⟩,?_,?_⟩⟩)))
  .rintro j p A4 c⟨b,rfl⟩;rw[AM]at c;obtain⟨n,e,rfl⟩:=Option.map_eq_some_iff.mp c;obtain⟨r,A⟩:=mQ g e;have nd:=ok.nd;rw[A]at nd s;obtain⟨h,u,t⟩:=List.nodup_append.mp nd;have nx:n∉(chs.take i).flatten++ch.take j:=λz=>t n z n Ae rfl;rw[BQ]at s;refine G0 ?_;refine aQ (i:=3) (cJ (AK rfl (G2 rfl ⟨false,a,CO ((chs.take i).flatten++ch.take j),_,rfl,rfl,by rw[AB,AB];omega,Xm h,BZ,AK rfl ⟨.inl (n:Int),rfl,.is (nP n),?_⟩⟩)));rw[OV.Mk,tQ nx (ok.at_ i ch g n (BL e)),BY,<- lr e];rfl
  .rintro A4⟨b,rfl⟩;rw[AB,Eh];exact⟨_,_,_,by rw[oC g]⟩
 .rintro A4⟨s4,d,b,rfl⟩;rw[M9,AB,Eh];refine Mr (ag 3 rfl (gb (λp:Lp×Nat=>PV.int (p.2:Int)) (λp=>p.1.P) (λp=>Dz ((f p.2:Int),(ns.length:Int) - (p.1.cs.length:Int))) (Uc (Dg (AK rfl ⟨_,.inl ⟨rfl,Ls.zipIdx,?_,by rw[yP];have:=ok.Eb;omega,λp c=>?_,?_⟩⟩))) λx y e1 B=>?_))
  .exact fq Ls
  .have v:=n4 c;obtain⟨l,n⟩:=p;show Wp [.is (Hr a f chs.flatten).pv,.is (.lst (ns.map .str)),.is (nP n),.is l.P] _ _;rw[vd];refine UC (Jj (oH (AK rfl ⟨_,_,rfl,AK rfl ⟨.inl (n:Int),_,rfl,valN ((ok.all n).mp (List.getElem?_eq_some_iff.mp v).1),?_⟩⟩)))
   walk_at "ww"
   rw[AB,AB];exact⟨by show 2<=100000;decide,rfl⟩
  .exact⟨Qp _ (λ_=>rfl) _,by rw[Cq];rfl⟩
  .obtain⟨l1,h⟩:=x;obtain⟨l2,u⟩:=y;injection e1 with e1
   cases Int.ofNat_inj.mp e1;cases xa B;rfl
def cc:BJ ["chain","tried","untried"] ["chain","tried"] (AS Nu):=by walk_at "z1"
def uk:=Sc [(".0",.local),("number",.local),("tried",.free)]
def fo:DL ["chain","tried","untried"] (AS Nu) uk "number" ["tried"] [1]:=by walk_at "z2"
def gU(F:AQ K "uppermost_untried" "uppermost_untried" Nu f fd)(m:mg "uppermost_untried"=some (.ref f)):
  AG P w K mg Zu "uppermost_untried" 1 ["chain","tried"] (B3 Zo):=by
 refine Fz.hF (k:=0) F (by walk_at "bD2") m cc (by rintro _ _⟨ch,T,x,r,rfl,_,_,rfl⟩;rfl) λc=>⟨_,(AR rfl (L3 (i:=2) cc.nd rfl (Or.inl rfl) rfl fo (EJ (qv 0)) (λ_ _ _ _=>by exact(M6 (Xs (LU c) (qv 1) (qv 0)))) (λ_ _ _ _=>by exact(qv 1)))
   (AX rfl (BS (Aa Bg (qv 2) AD)))),?_⟩
 rintro _ _⟨ch,T,x,r,rfl,g,d,rfl⟩;show Ws [.is (Ar ch),.is (.An (CO T) (T.map λ_=>.bl true)),.any] _ _ _;refine Bk (Fw (Iv nP (λy=>decide (y∉T)) nP (Et (Dg (AK rfl ⟨_,.inl ⟨rfl,ch,rfl,by omega,λy h=>?_,λy _ _=>AK rfl rfl,?_⟩⟩))) (λa b e=>by injection e with e;exact Int.ofNat_inj.mp e)))
 .refine Jg (sj (AK rfl (AK rfl ⟨_,_,.inl (y:Int),rfl,rfl,_,rfl,?_⟩)));rw[Lx,decide_not]
 .rw[d];exact GW (EL (Oh rfl ⟨rfl,DD ⟨_,_,rfl,DU (j:=0) rfl,rfl⟩⟩))
def Sy:BJ ["above","lower_of","chains","tried","chain"] ["above","lower_of","chains"] (AS PK):=by walk_at "z1"
def gz:=Sc [(".0",.local),("chain",.local),("uppermost_untried",.globalImplicit),("tried",.free)]
def xD:DL ["above","lower_of","chains","tried","chain"] (AS PK) gz "chain" ["tried"] [3]:=by walk_at "z2"
def oB(F:AQ K "apart_of" "apart_of" PK f fd)(m:mg "apart_of"=some (.ref f))(IM:AG P w K mg Zu "finds_upper" 14 ["number","above","lower_of","tried"] (EM (Ji 13))):
  AG P w K mg Zu "apart_of" 15 ["above","lower_of","chains"] (B3 Yc):=by
 refine Fz.hF (k:=14) F (by walk_at "bD3") m Sy (by rintro _ _⟨ab,m,lo,chs,rfl,_,rfl⟩;rfl) λg=>⟨_,(AR rfl (B1 3 Sy.nd Rg)
   (AR rfl (Ca (Ek Dx rfl (EJ (qv 2)) (DY 4 Sy.nd) (AX rfl (Gy (Aj IM g (A3 (Aa Bg (qv 4) AD) (A3 (qv 0) (A3 (qv 1) (A3 (qv 3) A5)))))))))
   (AX rfl (BS (B8 t5 E8 (A3 (Kd rfl xD (EJ (qv 2)) (λ_ _ _ _=>by exact IP) (λ_ _ _ _=>by exact(Aj Rm g (A3 (qv 1) (A3 (qv 0) A5))))) A5)))))),?_⟩
 rintro _ _⟨ab,m,lo,chs,rfl,ok,rfl⟩;show Ws [.is (Cg ab m),.is (.lst (lo.map Bv)),.is (.lst (chs.map Ar)),.any,.any] _ _ _;refine Bk (aD (Zf λa=>?_));show Ws [_,_,_,.ow false (CQ a []),.any] _ _ _;refine Bk (E2 (Ff (λxs i A4=>∃s4,A4=[.is (Cg ab m),.is (.lst (lo.map Bv)),.is (.lst (chs.map Ar)),.ow false (CQ a (Kz.tryAll ab 13 lo ((chs.take i).map FQ) [])),s4]) (Et (Dg (AK rfl ⟨_,.inl ⟨rfl,⟨_,rfl⟩,?_,?_⟩⟩)))))
 .rintro i p A4 b⟨s4,rfl⟩;rw[AM]at b;obtain⟨ch,n,rfl⟩:=Option.map_eq_some_iff.mp b;obtain⟨t,r,rfl,s,st,d,_⟩:=ok.ch ch (BL n);refine G0 ?_;have hd:BM ((t::r).map nP) 0=some (nP t):=DU (j:=0) rfl;refine vy (i:=3) (XB rfl (Kl (EL (C8 rfl ⟨rfl,DD ⟨_,_,rfl,hd,Kl (AK rfl (Kl (AK rfl (Zx rfl (Yi ⟨_,⟨ab,m,t,lo,_,_,a,rfl,ok.fu s,.inr ⟨rfl,st,rfl⟩⟩,?_⟩)))))⟩⟩))));rintro p t'⟨rfl,rfl⟩;refine⟨_,_,rfl,.is (Ar (t::r)),?_⟩;rw[nU n,ZJ];rfl
 .rintro A4⟨s4,rfl⟩;rw[AB,Eh];generalize v:Kz.tryAll ab 13 lo (chs.map FQ) []=T;refine Mr (gf (Dj (Cu (ag 3 rfl (Iv Ar (λ_=>true) (λch=>nP (JC T ch)) (Et (Dg (AK rfl ⟨_,.inl ⟨rfl,chs,rfl,by have:=ok.cl;omega,λ_ _=>Ip rfl,λch l _=>?_,?_⟩⟩))) Xd)))))
  .show Wp [.is (CQ a T).pv,.is (Ar ch)] _ _;rw[xE];obtain⟨r,e⟩:=ok.first l;obtain⟨_,_,_,_,_,_,OO⟩:=ok.ch ch l;rw[v]at e;refine wp_call (Bj (AK rfl (Bj (AK rfl (D2 ⟨_,⟨ch,T,_,r,rfl,OO,e,rfl⟩,?_⟩)))));rintro _ rfl;rfl
  .rw[List.filter_eq_self.mpr λ_ _=>rfl];refine⟨Qp _ (λ_=>rfl) _,_,.inl ⟨rfl,(chs.map λch=>((JC T ch:Nat):Int)),by rw[Cq];rfl,by rw[AB];have:=ok.cl;omega,λDi b u=>?_⟩⟩;have e0:∀z∈Di,((z.toNat:Nat):Int)=z:=λz c=>by
    obtain⟨ch,_,rfl⟩:=List.mem_map.mp (b.mem_iff.mp c);exact iI _ (J6 _)
   refine⟨Di.map Int.toNat,?_,?_,?_⟩
   .rw[Cq];exact df λz c=>iI PV.int (e0 z c).symm
   .have q:=b.map Int.toNat;rw[Cq]at q;exact q
   .rw[NH];exact u.imp_of_mem λ{x y}hx o h=>by have:=e0 x hx;have:=e0 y o;omega
def LX:BJ ["row","loops","above","lower_of","chains","lines"] ["row","loops"] (AS LA):=by walk_at "z1"
def va:=Sc [(".0",.local),("number",.local),("numbers_above",.globalImplicit),("loops",.free)]
def mN:DL ["row","loops","above","lower_of","chains","lines"] (AS LA) va "number" ["loops"] [1]:=by walk_at "z2"
def wb:=Sc [(".0",.local),("top",.local),("chain_down",.globalImplicit),("lower_of",.free)]
def lF:DL ["row","loops","above","lower_of","chains","lines"] (AS LA) wb "top" ["lower_of"] [3]:=by walk_at "z2"
def vE:=Sc [(".0",.local),("chain",.local),("line_of",.globalImplicit),("loops",.free),("row",.free)]
def qP:DL ["row","loops","above","lower_of","chains","lines"] (AS LA) vE "chain" ["loops","row"] [1,0]:=by walk_at "z2"
def gW(F:AQ K "lines_of" "lines_of" LA f fd)(m:mg "lines_of"=some (.ref f)):
  AG P w K mg Zu "lines_of" 16 ["row","loops"] (B3 (WU T (Df Ci))):=by
 refine Fz.hF (k:=15) F (by walk_at "bD2") m LX (by rintro _ _⟨ns,Ls,rfl,_,_,_,rfl⟩;rfl) λd=>⟨_,(AR rfl (Gy (Aj V9 d (A3 (qv 0) (A3 (qv 1) A5))))
   (AR rfl (L3 (i:=2) LX.nd rfl (Or.inl rfl) rfl mN (Hj rfl C7 (A3 (B8 CD Ab (A3 (qv 1) A5)) A5)) (λ_ _ _ _=>by exact IP) (λ_ _ _ _=>by exact(Aj S6 d (A3 (qv 0) (A3 (qv 1) A5)))))
   (AR rfl (B1 3 LX.nd (Aj Tz d (A3 (qv 2) A5)))
   (AR rfl (L3 (i:=4) LX.nd rfl (Or.inl rfl) rfl lF (Hj rfl C7 (A3 (B8 CD Ab (A3 (qv 1) A5)) A5)) (λ_ _ _ _=>by exact(M6 (Bf (show BA _ (compareOp .NotIn) (Fz.UY K)from(Fz.wm d.units)) (qv 1) (qv 0)))) (λ_ _ _ _=>by exact(Aj Th d (A3 (qv 0) (A3 (qv 1) A5)))))
   (AR rfl (L3 (i:=5) LX.nd rfl (Or.inl rfl) rfl qP (EJ (qv 4)) (λ_ _ _ _=>by exact IP) (λ_ _ _ _=>by exact(Aj So d (A3 (qv 1) (A3 (qv 0) (A3 (qv 2) A5))))))
   (AX rfl (BS (Iu (A3 (qv 5) (A3 (Aj Tv d (A3 (qv 0) (A3 (qv 1) (A3 (qv 4) A5)))) (A3 (Aj Ru d (A3 (qv 2) (A3 (qv 3) (A3 (qv 4) A5)))) A5))))))))))),?_⟩
 rintro _ _⟨ns,Ls,rfl,⟨j,nd⟩,hL,q,rfl⟩;show Ws [.raw (FW T (Df Ci) ns),.is (.lst (Ls.map Lp.P)),.any,.any,.any,.any] _ _ _;obtain⟨G,_⟩:=Qy hL j q;obtain⟨c,s⟩:=fT G;obtain⟨f,E⟩:=jg G s;have R:Ml Ls:=⟨hL,λl O=>CC (CF.len (show CF ns l.r l.g l.cs from q l O)) j⟩;have z:=Zz hL j q s;refine Bk (bj (wp_call (OW (Dj (RC rfl ⟨_,.inl ⟨rfl,OW (C8 rfl (D2 ⟨_,⟨false,ns,false,Ls,rfl,j,hL,q,rfl⟩,λp D=>?_⟩))⟩⟩)))));refine Bk (Fw (Iv nP (λ_=>true) (λv=>PV.lst ((ups Ls v).map nP)) (JS (GF (C8 rfl ⟨(Ls.length:Int),by rw[AB],by omega,by omega,List.range Ls.length,rfl,by rw[Cd];omega,λ_ _=>Ip rfl,λv M _=>?_,?_⟩))) RZ))
 .show Wp [.is (.lst (Ls.map Lp.P)),.is (nP v)] _ _;refine Cu (L8 (Bj (AK rfl (Bj (AK rfl (D2 ⟨_,⟨Ls,v,rfl,R,List.mem_range.mp M,rfl⟩,?_⟩))))));rintro _ rfl;rfl
 rw[List.filter_eq_self.mpr λ_ _=>rfl];refine Jy 2 rfl ?_;refine Bk (Fw (L8 (Bj (AK rfl (D2 ⟨_,⟨ups Ls,Ls.length,rfl,z.ok,rfl⟩,?_⟩)))));rintro _ rfl;refine Jy 3 rfl ?_;show Ws [.raw (FW T (Df Ci) ns),.is (.lst (Ls.map Lp.P)),.is (Cg (ups Ls) Ls.length),.is (.lst ((B5 Ls).map Bv)),.any,.any] _ _ _;refine Bk (Fw (Iv nP (λt:Nat=>!(((B5 Ls).map Bv).any λp=>C4 p (.int (t:Int)))) (λt=>Ar (c t)) (JS (GF (C8 rfl ⟨(Ls.length:Int),by rw[AB],by omega,by omega,List.range Ls.length,rfl,by rw[Cd];omega,λt u=>?_,λt u _=>?_,?_⟩))) RZ))
 .show Wt [.is (.lst ((B5 Ls).map Bv)),.is (nP t)] _ _;refine Jg (ot (AK rfl (C8 rfl ⟨rfl,λp D=>?_,trivial,_,rfl,rfl⟩)));obtain⟨o,_,rfl⟩:=List.mem_map.mp D;cases o <;> trivial
 .show Wp [.is (.lst ((B5 Ls).map Bv)),.is (nP t)] _ _;have h:=s t (G.len▸List.mem_range.mp u);refine Cu (L8 (OW (C8 rfl (Bj (AK rfl (D2 ⟨_,⟨B5 Ls,t,c t,rfl,G.len▸hL,h.1,h.2.1,rfl⟩,?_⟩))))));rintro _ rfl;rfl
 have H:=lP (B5 Ls);rw[G.len]at H;rw[H,show(Kz.B6 (B5 Ls)).map (λt=>Ar (c t))=((Kz.B6 (B5 Ls)).map c).map Ar by rw[Cq];rfl];refine Jy 4 rfl ?_;show Ws [.raw (FW T (Df Ci) ns),.is (.lst (Ls.map Lp.P)),.is (Cg (ups Ls) Ls.length),.is (.lst ((B5 Ls).map Bv)),.is (.lst (((Kz.B6 (B5 Ls)).map c).map Ar)),.any] _ _ _;refine Bk (Fw (wM (λx y=>∀ch,x=Ar ch->∃ms:List Str,y=.lst (ms.map .str)/\ms.Perm ns/\ms.Pairwise λa b=>GD Ls ch a<=GD Ls ch b) (Et (Dg (AK rfl ⟨_,.inl ⟨rfl,by rw[AB];have:=z.cl;omega,λ_ _=>Ip rfl,λx hx=>?_,λys B Q=>?_⟩⟩)))))
 .obtain⟨ch,Dp,rfl⟩:=List.mem_map.mp hx;obtain⟨t,u,rfl⟩:=List.mem_map.mp Dp;have h:=s t (Kz.DN.mp u).1;show Wp [.is (.lst (Ls.map Lp.P)),.raw (FW T (Df Ci) ns),.is (Ar (c t))] _ _;refine Cu (L8 (kJ rfl (Bj (AK rfl (Bj (AK rfl (D2 ⟨_,⟨ns,Ls,c t,rfl,j,hL,h.2.1,λn N=>G.len▸h.2.2.2 n N,rfl⟩,?_⟩)))))));rintro _⟨ms,rfl,J,C⟩ch e;rw[Xd _ _ e]at C;exact⟨ms,rfl,J,C⟩
 obtain⟨ls,rfl,Od⟩:=aI B Q;rw[AB,AB]at B;refine Jy 5 rfl ?_;refine GW (UC (Jj (AK rfl (Jj (Cu (L8 (Bj (RC rfl (Bj (AK rfl (Bj (AK rfl (D2 ⟨_,⟨ns,Ls,(Kz.B6 (B5 Ls)).map c,f,rfl,E,rfl⟩,?_⟩)))))))))))));rintro _ rfl;refine Jj (Cu (L8 (Bj (AK rfl (Bj (AK rfl (Bj (AK rfl (D2 ⟨_,⟨ups Ls,Ls.length,B5 Ls,(Kz.B6 (B5 Ls)).map c,rfl,z,rfl⟩,?_⟩)))))))));rintro _⟨A,rfl,L,I⟩;exact IG ⟨by show 3<=100000;decide,ls,_,A,rfl,gD hL j nd q s E (B.trans (AB _)) Od L I⟩
def fb:BJ ["one","other"] ["one","other"] (AS Qx):=by walk_at "z1"
def uF(F:AQ K "_law_within" "_law_within" Qx f fd)(m:mg "_law_within"=some (.ref f)):
  AG P w K mg Zu "_law_within" 1 ["one","other"] (B3 Qk):=by
 refine Fz.hF (k:=0) F (by walk_at "bD2") m fb (by rintro _ _⟨l1,l2,rfl,_,_,rfl⟩;rfl) λi=>⟨_,(AX rfl (BS (LI (vJ i.GG) (G8 (Mg rfl) EZ (A3 (BD rN (Aa C2 (qv 0) AD) (Aa C2 (qv 1) AD)) A5)) (G8 (Mg rfl) EZ (A3 (Aa C2 (qv 1) AD) A5))))),?_⟩
 rintro _ _⟨⟨e,g1,c⟩,⟨d,l,a⟩,rfl,h,g,rfl⟩;have o:c.length<=40:=h;have n:a.length<=40:=g;show Ws [.is (.tup [.str e,.int g1,.tup (c.map .str)]),.is (.tup [.str d,.int l,.tup (a.map .str)])] _ _ _;refine GW (mf ?_);refine Dj (qI ?_)
 walk_at "ww"
 refine⟨_,rfl,?_⟩
 walk_at "ww"
 refine⟨_,rfl,by rw[AB,AB];omega,_,.inr ⟨rfl,c++a,List.map_append.symm,by rw[BQ];omega,?_⟩⟩
 walk_at "ww"
 refine⟨by omega,λb j=>?_⟩;refine iI PV.bl (Bool.eq_iff_iff.mpr (j.trans ?_));rw[eW];exact⟨λz x hx=>(z x).mp (D6 _ hx),λz x=>⟨λhx=>(List.mem_append.mp hx).elim (z x) id,λhx=>Bo _ hx⟩⟩
def vm:BJ ["one","other"] ["one","other"] (AS SD):=by walk_at "z1"
def uV(F:AQ K "_law_fit" "_law_fit" SD f fd)(m:mg "_law_fit"=some (.ref f)):
  AG P w K mg Zu "_law_fit" 2 ["one","other"] (B3 Xk):=by
 refine Fz.hF (k:=1) F (by walk_at "bD2") m vm (by rintro _ _⟨l1,l2,rfl,_,_,rfl⟩;rfl) λd=>⟨_,(AX rfl (BS (mh (Aj Jf d (A3 (qv 0) (A3 (qv 1) A5))) (Lq (Aj Jf d (A3 (qv 1) (A3 (qv 0) A5))))))),?_⟩
 rintro _ _⟨l1,l2,rfl,b,a,rfl⟩;show Ws [.is l1.P,.is l2.P] _ _ _
 walk_at "ww"
 refine wp_call (Bj (AK rfl (Bj (AK rfl (D2 ⟨_,⟨l1,l2,rfl,b,a,rfl⟩,?_⟩)))));rintro _ rfl;refine⟨_,rfl,?_⟩
 by_cases c:CT l2 l1
 .rw[eV c,eM rfl,eV (show CT l2 l1∨CT l1 l2 from .inl c)]
 .rw[fD c,eJ (by decide)];refine wp_call (Bj (AK rfl (Bj (AK rfl (D2 ⟨_,⟨l2,l1,rfl,a,b,rfl⟩,?_⟩)))));rintro _ rfl;exact iI PV.bl (decide_eq_decide.mpr ⟨.inr,λz=>z.resolve_left c⟩)
def IW:BJ ["loops","best","rows","some","start","k"] ["loops"] (AS OX):=by walk_at "z1"
def wt:=Sc [(".0",.local),("j",.local),("_law_fit",.globalImplicit),("k",.free),("loops",.free)]
def hJ:DL ["loops","best","rows","some","start","k"] (AS OX) wt "j" ["k","loops"] [5,0]:=by walk_at "z2"
def mS(F:AQ K "_law_fewest_lines" "_law_fewest_lines" OX f fd)(m:mg "_law_fewest_lines"=some (.ref f)):
  AG P w K mg Zu "_law_fewest_lines" 3 ["loops"] (B3 dM):=by
 refine Fz.hF (k:=2) F (by walk_at "bD1") m IW (by rintro _ _⟨Ls,rfl,_,rfl⟩;rfl) λn=>⟨_,(AR rfl (B1 1 IW.nd (EI A5))
   (AR rfl (B1 2 IW.nd (EI (A3 (EI A5) A5)))
   (AR rfl (Ca (QF Dx (Bf (Ob n.GG) (qv 2) (EI A5)) (AR rfl (B1 3 IW.nd (ug NQ PySem.F.slot_list_pop PySem.F.type_list_pop uM (qv 2)))
   (AR rfl (Ca (Cb (Bf MS (B8 CD Ab (A3 (qv 3) A5)) (B8 CD Ab (A3 (qv 1) A5))) (AX rfl (B1 1 IW.nd (qv 3))) CY))
   (AR rfl (B1 4 IW.nd AD)
   (AR rfl (Ca (Cb (Bf (Ob n.GG) (qv 3) (EI A5)) (AX rfl (B1 4 IW.nd (BD G9 (Aa Bg (qv 3) (UJ TH AD)) AD))) CY))
   (AX rfl (Ek Dx rfl (gg rfl C7 (A3 (qv 4) (A3 (B8 CD Ab (A3 (qv 0) A5)) A5))) (DY 5 IW.nd) (AX rfl (Cb (M3 (JL (B8 (ju rfl) Qr (A3 (Kd rfl hJ (EJ (qv 3)) (λ_ _ _ _=>by exact IP) (λ_ _ _ _=>by exact(Aj Tu n (A3 (Aa (show EY _ (G7 K)from Bg) (qv 1) (qv 2)) (A3 (Aa (show EY _ (G7 K)from Bg) (qv 1) (qv 0)) A5))))) A5)))) (AX rfl (Gy (Me NQ Vx Vy Oy (qv 2) (A3 (BD uG (qv 3) (EI (A3 (qv 5) A5))) A5)))) CY))))))))))
   (AX rfl (BS (qv 1)))))),?_⟩
 rintro _ _⟨Ls,rfl,g,rfl⟩;have hL:=g.1;have h2:(2:Nat) ^ Ls.length<=4096:=Nat.pow_le_pow_right (by decide) hL;show Ws [.is (.lst (Ls.map Lp.P)),.any,.any,.any,.any,.any] _ _ _;refine Bk (Fw (JP (IG ⟨by simp,?_⟩)));refine Jy 1 rfl ?_;refine Bk (Fw (JP (Jj (Cu (JP (IG ⟨by simp,IG ⟨by simp,?_⟩⟩))))));show Ws [.is (.lst (Ls.map Lp.P)),.is (Ar []),.own ([[]].map Ar),.any,.any,.any] _ _ _;refine Bk (E2 (Z8 (λm A4=>∃b rs t s4 d,A4=[.is (.lst (Ls.map Lp.P)),.is (Ar b),.own (List.map Ar rs),t,s4,d]/\JM Ls b rs/\WN Ls.length rs=m/\m<=4096) _ ⟨[],[[]],_,_,_,rfl,JM.init Ls,rfl,?_⟩ ?_))
 .rw[Sn];exact h2
 rintro m _⟨b,rs,t,s4,d,rfl,I,o,J⟩;refine Hu (Tq (Oh rfl ⟨rfl,Dj (Cu (JP (IG ⟨by simp,_,.inl ⟨rfl,rfl,rfl,_,rfl,?_⟩⟩)))⟩));rcases Vl rs with rfl|⟨rs,s,rfl⟩
 .rw[eJ (by decide)];refine GW (AK rfl ⟨b,rfl,I.best,λB C=>?_⟩);rcases I.all B C with h|⟨_,h,_⟩
  .exact h
  .cases h
 rw[Vi]at I o ⊢;rw[eM (by simp)];have gs:G4 Ls s:=I.rows s (by simp);refine Bk (ic (j:=2) (y:=Ar s) rfl (by simp) ?_);rw[Cw,Ce,QZ,List.dropLast_concat];show Ws [.is (.lst (Ls.map Lp.P)),.is (Ar b),.own (rs.map Ar),.is (Ar s),s4,d] _ _ _;refine Oi (λA4=>A4=[.is (.lst (Ls.map Lp.P)),.is (Ar (GS b s)),.own (rs.map Ar),.is (Ar s),s4,d]) (E2 ?_) ?_
 .refine Gh ?_
  walk_at "ww"
  rw[AB,AB];unfold GS
  by_cases c:b.length<s.length
  .rw[eM c,eM (eV (Int.ofNat_lt.mpr c))];exact MI (AK rfl rfl)
  .rw[eJ c,eJ (λz=>c (Int.ofNat_lt.mp (iY z)))];exact DQ rfl
 rintro _ rfl;refine Bk (MI (DD ?_));refine Oi (λA4=>A4=[.is (.lst (Ls.map Lp.P)),.is (Ar (GS b s)),.own (rs.map Ar),.is (Ar s),.is (nP (As s)),d]) (E2 ?_) ?_
 .refine Gh (Hu (Tq (C8 rfl ⟨rfl,Dj (Cu (JP (IG ⟨by simp,_,.inl ⟨rfl,rfl,rfl,_,rfl,?_⟩⟩)))⟩)));rw[AB];cases e:s.getLast? with
  |none=>
   rw[List.getLast?_eq_none_iff]at e;subst e;rw[eJ (by decide)];exact DQ rfl
  |some x=>
   have v:¬ s.length=0:=λz=>by rw[List.length_eq_zero_iff.mp z]at e;cases e
   rw[eM (by rw[fD v];rfl)];refine MI (ak (EL (C8 rfl ⟨rfl,Tw (DD ⟨_,rfl,_,_,rfl,uc e,_,rfl,DD ⟨_,rfl,?_⟩⟩)⟩)));rw[show As s=x+1 by unfold As;rw[e]];rfl
 rintro _ rfl;have L:As s<=Ls.length:=by
  rcases Vl s with rfl|⟨l,y,rfl⟩
  .exact BN _
  .rw[Vi]at gs ⊢;rw[Q7];exact gs.lt y (by simp)
 rw[Ry,Sn]at o;have hw:=Rw Ls.length rs;have u:0<wN Ls.length s:=eC _;refine Ff (λ_ i A4=>∃d,A4=[.is (.lst (Ls.map Lp.P)),.is (Ar (GS b s)),.own ((rs++exts Ls s i).map Ar),.is (Ar s),.is (nP (As s)),d]) (Y1 (AK rfl ⟨_,rfl,GF (C8 rfl ⟨(Ls.length:Int),by rw[AB],by omega,⟨_,by rw[show exts Ls s 0=[]from rfl,Ef]⟩,?_,?_⟩)⟩))
 .rintro i p A4 u⟨d,rfl⟩;obtain⟨hi,rfl⟩:=kM u;have M:i<Ls.length - As s:=by omega
  refine G0 ?_;rw[show((As s:Int)+(i:Int))=((As s+i:Nat):Int) by omega];show Ws [.is (.lst (Ls.map Lp.P)),.is (Ar (GS b s)),.own ((rs++exts Ls s i).map Ar),.is (Ar s),.is (nP (As s)),.is (nP (As s+i))] _ _ _;obtain⟨c,r⟩:∃c,Ls[As s+i]?=some c:=⟨_,AL (by omega)⟩;refine Gh (RQ (Jg (aW rfl (Dj (Cu (Iv nP (λ_=>true) (λj=>PV.bl (EH Ls j (As s+i))) (Et (Dg (AK rfl ⟨_,.inl ⟨rfl,s,rfl,?_,λ_ _=>Ip rfl,λj A _=>?_,_,.inl ⟨rfl,rfl,s.map λj=>EH Ls j (As s+i),?_,_,rfl,?_⟩⟩⟩))) (λa b e=>by injection e with e;exact Int.ofNat_inj.mp e)))))))
  .have q:=Kz.GJ (l2:=List.range Ls.length) (gs.up.imp λh=>Ad h) λx hx=>List.mem_range.mpr (gs.lt x hx);rw[Cd]at q;omega
  .obtain⟨a,ea⟩:∃a,Ls[j]?=some a:=⟨_,AL (gs.lt j A)⟩;show Wp [.is (nP (As s+i)),.is (.lst (Ls.map Lp.P)),.is (nP j)] _ _;refine wp_call (Bj (EL (C8 rfl ⟨rfl,AK rfl ⟨_,a.P,rfl,DU (by rw[AM,ea];rfl),Bj (EL (C8 rfl ⟨rfl,AK rfl ⟨_,c.P,rfl,DU (by rw[AM,r];rfl),D2 ⟨_,⟨a,c,rfl,g.2 a (BL ea),g.2 c (BL r),rfl⟩,?_⟩⟩⟩))⟩⟩)));rintro _ rfl;rw[OU ea r]
  .rw[List.filter_eq_self.mpr λ_ _=>rfl,Cq];rfl
  have ea:((s.map λj=>EH Ls j (As s+i)).any id)=s.any λj=>EH Ls j (As s+i):=by rw[List.any_map];rfl
  rw[ea];have es:=YW Ls s i;have hx:(rs++exts Ls s i).length<=8192:=by
   have H:=Rw Ls.length (exts Ls s i);have G:=U0 Ls s Ls.length i (by omega);have E:wN Ls.length s=2 ^ (Ls.length - As s):=rfl;have D:=eC (Ls.length - As s - i);rw[BQ];omega
  cases e:s.any λj=>EH Ls j (As s+i)with
  |true=>
   rw[e,eM rfl,Ef]at es;rw[eJ (by decide)];exact DQ ⟨_,by rw[es]⟩
  |false=>
   rw[e,eJ (by decide)]at es;rw[eM (by rfl)];refine U6 rfl (Cu (aF (C8 rfl ⟨rfl,Dj (Cu (JP (Jj (AK rfl (IG ⟨by simp,_,.inl ⟨rfl,rfl,?_,?_⟩⟩)))))⟩)))
   .have q:=Kz.GJ (l2:=List.range Ls.length) (gs.up.imp λh=>Ad h) λx hx=>List.mem_range.mpr (gs.lt x hx);rw[Cd]at q;rw[AB];show _+1<=_;omega
   .refine⟨by rw[AB];omega,.is (nP (As s+i)),?_⟩;rw[es,<- BY,Cw (l₁:=rs++exts Ls s i)];show[_,_,Slot.own (_++[PV.lst (_++[nP (As s+i)])]),_,_,_]=[_,_,Slot.own (_++[PV.lst ((s++[As s+i]).map nP)]),_,_,_];rw[Cw (l₁:=s)];rfl
 .rintro A4⟨d,rfl⟩;have q:=U0 Ls s Ls.length (Ls.length - As s) (AW _);rw[NL]at q;rw[N1,show((Ls.length:Int) - (As s:Int)).toNat=Ls.length - As s by omega];have e:WN Ls.length (rs++exts Ls s (Ls.length - As s))<m:=by
   rw[Ry,<- o];show _<_+2 ^ _;omega
  exact⟨_,e,_,_,_,_,_,rfl,I.step,rfl,by omega⟩
def SA:BJ ["loops","seats","j","k"] ["loops","seats"] (AS VC):=by walk_at "z1"
def lK(F:AQ K "_law_rising" "_law_rising" VC f fd)(m:mg "_law_rising"=some (.ref f)):
  AG P w K mg Zu "_law_rising" 2 ["loops","seats"] (B3 XF):=by
 refine Fz.hF (k:=1) F (by walk_at "bD2") m SA (by rintro _ _⟨Ls,ps,rfl,_,_,_,rfl⟩;rfl) λC=>⟨_,(AR rfl (Ca (Ek Dx rfl (Hj rfl C7 (A3 (B8 CD Ab (A3 (qv 0) A5)) A5)) (DY 2 SA.nd) (AX rfl (Ek Dx rfl (Hj rfl C7 (A3 (B8 CD Ab (A3 (qv 0) A5)) A5)) (DY 3 SA.nd) (AX rfl (Cb (KA (Bf GR (Aa C2 (Aa Bg (qv 1) (qv 2)) AD) (Aa C2 (Aa Bg (qv 1) (qv 3)) AD)) (KA (Bf PH (Aa C2 (Aa Bg (qv 1) (qv 2)) AD) (Aa C2 (Aa Bg (qv 1) (qv 3)) AD)) (ME (M3 (JL (Aj Jf C (A3 (Aa Bg (qv 0) (qv 3)) (A3 (Aa Bg (qv 0) (qv 2)) A5)))))))).pt (AX rfl (BS GP)) CY))))))
   (AX rfl (BS GP))),?_⟩
 rintro _ _⟨Ls,ps,rfl,q,n,B,rfl⟩;have I:=q.1;have s:FE (Int.toNat (Ls.length:Int))=(List.range Ls.length).map λu:Nat=>PV.int u:=rfl;show Ws [.is (.lst (Ls.map Lp.P)),.is (.lst (ps.map Dz)),.any,.any] _ _ _;refine Bk (E2 (Ff (λ_ i A4=>∃s2 d,A4=[.is (.lst (Ls.map Lp.P)),.is (.lst (ps.map Dz)),s2,d]) ?_));refine(JS (GF (C8 rfl ⟨(Ls.length:Int),(show PV.int ((Ls.map Lp.P).length:Nat)=PV.int (Ls.length:Int) by rw[AB]),by omega,by omega,⟨_,_,rfl⟩,λi p A4 o=>?_,?_⟩)))
 .rintro⟨s2,d,rfl⟩;rw[s,AM]at o;obtain⟨j,E,rfl⟩:=Option.map_eq_some_iff.mp o;have r:=List.mem_range.mp (BL E);refine G0 ?_;refine Ff (λ_ i A4=>∃d,A4=[.is (.lst (Ls.map Lp.P)),.is (.lst (ps.map Dz)),.is (.int j),d]) ?_;refine(JS (GF (C8 rfl ⟨(Ls.length:Int),(show PV.int ((Ls.map Lp.P).length:Nat)=PV.int (Ls.length:Int) by rw[AB]),by omega,by omega,⟨_,rfl⟩,λH p2 CS O8=>?_,?_⟩)))
  .rintro⟨d,rfl⟩;rw[s,AM]at O8;obtain⟨k,D,rfl⟩:=Option.map_eq_some_iff.mp O8;have hk:=List.mem_range.mp (BL D);refine G0 ?_;show Ws [.is (.lst (Ls.map Lp.P)),.is (.lst (ps.map Dz)),.is (.int j),.is (.int k)] _ _ _;obtain⟨a,ea⟩:∃a,Ls[j]?=some a:=⟨_,AL r⟩;obtain⟨b,e⟩:∃b,Ls[k]?=some b:=⟨_,AL hk⟩;obtain⟨⟨p1,p2⟩,ep⟩:∃p,ps[j]?=some p:=⟨_,AL (n▸r)⟩;obtain⟨⟨g,y⟩,eq⟩:∃p,ps[k]?=some p:=⟨_,AL (n▸hk)⟩;have l:BM (ps.map Dz) (j:Int)=some (.tup [.int p1,.int p2]):=DU (by rw[AM,ep];rfl);have h:BM (ps.map Dz) (k:Int)=some (.tup [.int g,.int y]):=DU (by rw[AM,eq];rfl);have A:BM (Ls.map Lp.P) (j:Int)=some a.P:=DU (by rw[AM,ea];rfl);have z:BM (Ls.map Lp.P) (k:Int)=some b.P:=DU (by rw[AM,e];rfl);have x:=q.2 a (BL ea);have v:=q.2 b (BL e)
   walk_at "ww"
   refine⟨_,_,rfl,l,_,.inr ⟨rfl,rfl,DD ⟨_,_,rfl,rfl,?_⟩⟩⟩
   walk_at "ww"
   refine⟨_,_,rfl,h,_,.inr ⟨rfl,rfl,DD ⟨_,_,rfl,rfl,?_⟩⟩⟩;refine⟨rfl,_,rfl,?_⟩;refine CI (λc=>?_) (λc=>?_)
   .have G:p1=g:=iY c
    walk_at "ww"
    refine⟨_,_,rfl,l,_,.inr ⟨rfl,rfl,DD ⟨_,_,rfl,rfl,?_⟩⟩⟩
    walk_at "ww"
    refine⟨_,_,rfl,h,_,.inr ⟨rfl,rfl,DD ⟨_,_,rfl,rfl,?_⟩⟩⟩
    walk_at "ww"
    refine CI (λt=>?_) (λt=>?_)
    .have hh:CT a b:=B j k a b _ _ ea e ep eq G (iY t)
     walk_at "ww"
     refine wp_call (Bj (EL (C8 rfl ⟨rfl,AK rfl ⟨_,_,rfl,z,Bj (EL (C8 rfl ⟨rfl,AK rfl ⟨_,_,rfl,A,D2 ⟨_,⟨b,a,rfl,v,x,rfl⟩,?_⟩⟩⟩))⟩⟩)));rintro _ rfl;rw[eV hh];refine⟨_,rfl,?_⟩;rw[eJ (by decide)];exact DQ ⟨_,rfl⟩
    .rw[eJ (by decide)];exact DQ ⟨_,rfl⟩
   .rw[eJ (by decide)];exact DQ ⟨_,rfl⟩
  .rintro CS⟨d,rfl⟩;exact⟨_,_,rfl⟩
 .rintro A4⟨s2,d,rfl⟩;exact GW (K3 rfl)
def jo:BJ ["found"] ["found"] (AS Uv):=by walk_at "z1"
def iT(F:AQ K "_law_whole" "_law_whole" Uv f fd)(m:mg "_law_whole"=some (.ref f)):
  AG P w K mg Zu "_law_whole" 1 ["found"] (B3 XZ):=by
 refine Fz.hF (k:=0) F (by walk_at "bD1") m jo (by rintro _ _⟨i,rfl,rfl⟩;rfl) λa=>⟨_,(AX rfl (BS (MC (B8 aE OF (A3 (qv 0) (A3 (ZD "int" UQ) A5))) (Lq (pN (B8 aE OF (A3 (qv 0) (A3 (ZD "bool" Qz) A5)))))))),?_⟩
 rintro _ _⟨i,rfl,rfl⟩;show Ws [_] _ _ _;refine GW (Qg (bu (AK rfl ⟨true,gK _ _,_,rfl,Ks ?_⟩)));exact c7 (bu (AK rfl ⟨false,uv _,_,rfl,rfl⟩))
def Hb:BJ ["script","k","pot","row","loops","lines","seats","apart","fewest"] ["script"] (AS ID):=by walk_at "z1"
def oa:=Sc [(".0",.local),("seat",.local),("_law_whole",.globalImplicit),("len",.globalImplicit),("lines",.free)]
def xI:DL ["script","k","pot","row","loops","lines","seats","apart","fewest"] (AS ID) oa "seat" ["lines"] [5]:=by walk_at "z2"
def x4:=Sc [(".0",.local),("seat",.local)]
def mq:DL ["script","k","pot","row","loops","lines","seats","apart","fewest"] (AS ID) x4 "seat" [] []:=by walk_at "z2"
def tW(F:AQ K "law" "law" ID f fd)(m:mg "law"=some (.ref f)):
  DT P w K mg Zu D8 17 f fd ["script"] (Mh K T (Df Ci)):=by
 refine(F.EE (k:=16) Hb (λvs H Q E h=>by obtain⟨_,a,ns,rfl,_⟩:=h;rfl) (λAZ A outer s H vs Q E d h=>?_));refine⟨_,(AR rfl (Ca (Ek Dx rfl (Hj rfl C7 (A3 (B8 (vi rfl) Ts (A3 AD (A3 (B8 (uU rfl) TU (A3 (B8 CD Ab (A3 (qv 0) A5)) (A3 AD A5))) A5))) A5)) (DY 1 Hb.nd) (AR rfl (B1 2 Hb.nd (Aj Rp d (A3 (qv 0) (A3 (qv 1) A5))))
   (AR rfl (B1 3 Hb.nd (Aj SE d (A3 (qv 2) (A3 AD A5))))
   (AR rfl (B1 4 Hb.nd (Aj Ss d (A3 (qv 2) (A3 (qv 3) (A3 AD A5)))))
   (AR rfl (QK (Aj U3 d (A3 (G8 VU Hz (A3 (qv 3) A5)) (A3 (G8 VU Hz (A3 (qv 4) A5)) A5))) (aq rfl (Mj (DY 5 Hb.nd) (Mj (DY 6 Hb.nd) (Mj (DY 7 Hb.nd) XH)))))
   (AR rfl (B1 8 Hb.nd (Aj T1 d (A3 (qv 4) A5)))
   (AR rfl (Cb (Pp (Bf RH (B8 CD Ab (A3 (qv 5) A5)) (B8 CD Ab (A3 (qv 8) A5))) (Pp (Bf RH (B8 CD Ab (A3 (qv 7) A5)) (B8 CD Ab (A3 (qv 8) A5))) (V0 (Bf RH (B8 CD Ab (A3 (qv 6) A5)) (B8 CD Ab (A3 (qv 4) A5)))))).pt (AX rfl (BS GP)) CY)
   (AR rfl (Cb (M3 (JL (B8 (bV rfl) Ku (A3 (Kd rfl xI (EJ (qv 6)) (λ_ _ _ _=>by exact IP) (λ_ _ _ _=>by exact(MC (Aj UL d (A3 (Aa (show EY _ (HW K)from C2) (qv 1) AD) A5)) (Lq (X3 PH O9 AD (Aa (show EY _ (HW K)from C2) (qv 1) AD) (B8 (show Bw _ (.builtin "len") (Ii K)from CD) Ab (A3 (qv 0) A5))))))) A5)))) (AX rfl (BS GP)) CY)
   (AR rfl (Cb (Bf (OT d.GG) (B8 (nX rfl) E8 (A3 (G8 (tD rfl) EZ (A3 (Kd rfl mq (EJ (qv 6)) (λ_ _ _ _=>by exact IP) (λ_ _ _ _=>by exact(Aa (show EY _ (HW K)from C2) (qv 0) AD))) A5)) A5)) (xf rfl rfl Hz rfl C7 (A3 (B8 CD Ab (A3 (qv 5) A5)) A5))) (AX rfl (BS GP)) CY)
   (AX rfl (Cb (M3 (JL (Aj T7 d (A3 (qv 4) (A3 (qv 6) A5))))) (AX rfl (BS GP)) CY))))))))))))
   (AX rfl (BS GP))),?_⟩
 refine Fz.rO h ?_;intro sc ZR;show Ws [_,.any,.any,.any,.any,.any,.any,.any,.any] _ _ _;refine Bk (E2 (Ff (λ_ _ A4=>∃s1 s2 u s4 t q o j:Slot,A4=[.raw (IB K T (Df Ci) sc),s1,s2,u,s4,t,q,o,j]) ?_))
 walk_at "ww"
 obtain⟨n,X,σ⟩:=kg (b:=1) (c:=6) (n:=sc.length) (by decide) (by decide) (by omega);rw[X,J6];refine⟨by omega,by omega,⟨_,_,_,_,_,_,_,_,rfl⟩,?_,?_⟩
 .rintro i p A4 B⟨s1,s2,u,s4,t,q,o,j,rfl⟩;obtain⟨hi,rfl⟩:=Rn B;refine G0 ?_
  walk_at "ww"
  refine⟨by omega,by omega,?_⟩
  walk_at "ww"
  refine⟨by decide,by decide,λns G hN nd=>?_⟩;have z:ns.length<=40:=by omega
  refine Jy 3 rfl ?_;refine Bk (Fw (pL rfl (Bj (AK rfl (Bj (DD (D2 ⟨_,⟨ns,8,rfl,by decide,z,nd,rfl⟩,?_⟩)))))));rintro _⟨Ls,rfl,Y,I⟩;have hL:Ls.length<=12:=by omega
  have J:Ml Ls:=⟨hL,λl G=>CC (CF.len (show CF ns l.r l.g l.cs from I l G)) z⟩;refine Jy 4 rfl ?_;refine Bk (uu (wp_call (je 0 rfl (λF v h=>h.2) (Cu (VH rfl (C8 rfl ⟨rfl,Bj (Cu (VH rfl (C8 rfl (D2 ⟨_,⟨ns,Ls,rfl,⟨z,nd⟩,hL,I,rfl⟩,?_⟩))))⟩))))));rintro _⟨ls,ps,A,rfl,h⟩;refine kP ⟨_,_,_,rfl,?_⟩;refine Bk (MI (wp_call (Bj (AK rfl (D2 ⟨_,⟨Ls,rfl,J,rfl⟩,?_⟩)))));rintro _⟨b,rfl,R,U⟩;have e:=qZ h R U;have el:=h.len;have ep:=h.pz;have W:=h.le;show Ws [.raw (IB K T (Df Ci) sc),.is (.int i),.AH,.is (.lst (ns.map .str)),.is (.lst (Ls.map Lp.P)),.is (.lst (ls.map λl=>.lst (l.map .str))),.is (.lst (ps.map Dz)),.is (.lst (A.map nP)),.is (Ar b)] _ _ _;have D:∀{x y:Nat},x=y->¬ (!alike (.int (x:Int)) (.int (y:Int)))=true:=by
   rintro x _ rfl;show ¬ (!decide ((x:Int)=x))=true;rw[eV rfl];decide
  walk_at "ww"
  rw[eJ (D (by rw[AB,AB];omega))]
  walk_at "ww"
  rw[eJ (D (by rw[AB,AB];omega))]
  walk_at "ww"
  rw[eJ (D (by rw[AB,AB];omega))]
  walk_at "ww"
  refine Dj (Cu (Oj (λ_=>true) (λ_=>PV.bl true) (Et (Dg (AK rfl ⟨_,.inl ⟨rfl,by rw[AB];omega,λ_ _=>Ip rfl,λx hx _=>?_,_,.inl ⟨rfl,rfl,List.replicate ps.length true,?_,?_⟩⟩⟩)))))
  .obtain⟨⟨M,L⟩,B,rfl⟩:=List.mem_map.mp hx;obtain⟨k,hk,C⟩:=h.aJ B;have C:M=(k:Int):=C;subst C;show Wp [.is (.lst (ls.map λl=>.lst (l.map .str))),.is (.tup [.int (k:Int),.int L])] _ _;refine Qg (wp_call (Bj (UT (To rfl ⟨rfl,DD ⟨_,_,rfl,rfl,D2 ⟨_,⟨(k:Int),rfl,rfl⟩,?_⟩⟩⟩))));rintro _ rfl;refine⟨_,rfl,?_⟩;rw[eM rfl]
   walk_at "ww"
   rw[eM (eV (y6 k))];refine GF (C8 rfl ⟨_,rfl,iI PV.bl (eV ?_)⟩);rw[AB];exact Int.ofNat_lt.mpr hk
  .rw[List.filter_eq_self.mpr λ_ _=>rfl,Cq,yQ];exact List.map_const' ..
  refine⟨_,rfl,?_⟩;have ea:(List.replicate ps.length true).all id=true:=by rw[FI];intro x hx;rw[(List.mem_replicate.mp hx).2];rfl
  rw[ea,eJ (by decide)];refine DQ (Bk (Gh (Hu (mF (Dj (Cu (ki (Dj (Cu (Iv Dz (λ_=>true) (λp=>PV.int p.1) (Et (Dg (AK rfl ⟨_,.inl ⟨rfl,ps,rfl,by omega,λ_ _=>Ip rfl,λx hx _=>?_,_,.inl ⟨rfl,ps.map Prod.fst,?_,by rw[AB];omega,λO S V N=>?_⟩⟩⟩))) lR))))))))))
  .show Wp [.is (Dz x)] _ _;exact UT (To rfl ⟨rfl,DD ⟨_,_,rfl,rfl,rfl⟩⟩)
  .rw[List.filter_eq_self.mpr λ_ _=>rfl,Cq];rfl
  refine⟨_,.inl ⟨rfl,O,rfl,?_⟩⟩
  walk_at "ww"
  rw[AB,J6];refine⟨by omega,by omega,_,.inl ⟨rfl,rfl,(List.range ls.length).map λk:Nat=>(k:Int),by rw[Cq];rfl,_,rfl,?_⟩⟩;rw[eJ (by rw[eV (h.range S V N)];decide)];refine DQ (Gh (RQ (Jg (wp_call (Bj (AK rfl (Bj (AK rfl (D2 ⟨_,⟨Ls,ps,rfl,J,ep,h.fits,rfl⟩,?_⟩)))))))));rintro _ rfl;refine⟨_,rfl,?_⟩;rw[eJ (by decide)];exact DQ ⟨_,_,_,_,_,_,_,_,rfl⟩
 .rintro A4⟨s1,s2,u,s4,t,q,o,j,rfl⟩;exact GW (K3 rfl)
def all_mk{h:Heap}{fa f1 f2 f3 f4 f5 f6 f7 f8 f9 WC ZI ai YU XA d5 Xc cj az bK ZL W8 ah bp YA br Xj Z9 XY Xx Xz:Addr}{g1 g2 g3 g4 g5 g6 g7 g8 g9 sT kC tH rl fe qw ix rQ v9 n9 cw jV lE uD oq xO uO vq fG uN vL:FuncData}(X:K.In h)(G:h.Ns mainGlobals mg)(nK:mg "law"=some (.ref fa))
  
  (a1:nS K "_law_pot" (.ref f1)) (F1:AQ K "_law_pot" "_law_pot" Sw f1 g1)
  (a2:nS K "_law_take" (.ref f2)) (F2:AQ K "_law_take" "_law_take" R0 f2 g2)
  (a3:nS K "_law_letters" (.ref f3)) (F3:AQ K "_law_letters" "_law_letters" R4 f3 g3)
  (a4:nS K "_law_name" (.ref f4)) (F4:AQ K "_law_name" "_law_name" Uj f4 g4)
  (a5:nS K "_law_names" (.ref f5)) (F5:AQ K "_law_names" "_law_names" R3 f5 g5)
  (a6:nS K "_law_row" (.ref f6)) (F6:AQ K "_law_row" "_law_row" VE f6 g6)
  (a7:nS K "_law_some_loop" (.ref f7)) (F7:AQ K "_law_some_loop" "_law_some_loop" U8 f7 g7)
  (a8:nS K "_law_loops" (.ref f8)) (F8:AQ K "_law_loops" "_law_loops" OP f8 g8)
  (a9:nS K "is_gap" (.ref f9)) (F9:AQ K "is_gap" "is_gap" Tx f9 g9)
  (wY:nS K "is_coming" (.ref WC)) (iQ:AQ K "is_coming" "is_coming" OD WC sT)
  (nr:nS K "is_loop" (.ref ZI)) (gn:AQ K "is_loop" "is_loop" Tj ZI kC)
  (ig:nS K "check_loop" (.ref ai)) (qL:AQ K "check_loop" "check_loop" VF ai tH)
  (sX:nS K "check_loops" (.ref YU)) (kR:AQ K "check_loops" "check_loops" SQ YU rl)
  (lA:nS K "finds_upper" (.ref XA)) (hV:AQ K "finds_upper" "finds_upper" QC XA fe)
  (gL:nS K "greatest_pairing" (.ref d5)) (lT:AQ K "greatest_pairing" "greatest_pairing" Ox d5 qw)
  (jX:nS K "has_all_of" (.ref Xc)) (qd:AQ K "has_all_of" "has_all_of" Rf Xc ix)
  (ur:nS K "is_above" (.ref cj)) (tF:AQ K "is_above" "is_above" Uh cj rQ)
  (oh:nS K "numbers_above" (.ref az)) (lU:AQ K "numbers_above" "numbers_above" Nt az v9)
  (rA:nS K "chain_down" (.ref bK)) (mB:AQ K "chain_down" "chain_down" Qi bK n9)
  (wG:nS K "line_of" (.ref ZL)) (UD:AQ K "line_of" "line_of" Ci ZL cw/\cw.code=.ref cT/\PySem.W.codeHdIn K cT T=true)
  (jh:nS K "seats_of" (.ref W8)) (mz:AQ K "seats_of" "seats_of" Ou W8 jV)
  (vW:nS K "uppermost_untried" (.ref ah)) (jk:AQ K "uppermost_untried" "uppermost_untried" Nu ah lE)
  (qS:nS K "apart_of" (.ref bp)) (jI:AQ K "apart_of" "apart_of" PK bp uD)
  (gB:nS K "lines_of" (.ref YA)) (gN:AQ K "lines_of" "lines_of" LA YA oq)
  (nv:nS K "_law_within" (.ref br)) (m7:AQ K "_law_within" "_law_within" Qx br xO)
  (om:nS K "_law_fit" (.ref Xj)) (u5:AQ K "_law_fit" "_law_fit" SD Xj uO)
  (rE:nS K "_law_fewest_lines" (.ref Z9)) (pB:AQ K "_law_fewest_lines" "_law_fewest_lines" OX Z9 vq)
  (iu:nS K "_law_rising" (.ref XY)) (lg:AQ K "_law_rising" "_law_rising" VC XY fG)
  (lq:nS K "_law_whole" (.ref Xx)) (lh:AQ K "_law_whole" "_law_whole" Uv Xx uN)
  (cB:nS K "law" (.ref Xz)) (ZF:AQ K "law" "law" ID Xz vL)
  (gY:nN K "all")
  (ky:nN K "any")
  (l6:nN K "bool")
  (r9:nN K "enumerate")
  (iF:nN K "int")
  (xK:nN K "isinstance")
  (hU:nN K "len")
  (ra:nN K "list")
  (uK:nN K "max")
  (jw:nN K "min")
  (iG:nN K "range")
  (uL:nN K "set")
  (lH:nN K "sorted")
  (kU:nN K "tuple")
  (oA:nS K "MOST_LOOPS" (.int 12 Ta))
  (vS:nS K "RULES" (.ref IE))
  {fM:Option Addr}{fR:Array (Option Value)}{se:Nat}{oZ qz oX:Tok}(vP:K.lookup IE=some ⟨.type "tuple", fM,.seq #[.str "none" oZ,.str "ahead" qz,.str "all" oX] se,fR⟩)
  (Hd:mainGlobals≠T)
  : ∃fd:FuncData,(∀(s:Shared)(v:Value),BindsTo s fd ⟨[v],[]⟩ [("script", v)])/\∀Zu:Heap,K.In Zu->Zu.Ns mainGlobals mg->Zu.BuiltinsAt mg T->DT l.prog w K mg Zu D8 17 fa fd ["script"] (Mh K T (Df Ci)):=by
 have e:=nK.symm.trans (Bq X G cB);cases e;have Ku:=FL X G gY;have Qr:=FL X G ky;have Qz:=FL X G l6;have NV:=FL X G r9;have UQ:=FL X G iF;have OF:=FL X G xK;have Ab:=FL X G hU;have Hz:=FL X G ra;have Ts:=FL X G uK;have TU:=FL X G jw;have C7:=FL X G iG;have EZ:=FL X G uL;have E8:=FL X G lH;have KW:=FL X G kU;have U2:=Bq X G oA;have Ui:=Bq X G vS;have V6:∀H,Ag K H IE [.str "none",.str "ahead",.str "all"]:=λH=>.inr ⟨_,_,_,vP,rfl,rfl,(by show 3<=sizeLine;decide +kernel),(.cons ⟨_,rfl⟩ (.cons ⟨_,rfl⟩ (.cons ⟨_,rfl⟩ .nil)))⟩;obtain⟨_,_,kV,dc,pm,an,cd,ct,_,rfl,_,_⟩:=id ZF.ex;refine⟨PySem.W.fnOf "law" "law" (Hv ID) (DZ ID) (AS ID) .none kV dc pm an cd ct,λs v=>.of_eq rfl,λZu _ _ bA=>?_⟩;have Rp:=m6 (P:=l.prog) (w:=w) (Zu:=Zu) Ab F1 (Bq X G a1);have Bx:=uR (P:=l.prog) (w:=w) (Zu:=Zu) F2 (Bq X G a2);have Mz:=l8 (P:=l.prog) (w:=w) (Zu:=Zu) F3 (Bq X G a3);have U7:=jf Ab Mz Bx F4 (Bq X G a4);have VA:=qT U7 C7 F5 (Bq X G a5);have SE:=tM Bx VA F6 (Bq X G a6);have SW:=nD Ab Bx E8 KW F7 (Bq X G a7);have Ss:=gT Ab Bx C7 KW SW F8 (Bq X G a8);have Qs:=m8 (P:=l.prog) (w:=w) (Zu:=Zu) Ab F9 (Bq X G a9);have SR:=wa (P:=l.prog) (w:=w) (Zu:=Zu) E8 Ku Hz EZ iQ (Bq X G wY);have Ud:=oP SR Qs Ui V6 gn (Bq X G nr);have T2:=pU Ud qL (Bq X G ig);have V9:=xj Ab T2 U2 kR (Bq X G sX);have IM:=vc (P:=l.prog) (w:=w) (Zu:=Zu) hV (Bq X G lA);have Tz:=lx Ab C7 lT (Bq X G gL) IM;have Ql:=pQ (P:=l.prog) (w:=w) (Zu:=Zu) Ab EZ qd (Bq X G jX);have Sm:=qJ Ql tF (Bq X G ur);have S6:=fj Ab C7 Sm lU (Bq X G oh);have Th:=pP (P:=l.prog) (w:=w) (Zu:=Zu) mB (Bq X G rA);have So:=mH (P:=l.prog) (w:=w) (Zu:=Zu) Ab E8 UD.2.1 UD.2.2 bA Hd UD.1 (Bq X G wG);have Tv:=oW (P:=l.prog) (w:=w) (Zu:=Zu) Ab NV mz (Bq X G jh);have Rm:=gU (P:=l.prog) (w:=w) (Zu:=Zu) jk (Bq X G vW);have Ru:=oB E8 Rm jI (Bq X G qS) IM;have U3:=gW Ab C7 Ru Th V9 Tz So S6 Tv gN (Bq X G gB);have Jf:=uF (P:=l.prog) (w:=w) (Zu:=Zu) EZ m7 (Bq X G nv);have Tu:=uV Jf u5 (Bq X G om);have T1:=mS Ab C7 Tu Qr pB (Bq X G rE);have T7:=lK Ab C7 Jf lg (Bq X G iu);have UL:=iT (P:=l.prog) (w:=w) (Zu:=Zu) Qz UQ OF lh (Bq X G lq);exact tW Ab C7 E8 Ku Hz EZ T1 Ss Rp T7 SE UL U3 Ts TU ZF (Bq X G cB)
def walk{q:Program}{loose:List Str}{XP:(zw)->Heap->Prop}{YP:World->Heap->Prop}{d:DefRec}{K:Params->zu}(hn:l.most=some 63)(MW:d.params.defaults=[])
  (hY:∀(w:World)(h:Heap),YP w h->(K w.params).In h) (hT:∀(w:World)(h:Heap),YP w h->h.get? T=some (PySem.W.tabObj #[])) (nT:∀w:World,(K w.params).lookup T=none) (hC:∀w:World,PySem.W.codeHdIn (K w.params) c T=true)
  (F:∀(w:World)(mg:zw)(fa:Addr)(h:Heap),(K w.params).In h->h.Ns mainGlobals mg->mg d.name=some (.ref fa)->
   ∃fd:FuncData,(∀(s:Shared)(u:Value),BindsTo s fd ⟨[u],[]⟩ [("script", u)])/\∀Zu:Heap,(K w.params).In Zu->Zu.Ns mainGlobals mg->Zu.BuiltinsAt mg T->DT l.prog w (K w.params) mg Zu D8 17 fa fd ["script"] (Mh (K w.params) T (Df Ci))) :
  PySem.W.WalkO q loose XP YP l.row.toRowW d [] (λf vs=>PySem.call f vs):=
 L2.iN (n:=63) (T:=T) (c:=c) (pos:=Df Ci) (qn:=Jb) (k:=17) (x:="script") (CX:=λ_=>D8) (sp:=λw=>Mh (K w.params) T (Df Ci)) hn (by decide) MW ⟨rfl,by decide,by decide⟩ hY hT hC nT F (λ_ _ a ns hl hT hS=>⟨hT,a,ns,rfl,hS,hl,λ_=>rfl⟩) λ_ _ _ _ _ z=>z
end Pf
open PySem.W
local macro_rules | `(tactic| walk_at "kF")=>`(tactic| (refine' L2.mY ?_ ?_ ?_;all_goals try k_is;all_goals k_is))
set_option maxRecDepth 100000 in
set_option maxHeartbeats 0 in
theorem PySem.Challenge.cw_stirround_k46_as_many_lines_holds : PySem.Challenge.rw_stirround_k46_as_many_lines.Holds := by
 w_on;o_law;k_head;(case hw=>w_witness2)
 k_fill
 refine Pf.walk (c:=?c) (l:=PySem.Challenge.rw_stirround_k46_as_many_lines) rfl rfl (λw h Y=>PySem.W.km_in_of Y) (λw h Y=>PySem.W.km_tabs_of Y _ (Ae ..)) (λw=>by kernel_rfl) ?hC ?F
 case F=>
  intro w mg fa h KX G N7;apply Pf.all_mk (cT:=?c) KX G N7
  any_goals first|k_is|(show _=_;k_is)|kernel_rfl|walk_at "kF" | (refine⟨?_,?_,?_⟩;(walk_at "kF");rfl;kernel_rfl)|decide
 case hC=>
  intro w;kernel_rfl
#print axioms PySem.Challenge.cw_stirround_k46_as_many_lines_holds
