import PyProof.Rows.All
import Wide.All
import OpenK.AllK
import PySem.Challenge.RW_stirround_k79_the_nth_told
set_option genSizeOf false
set_option linter.all false
set_option compiler.extract_closed false
set_option bootstrap.genMatcherCode false
noncomputable section
def iM:=@PySem.wpAny_bind
def ib:=@if_neg
def ir:=@if_pos
def jE:=@decide_eq_true
def jG:=@of_decide_eq_true
def jP:=@PySem.wpAny_pure
def jo:=@decide_eq_false
def jx:=@PySem.wpAny_mono
def k9:=@congrArg
def kH:=@PySem.wpAny_truthy_bool
def kW:=@beq_self_eq_true
def kY:=@PySem.wpAny_Call_Name_kw
def lP:=@PySem.wpAny_passesOwn
def lZ:=@PySem.wpAny_holding
def m9:=@PySem.wpAny_field
def mD:=@PySem.lookup_relabel_local
def mV:=@PySem.wpAny_execs_nil
def oJ:=@PySem.call_meets
def oo:=@PySem.tupleKind_room_in1
def ou:=@decide_eq_true_iff
def p4:=@PySem.wpAny_callSpecial?_slot
def pR:=@PySem.wpAny_setField
def pS:=@PySem.wpAny_pyIter_enum
def pW:=@PySem.wpAny_newObj_type
def qH:=@PySem.codeAny_mono
def qK:=@PySem.wpAny_pyIter_tuple
def qQ:=@PySem.wpAny_letOwnedTupleGo_enum
def qr:=@PySem.wpAny_pyIter_list
def rf:=@PySem.wpAny_getItem_list_slice
def sU:=@PySem.wpAny_comprehension_free
def tE:=@PySem.wpAny_call_entry
def tV:=@PySem.wpAny_call
def tW:=@PySem.wpAny_updateSeq
def tX:=@if_false
def uD:=@PySem.wpAny_seqItems
def uQ:=@PySem.wpAny_standAt
def uT:=@PySem.wpAny_attempt
def ub:=@PySem.evalPart_none
def vE:=@or_false
def vX:=@if_true
def wB:=@beq_iff_eq
def AA:=@List.length_map
def Ae:=@Nat.le_refl
def Af:=@List.not_mem_nil
def Ah:=@List.getElem?_eq_getElem
def Ak:=@PySem.W.mg_of
def Am:=@List.getElem?_map
def Aq:=@List.map_cons
def B4:=@PySem.Heap.lt_size
def B5:=@Ne.symm
def BH:=@Option.some.inj
def Bf:=@List.size_toArray
def Bj:=@List.length_append
def Bn:=@List.map_append
def Bo:=@List.mem_of_getElem?
def Bv:=@List.append_assoc
def Bz:=@PySem.Heap.get?_push_of_some
def C0:=@List.getElem?_set_ne
def CA:=@Nat.zero_le
def CG:=@List.length_cons
def CH:=@List.map_map
def CL:=@List.getElem?_set_self
def CM:=@List.nodup_append
def CU:=@Nat.le_trans
def CV:=@Nat.ne_of_lt
def Co:=@Bool.false_ne_true
def Cp:=@PySem.PassesOwn.never
def D0:=@PySem.Heap.get?_push_size
def D1:=@List.getElem?_append_left
def DB:=@List.getElem?_append_right
def DC:=@Nat.lt_of_lt_of_le
def DV:=@List.mem_cons_of_mem
def EO:=@Bool.and_eq_true
def ER:=@List.append_nil
def ES:=@List.mem_cons_self
def FD:=@List.length_take
def FE:=@List.mem_append_right
def Fm:=@List.getElem_of_mem
def Fn:=@PySem.F.plainAttrs_list
def GB:=@List.mem_append_left
def GC:=@List.nodup_nil
def GD:=@List.take_length
def Gp:=@Int.toNat_natCast
def Gq:=@List.all_eq_true
def Gr:=@List.lookup_cons
def Gs:=@PySem.W.kia_one
def Gu:=@PySem.W.mg_none_of
def Ij:=@PySem.Heap.get?_update_other
def Ik:=@List.length_set
def Il:=@List.length_singleton
def Im:=@List.map_nil
def JZ:=@Int.emod_nonneg
def Ja:=@List.zip_cons_cons
def Kw:=@PySem.Heap.size_push
def Kx:=@Int.emod_lt_of_pos
def Ky:=@List.getElem_mem
def Kz:=@List.length_filter_le
def L4:=@List.mem_cons
def L5:=@Nat.le_succ
def L6:=@PySem.mem_of_lookup
def MW:=@Bool.eq_iff_iff
def MX:=@PySem.Heap.get?_update_self
def MY:=@List.any_cons
def MZ:=@List.getElem_idxOf
def Ma:=@List.getElem_map
def Mb:=@List.map_congr_left
def Mc:=@List.nil_append
def Md:=@List.sum_cons
def Me:=@List.take_of_length_le
def Mf:=@Nat.lt_irrefl
def Mg:=@Nat.lt_of_le_of_lt
def Mh:=@Nat.ne_of_gt
def Mi:=@PySem.F.slot_list_append
def Mj:=@PySem.F.type_list_append
def PD:=@Int.natCast_nonneg
def PF:=@List.find?_cons
def PH:=@List.length_zip
def PJ:=@List.mem_append
def PK:=@Nat.succ.inj
def Rf:=@Int.eq_ofNat_of_zero_le
def Rg:=@List.all_cons
def Rh:=@List.filterMap_cons
def Ri:=@List.getD_eq_getElem?_getD
def Rj:=@List.getElem?_range
def Rk:=@List.length_range
def Rl:=@List.set_cons_succ
def Rm:=@List.set_set
def Ro:=@List.take_succ_eq_append_getElem
def Rp:=@Nat.min_eq_left
def Rq:=@Nat.sub_zero
def Rr:=@PySem.Obj.data_mapFields
def XT:=@Array.length_toList
def XU:=@Bool.and_false
def XW:=@PySem.F.slot_tuple_iterator_next
def XX:=@PySem.Heap.size_after_update
def XY:=@Int.le_refl
def XZ:=@Int.lt_of_le_of_lt
def Xa:=@List.drop_zero
def Xb:=@List.filter_append
def Xc:=@List.filter_map
def Xd:=@List.getElem_take
def Xe:=@List.length_erase_of_mem
def Xf:=@List.length_nil
def Xg:=@List.length_pos_of_mem
def Xh:=@List.map_take
def Xi:=@List.reverse_cons
def Xj:=@List.sum_append
def Xk:=@Nat.le_of_lt
def Xl:=@Nat.le_total
def Xm:=@Nat.min_eq_right
def Xn:=@Nat.sub_self
def Xo:=@Option.isSome_map
def Xp:=@Option.map_some
def Xq:=@PyProof.Rows.callWith_type1
def Xr:=@PySem.W.callWith_K
def gj:=@Array.getElem?_toList
def gk:=@Bool.true_and
def gm:=@Classical.choose_spec
def gp:=@PySem.Heap.get?_none_of_le
def gq:=@Int.lt_trans
def gr:=@Int.toNat_of_nonneg
def gu:=@List.cons_append
def gv:=@List.drop_eq_getElem_cons
def gw:=@List.filter_congr
def gx:=@List.filter_filter
def gy:=@List.forIn_nil
def gz:=@List.getElem?_replicate
def hU:=@List.length_drop
def hV:=@List.map_drop
def hX:=@List.mem_erase_of_ne
def hZ:=@List.mem_filter
def i3:=@List.mem_of_mem_take
def i4:=@List.of_mem_zip
def i5:=@List.set_cons_zero
def i6:=@List.zip_append
def i7:=@Nat.le_of_eq
def i8:=@Nat.le_of_lt_succ
def i9:=@Nat.lt_succ_self
def iA:=@Nat.lt_trans
def iB:=@Nat.zero_add
def iC:=@PySem.Obj.isFreed_of_fields
def iD:=@PySem.Paired.length
def iE:=@PySem.W.looks_findIn
def iF:=@PySem.W.plainGet_of
def ZAQ:=@Array.find?_toList
def ZAR:=@PySem.Calls.Name_function_global
def ZAS:=@PySem.Calls.callWith_builtin
def ZAT:=@PySem.F.args_tuple_iterator_next_1
def ZAU:=@PySem.F.entry_tuple_iterator_next
def ZAV:=@Int.mul_le_mul_of_nonneg_right
def ZAW:=@List.Pairwise.map
def ZAX:=@List.any_eq_false
def ZAY:=@List.countP_cons
def ZAZ:=@List.dropLast_eq_take
def ZAa:=@List.drop_length
def ZAb:=@List.eraseIdxIfInBounds_toArray
def ZAc:=@List.eraseIdx_cons_succ
def ZAd:=@List.ext_getElem
def ZAe:=@List.filter_cons
def ZAf:=@List.filter_cons_of_pos
def ZAg:=@List.getElem?_cons_succ
def ZAh:=@List.getElem?_eq_none
def ZAi:=@List.getElem?_mapIdx
def ZAj:=@List.getElem_inj
def ZAk:=@List.getElem_range
def ZAl:=@List.length_replicate
def ZAm:=@List.length_reverse
def ZAn:=@List.mem_singleton
def ZAo:=@List.take_sublist
def ZAp:=@Nat.le_of_not_lt
def ZAq:=@Nat.lt_succ_of_lt
def ZAr:=@Nat.not_lt_of_le
def ZAs:=@Option.bind_some
def ZAt:=@Option.getD_none
def ZAu:=@Option.getD_some
def ZAv:=@Option.isSome_some
def ZAw:=@PySem.F.slot_list_index
def ZAx:=@PySem.F.slot_list_insert
def ZAy:=@PySem.F.slot_list_remove
def ZAz:=@PySem.W.cellsFrom_some
def ZB0:=@PySem.W.kitx_dict
def ZB1:=@PySem.W.kitx_list
def ZB2:=@PySem.W.methodCall_KW
def ZB3:=@PySem.SeqAt.RcNeAt.lists_lengths
open PySem PySem.Spec PyProof.Rows
abbrev ZBc:=PySem.W.Frag
abbrev ZBd:=(List (Addr×Obj))
abbrev ZBe:=(Str->Option Value)
namespace PySem.W.Fast
def t:=Nat
def tw9477863574870314441:=t
def tw11678802555450518534:=t
def tw1218519387083702237:=t
def tw3528268860511740941:=t
def tw7191087601695133079:=t
def tw358343107458626379:=t
def tw17971007915452351582:=t
def tw1049388528631038751:=t
def tw12144432846650502646:=t
def tw13679151672551426131:=t
def tw6604576835188431434:=t
def tw17928917927097091731:=t
def tw16248383501322038027:=t
def tw8655039514771800254:=t
def tw10205052624735702213:=t
def tw15265209274588115097:=t
def tw3621125514420349517:=t
def tw12227729401464294279:=t
def tw7289237615786897057:=t
def tw14454524087625170311:=t
def tw9232918167319742009:=t
def tw15230332975867438277:=t
def tw2620008377146902904:=t
def tw16631487705376735239:=t
def tw16802443488003342114:=t
def tw5554525773155875570:=t
def tw8743044560990721313:=t
def tw9553802051200905337:=t
def tw12364853309113659017:=t
def tw13041537933689847304:=t
def tw1080940303769669949:=t
def tw5166074917299104444:=t
def tw10815754953708067296:=t
def tw673051481435455065:=t
def tw11408603548361972243:=t
def tw15075231780867439344:=t
def tw942993934927978951:=t
def tw4376577989304927524:=t
def tw2050351939006120017:=t
def tw5028528412786945472:=t
def tw3434953359611472280:=t
def tw16603630319321767723:=t
def tw12629914908683206425:=t
def tw3625808058087233876:=t
def tw5917522981700511225:=t
def tw13874016196871930217:=t
def tw15045013895927647771:=t
def tw15588315245899633642:=t
def tw7641996770343503451:=t
def tw14256285829787454470:=t
def tw15265828006717853263:=t
def tw6123086173205376220:=t
def tw6427398229534160764:=t
def tw15033929573530230317:=t
def tw16664405058711554174:=t
def tw4987392187791301628:=t
def tw171517694182651962:=t
def tw7687237908831130732:=t
def tw18147153437536109381:=t
def tw182729778204206708:=t
def tw1432312757554572145:=t
def tw15119328676165957115:=t
def tw8259875911184864848:=t
def tw15919366359234795046:=t
def tw3065445695539142718:=t
def tw9726524149664474699:=t
def tw15314093001831183381:=t
def tw9470040778158408108:=t
def tw13607511403899035620:=t
def tw8261138172262452309:=t
def tw18020237948832733835:=t
def tw3902529902671216550:=t
def tw15719638107763144967:=t
def tw2164120849896168780:=t
def tw7862978491166291128:=t
def tw15994083406651823575:=t
def tw5924003895257520595:=t
def tw7854254518804079485:=t
def tw7056609688107632118:=t
def tw17177433577055049006:=t
def tw10862137737221892609:=t
def tw10082827485397949591:=t
def tw18270188276175940223:=t
def tw16847393061968537200:=t
def tw11716562422779081966:=t
def tw958994121613551632:=t
def tw2846246629746624797:=t
def tw15962972762314950547:=t
def tw4829342715749075119:=t
def tw8382324827632548923:=t
def tw1536857940955436454:=t
def tw9271487767876576963:=t
def tw1427454458682086614:=t
def tw7448808226129405946:=t
def tw5596301431765967739:=t
def tw15889613746752132919:=t
def tw8532640307569657688:=t
def tw6664193071545666788:=t
def tw6829308920164553970:=t
def tw10437265293912801181:=t
def tw7877931498433037283:=t
def tw1102984614876304958:=t
def tw2271752729281987925:=t
def tw17935499300110761155:=t
def tw15615599077001748948:=t
def tw924066632253583487:=t
def tw13971525216336512941:=t
def tw15648653982400223855:=t
def tw5394672968456403569:=t
def tw4095691368762340765:=t
def tw12454892125513472642:=t
def tw5421381341059746293:=t
def tw1498410760624977428:=t
def tw11178897733011419088:=t
def tw8170091273594916156:=t
def tw11302834591975526151:=t
def tw3084253734462906384:=t
def tw7468333045098533389:=t
def tw9751968773631755520:=t
def tw11442911374559797438:=t
def tw14247964779112068939:=t
def tw15518007084749803754:=t
def tw16545374497643111699:=t
def tw13771732414166995267:=t
def tw13538797234810620234:=t
def tw5928722839587971055:=t
def tw553869220569305194:=t
def tw1436426381731442952:=t
def tw16396496446897065554:=t
def tw1654926989407133349:=t
def tw13567346774116600795:=t
def tw6757390299454939377:=t
def tw1913740329566628294:=t
def tw7374737937506503878:=t
def tw17766473424131878562:=t
def tw9230206477545345907:=t
def tw13818199935266898166:=t
def tw7458341521471296190:=t
def tw9125122091239290302:=t
def tw16888691966817819778:=t
def tw14603851494722004281:=t
def tw6239540798426083001:=t
def tw16899354279668115687:=t
def tw8524990243343404515:=t
def tw1113028288464665734:=t
def tw10503447786501511563:=t
def tw7673526885132398630:=t
def tw16819906158843918487:=t
def tw11447590155048691633:=t
def tw4514395973683330951:=t
def tw4684107061049259156:=t
def tw14680163072759383084:=t
def tw18368997228119994394:=t
def tw3790118668430570919:=t
def tw7238536861188929462:=t
def tw13028729690156404639:=t
def tw17330403819030830154:=t
def tw10249832373371628272:=t
def tw16760335225864595011:=t
def tw15668827413126967218:=t
def tw5451263772442066124:=t
def tw4464352069575262573:=t
def tw17991141526051278131:=t
end PySem.W.Fast
set_option Elab.async false
set_option maxRecDepth 100000
namespace L2
variable{α κ:Type}{C a b dx it:Addr}{c cd u:Value}{w:World}{Zj h h':Heap}{m name qual x:Str}{e tg:Expr}{cj Zb:ZBd}{s s':Shared}{g':Array GenState}{i j n t' tk:Nat}{d':Drawn}{ch fp:List Addr}{N ks ns ps:List Str}{M:Model}{A:Around}{E Q:Value->Shared->Prop}{ZBa pos:Pos}{op:CmpOp}{es rest:List Expr}{f:Value->Value->Sem Value}{pl:Sem Bool}{ds us:List Value}{mA mg:ZBe}{prog:Program}{kw:List (Str×Value)}{fd:FuncData}{outer:List Env}{sc scope:Scope}
abbrev Key:=Sum Int Str
noncomputable def K7:Key->Value->Bool
 | .inl k,v=>Value.isInt k v
 | .inr x,v=>Value.isStrOf x v
noncomputable def yE(w:World):Key->Int
 | .inl k=>hashInt k
 | .inr x=>hashStr w x
theorem HS:∀{k:Key}{v:Value},K7 k v=true->(∃i t,k=Sum.inl i/\v=Value.int i t)∨(∃x t,k=Sum.inr x/\v=Value.str x t)
 | .inl i,v,h=>by
  obtain⟨t,e⟩:=Value.isInt_shape (k:=i) (v:=v) h;exact .inl ⟨i,t,rfl,e⟩
 | .inr x,v,h=>by
  obtain⟨t,e⟩:=Value.isStrOf_shape (x:=x) (v:=v) h;exact .inr ⟨x,t,rfl,e⟩
theorem vw(i:Int)(t:Tok):K7 (.inl i) (.int i t)=true:=by simp[K7,Value.isInt]
theorem jt(x:Str)(t:Tok):K7 (.inr x) (.str x t)=true:=by simp[K7,Value.isStrOf]
theorem zT(a b:Int):decide ((Sum.inl a:Key)=Sum.inl b)=(a == b):=by
 by_cases e:a=b
 .subst e;simp
 .have h:¬ (Sum.inl a:Key)=Sum.inl b:=λq=>e (Sum.inl.inj q);rw[jo h];exact(beq_eq_false_iff_ne.mpr e).symm
theorem pj(a b:Str):decide ((Sum.inr a:Key)=Sum.inr b)=decide (a=b):=by
 by_cases e:a=b
 .subst e;simp
 .have h:¬ (Sum.inr a:Key)=Sum.inr b:=λq=>e (Sum.inr.inj q);rw[jo h,jo e]
theorem yP(a:Int)(b:Str):decide ((Sum.inl a:Key)=Sum.inr b)=false:=jo (λq=>nomatch q)
theorem iX(a:Str)(b:Int):decide ((Sum.inr a:Key)=Sum.inl b)=false:=jo (λq=>nomatch q)
def D9(prog:Program)(w:World):PySem.KeyKind prog w Key where
 is:=K7
 hash:=yE w
 inj:=λv a b g d=>by
  rcases HS g with⟨i,t,rfl,rfl⟩|⟨x,t,rfl,rfl⟩
  .rcases HS d with⟨j,u,rfl,e⟩|⟨y,u,rfl,e⟩
   .injection e with e1 _;rw[e1]
   .exact nomatch e
  .rcases HS d with⟨j,u,rfl,e⟩|⟨y,u,rfl,e⟩
   .exact nomatch e
   .injection e with e1 _;rw[e1]
 byValue:=λk v h=>by
  rcases HS h with⟨i,t,rfl,rfl⟩|⟨x,t,rfl,rfl⟩ <;> rfl
 pyHash:=λc h=>by
  rcases HS c with⟨i,t,rfl,rfl⟩|⟨x,t,rfl,rfl⟩
  .exact wpAny_pyHash_int h
  .exact wpAny_pyHash_str h
 eqBool:=λf c h=>by
  rcases HS f with⟨i,t,rfl,rfl⟩|⟨x,t,rfl,rfl⟩
  .rcases HS c with⟨j,u,rfl,rfl⟩|⟨y,u,rfl,rfl⟩
   .rw[zT]at h;exact wpAny_eqBool_int h
   .rw[yP]at h;exact SeqAt.EqAt.int_str i t y u _ _ _ _ h
  .rcases HS c with⟨j,u,rfl,rfl⟩|⟨y,u,rfl,rfl⟩
   .rw[iX]at h;exact SeqAt.EqAt.str_int x t j u _ _ _ _ h
   .rw[pj]at h;exact wpAny_eqBool_str h
 «strs»:=λk x t v h=>by
  rcases HS h with⟨i,u,rfl,e⟩|⟨y,u,rfl,e⟩
  .exact nomatch e
  .injection e with e1 _
   subst e1;cases v <;> rfl
theorem iY(prog:Program)(w:World)(i:Int)(t:Tok):(D9 prog w).is (.inl i) (.int i t)=true:=vw i t
theorem zx(prog:Program)(w:World)(x:Str)(t:Tok):(D9 prog w).is (.inr x) (.str x t)=true:=jt x t
inductive V where
 |A9|bl (b:Bool)|int (i:Int)|str (x:Str)|G3 (b:Array UInt8)|JO (b:UInt64)|ref (a:Addr)|ty (n:String)
 deriving DecidableEq
variable{v y:V}{D2 vs:List V}
def RelV:V->Value->Prop
 | .A9,u=>u=Value.none
 | .bl b,u=>u=Value.bool b
 | .int i,u=>∃t,u=Value.int i t
 | .str x,u=>∃t,u=Value.str x t
 | .G3 b,u=>∃t,u=Value.bytes b t
 | .JO b,u=>∃t,u=Value.float b t
 | .ref a,u=>u=Value.ref a
 | .ty n,u=>u=Value.type n
abbrev Vals:List V->List Value->Prop:=Paired RelV
theorem Vals.length{xs:List V}{us:List Value}(r:Vals xs us):xs.length=us.length:=iD r
theorem Vals.get:∀{xs:List V}{us:List Value}{i:Nat}{x:V},Vals xs us->xs[i]?=some x->∃u,us[i]?=some u/\RelV x u
 |_,_,_,_,.nil,e=>by simp at e
 |_,_,0,_,.cons r _,e=>by simp at e;subst e;exact⟨_,rfl,r⟩
 |_,_,i+1,x,.cons _ t,e=>by
  obtain⟨u,h1,h2⟩:=Vals.get (i:=i) (x:=x) t (by simpa using e)
  exact⟨u,by simpa using h1,h2⟩
theorem Vals.set{x:V}{u:Value}(r:RelV x u):∀{xs:List V}{us:List Value}(i:Nat),Vals xs us->Vals (xs.set i x) (us.set i u)
 |_,_,_,.nil=>.nil
 |_,_,0,.cons _ t=>.cons r t
 |_,_,i+1,.cons q t=>.cons q (Vals.set r i t)
theorem Vals.append:∀{xs ys:List V}{us ws:List Value},Vals xs us->Vals ys ws->Vals (xs++ys) (us++ws)
 |_,_,_,_,.nil,s=>s
 |_,_,_,_,.cons r t,s=>.cons r (Vals.append t s)
theorem Vals.take:∀{xs:List V}{us:List Value}(n:Nat),Vals xs us->Vals (xs.take n) (us.take n)
 |_,_,0,_=>.nil
 |_,_,_+1,.nil=>.nil
 |_,_,n+1,.cons r t=>.cons r (Vals.take n t)
theorem Vals.drop:∀{xs:List V}{us:List Value}(n:Nat),Vals xs us->Vals (xs.drop n) (us.drop n)
 |_,_,0,r=>r
 |_,_,_+1,.nil=>.nil
 |_,_,n+1,.cons _ t=>Vals.drop n t
def EM:Option V->Option Value->Prop
 |some v,some u=>RelV v u
 |none,none=>True
 |_,_=>False
def KV:List (κ×V)->List (κ×Value)->Prop:=Paired λ(p:κ×V)(q:κ×Value)=>p.1=q.1/\RelV p.2 q.2
noncomputable def kV:Key->V
 | .inl i=>.int i
 | .inr x=>.str x
inductive HO where
 /-- a list -/
 |lst (xs:List V)
 /-- a tuple (never changes) -/
 |tup (xs:List V)
 /-- a dict nG keys are ints and texts;one nG keys are tuples of ints and texts (Gk empty one is both) -/
 |dK (A5:List (Key×V))|dT (A5:List (List Key×V))
 /-- a set of ints: A4 members,A4 size -/
 |set (S:Int->Bool) (n:Nat)
 /-- an instance of Gk class at C,A4 dict at dx,A4 attributes -/
 |ins (C dx:Addr) (fs:List (Str×V))
 /-- Gk dict of Gk instance at x -/
 |own (x:Addr)
 /-- Gk dict of an exception -/
 |xd (fs:List (Str×V))
 /-- a bound method,f of x -/
 |met (f x:Addr)
 /-- a range object lo,lo+1,.. below hi -/
 |LS (lo hi:Int)
 /-- a il ZBP is known to Gk object (Gk aR;a dict while a loop walks it): read,never written while it is so -/
 |Du (o:Obj) (u:HO)
 /-- a code ZBN table -/
 |JF (ps:Array Value)
 /-- any other il,by vY is true of A4 one object (a def of ZBb own: ly a S n:=HO.ext λh=>..) -/
 |ext (φ:Heap->Prop)
variable{o o':HO}
abbrev Hp:=Addr->Option HO
variable{H H':Hp}
noncomputable def upd(H:Hp)(a:Addr)(o:HO):Hp:=λb=>if b=a then some o else H b
theorem Al:upd H a o a=some o:=by unfold upd;rw[ir rfl]
theorem AS(h:b≠a):upd H a o b=H b:=by unfold upd;rw[ib h]
theorem kj{u:HO}(h:H a=some o)(h':H b=some u)(d:o≠u):a≠b:=by
 intro e;subst e;rw[h]at h';exact d (BH h')
theorem Cy(h:H a=some o)(h':H b=none):a≠b:=by
 intro e;subst e;rw[h]at h';cases h'
section
variable(P:Program)(w:World)
def Bu(H:Hp)(h:Heap)(a:Addr):HO->Prop
 | .lst xs=>xs.length<=sizeLine/\∃(A4:List Value)(n:Nat),Vals xs A4/\h.get? a=some { cls:=.type "list", data:=.seq A4.toArray n }
 | .tup xs=>xs.length<=sizeLine/\∃A4:List Value,Vals xs A4/\(IsTup h a A4.toArray/\∀ob,h.get? a=some ob->ob.dict=none)
 | .dK A5=>A5.length<=sizeLine/\(a == sysModules)=false/\∃vs,KV A5 vs/\h.DictOf (D9 P w) a vs
 | .dT A5=>A5.length<=sizeLine/\(a == sysModules)=false/\∃xs:List (List Key×Addr×Value),
   Paired (λ(p:List Key×V)(q:List Key×Addr×Value)=>p.1=q.1/\H q.2.1=some (.tup (p.1.map kV))/\RelV p.2 q.2.2) A5 xs/\
   ∃o es b,h.get? a=some o/\o.ExactDict/\o.data=.dict es b/\es.toList=xs.map (entryOfKey (tupleKind (D9 P w)))/\(xs.map (·.1)).Nodup
 | .set S n=>h.SetOf (intKind P w) a S n
 | .ins C dx fs=>H dx=some (.own a)/\fs.length<=1000/\dx≠a/\h.get? a=some (PySem.W.instObj C dx)/\
   ∃mA,h.Ns1 dx mA/\(∀f,EM (fs.lookup f) (mA f))/\PySem.Within mA (fs.map (·.1))
 | .own _=>∃o,h.get? a=some o
 | .xd fs=>∃mA,h.Ns1 a mA/\∀f,EM (fs.lookup f) (mA f)
 | .LS lo hi=>∃t u v,h.get? a=some { cls:=.type "range", data:=.fields #[.int lo t,.int hi u,.int 1 v] }
 | .Du o u=>h.get? a=some o/\Bu H h a u
 | .JF ps=>h.get? a=some { cls:=.none,data:=.fields ps }
 | .met f x=>h.get? a=some (PySem.W.methodObj (.ref f) (.ref x))
 | .ext φ=>φ h/\(∃o,h.get? a=some o)/\∀h1 h2:Heap,φ h1->(∀o,h1.get? a=some o->h2.get? a=some o)->φ h2
def BW(H:Hp)(h:Heap):Prop:=∀a o,H a=some o->Bu P w H h a o
end
section
variable{P:Program}
theorem Bu.lt(x:Bu P w H h a o):a<h.objs.size:=by
 cases o with
 |lst xs=>obtain⟨_,_,_,_,e⟩:=x;exact B4 e
 |tup xs=>obtain⟨_,_,_,p⟩:=x;exact p.1.lt
 |dK A5=>obtain⟨_,_,_,_,o,_,_,e,_⟩:=x;exact B4 e
 |dT A5=>obtain⟨_,_,_,_,o,_,_,e,_⟩:=x;exact B4 e
 |set S n=>obtain⟨o,_,_,_,e,_⟩:=x;exact B4 e
 |ins C dx fs=>obtain⟨_,_,_,e,_⟩:=x;exact B4 e
 |own y=>obtain⟨_,e⟩:=x;exact B4 e
 |xd fs=>obtain⟨_,⟨_,_,_,e,_⟩,_⟩:=x;exact B4 e
 |LS lo hi=>obtain⟨_,_,_,e⟩:=x;exact B4 e
 |Du ob u=>obtain⟨e,_⟩:=x;exact B4 e
 |JF ps=>exact B4 (show h.get? a=some _ from x)
 |met f y=>exact B4 (show h.get? a=some _ from x)
 |ext φ=>obtain⟨_,⟨_,e⟩,_⟩:=x;exact B4 e
theorem Paired.WA{α β:Type}{F G:α->β->Prop}:∀{l₁:List α}{c:List β},Paired F l₁ c->(∀a b,F a b->G a b)->Paired G l₁ c
 |_,_,.nil,_=>.nil
 |_,_,.cons r t,f=>.cons (f _ _ r) (Paired.WA t f)
theorem Bu.Hd(x:Bu P w H h a o)(k:∀b u,(b=a∨H b=some (.own a))->h.get? b=some u->h'.get? b=some u)
  (ho:∀b,H b=some (.own a)->H' b=some (.own a)) (l:∀b xs,H b=some (.tup xs)->H' b=some (.tup xs)):Bu P w H' h' a o:=by
 induction o with
 |lst xs=>obtain⟨z,A4,n,r,e⟩:=x;exact⟨z,A4,n,r,k _ _ (.inl rfl) e⟩
 |tup xs=>obtain⟨z,A4,r,⟨ob,e,c⟩,s⟩:=x;exact⟨z,A4,r,⟨ob,k _ _ (.inl rfl) e,c⟩,λA i=>by rw[k _ _ (.inl rfl) e]at i;cases i;exact s _ e⟩
 |dK A5=>obtain⟨z,y,vs,r,ob,es,g,e,c⟩:=x;exact⟨z,y,vs,r,ob,es,g,k _ _ (.inl rfl) e,c⟩
 |dT A5=>
  obtain⟨z,y,xs,r,ob,es,g,e,c⟩:=x;exact⟨z,y,xs,Paired.WA r λp q z=>⟨z.1,l _ _ z.2.1,z.2.2⟩,ob,es,g,k _ _ (.inl rfl) e,c⟩
 |set S n=>obtain⟨ob,es,g,t,e,c⟩:=x;exact⟨ob,es,g,t,k _ _ (.inl rfl) e,c⟩
 |ins C dx fs=>
  obtain⟨d,z,ne,e,mA,⟨od,es,g,m,c⟩,r⟩:=x;exact⟨ho _ d,z,ne,k _ _ (.inl rfl) e,mA,⟨od,es,g,k _ _ (.inr d) m,c⟩,r⟩
 |own y=>obtain⟨ob,e⟩:=x;exact⟨ob,k _ _ (.inl rfl) e⟩
 |xd fs=>obtain⟨mA,⟨od,es,g,e,c⟩,r⟩:=x;exact⟨mA,⟨od,es,g,k _ _ (.inl rfl) e,c⟩,r⟩
 |LS lo hi=>obtain⟨t,u,v,e⟩:=x;exact⟨t,u,v,k _ _ (.inl rfl) e⟩
 |Du ob u j=>obtain⟨e,q⟩:=x;exact⟨k _ _ (.inl rfl) e,j q⟩
 |JF ps=>
  have e:h.get? a=some { cls:=.none,data:=.fields ps }:=x;show h'.get? a=some { cls:=.none,data:=.fields ps };exact k a _ (.inl rfl) e
 |met f y=>
  have e:h.get? a=some (PySem.W.methodObj (.ref f) (.ref y)):=x;show h'.get? a=some (PySem.W.methodObj (.ref f) (.ref y));exact k a _ (.inl rfl) e
 |ext φ=>obtain⟨p,⟨o,e⟩,st⟩:=x;exact⟨st _ _ p λo q=>k _ _ (.inl rfl) q,⟨o,k _ _ (.inl rfl) e⟩,st⟩
theorem BW.lt(x:BW P w H h)(e:H a=some o):a<h.objs.size:=(x a o e).lt
theorem BW.fresh(x:BW P w H h)(e:h.objs.size<=a):H a=none:=by
 cases q:H a with
 |none=>rfl
 |some u=>exact absurd (DC (x.lt q) e) (Mf _)
theorem BW.kept(x:BW P w H h)(k:∀b u,h.get? b=some u->h'.get? b=some u):BW P w H h':=λa o e=>
 (x a o e).Hd (λb u _ q=>k b u q) (λ_ q=>q) λ_ _ q=>q
theorem BW.laid(x:BW P w H h)(k:∀b u,h.get? b=some u->h'.get? b=some u)(i:h.objs.size<=a)(d:Bu P w (upd H a o) h' a o):BW P w (upd H a o) h':=λb u e=>by
 have f:=x.fresh i
 by_cases g:b=a
 .subst g;rw[Al]at e;cases e;exact d
 .rw[AS g]at e;exact(x b u e).Hd (λc v _ q=>k c v q) (λc q=>by rw[AS (Cy q f)];exact q) λc xs q=>by rw[AS (Cy q f)];exact q
end
def Rd(H:Hp)(a:Addr)(u:HO):Prop:=H a=some u∨∃o,H a=some (.Du o u)
theorem Rd.ok{P:Program}{u:HO}(r:Rd H a u)(x:BW P w H h):Bu P w H h a u:=by
 rcases r with r|⟨o,r⟩
 .exact x a u r
 .obtain⟨_,q⟩:=x a _ r;exact q
def NM:Option HO->Prop
 |some (.lst _)=>True
 |some (.dK _)=>True
 |some (.dT _)=>True
 |some (.set _ _)=>True
 |some (.ins _ _ _)=>True
 |some (.ext _)=>True
 |_=>False
section
variable{P:Program}{x e:Addr}
theorem BW.write(ok:BW P w H h)(a:NM (H x))(l:e=x∨H e=some (.own x))(k:∀b u,b≠e->h.get? b=some u->h'.get? b=some u)(HQ:∃u,h'.get? e=some u)
  (i:Bu P w (upd H x o') h' x o'):BW P w (upd H x o') h':=λb u q=>by
 have m:∀c y,H c=some (.own y)->c≠x:=λc y r z=>by subst z;rw[r]at a;exact a
 have n:∀c xs,H c=some (.tup xs)->c≠x:=λc xs r z=>by subst z;rw[r]at a;exact a
 by_cases f:b=x
 .subst f;rw[Al]at q;cases q;exact i
 .rw[AS f]at q
  by_cases g:b=e
  .have j:H b=some (.own x):=by
    rcases l with z|z
    .exact absurd (g.trans z) f
    .rw[g];exact z
   rw[q]at j;cases j;obtain⟨v,o⟩:=HQ;exact⟨v,by rw[g];exact o⟩
  .refine(ok b u q).Hd (λc v d r=>k c v ?_ r) (λc r=>by rw[AS (m c b r)];exact r) λc xs r=>by rw[AS (n c xs r)];exact r
   rcases d with rfl|d
   .exact g
   .rintro rfl;rcases l with z|z
    .exact m c b d z
    .rw[d]at z;cases z;exact f rfl
end
structure Un (fs ex:List Addr) (H H':Hp) (h h':Heap):Prop where
 keep:∀b o,h.get? b=some o->H b=none->b∉fs->b∉ex->h'.get? b=some o
 slot:∀b o,h.get? b=some o->H b=none->b∈fs->b∉ex->∃sl,h'.get? b=some { o with slots:=sl }
 free:∀b o,h.get? b=some o->H b=none->b∉ex->H' b=none
 there:∀b o,h.get? b=some o->b∉ex->∃o',h'.get? b=some o'
 Fy:∀b xs,H b=some (.tup xs)->H' b=some (.tup xs)
 Fd:∀b o u,H b=some (.Du o u)->H' b=some (.Du o u)
 Ft:∀b ps,H b=some (.JF ps)->∃more,H' b=some (.JF (ps++more))
section
variable{fs jR ex ex':List Addr}{H1 H2:Hp}{h1 h2:Heap}{x e:Addr}
theorem Un.any(u:Un fs ex H H1 h h1){ob:Obj}(q:h.get? b=some ob)(n:H b=none)(hx:b∉ex):∃c,h1.get? b=some { ob with slots:=c }:=by
 by_cases a:b∈fs
 .exact u.slot b ob q n a hx
 .exact⟨ob.slots,u.keep b ob q n a hx⟩
theorem Un.kept(k:∀b u,h.get? b=some u->h'.get? b=some u):Un fs ex H H h h':=
 ⟨λb ob q _ _ _=>k b ob q,λb ob q _ _ _=>⟨ob.slots,k b ob q⟩,λ_ _ _ n _=>n,λb ob q _=>⟨ob,k b ob q⟩,λ_ _ q=>q,λ_ _ _ q=>q,λ_ ps q=>⟨#[],by rw[q];simp⟩⟩
theorem Un.refl:Un fs ex H H h h:=Un.kept λ_ _ q=>q
theorem Un.laid(k:∀b u,h.get? b=some u->h'.get? b=some u)(d:h.objs.size<=a)(c:H a=none):Un fs ex H (upd H a o) h h' where
 keep:=λb u q _ _ _=>k b u q
 slot:=λb u q _ _ _=>⟨u.slots,k b u q⟩
 free:=λb u q n _=>by rw[AS (CV (DC (B4 q) d))];exact n
 there:=λb u q _=>⟨u,k b u q⟩
 Fy:=λb xs q=>by rw[AS (Cy q c)];exact q
 Fd:=λb u xs q=>by rw[AS (Cy q c)];exact q
 Ft:=λb ps q=>⟨#[],by rw[AS (Cy q c),q];simp⟩
theorem Un.write(a:NM (H x))(g:e=x∨H e=some (.own x))(k:∀b u,b≠e->h.get? b=some u->h'.get? b=some u)(HQ:∃u,h'.get? e=some u):Un fs ex H (upd H x o) h h':=by
 have hx:∀b,H b=none->b≠x:=λb n z=>by subst z;rw[n]at a;exact a
 have d:∀b,H b=none->b≠e:=λb n z=>by
  subst z;rcases g with r|r
  .exact hx b n r
  .rw[n]at r;cases r
 have c:∀b u,H b=some u->¬ NM (some u)->b≠x:=λb u q nm z=>by subst z;rw[q]at a;exact nm a
 refine⟨λb u q n _ _=>k b u (d b n) q,λb u q n _ _=>⟨u.slots,k b u (d b n) q⟩,λb u q n _=>by rw[AS (hx b n)];exact n,λb u q _=>?_,
  λb xs q=>by rw[AS (c b _ q λz=>z)];exact q,λb u xs q=>by rw[AS (c b _ q λz=>z)];exact q,λb ps q=>⟨#[],by rw[AS (c b _ q λz=>z),q];simp⟩⟩
 by_cases f:b=e
 .subst f;exact HQ
 .exact⟨u,k b u f q⟩
end
noncomputable def RG(h:Heap)(H:Hp):List Addr:=(List.range h.objs.size).filter λa=>(H a).isSome
def Hv(h:Heap)(H:Hp):Heap:=PySem.W.hideAll h (RG h H)
theorem vF(h:Heap)(H:Hp):(Hv h H).objs.size=h.objs.size:=PySem.W.hideAll_size _ _
theorem yN{o:Obj}(e:h.get? b=some o)(n:H b=none):(Hv h H).get? b=some o:=
 PySem.W.hideAll_get _ e λa=>by
  have q:(H b).isSome=true:=(List.mem_filter.mp a).2;rw[n]at q;simp at q
theorem qm{o:Obj}(e:(Hv h H).get? b=some o):h.get? b=some o/\H b=none:=by
 have a:h.get? b=some o:=PySem.W.of_hideAll (RG h H) e;refine⟨a,?_⟩;cases q:H b with
 |none=>rfl
 |some x=>
  have c:b∈RG h H:=List.mem_filter.mpr ⟨List.mem_range.mpr (B4 a),by simp[q]⟩;have z:(Hv h H).get? b=none:=PySem.W.hideAll_none (RG h H) c;rw[z]at e;cases e
structure Mod (K:ZBc) (mg:ZBe) (Zj:Heap):Prop where
 KL:K.In Zj
 glob:Zj.Ns mainGlobals mg
 blt:∃mb,Zj.Ns builtinsNs mb/\∀x:Str,x ≠"__name__" -> mb x=bootBuiltins x
 nolimit:Zj.NoLimit
structure Cx where
 prog:Program
 w:World
 K:ZBc
 mg:ZBe
 base:Heap
 A:Around
 N:List Str
 s₀:Shared
 H₀:Hp
 env:Env
 outer:List Env
 stack:List Env
 ex:List Addr
 fn:Str->Bool
 calm:Bool
 pn:ZBd
 xe:Value->Shared->Prop
variable{X:Cx}
noncomputable def CC(l:List Env):List Addr:=l.filterMap (·.frame)
abbrev Cx.fs(X:Cx):List Addr:=CC X.outer
def Q5(sc:Scope)(x:Str):Prop:=sc.names.lookup x=some .local∨sc.names.lookup x=some .cell∨sc.names.lookup x=some .free
def Loc(sc:Scope)(x:Str):Prop:=sc.names.lookup x=some .local∨sc.names.lookup x=some .cell
def Look(env:Env)(h:Heap)(m:ZBe)(x:Str)(u:Value):Prop:=
 (env.kindOf x=some .local/\m x=some u)∨((env.kindOf x=some .cell∨env.kindOf x=some .free)/\∃c,env.cells.lookup x=some c/\h.IsCell c (some u))
structure Cx.Ok (X:Cx):Prop where
 mod:Mod X.K X.mg X.base
 kind:X.env.scope.kind=.function
 glob:X.env.globals=mainGlobals
 blt:X.env.builtins=builtinsNs
 above:X.s₀.heap.objs.size<=X.env.locals
 inj:∀x y c,X.env.cells.lookup x=some c->X.env.cells.lookup y=some c->x=y
 has:∀x,(X.env.kindOf x=some .cell∨X.env.kindOf x=some .free)->∃c,X.env.cells.lookup x=some c
 J3:∀x c,X.fn x=true->X.env.cells.lookup x=some c->X.s₀.heap.objs.size<=c
 hd:X.calm=true->X.A.handled=none
 frames:X.A.frames=some X.stack
 Ie:X.stack=X.outer∨(X.stack=X.env::X.outer/\X.env.frame=some X.env.locals)
 KY:∀b∈X.ex,b≠X.env.locals/\∀x c,X.env.cells.lookup x=some c->c≠b
 bs:∀b o,X.base.get? b=some o->X.s₀.heap.get? b=some o/\X.H₀ b=none
 GA:X.base.objs.size<=X.s₀.heap.objs.size
 JL:∀b o,X.base.get? b=some o->b∉X.ex
 Iq:∀b∈X.ex,b∉X.fs
 Ed:X.s₀.heap.FunFrames X.base X.outer
 HL:∀b∈X.fs,X.H₀ b=none
structure Inv (X:Cx) (Zb:ZBd) (Z:List (Option V)) (H:Hp) (s:Shared):Prop where
 ok:X.Ok
 os:s.os=X.s₀.os
 bare:AllBare s.gens
 base:Un X.fs X.ex X.H₀ H X.s₀.heap s.heap
 loc:∃m,s.heap.Ns X.env.locals m/\∀(i:Nat)(x:Str)(v:V),X.N[i]?=some x->Z[i]?=some (some v)->Q5 X.env.scope x->∃u,RelV v u/\Look X.env s.heap m x u
 cell:∀x c,X.env.cells.lookup x=some c->∃v,s.heap.IsCell c v
 free:H X.env.locals=none
 Dq:∀x c,X.env.cells.lookup x=some c->H c=none
 pin:∀p∈X.pn++Zb,s.heap.get? p.1=some p.2/\H p.1=none/\p.1≠X.env.locals/\p.1∉X.fs/\∀v,p.2.data≠.cell v
 AF:BW X.prog X.w H s.heap
 len:Z.length=X.N.length
section
variable{Z:List (Option V)}
theorem Cx.Ok.ka(ok:X.Ok){o:Obj}(e:X.base.get? b=some o):b∉X.fs:=λa=>by
 have:=(ok.Ed.mem a).1;rw[e]at this;cases this
theorem Inv.bs(I:Inv X Zb Z H s):∀b o,X.base.get? b=some o->s.heap.get? b=some o/\H b=none:=λb o e=>
 ⟨I.base.keep b o (I.ok.bs b o e).1 (I.ok.bs b o e).2 (I.ok.ka e) (I.ok.JL b o e),I.base.free b o (I.ok.bs b o e).1 (I.ok.bs b o e).2 (I.ok.JL b o e)⟩
theorem Inv.bk(I:Inv X Zb Z H s):∀b o,X.base.get? b=some o->s.heap.get? b=some o:=λb o e=>(I.bs b o e).1
theorem Inv.mod(I:Inv X Zb Z H s):Mod X.K X.mg X.base:=I.ok.mod
theorem Inv.C5(I:Inv X Zb Z H s):X.K.In s.heap:=I.ok.mod.KL.keeps I.bk
theorem Inv.lt(I:Inv X Zb Z H s):X.env.locals<s.heap.objs.size:=let ⟨_,hn,_⟩:=I.loc;hn.lt
theorem Inv.sz(I:Inv X Zb Z H s):X.s₀.heap.objs.size<=s.heap.objs.size:=CU I.ok.above (Xk I.lt)
theorem Inv.xv(I:Inv X Zb Z H s)(h:s.heap.objs.size<=a):a∉X.fs:=λb=>by
 obtain⟨_,o,ho,_⟩:=I.ok.Ed.mem b;exact absurd (DC (B4 ho) (CU I.sz h)) (Mf _)
theorem Inv.Fg(I:Inv X Zb Z H s):∀x c,X.env.cells.lookup x=some c->c≠X.env.locals:=λx c e z=>by
 obtain⟨v,o,ho,hd⟩:=I.cell x c e;obtain⟨m,⟨o',es,a,DW,XQ,_⟩,_⟩:=I.loc;rw[z,DW]at ho;cases ho;rw[XQ]at hd;cases hd
theorem Inv.Ed(I:Inv X Zb Z H s):s.heap.FunFrames X.base X.outer:=by
 have all:∀(l:List Env),(∀b∈CC l,b∈X.fs)->X.s₀.heap.FunFrames X.base l->s.heap.FunFrames X.base l:=by
  intro l
  induction l with
  |nil=>intro _ _;trivial
  |cons env r g=>
   intro f j;obtain⟨hk,⟨L,o,a,i,ho,hd⟩,h⟩:=j;have d:L∈X.fs:=f L (by unfold CC;rw[Rh,a];exact ES);obtain⟨k,e⟩:=I.base.slot L o ho (I.ok.HL L d) d λz=>I.ok.Iq L z d;exact⟨hk,⟨L,_,a,i,e,hd⟩,g (λb c=>f b (by unfold CC;rw[Rh,a];exact DV _ c)) h⟩
 exact all X.outer (λ_ c=>c) I.ok.Ed
theorem Inv.stack(I:Inv X Zb Z H s):s.heap.FunFrames X.base X.stack:=by
 rcases I.ok.Ie with e|⟨e,hf⟩
 .rw[e];exact I.Ed
 .rw[e];obtain⟨m,a,_⟩:=I.loc;refine .cons (by rw[I.ok.kind];decide) hf a ?_ I.Ed;exact gp (CU I.ok.GA I.ok.above)
theorem Inv.P0(I:Inv X Zb Z H s):∀b∈CC X.stack,b∈X.env.locals::X.fs:=λb a=>by
 rcases I.ok.Ie with e|⟨e,hf⟩
 .rw[e]at a;exact DV _ a
 .rw[e]at a;unfold CC at a;rw[Rh,hf]at a;exact a
theorem Inv.RS(I:Inv X Zb Z H s):∀b∈CC X.stack,H b=none:=λb a=>by
 rcases List.mem_cons.mp (I.P0 b a)with e|a
 .rw[e];exact I.free
 .obtain⟨_,o,ho,_⟩:=I.ok.Ed.mem a;exact I.base.free b o ho (I.ok.HL b a) λz=>I.ok.Iq b z a
theorem Inv.step(I:Inv X Zb Z H s)
  (Hk:∀b∈ch,(b∈X.ex∨X.s₀.heap.objs.size<=b)/\b≠X.env.locals/\(∀x c,X.env.cells.lookup x=some c->c≠b)/\∀p∈X.pn++Zb,p.1≠b)
  (keep:∀b o,b≠X.env.locals->b∉X.fs->b∉ch->s.heap.get? b=some o->H b=none->h'.get? b=some o)
  (slot:∀b o,b≠X.env.locals->b∈X.fs->b∉ch->s.heap.get? b=some o->H b=none->∃y,h'.get? b=some { o with slots:=y }) (free:∀b o,b∉ch->s.heap.get? b=some o->H b=none->H' b=none)
  (there:∀b o,b∉ch->s.heap.get? b=some o->∃o',h'.get? b=some o')
  (Fy:∀b xs,H b=some (.tup xs)->H' b=some (.tup xs)) (Fd:∀b o u,H b=some (.Du o u)->H' b=some (.Du o u)) (Ft:∀b ps,H b=some (.JF ps)->∃more,H' b=some (.JF (ps++more)))
  (ns:∀m,s.heap.Ns X.env.locals m->h'.Ns X.env.locals m) (AF:BW X.prog X.w H' h') (hg:AllBare g') :
  Inv X Zb Z H' { s with heap:=h',gens:=g',drawn:=d',toks:=t' }:=by
 have D:∀b o,X.s₀.heap.get? b=some o->b≠X.env.locals:=λb o e=>CV (DC (B4 e) I.ok.above);have t:∀b o,X.s₀.heap.get? b=some o->b∉X.ex->b∉ch:=λb o e hx g=>by
  rcases(Hk b g).1 with z|z
  .exact hx z
  .exact absurd (DC (B4 e) z) (Mf _)
 have a:∀x c,X.env.cells.lookup x=some c->∀v,s.heap.IsCell c v->h'.IsCell c v:=λx c e v AD=>by
  obtain⟨o,ho,hd⟩:=AD;have j:c∉ch:=λz=>(Hk c z).2.2.1 x c e rfl
  by_cases C:c∈X.fs
  .obtain⟨y,q⟩:=slot c o (I.Fg x c e) C j ho (I.Dq x c e);exact⟨_,q,hd⟩
  .exact⟨o,keep c o (I.Fg x c e) C j ho (I.Dq x c e),hd⟩
 refine⟨I.ok,I.os,hg,⟨λb o e n g hx=>?_,λb o e n g hx=>?_,λb o e n hx=>?_,λb o e hx=>?_,λb xs e=>Fy b xs (I.base.Fy b xs e),λb o xs e=>Fd b o xs (I.base.Fd b o xs e),λb ps e=>?_⟩,?_,λx c e=>?_,?_,λx c e=>?_,λp B=>?_,AF,I.len⟩
 .exact keep b o (D b o e) g (t b o e hx) (I.base.keep b o e n g hx) (I.base.free b o e n hx)
 .obtain⟨y,f⟩:=I.base.slot b o e n g hx;obtain⟨Sl,h⟩:=slot b _ (D b o e) g (t b o e hx) f (I.base.free b o e n hx);exact⟨Sl,h⟩
 .obtain⟨o',f⟩:=I.base.there b o e hx;exact free b o' (t b o e hx) f (I.base.free b o e n hx)
 .obtain⟨o',f⟩:=I.base.there b o e hx;exact there b o' (t b o e hx) f
 .obtain⟨F,f⟩:=I.base.Ft b ps e;obtain⟨E,h⟩:=Ft b _ f;exact⟨F++E,by rw[h,Array.append_assoc]⟩
 .obtain⟨m,G,J⟩:=I.loc;refine⟨m,ns m G,λi x v f h K=>?_⟩;obtain⟨u,r,l⟩:=J i x v f h K;refine⟨u,r,?_⟩;rcases l with l|⟨k,c,e,z⟩
  .exact .inl l
  .exact .inr ⟨k,c,e,a x c e _ z⟩
 .obtain⟨v,z⟩:=I.cell x c e;exact⟨v,a x c e v z⟩
 .obtain⟨m,⟨o,_,_,ho,_⟩,_⟩:=I.loc;exact free _ o (λz=>(Hk _ z).2.1 rfl) ho I.free
 .obtain⟨v,o,ho,hd⟩:=I.cell x c e;exact free c o (λz=>(Hk c z).2.2.1 x c e rfl) ho (I.Dq x c e)
 .obtain⟨e,n,ne,A,d⟩:=I.pin p B;have j:p.1∉ch:=λz=>(Hk p.1 z).2.2.2 p B rfl;exact⟨keep p.1 p.2 ne A j e n,free p.1 p.2 j e n,ne,A,d⟩
theorem Inv.un(I:Inv X Zb Z H s)(u:Un X.fs [] H H' s.heap h')(AF:BW X.prog X.w H' h'):Inv X Zb Z H' { s with heap:=h',toks:=t' }:=by
 obtain⟨m,⟨o,es,i,ho,r⟩,_⟩:=id I.loc;obtain⟨g,f⟩:=u.any ho I.free (by simp);exact I.step (g':=s.gens) (d':=s.drawn) (ch:=[]) (λ_ z=>nomatch z) (λb o _ a _ e n=>u.keep b o e n a (by simp)) (λb o _ a _ e n=>u.slot b o e n a (by simp)) (λb o _ e n=>u.free b o e n (by simp)) (λb o _ e=>u.there b o e (by simp)) u.Fy u.Fd u.Ft (λh d=>by
  obtain⟨o',Lq,UB,DW,c⟩:=d;rw[ho]at DW;cases DW;exact⟨_,Lq,UB,f,c⟩) AF I.bare
theorem Inv.call(I:Inv X Zb Z H s)(u:Un (CC X.stack) ch H H' s.heap h')(AF:BW X.prog X.w H' h')(h:AllBare g')
  (Hk:∀b∈ch,(b∈X.ex∨X.s₀.heap.objs.size<=b)/\b≠X.env.locals/\(∀x c,X.env.cells.lookup x=some c->c≠b)/\∀p∈X.pn++Zb,p.1≠b) :
  Inv X Zb Z H' { s with heap:=h',gens:=g',drawn:=d',toks:=t' }:=by
 obtain⟨m,⟨o,es,l,ho,r⟩,_⟩:=id I.loc;obtain⟨j,d⟩:=u.any ho I.free λz=>(Hk _ z).2.1 rfl;exact I.step (ch:=ch) Hk (λb o d i a e n=>u.keep b o e n (λz=>(List.mem_cons.mp (I.P0 b z)).elim d i) a) (λb o _ _ a e n=>u.any e n a) (λb o a e n=>u.free b o e n a) (λb o a e=>u.there b o e a) u.Fy u.Fd u.Ft (λk g=>by
  obtain⟨o',Lq,UB,DW,f⟩:=g;rw[ho]at DW;cases DW;exact⟨_,Lq,UB,d,f⟩) AF h
theorem Inv.turned(I:Inv X Zb Z H s)(k:∀b o,b≠it->s.heap.get? b=some o->h'.get? b=some o)(g:H it=none)(d:it≠X.env.locals)
  (h1:it∈X.ex∨X.s₀.heap.objs.size<=it) (h2:∀x c,X.env.cells.lookup x=some c->c≠it) (j:∀p∈X.pn++Zb,p.1≠it):Inv X Zb Z H { s with heap:=h',toks:=t' }:=by
 have f:∀b u,H b=some u->b≠it:=λb u e z=>by rw[z,g]at e;cases e
 refine I.step (g':=s.gens) (d':=s.drawn) (ch:=[it]) (λb i=>?_) (λb o _ _ a e _=>k b o (λz=>a (by simp[z])) e) (λb o _ _ a e _=>⟨o.slots,k b o (λz=>a (by simp[z])) e⟩) (λ_ _ _ _ n=>n)
  (λb o a e=>⟨o,k b o (λz=>a (by simp[z])) e⟩) (λ_ _ e=>e) (λ_ _ _ e=>e) (λb ps e=>⟨#[],by rw[e];simp⟩) (λm h=>?_) (λb u e=>?_) I.bare
 .have e:b=it:=by simpa using i
  subst e;exact⟨h1,d,h2,j⟩
 .obtain⟨o,es,l,ho,r⟩:=h;exact⟨o,es,l,k _ o (B5 d) ho,r⟩
 .refine(I.AF b u e).Hd (λc v a q=>k c v ?_ q) (λ_ q=>q) λ_ _ q=>q;rcases a with z|z
  .rw[z];exact f b u e
  .exact f c _ z
theorem Inv.tok(I:Inv X Zb Z H s)(t:Nat):Inv X Zb Z H { s with toks:=t }:=I.un (h':=s.heap) (t':=t) Un.refl I.AF
theorem Inv.kept(I:Inv X Zb Z H s)(k:∀b u,s.heap.get? b=some u->h'.get? b=some u):Inv X Zb Z H { s with heap:=h',toks:=t' }:=I.un (Un.kept k) (I.AF.kept k)
theorem Inv.laid(I:Inv X Zb Z H s)(k:∀b u,s.heap.get? b=some u->h'.get? b=some u)(d:s.heap.objs.size<=a)(c:Bu X.prog X.w (upd H a o) h' a o):
  Inv X Zb Z (upd H a o) { s with heap:=h',toks:=t' }:=I.un (Un.laid k d (I.AF.fresh d)) (I.AF.laid k d c)
theorem Inv.write{x e:Addr}(I:Inv X Zb Z H s)(c:NM (H x))(d:e=x∨H e=some (.own x))(k:∀b u,b≠e->s.heap.get? b=some u->h'.get? b=some u)(HQ:∃u,h'.get? e=some u)
  (a:Bu X.prog X.w (upd H x o) h' x o):Inv X Zb Z (upd H x o) { s with heap:=h',toks:=t' }:=I.un (Un.write c d k HQ) (I.AF.write c d k HQ a)
theorem Inv.cE(I:Inv X Zb Z H s)(h:∀p∈cj,s.heap.get? p.1=some p.2/\H p.1=none/\p.1≠X.env.locals/\p.1∉X.fs/\∀v,p.2.data≠.cell v):Inv X cj Z H s:=
 ⟨I.ok,I.os,I.bare,I.base,I.loc,I.cell,I.free,I.Dq,λp a=>(List.mem_append.mp a).elim (λz=>I.pin p (GB _ z)) (h p),I.AF,I.len⟩
theorem SD(c:N.Nodup)(a:N[i]?=some x)(b:N[j]?=some x):i=j:=by
 obtain⟨h1,e⟩:=List.getElem?_eq_some_iff.mp a;obtain⟨h2,d⟩:=List.getElem?_eq_some_iff.mp b;exact(ZAj c).mp (e.trans d.symm)
theorem Vg{Q:Unit->Shared->Prop}(I:Inv X Zb Z H s)(Y:X.N.Nodup)(hi:X.N[i]?=some x)(hx:Loc X.env.scope x)(r:RelV v u)
  (h:∀s',Inv X Zb (Z.set i (some v)) H s'->(∃a,Heap.SameBut a s.heap s'.heap/\(a=X.env.locals∨X.env.cells.lookup x=some a))->Q () s') (hf:X.fn x=true∨X.env.scope.names.lookup x=some .local:=by first|exact .inl rfl|exact .inr rfl|assumption):wpAny M A (storeName X.env x u) Q E s:=by
 obtain⟨m,S,W⟩:=id I.loc;have Vz:(X.env.scope.kind == .class || (X.env.scope.kind == .module && X.env.locals != X.env.globals))=false:=by rw[I.ok.kind];rfl
 have hiσ:i<Z.length:=by rw[I.len];exact(List.getElem?_eq_some_iff.mp hi).1
 have Fg:=I.Fg;have g:∀{a:Addr}{h':Heap},(∃o,s.heap.get? a=some o/\H a=none)->Heap.SameBut a s.heap h'->BW X.prog X.w H h':=λ{a h'}ha f b ob e=>by
  obtain⟨_,_,σ⟩:=ha;refine(I.AF b ob e).Hd (λc F t q=>(f.2 c ?_).trans q) (λ_ q=>q) λ_ _ q=>q;rintro rfl;rcases t with rfl|t
  .rw[σ]at e;cases e
  .rw[σ]at t;cases t
 rcases hx with hk|hk
 .refine wpAny_storeName_local hk S (λh' Nt f=>?_) Vz;obtain⟨oL,_,_,YK,_⟩:=id S;refine h _ ⟨I.ok,I.os,I.bare,⟨λb o e n D hx=>?_,λb o e n D hx=>?_,I.base.free,λb o e hx=>?_,I.base.Fy,I.base.Fd,I.base.Ft⟩,⟨_,Nt,λj y J l B T=>?_⟩,λy c e=>?_,I.free,I.Dq,λp R=>?_,g ⟨oL,YK,I.free⟩ f,by simpa using I.len⟩ ⟨_,f,.inl rfl⟩
  .exact(f.2 b (CV (DC (B4 e) I.ok.above))).trans (I.base.keep b o e n D hx)
  .obtain⟨L,l⟩:=I.base.slot b o e n D hx;exact⟨L,(f.2 b (CV (DC (B4 e) I.ok.above))).trans l⟩
  .obtain⟨o',l⟩:=I.base.there b o e hx;exact⟨o',(f.2 b (CV (DC (B4 e) I.ok.above))).trans l⟩
  .by_cases C:j=i
   .subst C;rw[hi]at l;cases l;rw[CL hiσ]at B;cases B;exact⟨u,r,.inl ⟨hk,by simp⟩⟩
   .rw[C0 (B5 C)]at B;obtain⟨K,O,q⟩:=W j y J l B T;refine⟨K,O,?_⟩;rcases q with⟨k,e⟩|⟨k,c,e,z⟩
    .refine .inl ⟨k,?_⟩;have:y≠x:=λe=>C (SD Y l (e▸hi));simp[this,e]
    .exact .inr ⟨k,c,e,z.sameBut f (Fg y c e)⟩
  .obtain⟨F,z⟩:=I.cell y c e;exact⟨F,z.sameBut f (Fg y c e)⟩
  .obtain⟨e,n,ne,P,d⟩:=I.pin p R;exact⟨(f.2 p.1 ne).trans e,n,ne,P,d⟩
 .have U:X.fn x=true:=by
   rcases hf with z|z
   .exact z
   .rw[z]at hk;cases hk
  obtain⟨c,t⟩:=I.ok.has x (.inl hk);obtain⟨F,z⟩:=I.cell x c t;refine wpAny_storeName_cell I.ok.kind hk t z (λh' OK f=>?_);obtain⟨V,Zy,mf⟩:=id z;refine h { s with heap:=h' } ⟨I.ok,I.os,I.bare,⟨λb o e n D hx=>?_,λb o e n D hx=>?_,I.base.free,λb o e hx=>?_,I.base.Fy,I.base.Fd,I.base.Ft⟩,⟨m,S.sameBut f (B5 (Fg x c t)),λj y J l B T=>?_⟩,λy G e=>?_,I.free,I.Dq,λp R=>?_,g ⟨V,Zy,I.Dq x c t⟩ f,by simpa using I.len⟩ ⟨c,f,.inr t⟩
  .exact(f.2 b (CV (DC (B4 e) (I.ok.J3 x c U t)))).trans (I.base.keep b o e n D hx)
  .obtain⟨L,l⟩:=I.base.slot b o e n D hx;exact⟨L,(f.2 b (CV (DC (B4 e) (I.ok.J3 x c U t)))).trans l⟩
  .obtain⟨o',l⟩:=I.base.there b o e hx;exact⟨o',(f.2 b (CV (DC (B4 e) (I.ok.J3 x c U t)))).trans l⟩
  .by_cases C:j=i
   .subst C;rw[hi]at l;cases l;rw[CL hiσ]at B;cases B;exact⟨u,r,.inr ⟨.inl hk,c,t,OK⟩⟩
   .rw[C0 (B5 C)]at B;obtain⟨K,O,q⟩:=W j y J l B T;refine⟨K,O,?_⟩;rcases q with q|⟨k,G,e,z'⟩
    .exact .inl q
    .refine .inr ⟨k,G,e,z'.sameBut f ?_⟩;rintro rfl;exact C (SD Y l (I.ok.inj _ _ _ e t▸hi))
  .by_cases QB:G=c
   .subst QB;exact⟨_,OK⟩
   .obtain⟨w2,z2⟩:=I.cell y G e;exact⟨w2,z2.sameBut f QB⟩
  .obtain⟨e,n,ne,P,d⟩:=I.pin p R;refine⟨(f.2 p.1 ?_).trans e,n,ne,P,d⟩;intro q;rw[q,Zy]at e;have q':V=p.2:=BH e;exact d F (by rw[<- q'];exact mf)
theorem Qb{Q:Unit->Shared->Prop}(I:Inv X Zb Z H s)(b:X.N.Nodup)(hi:X.N[i]?=some x)(hx:Loc X.env.scope x)(r:RelV v u)
  (h:∀s',Inv X Zb (Z.set i (some v)) H s'->Q () s') (a:X.fn x=true∨X.env.scope.names.lookup x=some .local:=by first|exact .inl rfl|exact .inr rfl|assumption):wpAny M A (storeName X.env x u) Q E s:=
 Vg I b hi hx r (λs' I' _=>h s' I') a
theorem Inv.qf(I:Inv X Zb Z H s)(ho:s'.os=s.os)(u:Un (CC X.stack) ch H H' s.heap s'.heap)(AF:BW X.prog X.w H' s'.heap)(a:AllBare s'.gens)
  (Hk:∀b∈ch,(b∈X.ex∨X.s₀.heap.objs.size<=b)/\b≠X.env.locals/\(∀x c,X.env.cells.lookup x=some c->c≠b)/\∀p∈X.pn++Zb,p.1≠b):Inv X Zb Z H' s':=by
 obtain⟨h',g',d',t',o'⟩:=s';have e:o'=s.os:=ho;subst e;exact I.call (g':=g') (t':=t') (d':=d') u AF a Hk
end
abbrev XK:=Value->Option Addr->Hp->Prop
abbrev St:=List (Option V)
variable{Z:St}
abbrev VK:=V->Hp->Prop
abbrev TE:=St->Hp->VK->Prop
variable{ta tb tc te:TE}
abbrev TT:=St->Hp->(Bool->Hp->Prop)->Prop
abbrev TA:=St->Hp->(List V->Hp->Prop)->Prop
structure Ends where
 nx:St->Hp->Prop
 rt:VK
 bk:St->Hp->Prop:=λ_ _=>False
 ct:St->Hp->Prop:=λ_ _=>False
abbrev TS:=Ends->St->Hp->Prop
def EP(X:Cx)(Zb:ZBd)(Z:St)(Q:VK)(u:Value)(s':Shared):Prop:=∃v H',Inv X Zb Z H' s'/\RelV v u/\Q v H'
def TP(X:Cx)(Zb:ZBd)(Z:St)(Q:Bool->Hp->Prop)(b:Bool)(s':Shared):Prop:=∃H',Inv X Zb Z H' s'/\Q b H'
def AP(X:Cx)(Zb:ZBd)(Z:St)(Q:List V->Hp->Prop)(us:List Value)(s':Shared):Prop:=∃vs H',Inv X Zb Z H' s'/\Vals vs us/\Q vs H'
def SP(X:Cx)(Zb:ZBd)(D:Ends)(f:Flow)(s':Shared):Prop:=
 match f with
 | .next=>∃ σ' H',Inv X Zb σ' H' s'/\D.nx σ' H'
 | .brk=>∃ σ' H',Inv X Zb σ' H' s'/\D.bk σ' H'
 | .cont=>∃ σ' H',Inv X Zb σ' H' s'/\D.ct σ' H'
 | .ret u=>∃v σ' H',Inv X Zb σ' H' s'/\RelV v u/\D.rt v H'
def PE(X:Cx)(e:Expr)(t:TE):Prop:=
 ∀(Zb:ZBd)(s:Shared)(Z:St)(H:Hp)(Q:VK),Inv X Zb Z H s->t Z H Q->wpAny (model X.prog X.w) X.A (eval e X.env) (EP X Zb Z Q) X.xe s
def PT(X:Cx)(e:Expr)(t:TT):Prop:=
 ∀(Zb:ZBd)(s:Shared)(Z:St)(H:Hp)(Q:Bool->Hp->Prop),Inv X Zb Z H s->t Z H Q->wpAny (model X.prog X.w) X.A (isTrue e X.env (eval e X.env)) (TP X Zb Z Q) X.xe s
def PW(X:Cx)(e:Expr)(t:TT):Prop:=
 ∀(a:Sem Value)(Zb:ZBd)(s:Shared)(Z:St)(H:Hp)(Q:Bool->Hp->Prop),Inv X Zb Z H s->t Z H Q->wpAny (model X.prog X.w) X.A (isTrue e X.env a) (TP X Zb Z Q) X.xe s
theorem PW.pt{t:TT}(h:PW X e t):PT X e t:=h _
def PA(X:Cx)(es:List Expr)(t:TA):Prop:=
 ∀(pos:Pos)(Zb:ZBd)(s:Shared)(Z:St)(H:Hp)(Q:List V->Hp->Prop),Inv X Zb Z H s->t Z H Q->wpAny (model X.prog X.w) X.A (spliced (backTo pos (starEach es X.env))) (AP X Zb Z Q) X.xe s
def PS(X:Cx)(st:Stmt)(t:TS):Prop:=
 ∀(Zb:ZBd)(s:Shared)(Z:St)(H:Hp)(D:Ends),Inv X Zb Z H s->t D Z H->wpAny (model X.prog X.w) X.A (exec st X.env) (SP X Zb D) X.xe s
def DO(X:Cx)(st:List Stmt)(t:TS):Prop:=
 ∀(Zb:ZBd)(s:Shared)(Z:St)(H:Hp)(D:Ends),Inv X Zb Z H s->t D Z H->wpAny (model X.prog X.w) X.A (execs st X.env) (SP X Zb D) X.xe s
theorem AI{t:Sem α}{Q Q':α->Shared->Prop}(h:wpAny M A t Q E s)(b:∀a s,Q a s->Q' a s):wpAny M A t Q' E s:=jx h b λ_ _ x=>x
section
def Ap(i:Nat):TE:=λZ H Q=>∃v,Z[i]?=some (some v)/\Q v H
def tC(v:V):TE:=λ_ H Q=>Q v H
def Gl(X:Cx)(x:Str):Prop:=X.env.kindOf x=some .globalImplicit
theorem Lb(I:Inv X Zb Z H s)(b:Gl X x)(a:X.mg x=some u)(h:Q u s)
  (hd:(x == ("__debug__":Str))=false:=by decide):wpAny (model X.prog X.w) X.A (eval (.Name x pos) X.env) Q E s:=
 ZAR I.ok.kind b (Calls.loadGlobal_global (by rw[I.ok.glob];exact I.mod.glob.keeps I.bk) a h) hd
theorem LF(I:Inv X Zb Z H s)(d:Gl X x)(c:X.mg x=none)(a:bootBuiltins x=some u)(h:Q u s)
  (b:x ≠"__name__" := by decide) (hd:(x == ("__debug__":Str))=false:=by decide):wpAny (model X.prog X.w) X.A (eval (.Name x pos) X.env) Q E s:=by
 obtain⟨mb,h1,h2⟩:=I.mod.blt;exact ZAR I.ok.kind d (Calls.loadGlobal_builtin (by rw[I.ok.glob];exact I.mod.glob.keeps I.bk) c (by rw[I.ok.blt];exact h1.keeps I.bk) ((h2 x b).trans a) h) hd
theorem lz(d:Gl X x)(c:X.mg x=none)(a:bootBuiltins x=some u)(r:RelV v u)(b:x ≠"__name__" := by decide)(hd:(x == ("__debug__":Str))=false:=by decide):PE X (.Name x pos) (tC v):=
 λ_ _ _ H _ I h=>LF I d c a ⟨v,H,I,r,h⟩ b hd
variable{a b:Expr}
def PC(X:Cx)(op:CmpOp)(a b:Expr)(t:TE):Prop:=
 ∀(Zb:ZBd)(s:Shared)(Z:St)(H:Hp)(Q:VK),Inv X Zb Z H s->t Z H Q->
  wpAny (model X.prog X.w) X.A (eval a X.env) (λv d=>wpAny (model X.prog X.w) X.A (eval b X.env) (λu c=>wpAny (model X.prog X.w) X.A (compareOp op v u) (EP X Zb Z Q) X.xe c) X.xe d) X.xe s
theorem b7(b:Expr)(h:op≠.In)(h2:op≠.NotIn):behindInMarks op b=false:=by
 have c:(op == CmpOp.In)=false:=by cases op <;> first|rfl|exact absurd rfl h
 have a:(op == CmpOp.NotIn)=false:=by cases op <;> first|rfl|exact absurd rfl h2
 cases b <;> simp[behindInMarks,c,a]
def tB(t:TE):TT:=λZ H Q=>t Z H λx H1=>∃c,x=.bl c/\Q c H1
theorem x6{t:TE}(h:PC X op a b t)(h1:behindInMarks op b=false:=by first|exact b7 _ (by decide) (by decide)|rfl):PE X (.Compare a [op] [b] pos) t:=λZb s Z H Q I hw=>wpAny_Compare1 (h Zb s Z H Q I hw) h1
theorem bK{t:TE}(h:PC X op a b t)(h1:behindInMarks op b=false:=by first|exact b7 _ (by decide) (by decide)|rfl):PT X (.Compare a [op] [b] pos) (tB t):=by
 intro Zb s Z H Q I hw;refine wpAny_isTrue_Compare1 (AI (h Zb s Z H _ I hw) λv i h1=>AI h1 λu s2 h2=>AI h2 λc g⟨x,H1,I1,e,f⟩=>?_) h1;obtain⟨d,rfl,q⟩:=f;cases e;exact kH ⟨H1,I1,q⟩
variable{tA IP:TT}
def Wf(t u:TT):TT:=λZ H Q=>t Z H λc H1=>if c=true then u Z H1 Q else Q false H1
def Rz(t u:TT):TT:=λZ H Q=>t Z H λc H1=>if c=true then Q true H1 else u Z H1 Q
def XJ(t:TT):TT:=λZ H Q=>t Z H λc H1=>Q (!c) H1
def Uq(ta tb:TE):TE:=λZ H Q=>ta Z H λx H1=>∃c,x=.bl c/\if c=true then tb Z H1 Q else Q (.bl false) H1
def Vf(t:TT)(ta tb:TE):TE:=λZ H Q=>t Z H λc H1=>if c=true then ta Z H1 Q else tb Z H1 Q
end
def AQ(K:ZBc)(H:Hp)(a:Addr)(xs:List V):Prop:=
 Rd H a (.lst xs)∨
  ∃(o:Obj)(A4:Array Value)(n:Nat),K.lookup a=some o/\o.cls=.type "list" /\ o.dict=none/\o.data=.seq A4 n/\A4.size<=sizeLine/\Vals xs A4.toList
def BC(K:ZBc)(H:Hp)(a:Addr)(xs:List V):Prop:=
 Rd H a (.tup xs)∨
  ∃(o:Obj)(A4:Array Value)(n:Nat),K.lookup a=some o/\o.cls=.type "tuple" /\ o.data=.seq A4 n/\A4.size<=sizeLine/\Vals xs A4.toList
noncomputable def jg:Value->Option V
 | .none=>some .A9
 | .bool b=>some (.bl b)
 | .int i _=>some (.int i)
 | .str x _=>some (.str x)
 | .bytes b _=>some (.G3 b)
 | .float b _=>some (.JO b)
 | .ref a=>some (.ref a)
 | .type n=>some (.ty n)
 |_=>none
theorem RelV.abs{x:V}(r:RelV x u):jg u=some x:=by
 cases x with
 |A9=>cases r;rfl
 |bl _=>cases r;rfl
 |int _=>obtain⟨t,rfl⟩:=r;rfl
 |str _=>obtain⟨t,rfl⟩:=r;rfl
 |G3 _=>obtain⟨t,rfl⟩:=r;rfl
 |JO _=>obtain⟨t,rfl⟩:=r;rfl
 |ref _=>cases r;rfl
 |ty _=>cases r;rfl
theorem RelV.inj{x y:V}{u:Value}(r:RelV x u)(q:RelV y u):x=y:=BH (r.abs.symm.trans q.abs)
theorem Vals.inj:∀{xs ys:List V}{us:List Value},Vals xs us->Vals ys us->xs=ys
 |_,_,_,.nil,.nil=>rfl
 |_,_,_,.cons r t,.cons r' t'=>by rw[r.inj r',Vals.inj t t']
section
variable{xs ys:List V}
theorem AQ.of{K:ZBc}(h:H a=some (.lst xs)):AQ K H a xs:=.inl (.inl h)
theorem BC.of{K:ZBc}(h:H a=some (.tup xs)):BC K H a xs:=.inl (.inl h)
theorem Inv.list(I:Inv X Zb Z H s)(h:AQ X.K H a xs):∃A4:List Value,Vals xs A4/\PlainL s.heap a A4.toArray/\xs.length<=sizeLine:=by
 rcases h with h|⟨o,A4,n,hk,hc,hd,hs,hz,r⟩
 .obtain⟨z,A4,n,r,e⟩:=h.ok I.AF;exact⟨A4,r,⟨_,n,e,rfl,rfl,rfl⟩,z⟩
 .refine⟨A4.toList,r,⟨o,n,I.C5 a o hk,hc,hd,by simpa using hs⟩,?_⟩
  have e:=r.length;simp only[XT]at e;omega
theorem Inv.tuple(I:Inv X Zb Z H s)(h:BC X.K H a xs):∃A4:List Value,Vals xs A4/\IsTup s.heap a A4.toArray/\xs.length<=sizeLine:=by
 rcases h with h|⟨o,A4,n,hk,hc,hs,hz,r⟩
 .obtain⟨z,A4,r,p⟩:=h.ok I.AF;exact⟨A4,r,p.1,z⟩
 .refine⟨A4.toList,r,⟨o,I.C5 a o hk,hc,n,by simpa using hs⟩,?_⟩
  have e:=r.length;simp only[XT]at e;omega
theorem Inv.qV(I:Inv X Zb Z H s)(h:AQ X.K H a xs)(h':AQ X.K H a ys):xs=ys:=by
 obtain⟨A4,r,⟨o,n,e,_,_,d⟩,_⟩:=I.list h;obtain⟨its',c,⟨o',f,b,_,_,d'⟩,_⟩:=I.list h';rw[e]at b;cases b;rw[d]at d';injection d' with d1 _
 have:A4=its':=by simpa using k9 Array.toList d1
 subst this;exact r.inj c
theorem Inv.oN(I:Inv X Zb Z H s)(h:BC X.K H a xs)(h':BC X.K H a ys):xs=ys:=by
 obtain⟨A4,r,⟨o,e,_,n,d⟩,_⟩:=I.tuple h;obtain⟨its',c,⟨o',b,_,f,d'⟩,_⟩:=I.tuple h';rw[e]at b;cases b;rw[d]at d';injection d' with d1 _
 have:A4=its':=by simpa using k9 Array.toList d1
 subst this;exact r.inj c
end
noncomputable abbrev Cx.HH(X:Cx)(E:Value->Shared->Prop):Cx:={ X with xe:=E }
noncomputable abbrev Cx.P1(X:Cx):Cx:=X.HH λ_ _=>False
theorem Cx.Ok.HH(ok:X.Ok)(E:Value->Shared->Prop):(X.HH E).Ok:=
 ⟨ok.mod,ok.kind,ok.glob,ok.blt,ok.above,ok.inj,ok.has,ok.J3,ok.hd,ok.frames,ok.Ie,ok.KY,ok.bs,ok.GA,ok.JL,ok.Iq,ok.Ed,ok.HL⟩
theorem Cx.Ok.JU(ok:(X.HH E).Ok):X.Ok:=
 ⟨ok.mod,ok.kind,ok.glob,ok.blt,ok.above,ok.inj,ok.has,ok.J3,ok.hd,ok.frames,ok.Ie,ok.KY,ok.bs,ok.GA,ok.JL,ok.Iq,ok.Ed,ok.HL⟩
section
theorem Inv.HH(I:Inv X Zb Z H s)(E:Value->Shared->Prop):Inv (X.HH E) Zb Z H s:=⟨I.ok.HH E,I.os,I.bare,I.base,I.loc,I.cell,I.free,I.Dq,I.pin,I.AF,I.len⟩
theorem Inv.JU(I:Inv (X.HH E) Zb Z H s):Inv X Zb Z H s:=⟨I.ok.JU,I.os,I.bare,I.base,I.loc,I.cell,I.free,I.Dq,I.pin,I.AF,I.len⟩
theorem SP.JU{D:Ends}{f:Flow}(h:SP (X.HH E) Zb D f s'):SP X Zb D f s':=by
 cases f with
 |next=>obtain⟨σ',H',I,q⟩:=h;exact⟨σ',H',I.JU,q⟩
 |brk=>obtain⟨σ',H',I,q⟩:=h;exact⟨σ',H',I.JU,q⟩
 |cont=>obtain⟨σ',H',I,q⟩:=h;exact⟨σ',H',I.JU,q⟩
 |ret u=>obtain⟨v,σ',H',I,r,q⟩:=h;exact⟨v,σ',H',I.JU,r,q⟩
theorem DO.P1{st:List Stmt}{t:TS}(h:DO X.P1 st t):DO X st t:=λZb s Z H D I hw=>
 jx (h Zb s Z H D (I.HH _) hw) (λ_ _ q=>q.JU) λ_ _ z=>False.elim z
variable{st:Stmt}{rest:List Stmt}{t u:TS}
def Si:TS:=λD Z H=>D.nx Z H
def Nv(t u:TS):TS:=λD Z H=>t { D with nx:=u D } Z H
theorem uK(h1:PS X st t)(h2:DO X rest u):DO X (st::rest) (Nv t u):=by
 intro Zb s Z H D I h;refine wpAny_execs_cons (AI (h1 Zb s Z H { D with nx:=u D } I h) λf a q=>?_)
 cases f with
 |next=>
  obtain⟨σ',H',I',q⟩:=q;exact h2 Zb a σ' H' D I' q
 |ret v=>exact q
 |brk=>exact q
 |cont=>exact q
theorem pH(h1:PS X st t):DO X [st] t:=by
 intro Zb s Z H D I h;refine wpAny_execs_cons (AI (h1 Zb s Z H D I h) λf a q=>?_);cases f with
 |next=>exact mV q
 |ret v=>exact q
 |brk=>exact q
 |cont=>exact q
theorem Inv.quiet(I:Inv X Zb Z H s):interactive X.env=false:=by simp[interactive,I.ok.kind]
def Hx(te:TE):TS:=λD Z H=>te Z H λ_ H1=>D.nx Z H1
def Hl(te:TE):TS:=λD Z H=>te Z H D.rt
def VA(c:TT)(t u:TS):TS:=λD Z H=>c Z H λb H1=>if b=true then t D Z H1 else u D Z H1
def ZA:TS:=λ_ _ _=>False
end
abbrev TG:=V->St->Hp->(St->Hp->Prop)->Prop
abbrev GQ:=List V->St->Hp->(St->Hp->Prop)->Prop
def PG(X:Cx)(a:Expr)(t:TG):Prop:=
 ∀(Zb:ZBd)(s:Shared)(Z:St)(H:Hp)(v:V)(u:Value)(Q:St->Hp->Prop),Inv X Zb Z H s->RelV v u->t v Z H Q->
  wpAny (model X.prog X.w) X.A (assign a X.env u) (λ_ s'=>∃ σ' H',Inv X Zb σ' H' s'/\Q σ' H') X.xe s
def Lm(X:Cx)(ts:List Expr)(t:GQ):Prop:=
 ∀(Zb:ZBd)(s:Shared)(Z:St)(H:Hp)(vs:List V)(us:List Value)(Q:St->Hp->Prop),Inv X Zb Z H s->Vals vs us->t vs Z H Q->
  wpAny (model X.prog X.w) X.A (assignInOrder ((assignEach ts X.env).map (·.2)) us) (λ_ s'=>∃ σ' H',Inv X Zb σ' H' s'/\Q σ' H') X.xe s
abbrev Qz:=V->V->V->Hp->(Hp->Prop)->Prop
def Ui(X:Cx)(t:Qz):Prop:=
 ∀(Zb:ZBd)(s:Shared)(Z:St)(H:Hp)(o i v:V)(a b u:Value)(Q:Hp->Prop),Inv X Zb Z H s->RelV o a->RelV i b->RelV v u->t o i v H Q->
  wpAny (model X.prog X.w) X.A (setItem a b u) (λ_ s'=>∃H',Inv X Zb Z H' s'/\Q H') X.xe s
abbrev OF:=V->V->Hp->VK->Prop
def Pw(X:Cx)(op:Operator)(t:OF):Prop:=
 ∀(Zb:ZBd)(s:Shared)(Z:St)(H:Hp)(x y:V)(v u:Value)(Q:VK),Inv X Zb Z H s->RelV x v->RelV y u->t x y H Q->
  wpAny (model X.prog X.w) X.A (inplaceOp op v u) (EP X Zb Z Q) X.xe s
def C4(i:Nat):TG:=λv Z H Q=>Q (Z.set i (some v)) H
theorem Ta(b:X.N.Nodup)(hi:X.N[i]?=some x)(hx:Loc X.env.scope x)(a:X.fn x=true∨X.env.scope.names.lookup x=some .local:=by first|exact .inl rfl|exact .inr rfl|assumption):PG X (.Name x pos) (C4 i):=by
 intro Zb s Z H v u Q I r h;exact wpAny_assign_Name (Qb I b hi hx r (λs' I'=>⟨_,H,I',h⟩) a)
def MG:GQ:=λvs Z H Q=>vs=[]/\Q Z H
def GW(t:TG)(u:GQ):GQ:=λvs Z H Q=>∃v r,vs=v::r/\t v Z H λσ' H'=>u r σ' H' Q
theorem Yu:Lm X [] MG:=by
 intro Zb s Z H vs us Q I r h;obtain⟨e,h⟩:=h;subst e;cases r;exact assignInOrder_nil ⟨Z,H,I,h⟩
theorem Zu{t:TG}{u:GQ}(h1:PG X e t)(h2:Lm X es u)
  (f:(assignEach (e::es) X.env).map (·.2)=assign e X.env::(assignEach es X.env).map (·.2):=by rfl):Lm X (e::es) (GW t u):=by
 intro Zb s Z H vs us Q I r h;obtain⟨v,i,g,h⟩:=h;subst g;cases r with
 |cons r c=>
  rw[f];refine assignInOrder_cons (AI (h1 Zb s Z H _ _ _ I r h) λ_ b a=>?_);obtain⟨σ1,H1,I1,d⟩:=a;exact h2 Zb b σ1 H1 _ _ Q I1 c d
def Jr(K:ZBc)(n:Nat)(t:GQ):TG:=λv Z H Q=>∃a xs,v=.ref a/\BC K H a xs/\xs.length=n/\t xs Z H Q
theorem Y4{k:Nat}{t:GQ}(j:X.calm=true)(h:Lm X es t)
  (g:(assignEach es X.env).length=n:=by rfl) (Ca:(assignEach es X.env).findIdx? (·.1)=none:=by rfl):PG X (.Tuple es k pos) (Jr X.K n t):=by
 intro Zb s Z H v u Q I r hw;obtain⟨a,xs,l,f,i,hw⟩:=hw;subst l;cases r;obtain⟨A4,c,d,p⟩:=I.tuple f;refine assign_Tuple_tuple (I.ok.hd j) d (by simp[g,<- i,c.length]) Ca λh' hx=>?_;have m:Inv X Zb Z H { s with heap:=h' }:=I.kept (t':=s.toks) λb o e=>hx b o (CV (B4 e)) e
 exact h Zb _ Z H xs _ Q m (by simpa using c) hw
def fJ(to ti:TE)(t:Qz):TG:=λv Z H Q=>to Z H λo H1=>ti Z H1 λi H2=>t o i v H2 λH3=>Q Z H3
def EB(te:TE)(g:TG):TS:=λD Z H=>te Z H λx H1=>g x Z H1 D.nx
def Pr(i:Nat)(te:TE)(ti:OF):TS:=λD Z H=>∃x,Z[i]?=some (some x)/\te Z H λy H1=>ti x y H1 λz H2=>D.nx (Z.set i (some z)) H2
def Qj(f:Int->Int->Int):OF:=λx y H Q=>∃i j,x=.int i/\y=.int j/\Q (.int (f i j)) H
theorem qt:Pw X .Add (Qj λi j=>i+j):=by
 intro Zb s Z H x y v u Q I b a h;obtain⟨i,j,d,c,q⟩:=h;subst d;subst c;obtain⟨t,rfl⟩:=b;obtain⟨t',rfl⟩:=a;exact iadd_int ⟨.int _,H,I.tok _,⟨_,rfl⟩,q⟩
theorem WV:Pw X .Sub (Qj λi j=>i - j):=by
 intro Zb s Z H x y v u Q I b a h;obtain⟨i,j,d,c,q⟩:=h;subst d;subst c;obtain⟨t,rfl⟩:=b;obtain⟨t',rfl⟩:=a;exact isub_int ⟨.int _,H,I.tok _,⟨_,rfl⟩,q⟩
def QK(c:TT)(tb:TS):TS:=λD Z H=>∃W:Nat->St->Hp->Prop,(∃m,W m Z H)/\∀m Z H,W m Z H->
 c Z H λb H1=>if b=true then ∃N:St->Hp->Prop,(∀ σ' H',N σ' H'->∃a,a < m/\W a σ' H')/\tb { D with nx:=N,ct:=N,bk:=D.nx } Z H1 else D.nx Z H1
structure It where
 go:Nat->Hp->Prop
 E6:Nat->Hp->V->Hp->Prop
 stop:Nat->Hp->Prop
def E9(X:Cx)(Zb:ZBd)(H:Hp)(b:Addr):Prop:=
 H b=none/\b≠X.env.locals/\b∉X.fs/\(b∈X.ex∨X.s₀.heap.objs.size<=b)/\(∀x c,X.env.cells.lookup x=some c->c≠b)/\∀p∈X.pn++Zb,p.1≠b
theorem Inv.LX(I:Inv X Zb Z H s)(a:s.heap.objs.size<=b)(f:H' b=none):E9 X Zb H' b:=by
 refine⟨f,Mh (DC I.lt a),I.xv a,.inr (CU I.sz a),λx c e z=>?_,λp d z=>?_⟩
 .obtain⟨v,q⟩:=I.cell x c e;exact absurd (DC q.lt (by rw[z];exact a)) (Mf _)
 .exact absurd (DC (B4 (I.pin p d).1) (by rw[z];exact a)) (Mf _)
structure Turn (P:Program) (w:World) (K:ZBc) (tg:Expr) (J:It) (fp:List Addr) (it:Addr) (tn:Nat->Heap->Prop):Prop where
 mem:it∈fp
 obj:∀i h,tn i h->∀b∈fp,∃o,h.get? b=some o/\∀v,o.data≠.cell v
 keep:∀i h h',tn i h->(∀b∈fp,∀o,h.get? b=some o->h'.get? b=some o)->tn i h'
 item:∀(X:Cx),X.prog=P->X.w=w->X.K=K->X.calm=true->∀(i:Nat)(Zb:ZBd)(s:Shared)(Z:St)(H:Hp)(E:Value->Shared->Prop),Inv X Zb Z H s->(∀b∈fp,E9 X Zb H b)->tn i s.heap->J.go i H->
  wpAny (model P w) X.A (pyNext (.ref it)) (λr s1=>∃u,r=some u/\
   wpAny (model P w) X.A (letOwnedTupleGo tg (.ref it) u) (λ_ s2=>∃x H',Inv X Zb Z H' s2/\RelV x u/\J.E6 i H x H'/\tn (i+1) s2.heap/\∀b∈fp,H' b=none) E s1) E s
 done:∀(X:Cx),X.prog=P->X.w=w->X.K=K->X.calm=true->∀(i:Nat)(Zb:ZBd)(s:Shared)(Z:St)(H:Hp)(E:Value->Shared->Prop),Inv X Zb Z H s->(∀b∈fp,E9 X Zb H b)->tn i s.heap->J.stop i H->
  wpAny (model P w) X.A (pyNext (.ref it)) (λr s1=>r=none/\Inv X Zb Z H s1) E s
 self:∀(A:Around)(i:Nat)(s:Shared)(Q:Value->Shared->Prop)(E:Value->Shared->Prop),tn i s.heap->Q (.ref it) s->wpAny (model P w) A (pyIter (.ref it)) Q E s
abbrev TI:=St->Hp->(It->Hp->Prop)->Prop
def YB(X:Cx)(Zb:ZBd)(Z:St)(tg:Expr)(R:It->Hp->Prop)(Qh:Value)(s2:Shared):Prop:=
 ∃(it:Addr)(fp:List Addr)(tn:Nat->Heap->Prop)(J:It)(H':Hp),Qh=.ref it/\Inv X Zb Z H' s2/\Turn X.prog X.w X.K tg J fp it tn/\tn 0 s2.heap/\(∀b∈fp,E9 X Zb H' b)/\R J H'
def PI(X:Cx)(tg iter:Expr)(wi:TI):Prop:=
 ∀(Zb:ZBd)(s:Shared)(Z:St)(H:Hp)(R:It->Hp->Prop),Inv X Zb Z H s->wi Z H R->
  wpAny (model X.prog X.w) X.A (eval iter X.env) (λv a=>wpAny (model X.prog X.w) X.A (pyIter v) (YB X Zb Z tg R) X.xe a) X.xe s
theorem Q7{o:Obj}{n:String}{vs:Array Value}{Q:Unit->Shared->Prop}(ho:s.heap.get? it=some o)(c:o.cls=.type n)(hd:o.data=.fields vs)
  (b:["enumerate","zip","dict_itemiterator","dict_reverseitemiterator","odict_iterator","itertools.zip_longest","itertools.pairwise"].contains n=false) (a:Q () s):wpAny M A (letOwnedTupleGo tg (.ref it) u) Q E s:=by
 unfold letOwnedTupleGo;cases tg <;> first
  |exact jP a
  | (cases u <;> first
    |exact jP a
    | (
      refine iM (wpAny_load ho ?_);rw[c,hd];show wpAny M A (if(["enumerate","zip","dict_itemiterator","dict_reverseitemiterator","odict_iterator","itertools.zip_longest","itertools.pairwise"].contains n && vs[0]? == some (rawInt _))=true then _ else _) Q E s
      rw[ib (by intro h;rw[b,Bool.false_and]at h;cases h)];exact jP a))
noncomputable def Yq(K:ZBc)(a:Addr):It:=
 ⟨λi H=>∃xs x,AQ K H a xs/\xs[i]?=some x,λi H x H'=>H'=H/\∀xs,AQ K H a xs->xs[i]?=some x,λi H=>∃xs,AQ K H a xs/\xs.length<=i⟩
noncomputable def nh(K:ZBc)(a:Addr):It:=
 ⟨λi H=>∃xs x,BC K H a xs/\xs[i]?=some x,λi H x H'=>H'=H/\∀xs,BC K H a xs->xs[i]?=some x,λi H=>∃xs,BC K H a xs/\xs.length<=i⟩
noncomputable def Ka(lo:Int)(n:Nat):It:=⟨λi _=>i<n,λi H x H'=>H'=H/\x=.int (lo+i),λi _=>n<=i⟩
theorem La{P:Program}{K:ZBc}(a it:Addr):Turn P w K tg (Yq K a) [it] it (λi h=>h.IsListIter it a i) where
 mem:=by simp
 obj:=λi h st b f=>by
  have e:b=it:=by simpa using f
  subst e;obtain⟨o,e,c,d⟩:=st;exact⟨o,e,λv z=>by rw[d]at z;cases z⟩
 keep:=λi h h' st k=>st.at λo e=>k it (by simp) o e
 item:=by
  intro X n hw q B i Zb s Z H E I j st m;subst n hw q;obtain⟨xs,x,g,hx⟩:=m;obtain⟨A4,l,p,F⟩:=I.list g;obtain⟨u,J,D⟩:=l.get hx;obtain⟨f0,A,L,y,t,r⟩:=j it (by simp);refine wpAny_pyNext_list_item st p.isList (x:=u) (by simpa using J) λh' DZ C=>?_
  have N:Inv X Zb Z H { s with heap:=h' }:=I.turned (t':=s.toks) (λb o f e=>(C.2 b f).trans e) f0 A y t r
  obtain⟨o,e,c,d⟩:=id DZ;exact⟨u,rfl,Q7 (s:={ s with heap:=h' }) e c d (by decide) ⟨x,H,N,D,⟨rfl,λys G=>by rw[I.qV G g];exact hx⟩,DZ,λb f=>(j b f).1⟩⟩
 done:=by
  intro X n hw q B i Zb s Z H E I j st m;subst n hw q;obtain⟨xs,g,hx⟩:=m;obtain⟨A4,l,p,F⟩:=I.list g;obtain⟨f0,A,L,y,t,r⟩:=j it (by simp);have O:=l.length;exact wpAny_pyNext_list_end (I.ok.hd B) st p.isList (by simp;omega) λh' M=>⟨rfl,I.turned (t':=s.toks) (λb o f e=>M b o f e) f0 A y t r⟩
 self:=λ_ _ _ _ _ st h=>wpAny_pyIter_listiter st h
theorem NU{P:Program}{K:ZBc}(a it:Addr):Turn P w K tg (nh K a) [it] it (λi h=>h.IsTupleIter it a i) where
 mem:=by simp
 obj:=λi h st b f=>by
  have e:b=it:=by simpa using f
  subst e;obtain⟨o,e,c,d⟩:=st;exact⟨o,e,λv z=>by rw[d]at z;cases z⟩
 keep:=λi h h' st k=>st.at λo e=>k it (by simp) o e
 item:=by
  intro X n hw q B i Zb s Z H E I j st m;subst n hw q;obtain⟨xs,x,g,hx⟩:=m;obtain⟨A4,l,p,F⟩:=I.tuple g;obtain⟨u,J,D⟩:=l.get hx;obtain⟨f0,A,L,y,t,r⟩:=j it (by simp);refine wpAny_pyNext_tuple_item st (show s.heap.IsTuple a A4.toArray from p) (x:=u) (by simpa using J) λh' DZ C=>?_
  have N:Inv X Zb Z H { s with heap:=h' }:=I.turned (t':=s.toks) (λb o f e=>(C.2 b f).trans e) f0 A y t r
  obtain⟨o,e,c,d⟩:=id DZ;exact⟨u,rfl,Q7 (s:={ s with heap:=h' }) e c d (by decide) ⟨x,H,N,D,⟨rfl,λys G=>by rw[I.oN G g];exact hx⟩,DZ,λb f=>(j b f).1⟩⟩
 done:=by
  intro X n hw q B i Zb s Z H E I j st m;subst n hw q;obtain⟨xs,g,hx⟩:=m;obtain⟨A4,l,p,F⟩:=I.tuple g;obtain⟨f0,A,L,y,t,r⟩:=j it (by simp);have O:=l.length;exact wpAny_pyNext_tuple_end (I.ok.hd B) st (show s.heap.IsTuple a A4.toArray from p) (by simp;omega) λh' M=>⟨rfl,I.turned (t':=s.toks) (λb o f e=>M b o f e) f0 A y t r⟩
 self:=λ_ _ _ _ _ st h=>wpAny_pyIter_tupleiter st h
theorem uA{P:Program}{K:ZBc}(it:Addr)(lo:Int)(n:Nat):Turn P w K tg (Ka lo n) [it] it (λi h=>IsRangeIter h it (lo+(i:Nat) * 1) ((n:Int) - (i:Nat)) 1) where
 mem:=by simp
 obj:=λi h st b a=>by
  have e:b=it:=by simpa using a
  subst e;exact⟨_,st,λv z=>by
   have r:Data.fields _=Data.cell v:=z;cases r⟩
 keep:=λi h h' st k=>k it (by simp) _ st
 item:=by
  intro X g hw j f i Zb s Z H E I c st d;subst g hw j;obtain⟨f0,q,x,p,m,l⟩:=c it (by simp);have W:=Walks.range (prog:=X.prog) (w:=X.w) (I.ok.hd f) it lo 1 n;refine W.item i s _ _ d st λv h' tk u DZ kk=>?_;obtain⟨t,rfl⟩:=u;have A:Inv X Zb Z H { s with heap:=h',toks:=tk }:=I.turned (λb o a e=>kk b o (by simpa using a) e) f0 q p m l
  refine⟨_,rfl,Q7 (s:={ s with heap:=h',toks:=tk }) (n:="range_iterator") DZ rfl rfl (by decide) ⟨.int (lo+i),H,A,⟨t,?_⟩,⟨rfl,rfl⟩,DZ,λb a=>(c b a).1⟩⟩
  rw[Int.mul_one]
 done:=by
  intro X g hw j f i Zb s Z H E I c st d;subst g hw j;obtain⟨f0,q,x,p,m,l⟩:=c it (by simp);exact wpAny_pyNext_range_end (I.ok.hd f) st (by have:n<=i:=d;omega) λh' y=>⟨rfl,I.turned (t':=s.toks) (λb o a e=>y b o a e) f0 q p m l⟩
 self:=λ_ _ _ _ _ st h=>wpAny_pyIter_rangeiter st h
def Vi(K:ZBc)(tl:TE):TI:=λZ H R=>tl Z H λx H1=>∃a,x=.ref a/\(∃xs,AQ K H1 a xs)/\R (Yq K a) H1
theorem ZE{R:It->Hp->Prop}{lo hi:Int}{t u v:Tok}(I:Inv X Zb Z H s)(h1:-(2 ^ 62)<=lo)(h2:lo<2 ^ 62)(f:-(2 ^ 62)<=hi)(d:hi<2 ^ 62)
  (q:R (Ka lo (hi - lo).toNat) H):wpAny (model X.prog X.w) X.A (pyIter (.ref s.heap.objs.size)) (YB X Zb Z tg R) E { s with heap:=s.heap.push { cls:=.type "range", data:=.fields #[.int lo t,.int hi u,.int 1 v] },toks:=tk }:=by
 refine wpAny_pyIter_range (IsRange.new ..) (small_one h1 h2 f d) ?_;have a:Inv X Zb Z H { s with heap:=s.heap.push { cls:=.type "range", data:=.fields #[.int lo t,.int hi u,.int 1 v] },toks:=tk }:=I.kept λb o e=>Bz _ e
 refine⟨(s.heap.push { cls:=.type "range", data:=.fields #[.int lo t,.int hi u,.int 1 v] }).objs.size,[(s.heap.push { cls:=.type "range", data:=.fields #[.int lo t,.int hi u,.int 1 v] }).objs.size],_,_,H,rfl,
  a.kept (t':=tk) λb o e=>Bz _ e,uA _ lo (hi - lo).toNat,?_,λb c=>?_,q⟩
 .have h:lo+((0:Nat):Int) * 1=lo:=by simp
  have g:(((hi - lo).toNat:Nat):Int) - ((0:Nat):Int)=Builtin.Range.rangeSize lo hi 1:=by rw[rangeSize_one];split <;> omega
  show IsRangeIter _ _ (lo+((0:Nat):Int) * 1) ((((hi - lo).toNat:Nat):Int) - ((0:Nat):Int)) 1;rw[h,g];exact D0 _ rfl
 .have e:b=(s.heap.push { cls:=.type "range", data:=.fields #[.int lo t,.int hi u,.int 1 v] }).objs.size:=by simpa using c
  subst e;exact a.LX (Ae _) (a.AF.fresh (Ae _))
def Se(ta:TA):TI:=λZ H R=>ta Z H λvs H1=>∃j:Int,vs=[.int j]/\-(2 ^ 62)<=j/\j<2 ^ 62/\R (Ka 0 j.toNat) H1
def VL(ta:TA):TI:=λZ H R=>ta Z H λvs H1=>∃i j:Int,vs=[.int i,.int j]/\(-(2 ^ 62)<=i/\i<2 ^ 62/\-(2 ^ 62)<=j/\j<2 ^ 62)/\R (Ka i (j - i).toNat) H1
def R1(wi:TI)(g:TG)(tb:TS):TS:=λD Z H=>wi Z H λJ H1=>∃W:Nat->Nat->St->Hp->Prop,(∃m,W 0 m Z H1)/\∀i m Z H,W i m Z H->
 (J.stop i H/\D.nx Z H)∨(J.go i H/\∃N:St->Hp->Prop,(∀ σ' H',N σ' H'->∃a,a < m/\W (i+1) a σ' H')/\∀x H',J.E6 i H x H'->g x Z H' λσ2 H2=>tb { D with nx:=N,ct:=N,bk:=D.nx } σ2 H2)
noncomputable def Na(fp:List Addr)(h:Heap):ZBd:=fp.filterMap λb=>(h.get? b).map λo=>(b,o)
theorem Q8{o:Obj}(a:b∈fp)(e:h.get? b=some o):(b,o)∈Na fp h:=List.mem_filterMap.mpr ⟨b,a,by rw[e];rfl⟩
theorem n6{p:Addr×Obj}(a:p∈Na fp h):p.1∈fp/\h.get? p.1=some p.2:=by
 obtain⟨b,c,e⟩:=List.mem_filterMap.mp a;cases q:h.get? b with
 |none=>rw[q]at e;cases e
 |some o=>
  rw[q]at e;have d:(b,o)=p:=BH e;subst d;exact⟨c,q⟩
theorem Inv.pinned(I:Inv X Zb Z H s)(g:∀b∈fp,E9 X Zb H b)(ho:∀b∈fp,∃o,s.heap.get? b=some o/\∀v,o.data≠.cell v):Inv X (Zb++Na fp s.heap) Z H s:=
 I.cE λp f=>(List.mem_append.mp f).elim (λz=>I.pin p (FE _ z)) λz=>by
  obtain⟨a,e⟩:=n6 z;obtain⟨f0,i,h,_⟩:=g p.1 a;obtain⟨o,c,d⟩:=ho p.1 a;rw[e]at c;cases c;exact⟨e,f0,i,h,d⟩
theorem Inv.NF{pl:ZBd}(I:Inv X (Zb++pl) Z H s):Inv X Zb Z H s:=I.cE λp a=>I.pin p (FE _ (GB _ a))
theorem jA{lo:Int}{g:TG}{tb:TS}{D:Ends}(Pv:Nat->St->Hp->Prop)(f:Pv 0 Z H)
  (d:∀i Z H,i<n->Pv i Z H->g (.int (lo+i)) Z H λσ2 H2=>tb { D with nx:=Pv (i+1),ct:=Pv (i+1),bk:=D.nx } σ2 H2) (hd:∀ Z H,Pv n Z H->D.nx Z H) :
  ∃W:Nat->Nat->St->Hp->Prop,(∃m,W 0 m Z H)/\∀i m Z H,W i m Z H->
   ((Ka lo n).stop i H/\D.nx Z H)∨((Ka lo n).go i H/\∃N:St->Hp->Prop,(∀ σ' H',N σ' H'->∃b,b < m/\W (i+1) b σ' H')/\∀x H',(Ka lo n).E6 i H x H'->g x Z H' λσ2 H2=>tb { D with nx:=N,ct:=N,bk:=D.nx } σ2 H2):=by
 refine⟨λi m Z H=>m=n - i/\i<=n/\Pv i Z H,⟨n,by simp,CA _,f⟩,?_⟩;rintro i m Z H⟨rfl,hi,p⟩
 by_cases a:i<n
 .refine .inr ⟨a,Pv (i+1),λσ' H' c=>⟨n - (i+1),by omega,rfl,a,c⟩,λx H' y=>?_⟩;obtain⟨e,y⟩:=y;subst e y;exact d i Z _ a p
 .have e:i=n:=by omega
  subst e;exact .inl ⟨Ae _,hd Z H p⟩
abbrev R2:=V->V->Hp->VK->Prop
def B6(X:Cx)(f:Value->Value->Sem Value)(r:R2):Prop:=
 ∀(Zb:ZBd)(s:Shared)(Z:St)(H:Hp)(x y:V)(v u:Value)(Q:VK),Inv X Zb Z H s->RelV x v->RelV y u->r x y H Q->
  wpAny (model X.prog X.w) X.A (f v u) (EP X Zb Z Q) X.xe s
def RQ(X:Cx)(f:Value->Sem Value)(r:V->Hp->VK->Prop):Prop:=
 ∀(Zb:ZBd)(s:Shared)(Z:St)(H:Hp)(x:V)(v:Value)(Q:VK),Inv X Zb Z H s->RelV x v->r x H Q->
  wpAny (model X.prog X.w) X.A (f v) (EP X Zb Z Q) X.xe s
def CZ(X:Cx)(f:Value)(r:List V->Hp->VK->Prop):Prop:=
 ∀(Zb:ZBd)(s:Shared)(Z:St)(H:Hp)(xs:List V)(us:List Value)(Q:VK),Inv X Zb Z H s->Vals xs us->r xs H Q->
  wpAny (model X.prog X.w) X.A (call f us) (EP X Zb Z Q) X.xe s
def BU(r:R2)(ta tb:TE):TE:=λZ H Q=>ta Z H λx H1=>tb Z H1 λy H2=>r x y H2 Q
def RF(r:V->Hp->VK->Prop)(ta:TE):TE:=λZ H Q=>ta Z H λx H1=>r x H1 Q
def rI(C:Int->Int->Prop)(g:Int->Int->V):R2:=λx y H Q=>∃i j,x=.int i/\y=.int j/\C i j/\Q (g i j) H
def Fl(g:Int->Int->V):R2:=λx y H Q=>∃i j,x=.int i/\y=.int j/\Q (g i j) H
def rU(g:Int->V):V->Hp->VK->Prop:=λx H Q=>∃i,x=.int i/\Q (g i) H
section
variable{a b c:Expr}
theorem TR(o:PE X a ta)(n:PE X b tb){R:V->V->Hp->Prop}(I:Inv X Zb Z H s)
  (h:ta Z H λx H1=>tb Z H1 λy H2=>R x y H2)
  (m:∀v u s2 x y H2,Inv X Zb Z H2 s2->RelV x v->RelV y u->R x y H2->wpAny (model X.prog X.w) X.A (f v u) Q X.xe s2) :
  wpAny (model X.prog X.w) X.A (eval a X.env) (λv e=>wpAny (model X.prog X.w) X.A (eval b X.env) (λu d=>wpAny (model X.prog X.w) X.A (f v u) Q X.xe d) X.xe e) X.xe s:=by
 refine AI (o Zb s Z H _ I h) λv g NR=>?_;obtain⟨x,H1,I1,j,l⟩:=NR;refine AI (n Zb g Z H1 _ I1 l) λu s2 c=>?_;obtain⟨y,H2,I2,i,k⟩:=c;exact m v u s2 x y H2 I2 j i k
theorem QU{C:Int->Int->Prop}{g:Int->Int->Int}
  (a:∀(i j:Int)(t u:Tok)(s:Shared)(Q:Value->Shared->Prop)(E:Value->Shared->Prop),C i j->Q (.int (g i j) s.toks) { s with toks:=s.toks+1 }->wpAny (model X.prog X.w) X.A (f (.int i t) (.int j u)) Q E s) :
  B6 X f (rI C λi j=>.int (g i j)):=by
 intro Zb s Z H x y v u Q I c b h;obtain⟨i,j,rfl,rfl,d,q⟩:=h;obtain⟨t,rfl⟩:=c;obtain⟨t',rfl⟩:=b;exact a i j t t' s _ _ d ⟨.int (g i j),H,I.tok _,⟨_,rfl⟩,q⟩
theorem ak{g:Int->Int->Int}
  (a:∀(i j:Int)(t u:Tok)(s:Shared)(Q:Value->Shared->Prop)(E:Value->Shared->Prop),Q (.int (g i j) s.toks) { s with toks:=s.toks+1 }->wpAny (model X.prog X.w) X.A (f (.int i t) (.int j u)) Q E s) :
  B6 X f (Fl λi j=>.int (g i j)):=by
 intro Zb s Z H x y v u Q I c b h;obtain⟨i,j,rfl,rfl,q⟩:=h;obtain⟨t,rfl⟩:=c;obtain⟨t',rfl⟩:=b;exact a i j t t' s _ _ ⟨.int (g i j),H,I.tok _,⟨_,rfl⟩,q⟩
theorem QZ{g:Int->Int->Bool}
  (a:∀(i j:Int)(t u:Tok)(s:Shared)(Q:Value->Shared->Prop)(E:Value->Shared->Prop),Q (.bool (g i j)) s->wpAny (model X.prog X.w) X.A (f (.int i t) (.int j u)) Q E s) :
  B6 X f (Fl λi j=>.bl (g i j)):=by
 intro Zb s Z H x y v u Q I c b h;obtain⟨i,j,rfl,rfl,q⟩:=h;obtain⟨t,rfl⟩:=c;obtain⟨t',rfl⟩:=b;exact a i j t t' s _ _ ⟨.bl (g i j),H,I,rfl,q⟩
def nE(i j:Int):Prop:=0<=j/\j<=1000000/\i.natAbs<2 ^ 64
theorem FI:B6 X (binaryOp .Add) (Fl λi j=>.int (i+j)):=ak λ_ _ _ _ _ _ _ q=>add_int q
theorem Gn:B6 X (binaryOp .Sub) (Fl λi j=>.int (i - j)):=ak λ_ _ _ _ _ _ _ q=>sub_int q
theorem Hw:B6 X (binaryOp .Mod) (rI (λ_ j=>0<j) λi j=>.int (i % j)):=QU λi j _ _ _ _ _ a q=>by
 have h1:(0:Int)<j:=a;exact mod_int' (by omega) (by rw[Int.fmod_eq_emod_of_nonneg i (by omega)];exact q)
theorem J1:B6 X (binaryOp .Pow) (rI nE λi j=>.int (i ^ j.toNat)):=QU λ_ _ _ _ _ _ _ a q=>pow_int_small a.1 a.2.1 a.2.2 q
theorem xy{f:Value->Sem Value}{g:Int->Int}
  (a:∀(i:Int)(t:Tok)(s:Shared)(Q:Value->Shared->Prop)(E:Value->Shared->Prop),Q (.int (g i) s.toks) { s with toks:=s.toks+1 }->wpAny (model X.prog X.w) X.A (f (.int i t)) Q E s) :
  RQ X f (rU λi=>.int (g i)):=by
 intro Zb s Z H x v Q I b h;obtain⟨i,rfl,q⟩:=h;obtain⟨t,rfl⟩:=b;exact a i t s _ _ ⟨.int (g i),H,I.tok _,⟨_,rfl⟩,q⟩
theorem QF:RQ X (unaryOp .USub) (rU λi=>.int (-i)):=xy λ_ _ _ _ _ q=>neg_int q
end
noncomputable def VF:V->V->Bool
 | .A9,.A9=>true | .A9,.int _=>true | .int _,.A9=>true | .A9,.bl _=>true | .bl _,.A9=>true | .A9,.str _=>true | .str _,.A9=>true
 | .int _,.int _=>true | .bl _,.bl _=>true | .str _,.str _=>true | .G3 _,.G3 _=>true
 | .int _,.str _=>true | .str _,.int _=>true | .bl _,.str _=>true | .str _,.bl _=>true
 |_,_=>false
def eV:R2:=λx y H Q=>VF x y=true/\Q (.bl (decide (x=y))) H
def gU:R2:=λx y H Q=>VF x y=true/\Q (.bl (!decide (x=y))) H
theorem Ze{i j:Int}:decide (V.int i=V.int j)=(i == j):=by
 rw[MW];simp
theorem c6{i j:Bool}:decide (V.bl i=V.bl j)=(i == j):=by
 rw[MW];simp
theorem Y5{i j:Str}:decide (V.str i=V.str j)=(i == j):=by
 rw[MW];simp
theorem c5{i j:Array UInt8}:decide (V.G3 i=V.G3 j)=(i.toList == j.toList):=by
 rw[MW];cases i;cases j;simp
section
variable{a b c:Expr}
theorem Bl{Q:VK}{k a:Bool}(I:Inv X Zb Z H s)(q:Q (.bl k) H)(e:k=a):EP X Zb Z Q (.bool a) s:=by
 subst e;exact⟨.bl k,H,I,rfl,q⟩
theorem Cc:B6 X (compareOp .Eq) eV:=by
 intro Zb s Z H x y v u Q I c a h;obtain⟨b,q⟩:=h;cases x with
 |A9=>
  cases c;cases y with
  |A9=>cases a;exact PySem.EqNone.eq_none_none (Bl I q (by simp))
  |bl j=>cases a;exact PySem.EqNone.eq_none_bool (Bl I q (by simp))
  |int j=>obtain⟨t',rfl⟩:=a;exact PySem.EqNone.eq_none_int (Bl I q (by simp))
  |str j=>obtain⟨t',rfl⟩:=a;exact PySem.EqNone.eq_none_str (Bl I q (by simp))
  |_=>exact absurd (show false=true from b) Co
 |bl i=>
  cases c;cases y with
  |A9=>cases a;exact PySem.EqNone.eq_bool_none (Bl I q (by simp))
  |bl j=>cases a;exact eq_bool (Bl I q c6)
  |str j=>obtain⟨t',rfl⟩:=a;exact PySem.EqMixed.eq_bool_str (Bl I q (by simp))
  |_=>exact absurd (show false=true from b) Co
 |int i=>
  obtain⟨t,rfl⟩:=c;cases y with
  |A9=>cases a;exact PySem.EqNone.eq_int_none (Bl I q (by simp))
  |int j=>obtain⟨t',rfl⟩:=a;exact eq_int (Bl I q Ze)
  |str j=>obtain⟨t',rfl⟩:=a;exact PySem.EqMixed.eq_int_str (Bl I q (by simp))
  |_=>exact absurd (show false=true from b) Co
 |str i=>
  obtain⟨t,rfl⟩:=c;cases y with
  |A9=>cases a;exact PySem.EqNone.eq_str_none (Bl I q (by simp))
  |bl j=>cases a;exact PySem.EqMixed.eq_str_bool (Bl I q (by simp))
  |int j=>obtain⟨t',rfl⟩:=a;exact PySem.EqMixed.eq_str_int (Bl I q (by simp))
  |str j=>obtain⟨t',rfl⟩:=a;exact eq_str (Bl I q Y5)
  |_=>exact absurd (show false=true from b) Co
 |G3 i=>
  obtain⟨t,rfl⟩:=c;cases y with
  |G3 j=>obtain⟨t',rfl⟩:=a;exact PySem.W.eq_bytes (Bl I q c5)
  |_=>exact absurd (show false=true from b) Co
 |_=>cases y <;> exact absurd (show false=true from b) Co
theorem wI:B6 X (compareOp .NotEq) gU:=by
 intro Zb s Z H x y v u Q I c a h;obtain⟨b,q⟩:=h;cases x with
 |A9=>
  cases c;cases y with
  |A9=>cases a;exact PySem.EqNone.ne_none_none (Bl I q (by simp))
  |bl j=>cases a;exact PySem.EqNone.ne_none_bool (Bl I q (by simp))
  |int j=>obtain⟨t',rfl⟩:=a;exact PySem.EqNone.ne_none_int (Bl I q (by simp))
  |str j=>obtain⟨t',rfl⟩:=a;exact PySem.EqNone.ne_none_str (Bl I q (by simp))
  |_=>exact absurd (show false=true from b) Co
 |bl i=>
  cases c;cases y with
  |A9=>cases a;exact PySem.EqNone.ne_bool_none (Bl I q (by simp))
  |bl j=>cases a;exact ne_bool (Bl I q (k9 not c6))
  |str j=>obtain⟨t',rfl⟩:=a;exact PySem.EqMixed.ne_bool_str (Bl I q (by simp))
  |_=>exact absurd (show false=true from b) Co
 |int i=>
  obtain⟨t,rfl⟩:=c;cases y with
  |A9=>cases a;exact PySem.EqNone.ne_int_none (Bl I q (by simp))
  |int j=>obtain⟨t',rfl⟩:=a;exact ne_int (Bl I q (k9 not Ze))
  |str j=>obtain⟨t',rfl⟩:=a;exact PySem.EqMixed.ne_int_str (Bl I q (by simp))
  |_=>exact absurd (show false=true from b) Co
 |str i=>
  obtain⟨t,rfl⟩:=c;cases y with
  |A9=>cases a;exact PySem.EqNone.ne_str_none (Bl I q (by simp))
  |bl j=>cases a;exact PySem.EqMixed.ne_str_bool (Bl I q (by simp))
  |int j=>obtain⟨t',rfl⟩:=a;exact PySem.EqMixed.ne_str_int (Bl I q (by simp))
  |str j=>obtain⟨t',rfl⟩:=a;exact ne_str (Bl I q (k9 not Y5))
  |_=>exact absurd (show false=true from b) Co
 |G3 i=>
  obtain⟨t,rfl⟩:=c;cases y with
  |G3 j=>obtain⟨t',rfl⟩:=a;exact PySem.W.ne_bytes (Bl I q (k9 not c5))
  |_=>exact absurd (show false=true from b) Co
 |_=>cases y <;> exact absurd (show false=true from b) Co
theorem MC:B6 X (compareOp .Lt) (Fl λi j=>.bl (decide (i<j))):=QZ λ_ _ _ _ _ _ _ q=>lt_int q
theorem ON:B6 X (compareOp .LtE) (Fl λi j=>.bl (decide (i<=j))):=QZ λ_ _ _ _ _ _ _ q=>le_int q
theorem O2:B6 X (compareOp .Gt) (Fl λi j=>.bl (decide (j<i))):=QZ λ_ _ _ _ _ _ _ q=>gt_int q
theorem aM:B6 X (compareOp .GtE) (Fl λi j=>.bl (decide (j<=i))):=QZ λ_ _ _ _ _ _ _ q=>ge_int q
theorem ZAJ:B6 X (compareOp .In) (λx y H Q=>∃i j,x=.str i/\y=.str j/\Q (.bl (!(Builtin.Str.occurrences j i 0 j.length 1).isEmpty)) H):=by
 intro Zb s Z H x y v u Q I b a h;obtain⟨i,j,rfl,rfl,q⟩:=h;obtain⟨t,rfl⟩:=b;obtain⟨t',rfl⟩:=a;exact in_str (Bl I q rfl)
theorem iZ:B6 X (compareOp .Is) (λx y H Q=>y=.A9/\Q (.bl (decide (x=.A9))) H):=by
 intro Zb s Z H x y v u Q I a b h;obtain⟨rfl,q⟩:=h;cases b;refine is_none_gen (Bl I q ?_);cases x <;> first
  | (cases a;rfl)
  | (obtain⟨t,rfl⟩:=a;rfl)
theorem Qi:B6 X (compareOp .IsNot) (λx y H Q=>y=.A9/\Q (.bl (!decide (x=.A9))) H):=by
 intro Zb s Z H x y v u Q I a b h;obtain⟨rfl,q⟩:=h;cases b;refine isnot_none_gen (Bl I q ?_);cases x <;> first
  | (cases a;rfl)
  | (obtain⟨t,rfl⟩:=a;rfl)
theorem ao(b:Expr)(h:op≠.In:=by decide)(h2:op≠.NotIn:=by decide):behindInMarks op b=false:=by
 have c:(op == CmpOp.In)=false:=by cases op <;> first|rfl|exact absurd rfl h
 have a:(op == CmpOp.NotIn)=false:=by cases op <;> first|rfl|exact absurd rfl h2
 cases b <;> simp[behindInMarks,c,a]
def Km(t:TE):TT:=λZ H Q=>t Z H λx H'=>∃k,x=.bl k/\Q k H'
theorem jl{r:R2}(ho:B6 X (compareOp op) r)(p:PE X a ta)(o:PE X b tb)(n:behindInMarks op b=false):PT X (.Compare a [op] [b] pos) (Km (BU r ta tb)):=by
 intro Zb s Z H Q I h;refine wpAny_isTrue_Compare1 (AI (p Zb s Z H _ I h) λv d⟨x,H1,I1,i,m⟩=>AI (o Zb d Z H1 _ I1 m) λu s2⟨y,H2,I2,g,l⟩=>
  AI (ho Zb s2 Z H2 x y v u _ I2 i g l) λc q⟨z,H3,I3,f,k,e,j⟩=>?_) n
 subst e;cases f;exact kH ⟨H3,I3,j⟩
def Ov(r b:R2)(ta tb tc:TE):TE:=λZ H Q=>ta Z H λx H1=>tb Z H1 λy H2=>r x y H2 λz H3=>∃k,z=.bl k/\
 (if k=true then tc Z H3 λa H4=>b y a H4 Q else Q (.bl false) H3)
theorem J6:(sizeLine:Nat)<2 ^ 63:=by rw[sizeLine_eq];decide
theorem cY:B6 X (binaryOp .Add) (λx y H Q=>∃i j,x=.str i/\y=.str j/\i.length+j.length<=sizeLine/\Q (.str (i++j)) H):=by
 intro Zb s Z H x y v u Q I b a h;obtain⟨i,j,rfl,rfl,c,q⟩:=h;obtain⟨t,rfl⟩:=b;obtain⟨t',rfl⟩:=a;exact add_str (λt' tk=>⟨.str (i++j),H,I.tok _,⟨_,rfl⟩,q⟩) c
theorem vals1{x:V}(r:Vals [x] us):∃u,us=[u]/\RelV x u:=by
 cases r with
 |cons b a=>cases a;exact⟨_,rfl,b⟩
theorem vals2{x:V}(r:Vals [x,y] us):∃u a,us=[u,a]/\RelV x u/\RelV y a:=by
 cases r with
 |cons e d=>
  cases d with
  |cons c b=>cases b;exact⟨_,_,rfl,e,c⟩
theorem Vw(b:X.calm=true):CZ X (.builtin "max") (λxs H Q=>∃i j,xs=[.int i,.int j]/\Q (.int (if j > i then j else i)) H):=by
 intro Zb s Z H xs us Q I r h;obtain⟨i,j,rfl,q⟩:=h;obtain⟨u,c,rfl,⟨t,rfl⟩,⟨t',rfl⟩⟩:=vals2 r;refine max_two_ints (I.ok.hd b) λh' tk k=>⟨_,H,I.kept k,?_,q⟩
 by_cases a:j > i
 .rw[ir a,ir a];exact⟨_,rfl⟩
 .rw[ib a,ib a];exact⟨_,rfl⟩
theorem wq(b:X.calm=true):CZ X (.builtin "min") (λxs H Q=>∃i j,xs=[.int i,.int j]/\Q (.int (if j<i then j else i)) H):=by
 intro Zb s Z H xs us Q I r h;obtain⟨i,j,rfl,q⟩:=h;obtain⟨u,c,rfl,⟨t,rfl⟩,⟨t',rfl⟩⟩:=vals2 r;refine min_two_ints (I.ok.hd b) λh' tk k=>⟨_,H,I.kept k,?_,q⟩
 by_cases a:j<i
 .rw[ir a,ir a];exact⟨_,rfl⟩
 .rw[ib a,ib a];exact⟨_,rfl⟩
end
structure K0 (h:Heap) (x dx C:Addr) (mA:ZBe):Prop where
 obj:h.get? x=some (PySem.W.instObj C dx)
 ns:h.Ns1 dx mA
 ne:dx≠x
theorem wb(n:h.Ns1 dx mA):∃od,h.get? dx=some od/\∀name,PySem.W.lookIn name od=some (mA name):=by
 obtain⟨o,es,g,ho,hd,hk,_,d⟩:=n;refine⟨o,ho,λname=>?_⟩;have e:=d name;unfold nsFind findBy at e;rw[<- ZAQ]at e;unfold PySem.W.lookIn;rw[hd];dsimp only;split
 .rename_i y q;rw[q]at e;exact k9 some e
 .rename_i q;rw[q]at e;have a:es.toList.any (·.refKey)=false:=by
   rw[ZAX];intro y c;obtain⟨z,t,b⟩:=hk y (Array.mem_toList_iff.mp c);simp[DictEntry.refKey,b]
  have f:¬ es.toList.any (·.refKey)=true:=by rw[a];exact Co
  rw[ib f];exact k9 some e
theorem K0.look{x:Addr}(I:K0 h x dx C mA):∃od,PySem.W.InstAt h x (PySem.W.instObj C dx) C (some od)/\∀name,PySem.W.lookIn name od=some (mA name):=
 let ⟨od,ho,hl⟩:=wb I.ns
 ⟨od,⟨I.obj,rfl,rfl,ho⟩,hl⟩
section
variable{K:ZBc}{x f:Addr}{v:Value}
theorem get_map{expr:Bool}(X:K.In s.heap)(I:K0 s.heap x dx C mA)(c:PySem.W.plainGet K C name=true)(hh:PySem.W.hasDictIn K C=true)
  (d:PySem.W.findIn K (.ref C) name=some none) (a:mA name=some v) (KW:PySem.W.handedIn v=true) (h:Q v { s with toks:=s.toks+1 }) :
  wpAny (model prog w) A (getAttr (.ref x) name expr) Q E s:=by
 obtain⟨od,J,b⟩:=I.look;exact PySem.W.get_value X J (iF c).1 (PySem.W.findObj_own hh d rfl (by rw[b,a])) KW h
theorem k4{Q:Value×List Value->Shared->Prop}(X:K.In s.heap)(I:K0 s.heap x dx C mA)(a:PySem.W.plainGet K C name=true)
  (e:PySem.W.findIn K (.ref C) name=some (some (.ref f))) (c:PySem.W.isFn K (.ref f)=true) (b:mA name=none) (h:Q (.ref f,[.ref x]) s) :
  wpAny (model prog w) A (getMethod (.ref x) name pl) Q E s:=by
 obtain⟨od,J,d⟩:=I.look;exact PySem.W.method_fn X J (iF a).1 (iF a).2 e (beq_iff_eq.mp c) (by show(PySem.W.lookIn name od).map (·.isSome)=some false;rw[d,b];rfl) h
theorem u7{Q:Unit->Shared->Prop}(X:K.In s.heap)(I:K0 s.heap x dx C mA)
  (f:PySem.W.findIn K (.ref C) "__setattr__"=some (some (.builtin "object.__setattr__"))) (g:PySem.W.plainOver K C=true) (e:PySem.W.takerIn K C name=some none) (hh:PySem.W.hasDictIn K C=true)
  (hw:PySem.Within mA ns) (hsz:ns.length<=sizeLine)
  (h:∀h',K0 h' x dx C (λy=>if y=name then some v else mA y)->Heap.SameBut dx s.heap h'->Q () { s with heap:=h',toks:=s.toks+2 }) :
  wpAny (model prog w) A (setAttr (.ref x) name v) Q E s:=by
 obtain⟨od,J,m⟩:=I.look;refine PySem.W.set_plain X J f (PySem.W.osa_open (s:={ s with toks:=s.toks+1 }) (r:=none) X J g e λb=>?_)
 obtain⟨cd,i,XQ⟩:=PySem.W.any_some hh;have hx:s.heap.get? x=some ⟨.ref C,some dx,.plain,#[]⟩:=I.obj;refine iM (jP (iM (iM (wpAny_loadPart hx (iM (PySem.W.Looks.here (s:={ s with toks:=s.toks+1 }) (PySem.W.looks_clsIn X i) ?_))))))
 rw[XQ];refine jP (a:=some dx) (iM (jP (iM ?_)));refine wpAny_nsSet1 (s:={ s with toks:=s.toks+1 }) I.ns λh' FQ CI=>?_
 obtain⟨l,j,k,c,d,IW⟩:=FQ.count (PySem.Within.cons name v hw);refine iM (wpAny_lookBehind c (by rw[d];exact pastItsLine_dict (CU IW (by rw[CG];omega))) ?_);exact jP (h _ ⟨(CI.2 _ (B5 I.ne)).trans I.obj,FQ,I.ne⟩ CI)
theorem mB{R:Result->Shared->Prop}{vs:List Value}(X:K.In s.heap)(a:PySem.W.makesIn K C=true)
  (hi:PySem.W.findIn K (.ref C) "__init__"=some (some (.ref f))) (b:PySem.W.typeIn K (.ref f)=some (.type "function"))
  (h:codeAny (model prog w) (A.under (.builtin "type.__call__" ⟨.ref C::vs,kw⟩)) (.call (.ref f) ⟨.ref (s.heap.objs.size+1)::vs,kw⟩) (PySem.W.InitBack (s.heap.objs.size+1) R)
   { s with heap:=(s.heap.push PySem.W.emptyDict).push (PySem.W.instObj C s.heap.objs.size) }) :
  codeAny (model prog w) A (.call (.ref C) ⟨vs,kw⟩) R s:=by
 obtain⟨hh,g,d,t,os⟩:=s;exact PySem.W.make_core (PySem.W.makes_of X a) (iE X hi) (λself=>PySem.W.bind_fn X self b) (.inl rfl) h
end
noncomputable def DI(f:Str)(v:V):List (Str×V)->List (Str×V)
 | []=>[(f,v)]
 | (g,x)::r=>if g=f then(g,v)::r else(g,x)::DI f v r
theorem Z0(f g:Str)(v:V):∀fs:List (Str×V),(DI f v fs).lookup g=if g=f then some v else fs.lookup g
 | []=>by
  show List.lookup g [(f,v)]=_
  by_cases h:g=f
  .have a:(g == f)=true:=beq_iff_eq.mpr h;simp only[List.lookup,a,ir h]
  .have a:(g == f)=false:=beq_eq_false_iff_ne.mpr h;simp only[List.lookup,a,ib h]
 | (k,x)::r=>by
  have b:=Z0 f g v r;rw[show DI f v ((k,x)::r)=(if k=f then(k,v)::r else(k,x)::DI f v r)from rfl]
  by_cases hk:k=f
  .rw[ir hk]
   by_cases h:g=k
   .have a:(g == k)=true:=beq_iff_eq.mpr h;simp only[List.lookup,a,ir (h.trans hk)]
   .have a:(g == k)=false:=beq_eq_false_iff_ne.mpr h;simp only[List.lookup,a,ib (λe:g=f=>h (e.trans hk.symm))]
  .rw[ib hk]
   by_cases h:g=k
   .have a:(g == k)=true:=beq_iff_eq.mpr h;simp only[List.lookup,a,ib (λe:g=f=>hk (h.symm.trans e))]
   .have a:(g == k)=false:=beq_eq_false_iff_ne.mpr h;simp only[List.lookup,a];exact b
theorem WX(f:Str)(v:V):∀fs:List (Str×V),f∈(DI f v fs).map (·.1)/\∀g,g∈fs.map (·.1)->g∈(DI f v fs).map (·.1)
 | []=>⟨by simp[DI],λg h=>by simp at h⟩
 | (k,x)::r=>by
  obtain⟨i1,i2⟩:=WX f v r;rw[show DI f v ((k,x)::r)=(if k=f then(k,v)::r else(k,x)::DI f v r)from rfl]
  by_cases hk:k=f
  .rw[ir hk];subst hk;exact⟨by simp,λg h=>by simpa using h⟩
  .rw[ib hk];refine⟨?_,λg h=>?_⟩
   .rw[Aq];exact DV _ i1
   .rw[Aq]at h ⊢;rcases List.mem_cons.mp h with e|e
    .exact List.mem_cons.mpr (.inl e)
    .exact DV _ (i2 g e)
theorem bu(f:Str)(v:V):∀fs:List (Str×V),(DI f v fs).length<=fs.length+1
 | []=>by simp[DI]
 | (k,x)::r=>by
  have a:=bu f v r;rw[show DI f v ((k,x)::r)=(if k=f then(k,v)::r else(k,x)::DI f v r)from rfl]
  by_cases hk:k=f
  .rw[ir hk,CG,CG];omega
  .rw[ib hk,CG,CG];omega
theorem EM.some_of{o:Option Value}(r:EM (some v) o):∃u,o=some u/\RelV v u:=by
 cases o with
 |none=>exact(show False from r).elim
 |some u=>exact⟨u,rfl,r⟩
theorem EM.none_of{o:Option Value}(r:EM none o):o=none:=by
 cases o with
 |none=>rfl
 |some u=>exact(show False from r).elim
theorem uZ(r:RelV v u):PySem.W.handedIn u=true:=by
 cases v with
 |A9=>cases(show u=Value.none from r);rfl
 |bl b=>cases(show u=Value.bool b from r);rfl
 |int i=>obtain⟨t,e⟩:=(show ∃t,u=Value.int i t from r);cases e;rfl
 |str x=>obtain⟨t,e⟩:=(show ∃t,u=Value.str x t from r);cases e;rfl
 |G3 b=>obtain⟨t,e⟩:=(show ∃t,u=Value.bytes b t from r);cases e;rfl
 |JO b=>obtain⟨t,e⟩:=(show ∃t,u=Value.float b t from r);cases e;rfl
 |ref a=>cases(show u=Value.ref a from r);rfl
 |ty n=>cases(show u=Value.type n from r);rfl
section
variable{P:Program}{fs jR:List (Str×V)}
theorem Ph(AF:BW P w H h)(e:H a=some (.ins C dx fs)):∃mA,K0 h a dx C mA/\(∀f,EM (fs.lookup f) (mA f))/\PySem.Within mA (fs.map (·.1))/\fs.length<=1000/\H dx=some (.own a):=by
 obtain⟨d,z,ne,ob,mA,n,r,q⟩:=(show Bu P w H h a (.ins C dx fs)from AF a _ e);exact⟨mA,⟨ob,n,ne⟩,r,q,z,d⟩
end
structure Dh (K:ZBc) (C:Addr):Prop where
 pg:PySem.W.plainGet K C Str.empty=true
 hd:PySem.W.hasDictIn K C=true
 po:PySem.W.plainOver K C=true
 sa:PySem.W.findIn K (.ref C) "__setattr__"=some (some (.builtin "object.__setattr__"))
theorem Dh.get{K:ZBc}{C:Addr}(c:Dh K C)(f:Str):PySem.W.plainGet K C f=true:=c.pg
def Fe(K:ZBc)(C:Addr)(f:Str):Prop:=PySem.W.findIn K (.ref C) f=some none
theorem Fe.uO{K:ZBc}{f:Str}(n:Fe K C f):PySem.W.takerIn K C f=some none:=by
 unfold PySem.W.takerIn;rw[show PySem.W.findIn K (.ref C) f=some none from n];rfl
structure JE (K:ZBc) (C:Addr) (f:Str) (v:V) (u:Value):Prop where
 at_:PySem.W.findIn K (.ref C) f=some (some u)
 rel:RelV v u
 get:PySem.W.specialIn K u "__get__"=some none
 cp:PySem.W.copiedNames.contains f=false
structure Meth (K:ZBc) (C:Addr) (m:Str) (f:Addr):Prop where
 at_:PySem.W.findIn K (.ref C) m=some (some (.ref f))
 fn:PySem.W.isFn K (.ref f)=true
 kp:PySem.W.keepIn K (.ref f)=true
section
variable{fs:List (Str×V)}{f:Str}
theorem rO{b:Bool}(I:Inv X Zb Z H s)(e:H a=some (.ins C dx fs))(c:Dh X.K C)(n:Fe X.K C f)(l:fs.lookup f=some v)
  (h:∀u s',Inv X Zb Z H s'->RelV v u->Q u s'):wpAny (model X.prog X.w) A (getAttr (.ref a) f b) Q E s:=by
 obtain⟨mA,O,r,_,_,_⟩:=Ph I.AF e;obtain⟨u,g,d⟩:=EM.some_of (v:=v) (o:=mA f) (by rw[<- l];exact r f);exact get_map I.C5 O (c.get f) c.hd n g (uZ d) (h u _ (I.tok _) d)
theorem Yv{g:Addr}{Q:Value×List Value->Shared->Prop}(I:Inv X Zb Z H s)(e:H a=some (.ins C dx fs))(c:Dh X.K C)(k:Meth X.K C m g)(l:fs.lookup m=none)
  (h:Q (.ref g,[.ref a]) s):wpAny (model X.prog X.w) A (getMethod (.ref a) m pl) Q E s:=by
 obtain⟨mA,O,r,_,_,_⟩:=Ph I.AF e;have b:mA m=none:=EM.none_of (by rw[<- l];exact r m);exact k4 I.C5 O (c.get m) k.at_ k.fn b h
theorem t7{Q:Unit->Shared->Prop}(I:Inv X Zb Z H s)(e:H a=some (.ins C dx fs))(c:Dh X.K C)(n:Fe X.K C f)(m:fs.length<1000)(i:RelV y u)
  (h:∀s',Inv X Zb Z (upd H a (.ins C dx (DI f y fs))) s'->Q () s'):wpAny (model X.prog X.w) A (setAttr (.ref a) f u) Q E s:=by
 obtain⟨mA,O,r,wi,_,ho⟩:=Ph I.AF e;have j:(fs.map (·.1)).length<=sizeLine:=by rw[AA,sizeLine_eq];omega
 refine u7 I.C5 O c.sa c.po n.uO c.hd wi j λh' O' d=>h _ ?_;have hd:∃o,h'.get? dx=some o:=let ⟨o,_,_,e',_⟩:=O'.ns;⟨o,e'⟩;refine I.write (x:=a) (e:=dx) (by rw[e];exact True.intro) (.inr ho) (λb q l z=>(d.2 b l).trans z) hd ?_;refine⟨by rw[AS O.ne];exact ho,?_,O.ne,O'.obj,_,O'.ns,λg=>?_,λg k=>?_⟩
 .have:=bu f y fs;omega
 .show EM ((DI f y fs).lookup g) (if g=f then some u else mA g)
  rw[Z0]
  by_cases q:g=f
  .rw[ir q,ir q];exact i
  .rw[ib q,ib q];exact r g
 .by_cases q:g=f
  .rw[q];exact(WX f y fs).1
  .refine(WX f y fs).2 g (wi g λz=>k ?_);show(if g=f then some u else mA g)=none
   rw[ib q];exact z
theorem Inv.made(I:Inv X Zb Z H s):Inv X Zb Z (upd (upd H s.heap.objs.size (.own (s.heap.objs.size+1))) (s.heap.objs.size+1) (.ins C s.heap.objs.size []))
  { s with heap:=(s.heap.push PySem.W.emptyDict).push (PySem.W.instObj C s.heap.objs.size) }:=by
 have c:(s.heap.push PySem.W.emptyDict).get? s.heap.objs.size=some PySem.W.emptyDict:=D0 s.heap rfl;have h:((s.heap.push PySem.W.emptyDict).push (PySem.W.instObj C s.heap.objs.size)).get? (s.heap.objs.size+1)=some (PySem.W.instObj C s.heap.objs.size):=by
  have:=D0 (s.heap.push PySem.W.emptyDict) (o:=PySem.W.instObj C s.heap.objs.size) rfl
  rwa [Kw]at this
 have g:(s.heap.push PySem.W.emptyDict).Ns s.heap.objs.size (λ_=>none):=⟨PySem.W.emptyDict,#[],_,c,rfl,(λe f=>absurd f (by simp)),λ_=>rfl⟩;have i:=I.laid (a:=s.heap.objs.size) (o:=.own (s.heap.objs.size+1)) (h':=s.heap.push PySem.W.emptyDict) (t':=s.toks) (λb u q=>Bz _ q) (Ae _) ⟨_,c⟩;refine i.laid (a:=s.heap.objs.size+1) (o:=.ins C s.heap.objs.size []) (t':=s.toks) (λb u q=>Bz _ q) (i7 (Kw _ _)) ?_;have ne:s.heap.objs.size≠s.heap.objs.size+1:=CV (i9 _);refine⟨by rw[AS ne,Al],CA _,ne,h,λ_=>none,(Heap.Ns1.of_empty g).at λo q=>Bz _ q,λ_=>True.intro,λy d=>absurd rfl d⟩
theorem o8{env:Env}(b:attributeBase e f env (eval e env)=eval e env)
  (h:wpAny (model prog w) A (eval e env) (λo a=>wpAny (model prog w) A (getAttr o f true) Q E a) E s):wpAny (model prog w) A (eval (.Attribute e f pos) env) Q E s:=
 Attribute_any_ h (by rw[arm_eval_Attribute,b])
end
def Qs(K:ZBc)(ta:TE)(f:Str):TE:=λZ H Q=>ta Z H λx H1=>∃a C dx fs v,x=.ref a/\H1 a=some (.ins C dx fs)/\Dh K C/\Fe K C f/\fs.lookup f=some v/\Q v H1
def T6(K:ZBc)(ta tv:TE)(f:Str):TS:=λD Z H=>tv Z H λy H1=>ta Z H1 λx H2=>∃a C dx fs,x=.ref a/\H2 a=some (.ins C dx fs)/\Dh K C/\Fe K C f/\fs.length<1000/\
 D.nx Z (upd H2 a (.ins C dx (DI f y fs)))
section
variable{o value:Expr}{f:Str}{pos' TN:Pos}{tv:TE}
variable{b:Bool}
inductive EL (K:ZBc) (H:Hp):V->Value->Prop where
 |A9:EL K H .A9 (.type "NoneType")
 |bl (x:Bool):EL K H (.bl x) (.type "bool")
 |int (i:Int):EL K H (.int i) (.type "int")
 |str (x:Str):EL K H (.str x) (.type "str")
 |JO (x:UInt64):EL K H (.JO x) (.type "float")
 |lst {a:Addr}{xs:List V}(e:H a=some (.lst xs)):EL K H (.ref a) (.type "list")
 |Du {a:Addr}{o:Obj}{xs:List V}(e:H a=some (.Du o (.lst xs))):EL K H (.ref a) (.type "list")
 |tup {a:Addr}{xs:List V}(e:H a=some (.tup xs)):EL K H (.ref a) (.type "tuple")
 |dK {a:Addr}{A5:List (Key×V)}(e:H a=some (.dK A5)):EL K H (.ref a) (.type "dict")
 |dT {a:Addr}{A5:List (List Key×V)}(e:H a=some (.dT A5)):EL K H (.ref a) (.type "dict")
 |ins {a C dx:Addr}{fs:List (Str×V)}(e:H a=some (.ins C dx fs)) (cl:Dh K C) (ha:PySem.W.findIn K (.ref C) "__class__"=some (some (.builtin "object.__class__")))
   (hn:PySem.W.specialIn K (.builtin "object.__class__") "__get__"=some (some (.builtin "getset_descriptor.__get__"))) (Io:PySem.W.takesIn K (.builtin "object.__class__")=some true)
   (hm:PySem.W.mroIn K C (.type "object")=some true):EL K H (.ref a) (.ref C)
theorem ZC{x:V}{t:Value}(I:Inv X Zb Z H s)(d:RelV x u)(ty:EL X.K H x t)(e:PySem.W.kitOne X.K t c=some b)(h:∀tk,Q (.bool b) { s with toks:=tk }):
  wpAny (model X.prog X.w) A (call (.builtin "isinstance") [u,c]) Q E s:=by
 cases ty with
 |A9=>cases(show u=Value.none from d);exact Gs PySem.W.kitx_none I.C5 True.intro e (λz=>nomatch z) h
 |bl y=>cases(show u=Value.bool y from d);exact Gs PySem.W.kitx_bool I.C5 True.intro e (λz=>nomatch z) h
 |int i=>obtain⟨t,q⟩:=(show ∃t,u=Value.int i t from d);cases q;exact Gs PySem.W.kitx_int I.C5 True.intro e (λz=>nomatch z) h
 |str y=>obtain⟨t,q⟩:=(show ∃t,u=Value.str y t from d);cases q;exact Gs PySem.W.kitx_str I.C5 True.intro e (λz=>nomatch z) h
 |JO y=>obtain⟨t,q⟩:=(show ∃t,u=Value.float y t from d);cases q;exact Gs PySem.W.kitx_float I.C5 True.intro e (λz=>nomatch z) h
 |@lst a xs ea=>
  cases(show u=Value.ref a from d);obtain⟨_,_,n,_,h1⟩:=(show Bu X.prog X.w H s.heap a (.lst xs)from I.AF a _ ea);exact Gs ZB1 I.C5 ⟨_,h1,rfl⟩ e (λz=>nomatch z) h
 |@Du a ob xs ea=>
  cases(show u=Value.ref a from d);obtain⟨_,_,_,n,_,h1⟩:=(show Bu X.prog X.w H s.heap a (.Du ob (.lst xs))from I.AF a _ ea);exact Gs ZB1 I.C5 ⟨_,h1,rfl⟩ e (λz=>nomatch z) h
 |@tup a xs ea=>
  cases(show u=Value.ref a from d);obtain⟨_,_,_,p⟩:=(show Bu X.prog X.w H s.heap a (.tup xs)from I.AF a _ ea);obtain⟨o,h1,h2,_⟩:=p.1;exact Gs PySem.W.kitx_tuple I.C5 ⟨o,h1,h2⟩ e (λz=>nomatch z) h
 |@dK a A5 ea=>
  cases(show u=Value.ref a from d);obtain⟨_,_,vs,_,p⟩:=(show Bu X.prog X.w H s.heap a (.dK A5)from I.AF a _ ea);obtain⟨o,es,k,h1,h2,_⟩:=p;exact Gs ZB0 I.C5 ⟨o,h1,h2.1⟩ e (λz=>nomatch z) h
 |@dT a A5 ea=>
  cases(show u=Value.ref a from d);obtain⟨_,_,xs,_,o,es,k,h1,h2,_⟩:=(show Bu X.prog X.w H s.heap a (.dT A5)from I.AF a _ ea);exact Gs ZB0 I.C5 ⟨o,h1,h2.1⟩ e (λz=>nomatch z) h
 |@ins a C dx fs ea cl j f Io g=>
  cases(show u=Value.ref a from d);obtain⟨mA,O,_⟩:=Ph I.AF ea;obtain⟨od,J,_⟩:=O.look;exact Gs (PySem.W.kitx_own (cl.get _) cl.hd j f Io g) I.C5 J e (λz=>nomatch z) h
end
structure BR (k:Nat) (A:Around):Prop where
 hd:A.handled=none
 dp:A.depth+3 * k+5<recursionLimit
 un:A.units+16 * k+200<cLine
theorem BR.mono{k:Nat}(r:BR k A)(h:j<=k):BR j A:=⟨r.hd,by have:=r.dp;omega,by have:=r.un;omega⟩
theorem BR.deeper{k:Nat}(r:BR (k+1) A)(env:Env):BR k (A.deeper env):=
 ⟨r.hd,by have:=r.dp;show A.depth+1+3 * k+5<_;omega,by have:=r.un;show A.units+3+16 * k+200<_;omega⟩
theorem vy:(A.under (.builtin "type.__call__" ⟨.ref C::us,kw⟩)).depth=A.depth+1:=by
 first|rfl|simp[Around.under,Code.weight,Code.isCreation,Code.isGuard,Code.isCaller,Code.frames,Code.isFrame,guardIds]
theorem z4:(A.under (.builtin "type.__call__" ⟨.ref C::us,kw⟩)).units=A.units+1:=by
 first|rfl|simp[Around.under,Code.cUnits,Code.frames,Code.isFrame]
theorem BR.make{k:Nat}(r:BR (k+1) A)(C:Addr)(us:List Value)(kw:List (Str×Value)):BR k (A.under (.builtin "type.__call__" ⟨.ref C::us,kw⟩)):=
 ⟨r.hd,by have:=r.dp;rw[vy];omega,by have:=r.un;rw[z4];omega⟩
theorem BR.depth{k:Nat}(r:BR k A):A.depth<recursionLimit:=by have:=r.dp;omega
theorem BR.units{k:Nat}(r:BR k A):A.units+64<cLine:=by have:=r.un;omega
theorem BR.P5{k:Nat}(r:BR k A):A.units<cLine:=by have:=r.un;omega
def B3:TA:=λ_ H Q=>Q [] H
def AU(ta:TE)(tr:TA):TA:=λZ H Q=>ta Z H λx H1=>tr Z H1 λxs H2=>Q (x::xs) H2
section
variable{t:TA}
theorem qe(j:PE X e te)(i:PA X es t)(g:starEach (e::es) X.env=(false,eval e X.env)::starEach es X.env:=by rfl):PA X (e::es) (AU te t):=by
 intro pos Zb s Z H Q I h;rw[g];show wpAny _ _ (spliced ((false,eval e X.env)::backTo pos (starEach es X.env))) _ _ s;refine Calls.spliced_cons (AI (j Zb s Z H _ I h) λu a NR=>?_);obtain⟨x,H1,I1,c,f⟩:=NR;exact AI (i pos Zb a Z H1 _ I1 f) λus s2 AD=>by obtain⟨xs,H2,I2,b,d⟩:=AD;exact⟨x::xs,H2,I2,.cons c b,d⟩
def RK(t:TA):TE:=λZ H Q=>t Z H λxs H1=>xs.length<=sizeLine/\∀p,H1 p=none->Q (.ref p) (upd H1 p (.tup xs))
def VY(t:TA):TE:=λZ H Q=>t Z H λxs H1=>xs.length<=sizeLine/\∀p,H1 p=none->Q (.ref p) (upd H1 p (.lst xs))
theorem wo{x1}(h:PA X es t):PE X (.Tuple es x1 pos) (RK t):=by
 intro Zb s Z H Q I d;refine wpAny_Tuple_spliced (AI (h pos Zb s Z H _ I d) λus a⟨xs,H1,I1,r,z,q⟩=>⟨by rw[<- r.length];exact z,?_⟩);have f:H1 a.heap.objs.size=none:=I1.AF.fresh (Ae _);refine⟨.ref a.heap.objs.size,upd H1 a.heap.objs.size (.tup xs),I1.laid (t':=a.toks) (λb u e=>Bz _ e) (Ae _) ?_,rfl,q _ f⟩;exact⟨z,us,r,⟨_,D0 _ rfl,rfl,_,rfl⟩,λg c=>by rw[D0 _ rfl]at c;cases c;rfl⟩
theorem zl(h:PA X es t):PE X (.List es pos) (VY t):=by
 intro Zb s Z H Q I c;refine wpAny_List_spliced (AI (h pos Zb s Z H _ I c) λus a⟨xs,H1,I1,r,z,q⟩=>⟨by rw[<- r.length];exact z,?_⟩);have d:H1 a.heap.objs.size=none:=I1.AF.fresh (Ae _);refine⟨.ref a.heap.objs.size,upd H1 a.heap.objs.size (.lst xs),I1.laid (t':=a.toks) (λb u e=>Bz _ e) (Ae _) ?_,rfl,q _ d⟩;exact⟨z,us,0,r,D0 _ rfl⟩
end
abbrev Sp:=List V->Hp->VK->XK->Prop
variable{sp:Sp}
abbrev FV:=List Env->Hp->Shared->XK->Value->Shared->Prop
variable{CX:FV}
structure Jz (P:Program) (w:World) (K:ZBc) (mg:ZBe) (Zj:Heap) (A:Around) (outer:List Env) (s:Shared) (H:Hp):Prop where
 frames:A.frames=some outer
 mod:Mod K mg Zj
 bs:∀b o,Zj.get? b=some o->s.heap.get? b=some o/\H b=none
 GA:Zj.objs.size<=s.heap.objs.size
 Ed:s.heap.FunFrames Zj outer
 HL:∀b∈CC outer,H b=none
 AF:BW P w H s.heap
 bare:AllBare s.gens
def CE(outer:List Env)(P:Program)(w:World)(H:Hp)(s:Shared)(Q:VK)(u:Value)(s':Shared):Prop:=
 ∃v H',s'.os=s.os/\AllBare s'.gens/\Un (CC outer) [] H H' s.heap s'.heap/\BW P w H' s'.heap/\RelV v u/\Q v H'
def CR(CX:FV)(outer:List Env)(P:Program)(w:World)(H:Hp)(s:Shared)(Q:VK)(E:XK)(r:Result)(s':Shared):Prop:=
 match r with
 | .ok (.ret u)=>CE outer P w H s Q u s'
 | .ok _=>False
 | .error e=>CX outer H s E e s'
structure CD (P:Program) (w:World) (K:ZBc) (mg:ZBe) (Zj:Heap) (CX:FV) (k:Nat) (f:Addr) (fd:FuncData) (ps:List Str) (sp:Sp):Prop where
 len:∀vs H Q E,sp vs H Q E->vs.length=ps.length
 run:∀(A:Around)(outer:List Env)(s:Shared)(H:Hp)(args:Args)(us:List Value)(vs:List V)(Q:VK)(E:XK),BR k A->Jz P w K mg Zj A outer s H->BindsTo s fd args (ps.zip us)->Vals vs us->sp vs H Q E->
  codeAny (model P w) A (.call (.ref f) args) (CR CX outer P w H s Q E) s
theorem CD.mono{P:Program}{K:ZBc}{k:Nat}{f:Addr}(F:CD P w K mg Zj CX j f fd ps sp)(h:j<=k):
  CD P w K mg Zj CX k f fd ps sp:=⟨F.len,λA outer s H args us vs Q E a=>F.run A outer s H args us vs Q E (a.mono h)⟩
theorem CD.imp{P:Program}{K:ZBc}{k:Nat}{f:Addr}{a:Sp}(F:CD P w K mg Zj CX k f fd ps sp)
  (h:∀vs H Q E,a vs H Q E->sp vs H Q E):CD P w K mg Zj CX k f fd ps a:=
 ⟨λvs H Q E q=>F.len vs H Q E (h _ _ _ _ q),λA outer s H args us vs Q E d e g b c=>F.run A outer s H args us vs Q E d e g b (h _ _ _ _ c)⟩
theorem Jz.make{P:Program}{K:ZBc}(e:Jz P w K mg Zj A outer s H)(C:Addr)(us:List Value)(kw:List (Str×Value)):
  Jz P w K mg Zj (A.under (.builtin "type.__call__" ⟨.ref C::us,kw⟩)) outer s H:=⟨by first|exact e.frames|(simpa[Around.under,Code.envs,Code.isFrame,pushEnvs]using e.frames),e.mod,e.bs,e.GA,e.Ed,e.HL,e.AF,e.bare⟩
theorem Inv.UI(I:Inv X Zb Z H s):Jz X.prog X.w X.K X.mg X.base X.A X.stack s H:=
 ⟨I.ok.frames,I.ok.mod,I.bs,CU I.ok.GA I.sz,I.stack,I.RS,I.AF,I.bare⟩
theorem Inv.after{Q:VK}(I:Inv X Zb Z H s)(h:CE X.stack X.prog X.w H s Q u s'):EP X Zb Z Q u s':=by
 obtain⟨v,H',os,bare,un,AF,r,q⟩:=h;obtain⟨hh,g,d,t,VX⟩:=s';obtain rfl:VX=s.os:=os;exact⟨v,H',I.call (h':=hh) (g':=g) (d':=d) (t':=t) (ch:=[]) un AF bare (λb z=>absurd z (by simp)),r,q⟩
def D6(sp:Sp)(D2:List V)(E:XK)(t:TA):TE:=λZ H Q=>t Z H λvs H1=>sp (vs++D2) H1 Q E
def OS(C:Addr)(m:Str)(sp:Sp)(D2:List V)(E:XK)(ta:TE)(t:TA):TE:=λZ H Q=>ta Z H λx H1=>∃a dx fs,x=.ref a/\H1 a=some (.ins C dx fs)/\fs.lookup m=none/\
 t Z H1 λvs H2=>sp (x::(vs++D2)) H2 Q E
def UJ(C:Addr)(sp:Sp)(D2:List V)(E:XK)(t:TA):TE:=λZ H Q=>t Z H λvs H1=>∀x dx,H1 x=none->H1 dx=none->dx≠x->
 sp (.ref x::(vs++D2)) (upd (upd H1 dx (.own x)) x (.ins C dx [])) (λv H2=>v=.A9/\Q (.ref x) H2) E
def Binds(K:ZBc)(fd:FuncData)(ps:List Str)(ds:List Value):Prop:=
 ∀(s:Shared)(us:List Value),K.In s.heap->(us++ds).length=ps.length->BindsTo s fd ⟨us,[]⟩ (ps.zip (us++ds))
theorem Binds.all{K:ZBc}(h:∀us:List Value,us.length=ps.length->bindArgs fd ⟨us,[]⟩=pure (ps.zip us)):Binds K fd ps []:=λs us _ a=>by
 rw[ER]at a ⊢;exact .of_eq (h us a)
def Passes(CX:FV)(X:Cx)(E:XK):Prop:=∀(Zb:ZBd)(Z:St)(H:Hp)(s:Shared)(e:Value)(s':Shared),Inv X Zb Z H s->CX X.stack H s E e s'->X.xe e s'
section
variable{k:Nat}{f:Addr}{E:XK}{p apos:Pos}{o:Expr}{t:TA}
theorem V2{Q:VK}(F:CD X.prog X.w X.K X.mg X.base CX k f fd ps sp)(c:BR k X.A)(g:Binds X.K fd ps ds)(hd:Vals D2 ds)(hx:Passes CX X E)
  (I:Inv X Zb Z H s) (r:Vals vs us) (h:sp (vs++D2) H Q E):wpAny (model X.prog X.w) X.A (call (.ref f) us) (EP X Zb Z Q) X.xe s:=by
 have b:Vals (vs++D2) (us++ds):=r.append hd;have d:(us++ds).length=ps.length:=by rw[<- b.length];exact F.len _ _ _ _ h
 refine tV (qH (F.run X.A X.stack s H ⟨us,[]⟩ (us++ds) (vs++D2) Q E c I.UI (g s us I.C5 d) b h) λr s' a=>?_);cases r with
 |error e=>exact hx Zb Z H s e s' I a
 |ok i=>
  cases i with
  |ret u=>exact I.after a
  |next=>exact False.elim a
  |brk=>exact False.elim a
  |cont=>exact False.elim a
theorem se(F:CD X.prog X.w X.K X.mg X.base CX k f fd ps sp)(a:BR k X.A)(c:Gl X x)(b:X.mg x=some (.ref f))(hk:PySem.W.keepIn X.K (.ref f)=true)(d:Binds X.K fd ps ds)(hd:Vals D2 ds)(hx:Passes CX X E)
  (g:PA X (e::es) t) (BV:(x == ("__debug__":Str))=false:=by decide) (he:starEach (e::es) X.env=(false,eval e X.env)::starEach es X.env:=by rfl) (BP:(backTo pos (starEach es X.env)).any (·.1)=false:=by rfl) :
  PE X (.Call (.Name x p) (e::es) [] pos) (D6 sp D2 E t):=by
 intro Zb s Z H Q I h;refine kY (Lb I c b ?_ BV);refine Xr (h₀:=X.base) I.ok.mod.KL hk (AI (g pos Zb s Z H _ I h) λus i⟨vs,H1,I1,r,q⟩=>⟨I1.C5,?_⟩) he BP;exact V2 F a d hd hx I1 r q
theorem sD(n:PE X o ta)(c:Dh X.K C)(b:Meth X.K C m f)(F:CD X.prog X.w X.K X.mg X.base CX k f fd ps sp)(j:BR k X.A)(p:Binds X.K fd ps ds)(hd:Vals D2 ds)(hx:Passes CX X E)(v:PA X (e::es) t)
  (Ca:starEach (e::es) X.env=(false,eval e X.env)::starEach es X.env:=by rfl) (BP:(backTo pos (starEach es X.env)).any (·.1)=false:=by rfl)
  (ht:eval (.Call (.Attribute o m apos) (e::es) [] pos) X.env=(do
   let ov <- eval o X.env
   standAt apos.atName
   let (f,first) <- holding [ov] (getMethod ov m pl)
   callWith pos f first (backTo pos (starEach (e::es) X.env)) (backToKw pos (keywordEach [] X.env))):=by rfl) :
  PE X (.Call (.Attribute o m apos) (e::es) [] pos) (OS C m sp D2 E ta t):=by
 intro Zb s Z H Q I h;refine ZB2 (pl:=pl) (AI (n Zb s Z H _ I h) λu d⟨x,H1,I1,g,a,dx,fs,ex,ea,l,q⟩=>?_) ht;subst ex;obtain rfl:u=Value.ref a:=g;refine Yv I1 ea c b l ?_;refine Xr (first:=[.ref a]) (h₀:=X.base) I.ok.mod.KL b.kp (AI (v pos Zb d Z H1 _ I1 q) λus s2⟨vs,H2,I2,r,i⟩=>⟨I2.C5,?_⟩) Ca BP
 exact V2 (us:=.ref a::us) (vs:=.ref a::vs) F j p hd hx I2 (.cons rfl r) i
theorem vW(i:PE X o ta)(c:Dh X.K C)(b:Meth X.K C m f)(F:CD X.prog X.w X.K X.mg X.base CX k f fd ps sp)(g:BR k X.A)(j:Binds X.K fd ps ds)(hd:Vals D2 ds)(hx:Passes CX X E)
  (e:eval (.Call (.Attribute o m apos) [] [] pos) X.env=(do
   let ov <- eval o X.env
   standAt apos.atName
   let (f,first) <- holding [ov] (getMethod ov m pl)
   callWith pos f first (backTo pos (starEach [] X.env)) (backToKw pos (keywordEach [] X.env))):=by rfl) :
  PE X (.Call (.Attribute o m apos) [] [] pos) (OS C m sp D2 E ta B3):=by
 intro Zb s Z H Q I h;refine ZB2 (pl:=pl) (AI (i Zb s Z H _ I h) λu n⟨x,H1,I1,d,a,dx,fs,ex,ea,l,q⟩=>?_) e;subst ex;obtain rfl:u=Value.ref a:=d;refine Yv I1 ea c b l ?_;exact PySem.W.callWith_K0 (first:=[.ref a]) I1.C5 b.kp (V2 (us:=[.ref a]) (vs:=[.ref a]) F g j hd hx I1 (.cons rfl .nil) q)
structure Mk (K:ZBc) (C f:Addr):Prop where
 makes:PySem.W.makesIn K C=true
 init:PySem.W.findIn K (.ref C) "__init__"=some (some (.ref f))
 fn:PySem.W.isFn K (.ref f)=true
 kp:PySem.W.keepIn K (.ref C)=true
theorem uU{Q:VK}(M:Mk X.K C f)(F:CD X.prog X.w X.K X.mg X.base CX k f fd ps sp)(i:BR (k+1) X.A)(l:Binds X.K fd ps ds)(hd:Vals D2 ds)
  (hx:Passes CX X E) (I:Inv X Zb Z H s) (r:Vals vs us)
  (h:∀x dx,H x=none->H dx=none->dx≠x->sp (.ref x::(vs++D2)) (upd (upd H dx (.own x)) x (.ins C dx [])) (λv H2=>v=.A9/\Q (.ref x) H2) E) :
  wpAny (model X.prog X.w) X.A (call (.ref C) us) (EP X Zb Z Q) X.xe s:=by
 have c:=h (s.heap.objs.size+1) s.heap.objs.size (I.AF.fresh (L5 _)) (I.AF.fresh (Ae _)) (CV (i9 _));have a:=Inv.made (C:=C) I;have b:Vals (V.ref (s.heap.objs.size+1)::(vs++D2)) (Value.ref (s.heap.objs.size+1)::(us++ds)):=.cons rfl (r.append hd);have j:(Value.ref (s.heap.objs.size+1)::us++ds).length=ps.length:=by
  have e:=b.length;rw[F.len _ _ _ _ c]at e;exact e.symm
 refine tV (mB (f:=f) I.C5 M.makes M.init (beq_iff_eq.mp M.fn) (qH (F.run _ X.stack _ _ ⟨Value.ref (s.heap.objs.size+1)::us,[]⟩ (Value.ref (s.heap.objs.size+1)::(us++ds)) _ _ E (i.make C us [])
  (a.UI.make C us []) (l _ (Value.ref (s.heap.objs.size+1)::us) a.C5 j) b c) λr s' Fb=>?_))
 cases r with
 |error e=>exact hx Zb Z _ _ e s' a Fb
 |ok m=>
  cases m with
  |ret u=>
   obtain⟨v,H',I3,d,n,g⟩:=a.after Fb;subst n;exact⟨d,⟨V.ref (s.heap.objs.size+1),H',I3,rfl,g⟩⟩
  |next=>exact False.elim Fb
  |brk=>exact False.elim Fb
  |cont=>exact False.elim Fb
theorem qG(M:Mk X.K C f)(F:CD X.prog X.w X.K X.mg X.base CX k f fd ps sp)(a:BR (k+1) X.A)(c:Gl X x)(b:X.mg x=some (.ref C))(d:Binds X.K fd ps ds)(hd:Vals D2 ds)(hx:Passes CX X E)
  (g:PA X (e::es) t) (BV:(x == ("__debug__":Str))=false:=by decide) (he:starEach (e::es) X.env=(false,eval e X.env)::starEach es X.env:=by rfl) (BP:(backTo pos (starEach es X.env)).any (·.1)=false:=by rfl) :
  PE X (.Call (.Name x p) (e::es) [] pos) (UJ C sp D2 E t):=by
 intro Zb s Z H Q I h;refine kY (Lb I c b ?_ BV);refine Xr (h₀:=X.base) I.ok.mod.KL M.kp (AI (g pos Zb s Z H _ I h) λus i⟨vs,H1,I1,r,q⟩=>⟨I1.C5,?_⟩) he BP;exact uU M F a d hd hx I1 r q
variable{kws:List Keyword}{tk:TA}{nm:Option Str}{g:List Value->List Value->List Value}{gV:List V->List V->List V}
end
structure BG (N P:List Str) (sc:Scope):Prop where
 kind:sc.kind=.function
 co:sc.isCoroutine=false
 gen:sc.isGenerator=false
 nd:N.Nodup
 pre:N.take P.length=P
 par:∀x∈P,sc.names.lookup x=some .local∨sc.names.lookup x=some .cell
 jc:∀y∈sc.names,y.2≠.free
theorem dC{a:Str->Option NameKind}{x:Str}:∀{binds:List (Str×Value)}{m:ZBe},(∀v,(x,v)∉binds)->bindL a binds m x=m x
 | [],_,_=>rfl
 | (n,v)::r,m,h=>by
  unfold bindL;rw[dC λw hw=>h w (DV _ hw)];split
  .have:x≠n:=by rintro rfl;exact h v ES
   simp[this]
  .rfl
theorem Yx{a:Str->Option NameKind}{x:Str}:∀{binds:List (Str×Value)}{m:ZBe},(∀v,(x,v)∉binds)->bindC a binds m x=m x
 | [],_,_=>rfl
 | (n,v)::r,m,h=>by
  unfold bindC;rw[Yx λw hw=>h w (DV _ hw)];split
  .rfl
  .have:x≠n:=by rintro rfl;exact h v ES
   simp[this]
theorem eA{a:Str->Option NameKind}{x:Str}{v:Value}:∀{P:List Str}{vs:List Value}{i:Nat}{m:ZBe},P.Nodup->P[i]?=some x->vs[i]?=some v->a x=some .local->
  bindL a (P.zip vs) m x=some v
 | [],_,_,_,_,h,_,_=>by simp at h
 |_::_,[],_,_,_,_,h,_=>by simp at h
 |p::P,w::vs,0,m,nd,h1,h2,hk=>by
  simp at h1 h2;subst h1;subst h2;show bindL a ((p,w)::P.zip vs) m p=_;unfold bindL;rw[dC λv b=>(List.nodup_cons.mp nd).1 (i4 b).1,ir hk];simp
 |p::P,w::vs,i+1,m,nd,h1,h2,hk=>by
  show bindL a ((p,w)::P.zip vs) m x=_;unfold bindL;exact eA (i:=i) (List.nodup_cons.mp nd).2 (by simpa using h1) (by simpa using h2) hk
theorem cy{a:Str->Option NameKind}{x:Str}{v:Value}:∀{P:List Str}{vs:List Value}{i:Nat}{m:ZBe},P.Nodup->P[i]?=some x->vs[i]?=some v->a x≠some .local->
  bindC a (P.zip vs) m x=some v
 | [],_,_,_,_,h,_,_=>by simp at h
 |_::_,[],_,_,_,_,h,_=>by simp at h
 |p::P,w::vs,0,m,nd,h1,h2,hk=>by
  simp at h1 h2;subst h1;subst h2;show bindC a ((p,w)::P.zip vs) m p=_;unfold bindC;rw[Yx λv b=>(List.nodup_cons.mp nd).1 (i4 b).1,ib hk];simp
 |p::P,w::vs,i+1,m,nd,h1,h2,hk=>by
  show bindC a ((p,w)::P.zip vs) m x=_;unfold bindC;exact cy (i:=i) (List.nodup_cons.mp nd).2 (by simpa using h1) (by simpa using h2) hk
noncomputable def start(N:List Str)(vs:List V):St:=vs.map some++List.replicate (N.length - vs.length) none
noncomputable def Dy(CX:FV)(P:Program)(w:World)(K:ZBc)(mg:ZBe)(Zj:Heap)(N:List Str)(qual:Str)(scope:Scope)(f:Addr)(cd:Value)(A:Around)(outer:List Env)(s:Shared)(H:Hp)(E:XK):Cx where
 prog:=P
 w:=w
 K:=K
 mg:=mg
 base:=Zj
 A:=A.deeper (envOfC qual scope s.heap.objs.size f cd)
 N:=N
 s₀:=s
 H₀:=H
 env:=envOfC qual scope s.heap.objs.size f cd
 outer:=outer
 stack:=envOfC qual scope s.heap.objs.size f cd::outer
 ex:=[]
 calm:=true
 fn:=λ_=>true
 pn:=[]
 xe:=λe s'=>wpAny (model P w) (A.deeper (envOfC qual scope s.heap.objs.size f cd)) (leaving (envOfC qual scope s.heap.objs.size f cd) e) (λ_ OA=>CX outer H s E e OA) (λa OA=>CX outer H s E a OA) s'
theorem eG(h:sc.names.lookup x=some .cell):∃c,(cellsFrom n sc.names []).lookup x=some c:=by
 have q:=ZAz sc.names n [] (.inl h);exact Option.isSome_iff_exists.mp q
theorem iN{P:Program}{K:ZBc}{f:Addr}{l:Shared}{E:XK}
  (S:BG N ps scope) (hd:A.handled=none) (e0:Jz P w K mg Zj A outer s H) (C:vs.length=ps.length) (r:Vals vs us)
  (x:InCallC s s.heap.objs.size (bindL (envOfC qual scope s.heap.objs.size f cd).kindOf (ps.zip us) λ_=>none) (cellsFrom (s.heap.objs.size+1) scope.names []) (bindC (envOfC qual scope s.heap.objs.size f cd).kindOf (ps.zip us) λ_=>none) l) :
  Inv (Dy CX P w K mg Zj N qual scope f cd A outer s H E) [] (start N vs) H l:=by
 have F:ps.length<=N.length:=by have:=k9 List.length S.pre;rw[FD]at this;omega
 obtain⟨h1,tk,rfl,hk⟩:=x.done;have j:∀b:Addr,b∉(Dy CX P w K mg Zj N qual scope f cd A outer s H E).ex:=λb z=>absurd (show b∈([]:List Addr)from z) (by simp);refine⟨⟨e0.mod,S.kind,rfl,rfl,Ae _,λy z c h1 h2=>?_,λy d=>?_,λy c _ h=>?_,λ_=>hd,Around.frames_deeper e0.frames,.inr ⟨rfl,rfl⟩,λb z=>absurd z (j b),e0.bs,e0.GA,λb _ _=>j b,λb z=>absurd z (j b),e0.Ed,e0.HL⟩,
  rfl,e0.bare,Un.kept hk,⟨_,x.toInCall.ns,λi y v h1 h2 D=>?_⟩,λy c h=>⟨_,x.cell y c h⟩,e0.AF.fresh (Ae _),λy c h=>?_,λp g=>absurd (show p∈([]:ZBd)from g) (by simp),e0.AF.kept hk,?_⟩
 .exact name_of_addr x.apart (L6 h1) (L6 h2)
 .have d:scope.names.lookup y=some .cell∨scope.names.lookup y=some .free:=d;rcases d with d|d
  .exact eG d
  .exact absurd rfl (S.jc _ (L6 d))
 .exact Xk (x.above y c (L6 h))
 .have hi:i<vs.length:=by
   unfold start at h2
   by_cases hi:i<vs.length
   .exact hi
   .rw[DB (by simpa using hi)]at h2
    rw[gz]at h2;split at h2 <;> cases h2
  have B:vs[i]?=some v:=by
   unfold start at h2;rw[D1 (by simpa using hi),Am]at h2
   cases e:vs[i]? with
   |none=>rw[e]at h2;cases h2
   |some a=>rw[e]at h2;cases h2;rfl
  obtain⟨u,m,t⟩:=r.get B;have g:ps[i]?=some y:=by
   rw[<- S.pre,List.getElem?_take_of_lt (by omega)];exact h1
  have o:ps.Nodup:=by rw[<- S.pre];exact S.nd.sublist (ZAo _ _)
  refine⟨u,t,?_⟩;rcases S.par y (Bo g)with k|k
  .exact .inl ⟨k,eA o g m k⟩
  .obtain⟨c,e⟩:=eG (n:=s.heap.objs.size+1) k;refine .inr ⟨.inl k,c,e,?_⟩;have q:=x.cell y c e;rw[cy o g m (by show scope.names.lookup y≠_;rw[k];decide)]at q;exact q
 .exact e0.AF.fresh (Xk (x.above y c (L6 h)))
 .unfold start;show _=N.length;rw[Bj,AA,ZAl];omega
theorem Y3{P:Program}{K:ZBc}{k:Nat}{f:Addr}{a:Arguments}{body:List Stmt}{p kV g m AY ct D:Value}{z od:Option Addr}
  {IB:Array (Option Value)}(F:K.lookup f=some ⟨D,od,.func (PySem.W.fnOf name qual a body scope p kV g m z AY ct),IB⟩) (Fh:PySem.W.codeIn K AY qual=true) (S:BG N ps scope)
  (len:∀vs H Q E,sp vs H Q E->vs.length=ps.length)
  (KI:∀(A:Around)(outer:List Env)(s:Shared)(H:Hp)(vs:List V)(Q:VK)(E:XK),BR k (A.deeper (envOfC qual scope s.heap.objs.size f AY))->sp vs H Q E->
   ∃t,DO (Dy CX P w K mg Zj N qual scope f AY A outer s H E) body t/\t { nx:=λ_ H'=>Q .A9 H',rt:=Q } (start N vs) H) :
  CD P w K mg Zj CX (k+1) f (PySem.W.fnOf name qual a body scope p kV g m z AY ct) ps sp:=by
 refine⟨len,λA outer s H args us vs Q E j e0 T r Fc=>?_⟩;have O:=len _ _ _ _ Fc;have B:K.In s.heap:=e0.mod.KL.keeps λb o e=>(e0.bs b o e).1;have i:s.heap.NoLimit:=e0.mod.nolimit.keeps λb o e=>(e0.bs b o e).1;have C:∀y∈ps.zip us,scope.names.lookup y.1=some .local∨(scope.names.lookup y.1=some .cell/\((cellsFrom (s.heap.objs.size+1) scope.names []).lookup y.1).isSome=true):=λ⟨n,v⟩G=>by
  rcases S.par n (i4 G).1 with q|q
  .exact .inl q
  .exact .inr ⟨q,ZAz _ _ _ (.inl q)⟩
 refine codeAny_call_function j.depth (B _ _ F) rfl S.co S.gen rfl (PySem.W.codeRec_of B Fh) (T _ _ _ _ ?_);refine wpAny_newFunctionEnv_cells S.kind C λenv R l x=>?_;subst R;refine⟨i.keeps x.toInCall.keep,codeAny_func ?_⟩;obtain⟨t,L,M⟩:=KI A outer s H vs Q E (j.deeper _) Fc;have I:Inv (Dy CX P w K mg Zj N qual scope f AY A outer s H E) [] (start N vs) H l:=iN S j.hd e0 O r x;refine jx (L [] l (start N vs) H _ I M) (λU s' c=>?_) λe s' c=>c;have d:∀{σ':St}{H':Hp}{v:V}{u:Value},Inv (Dy CX P w K mg Zj N qual scope f AY A outer s H E) [] σ' H' s'->RelV v u->Q v H'->CE outer P w H s Q u s':=
  λ{σ' H' v u}J h q=>⟨v,H',J.os,J.bare,J.base,J.AF,h,q⟩
 cases U with
 |ret u=>
  obtain⟨v,σ',H',J,h,q⟩:=c;exact d J h q
 |next=>
  obtain⟨σ',H',J,q⟩:=c;exact d (v:=V.A9) (u:=Value.none) J rfl q
 |brk=>
  obtain⟨_,_,_,q⟩:=c;exact False.elim q
 |cont=>
  obtain⟨_,_,_,q⟩:=c;exact False.elim q
section
variable{p:Pos}{t:TA}{id T:String}{r:List V->Hp->VK->Prop}
def Dm(r:List V->Hp->VK->Prop)(t:TA):TE:=λZ H Q=>t Z H λvs H1=>r vs H1 Q
end
end L2
namespace HT
section
open PySem.SeqAt
open PySem.AutoSeq1 (wpAny_loadPart')
open PySem.MeetsSeq PySem.MeetsSeq2 PySem.MeetsSeq3
end
section
variable{prog:Program}{w:World}{A:Around}{E:Value->Shared->Prop}{s:Shared}
noncomputable def Cv(n d:Nat):Option Int->Nat
 |none=>d
 |some v=>if v<0 then(v+(n:Int)).toNat else min v.toNat n
theorem eN(n d:Nat):Cv n d none=d:=rfl
theorem cO(n d k:Nat):Cv n d (some (k:Int))=min k n:=by
 show(if(k:Int)<0 then((k:Int)+(n:Int)).toNat else min (k:Int).toNat n)=min k n
 rw[ib (by omega),Gp]
end
end HT
namespace L2
variable{X:Cx}{pos:Pos}{α:Type}{j n t':Nat}{i:Int}{Zb:ZBd}{Z:St}{H:Hp}{s:Shared}{xs ys:List V}{A4 its' us:List Value}{A:Around}{x y:V}{u v:Value}{T:String}
abbrev TO:=St->Hp->(Option Int->Hp->Prop)->Prop
def PO(X:Cx)(e:Option Expr)(t:TO):Prop:=
 ∀(Zb:ZBd)(s:Shared)(Z:St)(H:Hp)(Q:Option Int->Hp->Prop),Inv X Zb Z H s->t Z H Q->
  wpAny (model X.prog X.w) X.A (evalPart e X.env) (λu s'=>∃o H',Inv X Zb Z H' s'/\IsPart u o/\Q o H') X.xe s
def W0:TO:=λ_ H Q=>Q none H
def W6(t:TE):TO:=λZ H Q=>t Z H λx H1=>∃i,x=.int i/\Q (some i) H1
section
variable{e:Expr}{te:TE}{lo hi:Option Expr}{tl th:TO}{p2:Pos}
def Qy(X:Cx)(r:V->Option Int->Option Int->Hp->VK->Prop):Prop:=
 ∀(Zb:ZBd)(s:Shared)(Z:St)(H:Hp)(x:V)(v b a:Value)(lo hi:Option Int)(c:Addr)(Q:VK),Inv X Zb Z H s->RelV x v->s.heap.IsSliceOf c b a .none->IsPart b lo->IsPart a hi->r x lo hi H Q->
  ∃T id,typeLookup (.type T) "__getitem__"=pure (some (.builtin id))/\s.TypeIs v T/\wpAny (model X.prog X.w) X.A (getItem v (.ref c)) (EP X Zb Z Q) X.xe s
def Wh(r:V->Option Int->Option Int->Hp->VK->Prop)(te:TE)(tl th:TO):TE:=λZ H Q=>te Z H λx H1=>tl Z H1 λl H2=>th Z H2 λu H3=>r x l u H3 Q
def KP(xs:List V)(lo hi:Option Int):List V:=(xs.drop (HT.Cv xs.length 0 lo)).take (HT.Cv xs.length xs.length hi - HT.Cv xs.length 0 lo)
theorem uH(xs:List V)(lo hi:Option Int):(KP xs lo hi).length<=xs.length:=by
 unfold KP;rw[FD,hU];omega
end
noncomputable def HD(n:Nat)(i:Int):Option Nat:=if 0<=i then(if i<n then some i.toNat else none)else if -(n:Int)<=i then some (i+n).toNat else none
def Bm(xs:List α)(i:Int):Option α:=(HD xs.length i).bind λj=>xs[j]?
theorem eQ(h:HD n i=some j):seqIndex? i n=some j/\j<n/\-(n:Int)<=i/\i<n:=by
 unfold HD at h
 by_cases a:0<=i
 .rw[ir a]at h
  by_cases h1:i<n
  .rw[ir h1]at h;have e:i.toNat=j:=BH h;exact⟨by rw[seqIndex_of a h1,e],by omega,by omega,h1⟩
  .rw[ib h1]at h;cases h
 .rw[ib a]at h
  by_cases h1:-(n:Int)<=i
  .rw[ir h1]at h;have e:(i+n).toNat=j:=BH h;exact⟨by rw[seqIndex_neg (by omega) h1,e],by omega,h1,by omega⟩
  .rw[ib h1]at h;cases h
theorem Vq{xs:List α}{v:α}(h:Bm xs i=some v):∃j,seqIndex? i xs.length=some j/\xs[j]?=some v/\j<xs.length/\-(xs.length:Int)<=i/\i<xs.length:=by
 unfold Bm at h;cases e:HD xs.length i with
 |none=>rw[e]at h;cases h
 |some j=>
  rw[e]at h;obtain⟨h1,h2,b,a⟩:=eQ e;exact⟨j,h1,h,h2,b,a⟩
theorem Fp{xs:List α}{v:α}(h:xs[j]?=some v):Bm xs (j:Int)=some v:=by
 have a:j<xs.length:=(List.getElem?_eq_some_iff.mp h).1;have e:HD xs.length (j:Int)=some j:=by
  unfold HD;rw[ir (by omega),ir (by omega)];simp
 unfold Bm;rw[e];exact h
def WY(b:Expr):Prop:=∀o i,subscripted b false o i=operate [o,i] (getItem o i)
def Cb(X:Cx)(r:R2):Prop:=
 ∀(value a:Expr)(Zb:ZBd)(s:Shared)(Z:St)(H:Hp)(x y:V)(v u:Value)(Q:VK),Inv X Zb Z H s->RelV x v->RelV y u->r x y H Q->
  subscripted a false v u=operate [v,u] (getItem v u)->wpAny (model X.prog X.w) X.A (subscriptTail value a v u) (EP X Zb Z Q) X.xe s
def Fu(X:Cx)(id:String)(r:V->List V->Hp->VK->Prop):Prop:=
 ∀(Zb:ZBd)(s:Shared)(Z:St)(H:Hp)(x:V)(xs:List V)(v:Value)(us:List Value)(Q:VK),Inv X Zb Z H s->RelV x v->Vals xs us->r x xs H Q->
  wpAny (model X.prog X.w) X.A (call (.builtin id) (v::us)) (EP X Zb Z Q) X.xe s
section
variable{a b:Expr}{ta tb:TE}
def Iw(K:ZBc):R2:=λx y H Q=>∃p xs i v,x=.ref p/\y=.int i/\AQ K H p xs/\Bm xs i=some v/\Q v H
def DA(K:ZBc):R2:=λx y H Q=>∃p xs i v,x=.ref p/\y=.int i/\BC K H p xs/\Bm xs i=some v/\Q v H
def uL:R2:=λx y H Q=>∃z i c,x=.str z/\y=.int i/\z.length<=sizeLine/\Bm z.cps.toList i=some c/\Q (.str ⟨#[c]⟩) H
theorem CJ:Cb X (Iw X.K):=by
 intro value b Zb s Z H x y v u Q I k g h d;obtain⟨p,xs,i,z,rfl,rfl,l,n,q⟩:=h;cases k;obtain⟨t,rfl⟩:=g;obtain⟨A4,r,pl,B⟩:=I.list l;obtain⟨j,h1,h2,D,A,o⟩:=Vq n;obtain⟨w,f,IM⟩:=r.get h2;have m:=r.length;have C:=J6;have a:EP X Zb Z Q w s:=⟨z,H,I,IM,q⟩
 by_cases e:0<=i
 .have c:i.toNat=j:=by
   rw[seqIndex_of e o]at h1;exact BH h1
  exact item_listR pl.isList e (by omega) (by rw[c];simpa using f) a d
 .have c:(i+(A4.toArray.size:Int)).toNat=j:=by
   rw[seqIndex_neg (by omega) A]at h1;rw[Bf,<- m];exact BH h1
  exact subscriptTail_builtinR (x:=w) pl.isList.typeIs slot_list_getitem.lookup
   (wpAny_getItem_list_neg (Q:=λr s'=>r=w/\EP X Zb Z Q r s') pl.isList (by omega) (by rw[Bf] <;> omega) (by omega) (by rw[c];simpa using f) ⟨rfl,a⟩) d
theorem BL:Cb X (DA X.K):=by
 intro value a Zb s Z H x y v u Q I d c h e;obtain⟨p,xs,i,z,rfl,rfl,f,k,q⟩:=h;cases d;obtain⟨t,rfl⟩:=c;obtain⟨A4,r,pl,m⟩:=I.tuple f;obtain⟨j,h1,h2,B,A,o⟩:=Vq k;obtain⟨w,l,IM⟩:=r.get h2;have g:=r.length;have n:=J6;have b:EP X Zb Z Q w s:=⟨z,H,I,IM,q⟩;exact subscriptTail_builtinR (x:=w) pl.typeIs slot_tuple_getitem.lookup
  (getItem_tuple (j:=j) (Q:=λr s'=>r=w/\EP X Zb Z Q r s') pl (by omega) (by omega) (by rw[Bf,<- g];exact h1) (by simpa using l) ⟨rfl,b⟩) e
theorem tK:Cb X uL:=by
 intro value a Zb s Z H x y v u Q I d b h e;obtain⟨z,i,c,rfl,rfl,o,g,q⟩:=h;obtain⟨t,rfl⟩:=d;obtain⟨t',rfl⟩:=b;obtain⟨j,h1,h2,r,l,k⟩:=Vq g;have f:z.cps.toList.length=z.length:=by simp[Str.length]
 rw[f]at h1 l k;have p:=J6;exact tail_any (typeIs_str s z t) slot_str_getitem.lookup (getItem_str (c:=c) (by
  have n:decide (i < -(2 ^ 63:Int))=false:=jo (by omega);have m:decide (i>=2 ^ 63)=false:=jo (by omega);rw[n,m,Bool.or_false]) (by rw[h1];simpa using h2) ⟨.str ⟨#[c]⟩,H,I.tok _,⟨_,rfl⟩,q⟩) e
theorem y6(A4:List Value)(n j:Nat)(u:Value):Obj.mapSeq (·.setIfInBounds j u) { cls:=.type "list", data:=.seq A4.toArray n }={ cls:=.type "list", data:=.seq (A4.set j u).toArray n }:=by
 simp[Obj.mapSeq]
theorem Inv.lst{Zb:ZBd}{Z:St}{H:Hp}{s:Shared}{p:Addr}{xs:List V}(I:Inv X Zb Z H s)(h:H p=some (.lst xs)):
  ∃(A4:List Value)(n:Nat),Vals xs A4/\s.heap.get? p=some { cls:=.type "list", data:=.seq A4.toArray n }/\xs.length<=sizeLine:=by
 obtain⟨z,A4,n,r,e⟩:=I.AF p _ h;exact⟨A4,n,r,e,z⟩
theorem Inv.tU{p:Addr}{a:Nat}{f:Obj->Obj}(I:Inv X Zb Z H s)(h:H p=some (.lst xs))
  (ho:s.heap.get? p=some { cls:=.type "list", data:=.seq A4.toArray n }) (hf:f { cls:=.type "list", data:=.seq A4.toArray n }={ cls:=.type "list", data:=.seq its'.toArray a }) (r:Vals ys its') (hz:ys.length<=sizeLine) (t:Nat) :
  Inv X Zb Z (upd H p (.lst ys)) { s with heap:=s.heap.update p f,toks:=t }:=by
 have e:(s.heap.update p f).get? p=some { cls:=.type "list", data:=.seq its'.toArray a }:=by
  rw[MX f ho (by rw[hf] <;> rfl),hf]
 refine I.write (x:=p) (e:=p) (by rw[h];trivial) (.inl rfl) (λb u c q=>(Ij _ _ (B5 c)).trans q) ⟨_,e⟩ ?_;exact⟨hz,its',a,r,e⟩
def qL:V->V->V->Hp->(Hp->Prop)->Prop:=λo i v H Q=>∃p xs k j,o=.ref p/\i=.int k/\H p=some (.lst xs)/\HD xs.length k=some j/\Q (upd H p (.lst (xs.set j v)))
theorem set_list:Ui X qL:=by
 intro Zb s Z H o i v y z u Q I l m g h;obtain⟨p,xs,k,j,rfl,rfl,b,x,q⟩:=h;cases l;obtain⟨t,rfl⟩:=m;obtain⟨A4,n,r,ho,w⟩:=I.lst b;obtain⟨h1,h2,d,c⟩:=eQ x;have a:=r.length;have A:=J6;have f:Inv X Zb Z (upd H p (.lst (xs.set j v))) { s with heap:=s.heap.update p (Obj.mapSeq (·.setIfInBounds j u)) }:=
  I.tU b ho (y6 A4 n j u) (r.set g j) (by rw[Ik];exact w) s.toks
 by_cases e:0<=k
 .have hk:k.toNat=j:=by
   rw[seqIndex_of e c]at h1;exact BH h1
  exact PySem.W.ki_setAt ho e (by omega) (by rw[Bf,<- a];exact c) (by rw[hk];exact⟨_,f,q⟩)
 .have hk:(k+(A4.toArray.size:Int)).toNat=j:=by
   rw[seqIndex_neg (by omega) d]at h1;rw[Bf,<- a];exact BH h1
  exact PySem.W.ki_setBack ho (by omega) (by rw[Bf,<- a];exact d) (by omega) (by rw[hk];exact⟨_,f,q⟩)
theorem ue(lo hi:Option Int)(n:Nat):(sliceBounds lo hi none n).1=((HT.Cv n 0 lo:Nat):Int)/\(sliceBounds lo hi none n).2.1=((HT.Cv n n hi:Nat):Int)/\(sliceBounds lo hi none n).2.2=1:=by
 refine⟨?_,?_,rfl⟩
 .cases lo with
  |none=>simp[sliceBounds,HT.Cv]
  |some i=>
   simp only[sliceBounds,HT.Cv,ZAt,show(1:Int) > 0 by decide,vX]
   by_cases h:i<0
   .simp only[h,vX] <;> omega
   .simp only[h,tX] <;> omega
 .cases hi with
  |none=>simp[sliceBounds,HT.Cv]
  |some i=>
   simp only[sliceBounds,HT.Cv,ZAt,show(1:Int) > 0 by decide,vX]
   by_cases h:i<0
   .simp only[h,vX] <;> omega
   .simp only[h,tX] <;> omega
theorem sN(A4:List Value)(lo hi:Option Int):slicePick A4.toArray lo hi none=((A4.drop (HT.Cv A4.length 0 lo)).take (HT.Cv A4.length A4.length hi - HT.Cv A4.length 0 lo)).toArray:=by
 obtain⟨h1,h2,a⟩:=ue lo hi A4.toArray.size;unfold slicePick;rw[h1,h2,a];simp only[sliceRange_one,pick_run,Bf] <;> rfl
def Yn(K:ZBc):V->Option Int->Option Int->Hp->VK->Prop:=λx lo hi H Q=>∃a xs,x=.ref a/\AQ K H a xs/\∀p,H p=none->Q (.ref p) (upd H p (.lst (KP xs lo hi)))
theorem Sz:Qy X (Yn X.K):=by
 intro Zb s Z H x v k j lo hi l Q I e i pl f h;obtain⟨a,xs,rfl,hx,q⟩:=h;cases e;obtain⟨A4,r,d,g⟩:=I.list hx;have c:=r.length;refine⟨"list", _,slot_list_getitem.lookup,d.isList.typeIs,?_⟩;refine rf d.isList i pl f .none (by simp) ?_ (by rw[Bf] <;> omega)
 rw[sN,<- c];refine⟨.ref s.heap.objs.size,_,I.laid (t':=s.toks) (o:=.lst (KP xs lo hi)) (λb ob q=>Bz _ q) (Ae _) ?_,rfl,q _ (I.AF.fresh (Ae _))⟩;exact⟨CU (uH xs lo hi) g,_,0,(r.drop (HT.Cv xs.length 0 lo)).take (HT.Cv xs.length xs.length hi - HT.Cv xs.length 0 lo),D0 _ rfl⟩
noncomputable def D3:V->Bool
 | .A9=>true
 | .bl _=>true
 | .int _=>true
 | .str _=>true
 |_=>false
noncomputable def E4:V->V->Bool
 | .A9,.A9=>true
 | .bl a,.bl b=>a == b
 | .bl a,.int b=>(if a then 1 else 0) == b
 | .int a,.bl b=>a == (if b then 1 else 0)
 | .int a,.int b=>a == b
 | .str a,.str b=>a == b
 |_,_=>false
theorem Ym(d:RelV y u)(c:RelV x v)(f:D3 y=true)(e:D3 x=true):SeqAt.EqAt A s u v (E4 y x):=by
 cases y with
 |A9=>
  cases d;cases x with
  |A9=>cases c;exact SeqAt.EqAt.same _
  |bl b=>cases c;exact SeqAt.EqAt.none_bool b
  |int b=>obtain⟨t,rfl⟩:=c;exact SeqAt.EqAt.none_int b t
  |str b=>obtain⟨t,rfl⟩:=c;exact SeqAt.EqAt.none_str b t
  |_=>exact absurd (show false=true from e) Co
 |bl a=>
  cases d;cases x with
  |A9=>cases c;exact SeqAt.EqAt.bool_none a
  |bl b=>cases c;exact SeqAt.EqAt.bool_bool a b
  |int b=>obtain⟨t,rfl⟩:=c;exact SeqAt.EqAt.bool_int a b t
  |str b=>obtain⟨t,rfl⟩:=c;exact SeqAt.EqAt.bool_str a b t
  |_=>exact absurd (show false=true from e) Co
 |int a=>
  obtain⟨t',rfl⟩:=d;cases x with
  |A9=>cases c;exact SeqAt.EqAt.int_none a t'
  |bl b=>cases c;exact SeqAt.EqAt.int_bool a t' b
  |int b=>obtain⟨t,rfl⟩:=c;exact SeqAt.EqAt.int_int a t' b t
  |str b=>obtain⟨t,rfl⟩:=c;exact SeqAt.EqAt.int_str a t' b t
  |_=>exact absurd (show false=true from e) Co
 |str a=>
  obtain⟨t',rfl⟩:=d;cases x with
  |A9=>cases c;exact SeqAt.EqAt.str_none a t'
  |bl b=>cases c;exact SeqAt.EqAt.str_bool a t' b
  |int b=>obtain⟨t,rfl⟩:=c;exact SeqAt.EqAt.str_int a t' b t
  |str b=>obtain⟨t,rfl⟩:=c;exact SeqAt.EqAt.str_str a t' b t
  |_=>exact absurd (show false=true from e) Co
 |_=>exact absurd (show false=true from f) Co
def DM(x:V)(u:Value):Bool:=match u with
 | .none=>E4 .A9 x
 | .bool b=>E4 (.bl b) x
 | .int i _=>E4 (.int i) x
 | .str z _=>E4 (.str z) x
 |_=>false
theorem X4(r:RelV y u)(f:D3 y=true):DM x u=E4 y x:=by
 cases y with
 |A9=>cases r;rfl
 |bl b=>cases r;rfl
 |int i=>obtain⟨t,rfl⟩:=r;rfl
 |str z=>obtain⟨t,rfl⟩:=r;rfl
 |_=>exact absurd (show false=true from f) Co
theorem OT{x:V}:∀{xs:List V}{us:List Value},Vals xs us->xs.all D3=true->us.any (DM x)=xs.any λy=>E4 y x
 |_,_,.nil,_=>rfl
 |y::xs,u::us,.cons r t,f=>by
  rw[Rg,EO]at f;rw[MY,MY,X4 r f.1,OT t f.2]
theorem Ke{A:Around}{s:Shared}{x:V}{v:Value}(b:RelV x v)(c:D3 x=true):∀{xs:List V}{us:List Value},Vals xs us->xs.all D3=true->∀u∈us,SeqAt.EqAt A s u v (DM x u)
 |_,_,.nil,_=>λu a=>by cases a
 |y::xs,u::us,.cons r t,f=>λd a=>by
  rw[Rg,EO]at f;rcases List.mem_cons.mp a with rfl|a
  .rw[X4 r f.1];exact Ym r b f.1 c
  .exact Ke b c t f.2 d a
def PN(x:V)(xs:List V):Bool:=xs.any λy=>E4 y x
def IQ(K:ZBc)(neg:Bool):R2:=λx y H Q=>∃p xs,y=.ref p/\(AQ K H p xs∨BC K H p xs)/\D3 x=true/\xs.all D3=true/\Q (.bl (if neg then !PN x xs else PN x xs)) H
theorem Ir:B6 X (compareOp .In) (IQ X.K false):=by
 intro Zb s Z H x y v u Q I b d h;obtain⟨p,xs,rfl,a,c,fs,q⟩:=h;cases d;rcases a with a|a
 .obtain⟨A4,r,pl,e⟩:=I.list a;refine SeqAt.in_listAt (DM x) pl.isList (λw hw=>Ke b c r fs w (by simpa using hw)) ⟨.bl _,H,I,rfl,?_⟩
  rw[show A4.toArray.any (DM x)=A4.any (DM x) by simp,OT r fs];exact q
 .obtain⟨A4,r,pl,e⟩:=I.tuple a;refine SeqAt.in_tupleAt (DM x) pl (λw hw=>Ke b c r fs w (by simpa using hw)) ⟨.bl _,H,I,rfl,?_⟩
  rw[show A4.toArray.any (DM x)=A4.any (DM x) by simp,OT r fs];exact q
theorem TF:B6 X (compareOp .NotIn) (IQ X.K true):=by
 intro Zb s Z H x y v u Q I b d h;obtain⟨p,xs,rfl,a,c,fs,q⟩:=h;cases d;rcases a with a|a
 .obtain⟨A4,r,pl,e⟩:=I.list a;refine SeqAt.notIn_listAt (DM x) pl.isList (λw hw=>Ke b c r fs w (by simpa using hw)) ⟨.bl _,H,I,rfl,?_⟩
  rw[show A4.toArray.any (DM x)=A4.any (DM x) by simp,OT r fs];exact q
 .obtain⟨A4,r,pl,e⟩:=I.tuple a;refine SeqAt.notIn_tupleAt (DM x) pl (λw hw=>Ke b c r fs w (by simpa using hw)) ⟨.bl _,H,I,rfl,?_⟩
  rw[show A4.toArray.any (DM x)=A4.any (DM x) by simp,OT r fs];exact q
theorem Pb:CZ X (.builtin "len") (λxs H Q=>∃p ys,xs=[.ref p]/\(AQ X.K H p ys∨BC X.K H p ys)/\Q (.int ys.length) H):=by
 intro Zb s Z H xs us Q I r h;obtain⟨p,ys,rfl,b,q⟩:=h;obtain⟨u,rfl,d⟩:=vals1 r;cases d;have f:=J6;rcases b with b|b
 .obtain⟨A4,c,pl,e⟩:=I.list b;have a:=c.length;exact Calls.call_len_list pl.isList (by simp only[Bf] <;> omega) ⟨.int ys.length,H,I.tok _,⟨s.toks+1,by rw[Bf,a]⟩,q⟩
 .obtain⟨A4,c,pl,e⟩:=I.tuple b;have a:=c.length;exact len_tuple pl (by simp only[Bf] <;> omega) ⟨.int ys.length,H,I.tok _,⟨s.toks+1,by rw[Bf,a]⟩,q⟩
theorem fv:CZ X (.builtin "len") (λxs H Q=>∃z,xs=[.str z]/\z.length<=sizeLine/\Q (.int z.length) H):=by
 intro Zb s Z H xs us Q I r h;obtain⟨z,rfl,a,q⟩:=h;obtain⟨u,rfl,t,rfl⟩:=vals1 r;have b:=J6;exact len_str (by omega) ⟨.int z.length,H,I.tok _,⟨_,rfl⟩,q⟩
theorem Ra:CZ X (.type "list") (λxs H Q=>∃p ys,xs=[.ref p]/\(AQ X.K H p ys∨BC X.K H p ys)/\∀l,H l=none->Q (.ref l) (upd H l (.lst ys))):=by
 intro Zb s Z H xs us Q I r h;obtain⟨p,ys,rfl,f,q⟩:=h;obtain⟨u,rfl,k⟩:=vals1 r;cases k;have i:∀(A4:List Value),Vals ys A4->ys.length<=sizeLine->∀(h':Heap)(c:Nat),(∀b o',s.heap.get? b=some o'->h'.get? b=some o')->
   h'.get? s.heap.objs.size=some { cls:=.type "list", dict:=none,data:=.seq A4.toArray c,slots:=#[] }->EP X Zb Z Q (.ref s.heap.objs.size) { s with heap:=h' }:=λA4 a d h' c kp e=>
  ⟨.ref s.heap.objs.size,_,I.laid (t':=s.toks) kp (Ae _) (show Bu X.prog X.w _ h' _ (.lst ys)from⟨d,A4,c,a,e⟩),rfl,q _ (I.AF.fresh (Ae _))⟩
 rcases f with f|f
 .obtain⟨A4,a,pl,d⟩:=I.list f;have g:=a.length;obtain⟨o,ho,j,n,hd⟩:=pl.isList;exact call_list_seq p (.inl rfl) ho j hd (λh' c kp e=>i A4 a d h' c kp e) (by simp only[Bf] <;> omega)
 .obtain⟨A4,a,pl,d⟩:=I.tuple f;have g:=a.length;obtain⟨o,ho,j,n,hd⟩:=pl;exact call_list_seq p (.inr rfl) ho j hd (λh' c kp e=>i A4 a d h' c kp e) (by simp only[Bf] <;> omega)
theorem PM:CZ X (.type "tuple") (λxs H Q=>∃p ys,xs=[.ref p]/\((AQ X.K H p ys/\∀l,H l=none->Q (.ref l) (upd H l (.tup ys)))∨(BC X.K H p ys/\Q (.ref p) H))):=by
 intro Zb s Z H xs us Q I r h;obtain⟨p,ys,rfl,h⟩:=h;obtain⟨u,rfl,j⟩:=vals1 r;cases j;rcases h with⟨c,q⟩|⟨c,q⟩
 .obtain⟨A4,a,pl,d⟩:=I.list c;have f:=a.length;refine call_tuple_list pl.isList (λh' kp=>?_) (by simp only[Bf] <;> omega)
  have i:Inv X Zb Z H { s with heap:=h' }:=I.kept (t':=s.toks) kp
  have k:Inv X Zb Z (upd H h'.objs.size (.tup ys)) { s with heap:=h'.push { cls:=.type "tuple", data:=.seq A4.toArray } }:=
   i.laid (t':=s.toks) (λb o e=>Bz _ e) (Ae _) (show Bu X.prog X.w _ _ _ (.tup ys)from⟨d,A4,a,⟨IsTup.new _ _,λm g=>by rw[D0 _ rfl]at g;cases g;rfl⟩⟩)
  exact⟨.ref h'.objs.size,_,k,rfl,q _ (i.AF.fresh (Ae _))⟩
 .obtain⟨A4,a,pl,d⟩:=I.tuple c;exact call_tuple_same pl ⟨.ref p,H,I,rfl,q⟩
def JI(K:ZBc)(T:String)(x:V)(H:Hp):Prop:=match x with
 | .str _=>T="str"
 | .int _=>T="int"
 | .ref p=>(T="list" /\ ∃xs,AQ K H p xs)∨(T="tuple" /\ ∃o,K.lookup p=some o/\o.cls=.type "tuple" /\ o.dict=none)∨
   (T="dict" /\ ((∃A5,H p=some (.dK A5))∨∃A5,H p=some (.dT A5)))∨(T="set" /\ ∃S n,H p=some (.set S n))∨(T="tuple" /\ ∃xs,H p=some (.tup xs))
 |_=>False
theorem ay(I:Inv X Zb Z H s)(r:RelV x v)(ty:JI X.K T x H):
  s.TypeIs v T/\∀a,v=.ref a->∃ob,s.heap.get? a=some ob/\ob.dict=none:=by
 cases x with
 |str z=>
  obtain⟨t,rfl⟩:=r;cases(show T="str" from ty);exact⟨typeIs_str s z t,λ_ e=>nomatch e⟩
 |int i=>
  obtain⟨t,rfl⟩:=r;cases(show T="int" from ty);exact⟨typeIs_int s i t,λ_ e=>nomatch e⟩
 |ref p=>
  cases r;rcases ty with⟨rfl,xs,d⟩|⟨rfl,o,hk,f,hd⟩|⟨rfl,hk⟩|⟨rfl,S,n,hk⟩|⟨rfl,xs,hk⟩
  .obtain⟨A4,_,pl,_⟩:=I.list d;refine⟨pl.isList.typeIs,λa e=>?_⟩;cases e;obtain⟨o,n,e,c,hd,_⟩:=pl;exact⟨o,e,hd⟩
  .refine⟨⟨o,I.C5 p o hk,f⟩,λa e=>?_⟩;cases e;exact⟨o,I.C5 _ o hk,hd⟩
  .have z:∃o,s.heap.get? p=some o/\o.ExactDict:=by
    rcases hk with⟨A5,hk⟩|⟨A5,hk⟩
    .obtain⟨_,_,_,_,o,_,_,e,ex,_⟩:=I.AF p _ hk;exact⟨o,e,ex⟩
    .obtain⟨_,_,_,_,o,_,_,e,ex,_⟩:=I.AF p _ hk;exact⟨o,e,ex⟩
   obtain⟨o,e,ex⟩:=z;refine⟨⟨o,e,ex.1⟩,λa b=>?_⟩;cases b;exact⟨o,e,ex.2.1⟩
  .obtain⟨o,_,_,_,e,ex,_⟩:=I.AF p _ hk;refine⟨⟨o,e,ex.1⟩,λa b=>?_⟩;cases b;exact⟨o,e,ex.2.1⟩
  .obtain⟨_,A4,_,⟨o,e,c,_⟩,g⟩:=I.AF p _ hk;refine⟨⟨o,e,c⟩,λa b=>?_⟩;cases b;exact⟨o,e,g o e⟩
 |_=>exact False.elim ty
def Pz(K:ZBc)(T:String)(r:V->List V->Hp->VK->Prop)(to:TE):TE:=λZ H Q=>to Z H λx H1=>JI K T x H1/\r x [] H1 Q
def IZ(K:ZBc)(T:String)(r:V->List V->Hp->VK->Prop)(to:TE)(t:TA):TE:=λZ H Q=>to Z H λx H1=>JI K T x H1/\t Z H1 λxs H2=>r x xs H2 Q
variable{o e:Expr}{es:List Expr}{to:TE}{t:TA}{name:Str}{apos Bw:Pos}{id:String}{r:V->List V->Hp->VK->Prop}
end
def Lh(X:Cx)(id:String)(r:V->List V->Hp->VK->Prop):Prop:=
 ∀(Zb:ZBd)(s:Shared)(Z:St)(H:Hp)(x:V)(xs:List V)(v:Value)(us:List Value)(Q:VK),Inv X Zb Z H s->RelV x v->Vals xs us->r x xs H Q->
  wpAny (model X.prog X.w) X.A (call (.builtin id) (v::us)) (EP X Zb Z Q) X.xe s
theorem Vals.one:∀{x:V}{us:List Value},Vals [x] us->∃u,us=[u]/\RelV x u:=λr=>vals1 r
theorem Vals.two:∀{x y:V}{us:List Value},Vals [x,y] us->∃u v,us=[u,v]/\RelV x u/\RelV y v:=λr=>vals2 r
theorem Vals.zero:∀{us:List Value},Vals [] us->us=[]
 |_,.nil=>rfl
theorem Vals.dropLast(h:Vals xs us):Vals xs.dropLast us.dropLast:=by
 induction h with
 |nil=>exact .nil
 |cons r t a=>
  cases t with
  |nil=>exact .nil
  |cons q t'=>exact .cons r a
theorem Vals.eraseIdx:∀{xs:List V}{us:List Value}(i:Nat),Vals xs us->Vals (xs.eraseIdx i) (us.eraseIdx i)
 |_,_,_,.nil=>.nil
 |_,_,0,.cons _ t=>t
 |_,_,i+1,.cons r t=>.cons r (Vals.eraseIdx i t)
theorem Vals.reverse(h:Vals xs us):Vals xs.reverse us.reverse:=by
 induction h with
 |nil=>exact .nil
 |cons r t a=>rw[Xi,Xi];exact Vals.append a (.cons r .nil)
theorem tw(l:List α):l.eraseIdx (l.length - 1)=l.dropLast:=by
 induction l with
 |nil=>rfl
 |cons a r c=>
  cases r with
  |nil=>rfl
  |cons b r=>
   have e:(a::b::r).length - 1=((b::r).length - 1)+1:=by
    have h1:(a::b::r).length=r.length+2:=rfl;have h2:(b::r).length=r.length+1:=rfl;omega
   rw[e,ZAc,c]
   all_goals rfl
theorem fX{α:Type}:∀(l:List α)(i:Nat),(l.eraseIdx i).length<=l.length
 | [],_=>Ae _
 |_::_,0=>L5 _
 |_::r,i+1=>Nat.succ_le_succ (fX r i)
section
variable{l b:Addr}{zs:List V}
theorem Inv.LA{f:Array Value->Array Value}(I:Inv X Zb Z H s)(c:H l=some (.lst xs))
  (e:s.heap.get? l=some { cls:=.type "list", data:=.seq A4.toArray n }) (hf:f A4.toArray=its'.toArray) (hv:Vals ys its') (hz:ys.length<=sizeLine) :
  Inv X Zb Z (upd H l (.lst ys)) { s with heap:=s.heap.update l (Obj.mapSeq f),toks:=t' }:=by
 have q:=PySem.IsL.update e f;rw[hf]at q;refine I.write (x:=l) (e:=l) (by rw[c];exact trivial) (.inl rfl) (λd u b a=>(Ij s.heap (Obj.mapSeq f) (B5 b)).trans a) ⟨_,q⟩ ?_;exact⟨hz,its',_,hv,q⟩
theorem Inv.Sq(I:Inv X Zb Z H s)(b:Vals ys A4)(a:ys.length<=sizeLine):
  Inv X Zb Z (upd H s.heap.objs.size (.lst ys)) { s with heap:=s.heap.push { cls:=.type "list", data:=.seq A4.toArray },toks:=t' }:=
 I.laid (λ_ _ q=>Bz _ q) (Ae _) ⟨a,A4,0,b,D0 _ rfl⟩
theorem Inv.fresh(I:Inv X Zb Z H s):H s.heap.objs.size=none:=I.AF.fresh (Ae _)
theorem Inv.Hn(I:Inv X Zb Z H s)(a:H l=some (.lst xs)):xs.length<=sizeLine/\∃(A4:List Value)(n:Nat),Vals xs A4/\xs.length=A4.length/\s.heap.get? l=some { cls:=.type "list", data:=.seq A4.toArray n }:=by
 obtain⟨z,A4,n,r,e⟩:=I.AF l _ a;exact⟨z,A4,n,r,r.length,e⟩
theorem v9(h:n<=sizeLine):Builtin.List.listTooLong n=false:=by
 unfold Builtin.List.listTooLong;exact jo (by omega)
def Qc:V->List V->Hp->VK->Prop:=λx vs H Q=>∃l xs y,x=.ref l/\vs=[y]/\H l=some (.lst xs)/\xs.length<sizeLine/\Q .A9 (upd H l (.lst (xs++[y])))
theorem gB:Lh X "list.append" Qc:=by
 intro Zb s Z H x vs v us Q I b c h;obtain⟨l,xs,y,rfl,rfl,a,f,q⟩:=h;cases b;obtain⟨u,rfl,d⟩:=c.one;obtain⟨z,A4,n,r,g,e⟩:=I.Hn a;refine oJ F.slot_list_append ⟨_,e,rfl⟩ F.entry_list_append (F.args_list_append_2 _ _) (PySem.list_append l A4.toArray n u (by rw[Bf];omega)) ⟨e,?_⟩;refine⟨.A9,_,I.LA (its':=A4++[u]) a e (by simp) (r.append (.cons d .nil)) ?_,rfl,q⟩;rw[Bj,Il];omega
def SE:V->List V->Hp->VK->Prop:=λx vs H Q=>∃l b xs zs,x=.ref l/\vs=[.ref b]/\H l=some (.lst xs)/\H b=some (.lst zs)/\xs.length+zs.length<=sizeLine/\Q .A9 (upd H l (.lst (xs++zs)))
theorem y9:Lh X "list.extend" SE:=by
 intro Zb s Z H x vs v us Q I d f h;obtain⟨l,b,xs,zs,rfl,rfl,a,k,p,q⟩:=h;cases d;obtain⟨u,rfl,g⟩:=f.one;cases g;obtain⟨z,A4,n,r,t,e⟩:=I.Hn a;obtain⟨o,DN,j,i,DL,m⟩:=I.Hn k;have hsz:A4.toArray.size+DN.toArray.size<=sizeLine:=by rw[Bf,Bf];omega
 have c:¬ (!A4.toArray.isEmpty && Builtin.List.listTooLong (A4.toArray.size+DN.toArray.size))=true:=by
  rw[v9 hsz,XU];exact Co
 refine oJ F.slot_list_extend ⟨_,e,rfl⟩ F.entry_list_extend (F.args_list_extend_2 _ _)
  (AutoSeq1.list_extend_list_list_0 l A4.toArray n b DN.toArray j c (by rw[Bf];omega) (by omega)) ⟨e,m,?_⟩
 refine⟨.A9,_,I.LA (its':=A4++DN) a e (by simp) (r.append i) ?_,rfl,q⟩;rw[Bj];omega
def Vo:V->List V->Hp->VK->Prop:=λx vs H Q=>∃l xs y,x=.ref l/\vs=[]/\H l=some (.lst xs)/\xs[xs.length - 1]?=some y/\Q y (upd H l (.lst xs.dropLast))
theorem sx:Lh X "list.pop" Vo:=by
 intro Zb s Z H x vs v us Q I c d h;obtain⟨l,xs,y,rfl,rfl,a,g,q⟩:=h;cases c;have k:=d.zero;subst k;obtain⟨z,A4,n,r,j,e⟩:=I.Hn a;obtain⟨u,i,f⟩:=r.get g;have b:A4.toArray[A4.toArray.size - 1]?=some u:=by
  show A4.toArray[A4.length - 1]?=some u;rw[<- gj,<- j];exact i
 refine oJ F.slot_list_pop ⟨_,e,rfl⟩ F.entry_list_pop (F.args_list_pop_1 _) (MeetsSeq.list_pop_last l A4.toArray n u b (by rw[Bf];omega)) ⟨e,?_⟩;refine⟨y,_,I.LA (its':=A4.dropLast) a e ?_ r.dropLast ?_,f,q⟩
 .show A4.toArray.eraseIdxIfInBounds (A4.toArray.size - 1)=A4.dropLast.toArray;rw[Bf,ZAb,tw]
 .rw[List.length_dropLast];omega
def W3:V->List V->Hp->VK->Prop:=λx vs H Q=>∃l xs,x=.ref l/\vs=[]/\H l=some (.lst xs)/\Q .A9 (upd H l (.lst []))
theorem lS:Lh X "list.clear" W3:=by
 intro Zb s Z H x vs v us Q I b c h;obtain⟨l,xs,rfl,rfl,a,q⟩:=h;cases b;have d:=c.zero;subst d;obtain⟨z,A4,n,r,f,e⟩:=I.Hn a;refine oJ F.slot_list_clear ⟨_,e,rfl⟩ F.entry_list_clear (F.args_list_clear_1 _) (AutoSeq1.list_clear_list_0 l A4.toArray n (by rw[Bf];omega)) ⟨e,?_⟩;exact⟨.A9,_,I.LA (its':=[]) (ys:=[]) a e rfl .nil (CA _),rfl,q⟩
def Zk:R2:=λx y H Q=>∃l b xs zs,x=.ref l/\y=.ref b/\H l=some (.lst xs)/\H b=some (.lst zs)/\xs.length+zs.length<=sizeLine/\∀p,H p=none->Q (.ref p) (upd H p (.lst (xs++zs)))
theorem R3:B6 X (binaryOp .Add) Zk:=by
 intro Zb s Z H x y v u Q I c a h;obtain⟨l,b,xs,zs,rfl,rfl,f,g,m,q⟩:=h;cases c;cases a;obtain⟨z,A4,n,r,o,e⟩:=I.Hn f;obtain⟨j,DN,k,d,DL,i⟩:=I.Hn g;refine PySem.P.add_list e i ?_ (by rw[Bf,Bf];omega);have ea:A4.toArray++DN.toArray=(A4++DN).toArray:=by simp
 rw[ea];exact⟨.ref _,_,I.Sq (t':=s.toks) (r.append d) (by rw[Bj];omega),rfl,q _ I.fresh⟩
variable{prog:Program}{w:World}{E:Value->Shared->Prop}
set_option maxRecDepth 100000 in
end
end L2
namespace bB
open PySem.W PySem.Calls
variable{h:Heap}{l:OpenLaw}{n:Nat}{prog q:Program}
theorem oO{P:Params}:∀(ns:List Int)(vs:List Value),WellAll P h vs (ns.map WData.int)->IntsAre vs ns:=by
 intro ns
 induction ns with
 |nil=>
  intro vs w;rw[Im]at w;cases w;exact .nil
 |cons n ns c=>
  intro vs w;rw[Aq]at w;cases w with
  |cons a b=>
   cases a;exact .cons _ _ (c _ b)
theorem ZAD(m:l.most=some n){P:Params}{args:List WData}{vals:List Value}
  (HZ:l.row.toRowW.claim.pre args=true) (WW:WellAll P h vals args) :
  ∃a vs ns,vals=[Value.ref a]/\args=[WData.list (ns.map WData.int)]/\h.get? a=some { cls:=.type "list", data:=.seq vs.toArray }/\IntsAre vs ns/\ns.length<=n:=by
 have j:WShape.hasAll [] args [.list .int]=true:=(pre_splitW HZ).1;have f:l.pre.holds [] { args:=args }=true:=(pre_splitW HZ).2;obtain⟨d,r,rfl,h1,h2⟩:=hasAllW_cons j;obtain rfl:=hasAllW_nil h2;obtain⟨xs,rfl,o⟩:=hasW_list h1;obtain⟨ns,rfl⟩:=items_int o;have b:ns.length<=n:=by
  unfold OpenLaw.pre at f;have e:(WTm.not (.lt (.lit (.int (n:Int))) (.len (.arg 0)))).holds [] { args:=[.list (ns.map .int)] }=true:=by
   have e:=(holds_andW f).1;rw[m]at e;exact e
  have c:=condW_of e (w_not (w_lt w_lit (w_len_list (w_arg rfl))));rw[AA]at c;refine ZAp λq=>?_;have k:(n:Int)<((ns.length:Nat):Int):=by omega
  first
   | (rw[jE k]at c;exact absurd c (by decide))
   | (simp at c;omega)
 cases WW with
 |cons i g=>
  cases g;cases i with
  |list ho JG=>exact⟨_,_,ns,rfl,rfl,ho,oO ns _ JG,b⟩
theorem nH(l:OpenLaw)(args:List WData):l.row.toRowW.claim.post args (.bool true) args=true:=
 postW_of (r:=l.row.toRowW) (X:=(true == true))
  (show WShape.has [] (.bool true) .bool=true by first|rfl|decide|simp[WShape.has,WShape.arms,WShape.armsAll])
  (show(WTm.eq .res (.lit (.bool true))).value [] { args:=args,res:=some (.bool true),after:=args }=some (.bool (true == true))from w_eq_bool (w_res rfl) w_lit) rfl
theorem z7{loose:List Str}{XP:(ZBe)->Heap->Prop}{YP:World->Heap->Prop}{d:DefRec}
  (p:l.most=some n) (NG:d.params.defaults=[])
  (call:∀(w:World)(s₀ b:Shared)(mg mb:ZBe)(h:Addr)(o:Obj)(i cd e:Value)(a:Addr)(vs:List Value)(ns:List Int),
   Ground q loose [] XP w s₀ mg mb b.heap->YP w b.heap->
   b.heap.get? h=some o->o.data=.func (docDef d.name d.params d.body d.scope i cd e)->b.heap.CodeRec cd d.name->mg d.name=some (.ref h)->
   b.heap.get? a=some { cls:=.type "list", data:=.seq vs.toArray }->IntsAre vs ns->ns.length<=n->b.gens=#[]->
   codeAny (model l.prog w) callerA (.call (.ref h) ⟨[.ref a],[]⟩) (λr s'=>r=.ok (.ret (.bool true))/\OldK b.heap s'.heap/\s'.os=b.os/\AllBare s'.gens) b) :
  WalkO q loose XP YP l.row.toRowW d [] (λf vs=>PySem.call f vs):=by
 intro w s₀ b mg mb G Y h o i cd e y kV ho hd Fh j P9 u args vals as HZ ZBB k WW t;obtain rfl:y=.none:=Dflts.none j NG;obtain rfl:kV=.none:=Dflts.noKw j;obtain⟨a,vs,ns,rfl,rfl,Ul,c,g⟩:=ZAD p HZ WW;refine enter_call (qH (call w s₀ b mg mb h o i cd e a vs ns G Y ho (fd_plain hd) Fh P9 Ul c g u) λr s' m=>?_);obtain⟨rfl,h2,x,v⟩:=m;exact⟨.inl ⟨.bool true,.bool true,[],rfl,λ_=>rfl,.bool true,nH l _,λ_=>⟨List.Pairwise.nil,λ_ s=>(nomatch s)⟩⟩,h2,x,v⟩
end bB
namespace L2
variable{w:World}{mg:ZBe}{fd:FuncData}{qual x:Str}{sp:Sp}{loose ps:List Str}{X:Cx}{f:Addr}{A B:Prop}
theorem Ye:∀{vs:List Value}{ns:List Int},IntsAre vs ns->Vals (ns.map V.int) vs
 |_,_,.nil=>.nil
 |_,_,.cons n t h=>.cons ⟨t,rfl⟩ (Ye h)
def SO(H:Hp):Prop:=∀b,H b=none∨∃o xs,H b=some (.Du o (.lst xs))
theorem xB{P:Program}{K:ZBc}{mb:ZBe}{CX:FV}{k:Nat}{t a:Addr}{c:Shared}{vs:List Value}{ns:List Int}
  (KX:K.In c.heap) (Lc:c.heap.Ns mainGlobals mg) (f:c.heap.Ns builtinsNs mb) (M:∀x:Str,x ≠"__name__" -> mb x=bootBuiltins x) (J:c.heap.NoLimit) (R:c.gens=#[])
  (l:c.heap.get? a=some { cls:=.type "list", data:=.seq vs.toArray }) (hi:IntsAre vs ns) (hl:ns.length<=sizeLine) (hr:BR k callerA)
  (F:∀Zj:Heap,K.In Zj->Zj.Ns mainGlobals mg->CD P w K mg Zj CX k t fd [x] sp) (yg:∀(s:Shared)(u:Value),BindsTo s fd ⟨[u],[]⟩ [(x,u)])
  (Fc:∀H:Hp,SO H->AQ K H a (ns.map V.int)->sp [.ref a] H (λv _=>v=.bl true) λ_ _ _=>False)
  (Vt:∀H e s',CX [] H c (λ_ _ _=>False) e s'->False) :
  codeAny (model P w) callerA (.call (.ref t) ⟨[.ref a],[]⟩) (λr s'=>r=.ok (.ret (.bool true))/\OldK c.heap s'.heap/\s'.os=c.os/\AllBare s'.gens) c:=by
 have A:=Ye hi;have O:=hi.length
 -- from an abstract heap in ZBT nothing but Gk aR may be tracked
 have g:∀H:Hp,SO H->AQ K H a (ns.map V.int)->BW P w H c.heap->(∀b,H b≠none->b=a)->(H a≠none->K.lookup a=none)->
   codeAny (model P w) callerA (.call (.ref t) ⟨[.ref a],[]⟩) (λr s'=>r=.ok (.ret (.bool true))/\OldK c.heap s'.heap/\s'.os=c.os/\AllBare s'.gens) c:=by
  intro H B S AF C U;have D:∀{b:Addr}{o:Obj},c.heap.get? b=some o->H b=none->(Hv c.heap H).get? b=some o:=λe n=>yN e n;have Y:∀{b:Addr}{o:Obj}{es:Array DictEntry}{j:Nat},c.heap.get? b=some o->o.data=.dict es j->H b=none:=λ{b o es j}e d=>by
   cases q:H b with
   |none=>rfl
   |some u=>
    have y:b=a:=C b (by rw[q];simp);subst y;rw[l]at e;cases e;have d':Data.seq vs.toArray _=Data.dict es j:=d;cases d'
  have p:∀{b:Addr}{m:ZBe},c.heap.Ns b m->(Hv c.heap H).Ns b m:=λ{b m}AD=>by obtain⟨o,es,j,e,d,r⟩:=AD;exact⟨o,es,j,D e (Y e d),d,r⟩
  have G:K.In (Hv c.heap H):=λb o e=>D (KX b o e) (by
   cases q:H b with
   |none=>rfl
   |some u=>
    have y:b=a:=C b (by rw[q];simp);subst y;rw[U (by rw[q];simp)]at e;cases e)
  have T:Mod K mg (Hv c.heap H):=⟨G,p Lc,⟨mb,p f,M⟩,let ⟨mc,h1,h2⟩:=J;⟨mc,p h1,h2⟩⟩;have e0:Jz P w K mg (Hv c.heap H) callerA [] c H:=⟨rfl,T,λb o e=>qm e,i7 (vF _ _),trivial,λb f=>absurd (show b∈([]:List Addr)from f) (by simp),AF,.of_eq R⟩;refine qH ((F _ G (p Lc)).run callerA [] c H ⟨[.ref a],[]⟩ [.ref a] [.ref a] _ _ hr e0 (yg c (.ref a)) (.cons rfl .nil) (Fc H B S)) λr s' h=>?_;cases r with
  |error e=>exact(Vt H e s' h).elim
  |ok W=>
   cases W with
   |next=>exact False.elim h
   |brk=>exact False.elim h
   |cont=>exact False.elim h
   |ret u=>
    obtain⟨v,H',os,bare,un,L,N,q⟩:=h;have Q:v=.bl true:=q;subst Q;obtain rfl:u=Value.bool true:=N;refine⟨rfl,OldK.of_keep λb o e=>?_,os,bare⟩;cases q:H b with
    |none=>exact un.keep b o e q (by intro z;exact absurd (show b∈([]:List Addr)from z) (by simp)) (by simp)
    |some u=>
     rcases B b with z|⟨ob,xs,z⟩
     .rw[q]at z;cases z
     .have I:=un.Fd b ob _ z;obtain⟨E,_⟩:=AF b _ z;obtain⟨X,_⟩:=L b _ I;rw[e]at E;cases E;exact X
 cases hk:K.lookup a with
 |some o=>
  -- Gk aR is one of Gk ZBY own objects
  have e:=KX a o hk;rw[l]at e;cases e;refine g (λ_=>none) (λ_=>.inl rfl) (.inr ⟨_,vs.toArray,_,hk,rfl,rfl,rfl,by rw[Bf,O];exact hl,by simpa using A⟩) (λb u z=>by have i:(none:Option HO)=some u:=z;cases i) (λb z=>absurd rfl z) λz=>absurd rfl z
 |none=>
  refine g (λb=>if b=a then some (.Du { cls:=.type "list", data:=.seq vs.toArray } (.lst (ns.map V.int)))else none) (λb=>?_) (.inl (.inr ⟨{ cls:=.type "list", data:=.seq vs.toArray },ir rfl⟩)) (λb u z=>?_) (λb z=>?_) λ_=>hk
  .by_cases f:b=a
   .exact .inr ⟨_,_,ir f⟩
   .exact .inl (ib f)
  .by_cases f:b=a
   .have i:=(ir f).symm.trans z;cases i;subst f;exact⟨l,by rw[AA];exact hl,vs,_,A,l⟩
   .have i:=(ib f).symm.trans z;cases i
  .by_cases f:b=a
   .exact f
   .exact absurd (ib f) z
theorem xq{l:PySem.W.OpenLaw}{n k:Nat}{q:Program}{XP:(ZBe)->Heap->Prop}{YP:World->Heap->Prop}{d:DefRec}{K:Params->ZBc}{CX:World->FV}{sp:World->Sp}
  (t:l.most=some n) (FQ:n<=sizeLine) (NG:d.params.defaults=[]) (r:BR k callerA)
  (A:∀(w:World)(h:Heap),YP w h->(K w.params).In h)
  (F:∀(w:World)(mg:ZBe)(j:Addr)(h:Heap),(K w.params).In h->h.Ns mainGlobals mg->mg d.name=some (.ref j)->
   ∃fd:FuncData,(∀(s:Shared)(u:Value),BindsTo s fd ⟨[u],[]⟩ [(x,u)])/\
    ∀Zj:Heap,(K w.params).In Zj->Zj.Ns mainGlobals mg->CD l.prog w (K w.params) mg Zj (CX w) k j fd [x] (sp w))
  (Fc:∀(w:World)(H:Hp)(a:Addr)(ns:List Int),ns.length<=n->SO H->AQ (K w.params) H a (ns.map V.int)->sp w [.ref a] H (λv _=>v=.bl true) λ_ _ _=>False)
  (Vt:∀(w:World)(H:Hp)(s:Shared)(e:Value)(s':Shared),CX w [] H s (λ_ _ _=>False) e s'->False) :
  PySem.W.WalkO q loose XP YP l.row.toRowW d [] (λf vs=>PySem.call f vs):=by
 refine bB.z7 t NG λw s₀ p mg mb j o I cd E a vs ns G Y ho hd Fh P9 Ul i c y=>?_;have m:=A w _ Y;obtain⟨fd,z,D⟩:=F w mg j _ m G.T.g P9;exact xB m G.T.g G.T.b G.T.builtins G.T.nolimit y Ul i (CU c FQ) r D z (λH C B=>Fc w H a ns c C B) λH e s'=>Vt w H p e s'
noncomputable def Oh(s:Stmt):Arguments:=match s with
 | .FunctionDef _ a _ _ _ _ _ _ _ _=>a
 |_=>{ posonlyargs:=[],args:=[],vararg:=none,kwonlyargs:=[],kw_defaults:=[],kwarg:=none,defaults:=[] }
noncomputable def J4(s:Stmt):List Stmt:=match s with
 | .FunctionDef _ _ b _ _ _ _ _ _ _=>b
 |_=>[]
noncomputable def AX(s:Stmt):Scope:=match s with
 | .FunctionDef _ _ _ _ _ _ sc _ _ _=>sc
 |_=>{ kind:=.function,names:=[],isGenerator:=false,isCoroutine:=false }
abbrev Fj:FV:=λ_ _ _ _ _ _=>False
abbrev E0:XK:=λ_ _ _=>False
theorem R8:Passes Fj X E0:=λ_ _ _ _ _ _ _ h=>h.elim
structure AO (K:ZBc) (x qual:Str) (st:Stmt) (f:Addr) (fd:FuncData):Prop where
 ex:∃(oc:Value)(od:Option Addr)(kV doc pm:Value)(an:Option Addr)(AY ct:Value)(IB:Array (Option Value)),
  fd=PySem.W.fnOf x qual (Oh st) (J4 st) (AX st) .none kV doc pm an AY ct/\K.lookup f=some ⟨oc,od,.func fd,IB⟩/\PySem.W.codeIn K AY qual=true
 kp:PySem.W.keepIn K (.ref f)=true
section
variable{P:Program}{K:ZBc}{Zj:Heap}
theorem AO.ok{st:Stmt}{N:List Str}{k:Nat}(F:AO K x qual st f fd)(S:BG N ps (AX st))(len:∀vs H Q E,sp vs H Q E->vs.length=ps.length)
  (KI:∀(AY:Value)(A:Around)(outer:List Env)(s:Shared)(H:Hp)(vs:List V)(Q:VK)(E:XK),BR k (A.deeper (envOfC qual (AX st) s.heap.objs.size f AY))->sp vs H Q E->
   ∃t,DO (Dy Fj P w K mg Zj N qual (AX st) f AY A outer s H E).P1 (J4 st) t/\t { nx:=λ_ H'=>Q .A9 H',rt:=Q } (start N vs) H):CD P w K mg Zj Fj (k+1) f fd ps sp:=by
 obtain⟨e,od,kV,c,d,g,AY,ct,IB,rfl,a,Fh⟩:=F.ex;refine Y3 a Fh S len λA outer s H vs Q E b Fc=>?_;obtain⟨t,h,q⟩:=KI AY A outer s H vs Q E b Fc;exact⟨t,h.P1,q⟩
theorem AO.binds{st:Stmt}(F:AO K x qual st f fd)
  (h:∀(kV a b:Value)(c:Option Addr)(AY ct:Value)(us:List Value),us.length=ps.length->bindArgs (PySem.W.fnOf x qual (Oh st) (J4 st) (AX st) .none kV a b c AY ct) ⟨us,[]⟩=pure (ps.zip us)):Binds K fd ps []:=by
 obtain⟨d,od,kV,a,b,c,AY,ct,IB,rfl,e,Fh⟩:=F.ex;exact .all (h kV a b c AY ct)
theorem yB{st:Stmt}{e:Value}{od d:Option Addr}{IB:Array (Option Value)}{kV a b AY ct:Value}(l:K.lookup f=some ⟨e,od,.func (PySem.W.fnOf x qual (Oh st) (J4 st) (AX st) .none kV a b d AY ct),IB⟩)
  (c:PySem.W.codeIn K AY qual=true) (k:PySem.W.keepIn K (.ref f)=true):AO K x qual st f (PySem.W.fnOf x qual (Oh st) (J4 st) (AX st) .none kV a b d AY ct):=⟨⟨e,od,kV,a,b,d,AY,ct,IB,rfl,l,c⟩,k⟩
end
theorem Dc{A:Around}{k:Nat}(a:BR k A):A.units+1<cLine:=Mg (Nat.add_le_add_left (by decide:1<=64) _) a.units
theorem NO(h:B):if false=true then A else B:=by
 rw[ib Co];exact h
theorem xg(h:A):if true=true then A else B:=by
 rw[ir rfl];exact h
theorem BY{c:Prop}[Decidable c](h1:c->A)(h2:¬ c->B):if c then A else B:=by
 by_cases h:c
 .rw[ir h];exact h1 h
 .rw[ib h];exact h2 h
def AJ(H H':Hp):Prop:=∀b o,H b=some o->H' b=some o
theorem AJ.refl(H:Hp):AJ H H:=λ_ _ h=>h
theorem AJ.trans{H H1 H2:Hp}(a:AJ H H1)(b:AJ H1 H2):AJ H H2:=λc o h=>b c o (a c o h)
end L2
set_option maxHeartbeats 4000000
namespace L2
variable{α κ:Type}{A5:List (List Key×V)}{o:Option V}{u:Value}{v y:V}{w:World}{H H' H1 H2 H4:Hp}{xs:List (List Key×Addr×Value)}{C a acc b it n:Addr}{h h' h1:Heap}{X Y:Cx}{Zb:ZBd}{ws Z:St}{s s2 s4:Shared}{A:Around}{E Q:Value->Shared->Prop}{i j n0 t' tk:Nat}{prog:Program}{env:Env}{c e elt tg value:Expr}{FO pos px py:Pos}{td te tv:TE}{outer scope:Scope}{cl closure:List (Str×Addr)}{qual x z:Str}{ce:Option Str}{es ifs:List Expr}{R:Result->Shared->Prop}{js:List Nat}{tt:TT}{J:It}{tn:Nat->Heap->Prop}{wi:TI}{CW:It->St->Hp->Addr->VK->Prop}{N:List Str}{ys:List V}{A4:List Value}
section
variable[DecidableEq κ]
noncomputable def DQ(A5:List (κ×V))(k:κ):Option V:=(A5.find? λa=>decide (a.1=k)).map (·.2)
def putK(A5:List (κ×V))(k:κ)(v:V):List (κ×V):=
 if(A5.any λa=>decide (a.1=k))=true then A5.map (λa=>if a.1=k then(a.1,v)else a)else A5++[(k,v)]
theorem N5{p:κ×V}{r:List (κ×V)}{k:κ}(e:p.1=k):DQ (p::r) k=some p.2:=by simp[DQ,PF,e]
theorem Nz{p:κ×V}{r:List (κ×V)}{k:κ}(e:¬ p.1=k):DQ (p::r) k=DQ r k:=by simp[DQ,PF,e]
theorem Pg(k:κ):∀A5:List (κ×V),(A5.any λa=>decide (a.1=k))=(DQ A5 k).isSome
 | []=>rfl
 |p::r=>by
  rw[MY]
  by_cases e:p.1=k
  .simp only[N5 e,jE e,Bool.true_or,ZAv]
  .rw[Nz e,jo e,Bool.false_or];exact Pg k r
theorem Vn(A5:List (κ×V))(k:κ)(v:V):(putK A5 k v).length<=A5.length+1:=by
 unfold putK;split
 .rw[AA];omega
 .rw[Bj,CG,Xf];omega
theorem OQ{A5:List (κ×V)}{k:κ}(v:V)(h:DQ A5 k=none):putK A5 k v=A5++[(k,v)]:=by
 unfold putK;rw[Pg,h];exact ib (by decide)
theorem EM.Mw{u:Option Value}(r:EM o u):o.isSome=u.isSome:=by
 cases o with
 |none=>cases u with
  |none=>rfl
  |some _=>exact(show False from r).elim
 |some _=>cases u with
  |none=>exact(show False from r).elim
  |some _=>rfl
theorem KV.val{A5:List (κ×V)}{vs:List (κ×Value)}(r:KV A5 vs)(k:κ):EM (DQ A5 k) (valueAt vs k):=by
 unfold KV at r
 induction r with
 |nil=>exact True.intro
 |@cons p q ps a h t d=>
  obtain⟨h1,h2⟩:=h
  by_cases e:p.1=k
  .have c:q.1=k:=h1.symm.trans e;have b:valueAt (q::a) k=some q.2:=by simp[valueAt,PF,c]
   rw[N5 e,b];exact h2
  .have c:¬ q.1=k:=λz=>e (h1.trans z);have b:valueAt (q::a) k=valueAt a k:=by simp[valueAt,PF,c]
   rw[Nz e,b];exact d
theorem KV.any{A5:List (κ×V)}{vs:List (κ×Value)}(r:KV A5 vs)(k:κ):(A5.any λa=>decide (a.1=k))=vs.any λa=>decide (a.1=k):=by
 unfold KV at r
 induction r with
 |nil=>rfl
 |cons h t b=>rw[MY,MY,b,h.1]
theorem KV.WI{A5:List (κ×V)}{vs:List (κ×Value)}(r:KV A5 vs)(k:κ)(b:RelV y u):
  KV (A5.map λa=>if a.1=k then(a.1,y)else a) (vs.map λa=>if a.1=k then(a.1,u)else a):=by
 unfold KV at r ⊢
 induction r with
 |nil=>exact .nil
 |@cons p q ps d h t c=>
  rw[Aq,Aq];refine .cons ?_ c;obtain⟨h1,h2⟩:=h
  by_cases e:p.1=k
  .rw[ir e,ir (h1.symm.trans e)];exact⟨h1,b⟩
  .rw[ib e,ib (λz=>e (h1.trans z))];exact⟨h1,h2⟩
theorem KV.put{A5:List (κ×V)}{vs:List (κ×Value)}(r:KV A5 vs)(k:κ)(a:RelV y u):KV (putK A5 k y) (stored vs k u):=by
 unfold putK stored;rw[r.any k]
 by_cases e:(vs.any λb=>decide (b.1=k))=true
 .rw[ir e,ir e];exact r.WI k a
 .rw[ib e,ib e];exact Paired.snoc r ⟨rfl,a⟩
theorem KV.keys{A5:List (κ×V)}{vs:List (κ×Value)}(r:KV A5 vs):A5.map (·.1)=vs.map (·.1):=by
 unfold KV at r
 induction r with
 |nil=>rfl
 |cons h t a=>rw[Aq,Aq,a,h.1]
theorem KV.length{A5:List (κ×V)}{vs:List (κ×Value)}(r:KV A5 vs):A5.length=vs.length:=iD r
end
theorem MD{P:Program}{k:Key}(r:RelV (kV k) u):(D9 P w).is k u=true:=by
 cases k with
 |inl i=>obtain⟨t,e⟩:=(show ∃t,u=Value.int i t from r);subst e;exact iY P w i t
 |inr x=>obtain⟨t,e⟩:=(show ∃t,u=Value.str x t from r);subst e;exact zx P w x t
theorem aZ{P:Program}{w:World}:∀{ks:List Key}{us:List Value},Vals (ks.map kV) us->ItemsAre (D9 P w) ks us
 | [],_,r=>by rw[Im]at r;cases r;exact .nil
 |k::ks,_,r=>by
  rw[Aq]at r;cases r with
  |cons h t=>exact .cons (MD h) (aZ t)
abbrev KT(H:Hp):List (List Key×V)->List (List Key×Addr×Value)->Prop:=Paired λp q=>p.1=q.1/\H q.2.1=some (.tup (p.1.map kV))/\RelV p.2 q.2.2
theorem KT.val(r:KT H A5 xs)(k:List Key):EM (DQ A5 k) ((atKey xs k).map (·.2)):=by
 induction r with
 |nil=>exact True.intro
 |@cons p q ps a h t d=>
  obtain⟨h1,_,h2⟩:=h
  by_cases e:p.1=k
  .have c:q.1=k:=h1.symm.trans e;have b:atKey (q::a) k=some q.2:=by simp[atKey,PF,c]
   rw[N5 e,b];exact h2
  .have c:¬ q.1=k:=λz=>e (h1.trans z);have b:atKey (q::a) k=atKey a k:=by simp[atKey,PF,c]
   rw[Nz e,b];exact d
theorem KT.WI(r:KT H A5 xs)(k:List Key)(b:RelV y u):
  KT H (A5.map λa=>if a.1=k then(a.1,y)else a) (xs.map (putAt k u)):=by
 induction r with
 |nil=>exact .nil
 |@cons p q ps f h t c=>
  rw[Aq,Aq];refine .cons ?_ c;obtain⟨h1,h2,d⟩:=h;unfold putAt
  by_cases e:p.1=k
  .rw[ir e,ir (h1.symm.trans e)];exact⟨h1,h2,b⟩
  .rw[ib e,ib (λz=>e (h1.trans z))];exact⟨h1,h2,d⟩
theorem KT.put(r:KT H A5 xs)(k:List Key)(d:H b=some (.tup (k.map kV)))(a:RelV y u):
  KT H (putK A5 k y) (storedH xs k b u):=by
 have e:(A5.any λc=>decide (c.1=k))=(atKey xs k).isSome:=by
  rw[Pg,(r.val k).Mw,Xo]
 unfold putK storedH;rw[e]
 by_cases q:(atKey xs k).isSome=true
 .rw[ir q,ir q];exact r.WI k a
 .rw[ib q,ib q];exact Paired.snoc r ⟨rfl,d,a⟩
theorem KT.keeps(r:KT H A5 xs)(a:∀b ys,H b=some (.tup ys)->H' b=some (.tup ys)):KT H' A5 xs:=
 Paired.WA r λ_ _ z=>⟨z.1,a _ _ z.2.1,z.2.2⟩
section
variable{P:Program}
theorem cK{u:HO}(ok:BW P w H h)(e:Rd H a u):Bu P w H h a u:=e.ok ok
theorem LN{A5:List (Key×V)}(ok:BW P w H h)(e:Rd H a (.dK A5)):A5.length<=sizeLine/\(a == sysModules)=false/\∃vs,KV A5 vs/\h.DictOf (D9 P w) a vs:=
 show Bu P w H h a (.dK A5)from cK ok e
theorem dq{A5:List (Key×V)}(ok:BW P w H h)(e:H a=some (.dK A5)):A5.length<=sizeLine/\(a == sysModules)=false/\∃vs,KV A5 vs/\h.DictOf (D9 P w) a vs:=LN ok (.inl e)
theorem Nf{ks:List Key}(ok:BW P w H h)(e:H a=some (.tup (ks.map kV))):(tupleKind (D9 P w)).is h ks a:=by
 obtain⟨_,A4,r,⟨o,h1,h2,n,b⟩,_⟩:=(show Bu P w H h a (.tup (ks.map kV))from ok a _ e);exact⟨o,A4.toArray,n,h1,h2,b,by simpa using aZ r⟩
theorem Nu(ok:BW P w H h)(e:Rd H a (.dT A5)):A5.length<=sizeLine/\(a == sysModules)=false/\
  ∃xs,KT H A5 xs/\h.DictOfH (tupleKind (D9 P w)) a xs:=by
 obtain⟨z,y,xs,r,o,es,i,h1,h2,g,f,d⟩:=(show Bu P w H h a (.dT A5)from cK ok e);refine⟨z,y,xs,r,o,es,i,h1,h2,g,f,λx hx=>?_,d⟩;have all:∀{l:List (List Key×V)}{m:List (List Key×Addr×Value)},KT H l m->∀x∈m,(tupleKind (D9 P w)).is h x.1 x.2.1:=by
  intro l m q
  induction q with
  |nil=>intro x hx;exact nomatch hx
  |@cons p q ps j b t c=>
   intro x hx;rcases List.mem_cons.mp hx with e|hx
   .subst e;exact Nf ok (by rw[<- b.1];exact b.2.1)
   .exact c x hx
 exact all r x hx
theorem rY(ok:BW P w H h)(e:H a=some (.dT A5)):A5.length<=sizeLine/\(a == sysModules)=false/\
  ∃xs,KT H A5 xs/\h.DictOfH (tupleKind (D9 P w)) a xs:=Nu ok (.inl e)
end
def E7(H:Hp)(a:Addr)(y:V)(r:Option V):Prop:=
 (∃A5 k,Rd H a (.dK A5)/\y=kV k/\r=DQ A5 k)∨∃A5 k b,Rd H a (.dT A5)/\y=.ref b/\H b=some (.tup (k.map kV))/\r=DQ A5 k
def IE(H:Hp)(a:Addr)(y v:V)(H':Hp):Prop:=
 (∃A5 k,H a=some (.dK A5)/\y=kV k/\A5.length<sizeLine/\H'=upd H a (.dK (putK A5 k v)))∨
 ∃A5 k b,H a=some (.dT A5)/\y=.ref b/\H b=some (.tup (k.map kV))/\A5.length<sizeLine/\H'=upd H a (.dT (putK A5 k v))
theorem E7.k{A5:List (Key×V)}{k:Key}(e:H a=some (.dK A5)):E7 H a (kV k) (DQ A5 k):=.inl ⟨A5,k,.inl e,rfl,rfl⟩
theorem E7.t{k:List Key}(e:H a=some (.dT A5))(c:H b=some (.tup (k.map kV))):E7 H a (.ref b) (DQ A5 k):=.inr ⟨A5,k,b,.inl e,rfl,c,rfl⟩
theorem IE.k{A5:List (Key×V)}{k:Key}(e:H a=some (.dK A5))(b:A5.length<sizeLine):IE H a (kV k) v (upd H a (.dK (putK A5 k v))):=.inl ⟨A5,k,e,rfl,b,rfl⟩
theorem IE.t{k:List Key}(e:H a=some (.dT A5))(d:H b=some (.tup (k.map kV)))(c:A5.length<sizeLine):
  IE H a (.ref b) v (upd H a (.dT (putK A5 k v))):=.inr ⟨A5,k,b,e,rfl,d,c,rfl⟩
section
variable{r:Value}
theorem Inv.big(I:Inv X Zb Z H s):sysModules<s.heap.objs.size:=by
 have h:mainGlobals<s.heap.objs.size:=(I.mod.glob.keeps I.bk).lt;exact iA (by decide) h
theorem ZAK(i:A.units+1<cLine)(I:Inv X Zb Z H s)(g:E7 H a y (some v))(f:RelV y u)(h:∀c s',Inv X Zb Z H s'->RelV v c->Q c s'):
  wpAny (model X.prog X.w) A (getItem (.ref a) u) Q E s:=by
 rcases g with⟨A5,k,e,d,l⟩|⟨A5,k,b,e,d,m,l⟩
 .subst d;obtain⟨z,hd,vs,rel,dd⟩:=LN I.AF e;obtain⟨c,hw,IM⟩:=EM.some_of (v:=v) (o:=valueAt vs k) (by rw[l];exact rel.val k);exact wpAny_getItem_of (MD f) dd.mapOf hw (h c _ (I.tok _) IM)
 .subst d;cases(show u=Value.ref b from f);obtain⟨z,hd,xs,rel,dd⟩:=Nu I.AF e;obtain⟨c,hw,IM⟩:=EM.some_of (v:=v) (o:=(atKey xs k).map (·.2)) (by rw[l];exact rel.val k)
  obtain⟨p,j,Hi⟩:=Option.map_eq_some_iff.mp hw;refine wpAny_getItem_heap (oo i) (Nf I.AF m) dd j ?_;rw[Hi];exact h c _ (I.tok _) IM
theorem sk(f:A.units+1<cLine)(I:Inv X Zb Z H s)(g:E7 H a y o)(d:RelV y u)(h:∀s',Inv X Zb Z H s'->Q (.bool o.isSome) s'):
  wpAny (model X.prog X.w) A (compareOp .In u (.ref a)) Q E s:=by
 rcases g with⟨A5,k,e,c,l⟩|⟨A5,k,b,e,c,i,l⟩
 .subst c;obtain⟨z,hd,vs,rel,dd⟩:=LN I.AF e;refine wpAny_in_of (MD d) hd dd.mapOf ?_;rw[<- (rel.val k).Mw,<- l];exact h _ (I.tok _)
 .subst c;cases(show u=Value.ref b from d);obtain⟨z,hd,xs,rel,dd⟩:=Nu I.AF e;refine wpAny_in_heap (oo f) (Nf I.AF i) hd dd ?_;have q:=(rel.val k).Mw;rw[Xo]at q;rw[<- q,<- l];exact h _ (I.tok _)
theorem sS(f:A.units+1<cLine)(I:Inv X Zb Z H s)(g:E7 H a y o)(d:RelV y u)(h:∀s',Inv X Zb Z H s'->Q (.bool (!o.isSome)) s'):
  wpAny (model X.prog X.w) A (compareOp .NotIn u (.ref a)) Q E s:=by
 rcases g with⟨A5,k,e,c,l⟩|⟨A5,k,b,e,c,i,l⟩
 .subst c;obtain⟨z,hd,vs,rel,dd⟩:=LN I.AF e;refine wpAny_notIn_of (MD d) hd dd.mapOf ?_;rw[<- (rel.val k).Mw,<- l];exact h _ (I.tok _)
 .subst c;cases(show u=Value.ref b from d);obtain⟨z,hd,xs,rel,dd⟩:=Nu I.AF e;refine wpAny_notIn_heap (oo f) (Nf I.AF i) hd dd ?_;have q:=(rel.val k).Mw;rw[Xo]at q;rw[<- q,<- l];exact h _ (I.tok _)
theorem VU{ob:HO}(I:Inv X Zb Z H s)(d:NM (H a))(f:Heap.SameBut a s.heap h')(g:∃q,h'.get? a=some q)(c:Bu X.prog X.w (upd H a ob) h' a ob):
  Inv X Zb Z (upd H a ob) { s with heap:=h',toks:=t' }:=
 I.write (x:=a) (e:=a) d (.inl rfl) (λb q h z=>(f.2 b h).trans z) g c
theorem YV{P:Program}{A5:List (Key×V)}{vs:List (Key×Value)}(z:A5.length<=sizeLine)(hd:(a == sysModules)=false)(rel:KV A5 vs)(dd:h'.DictOf (D9 P w) a vs):
  Bu P w H' h' a (.dK A5):=⟨z,hd,vs,rel,dd⟩
theorem o4{Q:Unit->Shared->Prop}(B:A.units+1<cLine)(I:Inv X Zb Z H s)(g:IE H a y v H')(o:RelV y u)(p:RelV v r)(h:∀s',Inv X Zb Z H' s'->Q () s'):
  wpAny (model X.prog X.w) A (setItem (.ref a) u r) Q E s:=by
 rcases g with⟨A5,k,e,m,l,n⟩|⟨A5,k,b,e,m,x,l,n⟩
 .subst m n;obtain⟨z,hd,vs,rel,dd⟩:=dq I.AF e;have f:vs.length<=sizeLine:=by rw[<- rel.length];exact z
  have j:(putK A5 k v).length<=sizeLine:=by have:=Vn A5 k v;omega
  refine wpAny_setItem_pairs (hsz:=f) (MD o) dd λh' K5 i=>h _ ?_;have C:∃q,h'.get? a=some q:=let ⟨q,_,_,d,_⟩:=K5;⟨q,d⟩;exact VU I (by rw[e];exact True.intro) i C (YV j hd (rel.put k p) K5)
 .subst m n;cases(show u=Value.ref b from o);obtain⟨z,hd,xs,rel,dd⟩:=rY I.AF e;have f:xs.length<=sizeLine:=by rw[<- iD rel];exact z
  have j:(putK A5 k v).length<=sizeLine:=by have:=Vn A5 k v;omega
  refine wpAny_setItem_heap (hsz:=f) (oo B) (Nf I.AF x) dd λh' K5 i=>h _ ?_;obtain⟨q,es,J,d,h2,G,F,_,D⟩:=K5;refine VU I (by rw[e];exact True.intro) i ⟨q,d⟩ ⟨j,hd,_,(rel.put k x p).keeps λc ys t=>?_,q,es,J,d,h2,G,F,D⟩;rw[AS (kj t e (λz=>nomatch z))];exact t
variable{A5:List (Key×V)}{k:Key}
end
def XM(i:Expr):Prop:=∀a b,subscripted i false a b=operate [a,b] (getItem a b)
theorem xC{a:Expr}{T id:String}
  (m:typeLookup (.type T) "__getitem__"=pure (some (.builtin id))) (l:XM a)
  (h:wpAny (model prog w) A (eval value env) (λo f=>wpAny (model prog w) A (eval a env) (λi c=>c.TypeIs o T/\wpAny (model prog w) A (getItem o i) Q E c) E f) E s) :
  wpAny (model prog w) A (eval (.Subscript value a pos) env) Q E s:=by
 refine Subscript_ (jx h (λo f k=>jx k (λi c d=>?_) λ_ _ x=>x) λ_ _ x=>x);obtain⟨g,d⟩:=d;unfold subscriptTail;refine iM ?_;rw[getitemInPython_of_ne g.not_modules];refine iM (wpAny_specialOf g m ?_);have b:wpAny (model prog w) A (subscripted a false o i) (λr e=>wpAny (model prog w) A (letTemporaryGo value o r >>= λ_=>pure r) Q E e) E c:=by
  rw[l o i];exact wpAny_operating (jx d (λr e j=>iM (wpAny_letTemporaryGo (jP j))) λ_ _ x=>x)
 first
  |exact jP (iM b)
  |exact iM (jP (iM b))
  |exact iM b
theorem wx(I:Inv X Zb Z H s)(g:E7 H a y o):s.TypeIs (.ref a) "dict" := by
 rcases g with⟨A5,k,e,_,_⟩|⟨A5,k,b,e,_,_,_⟩
 .obtain⟨_,_,vs,_,dd⟩:=LN I.AF e;exact dd.typeIs
 .obtain⟨_,_,xs,_,dd⟩:=Nu I.AF e;exact dd.typeIs
def OY(td ty:TE):TE:=λZ H Q=>td Z H λx H1=>ty Z H1 λy H2=>∃a v,x=.ref a/\E7 H2 a y (some v)/\Q v H2
def P8(ty td:TE):TE:=λZ H Q=>ty Z H λy H1=>td Z H1 λx H2=>∃a o,x=.ref a/\E7 H2 a y o/\Q (.bl o.isSome) H2
def QY(ty td:TE):TE:=λZ H Q=>ty Z H λy H1=>td Z H1 λx H2=>∃a o,x=.ref a/\E7 H2 a y o/\Q (.bl (!o.isSome)) H2
def Ot(td ty tv:TE):TS:=λD Z H=>tv Z H λv H1=>td Z H1 λx H2=>ty Z H2 λy H3=>∃a H4,x=.ref a/\IE H3 a y v H4/\D.nx Z H4
section
variable{o i:Expr}{pos' TN:Pos}{ty:TE}
theorem dU(k:X.A.units+1<cLine)(hi:PE X i ty)(ho:PE X o td):PC X .In i o (P8 ty td):=by
 intro Zb s Z H Q I h;refine AI (hi Zb s Z H _ I h) λm b⟨y,H1,I1,c,f⟩=>AI (ho Zb b Z H1 _ I1 f) λu s2⟨x,H2,I2,d,a,j,ex,g,e⟩=>?_;subst ex;obtain rfl:u=Value.ref a:=d;exact sk k I2 g c λl I3=>⟨.bl j.isSome,H2,I3,rfl,e⟩
theorem p8(k:X.A.units+1<cLine)(hi:PE X i ty)(ho:PE X o td):PC X .NotIn i o (QY ty td):=by
 intro Zb s Z H Q I h;refine AI (hi Zb s Z H _ I h) λm b⟨y,H1,I1,c,f⟩=>AI (ho Zb b Z H1 _ I1 f) λu s2⟨x,H2,I2,d,a,j,ex,g,e⟩=>?_;subst ex;obtain rfl:u=Value.ref a:=d;exact sS k I2 g c λl I3=>⟨.bl (!j.isSome),H2,I3,rfl,e⟩
end
theorem ZO{P:Program}(h:Heap)(a:sysModules<h.objs.size):Bu P w H (h.push { cls:=.type "dict", data:=.dict #[] }) h.objs.size (.dK []):=
 ⟨CA _,beq_eq_false_iff_ne.mpr (B5 (CV a)),[],.nil,Heap.DictOf.new h⟩
theorem qD{P:Program}(h:Heap)(a:sysModules<h.objs.size):Bu P w H (h.push { cls:=.type "dict", data:=.dict #[] }) h.objs.size (.dT []):=
 ⟨CA _,beq_eq_false_iff_ne.mpr (B5 (CV a)),[],.nil,_,#[],0,D0 _ rfl,⟨rfl,rfl,rfl⟩,rfl,rfl,GC⟩
def V8:TE:=λ_ H Q=>∀p,H p=none->Q (.ref p) (upd H p (.dK []))
def XI:TE:=λ_ H Q=>∀p,H p=none->Q (.ref p) (upd H p (.dT []))
def Ub:List (TE×TE)->St->Hp->(List (V×V)->Hp->Prop)->Prop
 | [],_,H,Q=>Q [] H
 | (tk,tv)::r,Z,H,Q=>tk Z H λx H1=>tv Z H1 λy H2=>Ub r Z H2 λps H3=>Q ((x,y)::ps) H3
abbrev VV:List (V×V)->List (Value×Value)->Prop:=Paired λp q=>RelV p.1 q.1/\RelV p.2 q.2
def Iu(X:Cx)(pos:Pos)(keys:List (Option Expr))(values:List Expr)(Eb:List (TE×TE)):Prop:=
 ∀(Zb:ZBd)(s:Shared)(Z:St)(H:Hp)(Q:List (V×V)->Hp->Prop),Inv X Zb Z H s->Ub Eb Z H Q->
  wpAny (model X.prog X.w) X.A (evalPairs (pairTrees keys values X.env pos)) (λvs s'=>∃ps H',Inv X Zb Z H' s'/\VV ps vs/\Q ps H') X.xe s
theorem ya:Iu X pos [] [] []:=λZb s Z H Q I h=>pairTrees_nil_walk ⟨[],H,I,.nil,h⟩
theorem qN{k v:Expr}{ks:List (Option Expr)}{vs:List Expr}{tk:TE}{Eb:List (TE×TE)}(hk:PE X k tk)(g:PE X v tv)(i:Iu X pos ks vs Eb):
  Iu X pos (some k::ks) (v::vs) ((tk,tv)::Eb):=λZb s Z H Q I h=>
 pairTrees_cons_walk (AI (hk Zb s Z H _ I h) λu a⟨x,H1,I1,c,f⟩=>AI (g Zb a Z H1 _ I1 f) λj s2⟨y,H2,I2,b,e⟩=>
  AI (i Zb s2 Z H2 _ I2 e) λws l⟨ps,H3,I3,rel,d⟩=>⟨(x,y)::ps,H3,I3,.cons ⟨c,b⟩ rel,d⟩)
def JH(A5 more:List (Key×V)):List (Key×V):=more.foldl (λacc a=>putK acc a.1 a.2) A5
theorem KV.merge:∀{more:List (Key×V)}{a:List (Key×Value)}{A5:List (Key×V)}{vs:List (Key×Value)},KV more a->KV A5 vs->KV (JH A5 more) (merged vs a):=by
 intro more a A5 vs r;unfold KV at r
 induction r generalizing A5 vs with
 |nil=>intro q;exact q
 |@cons p q ps d h t c=>
  intro b;have e:KV (putK A5 p.1 p.2) (stored vs q.1 q.2):=by
   have:=b.put p.1 h.2;rw[<- h.1];exact this
  exact c e
theorem Yl:∀(more A5:List (Key×V)),(JH A5 more).length<=A5.length+more.length
 | [],A5=>by show A5.length<=A5.length+0;omega
 |p::r,A5=>by
  have h1:=Yl r (putK A5 p.1 p.2);have h2:=Vn A5 p.1 p.2;show(JH (putK A5 p.1 p.2) r).length<=_;rw[CG];omega
theorem Zn{P:Program}{w:World}:∀{A5:List (Key×V)}{ws:List (Value×Value)},VV (A5.map λe=>(kV e.1,e.2)) ws->∃d,Carries (D9 P w) ws d/\KV A5 d
 | [],_,r=>by rw[Im]at r;cases r;exact⟨[],True.intro,.nil⟩
 |p::A5,_,r=>by
  rw[Aq]at r;cases r with
  |@cons a b as bs h t=>
   obtain⟨d,c,q⟩:=Zn (P:=P) (w:=w) t;obtain⟨g,f⟩:=b;exact⟨(p.1,f)::d,⟨MD h.1,rfl,c⟩,.cons ⟨rfl,h.2⟩ q⟩
def Ur(Eb:List (TE×TE)):TE:=λZ H Q=>∀p,H p=none->Ub Eb Z (upd H p (.dK [])) λps H2=>H2 p=some (.dK [])/\∃A5:List (Key×V),ps=A5.map (λa=>(kV a.1,a.2))/\A5.length<=15/\Q (.ref p) (upd H2 p (.dK (JH [] A5)))
theorem qS{β:Type}{l:List α}{f:α->β->Sem (ForInStep β)}(g:β->α->β)(h:∀x∈l,∀c,f x c=pure (.yield (g c x))):∀c,forIn l c f=pure (l.foldl g c):=by
 induction l with
 |nil=>intro c;rfl
 |cons x l a=>
  intro c;rw[List.forIn_cons,h x ES,pure_bind];exact a (λy b=>h y (DV _ b)) (g c x)
noncomputable def Jf(cells:List (Str×Addr))(cs:List (Str×Addr))(x:Str×NameKind):List (Str×Addr):=
 if x.2=.free then(x.1,(cells.lookup x.1).getD 0)::cs else cs
def Ba(cells:List (Str×Addr))(names:List (Str×NameKind)):List (Str×Addr):=names.foldl (Jf cells) []
theorem pK(h:∀x∈scope.names,x.2=.free->(env.cells.lookup x.1).isSome=true):closureFor scope env=pure (Ba env.cells scope.names):=by
 simp only[closureFor];rw[qS (Jf env.cells) (λx hx c=>by
  obtain⟨n,k⟩:=x;unfold Jf
  by_cases hk:k=NameKind.free
  .subst hk;have q:=h _ hx rfl;obtain⟨a,e⟩:=Option.isSome_iff_exists.mp q;have b:env.cells.lookup n=some a:=e;have d:cellOf env n=pure a:=by unfold cellOf;rw[b]
   simp[d,b]
  .have:(k == NameKind.free)=false:=by simpa using hk
   simp[this,hk])]
 rfl
theorem Y1{cells:List (Str×Addr)}:∀(names:List (Str×NameKind))(acc:List (Str×Addr)),(∀y∈names,y.2=.free->(cells.lookup y.1).isSome=true)->
  (∀x c,acc.lookup x=some c->cells.lookup x=some c)->∀x c,(names.foldl (Jf cells) acc).lookup x=some c->cells.lookup x=some c
 | [],acc,_,ha,x,c,e=>ha x c e
 | (n,k)::r,acc,hs,ha,x,c,e=>by
  rw[List.foldl_cons]at e;refine Y1 r _ (λy d=>hs y (DV _ d)) (λx c e=>?_) x c e;unfold Jf at e
  by_cases hk:k=NameKind.free
  .rw[ir hk]at e;have q:=hs _ ES hk;obtain⟨a,q⟩:=Option.isSome_iff_exists.mp q;have b:cells.lookup n=some a:=q;rw[Gr]at e
   by_cases hx:x=n
   .subst hx;simp only[kW,b,ZAu]at e;rw[b,<- e]
   .have f:(x == n)=false:=by simpa using hx
    rw[f]at e;exact ha x c e
  .rw[ib hk]at e;exact ha x c e
theorem X6{cells:List (Str×Addr)}{x:Str}:∀(names:List (Str×NameKind))(acc:List (Str×Addr)),((acc.lookup x).isSome=true∨(x,NameKind.free)∈names)->
  ((names.foldl (Jf cells) acc).lookup x).isSome=true
 | [],acc,h=>by
  rcases h with h|h
  .exact h
  .cases h
 | (n,k)::r,acc,h=>by
  rw[List.foldl_cons];refine X6 r _ ?_;unfold Jf;rcases h with h|h
  .refine .inl ?_;split
   .rw[Gr];split
    .rfl
    .exact h
   .exact h
  .rcases List.mem_cons.mp h with e|h
   .cases e;refine .inl ?_;rw[ir rfl,Gr];simp
   .exact .inr h
theorem RC{env:Env}:∀(names:List (Str×NameKind))(x:Str),
  (names.map λ(n,k)=>if(k == NameKind.free && env.scope.kind == .function && env.kindOf n == some .cell)then(n,NameKind.cell)else(n,k)).lookup x =
   (names.lookup x).map λk=>if(k == NameKind.free && env.scope.kind == .function && env.kindOf x == some .cell)then NameKind.cell else k
 | [],x=>rfl
 | (n,k)::r,x=>by
  have c:=RC (env:=env) r x;rw[Aq]
  by_cases a:(k == NameKind.free && env.scope.kind == .function && env.kindOf n == some .cell)=true
  .show List.lookup x ((if(k == NameKind.free && env.scope.kind == .function && env.kindOf n == some .cell)=true then(n,NameKind.cell)else(n,k))::_)=_
   rw[ir a,Gr,Gr]
   by_cases hx:x=n
   .subst hx;simp only[kW,Xp];rw[ir a]
   .have b:(x == n)=false:=by simpa using hx
    rw[b];exact c
  .show List.lookup x ((if(k == NameKind.free && env.scope.kind == .function && env.kindOf n == some .cell)=true then(n,NameKind.cell)else(n,k))::_)=_
   rw[ib a,Gr,Gr]
   by_cases hx:x=n
   .subst hx;simp only[kW,Xp];rw[ib a]
   .have b:(x == n)=false:=by simpa using hx
    rw[b];exact c
noncomputable abbrev EF(X:Cx)(N:List Str)(scope:Scope)(cl:List (Str×Addr))(C:Addr)(s:Shared)(H:Hp)(fp:List Addr):Cx:=
 { X with N:=N,s₀:=s,H₀:=H,env:=compEnvC scope cl C X.env,outer:=X.stack,ex:=fp,fn:=λ_=>false,pn:=[],xe:=λ_ _=>False }
noncomputable def BA(js:List Nat)(Z:St):St:=js.map λj=>(Z[j]?).join
structure C7 (N:List Str) (outer scope:Scope) (x:Str) (AG:List Str) (js:List Nat):Prop where
 kind:scope.kind=.function
 Jq:∀y∈scope.names,y.2≠.cell
 loc:∀y∈scope.names,y.2=.local->scope.names.lookup y.1=some .local
 HN:scope.names.lookup x=some .local
 at':js.map (λj=>N[j]?)=AG.map some
 cell:∀y∈AG,outer.names.lookup y=some .cell
 free:∀y∈AG,scope.names.lookup y=some .free
 all:∀y∈scope.names,y.2=.free->outer.names.lookup y.1=some .cell
 nd:(AG++[x]).Nodup
def Gd(X:Cx)(ifs:List Expr)(t:TT):Prop:=
 ∀(Zb:ZBd)(s:Shared)(Z:St)(H:Hp)(Q:Bool->Hp->Prop),Inv X Zb Z H s->t Z H Q->
  wpAny (model X.prog X.w) X.A (forIn ifs true λc r=>if r=true then do let ok <- isTrue c X.env (eval c X.env);pure (ForInStep.yield ok)else pure (ForInStep.yield r)) (TP X Zb Z Q) X.xe s
def ML:TT:=λ_ H Q=>Q true H
theorem jV{t:TT}(d:PT X c t):Gd X [c] t:=λZb s Z H Q I h=>by
 rw[List.forIn_cons];refine iM ?_;rw[ir rfl];refine iM (AI (d Zb s Z H Q I h) λb a q=>jP ?_);show wpAny _ _ (forIn [] b _) _ _ a;rw[gy];exact jP q
def Kg(J:It)(js:List Nat)(tt:TT)(te:TE)(Z:St)(H1:Hp)(acc:Addr)(Q:VK):Prop:=
 ∃W:Nat->Nat->Hp->Prop,(∃m,W 0 m (upd H1 acc (.lst [])))/\∀i m H2,W i m H2->
  (J.stop i H2/\Q (.ref acc) H2)∨(J.go i H2/\∀x H3,J.E6 i H2 x H3->tt (BA js Z++[some x]) H3 λb H4=>
   if b=true then te (BA js Z++[some x]) H4 λy H5=>∃ys,H5 acc=some (.lst ys)/\ys.length<sizeLine/\∃a,a < m/\W (i+1) a (upd H5 acc (.lst (ys++[y])))
   else ∃a,a < m/\W (i+1) a H4)
def HA(wi:TI)(js:List Nat)(tt:TT)(te:TE):TE:=λZ H Q=>wi Z H λJ H1=>∀acc,H1 acc=none->Kg J js tt te Z H1 acc Q
theorem y0(l:List α)(a b:α):(l++[a]).set l.length b=l++[b]:=by
 induction l with
 |nil=>rfl
 |cons x l c=>simp[c]
noncomputable def Gw:Option Str->Addr->List (Str×Addr)
 |none,_=>[]
 |some x,n=>[(x,n)]
noncomputable def Po:Option Str->Heap->Heap
 |none,h=>h
 |some _,h=>h.push { cls:=.type "cell", data:=.cell none }
structure EH (N:List Str) (outer scope:Scope) (ce:Option Str) (zs AG:List Str) (js:List Nat):Prop where
 kind:scope.kind=.function
 loc:∀y∈scope.names,y.2=.local->scope.names.lookup y.1=some .local
 one:∀y∈scope.names,y.2=.cell->ce=some y.1
 sub:∀x,ce=some x->x∈zs
 cf:∀(n:Nat)(cl:List (Str×Addr)),cellsFrom n scope.names cl=Gw ce n++cl
 pc:∀h:Heap,pushCells h scope.names=Po ce h
 at':js.map (λj=>N[j]?)=AG.map some
 cell:∀y∈AG,outer.names.lookup y=some .cell
 free:∀y∈AG,scope.names.lookup y=some .free
 all:∀y∈scope.names,y.2=.free->outer.names.lookup y.1=some .cell
 nd:(AG++zs).Nodup
abbrev El(X:Cx)(N:List Str)(scope:Scope)(ce:Option Str)(cl:List (Str×Addr))(C:Addr)(s:Shared)(H:Hp)(fp:List Addr):Cx:=
 { X with N:=N,s₀:=s,H₀:=H,env:=compEnvC scope (Gw ce (C+1)++cl) C X.env,outer:=X.stack,ex:=fp,fn:=λy=>ce == some y,pn:=[],xe:=λ_ _=>False }
theorem ZA3{M:Model}{a:Addr}{b:Option Addr}{c:Value}{outer:Env}{Q:Env->Shared->Prop}
  (cf:∀(n:Nat)(cl:List (Str×Addr)),cellsFrom n scope.names cl=Gw ce n++cl) (pc:∀h:Heap,pushCells h scope.names=Po ce h)
  (d:Q (newEnv scope s.heap.objs.size a (Gw ce (s.heap.objs.size+1)++closure) qual b c (some outer) builtinsNs) { s with heap:=Po ce (s.heap.push { cls:=.type "dict", data:=.dict #[] }) }) :
  wpAny M A (newFunctionEnv scope a closure [] qual b c (some outer)) Q E s:=by
 simp only[newFunctionEnv,ZAv,vX];refine iM (wpAny_alloc ?_);refine iM (wpAny_layCells _ (λname kind cells=>by cases e:kind == NameKind.cell <;> simp[e]) _ _ _ _ ?_)
 rw[cf,pc];rw[show({ s with heap:=s.heap.push { cls:=.type "dict", data:=.dict #[] } }:Shared).heap.objs.size=s.heap.objs.size+1 from Kw ..]
 refine iM ?_;rw[gy];exact jP (jP d)
theorem pF{y:Str}{c:Addr}(h:(Gw ce n++cl).lookup y=some c):(ce=some y/\c=n)∨(ce≠some y/\cl.lookup y=some c):=by
 cases ce with
 |none=>exact .inr ⟨λz=>(by cases z),h⟩
 |some x=>
  have h:((x,n)::cl).lookup y=some c:=h;rw[Gr]at h
  by_cases e:y=x
  .subst e;simp only[kW]at h;exact .inl ⟨rfl,(BH h).symm⟩
  .have a:(y == x)=false:=by simpa using e
   rw[a]at h;exact .inr ⟨λz=>e (BH z).symm,h⟩
theorem cq{y:Str}(h:ce≠some y):(Gw ce n++cl).lookup y=cl.lookup y:=by
 cases ce with
 |none=>rfl
 |some x=>
  show((x,n)::cl).lookup y=_;have a:(y == x)=false:=beq_eq_false_iff_ne.mpr λz=>h (by rw[z]);rw[Gr,a]
theorem jz:(Gw (some x) n++cl).lookup x=some n:=by
 show((x,n)::cl).lookup x=_;rw[Gr,kW]
theorem zX{iter:Expr}{it acc:Value}(I:Nat->Shared->Prop)
  (a:∀n s,I n s->wpAny (model prog w) A (pyNext it) (λr d=>match r with
   |none=>R (.ok .next) d
   |some v=>wpAny (model prog w) A (letOwnedTupleGo tg it v) (λ_ s2=>wpAny (model prog w) A (assign tg env v) (λ_ i=>
     wpAny (model prog w) A (forIn ifs true λc r=>if r=true then do let ok <- isTrue c env (eval c env);pure (ForInStep.yield ok)else pure (ForInStep.yield r)) (λok s4=>if ok=true then
      wpAny (model prog w) A (eval elt env) (λx g=>wpAny (model prog w) A (call (.builtin "list.append") [acc,x]) (λ_ f=>∃m,m<n/\I m f) (notedBy (model prog w) A env λe s'=>R (.error e) s') g) (notedBy (model prog w) A env λe s'=>R (.error e) s') s4
      else ∃m,m<n/\I m s4) (notedBy (model prog w) A env λe s'=>R (.error e) s') i)
     (notedBy (model prog w) A env λe s'=>R (.error e) s') s2) (notedBy (model prog w) A env λe s'=>R (.error e) s') d) (notedBy (model prog w) A env λe s'=>R (.error e) s') s)
  (n:Nat) (h:I n s):codeAny (model prog w) A (.compLoop (.ListComp elt [⟨tg,iter,ifs,0⟩] scope pos) 0 it acc env) R s:=by
 refine codeAny_loop rfl I (λn s q=>(show wpAny _ A ((compTurn (.ListComp elt [⟨tg,iter,ifs,0⟩] scope pos) 0 it acc env).onRaise (λx=>do noteFrame x env;theTreesLotGoes x)) _ _ s from wpAny_noted ?_)) n h
 rw[compTurn_list];refine iM (uQ (iM (jx (a n s q) (λr d j=>?_) λ_ _ z=>z)));cases r with
 |none=>exact jP j
 |some v=>
  refine iM (jx j (λ_ s2 p=>iM (jx p (λ_ i o=>iM (jx o (λok s4 b=>?_) λ_ _ z=>z)) λ_ _ z=>z)) λ_ _ z=>z);cases ok with
  |false=>
   rw[ib (by decide)]at b;exact iM (jP (jP ⟨rfl,b⟩))
  |true=>
   rw[ir rfl]at b;exact iM (iM (jx b (λx g l=>iM (jx l (λ_ f k=>jP (jP ⟨rfl,k⟩)) λ_ _ z=>z)) λ_ _ z=>z))
abbrev VO(tt:TT)(te:TE)(acc:Addr)(W:Nat->Nat->Hp->Prop)(i m:Nat)(Z:St)(H:Hp):Prop:=
 tt Z H λb H4=>if b=true then te Z H4 λy H5=>∃ys,H5 acc=some (.lst ys)/\ys.length<sizeLine/\∃m',m' < m/\W (i+1) m' (upd H5 acc (.lst (ys++[y])))
  else ∃m',m' < m/\W (i+1) m' H4
def N7(g:TG)(n:Nat)(J:It)(js:List Nat)(tt:TT)(te:TE)(Z:St)(H1:Hp)(acc:Addr)(Q:VK):Prop:=
 ∃W:Nat->Nat->Hp->Prop,(∃m,W 0 m (upd H1 acc (.lst [])))/\∀i m H2,W i m H2->
  (J.stop i H2/\Q (.ref acc) H2)∨(J.go i H2/\∀x H3,J.E6 i H2 x H3->∀ws,ws.length=n->g x (BA js Z++ws) H3 λσ8 H8=>∃us,us.length=n/\σ8=BA js Z++us/\VO tt te acc W i m σ8 H8)
def Yf(CW:It->St->Hp->Addr->VK->Prop)(wi:TI):TE:=λZ H Q=>wi Z H λJ H1=>∀acc,H1 acc=none->CW J Z H1 acc Q
section
variable{iter:Expr}{zs AG:List Str}{fp:List Addr}{g:TG}
theorem zG(h:scope.names.lookup x=some .cell):(relabel scope env).names.lookup x=some .cell:=by
 refine(RC (env:=env) scope.names x).trans ?_;rw[h];simp
theorem iI{n:Nat}(h:(List.replicate n (none:Option V))[i]?=some (some v)):False:=by
 rw[gz]at h
 by_cases c:i<n
 .rw[ir c]at h;cases h
 .rw[ib c]at h;cases h
theorem mh(S:EH X.N X.env.scope scope ce zs AG js)(I3:Inv X Zb Z H2 s2)(E:∀b∈fp,E9 X Zb H2 b)(K:∀b∈fp,b<s2.heap.objs.size)
  {m:ZBe}(Lc:h1.Ns s2.heap.objs.size m) (old:∀b o,s2.heap.get? b=some o->h1.get? b=some o) (D:∀x,ce=some x->h1.IsCell (s2.heap.objs.size+1) none) :
  Inv (El X (AG++zs) scope ce (Ba X.env.cells scope.names) s2.heap.objs.size s2 H2 fp) [] (BA js Z++List.replicate zs.length none) H2 { s2 with heap:=h1,toks:=t' }:=by
 have Q:∀y∈scope.names,y.2=.free->(X.env.cells.lookup y.1).isSome=true:=λy g hk=>by
  obtain⟨c,e⟩:=I3.ok.has y.1 (.inl (S.all y g hk));rw[e];rfl
 have P:∀y c,(Ba X.env.cells scope.names).lookup y=some c->X.env.cells.lookup y=some c:=Y1 scope.names [] Q (λ_ _ e=>by cases e);have L:∀y k,(relabel scope X.env).names.lookup y=some k->k=.cell∨k=.free->scope.names.lookup y=some .free∨ce=some y:=λy k e hk=>by
  have t:=(RC (env:=X.env) scope.names y).symm.trans e;cases q:scope.names.lookup y with
  |none=>rw[q]at t;cases t
  |some k0=>
   rw[q]at t;cases k0 with
   |free=>exact .inl rfl
   |cell=>exact .inr (S.one _ (L6 q) rfl)
   |_=>simp at t;rcases hk with rfl|rfl <;> cases t
 have n:js.length=AG.length:=by have:=k9 List.length S.at';simpa using this
 have M:∀y c,X.env.cells.lookup y=some c->c<s2.heap.objs.size:=λy c e=>by
  obtain⟨v,o,ho,_⟩:=I3.cell y c e;exact B4 ho
 have f:∀c v,s2.heap.IsCell c v->h1.IsCell c v:=λc v AD=>by obtain⟨o,ho,hd⟩:=AD;exact⟨o,old c o ho,hd⟩
 have A:∀y c,(Gw ce (s2.heap.objs.size+1)++Ba X.env.cells scope.names).lookup y=some c->(ce=some y/\c=s2.heap.objs.size+1)∨(ce≠some y/\X.env.cells.lookup y=some c):=λy c e=>(pF e).imp id λz=>⟨z.1,P y c z.2⟩;have R:∀y∈AG,ce≠some y:=λy g z=>(List.nodup_append.mp S.nd).2.2 y g y (S.sub y z) rfl;refine⟨⟨I3.ok.mod,S.kind,I3.ok.glob,I3.ok.blt,Ae _,λy z c I C=>?_,λy g=>?_,λy c H e=>?_,I3.ok.hd,I3.ok.frames,.inl rfl,λb s=>⟨CV (K b s),λy c e=>?_⟩,
  λb o e=>I3.bs b o e,CU I3.ok.GA I3.sz,λb o e s=>?_,λb s V=>?_,I3.stack,I3.RS⟩,rfl,I3.bare,Un.kept old,⟨m,Lc,λi y v I C e3=>?_⟩,λy c e=>?_,I3.AF.fresh (Ae _),λy c e=>?_,λp W=>(by cases W),I3.AF.kept old,?_⟩
 .rcases A y c I with⟨a1,rfl⟩|⟨_,HC⟩
  .rcases A z _ C with⟨a2,_⟩|⟨_,Ib⟩
   .exact BH (a1.symm.trans a2)
   .exact absurd (M z _ Ib) (ZAr (L5 _))
  .rcases A z c C with⟨_,rfl⟩|⟨_,Ib⟩
   .exact absurd (M y _ HC) (ZAr (L5 _))
   .exact I3.ok.inj y z c HC Ib
 .have H:scope.names.lookup y=some .free∨ce=some y:=g.elim (λg=>L y _ g (.inl rfl)) λg=>L y _ g (.inr rfl);show ∃c,List.lookup y (Gw ce (s2.heap.objs.size+1)++Ba X.env.cells scope.names)=some c
  by_cases ex:ce=some y
  .rw[ex];exact⟨_,jz⟩
  .rw[cq ex];exact Option.isSome_iff_exists.mp (X6 scope.names [] (.inr (L6 (H.resolve_right ex))))
 .rcases A y c e with⟨_,rfl⟩|⟨U,_⟩
  .exact L5 _
  .exact absurd (eq_of_beq H) U
 .rcases A y c e with⟨_,rfl⟩|⟨_,HC⟩
  .exact Mh (ZAq (K b s))
  .exact(E b s).2.2.2.2.1 y c HC
 .rcases(E b s).2.2.2.1 with z|z
  .exact I3.ok.JL b o e z
  .exact absurd (DC (DC (B4 e) I3.ok.GA) z) (Mf _)
 .rcases List.mem_cons.mp (I3.P0 b V)with z|z
  .exact(E b s).2.1 z
  .exact(E b s).2.2.1 z
 .have D:(BA js Z).length=AG.length:=by unfold BA;rw[AA,n]
  have hi:i<AG.length:=by
   by_cases hi:i<AG.length
   .exact hi
   .have d:(BA js Z++List.replicate zs.length none)[i]?=some (some v):=C;rw[DB (by rw[D];omega),D]at d;exact(iI d).elim
  have F:AG[i]?=some y:=by
   have F:(AG++zs)[i]?=some y:=I
   rwa [D1 hi]at F
  have d:(BA js Z)[i]?=some (some v):=by
   have d:(BA js Z++List.replicate zs.length none)[i]?=some (some v):=C
   rwa [D1 (by rw[D];exact hi)]at d
  have B:y∈AG:=Bo F;unfold BA at d;rw[Am]at d;cases G:js[i]? with
  |none=>rw[G]at d;cases d
  |some j=>
   rw[G]at d;have σ:X.N[j]?=some y:=by
    have q:=k9 (λl=>l[i]?) S.at';simp only[Am,G,F,Xp]at q;exact BH q
   have hσ:Z[j]?=some (some v):=by
    simp only[Xp,Option.some.injEq]at d;cases q:Z[j]? with
    |none=>rw[q]at d;cases d
    |some w=>rw[q]at d;simp at d;rw[d]
   obtain⟨m0,Y,T⟩:=I3.loc;obtain⟨u,r,l⟩:=T j y v σ hσ (.inr (.inl (S.cell y B)));refine⟨u,r,?_⟩;rcases l with⟨k,_⟩|⟨_,c,e,z⟩
   .have J:X.env.scope.names.lookup y=some .local:=k;rw[S.cell y B]at J;cases J
   .have X1:X.env.kindOf y=some .cell:=S.cell y B;have hk:(relabel scope X.env).names.lookup y=some .cell:=by
     refine(RC (env:=X.env) scope.names y).trans ?_;rw[S.free y B];simp[I3.ok.kind,X1]
    obtain⟨c',t⟩:=Option.isSome_iff_exists.mp (X6 (cells:=X.env.cells) scope.names [] (.inr (L6 (S.free y B))));have O:=P y c' t;rw[e]at O;cases O;exact .inr ⟨.inl hk,c,(cq (R y B)).trans t,f c _ z⟩
 .rcases A y c e with⟨a,rfl⟩|⟨_,HC⟩
  .exact⟨none,D _ a⟩
  .obtain⟨v,z⟩:=I3.cell y c HC;exact⟨v,f c v z⟩
 .rcases A y c e with⟨_,rfl⟩|⟨_,HC⟩
  .exact I3.AF.fresh (L5 _)
  .exact I3.Dq y c HC
 .show(BA js Z++List.replicate zs.length none).length=(AG++zs).length;unfold BA;simp[n]
theorem vh(j:Y.prog=X.prog)(hw:Y.w=X.w)(H:Y.K=X.K)(hA:Y.A=X.A)(jk:Y.xe=λ_ _=>False)(G:Y.calm=true)
  (hg:PG Y tg g) (CP:Gd Y ifs tt) (CO:PE Y elt te)
  (T:Turn X.prog X.w X.K tg J fp it tn) (U:∀b∈fp,Y.Ok->E9 Y [] (λ_=>none) b)
  (W:Nat->Nat->Hp->Prop) (Q:VK)
  (h:∀i m H2,W i m H2->(J.stop i H2/\Q (.ref acc) H2)∨(J.go i H2/\∀x H3,J.E6 i H2 x H3->∀ws,ws.length=n0->g x (BA js Z++ws) H3 λσ8 H8=>∃us,us.length=n0/\σ8=BA js Z++us/\VO tt te acc W i m σ8 H8))
  (I4:Inv Y [] (BA js Z++ws) H4 s4) (Pc:tn 0 s4.heap) (p9:∀b∈fp,H4 b=none) (F:Nat) (w4:W 0 F H4)
  (qz:ws.length=n0) (hR:∀H' s' ws,Inv Y [] (BA js Z++ws) H' s'->Q (.ref acc) H'->R (.ok .next) s') :
  codeAny (model X.prog X.w) X.A (.compLoop (.ListComp elt [⟨tg,iter,ifs,0⟩] scope pos) 0 (.ref it) (.ref acc) Y.env) R s4:=by
 have AF:=I4.ok;have B:∀{H':Hp},(∀b∈fp,H' b=none)->∀b∈fp,E9 Y [] H' b:=λhn b c=>⟨hn b c,(U b c AF).2⟩;rw[<- j,<- hw,<- hA];have k:∀{σ:Value->Shared->Prop}v s,Y.xe v s->σ v s:=λv s z=>by rw[jk]at z;exact z.elim
 refine zX (λn s'=>∃i ws H',ws.length=n0/\Inv Y [] (BA js Z++ws) H' s'/\tn i s'.heap/\(∀b∈fp,H' b=none)/\W i n H') ?_ F ⟨0,ws,H4,qz,I4,Pc,p9,w4⟩;rintro n E⟨i,L,H5,l7,I5,LV,RW,w5⟩;rcases h i n H5 w5 with⟨stop,q⟩|⟨go,step⟩
 .have d:=T.done Y j hw H G i [] E _ H5 (λ_ _=>False) I5 (B RW) LV stop;rw[<- j,<- hw]at d;refine jx d (λr D⟨p,I6⟩=>?_) λ_ _ z=>z.elim;subst p;exact hR H5 D L I6 q
 .have d:=T.item Y j hw H G i [] E _ H5 (λ_ _=>False) I5 (B RW) LV go;rw[<- j,<- hw]at d;refine jx d (λr D⟨u,p,h6⟩=>?_) λ_ _ z=>z.elim;subst p;refine jx h6 (λ_ C⟨v,H7,I7,r7,S,VW,pd⟩=>?_) λ_ _ z=>z.elim;have mC:=I7.pinned (B pd) (T.obj _ _ VW);refine jx (hg _ C _ H7 v u _ mC r7 (step v H7 S L l7)) (λ_ s8⟨σ8,H8,I8,us,Jc,e8,sj⟩=>?_) k;subst e8;have a:∀{σa:St}{Ha:Hp}{sa:Shared},Inv Y ([]++Na fp C.heap) σa Ha sa->tn (i+1) sa.heap/\(∀b∈fp,Ha b=none):=λ{σa Ha sa}Ia=>by
   refine⟨T.keep _ _ _ VW λb c o e=>(Ia.pin (b,o) (FE _ (FE _ (Q8 c e)))).1,λb c=>?_⟩;obtain⟨o,e,d⟩:=T.obj _ _ VW b c;exact(Ia.pin (b,o) (FE _ (FE _ (Q8 c e)))).2.1
  refine jx (CP _ s8 _ H8 _ I8 sj) (λb s9⟨H9,I9,l⟩=>?_) k;cases b with
  |false=>
   have P:∃f,f < n/\W (i+1) f H9:=l;obtain⟨f,t,V⟩:=P;rw[ib (by decide)];exact⟨f,t,i+1,_,H9,Jc,I9.NF,(a I9).1,(a I9).2,V⟩
  |true=>
   rw[ir rfl];rw[ir rfl]at l;refine jx (CO _ s9 _ H9 _ I9 l) (λO I0⟨y,I,N,pD,ys,Ao,hz,f,t,nL⟩=>?_) k;refine jx (gB (X:=Y) _ I0 _ I (.ref acc) [y] (.ref acc) [O] (λ_ M=>M=upd I acc (.lst (ys++[y]))) N rfl (.cons pD .nil) ⟨acc,ys,y,rfl,rfl,Ao,hz,rfl⟩)
    (λ_ JB⟨_,M,Ti,_,sy⟩=>?_) k
   subst sy;exact⟨f,t,i+1,_,_,Jc,Ti.NF,(a Ti).1,(a Ti).2,nL⟩
theorem YL{RR:Value->Addr->Result->Shared->Prop}(L:X.calm=true)(S:EH X.N X.env.scope scope ce zs AG js)
  (I:∀C s H,PG (El X (AG++zs) scope ce (Ba X.env.cells scope.names) C s H fp) tg g)
  (CP:∀C s H,Gd (El X (AG++zs) scope ce (Ba X.env.cells scope.names) C s H fp) ifs tt) (CO:∀C s H,PE (El X (AG++zs) scope ce (Ba X.env.cells scope.names) C s H fp) elt te)
  (T:Turn X.prog X.w X.K tg J fp it tn) (I2:Inv X Zb Z H2 s2) (Ip:tn 0 s2.heap) (l:∀b∈fp,E9 X Zb H2 b) (Q:VK) (M:∀acc,H2 acc=none->N7 g zs.length J js tt te Z H2 acc Q)
  (D:∀acc C H' s' m,Inv X Zb Z H' s'->E9 X Zb H' C->s'.heap.Ns C m->Q (.ref acc) H'->RR (.ref acc) C (.ok .next) s') :
  wpAny (model X.prog X.w) X.A (newList []) (λacc a=>wpAny (model X.prog X.w) X.A (newFunctionEnv scope X.env.globals (Ba X.env.cells scope.names) [] X.env.qual none .none (some X.env)) (λYj s4=>
   codeAny (model X.prog X.w) X.A (.compStart (.ListComp elt [⟨tg,iter,ifs,0⟩] scope pos) 0 (.ref it) acc { Yj with scope:=relabel scope X.env }) (RR acc Yj.locals) s4) E a) E s2:=by
 refine pW (ZA3 S.cf S.pc ?_);have i:Inv X Zb Z (upd H2 s2.heap.objs.size (.lst [])) { s2 with heap:=s2.heap.push { cls:=.type "list", data:=.seq ([]:List Value).toArray } }:=I2.Sq (t':=s2.toks) .nil (CA _)
 have t:∀b∈fp,b<s2.heap.objs.size:=λb c=>by
  obtain⟨o,e,_⟩:=T.obj _ _ Ip b c;exact B4 e
 have hsz:(s2.heap.push { cls:=.type "list", data:=.seq ([]:List Value).toArray }).objs.size=s2.heap.objs.size+1:=Kw ..;have f:∀b∈fp,E9 X Zb (upd H2 s2.heap.objs.size (.lst [])) b:=λb c=>⟨by rw[AS (CV (t b c))];exact(l b c).1,(l b c).2⟩;generalize v:({ s2 with heap:=s2.heap.push { cls:=.type "list", data:=.seq ([]:List Value).toArray } }:Shared)=a at i ⊢
 have j:a.heap=s2.heap.push { cls:=.type "list", data:=.seq ([]:List Value).toArray }:=by rw[<- v]
 have z:∀b∈fp,b<a.heap.objs.size:=λb c=>by rw[j,hsz];exact ZAq (t b c)
 generalize k:Po ce (a.heap.push { cls:=.type "dict", data:=.dict #[] })=h1;have n:∀b o,(a.heap.push { cls:=.type "dict", data:=.dict #[] }).get? b=some o->h1.get? b=some o:=λb o e=>by
  rw[<- k];cases ce with
  |none=>exact e
  |some _=>exact Bz _ e
 have old:∀b o,a.heap.get? b=some o->h1.get? b=some o:=λb o e=>n b o (Bz _ e);have y:∀b o,s2.heap.get? b=some o->h1.get? b=some o:=λb o e=>old b o (by rw[j];exact Bz _ e);have O:h1.Ns a.heap.objs.size (λ_=>none):=(Heap.Ns.new a.heap (.type "dict")).keeps n;have P:∀x,ce=some x->h1.IsCell (a.heap.objs.size+1) none:=λx hx=>by
  subst hx;rw[<- k];have e:(a.heap.push { cls:=.type "dict", data:=.dict #[] }).objs.size=a.heap.objs.size+1:=Kw ..;exact⟨_,by rw[<- e];exact D0 _ rfl,rfl⟩
 have R:=mh S i f z O old P (t':=a.toks);have r:tn 0 h1:=T.keep _ _ _ Ip λb _ o e=>y b o e;obtain⟨W,⟨B,u⟩,h⟩:=M s2.heap.objs.size (I2.AF.fresh (Ae _));have d:codeAny (model X.prog X.w) X.A (.compLoop (.ListComp elt [⟨tg,iter,ifs,0⟩] scope pos) 0 (.ref it) (.ref s2.heap.objs.size) (compEnvC scope (Gw ce (a.heap.objs.size+1)++Ba X.env.cells scope.names) a.heap.objs.size X.env))
   (RR (.ref s2.heap.objs.size) a.heap.objs.size) { a with heap:=h1 }:=by
  refine vh (X:=X) (Y:=El X (AG++zs) scope ce (Ba X.env.cells scope.names) a.heap.objs.size a (upd H2 s2.heap.objs.size (.lst [])) fp) (acc:=s2.heap.objs.size) (Q:=Q) rfl rfl rfl rfl rfl L (I _ _ _) (CP _ _ _) (CO _ _ _) T (λb c ok=>⟨rfl,(ok.KY b c).1,ok.Iq b c,.inl c,(ok.KY b c).2,λp F=>by cases F⟩) W h R r (λb c=>(f b c).1) B u (ZAl ..) λH' s' w I' q=>?_;obtain⟨m,G,_⟩:=I'.loc;exact D _ _ H' s' m (i.qf (ch:=fp) I'.os I'.base I'.AF I'.bare λb c=>⟨(f b c).2.2.2.1,(f b c).2.1,(f b c).2.2.2.2.1,(f b c).2.2.2.2.2⟩) (i.LX (Ae _) I'.free) G q
 exact codeAny_compStart_list d (T.self X.A 0 _ _ _ r d)
theorem dR(S:EH X.N X.env.scope scope ce zs AG js)(I:Inv X Zb Z H s):closureFor scope X.env=pure (Ba X.env.cells scope.names):=pK λy a hk=>by
 obtain⟨c,e⟩:=I.ok.has y.1 (.inl (S.all y a hk));rw[e];rfl
theorem Vx(l:∀J Z H1 acc Q,CW J Z H1 acc Q->N7 g zs.length J js tt te Z H1 acc Q)(i:X.calm=true)(S:EH X.N X.env.scope scope ce zs AG js)(hi:PI X tg iter wi)
  (f:∀fp C s H,PG (El X (AG++zs) scope ce (Ba X.env.cells scope.names) C s H fp) tg g)
  (CP:∀fp C s H,Gd (El X (AG++zs) scope ce (Ba X.env.cells scope.names) C s H fp) ifs tt) (CO:∀fp C s H,PE (El X (AG++zs) scope ce (Ba X.env.cells scope.names) C s H fp) elt te)
  (c:∀v,foldedSetIterable iter X.env v=pure v):PE X (.ListComp elt [⟨tg,iter,ifs,0⟩] scope pos) (Yf CW wi):=by
 intro Zb s Z H Q I h;rw[eval_ListComp];refine sU (use:=none) rfl c (dR S I) S.kind S.loc (AI (hi Zb s Z H _ I h) λv p h1=>AI h1 λQh s2 h2=>?_);obtain⟨it,fp,tn,J,H2,e,I2,T,Ip,n,hw⟩:=h2;subst e;refine YL (RR:=λacc C=>compPost (model X.prog X.w) X.A X.xe none (EP X Zb Z Q) acc C) i S (f fp) (CP fp) (CO fp) T I2 Ip n Q (λacc k=>l _ _ _ _ _ (hw acc k)) λacc C H' s' m I' a d q=>⟨m,d,λh' S7=>?_⟩;exact⟨.ref acc,H',I'.turned (t':=s'.toks) (λb o j e=>(S7.2 b j).trans e) a.1 a.2.1 a.2.2.2.1 a.2.2.2.2.1 a.2.2.2.2.2,rfl,q⟩
theorem ZJ(B:∀J Z H1 acc Q,CW J Z H1 acc Q->N7 g zs.length J js tt te Z H1 acc Q){y:Str}(E:X.N.Nodup)(C9:X.N[i]?=some y)(k:Loc X.env.scope y)(u:X.calm=true)(S:EH X.N X.env.scope scope ce zs AG js)(hi:PI X tg iter wi)
  (r:∀fp C s H,PG (El X (AG++zs) scope ce (Ba X.env.cells scope.names) C s H fp) tg g)
  (CP:∀fp C s H,Gd (El X (AG++zs) scope ce (Ba X.env.cells scope.names) C s H fp) ifs tt) (CO:∀fp C s H,PE (El X (AG++zs) scope ce (Ba X.env.cells scope.names) C s H fp) elt te)
  (Hr:swapsWith (.ListComp elt [⟨tg,iter,ifs,0⟩] scope pos) (some (.Name y py)) FO.line X.env=pure true)
  (t:X.fn y=true∨X.env.scope.names.lookup y=some .local)
  (l:∀v,foldedSetIterable iter X.env v=pure v):PS X (.Assign [.Name y py] (.ListComp elt [⟨tg,iter,ifs,0⟩] scope pos) FO) (EB (Yf CW wi) (C4 i)):=by
 intro Zb s Z H D I h;rw[exec_Assign_Name_used _ _ _ _ Hr];refine iM (uQ (iM ?_));show wpAny _ X.A (do let _ <- comprehension (.ListComp elt [⟨tg,iter,ifs,0⟩] scope pos) scope X.env _ (newList []) false (eval iter X.env) (some (assign (.Name y py) X.env))) _ _ s
 refine iM (jx (sU (use:=some (assign (.Name y py) X.env)) (Q:=λ_ s'=>SP X Zb D .next s') rfl l (dR S I) S.kind S.loc
  (AI (hi Zb s Z H _ I h) λv K h1=>AI h1 λQh s2 h2=>?_)) (λ_ s' n=>jP (jP n)) λ_ _ e=>e)
 obtain⟨it,fp,tn,J,H2,e,I2,T,Ip,F,hw⟩:=h2;subst e;refine YL (RR:=λacc C=>compPost (model X.prog X.w) X.A X.xe (some (assign (.Name y py) X.env)) (λ_ s'=>SP X Zb D .next s') acc C) u S (r fp) (CP fp) (CO fp) T I2 Ip F _ (λacc d=>B _ _ _ _ _ (hw acc d)) λacc C H' s' m I' c p q=>?_;show wpAny _ X.A (assign (.Name y py) X.env (.ref acc)) _ _ s';refine wpAny_assign_Name (Vg (v:=.ref acc) I' E C9 k rfl (λOA j⟨a,f,d⟩=>?_) t);have G:C≠a:=by
  rcases d with z|z
  .rw[z];exact c.2.1
  .exact(c.2.2.2.2.1 y a z).symm
 refine⟨m,p.sameBut f G,λh' S7=>?_⟩;exact⟨_,H',j.turned (t':=OA.toks) (λb o x e=>(S7.2 b x).trans e) c.1 c.2.1 c.2.2.2.1 c.2.2.2.2.1 c.2.2.2.2.2,q⟩
theorem cn{n:Nat}{cl:List (Str×Addr)}:∀{names:List (Str×NameKind)},(∀y∈names,y.2≠.cell)->cellsFrom n names cl=cl
 | [],_=>rfl
 | (x,k)::r,h=>by
  have hk:(k == NameKind.cell)=false:=beq_eq_false_iff_ne.mpr (h _ ES);rw[cellsFrom,hk];exact cn λy a=>h y (DV _ a)
theorem YH{a:Heap}:∀{names:List (Str×NameKind)},(∀y∈names,y.2≠.cell)->pushCells a names=a
 | [],_=>rfl
 | (x,k)::r,h=>by
  have hk:(k == NameKind.cell)=false:=beq_eq_false_iff_ne.mpr (h _ ES);rw[pushCells,hk];exact YH λy b=>h y (DV _ b)
theorem EH.da(kind:scope.kind=.function)(Jq:∀y∈scope.names,y.2≠.cell)(loc:∀y∈scope.names,y.2=.local->scope.names.lookup y.1=some .local)
  (at':js.map (λj=>N[j]?)=AG.map some) (cell:∀y∈AG,outer.names.lookup y=some .cell) (free:∀y∈AG,scope.names.lookup y=some .free)
  (all:∀y∈scope.names,y.2=.free->outer.names.lookup y.1=some .cell) (nd:(AG++zs).Nodup):EH N outer scope none zs AG js:=
 ⟨kind,loc,λy a e=>absurd e (Jq y a),λx e=>(by cases e),λn cl=>cn Jq,λh=>YH Jq,at',cell,free,all,nd⟩
theorem EH.len(S:EH N outer scope ce zs AG js)(Z:St):(BA js Z).length=AG.length:=by
 unfold BA;rw[AA];have:=k9 List.length S.at';simpa using this
theorem Uc(S:EH N outer scope ce [x] AG js)(J:It)(Z:St)(H1:Hp)(acc:Addr)(Q:VK)(h:Kg J js tt te Z H1 acc Q):N7 (C4 AG.length) 1 J js tt te Z H1 acc Q:=by
 obtain⟨W,a,h⟩:=h;refine⟨W,a,λi m H2 w=>(h i m H2 w).imp id λz=>⟨z.1,λx H3 y ws hw=>?_⟩⟩
 match ws,hw with
 | [w],_=>
  have e:(BA js Z++[w]).set AG.length (some x)=BA js Z++[some x]:=by rw[<- S.len Z];exact y0 _ _ _
  exact⟨[some x],rfl,e,by rw[e];exact z.2 x H3 y⟩
theorem T7(S:EH X.N X.env.scope scope ce [x] AG js)(hx:scope.names.lookup x=some .local∨(ce=some x/\scope.names.lookup x=some .cell)):
  PG (El X (AG++[x]) scope ce cl C s H fp) (.Name x px) (C4 AG.length):=
 Ta S.nd (by simp) (hx.imp (λh=>mD h) λh=>zG h.2) (hx.symm.imp (λh=>by show(ce == some x)=true;rw[h.1];exact kW _) λh=>mD h)
inductive IG:List Str->List Expr->Prop
 |nil:IG [] []
 |cons {x:Str}{zs:List Str}{p:Pos}{es:List Expr}:IG zs es->IG (x::zs) (.Name x p::es)
def MT(i:Nat):Nat->GQ
 | 0=>MG
 |n+1=>GW (C4 i) (MT (i+1) n)
theorem cw{Q:St->Hp->Prop}{H:Hp}:∀{us:List V}{l ws:St},ws.length=us.length->Q (l++us.map some) H->MT l.length us.length us (l++ws) H Q
 | [],l,ws,h,q=>by
  rw[List.length_eq_zero_iff.mp h];exact⟨rfl,q⟩
 |u::us,l,w::ws,h,q=>by
  refine⟨u,us,rfl,?_⟩;show MT (l.length+1) us.length us ((l++w::ws).set l.length (some u)) H Q;have e:(l++w::ws).set l.length (some u)=(l++[some u])++ws:=by
   rw[List.set_append_right _ _ (Ae _),Xn];simp
  have a:l.length+1=(l++[some u]).length:=by simp
  rw[e,a];refine cw (l:=l++[some u]) (by simpa using h) ?_
  rw[Bv];exact q
theorem YQ{X:Cx}(a:X.N.Nodup):∀{zs:List Str}{es:List Expr}{i:Nat},IG zs es->(∀(j:Nat)x,zs[j]?=some x->X.N[i+j]?=some x/\Loc X.env.scope x/\X.env.scope.names.lookup x=some .local)->Lm X es (MT i zs.length)
 |_,_,_,.nil,_=>Yu
 |_,_,i,.cons (x:=x) (zs:=zs) r,h=>by
  obtain⟨h1,h2,c⟩:=h 0 _ rfl;refine Zu (Ta a h1 h2 (.inr c)) (YQ a r λj y b=>?_);have:=h (j+1) y b
  rwa [show i+(j+1)=i+1+j by omega]at this
def QV(K:ZBc)(n:Nat)(J:It)(js:List Nat)(tt:TT)(te:TE)(Z:St)(H1:Hp)(acc:Addr)(Q:VK):Prop:=
 ∃W:Nat->Nat->Hp->Prop,(∃m,W 0 m (upd H1 acc (.lst [])))/\∀i m H2,W i m H2->
  (J.stop i H2/\Q (.ref acc) H2)∨(J.go i H2/\∀x H3,J.E6 i H2 x H3->∃a us,x=.ref a/\BC K H3 a us/\us.length=n/\VO tt te acc W i m (BA js Z++us.map some) H3)
theorem gR{K:ZBc}(S:EH N outer scope ce zs AG js)(J:It)(Z:St)(H1:Hp)(acc:Addr)(Q:VK)(h:QV K zs.length J js tt te Z H1 acc Q):N7 (Jr K zs.length (MT AG.length zs.length)) zs.length J js tt te Z H1 acc Q:=by
 obtain⟨W,d,h⟩:=h;refine⟨W,d,λi m H2 w=>(h i m H2 w).imp id λz=>⟨z.1,λx H3 y ws hw=>?_⟩⟩;obtain⟨a,us,e,c,b,q⟩:=z.2 x H3 y;refine⟨a,us,e,c,b,?_⟩;rw[<- b,<- S.len Z];exact cw (by rw[hw,b]) ⟨us.map some,AA ..,rfl,q⟩
theorem Z7{tp:Pos}(c:X.calm=true)(S:EH X.N X.env.scope scope ce zs AG js)(HN:∀x∈zs,scope.names.lookup x=some .local)(Hs:IG zs es)(IS:∀e,(assignEach es e).length=zs.length)(FQ:∀e,(assignEach es e).findIdx? (·.1)=none):
  PG (El X (AG++zs) scope ce cl C s H fp) (.Tuple es tk tp) (Jr X.K zs.length (MT AG.length zs.length)):=
 Y4 (X:=El X (AG++zs) scope ce cl C s H fp) c (YQ S.nd (i:=AG.length) Hs λj y b=>by
  have a:=Bo b;exact⟨by show(AG++zs)[AG.length+j]?=_;rw[DB (by omega),Nat.add_sub_cancel_left];exact b,.inl (mD (HN y a)),mD (HN y a)⟩) (IS _) (FQ _)
theorem C7.G(S:C7 N outer scope x AG js):EH N outer scope none [x] AG js:=.da S.kind S.Jq S.loc S.at' S.cell S.free S.all S.nd
theorem tF(b:X.calm=true)(S:C7 X.N X.env.scope scope x AG js)(hi:PI X (.Name x px) iter wi)
  (CP:∀fp C s H,Gd (EF X (AG++[x]) scope (Ba X.env.cells scope.names) C s H fp) ifs tt) (CO:∀fp C s H,PE (EF X (AG++[x]) scope (Ba X.env.cells scope.names) C s H fp) elt te)
  (a:∀v,foldedSetIterable iter X.env v=pure v:=by intro _;rfl):PE X (.ListComp elt [⟨.Name x px,iter,ifs,0⟩] scope pos) (HA wi js tt te):=
 Vx (CW:=λJ Z H1 acc Q=>Kg J js tt te Z H1 acc Q) (Uc S.G) b S.G hi (λ_ _ _ _=>T7 S.G (.inl S.HN)) CP CO a
theorem rL{y:Str}(c:X.N.Nodup)(C9:X.N[i]?=some y)(a:Loc X.env.scope y)(b:X.calm=true)(S:C7 X.N X.env.scope scope x AG js)(hi:PI X (.Name x px) iter wi)
  (CP:∀fp C s H,Gd (EF X (AG++[x]) scope (Ba X.env.cells scope.names) C s H fp) ifs tt) (CO:∀fp C s H,PE (EF X (AG++[x]) scope (Ba X.env.cells scope.names) C s H fp) elt te)
  (Hr:swapsWith (.ListComp elt [⟨.Name x px,iter,ifs,0⟩] scope pos) (some (.Name y py)) FO.line X.env=pure true:=by rfl)
  (hf:X.fn y=true∨X.env.scope.names.lookup y=some .local:=by first|exact .inl rfl|exact .inr rfl|assumption)
  (hs:∀v,foldedSetIterable iter X.env v=pure v:=by intro _;rfl):PS X (.Assign [.Name y py] (.ListComp elt [⟨.Name x px,iter,ifs,0⟩] scope pos) FO) (EB (HA wi js tt te) (C4 i)):=
 ZJ (CW:=λJ Z H1 acc Q=>Kg J js tt te Z H1 acc Q) (Uc S.G) c C9 a b S.G hi (λ_ _ _ _=>T7 S.G (.inl S.HN)) CP CO Hr hf hs
end
def IK(K:ZBc)(tp:Bool)(H:Hp)(a:Addr)(xs:List V):Prop:=match tp with
 |false=>AQ K H a xs
 |true=>BC K H a xs
theorem IK.or{K:ZBc}{tp:Bool}{xs:List V}(h:IK K tp H a xs):AQ K H a xs∨BC K H a xs:=by
 cases tp
 .exact .inl h
 .exact .inr h
noncomputable def PZ(K:ZBc)(tp:Bool)(a:Addr)(xs:List V):It:=
 ⟨λi H=>IK K tp H a xs/\i<xs.length,λi H x H'=>H'=H/\xs[i]?=some x,λi H=>IK K tp H a xs/\xs.length<=i⟩
theorem yt{P:Program}{K:ZBc}(a it:Addr)(xs:List V):Turn P w K tg (PZ K false a xs) [it] it (λi h=>h.IsListIter it a i) where
 mem:=by simp
 obj:=(La (P:=P) (w:=w) (K:=K) (tg:=tg) a it).obj
 keep:=(La (P:=P) (w:=w) (K:=K) (tg:=tg) a it).keep
 item:=by
  intro X f hw g d i Zb s Z H E I c st b;obtain⟨j,hi⟩:=b;refine AI ((La (P:=P) (w:=w) (K:=K) (tg:=tg) a it).item X f hw g d i Zb s Z H E I c st ⟨xs,xs[i],j,by simp[hi]⟩) λr m AD=>by obtain⟨u,e,h⟩:=AD;exact⟨u,e,AI h λ_ s2 Cn=>by obtain⟨x,H',I',k,y,DZ,l⟩:=Cn;exact⟨x,H',I',k,⟨y.1,y.2 xs j⟩,DZ,l⟩⟩
 done:=by
  intro X f hw g d i Zb s Z H E I c st b;exact(La (P:=P) (w:=w) (K:=K) (tg:=tg) a it).done X f hw g d i Zb s Z H E I c st ⟨xs,b.1,b.2⟩
 self:=(La (P:=P) (w:=w) (K:=K) (tg:=tg) a it).self
theorem vf{P:Program}{K:ZBc}(a it:Addr)(xs:List V):Turn P w K tg (PZ K true a xs) [it] it (λi h=>h.IsTupleIter it a i) where
 mem:=by simp
 obj:=(NU (P:=P) (w:=w) (K:=K) (tg:=tg) a it).obj
 keep:=(NU (P:=P) (w:=w) (K:=K) (tg:=tg) a it).keep
 item:=by
  intro X f hw g d i Zb s Z H E I c st b;obtain⟨j,hi⟩:=b;refine AI ((NU (P:=P) (w:=w) (K:=K) (tg:=tg) a it).item X f hw g d i Zb s Z H E I c st ⟨xs,xs[i],j,by simp[hi]⟩) λr m AD=>by obtain⟨u,e,h⟩:=AD;exact⟨u,e,AI h λ_ s2 Cn=>by obtain⟨x,H',I',k,y,DZ,l⟩:=Cn;exact⟨x,H',I',k,⟨y.1,y.2 xs j⟩,DZ,l⟩⟩
 done:=by
  intro X f hw g d i Zb s Z H E I c st b;exact(NU (P:=P) (w:=w) (K:=K) (tg:=tg) a it).done X f hw g d i Zb s Z H E I c st ⟨xs,b.1,b.2⟩
 self:=(NU (P:=P) (w:=w) (K:=K) (tg:=tg) a it).self
def LW(K:ZBc)(tl:TE):TI:=λZ H R=>tl Z H λx H1=>∃tp a xs,x=.ref a/\IK K tp H1 a xs/\R (PZ K tp a xs) H1
noncomputable def W9(z:Str):It:=⟨λi _=>i<z.cps.size,λi H x H'=>H'=H/\∃c,z.cps[i]?=some c/\x=.str ⟨#[c]⟩,λi _=>i=z.cps.size⟩
theorem Yo{P:Program}{K:ZBc}{t:Tok}{ty:String}
  (C:["enumerate","zip","dict_itemiterator","dict_reverseitemiterator","odict_iterator","itertools.zip_longest","itertools.pairwise"].contains ty=false)
  (W:∀A:Around,A.handled=none->Walks P w A it [it] [it] z.cps.size (SignAt z) (λi h=>h.IsStrIter it ty z t i))
  (self:∀(A:Around)(i:Nat)(s:Shared)(Q:Value->Shared->Prop)(E:Value->Shared->Prop),s.heap.IsStrIter it ty z t i->Q (.ref it) s->wpAny (model P w) A (pyIter (.ref it)) Q E s) :
  Turn P w K tg (W9 z) [it] it (λi h=>h.IsStrIter it ty z t i) where
 mem:=by simp
 obj:=λi h st b a=>by
  have e:b=it:=by simpa using a
  subst e;obtain⟨o,e,c,d⟩:=st;exact⟨o,e,λv z=>by rw[d]at z;cases z⟩
 keep:=λi h h' st k=>let ⟨o,e,r⟩:=st;⟨o,k it (by simp) o e,r⟩
 item:=by
  intro X l hw m j i Zb s Z H E I f st g;subst l hw m;obtain⟨f0,x,D,q,p,n⟩:=f it (by simp);refine(W X.A (I.ok.hd j)).item i s _ _ g st λv h' tk⟨c,u,QB,B⟩DZ kp=>?_;subst B;have F:Inv X Zb Z H { s with heap:=h',toks:=tk }:=I.turned (t':=tk) (λb o a e=>kp b o (by simpa using a) e) f0 x q p n
  obtain⟨o,e,cl,d⟩:=id DZ;exact⟨_,rfl,Q7 (s:={ s with heap:=h',toks:=tk }) e cl d C ⟨.str ⟨#[c]⟩,H,F,⟨u,rfl⟩,⟨rfl,c,QB,rfl⟩,DZ,λb a=>(f b a).1⟩⟩
 done:=by
  intro X l hw m j i Zb s Z H E I f st g;subst l hw m;obtain⟨f0,x,D,q,p,n⟩:=f it (by simp);have y:i=z.cps.size:=g;subst y;exact(W X.A (I.ok.hd j)).done s _ _ st λh' tk kp=>⟨rfl,I.turned (t':=tk) (λb o a e=>kp b o (by simpa using a) e) f0 x q p n⟩
 self:=self
def ZK(tl:TE):TI:=λZ H R=>tl Z H λx H1=>∃z,x=.str z/\R (W9 z) H1
theorem DG{p:Addr}(h:H p=none)(o:HO):AJ H (upd H p o):=λb u q=>by rw[AS (Cy q h)];exact q
theorem uN{Q:VK}(xs:List V)(f:V->Bool)(g:V->V)(Ao:H1 acc=none)(z:xs.length<=sizeLine)
  (n:∀i H,AJ H1 H->i<xs.length->J.go i H) (Ca:∀H,AJ H1 H->J.stop xs.length H) (p:∀i H x H',J.E6 i H x H'->H'=H/\xs[i]?=some x)
  (r:∀(i:Nat)(x:V)(H':Hp)(Q':Bool->Hp->Prop),xs[i]?=some x->AJ H1 H'->(∀Gg,AJ H' Gg->Q' (f x) Gg)->tt (BA js Z++[some x]) H' Q')
  (s:∀(i:Nat)(x:V)(H':Hp)(Q':VK),xs[i]?=some x->f x=true->AJ H1 H'->(∀Gg,AJ H' Gg->Q' (g x) Gg)->te (BA js Z++[some x]) H' Q')
  (hd:∀H',AJ H1 H'->H' acc=some (.lst ((xs.filter f).map g))->Q (.ref acc) H'):Kg J js tt te Z H1 acc Q:=by
 refine⟨λi m H=>m=xs.length - i/\i<=xs.length/\AJ H1 H/\H acc=some (.lst (((xs.take i).filter f).map g)),⟨xs.length,by simp,CA _,DG Ao _,Al⟩,?_⟩;rintro i m H2⟨rfl,hi,a,j⟩
 by_cases h:i<xs.length
 .refine .inr ⟨n i H2 a h,λx H3 y=>?_⟩;obtain⟨e,hx⟩:=p i H2 x H3 y;subst e;have w:(xs.take (i+1))=xs.take i++[x]:=by
   have u:xs[i]=x:=by
    rw[Ah h]at hx;exact BH hx
   rw[Ro h,u]
  have l:List.filter f (xs.take (i+1))=(xs.take i).filter f++(if f x=true then[x]else[]):=by
   rw[w,Xb];congr 1
   by_cases c:f x=true <;> simp[c]
  refine r i x _ _ hx a λH4 s4=>?_
  by_cases c:f x=true
  .rw[ir c];refine s i x H4 _ hx c (a.trans s4) λH5 k=>?_;have d:(((xs.take i).filter f).map g).length<sizeLine:=by
    rw[AA];have:=Kz f (xs.take i);rw[FD]at this;omega
   refine⟨_,k _ _ (s4 _ _ j),d,xs.length - (i+1),by omega,rfl,h,λb o q=>?_,?_⟩
   .have t:b≠acc:=by rintro rfl;rw[Ao]at q;cases q
    rw[AS t];exact k _ _ (s4 _ _ (a b o q))
   .rw[Al,l,ir c,Bn];rfl
  .have v:f x=false:=by simpa using c
   rw[v];rw[ib (by decide)];refine⟨xs.length - (i+1),by omega,rfl,h,a.trans s4,?_⟩;rw[l,ib c,ER];exact s4 _ _ j
 .have e:i=xs.length:=by omega
  subst e;refine .inl ⟨Ca H2 a,hd H2 a ?_⟩;rw[GD]at j;exact j
noncomputable def G0(z:Str):List V:=z.cps.toList.map λc=>.str ⟨#[c]⟩
theorem V5(z:Str):(G0 z).length=z.cps.size:=by unfold G0;simp
theorem iW{Q:VK}(f:V->Bool)(g:V->V)(Ao:H1 acc=none)(a:z.cps.size<=sizeLine)
  (b:∀(i:Nat)(x:V)(H':Hp)(Q':Bool->Hp->Prop),(G0 z)[i]?=some x->AJ H1 H'->(∀Gg,AJ H' Gg->Q' (f x) Gg)->tt (BA js Z++[some x]) H' Q')
  (d:∀(i:Nat)(x:V)(H':Hp)(Q':VK),(G0 z)[i]?=some x->f x=true->AJ H1 H'->(∀Gg,AJ H' Gg->Q' (g x) Gg)->te (BA js Z++[some x]) H' Q')
  (hd:∀H',AJ H1 H'->H' acc=some (.lst (((G0 z).filter f).map g))->Q (.ref acc) H'):Kg (W9 z) js tt te Z H1 acc Q:=by
 refine uN (G0 z) f g Ao (by rw[V5];exact a) (λi H s hi=>?_) (λH s=>?_) (λi H x H' y=>?_) b d hd
 .rw[V5]at hi;exact hi
 .show(G0 z).length=z.cps.size;exact V5 z
 .obtain⟨e,c,h,hx⟩:=y;refine⟨e,?_⟩;subst hx;unfold G0;rw[Am,gj,h];rfl
def GJ(xs ys:List V):Bool:=xs.length == ys.length && (List.range xs.length).all λj=>E4 (xs.getD j .A9) (ys.getD j .A9)
theorem Oy{xs:List V}{x:V}(h:xs[j]?=some x):xs.getD j .A9=x:=by rw[Ri,h];rfl
theorem ZL{xs:List V}{x:V}(h:xs.all D3=true)(e:xs[j]?=some x):D3 x=true:=List.all_eq_true.mp h x (Bo e)
theorem Pa{xs:List V}{DN:List Value}(d:Vals xs A4)(c:Vals ys DN)(k:xs.all D3=true)(i:ys.all D3=true):
  ∀j(h1:j<A4.toArray.size)(h2:j<DN.toArray.size),SeqAt.EqAt A s A4.toArray[j] DN.toArray[j] (E4 (xs.getD j .A9) (ys.getD j .A9)):=λj h1 h2=>by
 have l1:=d.length;have l2:=c.length;have n:j<A4.length:=by simpa using h1
 have m:j<DN.length:=by simpa using h2
 have b:xs[j]?=some (xs[j]'(by omega)):=Ah _;have a:ys[j]?=some (ys[j]'(by omega)):=Ah _;obtain⟨u,f,h⟩:=d.get b;obtain⟨v,e,g⟩:=c.get a;rw[Ah n]at f;rw[Ah m]at e;have o:A4[j]=u:=BH f;have l:DN[j]=v:=BH e;rw[Oy b,Oy a];have q:=Ym (A:=A) (s:=s) h g (ZL k b) (ZL i a);rw[<- o,<- l]at q
 simpa using q
def Np(K:ZBc)(neg:Bool):R2:=λx y H Q=>∃p q xs ys,x=.ref p/\y=.ref q/\((AQ K H p xs/\AQ K H q ys)∨(BC K H p xs/\BC K H q ys))/\xs.all D3=true/\ys.all D3=true/\
 Q (.bl (if neg then !GJ xs ys else GJ xs ys)) H
theorem Ld{xs:List V}(h:xs.length≠ys.length):GJ xs ys=false:=by
 unfold GJ;have:(xs.length == ys.length)=false:=by simpa using h
 rw[this,Bool.false_and]
theorem MO{xs:List V}(h:xs.length=ys.length):GJ xs ys=(List.range xs.length).all λj=>E4 (xs.getD j .A9) (ys.getD j .A9):=by
 unfold GJ;have:(xs.length == ys.length)=true:=by simpa using h
 rw[this,gk]
theorem nO(g:X.A.units<cLine):B6 X (compareOp .Eq) (Np X.K false):=by
 intro Zb s Z H x y v u Q I t r h;obtain⟨p,q,xs,ys,rfl,rfl,w,m,l,z⟩:=h;cases t;cases r;have b:Q (.bl (GJ xs ys)) H:=z;rcases w with⟨k,i⟩|⟨k,i⟩
 .obtain⟨A4,d,f,o⟩:=I.list k;obtain⟨DN,c,p2,n⟩:=I.list i;have l1:=d.length;have l2:=c.length
  by_cases a:xs.length=ys.length
  .refine SeqAt.eq_listAt (e:=λj=>E4 (xs.getD j .A9) (ys.getD j .A9)) f.isList p2.isList (by simp;omega) g (Pa d c m l) ⟨.bl _,H,I,rfl,?_⟩;rw[MO a]at b;simp only[Bf,<- l1];exact b
  .rw[Ld a]at b;exact SeqAt.eq_list_lengthsAt f.isList p2.isList (by simp;omega) g ⟨.bl false,H,I,rfl,b⟩
 .obtain⟨A4,d,f,o⟩:=I.tuple k;obtain⟨DN,c,p2,n⟩:=I.tuple i;have l1:=d.length;have l2:=c.length;refine SeqAt.eq_tupleAt (e:=λj=>E4 (xs.getD j .A9) (ys.getD j .A9)) f p2 g (Pa d c m l) ⟨.bl _,H,I,rfl,?_⟩;simp only[Bf,<- l1,<- l2]
  by_cases a:xs.length=ys.length
  .rw[MO a]at b;have:(xs.length == ys.length)=true:=by simpa using a
   rw[this,Bool.and_true,<- a,Nat.min_self];exact b
  .rw[Ld a]at b;have:(xs.length == ys.length)=false:=by simpa using a
   rw[this,XU];exact b
theorem Qk(g:X.A.units<cLine):B6 X (compareOp .NotEq) (Np X.K true):=by
 intro Zb s Z H x y v u Q I t r h;obtain⟨p,q,xs,ys,rfl,rfl,w,m,l,z⟩:=h;cases t;cases r;have b:Q (.bl (!GJ xs ys)) H:=z;rcases w with⟨k,i⟩|⟨k,i⟩
 .obtain⟨A4,d,f,o⟩:=I.list k;obtain⟨DN,c,p2,n⟩:=I.list i;have l1:=d.length;have l2:=c.length
  by_cases a:xs.length=ys.length
  .refine SeqAt.RcNeAt.lists (e:=λj=>E4 (xs.getD j .A9) (ys.getD j .A9)) f.isList p2.isList (by simp;omega) g (Pa d c m l) _ _ _ _ ⟨.bl _,H,I,rfl,?_⟩;rw[MO a]at b;simp only[Bf,<- l1];exact b
  .rw[Ld a]at b;exact ZB3 f.isList p2.isList (by simp;omega) g _ _ _ _ ⟨.bl true,H,I,rfl,b⟩
 .obtain⟨A4,d,f,o⟩:=I.tuple k;obtain⟨DN,c,p2,n⟩:=I.tuple i;have l1:=d.length;have l2:=c.length;refine SeqAt.RcNeAt.tuples (e:=λj=>E4 (xs.getD j .A9) (ys.getD j .A9)) f p2 g (Pa d c m l) _ _ _ _ ⟨.bl _,H,I,rfl,?_⟩;simp only[Bf,<- l1,<- l2]
  by_cases a:xs.length=ys.length
  .rw[MO a]at b;have:(xs.length == ys.length)=true:=by simpa using a
   rw[this,Bool.and_true,<- a,Nat.min_self];exact b
  .rw[Ld a]at b;have:(xs.length == ys.length)=false:=by simpa using a
   rw[this,XU];exact b
theorem pL:CZ X (.builtin "isinstance") (λxs H Q=>∃x n t b,xs=[x,.ty n]/\EL X.K H x t/\PySem.W.kitOne X.K t (.type n)=some b/\Q (.bl b) H):=by
 intro Zb s Z H xs us Q I r h;obtain⟨x,n,t,b,rfl,ty,e,q⟩:=h;obtain⟨u,c,rfl,a,rt⟩:=vals2 r;cases rt;exact ZC I a ty e λtk=>⟨.bl b,H,I.tok tk,rfl,q⟩
theorem ZAP{bs:List Bool}(r:Vals (bs.map V.bl) A4){v:Value}(e:A4[i]?=some v):v=.bool (bs.getD i false):=by
 have c:=r.length;rw[AA]at c;have hi:i<A4.length:=(List.getElem?_eq_some_iff.mp e).1;have d:(bs.map V.bl)[i]?=some (.bl (bs[i]'(by omega))):=by rw[Am,Ah (by omega)];rfl
 obtain⟨u,a,b⟩:=r.get d;rw[e]at a;cases a;cases b;rw[Ri,Ah (by omega)];rfl
theorem range_all(bs:List Bool):(List.range bs.length).all (λi=>bs.getD i false)=bs.all id:=by
 rw[MW,Gq,Gq];constructor
 .intro h x hx;obtain⟨i,hi,rfl⟩:=List.mem_iff_getElem.mp hx;have:=h i (List.mem_range.mpr hi);rw[Ri,Ah hi]at this;exact this
 .intro h i hi;rw[Ri,Ah (List.mem_range.mp hi)];exact h _ (Ky _)
theorem d8(j:X.calm=true):CZ X (.builtin "all") (λxs H Q=>∃(p:Addr)(bs:List Bool),xs=[.ref p]/\AQ X.K H p (bs.map V.bl)/\Q (.bl (bs.all id)) H):=by
 intro Zb s Z H xs us Q I r h;obtain⟨p,bs,rfl,g,q⟩:=h;obtain⟨u,rfl,d⟩:=vals1 r;cases d;obtain⟨A4,a,pl,m⟩:=I.list g;have c:=a.length;rw[AA]at c;refine call_all_walk (qr pl.isList ?_);obtain⟨o,n,ho,_⟩:=id pl;have l:p≠s.heap.objs.size:=CV (B4 ho);refine⟨s.heap.objs.size,_,_,_,_,_,λi=>bs.getD i false,rfl,Walks.list (by rw[Around.in1_handled];exact I.ok.hd j) _ p l A4.toArray,⟨⟨_,D0 _ rfl,rfl,rfl⟩,pl.isList.push _⟩,λi v s' Q' E' f DR=>?_,λh' tk kp=>?_⟩
 .have k:v=.bool (bs.getD i false):=ZAP a (by simpa using f)
  rw[k];exact kH DR
 .refine⟨.bl _,H,I.kept (t':=tk) λb ob e=>kp b ob (by simpa using CV (B4 e)) (Bz _ e),rfl,?_⟩
  rw[Bf,<- c,range_all];exact q
def UQ:V->List V->Hp->VK->Prop:=λx vs H Q=>∃(l:Addr)(xs:List V)(j:Int)(y:V),x=.ref l/\vs=[.int j,y]/\H l=some (.lst xs)/\0<=j/\j<=xs.length/\xs.length<sizeLine/\Q .A9 (upd H l (.lst (xs.take j.toNat++y::xs.drop j.toNat)))
theorem sR:Lh X "list.insert" UQ:=by
 intro Zb s Z H x vs v us Q I d f h;obtain⟨l,xs,j,y,rfl,rfl,b,MH,u,A,q⟩:=h;cases d;obtain⟨w,a,rfl,g,c⟩:=f.two;obtain⟨t,rfl⟩:=g;obtain⟨z,A4,n,r,m,e⟩:=I.Hn b;have h2:j<2 ^ 63:=by
  have B:(xs.length:Int)<=(sizeLine:Int):=Int.ofNat_le.mpr z;have C:((sizeLine:Nat):Int)<2 ^ 63:=by exact_mod_cast J6
  omega
 have i:(!Builtin.List.listFitsIndex j)=true->False:=by
  have h1:Builtin.List.listFitsIndex j=true:=by
   unfold Builtin.List.listFitsIndex;rw[EO];exact⟨jE (by omega),jE h2⟩
  rw[h1];exact λh=>nomatch h
 have p:A4.toArray.size<=sizeLine:=CU (i7 (List.size_toArray.trans m.symm)) z;refine oJ ZAx ⟨_,e,rfl⟩ PySem.F.entry_list_insert (PySem.F.args_list_insert_3 _ _ _) (PySem.AutoSeq1.list_insert_list_int_val_1 l A4.toArray n j t a i p) ⟨e,?_⟩;refine⟨.A9,_,I.LA (its':=A4.take j.toNat++a::A4.drop j.toNat) b e ?_ ((r.take _).append (.cons c (r.drop _))) ?_,rfl,q⟩
 .have o:¬ (j<0):=by omega
  have k:min j.toNat A4.toArray.size=j.toNat:=by simp;omega
  simp only[o,tX,k];apply Array.toList_inj.mp;simp;exact Me (by simp)
 .rw[Bj,CG,FD,hU];omega
def P7(x:V)(xs:List V):Nat:=xs.countP λy=>E4 y x
theorem aQ{x:V}:∀{xs:List V}{us:List Value},Vals xs us->xs.all D3=true->us.countP (DM x)=P7 x xs
 |_,_,.nil,_=>rfl
 |y::xs,u::us,.cons r t,h=>by
  have h1:D3 y=true/\xs.all D3=true:=by simpa[Rg]using h
  unfold P7;rw[ZAY,ZAY,X4 r h1.1,aQ t h1.2];rfl
def WN(K:ZBc):V->List V->Hp->VK->Prop:=λx vs H Q=>∃l xs y,x=.ref l/\vs=[y]/\AQ K H l xs/\D3 y=true/\xs.all D3=true/\Q (.int (P7 y xs)) H
theorem pe:Lh X "list.count" (WN X.K):=by
 intro Zb s Z H x vs v us Q I e f h;obtain⟨l,xs,y,rfl,rfl,i,j,fs,q⟩:=h;cases e;obtain⟨u,rfl,g⟩:=f.one;obtain⟨A4,r,pl,k⟩:=I.list i;obtain⟨⟨c,d,m,b⟩,n,ho,a,hd,Js⟩:=id pl;simp only at a hd Js;subst a;subst hd;subst Js;refine oJ F.slot_list_count ⟨_,ho,rfl⟩ F.entry_list_count (F.args_list_count_2 _ _) (SeqAt.list_countAt l A4.toArray n none b u (DM y)) ⟨ho,λz T1=>Ke g j r fs z (by simpa using T1),?_⟩
 refine⟨.int _,H,I.tok _,⟨_,rfl⟩,?_⟩;rw[List.toList_toArray,aQ r fs];exact q
def mQ:V->Option Int->Option Int->Hp->VK->Prop:=λx lo hi H Q=>∃z,x=.str z/\z.length<=sizeLine/\Q (.str (Txt.slice z lo hi)) H
theorem part_of{v:Value}{o:Option Int}(p:IsPart v o):∃l:Option (Int×Tok),v=partValue l/\l.map (·.1)=o:=by
 cases p with
 |none=>exact⟨none,rfl,rfl⟩
 |int i t=>exact⟨some (i,t),rfl,rfl⟩
theorem dY:Qy X mQ:=by
 intro Zb s Z H x v i g lo hi j Q I a e pl b h;obtain⟨z,rfl,c,q⟩:=h;obtain⟨t,rfl⟩:=a;obtain⟨l,rfl,f⟩:=part_of pl;obtain⟨u,rfl,d⟩:=part_of b;subst f;subst d;refine⟨"str", _,F.slot_str_getitem.lookup,typeIs_str _ _ _,wpAny_getItem_str_slice (l:=l) (u:=u) (st:=none) e rfl (post_val_or_str ⟨CU (Txt.slice_le z _ _) c,λt' k=>?_⟩)⟩;exact⟨.str _,H,I.tok k,⟨t',rfl⟩,q⟩
end L2
set_option exponentiation.threshold 5000
namespace L2
variable{f p:Addr}{H:Hp}
def AE(P:Program)(w:World)(K:ZBc)(mg:ZBe)(Zj:Heap)(x:Str)(k:Nat)(ps:List Str)(sp:Sp):Prop:=
 ∃f fd,CD P w K mg Zj Fj k f fd ps sp/\Binds K fd ps []/\PySem.W.keepIn K (.ref f)=true/\mg x=some (.ref f)
section
variable{P:Program}{w:World}{K:ZBc}{mg:ZBe}{Zj:Heap}{x qual:Str}{k:Nat}{ps:List Str}{sp:Sp}{st:Stmt}{fd:FuncData}
theorem AE.mk(F:AO K x qual st f fd)(b:Binds K fd ps [])(m:mg x=some (.ref f))(h:CD P w K mg Zj Fj k f fd ps sp):AE P w K mg Zj x k ps sp:=⟨f,fd,h,b,F.kp,m⟩
variable{X:Cx}{j:Nat}{p pos:Pos}{e:Expr}{es:List Expr}{t:TA}
def Q4(K:ZBc):List V->Hp->VK->Prop:=λxs H Q=>∃(p:Addr)(ys:List V),xs=[.ref p]/\(AQ K H p ys∨BC K H p ys)/\Q (.int ys.length) H
theorem Kr:CZ X (.builtin "len") (Q4 X.K):=Pb
def dJ(K:ZBc):List V->Hp->VK->Prop:=λxs H Q=>∃(x:V)(n:String)(t:Value)(b:Bool),xs=[x,.ty n]/\EL K H x t/\PySem.W.kitOne K t (.type n)=some b/\Q (.bl b) H
theorem zN:CZ X (.builtin "isinstance") (dJ X.K):=pL
theorem Ju:Fu X "list.append" Qc:=gB
theorem yY:Fu X "list.insert" UQ:=sR
theorem jT:Fu X "list.count" (WN X.K):=pe
theorem rS:Fu X "list.pop" Vo:=sx
def sY(i j:Int):Prop:=i.natAbs<2 ^ 1000/\j.natAbs<2 ^ 1000
theorem gK{n:Nat}(h:n<2 ^ 1000):n.log2<1000:=by
 rcases Nat.eq_zero_or_pos n with e|e
 .subst e;exact(show(0:Nat).log2<1000 by decide)
 .exact(Nat.log2_lt (Mh e)).mpr h
theorem bits_le{i:Int}(h:i.natAbs<2 ^ 1000):Builtin.Int.intBits i<=2 ^ 20:=by
 unfold Builtin.Int.intBits;split
 .exact CA _
 .have:=gK h;have e:(2:Nat) ^ 20=1048576:=by decide
  omega
theorem Jd:B6 X (binaryOp .Mult) (rI sY λi j=>.int (i * j)):=QU λ_ _ _ _ _ _ _ a q=>mul_int q (.of_bits (bits_le a.1) (bits_le a.2))
theorem UL:B6 X (binaryOp .FloorDiv) (rI (λ_ j=>0<j/\j.natAbs<2 ^ 1000) λi j=>.int (i / j)):=QU λi j _ _ _ _ _ a q=>by
 have h1:(0:Int)<j:=a.1;have h2:=gK a.2;exact floordiv_int (by omega) (by rw[Int.fdiv_eq_ediv_of_nonneg i (by omega)];exact q) (.inl (PyProof.noPylong_of_log2 (by omega)))
theorem iS{body rest:List Stmt}{t u:TS}(e:body=st::rest)(h:PS X st t)(h2:DO X rest u):DO X body (Nv t u):=by rw[e];exact uK h h2
def X7(t:TS):TS:=λD Z H=>∃J:St->Hp->Prop,t { D with nx:=J } Z H/\∀ σ' H',J σ' H'->D.nx σ' H'
end
def Fs(p:Addr)(H H':Hp):Prop:=∀b o,b≠p->H b=some o->H' b=some o
theorem Fs.trans{H1 H2:Hp}(a:Fs p H H1)(b:Fs p H1 H2):Fs p H H2:=λc o d e=>b c o d (a c o d e)
theorem Fs.of{H':Hp}(a:AJ H H'):Fs p H H':=λc o _ e=>a c o e
theorem Fs.upd{o:HO}:Fs p H (upd H p o):=λc u a e=>by rw[AS a];exact e
end L2
set_option maxHeartbeats 8000000
namespace L2
variable{ss:List Str}
noncomputable def ly(P:Program)(w:World)(a:Addr)(f:Str->Bool)(n:Nat):HO:=.ext λh=>h.SetOf (strKind P w) a f n
section
variable{X:Cx}
theorem kA{A4:List Value}(r:Vals (ss.map V.str) A4){i:Nat}{v:Value}(e:A4[i]?=some v):∃(h:i<ss.length)(t:Tok),v=.str ss[i] t:=by
 have d:=r.length;rw[AA]at d;have hi:i<A4.length:=(List.getElem?_eq_some_iff.mp e).1;have b:i<ss.length:=by omega
 have f:(ss.map V.str)[i]?=some (.str ss[i]):=by rw[Am,Ah b];rfl
 obtain⟨u,a,c⟩:=r.get f;rw[e]at a;cases a;obtain⟨t,q⟩:=c;exact⟨b,t,q⟩
end
end L2
set_option maxHeartbeats 4000000
namespace L2
variable{X:Cx}{a c e l o tg:Expr}{es ifs:List Expr}{body rest:List Stmt}{ta te tl to:TE}{tb:TS}{tc tt:TT}{p pos pos' px:Pos}{name x y:Str}{Ei op:CmpOp}{r:List V->Hp->VK->Prop}{i j n:Nat}{ps ss:List Str}{sp:Sp}{T:String}{wi:TI}{g:TG}{w:World}{I f:Addr}
structure QE (X:Cx) (e:Expr) (t:TE):Prop where h:PE X e t
structure QT (X:Cx) (e:Expr) (t:TT):Prop where h:PT X e t
structure QW (X:Cx) (e:Expr) (t:TT):Prop where h:PW X e t
structure QA (X:Cx) (es:List Expr) (t:TA):Prop where h:PA X es t
structure QS (X:Cx) (st:Stmt) (t:TS):Prop where h:PS X st t
structure Fw (X:Cx) (st:List Stmt) (t:TS):Prop where h:DO X st t
structure QG (X:Cx) (tg:Expr) (t:TG):Prop where h:PG X tg t
structure R9 (X:Cx) (ts:List Expr) (t:GQ):Prop where h:Lm X ts t
structure QI (X:Cx) (tg iter:Expr) (wi:TI):Prop where h:PI X tg iter wi
structure Kc (X:Cx) (ifs:List Expr) (t:TT):Prop where h:Gd X ifs t
structure QO (X:Cx) (e:Option Expr) (t:TO):Prop where h:PO X e t
section
variable{b:Expr}{rest:List Expr}{tb tc:TE}{tA IP:TT}{t:TA}{p2 apos Bw:Pos}
theorem qv(i:Nat)(j:X.N[i]?=some x:=by rfl)(hv:Q5 X.env.scope x:=by first|exact Or.inl rfl|exact Or.inr (Or.inl rfl)|exact Or.inr (Or.inr rfl))(hd:(x == ("__debug__":Str))=false:=by decide)
  (Fh:(x == ("__classdict__":Str))=false:=by decide):QE X (.Name x pos) (Ap i):=⟨by
 intro Zb s Z H Q I h;obtain⟨v,e,h⟩:=h;obtain⟨m,d,g⟩:=I.loc;obtain⟨u,r,l⟩:=g i x v j e hv;have a:EP X Zb Z Q u s:=⟨v,H,I,r,h⟩;rcases l with⟨hk,f⟩|⟨hk,c,b,Qw⟩
 .exact wpAny_Name (wpAny_loadName_local I.ok.kind hk d f a) hd
 .rcases hk with hk|hk
  .exact wpAny_Name (wpAny_loadName_cell I.ok.kind hk b Qw a) hd
  .exact wpAny_Name (wpAny_loadName_free I.ok.kind hk b Qw a Fh) hd⟩
theorem A8{i j pos}:QE X (.Constant (.int i) j pos) (tC (.int i)):=⟨λ_ _ _ H _ I h=>wpAny_Constant_int ⟨.int i,H,I.tok _,⟨_,rfl⟩,h⟩⟩
theorem JD{b j pos}:QE X (.Constant (.bool b) j pos) (tC (.bl b)):=⟨λ_ _ _ H _ I h=>Constant_bool ⟨.bl b,H,I,rfl,h⟩⟩
theorem GF{j pos}:QE X (.Constant .none j pos) (tC .A9):=⟨λ_ _ _ H _ I h=>Constant_none ⟨.A9,H,I,rfl,h⟩⟩
theorem Ar{x j pos}:QE X (.Constant (.str x) j pos) (tC (.str x)):=⟨λ_ _ _ H _ I h=>Calls.Constant_str ⟨.str x,H,I.tok _,⟨_,rfl⟩,h⟩⟩
theorem CY{v:V}{u:Value}(b:Gl X x)(a:X.mg x=some u)(r:RelV v u)(hd:(x == ("__debug__":Str))=false:=by decide):QE X (.Name x pos) (tC v):=⟨λ_ _ _ H _ I h=>Lb I b a ⟨v,H,I,r,h⟩ hd⟩
theorem eh(T:String)(a:X.mg x=none)(b:Gl X x:=by rfl)(hv:bootBuiltins x=some (.type T):=by decide +kernel)(hn:x ≠"__name__" := by decide)(hd:(x == ("__debug__":Str))=false:=by decide):
  QE X (.Name x pos) (tC (.ty T)):=⟨lz b a hv rfl hn hd⟩
theorem Ai{op:Operator}{r:R2}(ho:B6 X (binaryOp op) r)(d:QE X a ta)(c:QE X b tb):QE X (.BinOp a op b pos) (BU r ta tb):=⟨by
 have d:=d.h;have c:=c.h;intro Zb s Z H Q I h;exact wpAny_BinOp (TR d c I h λv u s2 x y H2 I2 f e q=>ho Zb s2 Z H2 x y v u Q I2 f e q)⟩
theorem Q2{op:UnaryOp}{r:V->Hp->VK->Prop}(ho:RQ X (unaryOp op) r)(b:QE X a ta):QE X (.UnaryOp op a pos) (RF r ta):=⟨by
 have b:=b.h;intro Zb s Z H Q I h;exact UnaryOp_ (AI (b Zb s Z H _ I h) λv c AD=>by obtain⟨x,H1,I1,d,e⟩:=AD;exact ho Zb c Z H1 x v Q I1 d e)⟩
theorem mZ{r:R2}(ho:B6 X (compareOp op) r)(d:QE X a ta)(c:QE X b tb)(g:behindInMarks op b=false):QE X (.Compare a [op] [b] pos) (BU r ta tb):=⟨by
 have d:=d.h;have c:=c.h;intro Zb s Z H Q I h;exact wpAny_Compare1 (TR d c I h λv u s2 x y H2 I2 f e q=>ho Zb s2 Z H2 x y v u Q I2 f e q) g⟩
theorem eE{r:R2}(ho:B6 X (compareOp op) r)(e:QE X a ta)(d:QE X b tb)(c:behindInMarks op b=false):QT X (.Compare a [op] [b] pos) (Km (BU r ta tb)):=⟨jl ho e.h d.h c⟩
theorem wd{r l:R2}(ho:B6 X (compareOp op) r)(DW:B6 X (compareOp Ei) l)(i:QE X a ta)(g:QE X b tb)(f:QE X c tc)
  (E:lastMarks [op,Ei] [b,c]=false:=by with_unfolding_all rfl):QE X (.Compare a [op,Ei] [b,c] pos) (Ov r l ta tb tc):=⟨by
 have i:=i.h;have g:=g.h;have f:=f.h;intro Zb s Z H Q I h;refine Compare_chain (AI (i Zb s Z H _ I h) λv q⟨x,H1,I1,A,D⟩=>chain_link (AI (g Zb q Z H1 _ I1 D) λu s2⟨y,H2,I2,j,C⟩=>
  AI (ho Zb s2 Z H2 x y v u _ I2 A j C) λd p⟨z,H3,I3,w,k,e,m⟩=>?_)) E
 subst e;cases w;refine kH ?_;cases k with
 |false=>exact ite_ff ⟨.bl false,H3,I3,rfl,m⟩
 |true=>exact ite_tt (chain_last (AI (f Zb p Z H3 _ I3 m) λo s4⟨n,H4,I4,t,B⟩=>DW Zb s4 Z H4 y n u o Q I4 j t B))⟩
theorem gf{r l:R2}(ho:B6 X (compareOp op) r)(DW:B6 X (compareOp Ei) l)(i:QE X a ta)(g:QE X b tb)(f:QE X c tc)
  (K:lastMarks [op,Ei] [b,c]=false:=by with_unfolding_all rfl):QT X (.Compare a [op,Ei] [b,c] pos) (Km (Ov r l ta tb tc)):=⟨by
 have i:=i.h;have g:=g.h;have f:=f.h;intro Zb s Z H Q I h;refine isTrue_chain (AI (i Zb s Z H _ I h) λv t⟨x,H1,I1,C,G⟩=>test_link (AI (g Zb t Z H1 _ I1 G) λu s2⟨y,H2,I2,j,F⟩=>
  AI (ho Zb s2 Z H2 x y v u _ I2 C j F) λd q⟨z,H3,I3,B,k,e,m⟩=>?_)) K
 subst e;cases B;refine kH ?_;cases k with
 |false=>
  obtain⟨P,M,J⟩:=m;cases M;exact ite_ff ⟨H3,I3,J⟩
 |true=>
  refine ite_tt (test_last (AI (f Zb q Z H3 _ I3 m) λp s4⟨n,H4,I4,A,E⟩=>AI (DW Zb s4 Z H4 y n u p _ I4 j A E) λd' O o=>?_));obtain⟨N,H5,I5,w,k2,L,D⟩:=o;subst L;cases w;exact kH ⟨H5,I5,D⟩⟩
theorem Wb{op}(h:QE X a ta):QE X (.BoolOp op [a] pos) ta:=⟨by have h:=h.h;exact λZb s Z H Q I hw=>BoolOp_one (h Zb s Z H Q I hw)⟩
theorem VS(f:QE X a ta)(e:QE X (.BoolOp .And (b::rest) pos) tb):QE X (.BoolOp .And (a::b::rest) pos) (Uq ta tb):=⟨by
 have f:=f.h;have e:=e.h;intro Zb s Z H Q I h;refine BoolOp_and (AI (f Zb s Z H _ I h) λv g Ea=>?_);obtain⟨x,H1,I1,i,d⟩:=Ea;obtain⟨c,rfl,d⟩:=d;cases i;refine kH ?_;cases c with
 |true=>exact e Zb g Z H1 Q I1 d
 |false=>exact⟨.bl false,H1,I1,rfl,d⟩⟩
theorem OZ(b:QT X a tA):QW X (.BoolOp .And [a] pos) tA:=⟨by
 have b:=b.h;intro d Zb s Z H Q I h;refine isTrue_and (AI (b Zb s Z H Q I h) λc f e=>?_);cases c with
 |true=>exact isTrue_and_nil e
 |false=>exact e⟩
theorem Uh(b:QT X a tA):QW X (.BoolOp .Or [a] pos) tA:=⟨by
 have b:=b.h;intro d Zb s Z H Q I h;refine isTrue_or (AI (b Zb s Z H Q I h) λc f e=>?_);cases c with
 |false=>exact isTrue_or_nil e
 |true=>exact e⟩
theorem Oi(e:QT X a tA)(d:QW X (.BoolOp .And (b::rest) pos) IP):QW X (.BoolOp .And (a::b::rest) pos) (Wf tA IP):=⟨by
 have e:=e.h;have d:=d.h;intro g Zb s Z H Q I h;refine isTrue_and (AI (e Zb s Z H _ I h) λc i Ea=>?_);obtain⟨H1,I1,f⟩:=Ea;cases c with
 |true=>exact d g Zb i Z H1 Q I1 f
 |false=>exact⟨H1,I1,f⟩⟩
theorem Sf(e:QT X a tA)(d:QW X (.BoolOp .Or (b::rest) pos) IP):QW X (.BoolOp .Or (a::b::rest) pos) (Rz tA IP):=⟨by
 have e:=e.h;have d:=d.h;intro g Zb s Z H Q I h;refine isTrue_or (AI (e Zb s Z H _ I h) λc i Ea=>?_);obtain⟨H1,I1,f⟩:=Ea;cases c with
 |true=>exact⟨H1,I1,f⟩
 |false=>exact d g Zb i Z H1 Q I1 f⟩
theorem QW.pt{t:TT}(h:QW X e t):QT X e t:=⟨h.h.pt⟩
theorem Oe(b:QT X a tA):QT X (.UnaryOp .Not a pos) (XJ tA):=⟨by
 have b:=b.h;intro Zb s Z H Q I h;exact isTrue_not (b Zb s Z H (λc H1=>Q (!c) H1) I h)⟩
theorem Jm(h:QE X e te)(f:∀a,isTrue e X.env a=(do let v <- a;standAt e.pos;holding [v] (truthy v)):=by intro _;rfl):QT X e (tB te):=⟨by
 have h:=h.h;intro Zb s Z H Q I hw;refine isTrue_plain (AI (h Zb s Z H _ I hw) λv g⟨x,H1,I1,b,c⟩=>?_) (f _);obtain⟨d,rfl,q⟩:=c;cases b;exact kH ⟨H1,I1,q⟩⟩
theorem mx(e:QT X c tA)(g:QE X a ta)(f:QE X b tb):QE X (.IfExp c a b pos) (Vf tA ta tb):=⟨by
 have e:=e.h;have g:=g.h;have f:=f.h;intro Zb s Z H Q I h;refine wpAny_IfExp (AI (e Zb s Z H _ I h) λd i Ea=>?_);obtain⟨H1,I1,j⟩:=Ea;cases d with
 |true=>exact g Zb i Z H1 Q I1 j
 |false=>exact f Zb i Z H1 Q I1 j⟩
theorem A6:QA X [] B3:=⟨λ_ _ _ _ H Q I h=>Calls.spliced_nil ⟨[],H,I,.nil,h⟩⟩
theorem A0(c:QE X e te)(b:QA X es t)(a:starEach (e::es) X.env=(false,eval e X.env)::starEach es X.env:=by rfl):QA X (e::es) (AU te t):=⟨qe c.h b.h a⟩
theorem D4{x1}(h:QA X es t):QE X (.Tuple es x1 pos) (RK t):=⟨wo h.h⟩
theorem Ds(h:QA X es t):QE X (.List es pos) (VY t):=⟨zl h.h⟩
theorem Oc:QO X none W0:=⟨by
 intro Zb s Z H Q I h;rw[ub];exact jP ⟨none,H,I,.none,h⟩⟩
theorem LQ(h:QE X e te):QO X (some e) (W6 te):=⟨by
 have h:=h.h;intro Zb s Z H Q I hw;rw[evalPart_some];refine AI (h Zb s Z H _ I hw) λu c TY=>?_;obtain⟨x,H1,I1,a,b⟩:=TY;obtain⟨i,rfl,q⟩:=b;obtain⟨t,rfl⟩:=a;exact⟨some i,H1,I1,.int i t,q⟩⟩
theorem O3{r:V->Option Int->Option Int->Hp->VK->Prop}{lo hi:Option Expr}{tl th:TO}(y:Qy X r)(i:QE X e te)(g:QO X lo tl)(f:QO X hi th):QE X (.Subscript e (.Slice lo hi none p2) pos) (Wh r te tl th):=⟨by
 have i:=i.h;have g:=g.h;have f:=f.h;intro Zb s Z H Q I h;refine Subscript_ (AI (i Zb s Z H _ I h) λv j Ea=>?_);obtain⟨x,H1,I1,k,o⟩:=Ea;refine wpAny_Slice (AI (g Zb j Z H1 _ I1 o) λd s2⟨l,H2,I2,pl,n⟩=>AI (f Zb s2 Z H2 _ I2 n) λc a NR=>?_);obtain⟨u,H3,I3,p,m⟩:=NR;rw[ub];refine jP ?_;have C:Inv X Zb Z H3 { a with heap:=a.heap.push { cls:=.type "slice", data:=.fields #[d,c,.none] } }:=I3.kept (t':=a.toks) λb ob q=>Bz _ q
 obtain⟨T,id,B,t,z⟩:=y Zb { a with heap:=a.heap.push { cls:=.type "slice", data:=.fields #[d,c,.none] } } Z H3 x v d c l u a.heap.objs.size Q C k (Heap.IsSliceOf.new ..) pl p m
 show wpAny (model X.prog X.w) X.A (subscriptTail e (.Slice lo hi none p2) v (.ref a.heap.objs.size)) (EP X Zb Z Q) X.xe { a with heap:=a.heap.push { cls:=.type "slice", data:=.fields #[d,c,.none] } }
 exact tail_any (ops:=[.ref a.heap.objs.size,v]) t B z (by with_unfolding_all rfl)⟩
theorem pQ{r:R2}(i:Cb X r)(d:QE X a ta)(c:QE X b tb)(g:WY b):QE X (.Subscript a b pos) (BU r ta tb):=⟨by
 have d:=d.h;have c:=c.h;intro Zb s Z H Q I h;exact Subscript_ (TR d c I h λv u s2 x y H2 I2 f e q=>i a b Zb s2 Z H2 x y v u Q I2 f e q (g _ _))⟩
theorem jj{k:Nat}(h:AE X.prog X.w X.K X.mg X.base x k ps sp)(c:BR j X.A)(hk:k<=j)(a:QA X (e::es) t)(d:Gl X x:=by rfl)(BV:(x == ("__debug__":Str))=false:=by decide)
  (he:starEach (e::es) X.env=(false,eval e X.env)::starEach es X.env:=by rfl) (BP:(backTo pos (starEach es X.env)).any (·.1)=false:=by rfl):QE X (.Call (.Name x p) (e::es) [] pos) (D6 sp [] E0 t):=⟨by
 have a:=a.h;obtain⟨f,fd,F,b,kp,m⟩:=h;exact se (F.mono hk) c d m kp b .nil R8 a BV he BP⟩
theorem jY{id:String}(k:CZ X (.builtin id) r)(j:Gl X x)(i:X.mg x=none)(f:bootBuiltins x=some (.builtin id))(a:QA X (e::es) t)(g:x ≠"__name__" := by decide)(BV:(x == ("__debug__":Str))=false:=by decide)
  (he:starEach (e::es) X.env=(false,eval e X.env)::starEach es X.env:=by rfl) (BP:(backTo pos (starEach es X.env)).any (·.1)=false:=by rfl):QE X (.Call (.Name x p) (e::es) [] pos) (Dm r t):=⟨by
 have a:=a.h;intro Zb s Z H Q I h;refine kY (LF I j i f ?_ g BV);exact PyProof.Rows.callWith_builtin1 (AI (a pos Zb s Z H _ I h) λus b AD=>by obtain⟨vs,H1,I1,c,d⟩:=AD;exact k Zb b Z H1 vs us Q I1 c d) he BP⟩
theorem uC(k:CZ X (.type T) r)(j:Gl X x)(i:X.mg x=none)(f:bootBuiltins x=some (.type T))(a:QA X (e::es) t)(g:x ≠"__name__" := by decide)(BV:(x == ("__debug__":Str))=false:=by decide)
  (he:starEach (e::es) X.env=(false,eval e X.env)::starEach es X.env:=by rfl) (BP:(backTo pos (starEach es X.env)).any (·.1)=false:=by rfl):QE X (.Call (.Name x p) (e::es) [] pos) (Dm r t):=⟨by
 have a:=a.h;intro Zb s Z H Q I h;refine kY (LF I j i f ?_ g BV);exact Xq (AI (a pos Zb s Z H _ I h) λus b AD=>by obtain⟨vs,H1,I1,c,d⟩:=AD;exact k Zb b Z H1 vs us Q I1 c d) he BP⟩
theorem Zm{id:String}{r:V->List V->Hp->VK->Prop}(d:PlainAttrs T)(slot:Slot T name id)(K3:typeOf (.builtin id)=pure (.type "method_descriptor"))(e:Fu X id r)(ho:QE X o to)
  (K2:attributeBase o name X.env (eval o X.env)=eval o X.env:=by rfl) (KU:(apos.endLine == Bw.line)=true:=by rfl):QE X (.Call (.Attribute o name apos) [] [] Bw) (Pz X.K T r to):=⟨by
 have ho:=ho.h;intro Zb s Z H Q I h;refine wpAny_Call_method0_late K2 KU (AI (ho Zb s Z H _ I h) λv b TY=>?_);obtain⟨x,H1,I1,a,ty,c⟩:=TY;obtain⟨h1,h2⟩:=ay I1 a ty;exact⟨T,id,d,slot,K3,h1,h2,ZAS rfl (PySem.evalArgs_none (e Zb b Z H1 x [] v [] Q I1 a .nil c))⟩⟩
theorem G8{id:String}{r:V->List V->Hp->VK->Prop}(k:PlainAttrs T)(slot:Slot T name id)(K3:typeOf (.builtin id)=pure (.type "method_descriptor"))(l:Fu X id r)(ho:QE X o to)(a:QA X (e::es) t)
  (K2:attributeBase o name X.env (eval o X.env)=eval o X.env:=by rfl)
  (Vj:((backTo Bw (starEach (e::es) X.env)).all (λx=>!x.1) && (backToKw Bw (keywordEach [] X.env)).all (λx=>x.1.isSome)
   && decide ((e::es).length+([]:List Keyword).length+(if([]:List Keyword).isEmpty then 0 else 1)<30))=true:=by rfl)
  (KU:(apos.endLine == Bw.line)=true:=by rfl) (hs:starEach (e::es) X.env=(false,eval e X.env)::starEach es X.env:=by rfl) (Ww:(backTo Bw (starEach es X.env)).any (·.1)=false:=by rfl) :
  QE X (.Call (.Attribute o name apos) (e::es) [] Bw) (IZ X.K T r to t):=⟨by
 have ho:=ho.h;have a:=a.h;intro Zb s Z H Q I h;refine wpAny_Call_method_late K2 Vj KU rfl (AI (ho Zb s Z H _ I h) λv f d=>?_);obtain⟨x,H1,I1,b,ty,j⟩:=d;obtain⟨h1,h2⟩:=ay I1 b ty;refine⟨T,id,k,slot,K3,h1,h2,?_⟩;have c:=a Bw Zb f Z H1 _ I1 j;rw[hs]at c ⊢;refine ZAS (by show(false || (backTo Bw (starEach es X.env)).any (·.1))=false;rw[Ww] <;> rfl) (Calls.evalArgs_plain ?_)
 exact AI c λus s2 AD=>by obtain⟨vs,H2,I2,g,i⟩:=AD;exact l Zb s2 Z H2 x vs v us Q I2 b g i⟩
variable{elt iter:Expr}{scope:Scope}{AG:List Str}{js:List Nat}
theorem Bi(f:QE X l tl):QI X tg l (LW X.K tl):=⟨by
 have f:=f.h;intro Zb s Z H R I h;refine AI (f Zb s Z H _ I h) λv c⟨x,H1,I1,j,k⟩=>?_;obtain⟨tp,a,xs,e,g,q⟩:=k;subst e;cases j;have d:∀b∈[c.heap.objs.size],E9 X Zb H1 b:=λb n=>by
  have e:b=c.heap.objs.size:=by simpa using n
  subst e;exact I1.LX (Ae _) (I1.AF.fresh (Ae _))
 cases tp with
 |false=>
  obtain⟨A4,i,p,m⟩:=I1.list g;refine qr p.isList ?_;exact⟨c.heap.objs.size,[c.heap.objs.size],_,_,H1,rfl,I1.kept (t':=c.toks) λb o e=>Bz _ e,yt a _ xs,⟨_,D0 _ rfl,rfl,rfl⟩,d,q⟩
 |true=>
  obtain⟨A4,i,p,m⟩:=I1.tuple g;refine qK (show c.heap.IsTuple a A4.toArray from p) ?_;exact⟨c.heap.objs.size,[c.heap.objs.size],_,_,H1,rfl,I1.kept (t':=c.toks) λb o e=>Bz _ e,vf a _ xs,⟨_,D0 _ rfl,rfl,rfl⟩,d,q⟩⟩
theorem yL(d:QE X l tl):QI X tg l (ZK tl):=⟨by
 have d:=d.h;intro Zb s Z H R I h;refine AI (d Zb s Z H _ I h) λv a⟨x,H1,I1,i,j⟩=>?_;obtain⟨z,e,q⟩:=j;subst e;obtain⟨t,rfl⟩:=i;have c:∀b∈[a.heap.objs.size],E9 X Zb H1 b:=λb k=>by
  have e:b=a.heap.objs.size:=by simpa using k
  subst e;exact I1.LX (Ae _) (I1.AF.fresh (Ae _))
 have kp:∀(ob:Obj),Inv X Zb Z H1 { a with heap:=a.heap.push ob }:=λob=>I1.kept (t':=a.toks) λb o e=>Bz _ e
 cases g:z.cps.all (· < 128)
 .refine wpAny_pyIter_wide g ?_;exact⟨a.heap.objs.size,[a.heap.objs.size],_,_,H1,rfl,kp _,Yo (t:=t) (by decide) (λA' f=>Walks.strWide f _ z t) (λ_ _ _ _ _ st h=>wpAny_pyIter_striter_wide st h),⟨_,D0 _ rfl,rfl,rfl⟩,c,q⟩
 .refine wpAny_pyIter_ascii g ?_;exact⟨a.heap.objs.size,[a.heap.objs.size],_,_,H1,rfl,kp _,Yo (t:=t) (by decide) (λA' f=>Walks.strAscii f _ z t) (λ_ _ _ _ _ st h=>wpAny_pyIter_striter_ascii st h),⟨_,D0 _ rfl,rfl,rfl⟩,c,q⟩⟩
theorem KH{ta:TA}(l:Gl X "range")(k:X.mg "range"=none)(c:QA X [a] ta)(i:starEach [a] X.env=[(false,eval a X.env)]:=by rfl):QI X tg (.Call (.Name "range" p) [a] [] pos) (Se ta):=⟨by
 have c:=c.h;intro Zb s Z H R I h;refine Call_ (LF I l k boot_range (Xq (AI (c pos Zb s Z H _ I h) λus m⟨vs,H1,I1,f,b⟩=>?_) i rfl));obtain⟨j,e,b,g,q⟩:=b;subst e;cases f with
 |cons r d=>
  cases d;obtain⟨t,rfl⟩:=r;exact call_range_1 (ZE I1 (by omega) (by omega) b g (by simpa using q))⟩
theorem Dv:Kc X [] ML:=⟨λZb s Z H Q I h=>by
 rw[gy];exact jP ⟨H,I,h⟩⟩
theorem IY{t:TT}(a:QT X c t):Kc X [c] t:=⟨jV a.h⟩
theorem EA(b:X.calm=true)(S:C7 X.N X.env.scope scope x AG js)(hi:QI X (.Name x px) iter wi)
  (CP:∀fp C s H,Kc (EF X (AG++[x]) scope (Ba X.env.cells scope.names) C s H fp) ifs tt) (CO:∀fp C s H,QE (EF X (AG++[x]) scope (Ba X.env.cells scope.names) C s H fp) elt te)
  (a:∀v,foldedSetIterable iter X.env v=pure v:=by intro _;rfl):QE X (.ListComp elt [⟨.Name x px,iter,ifs,0⟩] scope pos) (HA wi js tt te):=⟨tF b S hi.h (λfp C s H=>(CP fp C s H).h) (λfp C s H=>(CO fp C s H).h) a⟩
theorem Lj{py FO:Pos}(c:X.N.Nodup)(C9:X.N[i]?=some y)(a:Loc X.env.scope y)(b:X.calm=true)(S:C7 X.N X.env.scope scope x AG js)(hi:QI X (.Name x px) iter wi)
  (CP:∀fp C s H,Kc (EF X (AG++[x]) scope (Ba X.env.cells scope.names) C s H fp) ifs tt) (CO:∀fp C s H,QE (EF X (AG++[x]) scope (Ba X.env.cells scope.names) C s H fp) elt te)
  (Hr:swapsWith (.ListComp elt [⟨.Name x px,iter,ifs,0⟩] scope pos) (some (.Name y py)) FO.line X.env=pure true:=by rfl)
  (hf:X.fn y=true∨X.env.scope.names.lookup y=some .local:=by first|exact .inl rfl|exact .inr rfl|assumption)
  (hs:∀v,foldedSetIterable iter X.env v=pure v:=by intro _;rfl):QS X (.Assign [.Name y py] (.ListComp elt [⟨.Name x px,iter,ifs,0⟩] scope pos) FO) (EB (HA wi js tt te) (C4 i)):=
 ⟨rL c C9 a b S hi.h (λfp C s H=>(CP fp C s H).h) (λfp C s H=>(CO fp C s H).h) Hr hf hs⟩
theorem kG(b:X.N.Nodup)(hi:X.N[i]?=some x)(hx:Loc X.env.scope x)(a:X.fn x=true∨X.env.scope.names.lookup x=some .local:=by first|exact .inl rfl|exact .inr rfl|assumption):QG X (.Name x pos) (C4 i):=⟨Ta b hi hx a⟩
theorem QJ:R9 X [] MG:=⟨Yu⟩
theorem Hf{t:TG}{u:GQ}(h1:QG X e t)(h2:R9 X es u)
  (a:(assignEach (e::es) X.env).map (·.2)=assign e X.env::(assignEach es X.env).map (·.2):=by rfl):R9 X (e::es) (GW t u):=⟨Zu h1.h h2.h a⟩
theorem Pt{k:Nat}{t:GQ}(b:X.calm=true)(h:R9 X es t)(a:(assignEach es X.env).length=n:=by rfl)(Ca:(assignEach es X.env).findIdx? (·.1)=none:=by rfl):QG X (.Tuple es k pos) (Jr X.K n t):=⟨Y4 b h.h a Ca⟩
theorem ZV{i:Expr}{ti:TE}{t:Qz}(ho:QE X o to)(hi:QE X i ti)(l:Ui X t)
  (m:∀v,assign (.Subscript o i pos) X.env v=(do
   let a <- holding [v] (eval o X.env)
   let b <- holding [v,a] (eval i X.env)
   standAt pos
   holding [v,a,b] (setItem a b v)
   release [v,a,b] []):=by intro _;rfl):QG X (.Subscript o i pos) (fJ to ti t):=⟨by
 have ho:=ho.h;have hi:=hi.h;intro Zb s Z H v u Q I r h;rw[m];refine iM (lZ (AI (ho Zb s Z H _ I h) λa c XA=>?_));obtain⟨x,H1,I1,e,j⟩:=XA;refine iM (lZ (AI (hi Zb c Z H1 _ I1 j) λb s2 NY=>?_));obtain⟨y,H2,I2,d,g⟩:=NY;refine iM (uQ (iM (lZ (AI (l Zb s2 Z H2 x y v a b u _ I2 e d r g) λ_ n k=>?_))));obtain⟨H3,I3,f⟩:=k;exact wpAny_release ⟨Z,H3,I3,f⟩⟩
end
section
variable{st:Stmt}{t u:TS}
theorem BF:Fw X [] Si:=⟨λ_ _ Z H _ I h=>mV ⟨Z,H,I,h⟩⟩
theorem AB(e:body=st::rest)(h:QS X st t)(h2:Fw X rest u):Fw X body (Nv t u):=⟨iS e h.h h2.h⟩
theorem AH(e:body=[st])(h:QS X st t):Fw X body t:=⟨by have h:=h.h;rw[e];exact pH h⟩
theorem Jv:QS X st ZA:=⟨λ_ _ _ _ _ _ h=>h.elim⟩
theorem DK(a:QE X e te)(c:swapsWith e none pos.line X.env=pure false:=by rfl):QS X (.Expr e pos) (Hx te):=⟨by
 have a:=a.h;intro Zb s Z H D I h;exact wpAny_Expr_any (AI (a Zb s Z H _ I h) λv d AD=>by obtain⟨x,H1,I1,f,b⟩:=AD;exact⟨Z,H1,I1,b⟩) I.quiet c⟩
theorem B0(a:QE X e te):QS X (.Return (some e) pos) (Hl te):=⟨by
 have a:=a.h;intro Zb s Z H D I h;exact wpAny_Return_some (AI (a Zb s Z H _ I h) λv d AD=>by obtain⟨x,H1,I1,b,c⟩:=AD;exact⟨x,Z,H1,I1,b,c⟩)⟩
theorem B8{a b:List Stmt}(e:QT X c tc)(g:Fw X a t)(f:Fw X b u):QS X (.If c a b pos) (VA tc t u):=⟨by
 have e:=e.h;have g:=g.h;have f:=f.h;intro Zb s Z H D I h;refine wpAny_If (AI (e Zb s Z H _ I h) λd i Ea=>?_);obtain⟨H1,I1,j⟩:=Ea;cases d with
 |true=>exact g Zb i Z H1 D I1 j
 |false=>exact f Zb i Z H1 D I1 j⟩
theorem Xy(b:QE X e te)(a:QG X tg g)(i:swapsWithSole [tg] e pos.line X.env=pure false:=by rfl)(hw:swappedStores [tg] e X.env=pure none:=by rfl)
  (h1:(assignEach [tg] X.env).map (·.2)=[assign tg X.env]:=by rfl):QS X (.Assign [tg] e pos) (EB te g):=⟨by
 have b:=b.h;have a:=a.h;intro Zb s Z H D I h;refine wpAny_Assign_stores (AI (b Zb s Z H _ I h) λv c⟨x,H1,I1,d,f⟩=>?_) i hw;rw[h1];exact AI (a Zb c Z H1 x v _ I1 d f) λ_ s2 q=>q⟩
theorem rM(f:X.N.Nodup)(hi:X.N[i]?=some x)(hx:Loc X.env.scope x)(a:QE X e te)(d:swapsWith e (some (.Name x pos')) pos.line X.env=pure false:=by rfl)(hf:X.fn x=true∨X.env.scope.names.lookup x=some .local:=by first|exact .inl rfl|exact .inr rfl|assumption):
  QS X (.Assign [.Name x pos'] e pos) (EB te (C4 i)):=⟨by
 have a:=a.h;intro Zb s Z H D I h;refine wpAny_Assign_Name (AI (a Zb s Z H _ I h) λv g⟨y,H1,I1,b,c⟩=>?_) d;exact Qb I1 f hi hx b (λs2 I2=>⟨_,H1,I2,c⟩) hf⟩
theorem LD(o:PassesOwn (model X.prog X.w) X.A X.env X.xe)(l:QT X c tc)(m:Fw X body tb):QS X (.While c body [] pos) (QK tc tb):=⟨by
 have l:=l.h;have m:=m.h;intro Zb s Z H D I h;obtain⟨W,⟨x,t⟩,a⟩:=h;refine wpAny_While (codeAny_whileLoop (λn s'=>∃ σ' H',Inv X Zb σ' H' s'/\W n σ' H') ?_ x ⟨Z,H,I,t⟩);rintro n u⟨σ1,H1,I1,r⟩;refine lP o (AI (l Zb u σ1 H1 _ I1 (a n σ1 H1 r)) λb s2 q=>?_);obtain⟨H2,I2,e⟩:=q;cases b with
 |true=>
  obtain⟨N,p,e⟩:=e;rw[ir rfl];refine lP o (AI (m Zb s2 σ1 H2 _ I2 e) λf y d=>?_);cases f with
  |next=>
   obtain⟨σ3,H3,I3,i⟩:=d;obtain⟨j,k,g⟩:=p σ3 H3 i;exact⟨j,k,σ3,H3,I3,g⟩
  |cont=>
   obtain⟨σ3,H3,I3,i⟩:=d;obtain⟨j,k,g⟩:=p σ3 H3 i;exact⟨j,k,σ3,H3,I3,g⟩
  |brk=>exact d
  |ret v=>exact d
 |false=>
  rw[ib Co];exact mV ⟨σ1,H2,I2,e⟩⟩
theorem DT{iter:Expr}(p:PassesOwn (model X.prog X.w) X.A X.env X.xe)(E:X.calm=true)(hi:QI X tg iter wi)(y:QG X tg g)(a:Fw X body tb)
  (hs:∀x,foldedSetIterable iter X.env x=pure x:=by intro _;rfl):QS X (.For tg iter body [] pos) (R1 wi g tb):=⟨by
 have hi:=hi.h;have y:=y.h;have a:=a.h;intro Zb s Z H D I h;refine wpAny_For (AI (hi Zb s Z H _ I h) λv s1 h1=>AI h1 λQh s2 h2=>?_) hs;obtain⟨it,fp,tn,J,H2,e,I2,T,Ip,G,W,⟨m0,R⟩,k⟩:=h2;subst e
 -- vY stays true of Gk ZBZ objects through Gk loop
 have z:∀{H':Hp},(∀b∈fp,H' b=none)->∀b∈fp,E9 X Zb H' b:=λhn b a=>⟨hn b a,(G b a).2⟩;refine codeAny_forLoop_any (λn s'=>∃i σ' H',Inv X Zb σ' H' s'/\tn i s'.heap/\(∀b∈fp,H' b=none)/\W i n σ' H') ?_ m0 ⟨0,Z,H2,I2,Ip,λb a=>(G b a).1,R⟩;rintro n C⟨i,σ3,H3,I3,F,K,Q⟩;rcases k i n σ3 H3 Q with⟨stop,Y⟩|⟨go,N,hN,step⟩
 .refine lP p (AI (T.done X rfl rfl rfl E i Zb C σ3 H3 X.xe I3 (z K) F stop) λr s4 NY=>?_);obtain⟨t,I4⟩:=NY;subst t;exact mV ⟨σ3,H3,I4,Y⟩
 .refine lP p (AI (T.item X rfl rfl rfl E i Zb C σ3 H3 X.xe I3 (z K) F go) λr s4 nU=>?_);obtain⟨u,t,h4⟩:=nU;subst t;refine lP p (AI h4 λ_ B jZ=>?_);obtain⟨x,H5,I5,V,M,LV,RW⟩:=jZ;have L:=I5.pinned (z RW) (T.obj _ _ LV);refine lP p (AI (y _ B σ3 H5 x u _ L V (step x H5 M)) λ_ S l4=>?_);obtain⟨σ6,H6,I6,σ⟩:=l4;refine lP p (AI (a _ S σ6 H6 _ I6 σ) λf q j=>?_);have c:∀{σ7:St}{H7:Hp},Inv X (Zb++Na fp B.heap) σ7 H7 q->N σ7 H7->∃m,m<n/\∃i σ' H',Inv X Zb σ' H' q/\tn i q.heap/\(∀b∈fp,H' b=none)/\W i m σ' H':=λ{σ7 H7}I7 l=>by
   obtain⟨m',hm,P⟩:=hN σ7 H7 l;refine⟨m',hm,i+1,σ7,H7,I7.NF,T.keep _ _ _ LV λb a o e=>(I7.pin (b,o) (FE _ (FE _ (Q8 a e)))).1,λb a=>?_,P⟩;obtain⟨o,e,d⟩:=T.obj _ _ LV b a;exact(I7.pin (b,o) (FE _ (FE _ (Q8 a e)))).2.1
  cases f with
  |next=>obtain⟨σ7,H7,I7,l⟩:=j;exact c I7 l
  |cont=>obtain⟨σ7,H7,I7,l⟩:=j;exact c I7 l
  |brk=>obtain⟨σ7,H7,I7,j⟩:=j;exact⟨σ7,H7,I7.NF,j⟩
  |ret v=>obtain⟨O,σ7,H7,I7,U,j⟩:=j;exact⟨O,σ7,H7,I7.NF,U,j⟩⟩
theorem Bq(h:QS X st t):QS X st (X7 t):=⟨by
 have h:=h.h;intro Zb s Z H D I hw;obtain⟨J,h1,h2⟩:=hw;refine AI (h Zb s Z H _ I h1) λf s' q=>?_;cases f with
 |next=>obtain⟨σ',H',I',q⟩:=q;exact⟨σ',H',I',h2 σ' H' q⟩
 |ret v=>exact q
 |brk=>exact q
 |cont=>exact q⟩
end
theorem AO.BX{P:Program}{K:ZBc}{mg:ZBe}{Zj:Heap}{qual:Str}{st:Stmt}{fd:FuncData}{N:List Str}{k:Nat}(F:AO K x qual st f fd)(S:BG N ps (AX st))(len:∀vs H Q E,sp vs H Q E->vs.length=ps.length)
  (KI:∀(AY:Value)(A:Around)(outer:List Env)(s:Shared)(H:Hp)(vs:List V)(Q:VK)(E:XK),BR k (A.deeper (envOfC qual (AX st) s.heap.objs.size f AY))->sp vs H Q E->
   ∃t,Fw (Dy Fj P w K mg Zj N qual (AX st) f AY A outer s H E).P1 (J4 st) t/\t { nx:=λ_ H'=>Q .A9 H',rt:=Q } (start N vs) H):CD P w K mg Zj Fj (k+1) f fd ps sp:=
 F.ok S len λAY A outer s H vs Q E a h=>let ⟨t,q,r⟩:=KI AY A outer s H vs Q E a h;⟨t,q.h,r⟩
section
variable{b:Expr}{tb:TE}{t:TA}
theorem B7{id:String}(c:CZ X (.builtin id) r)(a:X.mg x=none)(d:QA X (e::es) t)(b:Gl X x:=by rfl)(hv:bootBuiltins x=some (.builtin id):=by decide +kernel)(hn:x ≠"__name__" := by decide)(BV:(x == ("__debug__":Str))=false:=by decide)
  (he:starEach (e::es) X.env=(false,eval e X.env)::starEach es X.env:=by rfl) (BP:(backTo pos (starEach es X.env)).any (·.1)=false:=by rfl):QE X (.Call (.Name x p) (e::es) [] pos) (Dm r t):=jY c b a hv d hn BV he BP
theorem IT(c:CZ X (.type T) r)(a:X.mg x=none)(d:QA X (e::es) t)(b:Gl X x:=by rfl)(hv:bootBuiltins x=some (.type T):=by decide +kernel)(hn:x ≠"__name__" := by decide)(BV:(x == ("__debug__":Str))=false:=by decide)
  (he:starEach (e::es) X.env=(false,eval e X.env)::starEach es X.env:=by rfl) (BP:(backTo pos (starEach es X.env)).any (·.1)=false:=by rfl):QE X (.Call (.Name x p) (e::es) [] pos) (Dm r t):=uC c b a hv d hn BV he BP
theorem Ad{r:R2}(d:Cb X r)(f:QE X a ta)(e:QE X b tb)(c:WY b:=by exact λ_ _=>rfl):QE X (.Subscript a b pos) (BU r ta tb):=pQ d f e c
theorem Ab{k:Nat}(h:AE X.prog X.w X.K X.mg X.base x k ps sp)(a:BR j X.A)(b:QA X (e::es) t)(hk:k<=j:=by decide)(hg:Gl X x:=by rfl)(BV:(x == ("__debug__":Str))=false:=by decide)
  (he:starEach (e::es) X.env=(false,eval e X.env)::starEach es X.env:=by rfl) (BP:(backTo pos (starEach es X.env)).any (·.1)=false:=by rfl):QE X (.Call (.Name x p) (e::es) [] pos) (D6 sp [] E0 t):=jj h a hk b hg BV he BP
theorem RT{r:R2}(ho:B6 X (compareOp op) r)(e:QE X a ta)(d:QE X b tb)(c:behindInMarks op b=false:=by first|exact ao _|with_unfolding_all rfl):QE X (.Compare a [op] [b] pos) (BU r ta tb):=mZ ho e d c
theorem An{r:R2}(ho:B6 X (compareOp op) r)(e:QE X a ta)(d:QE X b tb)(c:behindInMarks op b=false:=by first|exact ao _|with_unfolding_all rfl):QT X (.Compare a [op] [b] pos) (Km (BU r ta tb)):=eE ho e d c
theorem AR(i:Nat)(b:X.N.Nodup)(a:QE X e te)(hi:X.N[i]?=some x:=by rfl)(hx:Loc X.env.scope x:=by first|exact Or.inl rfl|exact Or.inr rfl)(hs:swapsWith e (some (.Name x pos')) pos.line X.env=pure false:=by rfl)(hf:X.fn x=true∨X.env.scope.names.lookup x=some .local:=by first|exact .inl rfl|exact .inr rfl|assumption):
  QS X (.Assign [.Name x pos'] e pos) (EB te (C4 i)):=rM b hi hx a hs hf
theorem CQ(i:Nat)(a:X.N.Nodup)(hi:X.N[i]?=some x:=by rfl)(hx:Loc X.env.scope x:=by first|exact Or.inl rfl|exact Or.inr rfl)(hf:X.fn x=true∨X.env.scope.names.lookup x=some .local:=by first|exact .inl rfl|exact .inr rfl|assumption):QG X (.Name x pos) (C4 i):=kG a hi hx hf
end
section
variable{Zb:ZBd}{Z:St}{H:Hp}{s:Shared}{a:Addr}{A5:List (Str×Addr)}
theorem bZ{t:Tok}:DM (.str x) (.str y t)=(y == x):=rfl
theorem ZF(x:Str):∀(ss:List Str)(m:Nat)(b:m<ss.length),m<ss.idxOf x->ss[m]≠x
 | [],_,b,_=>absurd b (Nat.not_lt_zero _)
 |a::r,m,b,h=>by
  rw[List.idxOf_cons]at h
  by_cases e:a=x
  .have:(a == x)=true:=by simpa using e
   rw[this]at h;exact absurd h (Nat.not_lt_zero _)
  .have c:(a == x)=false:=by simpa using e
   rw[c]at h;cases m with
   |zero=>exact e
   |succ k=>
    have h':k+1<r.idxOf x+1:=h;exact ZF x r k (by simpa using b) (by omega)
theorem Sj(h:x∈ss):∃a:ss.idxOf x<ss.length,ss[ss.idxOf x]=x/\∀m(b:m<ss.length),m<ss.idxOf x->ss[m]≠x:=by
 have a:ss.idxOf x<ss.length:=List.idxOf_lt_length_iff.mpr h;exact⟨a,MZ a,λm b AM=>ZF x ss m b AM⟩
def ZR(K:ZBc):V->List V->Hp->VK->Prop:=λx vs H Q=>∃(l:Addr)(ss:List Str)(y:Str),x=.ref l/\vs=[.str y]/\AQ K H l (ss.map V.str)/\y∈ss/\Q (.int (ss.idxOf y:Nat)) H
theorem z6:Fu X "list.index" (ZR X.K):=by
 intro Zb s Z H x vs v us Q I j k h;obtain⟨l,ss,y,rfl,rfl,A,p,q⟩:=h;cases j;obtain⟨u,rfl,o⟩:=k.one;obtain⟨A4,r,pl,b⟩:=I.list A;obtain⟨⟨c,d,J,i⟩,n,ho,f,hd,Js⟩:=id pl;simp only at f hd Js;subst f;subst hd;subst Js;have B:=r.length;rw[AA]at B;obtain⟨E,Ru,Uw⟩:=Sj p;have at':∀(m:Nat)(a:m<A4.toArray.size),∃t,A4.toArray[m]=.str (ss[m]'(by simp at a;omega)) t:=λm a=>by
  have C:m<A4.length:=by simpa using a
  obtain⟨h2,t,e⟩:=kA r (Ah C);exact⟨t,by simpa using e⟩
 have g:ss.idxOf y<A4.toArray.size:=by simp;omega
 refine oJ ZAw ⟨_,ho,rfl⟩ PySem.F.entry_list_index (PySem.F.args_list_index_2 _ _) (SeqAt.list_indexAt l A4.toArray n none i u (DM (.str y)) (ss.idxOf y) g ?_ ?_ (λm a AM=>?_)) ⟨ho,λz T1=>Ke o rfl r (by
   rw[Gq];intro w hw;obtain⟨D,_,rfl⟩:=List.mem_map.mp hw;rfl) z (by simpa using T1),?_⟩
 .have h1:ss.length<=sizeLine:=by rw[AA]at b;exact b
  have h2:=J6;have G:((sizeLine:Nat):Int)<2 ^ 63:=by exact_mod_cast h2
  omega
 .obtain⟨t,e⟩:=at' _ g;rw[e,bZ];simpa using Ru
 .obtain⟨t,e⟩:=at' _ a;rw[e,bZ];have:=Uw m (by simp at a;omega) AM
  simpa using this
 .exact⟨.int _,H,I.tok _,⟨_,rfl⟩,q⟩
variable{prog:Program}{A:Around}{R:Result->Shared->Prop}{fp wr:List Addr}{G:Array GenState->Array GenState->Prop}{P:Nat->Value->Prop}{St:Nat->Shared->Prop}
variable{E:Value->Shared->Prop}
variable{l:Addr}{items:Array Value}
end
end L2
namespace L2
variable{X:Cx}{Zb:ZBd}{Z:St}{H:Hp}{s:Shared}{h':Heap}{k1 n t':Nat}{fp:List Addr}{I a:Addr}{e o:Expr}{w:World}{prog:Program}{A:Around}{E:Value->Shared->Prop}
theorem Inv.dm(I:Inv X Zb Z H s)(d:∀b∈fp,E9 X Zb H b)(k:∀b o,b∉fp->s.heap.get? b=some o->h'.get? b=some o):
  Inv X Zb Z H { s with heap:=h',toks:=t' }:=by
 have f:∀b u,H b=some u->b∉fp:=λb u e z=>by rw[(d b z).1]at e;cases e
 refine I.step (g':=s.gens) (d':=s.drawn) (ch:=fp) (λb h=>?_) (λb o _ _ a e _=>k b o a e) (λb o _ _ a e _=>⟨o.slots,k b o a e⟩) (λ_ _ _ _ n=>n)
  (λb o a e=>⟨o,k b o a e⟩) (λ_ _ e=>e) (λ_ _ _ e=>e) (λb ps e=>⟨#[],by rw[e];simp⟩) (λm g=>?_) (λb u e=>?_) I.bare
 .obtain⟨_,h1,_,l,j,i⟩:=d b h;exact⟨l,h1,j,i⟩
 .obtain⟨o,es,p,ho,r⟩:=g;exact⟨o,es,p,k _ o (λz=>(d _ z).2.1 rfl) ho,r⟩
 .refine(I.AF b u e).Hd (λc v a q=>k c v ?_ q) (λ_ q=>q) λ_ _ q=>q;rcases a with z|z
  .rw[z];exact f b u e
  .exact f c _ z
theorem Inv.dF{o:HO}(I:Inv X Zb Z H s)(i:∀b∈fp,E9 X Zb H b)(k:∀b o,b∉fp->s.heap.get? b=some o->h'.get? b=some o)
  (j:s.heap.objs.size<=a) (g:Bu X.prog X.w (upd H a o) h' a o):Inv X Zb Z (upd H a o) { s with heap:=h',toks:=t' }:=by
 have p:H a=none:=I.AF.fresh j;have l:∀b u,H b=some u->b∉fp:=λb u e z=>by rw[(i b z).1]at e;cases e
 have ne:∀b u,H b=some u->b≠a:=λb u e=>Cy e p;have h:∀b u,s.heap.get? b=some u->b≠a:=λb u e=>CV (DC (B4 e) j);refine I.step (g':=s.gens) (d':=s.drawn) (ch:=fp) (λb f=>?_) (λb o _ _ d e _=>k b o d e) (λb o _ _ d e _=>⟨o.slots,k b o d e⟩) (λb o _ e n=>by rw[AS (h b o e)];exact n)
  (λb o d e=>⟨o,k b o d e⟩) (λb _ e=>by rw[AS (ne b _ e)];exact e) (λb _ _ e=>by rw[AS (ne b _ e)];exact e) (λb ps e=>⟨#[],by rw[AS (ne b _ e),e];simp⟩) (λm t=>?_) (λb u e=>?_) I.bare
 .obtain⟨_,h1,_,A,y,x⟩:=i b f;exact⟨A,h1,y,x⟩
 .obtain⟨o,es,B,ho,r⟩:=t;exact⟨o,es,B,k _ o (λz=>(i _ z).2.1 rfl) ho,r⟩
 .by_cases f:b=a
  .subst f;rw[Al]at e;cases e;exact g
  .rw[AS f]at e;refine(I.AF b u e).Hd (λc v d q=>k c v ?_ q) (λc q=>by rw[AS (ne c _ q)];exact q) λc _ q=>by rw[AS (ne c _ q)];exact q
   rcases d with z|z
   .rw[z];exact l b u e
   .exact l c _ z
noncomputable def sV(K:ZBc)(a:Addr)(xs:List V):It:=
 ⟨λi H=>AQ K H a xs/\i<xs.length,λi H x H'=>∃p y,xs[i]?=some y/\x=.ref p/\H p=none/\H'=upd H p (.tup [.int i,y]),λi H=>AQ K H a xs/\xs.length<=i⟩
theorem jy{P:Program}{K:ZBc}{es:List Expr}{G:Pos}(a e it:Addr)(xs:List V)(Lr:e≠it):
  Turn P w K (.Tuple es k1 G) (sV K a xs) [e,it] e (λi h=>(∃old,IsEnum h e it i old)/\h.IsListIter it a i) where
 mem:=by simp
 obj:=λi h st b f=>by
  obtain⟨⟨old,h1⟩,o,h2,_,d⟩:=st;rcases List.mem_cons.mp f with z|z
  .subst z;exact⟨_,h1,λv z=>by cases z⟩
  .have:b=it:=by simpa using z
   subst this;exact⟨o,h2,λv z=>by rw[d]at z;cases z⟩
 keep:=λi h h' st k=>⟨let ⟨old,h1⟩:=st.1;⟨old,k e (by simp) _ h1⟩,st.2.at λo q=>k it (by simp) o q⟩
 item:=by
  intro X r hw t A i Zb s Z H E I j st n;subst r hw t;obtain⟨m,hi⟩:=n;obtain⟨⟨old,g⟩,c⟩:=st;obtain⟨A4,l,p,L⟩:=I.list m;obtain⟨u,M,F⟩:=l.get (Ah hi);refine wpAny_pyNext_enum_item g c p.isList (x:=u) (by simpa using M) Lr λh1 HQ J UA ZX VG=>⟨_,rfl,?_⟩
  refine qQ HQ λh2 WG CI=>?_;have C:e<s.heap.objs.size:=B4 g;have B:h2.get? s.heap.objs.size=some { cls:=.type "tuple", data:=.seq #[.int i s.toks,u] }:=(CI.2 _ (Mh C)).trans UA;have kp:∀b o,b∉[e,it]->s.heap.get? b=some o->h2.get? b=some o:=λb o f q=>by
   have y:b≠e/\b≠it:=by simpa using f
   exact(CI.2 b y.1).trans (VG b o y.1 y.2 q)
  refine⟨.ref s.heap.objs.size,_,I.dF (t':=s.toks+1) (a:=s.heap.objs.size) (o:=.tup [.int i,xs[i]]) j kp (Ae _) ?_,rfl,⟨_,_,Ah hi,rfl,I.AF.fresh (Ae _),rfl⟩,⟨⟨_,WG⟩,J.at λo q=>(CI.2 it (B5 Lr)).trans q⟩,λb f=>?_⟩
  .exact⟨(by show 2<=sizeLine;decide),[.int i s.toks,u],.cons ⟨_,rfl⟩ (.cons F .nil),⟨_,B,rfl,_,rfl⟩,λob q=>by rw[B]at q;cases q;rfl⟩
  .have D:b<s.heap.objs.size:=by
    rcases List.mem_cons.mp f with z|z
    .rw[z];exact C
    .have:b=it:=by simpa using z
     obtain⟨o,q,_⟩:=c;rw[this];exact B4 q
   rw[AS (CV D)];exact(j b f).1
 done:=by
  intro X r hw t A i Zb s Z H E I j st n;subst r hw t;obtain⟨m,hx⟩:=n;obtain⟨⟨old,g⟩,c⟩:=st;obtain⟨A4,l,p,L⟩:=I.list m;have O:=l.length;exact wpAny_pyNext_enum_end (I.ok.hd A) g c p.isList (by simp;omega) λh' N=>⟨rfl,I.dm (t':=s.toks) j λb o f q=>N b o (λz=>f (by simp[z])) q⟩
 self:=λ_ _ _ _ _ st h=>let ⟨⟨_,g⟩,_⟩:=st;pS g h
open AutoSeq1 (wpAny_loadPart')
section
variable{M:Model}{env:Env}
variable{lo hi:Option Expr}{to:TE}{tl th:TO}{pos p2:Pos}
variable{te:TE}
theorem d5{α:Type}(xs:List α):∀k:Nat,k<=xs.length->((List.range k).map λi=>xs.length - 1 - i).filterMap (xs[·]?)=xs.reverse.take k
 | 0,_=>by simp
 |k+1,h=>by
  rw[List.range_succ,Bn,List.filterMap_append,d5 xs k (by omega),List.take_succ]
  congr 1
  rw[List.getElem?_reverse (by omega)];show List.filterMap _ [xs.length - 1 - k]=_;cases h2:xs[xs.length - 1 - k]? <;> simp[h2]
theorem m6(xs:List Value):slicePick xs.toArray none none (some (-1))=xs.reverse.toArray:=by
 unfold slicePick
 congr 1
 have e:sliceRange (sliceBounds none none (some (-1)) xs.toArray.size).1 (sliceBounds none none (some (-1)) xs.toArray.size).2.1 (sliceBounds none none (some (-1)) xs.toArray.size).2.2=(List.range xs.length).map λi=>xs.length - 1 - i:=by
  simp only[sliceBounds,ZAu,show ¬ ((-1:Int) > 0) by decide,tX];unfold sliceRange;simp only[show ¬ ((-1:Int) > 0) by decide,tX,Bf]
  by_cases h:((xs.length:Int) - 1) > -1
  .rw[ir h,show((xs.length:Int) - 1 - -1 - -1 - 1) / - -1=(xs.length:Int) by rw[show(- -1:Int)=1 from rfl,Int.ediv_one];omega,Gp];exact Mb λk _=>by omega
  .have:xs.length=0:=by omega
   rw[ib h,this];rfl
 rw[e];have:=d5 xs xs.length (Ae _);rw[Me (by simp)]at this;rw[<- this];rw[show(λi:Nat=>xs.toArray[i]?)=λi=>xs[i]? from funext λi=>by simp]
def Rv(K:ZBc)(te:TE)(ts:TO):TE:=λZ H Q=>te Z H λx H1=>ts Z H1 λo H2=>∃a xs,x=.ref a/\o=some (-1)/\AQ K H2 a xs/\∀l,H2 l=none->Q (.ref l) (upd H2 l (.lst xs.reverse))
theorem oZ{st:Expr}{ts:TO}(g:QE X e te)(f:QO X (some st) ts):QE X (.Subscript e (.Slice none none (some st) p2) pos) (Rv X.K te ts):=⟨by
 have g:=g.h;have f:=f.h;intro Zb s Z H Q I h;refine Subscript_ (AI (g Zb s Z H _ I h) λv l⟨x,H1,I1,m,o⟩=>?_);refine wpAny_Slice ?_;rw[ub];refine jP (jP (AI (f Zb l Z H1 _ I1 o) λvs c⟨b,H3,I3,p,n⟩=>?_));obtain⟨a,xs,rfl,rfl,hx,q⟩:=n;cases m;have i:Inv X Zb Z H3 { c with heap:=c.heap.push { cls:=.type "slice", data:=.fields #[.none,.none,vs] } }:=I3.kept (t':=c.toks) λb ob q=>Bz _ q
 obtain⟨A4,j,pl,k⟩:=i.list hx;have d:=j.length;show wpAny (model X.prog X.w) X.A (subscriptTail e (.Slice none none (some st) p2) (.ref a) (.ref c.heap.objs.size)) (EP X Zb Z Q) X.xe { c with heap:=c.heap.push { cls:=.type "slice", data:=.fields #[.none,.none,vs] } }
 refine tail_any (ops:=[.ref a,.ref c.heap.objs.size]) pl.isList.typeIs slot_list_getitem.lookup (rf pl.isList (Heap.IsSliceOf.new ..) .none .none p (by decide) ?_ (by rw[Bf,<- d];exact k)) (by with_unfolding_all rfl);rw[m6];exact⟨.ref _,_,i.Sq (t':=c.toks) j.reverse (by rw[ZAm];exact k),rfl,q _ i.fresh⟩⟩
end
theorem T9{l:List (Int×Value)}(h:ElemsOf (PySem.strKind prog w) l):∃ts,StrsAre (l.map (·.2)) ts/\∀k,k∈ts↔∃e∈l,(PySem.strKind prog w).is k e.2=true:=by
 induction l with
 |nil=>exact⟨[],.nil,λk=>by simp⟩
 |cons e r b=>
  obtain⟨ts,h1,h2⟩:=b h.tail;obtain⟨⟨k,hk,_⟩,_⟩:=h.head;obtain⟨tk,c⟩:=Value.isStrOf_shape hk;refine⟨k::ts,?_,λa=>?_⟩
  .rw[Aq,c];exact .cons k tk h1
  .rw[L4,h2 a];constructor
   .rintro(rfl|⟨x,hx,q⟩)
    .exact⟨e,ES,hk⟩
    .exact⟨x,DV _ hx,q⟩
   .rintro⟨x,hx,q⟩;rcases List.mem_cons.mp hx with rfl|hx
    .exact .inl ((PySem.strKind prog w).inj x.2 a k q hk)
    .exact .inr ⟨x,hx,q⟩
section
variable{R:Result->Shared->Prop}{wr:List Addr}{G:Array GenState->Array GenState->Prop}{P:Nat->Value->Prop}{St:Nat->Shared->Prop}{ss:List Str}
theorem Inv.drew(I:Inv X Zb Z H s)(d:Drawn):Inv X Zb Z H { s with drawn:=d }:=
 I.step (h':=s.heap) (g':=s.gens) (t':=s.toks) (d':=d) (ch:=[]) (λ_ z=>nomatch z) (λb o _ _ _ e _=>e) (λb o _ _ _ e _=>⟨o.slots,e⟩) (λ_ _ _ _ n=>n) (λb o _ e=>⟨o,e⟩) (λ_ _ e=>e) (λ_ _ _ e=>e) (λb ps e=>⟨#[],by rw[e];simp⟩) (λm a=>a) I.AF I.bare
end
theorem cG:∀{ss:List Int}{us:List Value},Vals (ss.map V.int) us->IntsAre us ss
 | [],_,.nil=>.nil
 |x::r,_,.cons ⟨t,e⟩ h=>by rw[e];exact .cons x t (cG h)
end L2
namespace HT
open AutoSeq1 (wpAny_loadPart')
variable{prog:Program}{w:World}{A:Around}{E Q:Value->Shared->Prop}{it tu:Addr}{i:Nat}{old v:Value}
theorem xi(tu:Addr)(vals:Array Value)(k:Nat)(e:Option Addr)(Tf:Array (Option Value)):
  Meets (Builtin.«enumerate.__new__» ⟨[.type "enumerate",.ref tu],[]⟩) (λ_ R s=>s.heap.get? tu=some { cls:=.type "tuple", dict:=e,data:=.seq vals k,slots:=Tf }/\R (.ok (.ret (.ref (s.heap.push { cls:=.type "tuple_iterator", data:=.fields #[.ref tu,.int 0 0] }).objs.size)))
    { s with heap:=(s.heap.push { cls:=.type "tuple_iterator", data:=.fields #[.ref tu,.int 0 0] }).push { cls:=.type "enumerate", data:=.fields #[.none,.bool false,.ref s.heap.objs.size,rawInt 0,.none,.none] } }):=.of_wp λprog w A R s h=>by
 obtain⟨b,g,d,tk,os⟩:=s;obtain⟨ho,h⟩:=h;have f:=sub_enumerate;have a:Heap.IsTuple (Shared.heap ⟨b,g,d,tk,os⟩) tu vals:=⟨_,ho,rfl,k,rfl⟩
 wp_walk using wpAny_loadPart' ho
 refine wpAny_stack_any λfr=>jP ?_;split
 .rename_i c _ _ _ _ _;cases(c == Value.type "enumerate") <;> (wp_walk using wpAny_loadPart' ho,qK a;exact⟨_,rfl,h⟩)
 .wp_walk using wpAny_loadPart' ho,qK a
  exact⟨_,rfl,h⟩
section
variable{s:Shared}
theorem rV{vals:Array Value}(e:s.heap.IsTuple tu vals)
  (q:∀h',IsEnum h' (s.heap.objs.size+1) s.heap.objs.size 0 .none->h'.IsTupleIter s.heap.objs.size tu 0->h'.objs.size=s.heap.objs.size+2->(∀b o,s.heap.get? b=some o->h'.get? b=some o)->Q (.ref (s.heap.objs.size+1)) { s with heap:=h' }) :
  wpAny (model prog w) A (call (.type "enumerate") [.ref tu]) Q E s:=by
 obtain⟨⟨c,g,f,Tf⟩,ho,a,k,hd⟩:=e;replace a:c=.type "tuple" := a;replace hd:f=.seq vals k:=hd;subst a hd;refine callType_new F.called_enumerate (by decide) (F.typeCall_enumerate_1 _) (F.newCall_enumerate_1 _) (λob=>F.args_object_init_2 ob _) F.entry_enumerate_new (xi tu vals k g Tf) ⟨ho,?_⟩;have z:(s.heap.push { cls:=.type "tuple_iterator", data:=.fields #[.ref tu,.int 0 0] }).objs.size=s.heap.objs.size+1:=Kw ..;show _/\_;rw[z];have d:IsEnum ((s.heap.push { cls:=.type "tuple_iterator", data:=.fields #[.ref tu,.int 0 0] }).push { cls:=.type "enumerate", data:=.fields #[.none,.bool false,.ref s.heap.objs.size,rawInt 0,.none,.none] }) (s.heap.objs.size+1) s.heap.objs.size 0 .none:=by
  have y:=D0 (s.heap.push { cls:=.type "tuple_iterator", data:=.fields #[.ref tu,.int 0 0] }) (o:={ cls:=.type "enumerate", data:=.fields #[.none,.bool false,.ref s.heap.objs.size,rawInt 0,.none,.none] }) rfl;rw[z]at y;exact y
 exact⟨⟨_,d,rfl⟩,q _ d ⟨_,Bz _ (D0 _ rfl),rfl,rfl⟩ (by rw[Kw,z]) λb o y=>Bz _ (Bz _ y)⟩
theorem tm{vals:Array Value}(hi:s.heap.IsTupleIter it tu i)(c:s.heap.IsTuple tu vals)(b:vals[i]?=some v)
  (q:∀h',h'.IsTupleIter it tu (i+1)->Heap.SameBut it s.heap h'->Q v { s with heap:=h' }):wpAny (model prog w) A (Builtin.SmallTypes.nextOf (.ref it)) Q E s:=by
 obtain⟨o,ho,d,hd⟩:=id hi;obtain⟨e,N6,_,k,a⟩:=c;unfold Builtin.SmallTypes.nextOf;refine iM (p4 (name:=Str.ofString "__next__") hi.typeIs XW (tE XW hi.typeIs ZAU ?_ (ZAT _)));show wpAny _ _ (field (.ref it) 0 >>= _) _ _ s;refine iM (m9 ho hd (x:=.ref tu) rfl ?_);show wpAny _ _ (if(Value.ref tu == Value.none)=true then _ else _) _ _ s;rw[ib (show ¬ ((Value.ref tu == Value.none)=true)from Co)]
 show wpAny _ _ (field (.ref it) 1 >>= _) _ _ s;refine iM (m9 ho hd (x:=.int i 0) rfl ?_);show wpAny _ _ (seqItems? (.ref tu) >>= _) _ _ s;refine iM (uD N6 a ?_);simp only[Gp,b];refine iM (pR ho hd (by simp) (jP ⟨v,rfl,jP (q _ ?_ (Heap.SameBut.update ..))⟩));exact⟨_,MX _ ho (iC (Rr hd _)),(Obj.cls_mapFields ..).trans d,by rw[Rr hd];simp[rawInt]⟩
theorem Zl{vals:Array Value}(hh:A.handled=none)(hi:s.heap.IsTupleIter it tu i)(d:s.heap.IsTuple tu vals)(c:vals[i]?=none)
  (q:∀h' e,Heap.ExtBut it s.heap h'->(∃o,h'.get? e=some o/\o.cls=.type "StopIteration")->E (.ref e) { s with heap:=h' }):wpAny (model prog w) A (Builtin.SmallTypes.nextOf (.ref it)) Q E s:=by
 obtain⟨o,ho,g,hd⟩:=id hi;obtain⟨f,N6,_,k,b⟩:=d;unfold Builtin.SmallTypes.nextOf;refine iM (p4 (name:=Str.ofString "__next__") hi.typeIs XW (tE XW hi.typeIs ZAU ?_ (ZAT _)));show wpAny _ _ (field (.ref it) 0 >>= _) _ _ s;refine iM (m9 ho hd (x:=.ref tu) rfl ?_);show wpAny _ _ (if(Value.ref tu == Value.none)=true then _ else _) _ _ s;rw[ib (show ¬ ((Value.ref tu == Value.none)=true)from Co)]
 show wpAny _ _ (field (.ref it) 1 >>= _) _ _ s;refine iM (m9 ho hd (x:=.int i 0) rfl ?_);show wpAny _ _ (seqItems? (.ref tu) >>= _) _ _ s;refine iM (uD N6 b ?_);simp only[Gp,c];refine iM (wpAny_rule (iM (pR ho hd (by simp) ?_)));show wpAny _ _ (newExc (.type "StopIteration") [] >>= _) _ _ _;refine iM ?_;simp only[newExc,newTuple];refine iM (pW ?_ (by size_fits));refine iM (m:=firstArgMember _ _) (wpAny_of_eq (a:=Value.none) (by first|rfl|(simp only[firstArgMember];rfl)) ?_);refine pW ?_ (by size_fits)
 simp only[raiseNew];refine iM (wpAny_handled ?_);first|rw[show A.in1.handled=none from hh]|rw[hh]
 refine iM (jP (wpAny_throw ?_));exact q _ _ (((Heap.SameBut.update ..).extBut.push _).push _) ⟨_,D0 _ rfl,rfl⟩
theorem nQ{e:Addr}{vals:Array Value}{j:Int}{Q:Option Value->Shared->Prop}(hh:A.handled=none)(a:IsEnum s.heap e it j old)(hi:s.heap.IsTupleIter it tu i)(d:s.heap.IsTuple tu vals)(c:vals[i]?=none)
  (q:∀h',Heap.ExtBut it s.heap h'->Q none { s with heap:=h' }):wpAny (model prog w) A (pyNext (.ref e)) Q E s:=by
 have ty:s.TypeIs (.ref e) "enumerate" := ⟨_,a,rfl⟩;unfold pyNext;refine iM (uT (p4 (name:=Str.ofString "__next__") ty F.slot_enumerate_next (tE F.slot_enumerate_next ty F.entry_enumerate_next ?_ (F.args_enumerate_next_1 _))));show wpAny _ _ (field (.ref e) 2 >>= _) _ _ _;refine iM (m9 a rfl (x:=.ref it) rfl ?_);refine iM (Zl (show A.in1.handled=none from hh) hi d c λh' x g hx=>?_)
 obtain⟨o,ho,f⟩:=hx;exact iM (wpAny_isInstance (T:="StopIteration") (b:=true) ⟨o,ho,f⟩ isSubtype_stop (jP (q _ g)))
end
theorem wC(hh:A.handled=none)(it tu:Addr)(BE:tu≠it)(vals:Array Value):
  Draws prog w A it [it,tu] vals.size (λi v=>vals[i]?=some v) (λi h=>h.IsTupleIter it tu i/\h.IsTuple tu vals) where
 live:=λ_ _ st=>by obtain⟨o,ho,_⟩:=st.1;exact⟨o,ho⟩
 frame:=λ_ _ _ st hk=>by
  obtain⟨⟨o,ho,r⟩,c,N6,d⟩:=st;exact⟨⟨o,hk it (by simp) o ho,r⟩,c,hk tu (by simp) c N6,d⟩
 item:=λi s Q E hi st e=>tm st.1 st.2 (v:=vals[i]) (by simp[hi]) λh' a b=>e _ h' s.toks (by simp[hi]) ⟨a,st.2.extBut b.extBut BE⟩ b
 done:=λs Q E st f=>Zl hh st.1 st.2 (by simp) f
end HT
namespace L2
variable{es:List Expr}{k1:Nat}
section
variable{X:Cx}
noncomputable def Zd(K:ZBc)(tp:Bool)(a:Addr)(xs:List V):It:=
 ⟨λi H=>IK K tp H a xs/\i<xs.length,λi H x H'=>∃p y,xs[i]?=some y/\x=.ref p/\H p=none/\H'=upd H p (.tup [.int i,y]),λi H=>IK K tp H a xs/\xs.length<=i⟩
theorem lR{P:Program}{w:World}{K:ZBc}{R:Pos}(a e it:Addr)(xs:List V)(Lr:e≠it):
  Turn P w K (.Tuple es k1 R) (Zd K true a xs) [e,it] e (λi h=>(∃old,IsEnum h e it i old)/\h.IsTupleIter it a i) where
 mem:=by simp
 obj:=λi h st b f=>by
  obtain⟨⟨old,h1⟩,o,h2,_,d⟩:=st;rcases List.mem_cons.mp f with z|z
  .subst z;exact⟨_,h1,λv z=>by cases z⟩
  .have y:b=it:=by simpa using z
   subst y;exact⟨o,h2,λv z=>by rw[d]at z;cases z⟩
 keep:=λi h h' st k=>⟨let ⟨old,h1⟩:=st.1;⟨old,k e (by simp) _ h1⟩,let ⟨o,h2,r⟩:=st.2;⟨o,k it (by simp) o h2,r⟩⟩
 item:=by
  intro X F hw G D i Zb s Z H E I x st C;subst F hw G;obtain⟨B,hi⟩:=C;obtain⟨⟨old,g⟩,c⟩:=st;obtain⟨A4,m,j,T⟩:=I.tuple B;obtain⟨u,U,N⟩:=m.get (Ah hi);have Fi:A4.toArray[i]?=some u:=by simpa using U
  have W:a<s.heap.objs.size:=j.lt;have Y:a≠it:=by
   rintro rfl;obtain⟨o,t,Q,_⟩:=c;obtain⟨S,l,p,_⟩:=j;rw[t]at l;cases l;rw[Q]at p;exact absurd p (by decide)
  have UG:e≠a:=by
   rintro rfl;obtain⟨S,l,p,_⟩:=j;have t:=g;unfold IsEnum at t;rw[t]at l;cases l;exact absurd (show Value.type "enumerate"=Value.type "tuple" from p) (by decide)
  have L:e<s.heap.objs.size:=B4 g;refine wpAny_pyNext_enum_itemD (n:=A4.toArray.size) (HT.wC (show X.A.in1.handled=none from I.ok.hd D) it a Y A4.toArray) g ⟨c,j⟩ (by rw[Bf,<- m.length];exact hi) Lr (by simp[Lr,UG]) λv h1 US pv HQ O UA ZX VG=>⟨_,rfl,?_⟩;have σ:v=u:=by rw[Fi]at pv;exact(BH pv).symm
  subst σ;refine qQ HQ λh2 WG CI=>?_;have J:h2.get? s.heap.objs.size=some { cls:=.type "tuple", data:=.seq #[.int i US,v] }:=(CI.2 _ (Mh L)).trans UA;have kp:∀b o,b∉[e,it]->s.heap.get? b=some o->h2.get? b=some o:=λb o f q=>by
   have y:b≠e/\b≠it:=by simpa using f
   exact(CI.2 b y.1).trans (VG b o y.1 y.2 q)
  refine⟨.ref s.heap.objs.size,_,I.dF (t':=US+1) (a:=s.heap.objs.size) (o:=.tup [.int i,xs[i]]) x kp (Ae _) ?_,rfl,⟨_,_,Ah hi,rfl,I.AF.fresh (Ae _),rfl⟩,⟨⟨_,WG⟩,?_⟩,λb f=>?_⟩
  .exact⟨(by show 2<=sizeLine;decide),[.int i US,v],.cons ⟨_,rfl⟩ (.cons N .nil),⟨_,J,rfl,_,rfl⟩,λob q=>by rw[J]at q;cases q;rfl⟩
  .obtain⟨o,q,r⟩:=O.1;exact⟨o,(CI.2 it (B5 Lr)).trans q,r⟩
  .have y:b<s.heap.objs.size:=by
    rcases List.mem_cons.mp f with z|z
    .rw[z];exact L
    .have M:b=it:=by simpa using z
     obtain⟨o,q,_⟩:=c;rw[M];exact B4 q
   rw[AS (CV y)];exact(x b f).1
 done:=by
  intro X F hw G D i Zb s Z H E I x st C;subst F hw G;obtain⟨B,hx⟩:=C;obtain⟨⟨old,g⟩,c⟩:=st;obtain⟨A4,m,j,T⟩:=I.tuple B;have hl:=m.length;exact HT.nQ (I.ok.hd D) g c j (by simp;omega) λh' eb=>⟨rfl,I.dm (t':=s.toks) x λb o f q=>eb b o (λz=>f (by simp[z])) q⟩
 self:=λ_ _ _ _ _ st h=>let ⟨⟨_,g⟩,_⟩:=st;pS g h
def T4(K:ZBc)(t:TA):TI:=λZ H R=>t Z H λvs H1=>∃a tp xs,vs=[.ref a]/\IK K tp H1 a xs/\R (Zd K tp a xs) H1
theorem uX{r p pos:Pos}{l:Expr}{t:TA}(B:Gl X "enumerate")(A:X.mg "enumerate"=none)(f:QA X [l] t)(x:starEach [l] X.env=[(false,eval l X.env)]:=by rfl):
  QI X (.Tuple es k1 r) (.Call (.Name "enumerate" p) [l] [] pos) (T4 X.K t):=⟨by
 have f:=f.h;intro Zb s Z H R I h;refine kY (LF I B A (show bootBuiltins "enumerate"=some (.type "enumerate") by decide +kernel) ?_ (by decide) (by decide));refine Xq (AI (f pos Zb s Z H _ I h) λus c⟨vs,H1,I1,n,o⟩=>?_) x rfl;obtain⟨a,tp,xs,rfl,g,q⟩:=o;obtain⟨u,rfl,k⟩:=vals1 n;cases k;have i:c.heap.objs.size+1≠c.heap.objs.size:=Nat.succ_ne_self _;have fp:∀b∈[c.heap.objs.size+1,c.heap.objs.size],E9 X Zb H1 b:=λb C=>by
  have y:c.heap.objs.size<=b:=by
   rcases List.mem_cons.mp C with z|z
   .rw[z];exact L5 _
   .have j:b=c.heap.objs.size:=by simpa using z
    rw[j];exact Ae _
  exact I1.LX y (I1.AF.fresh y)
 cases tp with
 |false=>
  obtain⟨A4,m,p,v⟩:=I1.list g;refine call_enumerate_list p.isList λh' e d hsz kp=>pS e ?_;exact⟨c.heap.objs.size+1,[c.heap.objs.size+1,c.heap.objs.size],_,_,H1,rfl,I1.kept (t':=c.toks) kp,jy a _ _ xs i,⟨⟨_,e⟩,d⟩,fp,q⟩
 |true=>
  obtain⟨A4,m,w,v⟩:=I1.tuple g;refine HT.rV w λh' e d hsz kp=>pS e ?_;exact⟨c.heap.objs.size+1,[c.heap.objs.size+1,c.heap.objs.size],_,_,H1,rfl,I1.kept (t':=c.toks) kp,lR a _ _ xs i,⟨⟨_,e⟩,d⟩,fp,q⟩⟩
end
end L2
namespace MA
noncomputable def Mu:Nat->Nat->List Nat
 | 0,n=>[97+n]
 |k+1,n=>if n<26 then[97+n]else(97+n % 26)::Mu k (n / 26)
theorem Jb:∀(k:Nat){n:Nat},n<26->Mu k n=[97+n]
 | 0,_,_=>rfl
 |_+1,_,h=>ir h
theorem fD:∀(k j n:Nat),n<=k->n<=j->Mu k n=Mu j n
 | 0,j,n,h,_=>by rw[Jb 0 (Mg h (by decide)),Jb j (Mg h (by decide))]
 |k+1,0,n,_,h=>by rw[Jb (k+1) (Mg h (by decide)),Jb 0 (Mg h (by decide))]
 |k+1,j+1,n,h1,h2=>by
  by_cases c:n<26
  .rw[Jb _ c,Jb _ c]
  .have d:n / 26<n:=Nat.div_lt_self (DC (by decide) (ZAp c)) (by decide);show(if n<26 then _ else _)=(if n<26 then _ else _)
   rw[ib c,ib c,fD k j (n / 26) (i8 (DC d h1)) (i8 (DC d h2))]
def lets(n:Nat):List Nat:=Mu n n
noncomputable def vals:List Nat->Nat
 | []=>0
 |c::r=>(c - 97)+26 * vals r
theorem LP{n:Nat}(h:n<26):lets n=[97+n]:=Jb n h
theorem Ny{n:Nat}(h:¬ n<26):lets n=(97+n % 26)::lets (n / 26):=by
 cases n with
 |zero=>exact absurd (by decide) h
 |succ k=>
  have d:(k+1) / 26<k+1:=Nat.div_lt_self (Nat.succ_pos k) (by decide);show(if k+1<26 then _ else _)=_
  rw[ib h,fD k ((k+1) / 26) ((k+1) / 26) (i8 d) (Ae _)];rfl
theorem dX:∀n,vals (lets n)=n:=by
 intro n
 induction n using Nat.strongRecOn with
 |_ n a=>
  by_cases h:n<26
  .rw[LP h];simp[vals]
  .rw[Ny h];have:=a (n / 26) (by omega);simp only[vals,this];omega
theorem q8{a b:Nat}(h:lets a=lets b):a=b:=by rw[<- dX a,h,dX]
theorem Vp(n:Nat):1<=(lets n).length:=by
 by_cases h:n<26
 .rw[LP h];simp
 .rw[Ny h];simp
theorem Qp:∀(k n:Nat),n<26 ^ (k+1)->(lets n).length<=k+1
 | 0,n,h=>by rw[LP (by simpa using h)];simp
 |k+1,n,h=>by
  by_cases h1:n<26
  .rw[LP h1];simp
  .rw[Ny h1];have:=Qp k (n / 26) (by rw[Nat.pow_succ]at h;exact Nat.div_lt_of_lt_mul (by rw[Nat.mul_comm];exact h));simp only[CG];omega
theorem lH:∀n,∀c∈lets n,97<=c/\c<=122:=by
 intro n
 induction n using Nat.strongRecOn with
 |_ n b=>
  by_cases h:n<26
  .rw[LP h];intro c a;simp at a;omega
  .rw[Ny h];intro c a;rcases List.mem_cons.mp a with e|e
   .omega
   .exact b (n / 26) (by omega) c e
theorem aq{α:Type}[DecidableEq α]:∀(k:Nat)(f:Nat->α)(l:List α),(∀i j,i<k->j<k->f i=f j->i=j)->(∀i,i<k->f i∈l)->k<=l.length
 | 0,_,_,_,_=>CA _
 |k+1,f,l,hi,hm=>by
  have h1:=hm k (i9 k);have:=aq k f (l.erase (f k)) (λi j a b e=>hi i j (by omega) (by omega) e) (λi a=>by
   have c:f i≠f k:=λe=>by have:=hi i k (by omega) (by omega) e;omega
   exact(hX c).mpr (hm i (by omega)))
  rw[Xe h1]at this;have d:=Xg h1;omega
end MA
namespace Lw
open L2
variable{a l p:Addr}{H H' H2:Hp}{xs:List V}{o:HO}{α:Type}{n:Nat}{i j r:Int}{ns:List Str}{x z:Str}
def BJ(H:Hp)(p:Addr):Prop:=∃a b:Int,H p=some (.lst [.int a,.int b])/\0<=a/\a<10 ^ 256/\0<=b/\b<2147483647
structure Bh (p:Addr) (H H':Hp):Prop where
 AK:BJ H' p
 same:Fs p H H'
theorem Bh.trans{H1:Hp}(a:Bh p H H1)(b:Bh p H1 H2):Bh p H H2:=⟨b.AK,a.same.trans b.same⟩
theorem Bh.of(h:BJ H p)(s:AJ H H'):Bh p H H':=by
 obtain⟨a,b,e,r⟩:=h;exact⟨⟨a,b,s _ _ e,r⟩,Fs.of s⟩
theorem Bh.Nn{K:ZBc}(s:Bh p H H')(h:AQ K H a xs)(BE:a≠p):AQ K H' a xs:=by
 rcases h with(h|⟨o,h⟩)|h
 .exact .inl (.inl (s.same _ _ BE h))
 .exact .inl (.inr ⟨o,s.same _ _ BE h⟩)
 .exact .inr h
theorem Bh.at'(s:Bh p H H')(h:H a=some o)(BE:a≠p):H' a=some o:=s.same _ _ BE h
theorem OW{a:Int}(c:-(10 ^ 20)<a)(h1:a<10 ^ 20):a.natAbs<2 ^ 1000:=by
 have b:a.natAbs<10 ^ 20:=by omega
 exact iA b (by decide +kernel)
def Nl(K:ZBc):Sp:=λvs H Q _=>∃(a:Addr)(ns:List Int)(k:Int),vs=[.ref a,.int k]/\AQ K H a (ns.map V.int)/\0<=k/\k<=1000/\∀p H',H p=none->AJ H H'->BJ H' p->Q (.ref p) H'
def Z9:Sp:=λvs H Q _=>∃(p:Addr)(m:Int),vs=[.ref p,.int m]/\BJ H p/\0<m/\m<10 ^ 18/\∀r H',0<=r->r<m->Bh p H H'->Q (.int r) H'
noncomputable def Cw(l:List Nat):Str:=⟨l.toArray⟩
def Zp:Sp:=λvs H Q _=>∃r:Int,vs=[.int r]/\0<=r/\r<26 ^ 8/\∀H',AJ H H'->Q (.str (Cw (MA.lets r.toNat))) H'
theorem M7{xs:List α}{k:Int}{v:α}(b:0<=k)(h:xs[k.toNat]?=some v):Bm xs k=some v:=by
 have a:k=((k.toNat:Nat):Int):=by omega
 have q:=Fp h;rw[<- a]at q;exact q
noncomputable abbrev LH:Str:="abcdefghijklmnopqrstuvwxyz"
theorem j9:∀j,j<26->LH.cps.toList[j]?=some (97+j):=by decide +kernel
theorem Z3{k:Int}(a:0<=k)(h1:k<26):Bm LH.cps.toList k=some (97+k.toNat):=M7 a (j9 _ (by omega))
theorem Yz(l:List Nat)(c:Nat):Cw l++(⟨#[c]⟩:Str)=Cw (l++[c]):=by
 show(⟨l.toArray++#[c]⟩:Str)=⟨(l++[c]).toArray⟩;simp
theorem Q0(l:List Nat):(Cw l).length=l.length:=by simp[Cw,Str.length]
theorem aN{l:List Nat}:(V.str (Cw l)=V.str (Str.ofString ""))↔l=[]:=by
 constructor
 .intro h;injection h with h
  have h2:=k9 (λx=>x.cps.toList) h;have e:(Str.ofString "").cps.toList=[]:=by decide +kernel
  rw[e]at h2
  simpa[Cw]using h2
 .rintro rfl;rfl
theorem small(h:n<=100000):n<=sizeLine:=CU h (by decide +kernel)
theorem ZI{k:Nat}{pre:List Nat}(h:pre++MA.lets k=MA.lets n):(0<k / 26->(pre++[97+k % 26])++MA.lets (k / 26)=MA.lets n)/\(k / 26=0->pre++[97+k % 26]=MA.lets n):=by
 constructor
 .intro h1;rw[MA.Ny (by omega)]at h;rw[<- h,Bv];rfl
 .intro h1;have h2:k<26:=by omega
  rw[MA.LP h2]at h;rw[<- h,Nat.mod_eq_of_lt h2]
def Nm(x:Str):Prop:=1<=x.length/\x.length<=8/\∀c∈x.cps.toList,97<=c/\c<=122
instance (x:Str):Decidable (Nm x):=by unfold Nm;exact inferInstance
theorem HM(x:Str):x.length=x.cps.toList.length:=by simp[Str.length]
theorem Tb(h:n<26 ^ 8):Nm (Cw (MA.lets n)):=by
 refine⟨by rw[Q0];exact MA.Vp n,by rw[Q0];exact MA.Qp 7 n h,λc a=>MA.lH n c (by simpa[Cw]using a)⟩
noncomputable def menu:List Str:=["put","take","none","ahead","all","over","next","a","ab","abc","abcdefgh","b","step"]
theorem xI:∀x∈menu,Nm x:=by decide +kernel
noncomputable def Pj:List V:=[.str "put",.str "take",.str "none",.str "ahead",.str "all",.str "over",.str "next",.str "a",.str "ab",.str "abc",.str "abcdefgh",.str "b",.str "step"]
theorem j5(a:0<=i)(h1:i<13):∃x,Bm Pj i=some (.str x)/\Nm x:=by
 have b:menu.length=13:=rfl;have hi:i.toNat<menu.length:=by omega
 have e:Pj=menu.map V.str:=rfl;refine⟨menu[i.toNat],M7 a ?_,xI _ (Ky hi)⟩;rw[e,Am,Ah hi];rfl
theorem fN(a:0<=i)(h1:i<ns.length):∃x,Bm (ns.map V.str) i=some (.str x)/\x∈ns/\ns[i.toNat]?=some x:=by
 have hi:i.toNat<ns.length:=by omega
 exact⟨ns[i.toNat],M7 a (by rw[Am,Ah hi];rfl),Ky hi,Ah hi⟩
theorem KZ(ns:List Str):(ns.map V.str).all D3=true:=by
 rw[Gq];intro x hx;obtain⟨y,_,rfl⟩:=List.mem_map.mp hx;rfl
theorem VI(x:Str)(ns:List Str):PN (.str x) (ns.map V.str)=decide (x∈ns):=by
 unfold PN;rw[MW,List.any_eq_true,ou];constructor
 .rintro⟨v,b,h⟩;obtain⟨y,a,rfl⟩:=List.mem_map.mp b;have h':(y == x)=true:=h;have:y=x:=by simpa using h'
  rw[<- this];exact a
 .intro h;exact⟨.str x,List.mem_map.mpr ⟨x,h,rfl⟩,by show(x == x)=true;simp⟩
theorem Yr(xs:List V):GJ xs []=decide (xs=[]):=by
 cases xs with
 |nil=>rfl
 |cons x r=>rw[Ld (by simp)];simp
theorem lg(z:Str){a b:Nat}{lo hi:Option Int}(M5:a<=b)(c:b<=z.length)(e:Builtin.Str.strSliceIndices lo hi 1 z.length=Builtin.Str.strSliceIndices (some (a:Int)) (some (b:Int)) 1 z.length):
  (Txt.slice z lo hi).cps.toList=(z.cps.toList.drop a).take (b - a):=by
 have q:=StrLaws.sliced_plain z M5 c;rw[<- e]at q;unfold Txt.slice;split
 .rename_i h;have d:(Builtin.Str.strSliceIndices lo hi 1 z.length).length=z.length:=by simpa using h
  rw[e,StrLaws.strSliceIndices_plain M5 c,AA,Rk]at d;have h1:a=0:=by omega
  have h2:b=z.length:=by omega
  subst h1;subst h2;rw[Xa,Rq,HM,GD]
 .rw[<- q]
theorem yR(h:0<=j):max (0:Int) (min j (n:Int))=max 0 (min ((min j.toNat n:Nat):Int) (n:Int)):=by
 have e:((min j.toNat n:Nat):Int)=min j n:=by
  rcases Xl j.toNat n with c|c
  .rw[Rp c,gr h,Int.min_eq_left (by have:=Int.ofNat_le.mpr c;rw[gr h]at this;exact this)]
  .rw[Xm c,Int.min_eq_right (by have:=Int.ofNat_le.mpr c;rw[gr h]at this;exact this)]
 rw[e,Int.min_assoc,Int.min_self]
theorem x5(z:Str)(h:0<=j):(Txt.slice z none (some j)).cps.toList=z.cps.toList.take j.toNat:=by
 have e:=lg z (a:=0) (b:=min j.toNat z.length) (lo:=none) (hi:=some j) (CA _) (Nat.min_le_right _ _) (by
  have h1:¬ j<0:=by omega
  have h2:¬ (((min j.toNat z.length:Nat):Int)<0):=Int.not_lt.mpr (PD _);have c:max (0:Int) (min j (z.length:Int))=max 0 (min ((min j.toNat z.length:Nat):Int) (z.length:Int)):=yR h;simp only[Builtin.Str.strSliceIndices,h1,h2,tX,c];rfl)
 rw[e,Xa,Rq];rcases Xl j.toNat z.length with h1|h1
 .rw[Rp h1]
 .rw[Xm h1,HM,GD,Me (by rw[<- HM];exact h1)]
theorem er(h:1<=j)(d:j<=8)(b:1<=z.length)(a:∀c∈z.cps.toList,97<=c/\c<=122):Nm (Txt.slice z none (some j)):=by
 have e:=x5 z (j:=j) (by omega);refine⟨?_,?_,λc OK=>a c ?_⟩
 .rw[HM,e,FD,<- HM];omega
 .rw[HM,e,FD];omega
 .rw[e]at OK;exact i3 OK
theorem aJ(x y:Str):(x++y).cps.toList=x.cps.toList++y.cps.toList:=by
 show(x.cps++y.cps).toList=_;simp
theorem cD(x y:Str):(x++y).length=x.length+y.length:=by rw[HM,aJ,Bj,<- HM,<- HM]
def ZS(K:ZBc):Sp:=λvs H Q _=>∃(p q:Addr)(ns:List Str),vs=[.ref p,.ref q]/\BJ H p/\H q=some (.lst (ns.map V.str))/\q≠p/\(∀x∈ns,Nm x)/\ns.length<=1000/\∀x H',Nm x->x∉ns->Bh p H H'->Q (.str x) H'
theorem lr{k:Nat}(h:∀j,j<k->Cw (MA.lets j)∈ns):k<=ns.length:=
 MA.aq k (λj=>Cw (MA.lets j)) ns (λi j _ _ e=>MA.q8 (by
  have:=k9 (λx=>x.cps.toList) e
  simpa[Cw]using this)) h
theorem iR:1000<26 ^ 8:=by decide +kernel
theorem oC:(1000:Int)<26 ^ 8:=by decide +kernel
theorem mG:(26:Int) ^ (8:Int).toNat - 26<26 ^ 8:=by decide +kernel
theorem iG:(26:Int)<26 ^ 8:=by decide +kernel
theorem lV:(0:Int)<26 ^ (8:Int).toNat - 26:=by decide +kernel
theorem kD:(26:Int) ^ (8:Int).toNat - 26<10 ^ 18:=by decide +kernel
theorem Zs(a:0<=r)(h:r<26 ^ 8):r.toNat<26 ^ 8:=by omega
theorem Bh.upd(s:Bh p H H2)(h:H l=none)(BE:l≠p):Bh p H (upd H2 l o):=by
 obtain⟨a,b,e,r⟩:=s.AK;refine⟨⟨a,b,by rw[AS (B5 BE)];exact e,r⟩,λc u d q=>?_⟩;rw[AS (Cy q h)];exact s.same c u d q
theorem BJ.ne(h:BJ H p)(a:H l=none):l≠p:=by
 obtain⟨_,_,e,_⟩:=h;exact(Cy e a).symm
theorem AJ.none(s:AJ H H2)(h:H2 l=none):H l=none:=by
 cases q:H l with
 |none=>rfl
 |some o=>rw[s l o q]at h;cases h
def Tg:Sp:=λvs H Q _=>∃(p:Addr)(m:Int),vs=[.ref p,.int m]/\BJ H p/\0<=m/\m<=100/\
 ∀l H'(ns:List Str),H l=none->Bh p H H'->H' l=some (.lst (ns.map V.str))->(ns.length:Int)=m->(∀x∈ns,Nm x)->ns.Nodup->Q (.ref l) H'
theorem N2{l:List α}{x:α}(h:l.Nodup)(hx:x∉l):(l++[x]).Nodup:=by
 rw[CM];exact⟨h,by simp,λa d b c=>by
  have:b=x:=by simpa using c
  subst this;rintro rfl;exact hx d⟩
noncomputable def PU(c:Nat):Bool:=!(Builtin.Str.occurrences LH ⟨#[c]⟩ 0 LH.length 1).isEmpty
def isNm(x:Str):Bool:=decide ((1:Int)<=x.length) && (decide ((x.length:Int)<=8) && x.cps.toList.all PU)
def UW:Sp:=λvs H Q _=>∃x:Str,vs=[.str x]/\x.length<=1000/\∀H',AJ H H'->Q (.bl (isNm x)) H'
theorem jL(l:List α):l.filter (λ_=>true)=l:=List.filter_eq_self.mpr λ_ _=>rfl
noncomputable def bh:V->V
 | .str y=>.bl (!(Builtin.Str.occurrences LH y 0 LH.length 1).isEmpty)
 |_=>.bl false
theorem mM(x:Str):((G0 x).filter (λ_=>true)).map bh=(x.cps.toList.map PU).map V.bl:=by
 unfold G0;rw[jL,CH,CH];rfl
theorem signs_get{i:Nat}{v:V}(h:(G0 x)[i]?=some v):∃c,v=.str ⟨#[c]⟩:=by
 unfold G0 at h;rw[Am]at h;cases q:x.cps.toList[i]? with
 |none=>rw[q]at h;cases h
 |some c=>rw[q]at h;simp at h;exact⟨c,h.symm⟩
theorem all_map(f:α->Bool)(l:List α):(l.map f).all id=l.all f:=by rw[List.all_map];rfl
theorem oE(xs:List Str):GJ (xs.map V.str) (xs.map V.str)=true:=by
 rw[MO rfl,Gq];intro j a;have b:j<xs.length:=by simpa using a
 have e:(xs.map V.str)[j]?=some (.str xs[j]):=by rw[Am,Ah b];rfl
 rw[Oy e];show(xs[j] == xs[j])=true;simp
theorem kz(K:ZBc)(t:String):PySem.W.kitOne K (.type t) (.type t)=some true:=by
 unfold PySem.W.kitOne;rw[ir (by simp)]
def Nj(K:ZBc):Sp:=λvs H Q _=>∃(a:Addr)(ns:List Int),vs=[.ref a]/\AQ K H a (ns.map V.int)/\ns.length<=63/\∀H',Q (.bl true) H'
noncomputable def FZ(tp:Bool)(xs:List V):HO:=match tp with
 |false=>.lst xs
 |true=>.tup xs
theorem FZ.sq{K:ZBc}{tp:Bool}(h:H a=some (FZ tp xs)):IK K tp H a xs:=by
 cases tp
 .exact AQ.of h
 .exact BC.of h
theorem Cf{c A B:Prop}[Decidable c](h:¬ c)(b:B):if c then A else B:=by rw[ib h];exact b
theorem qW:∀j,j<26->PU (97+j)=true:=by decide +kernel
theorem wt(h:Nm x):isNm x=true:=by
 obtain⟨h1,h2,f⟩:=h;unfold isNm;rw[jE (by omega),jE (by omega),gk,gk,Gq];intro c d;obtain⟨a,b⟩:=f c d;have:=qW (c - 97) (by omega);have e:97+(c - 97)=c:=by omega
 rw[e]at this;exact this
end Lw
namespace Fz
open L2 Lw
variable{F F' H H':Hp}{v:V}{BI vs:List V}{i i0 j:Nat}{a l:Addr}{r:List V->Hp->VK->Prop}{Z τ:L2.St}{o:HO}{ta tc te:TE}{tb u:TS}{b neg tp:Bool}{f:Int->Int->Int}{n:String}{c tt:TT}{wi:TI}{A:List Addr}{Q:VK}{X:XK}
inductive PV where
 |A9|bl (b:Bool)|int (i:Int)|str (x:Str)|lst (xs:List PV)|tup (xs:List PV)
 |Ag (ks:List Key) (xs:List PV)|obj (C:Addr) (ns:List Str) (xs:List PV)|exc (C:Addr) (ns:List Str) (xs:List PV)|con (a:Addr) (xs:List PV)
variable{p:PV}{ps xs:List PV}
noncomputable def Hj(a C:Addr)(dx:Option Addr):HO:=.ext λh=>∃ob vs,h.get? a=some ob/\ob.cls=.ref C/\ob.dict=dx/\ob.data=.fields vs
mutual
inductive Rep (F:Hp):V->PV->Prop where
 |A9:Rep F .A9 .A9
 |bl (b:Bool):Rep F (.bl b) (.bl b)
 |int (i:Int):Rep F (.int i) (.int i)
 |str (x:Str):Rep F (.str x) (.str x)
 |lst {a:Addr}{vs:List V}{xs:List PV}:F a=some (.lst vs)->AL F vs xs->Rep F (.ref a) (.lst xs)
 |tup {a:Addr}{vs:List V}{xs:List PV}:F a=some (.tup vs)->AL F vs xs->Rep F (.ref a) (.tup xs)
 |Ag {a:Addr}{ks:List Key}{vs:List V}{xs:List PV}:F a=some (.dK (ks.zip vs))->ks.length=vs.length->AL F vs xs->Rep F (.ref a) (.Ag ks xs)
 |obj {a C dx:Addr}{ns:List Str}{vs:List V}{xs:List PV}:F a=some (.ins C dx (ns.zip vs))->F dx=some (.own a)->ns.length=vs.length->AL F vs xs->Rep F (.ref a) (.obj C ns xs)
 |con {a:Addr}{xs:List PV}:Rep F (.ref a) (.con a xs)
 |Mo {a C:Addr}:F a=some (Hj a C none)->Rep F (.ref a) (.exc C [] [])
 |exc {a C dx:Addr}{ns:List Str}{vs:List V}{xs:List PV}:F a=some (Hj a C (some dx))->F dx=some (.xd (ns.zip vs))->ns.length=vs.length->AL F vs xs->Rep F (.ref a) (.exc C ns xs)
inductive AL (F:Hp):List V->List PV->Prop where
 |nil:AL F [] []
 |cons {v:V}{p:PV}{vs:List V}{ps:List PV}:Rep F v p->AL F vs ps->AL F (v::vs) (p::ps)
end
theorem Rep.mono(s:AJ F F')(r:Rep F v p):Rep F' v p:=
 Rep.rec (motive_1:=λv p _=>Rep F' v p) (motive_2:=λvs ps _=>AL F' vs ps) .A9 .bl .int .str (λh _ i=>.lst (s _ _ h) i) (λh _ i=>.tup (s _ _ h) i) (λh e _ i=>.Ag (s _ _ h) e i) (λh h2 e _ i=>.obj (s _ _ h) (s _ _ h2) e i) .con (λh=>.Mo (s _ _ h)) (λh h2 e _ i=>.exc (s _ _ h) (s _ _ h2) e i) .nil (λ_ _ i k=>.cons i k) r
def iH(F:Hp)(v:V):PV->Prop
 | .A9=>v=.A9
 | .bl b=>v=.bl b
 | .int i=>v=.int i
 | .str x=>v=.str x
 | .lst xs=>∃a vs,v=.ref a/\F a=some (.lst vs)/\AL F vs xs
 | .tup xs=>∃a vs,v=.ref a/\F a=some (.tup vs)/\AL F vs xs
 | .Ag ks xs=>∃a vs,v=.ref a/\F a=some (.dK (ks.zip vs))/\ks.length=vs.length/\AL F vs xs
 | .obj C ns xs=>∃a dx vs,v=.ref a/\F a=some (.ins C dx (ns.zip vs))/\F dx=some (.own a)/\ns.length=vs.length/\AL F vs xs
 | .con a _=>v=.ref a
 | .exc C ns xs=>(∃a,v=.ref a/\F a=some (Hj a C none)/\ns=[]/\xs=[])∨∃a dx vs,v=.ref a/\F a=some (Hj a C (some dx))/\F dx=some (.xd (ns.zip vs))/\ns.length=vs.length/\AL F vs xs
theorem Rep.inv(r:Rep F v p):iH F v p:=by
 cases r with
 |lst h r=>exact⟨_,_,rfl,h,r⟩
 |tup h r=>exact⟨_,_,rfl,h,r⟩
 |Ag h l r=>exact⟨_,_,rfl,h,l,r⟩
 |obj h h2 l r=>exact⟨_,_,_,rfl,h,h2,l,r⟩
 |Mo h=>exact .inl ⟨_,rfl,h,rfl,rfl⟩
 |exc h h2 l r=>exact .inr ⟨_,_,_,rfl,h,h2,l,r⟩
 |_=>exact rfl
theorem AL.inv(r:AL F vs (p::ps)):∃v ws,vs=v::ws/\Rep F v p/\AL F ws ps:=by
 cases r with
 |cons r t=>exact⟨_,_,rfl,r,t⟩
theorem AL.D5(r:AL F vs []):vs=[]:=by
 cases r;rfl
theorem AL.mono(s:AJ F F')(r:AL F vs ps):AL F' vs ps:=by
 induction ps generalizing vs with
 |nil=>cases r.D5;exact .nil
 |cons p ps c=>obtain⟨v,ws,rfl,a,b⟩:=r.inv;exact .cons (a.mono s) (c b)
theorem AL.length{F:Hp}{vs:List V}{ps:List PV}(r:AL F vs ps):vs.length=ps.length:=by
 induction ps generalizing vs with
 |nil=>cases r.D5;rfl
 |cons p ps c=>obtain⟨v,ws,rfl,a,b⟩:=r.inv;exact k9 (· + 1) (c b)
theorem AL.get{F:Hp}{vs:List V}{ps:List PV}{i:Nat}{p:PV}(r:AL F vs ps)(e:ps[i]?=some p):∃v,vs[i]?=some v/\Rep F v p:=by
 induction ps generalizing vs i with
 |nil=>cases e
 |cons q ps c=>
  obtain⟨v,ws,rfl,a,b⟩:=r.inv;cases i with
  |zero=>cases e;exact⟨_,rfl,a⟩
  |succ i=>exact c (vs:=ws) (i:=i) b e
theorem AL.get'(r:AL F vs ps)(e:vs[i]?=some v):∃p,ps[i]?=some p/\Rep F v p:=by
 induction ps generalizing vs i with
 |nil=>cases r.D5;cases e
 |cons q ps c=>
  obtain⟨u,ws,rfl,a,b⟩:=r.inv;cases i with
  |zero=>cases e;exact⟨_,rfl,a⟩
  |succ i=>exact c (vs:=ws) (i:=i) b e
theorem AL.append{ws:List V}{c:List PV}(r:AL F vs ps)(s:AL F ws c):AL F (vs++ws) (ps++c):=by
 induction ps generalizing vs with
 |nil=>cases r.D5;exact s
 |cons p ps d=>obtain⟨v,us,rfl,a,b⟩:=r.inv;exact .cons a (d b)
theorem AL.take(n:Nat)(r:AL F vs ps):AL F (vs.take n) (ps.take n):=by
 induction ps generalizing vs n with
 |nil=>cases r.D5;rw[List.take_nil,List.take_nil];exact .nil
 |cons p ps c=>
  obtain⟨v,us,rfl,a,b⟩:=r.inv;cases n with
  |zero=>exact .nil
  |succ n=>exact .cons a (c n b)
theorem AL.drop(n:Nat)(r:AL F vs ps):AL F (vs.drop n) (ps.drop n):=by
 induction ps generalizing vs n with
 |nil=>cases r.D5;rw[List.drop_nil,List.drop_nil];exact .nil
 |cons p ps c=>
  cases n with
  |zero=>exact r
  |succ n=>obtain⟨v,us,rfl,a,b⟩:=r.inv;exact c n b
theorem AL.one(r:Rep F v p):AL F [v] [p]:=.cons r .nil
theorem AL.reverse(r:AL F vs ps):AL F vs.reverse ps.reverse:=by
 induction ps generalizing vs with
 |nil=>cases r.D5;exact .nil
 |cons p ps c=>obtain⟨v,us,rfl,a,b⟩:=r.inv;rw[Xi,Xi];exact(c b).append (.one a)
noncomputable def flat:PV->Bool
 | .lst _=>false
 | .tup _=>false
 | .Ag _ _=>false
 | .obj _ _ _=>false
 | .exc _ _ _=>false
 | .con _ _=>false
 |_=>true
noncomputable def enc:PV->V
 | .bl b=>.bl b
 | .int i=>.int i
 | .str x=>.str x
 |_=>.A9
theorem Rep.enc(h:flat p=true)(r:Rep F v p):v=enc p:=by
 cases r <;> first|rfl|cases h
theorem pI(h:flat p=true):Rep F (enc p) p:=by
 cases p with
 |A9=>exact .A9
 |bl b=>exact .bl b
 |int i=>exact .int i
 |str x=>exact .str x
 |lst xs=>cases h
 |tup xs=>cases h
 |Ag ks xs=>cases h
 |obj C ns xs=>cases h
 |exc C ns xs=>cases h
 |con a xs=>cases h
theorem AL.enc(h:ps.all flat=true)(r:AL F vs ps):vs=ps.map enc:=by
 induction ps generalizing vs with
 |nil=>exact r.D5
 |cons p ps c=>
  obtain⟨v,us,rfl,a,b⟩:=r.inv;rw[Rg,EO]at h;rw[Aq,<- Rep.enc h.1 a,<- c h.2 b]
theorem t5(h:ps.all flat=true):AL F (ps.map enc) ps:=by
 induction ps with
 |nil=>exact .nil
 |cons p r a=>
  rw[Rg,EO]at h;exact .cons (pI h.1) (a h.2)
theorem YY(ns:List Str):(ns.map PV.str).all flat=true:=by
 rw[Gq];intro x hx;obtain⟨y,_,rfl⟩:=List.mem_map.mp hx;rfl
theorem kZ(ns:List Int):(ns.map PV.int).all flat=true:=by
 rw[Gq];intro x hx;obtain⟨y,_,rfl⟩:=List.mem_map.mp hx;rfl
theorem oR(ns:List Bool):(ns.map PV.bl).all flat=true:=by
 rw[Gq];intro x hx;obtain⟨y,_,rfl⟩:=List.mem_map.mp hx;rfl
theorem Tj(ns:List Str):(ns.map PV.str).map Fz.enc=ns.map V.str:=by rw[CH];rfl
theorem jK(ns:List Bool):(ns.map PV.bl).map Fz.enc=ns.map V.bl:=by rw[CH];rfl
theorem iL(ns:List Int):(ns.map PV.int).map Fz.enc=ns.map V.int:=by rw[CH];rfl
theorem AL.strs{ns:List Str}(r:AL F vs (ns.map PV.str)):vs=ns.map V.str:=(r.enc (YY ns)).trans (Tj ns)
theorem Xu(ns:List Str):AL F (ns.map V.str) (ns.map PV.str):=by rw[<- Tj];exact t5 (YY ns)
theorem AL.fu{ns:List Bool}(r:AL F vs (ns.map PV.bl)):vs=ns.map V.bl:=(r.enc (oR ns)).trans (jK ns)
theorem AL.ints{ns:List Int}(r:AL F vs (ns.map PV.int)):vs=ns.map V.int:=(r.enc (kZ ns)).trans (iL ns)
inductive NK where
 |lst|Ag (ks:List Key)|obj (C dx:Addr) (ns:List Str)|IJ (ks:List (List Key))
noncomputable def NK.ho:NK->List V->HO
 | .lst,vs=>.lst vs
 | .Ag ks,vs=>.dK (ks.zip vs)
 | .obj C dx ns,vs=>.ins C dx (ns.zip vs)
 | .IJ ks,vs=>.dT (ks.zip vs)
noncomputable def NK.more:NK->List Addr
 | .obj _ dx _=>[dx]
 |_=>[]
def NK.side(k:NK)(a:Addr)(H:Hp):Prop:=match k with
 | .obj _ dx _=>H dx=some (.own a)
 |_=>True
def NK.fit(k:NK)(n:Nat):Prop:=match k with
 | .Ag ks=>ks.length=n
 | .obj _ _ ns=>ns.length=n
 | .IJ ks=>ks.length=n
 |_=>True
inductive OV where
 |fz (p:PV)
 |tp (xs:List OV)
 |nd (k:NK) (a:Addr) (xs:List OV)
variable{ts:List OV}
mutual
def OV.addrs:OV->List Addr
 | .fz _=>[]
 | .tp xs=>OV.AW xs
 | .nd k a xs=>a::(k.more++OV.AW xs)
def OV.AW:List OV->List Addr
 | []=>[]
 |x::r=>x.addrs++OV.AW r
end
mutual
def OV.pv:OV->PV
 | .fz p=>p
 | .tp xs=>.tup (OV.Ci xs)
 | .nd .lst _ xs=>.lst (OV.Ci xs)
 | .nd (.Ag ks) _ xs=>.Ag ks (OV.Ci xs)
 | .nd (.obj C _ ns) _ xs=>.obj C ns (OV.Ci xs)
 | .nd (.IJ _) a _=>.con a []
def OV.Ci:List OV->List PV
 | []=>[]
 |x::r=>x.pv::OV.Ci r
end
mutual
inductive Aj (F H:Hp):V->OV->Prop where
 |fz {v:V}{p:PV}:Rep F v p->Aj F H v (.fz p)
 |tp {a:Addr}{vs:List V}{xs:List OV}:F a=some (.tup vs)->Au F H vs xs->Aj F H (.ref a) (.tp xs)
 |nd {k:NK}{a:Addr}{vs:List V}{xs:List OV}:H a=some (k.ho vs)->k.side a H->k.fit vs.length->Au F H vs xs->Aj F H (.ref a) (.nd k a xs)
inductive Au (F H:Hp):List V->List OV->Prop where
 |nil:Au F H [] []
 |cons {v:V}{t:OV}{vs:List V}{ts:List OV}:Aj F H v t->Au F H vs ts->Au F H (v::vs) (t::ts)
end
def nY(F H:Hp)(v:V):OV->Prop
 | .fz p=>Rep F v p
 | .tp xs=>∃a vs,v=.ref a/\F a=some (.tup vs)/\Au F H vs xs
 | .nd k a xs=>∃vs,v=.ref a/\H a=some (k.ho vs)/\k.side a H/\k.fit vs.length/\Au F H vs xs
theorem Aj.inv{t:OV}(r:Aj F H v t):nY F H v t:=by
 cases r with
 |fz r=>exact r
 |tp h r=>exact⟨_,_,rfl,h,r⟩
 |nd h a b r=>exact⟨_,rfl,h,a,b,r⟩
theorem Au.inv{t:OV}(r:Au F H vs (t::ts)):∃v ws,vs=v::ws/\Aj F H v t/\Au F H ws ts:=by
 cases r with
 |cons r t=>exact⟨_,_,rfl,r,t⟩
theorem Au.D5(r:Au F H vs []):vs=[]:=by
 cases r;rfl
theorem OV.Ce{k:NK}{xs:List OV}:(OV.nd k a xs).addrs=a::(k.more++OV.AW xs):=by rw[OV.addrs]
theorem OV.G4{xs:List OV}:(OV.tp xs).addrs=OV.AW xs:=by rw[OV.addrs]
theorem OV.LG:(OV.fz p).addrs=[]:=by rw[OV.addrs]
theorem OV.Cr{x:OV}{r:List OV}:OV.AW (x::r)=x.addrs++OV.AW r:=by rw[OV.AW]
theorem OV.FP:OV.AW []=[]:=by rw[OV.AW]
theorem NK.ZG{k:NK}(h:k.side a H)(s:∀b∈k.more,∀o,H b=some o->H' b=some o):k.side a H':=by
 cases k with
 |obj C dx ns=>exact s dx (by simp[NK.more]) _ h
 |_=>trivial
theorem Aj.mono(f:AJ F F'){t:OV}(r:Aj F H v t):(∀a∈t.addrs,∀o,H a=some o->H' a=some o)->Aj F' H' v t:=
 Aj.rec (motive_1:=λv t _=>(∀a∈t.addrs,∀o,H a=some o->H' a=some o)->Aj F' H' v t) (motive_2:=λvs ts _=>(∀a∈OV.AW ts,∀o,H a=some o->H' a=some o)->Au F' H' vs ts)
  (λr _=>.fz (r.mono f))
  (λh _ i s=>.tp (f _ _ h) (i (by rw[OV.G4]at s;exact s)))
  (λh d g _ i s=>by
   rw[OV.Ce]at s;exact .nd (s _ ES _ h) (NK.ZG d λb e=>s b (DV _ (GB _ e))) g (i λa c=>s a (DV _ (FE _ c))))
  (λ_=>.nil)
  (λ_ _ i k s=>by
   rw[OV.Cr]at s;exact .cons (i λa c=>s a (GB _ c)) (k λa c=>s a (FE _ c)))
  r
theorem Au.mono(f:AJ F F')(r:Au F H vs ts)(s:∀a∈OV.AW ts,∀o,H a=some o->H' a=some o):Au F' H' vs ts:=by
 induction ts generalizing vs with
 |nil=>cases r.D5;exact .nil
 |cons p ps d=>
  obtain⟨v,ws,rfl,a,b⟩:=r.inv;rw[OV.Cr]at s;exact .cons (a.mono f λa c=>s a (GB _ c)) (d b λa c=>s a (FE _ c))
theorem Aj.there{t:OV}(r:Aj F H v t):∀a∈t.addrs,H a≠none:=
 Aj.rec (motive_1:=λv t _=>∀a∈t.addrs,H a≠none) (motive_2:=λvs ts _=>∀a∈OV.AW ts,H a≠none)
  (λ_ a c=>by rw[OV.LG]at c;cases c)
  (λ_ _ i a c=>i a (by rw[OV.G4]at c;exact c))
  (λ{k b vs xs}h d f _ i a c=>by
   rw[OV.Ce,L4,PJ]at c;rcases c with rfl|c|c
   .rw[h];exact λz=>by cases z
   .cases k with
    |obj C dx ns=>
     have e:a=dx:=List.mem_singleton.mp c;rw[e,show H dx=some (.own b)from d];exact λz=>by cases z
    |_=>cases c
   .exact i a c)
  (λa c=>by rw[OV.FP]at c;cases c)
  (λ_ _ i k a c=>by
   rw[OV.Cr,PJ]at c;exact c.elim (i a) (k a))
  r
theorem Au.there(r:Au F H vs ts):∀a∈OV.AW ts,H a≠none:=by
 induction ts generalizing vs with
 |nil=>intro a c;rw[OV.FP]at c;cases c
 |cons p ps d=>
  obtain⟨v,ws,rfl,x,b⟩:=r.inv;intro a c;rw[OV.Cr,PJ]at c;exact c.elim (x.there a) (d b a)
theorem Au.length{F H:Hp}{vs:List V}{ts:List OV}(r:Au F H vs ts):vs.length=ts.length:=by
 induction ts generalizing vs with
 |nil=>cases r.D5;rfl
 |cons p ps c=>obtain⟨v,ws,rfl,a,b⟩:=r.inv;exact k9 (· + 1) (c b)
inductive Slot where
 |any|is (p:PV)|own (xs:List PV)|AK|sq (tp:Bool) (xs:List PV)|raw (P:Hp->V->Prop)|ow (lt:Bool) (t:OV)
variable{ss:List Slot}{s:Slot}{QX nx:List Slot->Prop}
structure Ent0 where
 A:List Addr
 F0:Hp
 H0:Hp
 B:List Addr
variable{E:Ent0}
noncomputable abbrev E3(A:List Addr)(F H:Hp):Ent0:=⟨A,F,H,[]⟩
def Ok(E:Ent0)(F H:Hp):Slot->Option (Option V)->Prop
 | .any,_=>True
 | .is p,o=>∃v,o=some (some v)/\Rep F v p
 | .own xs,o=>∃l vs,o=some (some (.ref l))/\F l=none/\E.H0 l=none/\H l=some (.lst vs)/\AL F vs xs
 | .AK,o=>∃l,o=some (some (.ref l))/\F l=none/\(E.H0 l=none∨l∈E.A)/\BJ H l
 | .sq true xs,o=>∃v,o=some (some v)/\Rep F v (.tup xs)
 | .sq false xs,o=>∃l vs,o=some (some (.ref l))/\(l∉E.A/\l∉E.B)/\E.H0 l=some (.lst vs)/\AL F vs xs
 | .raw P,o=>∃v,o=some (some v)/\P F v/\∀F F',AJ F F'->P F v->P F' v
 | .ow lt t,o=>∃v,o=some (some v)/\Aj F H v t/\t.addrs.Nodup/\∀a∈t.addrs,F a=none/\(E.H0 a=none∨(lt=true/\a∈E.B))
def As:Slot->Option (Option V)->Addr->Prop
 | .own _,o,l=>o=some (some (.ref l))
 | .AK,o,l=>o=some (some (.ref l))
 | .ow _ t,_,l=>l∈t.addrs
 |_,_,_=>False
structure Fin (E:Ent0) (F H:Hp):Prop where
 fh:AJ F H
 f0:AJ E.F0 F
 keep:∀a o,(a∉E.A/\a∉E.B)->E.H0 a=some o->H a=some o
 fresh:∀a o,F a=some o->E.F0 a=some o∨E.H0 a=none
 G6:∀a,a∈E.A->BJ H a
 KA:∀a,a∈E.A->F a=none
 a0:∀a,a∈E.A->E.H0 a≠none
 bF:∀a,a∈E.B->F a=none
 bH:∀a,a∈E.B->H a≠none
 b0:∀a,a∈E.B->E.H0 a≠none/\a∉E.A
structure Sg (E:Ent0) (ss:List Slot) (Z:L2.St) (F H:Hp):Prop extends Fin E F H where
 len:ss.length=Z.length
 ok:∀(i:Nat)s,ss[i]?=some s->Ok E F H s Z[i]?
 Bg:∀(i j:Nat)s u l,i≠j->ss[i]?=some s->ss[j]?=some u->As s Z[i]? l->¬ As u Z[j]? l
structure Ex where
 C:Addr
 ns:List Str
 xs:List PV
def Ex.at(x:Ex)(F:Hp)(C:Value)(dx:Option Addr):Prop:=
 C=.ref x.C/\((x.ns=[]/\x.xs=[]/\dx=none)∨∃a vs,dx=some a/\F a=some (.xd (x.ns.zip vs))/\x.ns.length=vs.length/\AL F vs x.xs)
class Xw where
 e:L2.St->XK
 J:List Slot->Prop
 D:Ex->Prop
structure Ent [Xw] extends Ent0 where
 hx:∀(ss:List Slot)(Z:L2.St)(F H:Hp)(x:Ex)(C:Value)(dx:Option Addr),Xw.J ss->Sg toEnt0 ss Z F H->Xw.D x->x.at F C dx->Xw.e Z C dx H
instance [Xw]:CoeOut Ent Ent0:=⟨Ent.toEnt0⟩
noncomputable instance Xz:Xw:=⟨λ_=>E0,λ_=>True,λ_=>False⟩
def Bs(ss:List Slot)(Z:L2.St)(a:Addr):Prop:=∀i:Nat,ss[i]?=some .AK->Z[i]?≠some (some (.ref a))
structure Mv (E:Ent0) (ss:List Slot) (Z:L2.St) (F H F' H':Hp):Prop where
 st:Sg E ss Z F' H'
 ff:AJ F F'
 hh:∀a o,Bs ss Z a->H a=some o->H' a=some o
 nn:∀a o,F' a=some o->F a=some o∨H a=none
theorem Sg.He(S:Sg E ss Z F H)(h:H l=none):Bs ss Z l:=λi hi e=>by
 obtain⟨c,b,_,_,_,_,a,_⟩:=S.ok i _ hi;rw[e]at b;cases b;rw[h]at a;cases a
theorem Mv.none(m:Mv E ss Z F H F' H')(h:H' a=none):H a=none:=by
 cases e:H a with
 |none=>rfl
 |some o=>rw[m.hh a o (m.st.He h) e]at h;cases h
theorem Mv.refl(S:Sg E ss Z F H):Mv E ss Z F H F H:=⟨S,AJ.refl _,λ_ _ _ e=>e,λ_ _ e=>.inl e⟩
theorem Mv.trans{F1 H1 F2 H2:Hp}(a:Mv E ss Z F H F1 H1)(b:Mv E ss Z F1 H1 F2 H2):Mv E ss Z F H F2 H2:=
 ⟨b.st,a.ff.trans b.ff,λc o n e=>b.hh c o n (a.hh c o n e),λc o e=>(b.nn c o e).elim (λe=>a.nn c o e) λe=>.inr (a.none e)⟩
theorem Sg.CS(S:Sg E ss Z F H){p:Addr}(h:H p=none):E.H0 p=none:=by
 cases e:E.H0 p with
 |none=>rfl
 |some o=>
  by_cases q:p∈E.A
  .obtain⟨_,_,b,_⟩:=S.G6 p q;rw[h]at b;cases b
  .by_cases a:p∈E.B
   .exact absurd h (S.bH p a)
   .rw[S.keep p o ⟨q,a⟩ e]at h;cases h
theorem Sg.Bk(S:Sg E ss Z F H){p:Addr}(h:H p=none):F p=none:=AJ.none S.fh h
theorem BJ.keep(h:BJ H l)(k:∀o,H l=some o->H' l=some o):BJ H' l:=by
 obtain⟨a,b,e,r⟩:=h;exact⟨a,b,k _ e,r⟩
theorem Sg.Y7(S:Sg E ss Z F H)(h:F l=some o):Bs ss Z l:=λi hi e=>by
 obtain⟨c,b,a,_⟩:=S.ok i _ hi;rw[e]at b;cases b;rw[h]at a;cases a
theorem Sg.Xs(S:Sg E ss Z F H)(b:l∉E.A)(h:E.H0 l=some o):Bs ss Z l:=λi hi e=>by
 obtain⟨c,a,_,q,_⟩:=S.ok i _ hi;rw[e]at a;cases a;rcases q with q|q
 .rw[h]at q;cases q
 .exact b q
theorem Sg.zI(S:Sg E ss Z F H)(h:l∈E.B):Bs ss Z l:=λi hi e=>by
 obtain⟨d,a,_,q,_⟩:=S.ok i _ hi;rw[e]at a;cases a;obtain⟨c,b⟩:=S.b0 l h;rcases q with q|q
 .exact c q
 .exact b q
theorem Sg.Dj(S:Sg E ss Z F H)(h:ss[i]?=some s)(m:As s Z[i]? l):H l≠none:=by
 have k:=S.ok i s h;cases s with
 |own xs=>obtain⟨c,vs,a,_,_,b,_⟩:=k;rw[show Z[i]?=some (some (.ref l))from m]at a;cases a;rw[b];simp
 |AK=>obtain⟨c,a,_,_,_,_,b,_⟩:=k;rw[show Z[i]?=some (some (.ref l))from m]at a;cases a;rw[b];simp
 |ow lt t=>obtain⟨v,_,r,_⟩:=k;exact r.there l m
 |_=>cases m
theorem Sg.vJ(S:Sg E ss Z F H)(h:ss[i]?=some s)(m:As s Z[i]? l):F l=none:=by
 have k:=S.ok i s h;cases s with
 |own xs=>obtain⟨c,vs,a,b,_⟩:=k;rw[show Z[i]?=some (some (.ref l))from m]at a;cases a;exact b
 |AK=>obtain⟨c,a,b,_⟩:=k;rw[show Z[i]?=some (some (.ref l))from m]at a;cases a;exact b
 |ow lt t=>obtain⟨v,_,r,_,q⟩:=k;exact(q l m).1
 |_=>cases m
theorem Sg.HY(S:Sg E ss Z F H)(h:ss[i]?=some s)(a:H l=none):¬ As s Z[i]? l:=λm=>S.Dj h m a
theorem Sg.OM(S:Sg E ss Z F H)(h:ss[i]?=some s)(m:As s Z[i]? l)(np:s≠.AK):Bs ss Z l:=λj a b=>
 S.Bg i j s _ l (by rintro rfl;rw[h]at a;exact np (BH a)) h a m b
theorem Ok.go(S:Sg E ss Z F H){i:Nat}{s:Slot}(hi:ss[i]?=some s)(ff:AJ F F')(hk:∀a o,As s Z[i]? a->H a=some o->H' a=some o)(Bk:∀a,H a≠none->F a=none->F' a=none)(np:s≠.AK):Ok E F' H' s Z[i]?:=by
 have k:=S.ok i s hi;cases s with
 |any=>trivial
 |is p=>obtain⟨v,e,r⟩:=k;exact⟨v,e,r.mono ff⟩
 |own xs=>
  obtain⟨l,vs,e,d,c,f,r⟩:=k;exact⟨l,vs,e,Bk l (by rw[f];simp) d,c,hk l _ e f,r.mono ff⟩
 |AK=>exact absurd rfl np
 |sq tp xs=>
  cases tp with
  |true=>obtain⟨v,e,r⟩:=k;exact⟨v,e,r.mono ff⟩
  |false=>obtain⟨l,vs,e,d,c,r⟩:=k;exact⟨l,vs,e,d,c,r.mono ff⟩
 |raw P=>obtain⟨v,e,r,st⟩:=k;exact⟨v,e,st _ _ ff r,st⟩
 |ow lt t=>
  obtain⟨v,e,r,nd,q⟩:=k;exact⟨v,e,r.mono ff λa b o=>hk a o b,nd,λa b=>⟨Bk a (r.there a b) (q a b).1,(q a b).2⟩⟩
theorem Sg.step(S:Sg E ss Z F H)(ff:AJ F F')(fh:AJ F' H')(hk:∀a o,Bs ss Z a->H a=some o->H' a=some o)(d:∀a o,F' a=some o->F a=some o∨H a=none)
  (g:∀(i:Nat)l,ss[i]?=some .AK->Z[i]?=some (some (.ref l))->BJ H' l):Mv E ss Z F H F' H':=by
 have Bk:∀a,H a≠none->F a=none->F' a=none:=λa h1 h2=>by
  cases e:F' a with
  |none=>rfl
  |some o=>
   rcases d a o e with q|q
   .rw[h2]at q;cases q
   .exact absurd q h1
 have k:∀a,BJ H a->Bs ss Z a->BJ H' a:=λa p n=>BJ.keep p λo e=>hk a o n e;refine⟨⟨⟨fh,S.f0.trans ff,λa o b e=>?_,λa o e=>?_,λa b=>?_,λa b=>?_,S.a0,λa c=>Bk a (S.bH a c) (S.bF a c),λa c=>?_,S.b0⟩,S.len,λi s hi=>?_,S.Bg⟩,ff,hk,d⟩
 .exact hk a o (S.Xs b.1 e) (S.keep a o b e)
 .rcases d a o e with q|q
  .exact S.fresh a o q
  .exact .inr (S.CS q)
 .by_cases q:∃i:Nat,ss[i]?=some .AK/\Z[i]?=some (some (.ref a))
  .obtain⟨i,j,h⟩:=q;exact g i a j h
  .exact k a (S.G6 a b) λi h1 h2=>q ⟨i,h1,h2⟩
 .refine Bk a ?_ (S.KA a b);obtain⟨_,_,f,_⟩:=S.G6 a b;rw[f];simp
 .obtain⟨o,e⟩:=Option.ne_none_iff_exists'.mp (S.bH a c);rw[hk a o (S.zI c) e];simp
 .by_cases np:s=.AK
  .subst np;obtain⟨l,e,f,u,t⟩:=S.ok i _ hi;have v:=t;obtain⟨_,_,r,_⟩:=v;exact⟨l,e,Bk l (by rw[r];simp) f,u,g i l hi e⟩
  .exact Ok.go S hi ff (λa o m=>hk a o (S.OM hi m np)) Bk np
theorem Sg.E2(S:Sg E ss Z F H)(hi:ss[i]?=some .AK)(e:Z[i]?=some (some (.ref l))):BJ H l:=by
 obtain⟨b,a,_,_,p⟩:=S.ok i _ hi;rw[e]at a;cases a;exact p
theorem Sg.alloc(S:Sg E ss Z F H){p:Addr}(h:H p=none)(o:HO):Mv E ss Z F H (upd F p o) (upd H p o):=by
 refine S.step (DG (S.Bk h) _) (λa u e=>?_) (λa u _ e=>DG h o a u e) (λa u e=>?_) λi l hi e=>BJ.keep (S.E2 hi e) λu e=>DG h o l u e
 .by_cases q:a=p
  .subst q;rw[Al]at e ⊢;exact e
  .rw[AS q]at e ⊢;exact S.fh a u e
 .by_cases q:a=p
  .subst q;exact .inr h
  .rw[AS q]at e;exact .inl e
theorem Sg.make(S:Sg E ss Z F H){p:Addr}(h:H p=none)(o:HO):Mv E ss Z F H F (upd H p o):=
 S.step (AJ.refl _) (S.fh.trans (DG h o)) (λa u _ e=>DG h o a u e) (λa u e=>.inl e) λi l hi e=>BJ.keep (S.E2 hi e) λu e=>DG h o l u e
theorem Sg.grow(S:Sg E ss Z F H)(s:AJ H H'):Mv E ss Z F H F H':=
 S.step (AJ.refl _) (S.fh.trans s) (λa u _ e=>s a u e) (λa u e=>.inl e) λi l hi e=>BJ.keep (S.E2 hi e) λu e=>s l u e
theorem Sg.setG(S:Sg E ss Z F H)(AF:Ok E F H s (some (some v)))(e:∀l,As s (some (some v)) l->∀(i:Nat)u,i≠j->ss[i]?=some u->¬ As u Z[i]? l):Sg E (ss.set j s) (Z.set j (some v)) F H:=by
 refine⟨S.toFin,by rw[Ik,Ik];exact S.len,λi u hi=>?_,λi k u w l MF hi hk c b=>?_⟩
 .by_cases q:i=j
  .subst q;have a:i<ss.length:=by have:=(List.getElem?_eq_some_iff.mp hi).1;simpa using this
   rw[CL a]at hi;cases hi;rw[CL (by rw[<- S.len];exact a)];exact AF
  .rw[C0 (B5 q)]at hi ⊢;exact S.ok i u hi
 .by_cases q:i=j
  .subst q;have a:i<ss.length:=by have:=(List.getElem?_eq_some_iff.mp hi).1;simpa using this
   rw[CL a]at hi;rw[CL (by rw[<- S.len];exact a)]at c;cases hi;rw[C0 MF]at hk b;exact e l c k w (B5 MF) hk b
  .rw[C0 (B5 q)]at hi c
   by_cases d:k=j
   .subst d;have a:k<ss.length:=by have:=(List.getElem?_eq_some_iff.mp hk).1;simpa using this
    rw[CL a]at hk;cases hk;rw[CL (by rw[<- S.len];exact a)]at b;exact e l b i u MF hi c
   .rw[C0 (B5 d)]at hk b;exact S.Bg i k u w l MF hi hk c b
theorem Sg.ED(S:Sg E ss Z F H)(r:Rep F v p):Sg E (ss.set j (.is p)) (Z.set j (some v)) F H:=S.setG ⟨v,rfl,r⟩ λ_ h=>by cases h
def Sv(ss:List Slot)(Z:L2.St)(F H:Hp)(v:V):Bool->List PV->Prop
 |true,xs=>Rep F v (.tup xs)
 |false,xs=>∃l vs,v=.ref l/\Bs ss Z l/\H l=some (.lst vs)/\AL F vs xs
def Fv(E:Ent0)(F:Hp)(v:V):Bool->List PV->Prop
 |true,xs=>Rep F v (.tup xs)
 |false,xs=>∃l vs,v=.ref l/\(F l=some (.lst vs)∨((l∉E.A/\l∉E.B)/\E.H0 l=some (.lst vs)))/\AL F vs xs
structure Wp [Xw] (ss:List Slot) (t:TE) (k:PV->Prop):Prop where
 go:∀(E:Ent)(Z:L2.St)(F H:Hp)(Q:VK),Sg E ss Z F H->(∀v p F' H',Mv E ss Z F H F' H'->Rep F' v p->k p->Q v H')->t Z H Q
structure Wn [Xw] (ss:List Slot) (t:TE) (k:List PV->Prop):Prop where
 go:∀(E:Ent)(Z:L2.St)(F H:Hp)(Q:VK),Sg E ss Z F H->(∀l vs xs F' H',Mv E ss Z F H F' H'->F' l=none->H l=none->H' l=some (.lst vs)->AL F' vs xs->k xs->Q (.ref l) H')->t Z H Q
structure Wq [Xw] (ss:List Slot) (t:TE) (k:Bool->List PV->Prop):Prop where
 go:∀(E:Ent)(Z:L2.St)(F H:Hp)(Q:VK),Sg E ss Z F H->(∀v tp xs F' H',Mv E ss Z F H F' H'->Sv ss Z F' H' v tp xs->k tp xs->Q v H')->t Z H Q
structure Wz [Xw] (ss:List Slot) (t:TE) (k:Bool->List PV->Prop):Prop where
 go:∀(E:Ent)(Z:L2.St)(F H:Hp)(Q:VK),Sg E ss Z F H->(∀v tp xs F' H',Mv E ss Z F H F' H'->Fv E F' v tp xs->k tp xs->Q v H')->t Z H Q
structure Wt [Xw] (ss:List Slot) (t:TT) (k:Bool->Prop):Prop where
 go:∀(E:Ent)(Z:L2.St)(F H:Hp)(Q:Bool->Hp->Prop),Sg E ss Z F H->(∀b F' H',Mv E ss Z F H F' H'->k b->Q b H')->t Z H Q
def Av(ss:List Slot)(Z:L2.St)(F H:Hp)(v:V):Slot->Prop
 | .is p=>Rep F v p
 | .sq tp xs=>Sv ss Z F H v tp xs
 | .raw P=>P F v/\∀F F',AJ F F'->P F v->P F' v
 |_=>False
inductive FK (ss:List Slot) (Z:L2.St) (F H:Hp):List V->List Slot->Prop where
 |nil:FK ss Z F H [] []
 |cons {v:V}{s:Slot}{vs:List V}{l:List Slot}:Av ss Z F H v s->FK ss Z F H vs l->FK ss Z F H (v::vs) (s::l)
structure Wa [Xw] (ss:List Slot) (t:TA) (k:List Slot->Prop):Prop where
 go:∀(E:Ent)(Z:L2.St)(F H:Hp)(Q:List V->Hp->Prop),Sg E ss Z F H->(∀vs l F' H',Mv E ss Z F H F' H'->FK ss Z F' H' vs l->k l->Q vs H')->t Z H Q
inductive Aa where
 |is (k:PV->Prop)|new (k:List PV->Prop)|AK|ow (k:OV->Prop)|mt (k:PV->OV->Prop)|vS (k:PV->OV->OV->Prop)
noncomputable def OV.val:OV->V
 | .nd _ a _=>.ref a
 |_=>.A9
def Aa.ok(R:Aa)(E:Ent0)(F' H':Hp)(v:V):Prop:=match R with
 | .is k=>∃p,Rep F' v p/\k p
 | .new k=>∃l vs xs,v=.ref l/\F' l=none/\E.H0 l=none/\H' l=some (.lst vs)/\AL F' vs xs/\k xs
 | .AK=>∃l,v=.ref l/\F' l=none/\E.H0 l=none/\BJ H' l
 | .ow k=>∃t,Aj F' H' v t/\t.addrs.Nodup/\(∀a∈t.addrs,F' a=none/\E.H0 a=none)/\k t
 | .mt k=>∃p t,Rep F' v p/\Aj F' H' t.val t/\t.addrs.Nodup/\(∀a∈t.addrs,F' a=none/\(E.H0 a=none∨a∈E.B))/\k p t
 | .vS k=>∃p t u,Rep F' v p/\Aj F' H' t.val t/\Aj F' H' u.val u/\(t.addrs++u.addrs).Nodup/\(∀a∈t.addrs++u.addrs,F' a=none/\(E.H0 a=none∨a∈E.B))/\k p t u
structure Ws [Xw] (ss:List Slot) (t:TS) (nx:List Slot->Prop) (R:Aa):Prop where
 go:∀(E:Ent)(D:Ends)(Z:L2.St)(F H:Hp),Sg E ss Z F H->(∀A7 σ' F' H',nx A7->Sg E A7 σ' F' H'->AJ F F'->D.nx σ' H')->(∀v F' H',Fin E F' H'->R.ok E F' H' v->D.rt v H')->t D Z H
section
variable[Xw]
variable{K:ZBc}{tb:TE}{k:PV->Prop}{R:Aa}
theorem Sv.mv(h:Sv ss Z F H v tp xs)(m:Mv E ss Z F H F' H'):Sv ss Z F' H' v tp xs:=by
 cases tp with
 |true=>exact Rep.mono m.ff h
 |false=>
  obtain⟨l,vs,e,n,r,q⟩:=h;exact⟨l,vs,e,n,m.hh l _ n r,q.mono m.ff⟩
theorem Sv.seq(S:Sg E ss Z F H)(h:Sv ss Z F H v tp xs):∃l vs,v=.ref l/\H l=some (FZ tp vs)/\AL F vs xs:=by
 cases tp with
 |true=>cases h with|tup e r=>exact⟨_,_,rfl,S.fh _ _ e,r⟩
 |false=>obtain⟨l,vs,e,_,r,q⟩:=h;exact⟨l,vs,e,r,q⟩
theorem Fv.sv(S:Sg E ss Z F H)(h:Fv E F v tp xs):Sv ss Z F H v tp xs:=by
 cases tp with
 |true=>exact h
 |false=>
  obtain⟨l,vs,e,h1|⟨a,h1⟩,r⟩:=h
  .exact⟨l,vs,e,S.Y7 h1,S.fh _ _ h1,r⟩
  .exact⟨l,vs,e,S.Xs a.1 h1,S.keep _ _ a h1,r⟩
theorem Wp.mono{a:PV->Prop}(h:Wp ss te k)(i:∀p,k p->a p):Wp ss te a:=⟨λE Z F H Q S q=>h.go E Z F H Q S λv p F' H' m r kk=>q v p F' H' m r (i p kk)⟩
theorem A1(h:ss[i]?=some (.is p))(hk:k p):Wp ss (Ap i) k:=⟨λE Z F H Q S q=>by
 obtain⟨v,a,r⟩:=S.ok i _ h;exact⟨v,a,q v p F H (.refl S) r hk⟩⟩
theorem AZ{i:Int}(hk:k (.int i)):Wp ss (tC (.int i)) k:=⟨λE Z F H Q S q=>q _ _ F H (.refl S) (.int i) hk⟩
theorem CT{x:Str}(hk:k (.str x)):Wp ss (tC (.str x)) k:=⟨λE Z F H Q S q=>q _ _ F H (.refl S) (.str x) hk⟩
theorem ME(hk:k (.bl b)):Wp ss (tC (.bl b)) k:=⟨λE Z F H Q S q=>q _ _ F H (.refl S) (.bl b) hk⟩
theorem EC(hk:k .A9):Wp ss (tC .A9) k:=⟨λE Z F H Q S q=>q _ _ F H (.refl S) .A9 hk⟩
theorem BM(h:Wn ss te (λxs=>k (.lst xs))):Wp ss te k:=⟨λE Z F H Q S q=>h.go E Z F H Q S λl vs xs F' H' m c f FR r kk=>by
 have b:=m.st;have fr:Mv E ss Z F H (upd F' l (.lst vs)) H':=by
  have A:∀a,H' a≠none->a≠l->F' a=none->upd F' l (.lst vs) a=none:=λa _ h1 h2=>by rw[AS h1];exact h2
  refine⟨⟨⟨λa u e=>?_,b.f0.trans (DG c _),b.keep,λa u e=>?_,b.G6,λa z=>?_,b.a0,λa y=>?_,b.bH,b.b0⟩,b.len,λi s hi=>?_,b.Bg⟩,m.ff.trans (DG c _),m.hh,λa u e=>?_⟩
  .by_cases q:a=l
   .subst q;rw[Al]at e;rw[<- e];exact FR
   .rw[AS q]at e;exact b.fh a u e
  .by_cases q:a=l
   .subst q;exact .inr (S.CS f)
   .rw[AS q]at e;exact b.fresh a u e
  .by_cases q:a=l
   .subst q;obtain⟨_,_,e,_⟩:=S.G6 _ z;rw[f]at e;cases e
   .rw[AS q];exact b.KA a z
  .by_cases q:a=l
   .subst q;exact absurd f (S.bH _ y)
   .rw[AS q];exact b.bF a y
  .have x:∀a,As s Z[i]? a->a≠l:=by
    rintro a m rfl;exact S.HY hi f m
   have kk:=b.ok i s hi;cases s with
   |any=>trivial
   |is p=>obtain⟨v,e,r⟩:=kk;exact⟨v,e,r.mono (DG c _)⟩
   |own ys=>
    obtain⟨d,ws,e,j,g,w,r⟩:=kk;exact⟨d,ws,e,by rw[AS (x d e)];exact j,g,w,r.mono (DG c _)⟩
   |AK=>
    obtain⟨d,e,j,g,w⟩:=kk;exact⟨d,e,by rw[AS (x d e)];exact j,g,w⟩
   |sq tp ys=>
    cases tp with
    |true=>obtain⟨v,e,r⟩:=kk;exact⟨v,e,r.mono (DG c _)⟩
    |false=>obtain⟨d,ws,e,j,g,r⟩:=kk;exact⟨d,ws,e,j,g,r.mono (DG c _)⟩
   |raw P=>obtain⟨v,e,r,st⟩:=kk;exact⟨v,e,st _ _ (DG c _) r,st⟩
   |ow lt t=>
    obtain⟨v,e,r,nd,q⟩:=kk;exact⟨v,e,r.mono (DG c _) λa _ o h=>h,nd,λa n=>⟨by rw[AS (x a n)];exact(q a n).1,(q a n).2⟩⟩
  .by_cases q:a=l
   .subst q;exact .inr f
   .rw[AS q]at e;exact m.nn a u e
 exact q _ _ _ _ fr (.lst Al (r.mono (DG c _))) kk⟩
theorem C8{k:Bool->List PV->Prop}(h:Wp ss te (λp=>∃xs,(p=.lst xs/\k false xs)∨(p=.tup xs/\k true xs))):Wq ss te k:=⟨λE Z F H Q S q=>h.go E Z F H Q S λv p F' H' m r AD=>by
 obtain⟨xs,h⟩:=AD;rcases h with⟨rfl,kk⟩|⟨rfl,kk⟩
 .cases r with|lst h r=>exact q _ false xs F' H' m ⟨_,_,rfl,m.st.Y7 h,m.st.fh _ _ h,r⟩ kk
 .exact q v true xs F' H' m r kk⟩
theorem Ct{k:Bool->List PV->Prop}(h:ss[i]?=some (.is (.lst xs)))(hk:k false xs):Wq ss (Ap i) k:=C8 (A1 h ⟨xs,.inl ⟨rfl,hk⟩⟩)
theorem CK{k:Bool->List PV->Prop}(h:ss[i]?=some (.is (.tup xs)))(hk:k true xs):Wq ss (Ap i) k:=C8 (A1 h ⟨xs,.inr ⟨rfl,hk⟩⟩)
theorem MU{k:Bool->List PV->Prop}(h:ss[i]?=some (.own xs))(hk:k false xs):Wq ss (Ap i) k:=⟨λE Z F H Q S q=>by
 obtain⟨l,vs,e,c,b,a,r⟩:=S.ok i _ h;exact⟨_,e,q _ false xs F H (.refl S) ⟨l,vs,rfl,S.OM h e (by simp),a,r⟩ hk⟩⟩
theorem WB{k:Bool->List PV->Prop}(h:ss[i]?=some (.sq tp xs))(hk:k tp xs):Wz ss (Ap i) k:=⟨λE Z F H Q S q=>by
 have kk:=S.ok i _ h;cases tp with
 |true=>obtain⟨v,e,r⟩:=kk;exact⟨_,e,q _ true xs F H (.refl S) r hk⟩
 |false=>
  obtain⟨l,vs,e,a,b,r⟩:=kk;exact⟨_,e,q _ false xs F H (.refl S) ⟨l,vs,rfl,.inr ⟨a,b⟩,r⟩ hk⟩⟩
theorem C6{k:Bool->List PV->Prop}(h:Wp ss te (λp=>∃xs,(p=.lst xs/\k false xs)∨(p=.tup xs/\k true xs))):Wz ss te k:=⟨λE Z F H Q S q=>h.go E Z F H Q S λv p F' H' m r AD=>by
 obtain⟨xs,h⟩:=AD;rcases h with⟨rfl,kk⟩|⟨rfl,kk⟩
 .cases r with|lst h r=>exact q _ false xs F' H' m ⟨_,_,rfl,.inl h,r⟩ kk
 .exact q _ true xs F' H' m r kk⟩
theorem iU{k:Bool->List PV->Prop}(h:Wz ss te k):Wq ss te k:=⟨λE Z F H Q S q=>h.go E Z F H Q S λv tp xs F' H' m f kk=>q v tp xs F' H' m (f.sv m.st) kk⟩
theorem LJ{k:Bool->List PV->Prop}(h:ss[i]?=some (.sq tp xs))(hk:k tp xs):Wq ss (Ap i) k:=iU (WB h hk)
theorem VT{C:Int->Int->Prop}(h:Wp ss ta λx=>∃i,x=.int i/\Wp ss tb λy=>∃j,y=.int j/\C i j/\k (.int (f i j))):Wp ss (BU (rI C λi j=>.int (f i j)) ta tb) k:=⟨λE Z F H Q S q=>
 h.go E Z F H _ S λv p F1 H1 a d AD=>by
  obtain⟨i,l,h2⟩:=AD;subst l;cases d.inv;exact h2.go E Z F1 H1 _ a.st λm p2 F2 H2 e b Cn=>by
   obtain⟨j,g,c,kk⟩:=Cn;subst g;cases b.inv;exact⟨i,j,rfl,rfl,c,q _ _ F2 H2 (a.trans e) (.int _) kk⟩⟩
theorem FT(h:Wp ss ta λx=>∃i,x=.int i/\Wp ss tb λy=>∃j,y=.int j/\k (.int (f i j))):Wp ss (BU (Fl λi j=>.int (f i j)) ta tb) k:=⟨λE Z F H Q S q=>
 h.go E Z F H _ S λv p F1 H1 a c AD=>by
  obtain⟨i,g,h2⟩:=AD;subst g;cases c.inv;exact h2.go E Z F1 H1 _ a.st λl p2 F2 H2 d b Cn=>by
   obtain⟨j,e,kk⟩:=Cn;subst e;cases b.inv;exact⟨i,j,rfl,rfl,q _ _ F2 H2 (a.trans d) (.int _) kk⟩⟩
theorem Ol{f:Int->Int->Bool}(h:Wp ss ta λx=>∃i,x=.int i/\Wp ss tb λy=>∃j,y=.int j/\k (.bl (f i j))):Wp ss (BU (Fl λi j=>.bl (f i j)) ta tb) k:=⟨λE Z F H Q S q=>
 h.go E Z F H _ S λv p F1 H1 a c AD=>by
  obtain⟨i,g,h2⟩:=AD;subst g;cases c.inv;exact h2.go E Z F1 H1 _ a.st λl p2 F2 H2 d b Cn=>by
   obtain⟨j,e,kk⟩:=Cn;subst e;cases b.inv;exact⟨i,j,rfl,rfl,q _ _ F2 H2 (a.trans d) (.bl _) kk⟩⟩
theorem SA{f:Int->Int}(h:Wp ss ta λx=>∃i,x=.int i/\k (.int (f i))):Wp ss (RF (rU λi=>.int (f i)) ta) k:=⟨λE Z F H Q S q=>
 h.go E Z F H _ S λv p F1 H1 b a AD=>by
  obtain⟨i,c,kk⟩:=AD;subst c;cases a.inv;exact⟨i,rfl,q _ _ F1 H1 b (.int _) kk⟩⟩
noncomputable def alike:PV->PV->Bool
 | .int i,.int j=>decide (i=j)
 | .str i,.str j=>decide (i=j)
 | .bl i,.bl j=>decide (i=j)
 | .A9,.A9=>true
 |_,_=>false
def Ko(p q:PV):Bool:=flat p && flat q && VF (Fz.enc p) (Fz.enc q)
theorem Ys{q:PV}(h:Ko p q=true):decide (Fz.enc p=Fz.enc q)=alike p q:=by
 unfold Ko at h;rw[EO,EO]at h;obtain⟨⟨h1,h2⟩,a⟩:=h;cases p <;> first|exact Bool.noConfusion h1|skip
 all_goals cases q <;> first|exact Bool.noConfusion h2|exact Bool.noConfusion a|rfl|exact decide_eq_decide.mpr ⟨λe=>by injection e,k9 _⟩
theorem Cj(h:Wp ss ta λx=>Wp ss tb λy=>Ko x y=true/\k (.bl (alike x y))):Wp ss (BU eV ta tb) k:=⟨λE Z F H Q S q=>
 h.go E Z F H _ S λv p F1 H1 a c h2=>h2.go E Z F1 H1 _ a.st λf p2 F2 H2 d b AD=>by
  obtain⟨sc,kk⟩:=AD;have e:=sc;unfold Ko at sc;rw[EO,EO]at sc;rw[c.enc sc.1.1,b.enc sc.1.2];refine⟨sc.2,?_⟩;rw[Ys e];exact q _ _ F2 H2 (a.trans d) (.bl _) kk⟩
theorem gd(h:Wp ss ta λx=>Wp ss tb λy=>Ko x y=true/\k (.bl (!alike x y))):Wp ss (BU gU ta tb) k:=⟨λE Z F H Q S q=>
 h.go E Z F H _ S λv p F1 H1 a c h2=>h2.go E Z F1 H1 _ a.st λf p2 F2 H2 d b AD=>by
  obtain⟨sc,kk⟩:=AD;have e:=sc;unfold Ko at sc;rw[EO,EO]at sc;rw[c.enc sc.1.1,b.enc sc.1.2];refine⟨sc.2,?_⟩;rw[Ys e];exact q _ _ F2 H2 (a.trans d) (.bl _) kk⟩
theorem TH(h:Wp ss ta λx=>∃c,x=.bl c/\if c=true then Wp ss tb k else k (.bl false)):Wp ss (Uq ta tb) k:=⟨λE Z F H Q S q=>
 h.go E Z F H _ S λv p F1 H1 a d AD=>by
  obtain⟨c,e,h2⟩:=AD;subst e;cases d.inv;refine⟨c,rfl,?_⟩;cases c with
  |true=>rw[ir rfl]at h2 ⊢;exact h2.go E Z F1 H1 _ a.st λg p2 F2 H2 f b kk=>q _ _ F2 H2 (a.trans f) b kk
  |false=>rw[ib (by decide)]at h2 ⊢;exact q _ _ F1 H1 a (.bl _) h2⟩
theorem kK{t:TT}(h:Wt ss t λc=>if c=true then Wp ss ta k else Wp ss tb k):Wp ss (Vf t ta tb) k:=⟨λE Z F H Q S q=>
 h.go E Z F H _ S λc F1 H1 a h2=>by
  show if c=true then _ else _
  cases c with
  |true=>rw[ir rfl]at h2 ⊢;exact h2.go E Z F1 H1 _ a.st λe p2 F2 H2 d b kk=>q _ _ F2 H2 (a.trans d) b kk
  |false=>rw[ib (by decide)]at h2 ⊢;exact h2.go E Z F1 H1 _ a.st λe p2 F2 H2 d b kk=>q _ _ F2 H2 (a.trans d) b kk⟩
theorem bG{f g:Int->Int->Bool}(h:Wp ss ta λx=>∃i,x=.int i/\Wp ss tb λy=>∃j,y=.int j/\if f i j=true then Wp ss tc (λz=>∃l,z=.int l/\k (.bl (g j l)))else k (.bl false)):
  Wp ss (Ov (Fl λi j=>.bl (f i j)) (Fl λi j=>.bl (g i j)) ta tb tc) k:=⟨λE Z F H Q S q=>
 h.go E Z F H _ S λv p F1 H1 d n AD=>by
  obtain⟨i,t,h2⟩:=AD;subst t;cases n.inv;exact h2.go E Z F1 H1 _ d.st λw p2 F2 H2 b m Cn=>by
   obtain⟨j,s,a⟩:=Cn;subst s;cases m.inv;refine⟨i,j,rfl,rfl,f i j,rfl,?_⟩;cases c:f i j with
   |true=>
    rw[c,ir rfl]at a;rw[ir rfl];exact a.go E Z F2 H2 _ b.st λu A F3 H3 o e WZ=>by
     obtain⟨l,r,kk⟩:=WZ;subst r;cases e.inv;exact⟨j,l,rfl,rfl,q _ _ F3 H3 (d.trans (b.trans o)) (.bl _) kk⟩
   |false=>
    rw[c,ib (by decide)]at a;rw[ib (by decide)];exact q _ _ F2 H2 (d.trans b) (.bl _) a⟩
theorem Az{k:Bool->Prop}(h:Wp ss te λx=>∃c,x=.bl c/\k c):Wt ss (Km te) k:=⟨λE Z F H Q S q=>
 h.go E Z F H _ S λv p F1 H1 b a AD=>by obtain⟨c,e,kk⟩:=AD;subst e;cases a.inv;exact⟨c,rfl,q _ F1 H1 b kk⟩⟩
theorem HG{k:Bool->Prop}(h:Wp ss te λx=>∃c,x=.bl c/\k c):Wt ss (tB te) k:=⟨λE Z F H Q S q=>
 h.go E Z F H _ S λv p F1 H1 b a AD=>by obtain⟨c,e,kk⟩:=AD;subst e;cases a.inv;exact⟨c,rfl,q _ F1 H1 b kk⟩⟩
theorem FN{k:Bool->Prop}(h:k true):Wt ss ML k:=⟨λE Z F H Q S q=>q _ F H (.refl S) h⟩
theorem Q3{t:TT}{k:Bool->Prop}(h:Wt ss t λc=>k (!c)):Wt ss (XJ t) k:=⟨λE Z F H Q S q=>h.go E Z F H _ S λc F1 H1 a kk=>q _ F1 H1 a kk⟩
theorem KS{t u:TT}{k:Bool->Prop}(h:Wt ss t λc=>if c=true then Wt ss u k else k false):Wt ss (Wf t u) k:=⟨λE Z F H Q S q=>
 h.go E Z F H _ S λc F1 H1 a h2=>by
  show if c=true then _ else _
  cases c with
  |true=>rw[ir rfl]at h2 ⊢;exact h2.go E Z F1 H1 _ a.st λd F2 H2 b kk=>q _ F2 H2 (a.trans b) kk
  |false=>rw[ib (by decide)]at h2 ⊢;exact q _ F1 H1 a h2⟩
theorem Uz{t u:TT}{k:Bool->Prop}(h:Wt ss t λc=>if c=true then k true else Wt ss u k):Wt ss (Rz t u) k:=⟨λE Z F H Q S q=>
 h.go E Z F H _ S λc F1 H1 a h2=>by
  show if c=true then _ else _
  cases c with
  |true=>rw[ir rfl]at h2 ⊢;exact q _ F1 H1 a h2
  |false=>rw[ib (by decide)]at h2 ⊢;exact h2.go E Z F1 H1 _ a.st λd F2 H2 b kk=>q _ F2 H2 (a.trans b) kk⟩
end
structure We [Xw] (ss:List Slot) (t:TA) (k:List PV->Prop):Prop where
 go:∀(E:Ent)(Z:L2.St)(F H:Hp)(Q:List V->Hp->Prop),Sg E ss Z F H->(∀vs ps F' H',Mv E ss Z F H F' H'->AL F' vs ps->k ps->Q vs H')->t Z H Q
structure Wo [Xw] (ss:List Slot) (t:TO) (k:Option Int->Prop):Prop where
 go:∀(E:Ent)(Z:L2.St)(F H:Hp)(Q:Option Int->Hp->Prop),Sg E ss Z F H->(∀o F' H',Mv E ss Z F H F' H'->k o->Q o H')->t Z H Q
section
variable[Xw]
variable{K:ZBc}{tb:TE}{k:PV->Prop}{R:Aa}
theorem Ck{k:List PV->Prop}(h:k []):We ss B3 k:=⟨λE Z F H Q S q=>q _ _ F H (.refl S) .nil h⟩
theorem Bb{k:List PV->Prop}{t:TA}(h:Wp ss te λp=>We ss t λps=>k (p::ps)):We ss (AU te t) k:=⟨λE Z F H Q S q=>
 h.go E Z F H _ S λv p F1 H1 b d h2=>h2.go E Z F1 H1 _ b.st λvs ps F2 H2 a c kk=>q _ _ F2 H2 (b.trans a) (.cons (d.mono a.ff) c) kk⟩
theorem BQ{k:List Slot->Prop}(h:k []):Wa ss B3 k:=⟨λE Z F H Q S q=>q _ _ F H (.refl S) .nil h⟩
theorem AV{k:List Slot->Prop}{t:TA}(h:Wp ss te λp=>Wa ss t λl=>k (.is p::l)):Wa ss (AU te t) k:=⟨λE Z F H Q S q=>
 h.go E Z F H _ S λv p F1 H1 b d h2=>h2.go E Z F1 H1 _ b.st λvs l F2 H2 a c kk=>q _ _ F2 H2 (b.trans a) (.cons (s:=.is p) (d.mono a.ff) c) kk⟩
theorem GI{k:List Slot->Prop}{t:TA}(h:Wq ss te λtp xs=>Wa ss t λl=>k (.sq tp xs::l)):Wa ss (AU te t) k:=⟨λE Z F H Q S q=>
 h.go E Z F H _ S λv tp xs F1 H1 b d h2=>h2.go E Z F1 H1 _ b.st λvs l F2 H2 a c kk=>q _ _ F2 H2 (b.trans a) (.cons (s:=.sq tp xs) (d.mv a) c) kk⟩
theorem Vh{k:Option Int->Prop}(h:k none):Wo ss W0 k:=⟨λE Z F H Q S q=>q _ F H (.refl S) h⟩
theorem RL{k:Option Int->Prop}(h:Wp ss te λp=>∃i,p=.int i/\k (some i)):Wo ss (W6 te) k:=⟨λE Z F H Q S q=>
 h.go E Z F H _ S λv p F1 H1 b a AD=>by obtain⟨i,e,kk⟩:=AD;subst e;cases a.inv;exact⟨i,rfl,q _ F1 H1 b kk⟩⟩
theorem Gi{n:Nat}(h:n<=99999):n<sizeLine:=DC (Nat.lt_succ_of_le h) (small (Ae 100000))
theorem DX{t:TA}(h:We ss t λps=>ps.length<=100000/\k (.tup ps)):Wp ss (RK t) k:=⟨λE Z F H Q S q=>
 h.go E Z F H _ S λvs ps F1 H1 d b AD=>by obtain⟨e,kk⟩:=AD;exact⟨small (by rw[b.length];exact e),λa f=>by
  have c:=d.st.alloc f (.tup vs);exact q _ _ _ _ (d.trans c) (.tup Al (b.mono c.ff)) kk⟩⟩
theorem Iv{t:TA}{k:List PV->Prop}(h:We ss t λps=>ps.length<=100000/\k ps):Wn ss (VY t) k:=⟨λE Z F H Q S q=>
 h.go E Z F H _ S λvs ps F1 H1 b d AD=>by obtain⟨g,kk⟩:=AD;exact⟨small (by rw[d.length];exact g),λa c=>by
  have f:=b.st.make c (.lst vs);refine q a vs ps F1 _ (b.trans f) (b.st.Bk c) ?_ Al d kk;cases e:H a with
  |none=>rfl
  |some o=>rw[b.hh a o (b.st.He c) e]at c;cases c⟩⟩
theorem YW(h:Wq ss te λ_ xs=>k (.int xs.length)):Wp ss (Dm (Q4 K) (AU te B3)) k:=⟨λE Z F H Q S q=>
 h.go E Z F H _ S λv tp xs F1 H1 a sv kk=>by
  obtain⟨l,vs,rfl,b,r⟩:=sv.seq a.st;refine⟨l,vs,rfl,(FZ.sq (K:=K) b).or,?_⟩;rw[r.length];exact q _ _ F1 H1 a (.int _) kk⟩
theorem AL.Bm{i:Int}(r:AL F vs xs)(h:L2.Bm xs i=some p):∃u,L2.Bm vs i=some u/\Rep F u p:=by
 unfold L2.Bm at h ⊢;rw[r.length];cases e:HD xs.length i with
 |none=>rw[e]at h;cases h
 |some j=>
  rw[e]at h;exact r.get h
theorem Hy(h:Wq ss ta λtp xs=>tp=false/\Wp ss tb λy=>∃i p,y=.int i/\L2.Bm xs i=some p/\k p):Wp ss (BU (Iw K) ta tb) k:=⟨λE Z F H Q S q=>
 h.go E Z F H _ S λv tp xs F1 H1 b sv⟨m,h2⟩=>h2.go E Z F1 H1 _ b.st λn p2 F2 H2 a d⟨i,p,e,j,kk⟩=>by
  subst e;cases d.inv;subst m;obtain⟨l,vs,rfl,g,r⟩:=(sv.mv a).seq a.st;obtain⟨u,f,c⟩:=r.Bm j;exact⟨l,vs,i,u,rfl,rfl,AQ.of g,f,q _ _ F2 H2 (b.trans a) c kk⟩⟩
theorem CN(h:Wq ss ta λtp xs=>tp=true/\Wp ss tb λy=>∃i p,y=.int i/\L2.Bm xs i=some p/\k p):Wp ss (BU (DA K) ta tb) k:=⟨λE Z F H Q S q=>
 h.go E Z F H _ S λv tp xs F1 H1 b sv⟨m,h2⟩=>h2.go E Z F1 H1 _ b.st λn p2 F2 H2 a d⟨i,p,e,j,kk⟩=>by
  subst e;cases d.inv;subst m;obtain⟨l,vs,rfl,g,r⟩:=(sv.mv a).seq a.st;obtain⟨u,f,c⟩:=r.Bm j;exact⟨l,vs,i,u,rfl,rfl,BC.of g,f,q _ _ F2 H2 (b.trans a) c kk⟩⟩
theorem gD(h:Wp ss ta λp=>∃x,p=.str x/\Wq ss tb λ_ ys=>∃ns:List Str,ys=ns.map PV.str/\k (.bl (if neg then !decide (x∈ns)else decide (x∈ns)))):Wp ss (BU (IQ K neg) ta tb) k:=⟨λE Z F H Q S q=>
 h.go E Z F H _ S λv p F1 H1 b d AD=>by
  obtain⟨x,e,h2⟩:=AD;subst e;cases d.inv;exact h2.go E Z F1 H1 _ b.st λg tp ys F2 H2 a sv Cn=>by
   obtain⟨ns,f,kk⟩:=Cn;subst f;obtain⟨l,vs,rfl,c,r⟩:=sv.seq a.st;rw[r.strs]at c;refine⟨l,_,rfl,(FZ.sq (K:=K) c).or,rfl,KZ ns,?_⟩;rw[VI];exact q _ _ F2 H2 (b.trans a) (.bl _) kk⟩
theorem RN{k:List PV->Prop}(e:r=λxs H Q=>∃p ys,xs=[.ref p]/\(AQ K H p ys∨BC K H p ys)/\∀l,H l=none->Q (.ref l) (upd H l (.lst ys)))(h:Wq ss te λ_ xs=>k xs):Wn ss (Dm r (AU te B3)) k:=⟨λE Z F H Q S q=>
 h.go E Z F H _ S λv tp xs F1 H1 b sv kk=>by
  subst e;obtain⟨l,vs,rfl,f,r⟩:=sv.seq b.st;refine⟨l,vs,rfl,(FZ.sq (K:=K) f).or,λa c=>?_⟩;have d:=b.st.make c (.lst vs);exact q a vs xs F1 _ (b.trans d) (b.st.Bk c) (b.none c) Al r kk⟩
theorem R0(f:r=λxs H Q=>∃p ys,xs=[.ref p]/\((AQ K H p ys/\∀l,H l=none->Q (.ref l) (upd H l (.tup ys)))∨(BC K H p ys/\Q (.ref p) H)))(h:Wq ss te λ_ xs=>k (.tup xs)):Wp ss (Dm r (AU te B3)) k:=⟨λE Z F H Q S q=>
 h.go E Z F H _ S λv tp xs F1 H1 b sv kk=>by
  subst f;cases tp with
  |false=>
   obtain⟨l,vs,rfl,g,r⟩:=sv.seq b.st;refine⟨l,vs,rfl,.inl ⟨AQ.of g,λa i=>?_⟩⟩;have c:=b.st.alloc i (.tup vs);exact q _ _ _ _ (b.trans c) (.tup Al (r.mono c.ff)) kk
  |true=>
   have d:Rep F1 v (.tup xs):=sv;cases d with
   |tup e r=>exact⟨_,_,rfl,.inr ⟨BC.of (b.st.fh _ _ e),q _ _ F1 H1 b (.tup e r) kk⟩⟩⟩
theorem N0{k:List PV->Prop}(h:Wq ss ta λtp xs=>tp=false/\Wq ss tb λFf ys=>Ff=false/\xs.length+ys.length<=100000/\k (xs++ys)):Wn ss (BU Zk ta tb) k:=⟨λE Z F H Q S q=>
 h.go E Z F H _ S λv tp xs F1 H1 c sv⟨j,h2⟩=>h2.go E Z F1 H1 _ c.st λm Ff ys F2 H2 b Nh⟨Up,g,kk⟩=>by
  subst j;subst Up;obtain⟨l,vs,rfl,i,r⟩:=(sv.mv b).seq b.st;obtain⟨l2,JJ,rfl,DL,e⟩:=Nh.seq b.st;refine⟨l,l2,vs,JJ,rfl,rfl,i,DL,small (by rw[r.length,e.length];exact g),λa d=>?_⟩;have f:=b.st.make d (.lst (vs++JJ));exact q a _ _ F2 _ (c.trans (b.trans f)) (b.st.Bk d) ((c.trans b).none d) Al (r.append e) kk⟩
def Eg{α:Type}(xs:List α)(lo hi:Option Int):List α:=(xs.drop (HT.Cv xs.length 0 lo)).take (HT.Cv xs.length xs.length hi - HT.Cv xs.length 0 lo)
theorem AL.cut(r:AL F vs xs)(lo hi:Option Int):AL F (KP vs lo hi) (Eg xs lo hi):=by
 unfold KP Eg;rw[r.length];exact(r.drop _).take _
theorem W7{k:List PV->Prop}{tl th:TO}(h:Wq ss te λtp xs=>tp=false/\Wo ss tl λlo=>Wo ss th λhi=>k (Eg xs lo hi)):Wn ss (Wh (Yn K) te tl th) k:=⟨λE Z F H Q S q=>
 h.go E Z F H _ S λv tp xs F1 H1 d sv⟨j,h2⟩=>h2.go E Z F1 H1 _ d.st λlo F2 H2 c i=>i.go E Z F2 H2 _ c.st λhi F3 H3 b kk=>by
  subst j;obtain⟨l,vs,rfl,g,r⟩:=(sv.mv (c.trans b)).seq b.st;refine⟨l,vs,rfl,AQ.of g,λa e=>?_⟩;have f:=b.st.make e (.lst (KP vs lo hi));exact q a _ _ F3 _ (d.trans (c.trans (b.trans f))) (b.st.Bk e) ((d.trans (c.trans b)).none e) Al (r.cut lo hi) kk⟩
theorem yA(xs ys:List Str):GJ (xs.map V.str) (ys.map V.str)=decide (xs=ys):=by
 by_cases h:xs=ys
 .subst h;rw[oE,jE rfl]
 .rw[jo h]
  by_cases a:xs.length=ys.length
  .rw[MO (by simpa using a)]
   cases c:(List.range (xs.map V.str).length).all λj=>E4 ((xs.map V.str).getD j .A9) ((ys.map V.str).getD j .A9)with
   |false=>rfl
   |true=>
    exfalso;apply h;apply ZAd a;intro j h1 h2;have q:=List.all_eq_true.mp c j (List.mem_range.mpr (by simpa using h1))
    have e:(xs.map V.str)[j]?=some (.str xs[j]):=by rw[Am,Ah h1];rfl
    have d:(ys.map V.str)[j]?=some (.str ys[j]):=by rw[Am,Ah h2];rfl
    rw[Oy e,Oy d]at q;have b:(xs[j] == ys[j])=true:=q
    simpa using b
  .rw[Ld (by simpa using a)]
theorem eO(h:Wq ss ta λtp xs=>∃ns:List Str,xs=ns.map PV.str/\Wq ss tb λFf ys=>Ff=tp/\∃a:List Str,ys=a.map PV.str/\k (.bl (if neg then !decide (ns=a)else decide (ns=a)))):Wp ss (BU (Np K neg) ta tb) k:=⟨λE Z F H Q S q=>
 h.go E Z F H _ S λv tp xs F1 H1 c sv⟨ns,i,h2⟩=>h2.go E Z F1 H1 _ c.st λj Ff ys F2 H2 b Nh⟨f,a,g,kk⟩=>by
  subst i;subst g;subst f;obtain⟨l,vs,rfl,d,r⟩:=(sv.mv b).seq b.st;obtain⟨l2,JJ,rfl,DL,e⟩:=Nh.seq b.st;rw[r.strs]at d;rw[e.strs]at DL;refine⟨l,l2,ns.map V.str,a.map V.str,rfl,rfl,?_,KZ _,KZ _,?_⟩
  .cases Ff
   .exact .inl ⟨AQ.of d,AQ.of DL⟩
   .exact .inr ⟨BC.of d,BC.of DL⟩
  .rw[yA];cases neg
   .exact q _ _ F2 H2 (c.trans b) (.bl _) kk
   .exact q _ _ F2 H2 (c.trans b) (.bl _) kk⟩
theorem fM(c:r=λxs H Q=>∃(p:Addr)(bs:List Bool),xs=[.ref p]/\AQ K H p (bs.map V.bl)/\Q (.bl (bs.all id)) H)(h:Wq ss te λtp xs=>tp=false/\∃bs:List Bool,xs=bs.map PV.bl/\k (.bl (bs.all id))):Wp ss (Dm r (AU te B3)) k:=⟨λE Z F H Q S q=>
 h.go E Z F H _ S λv tp xs F1 H1 a sv AD=>by
  obtain⟨d,bs,e,kk⟩:=AD;subst c;subst e;subst d;obtain⟨l,vs,rfl,b,r⟩:=sv.seq a.st;rw[r.fu]at b;exact⟨l,bs,rfl,AQ.of b,q _ _ F1 H1 a (.bl _) kk⟩⟩
noncomputable def tyP:PV->String
 | .A9 => "NoneType"
 | .bl _ => "bool"
 | .int _ => "int"
 | .str _ => "str"
 | .lst _ => "list"
 | .tup _ => "tuple"
 | .Ag _ _ => "dict"
 |_ => ""
def JI:PV->Value
 | .obj _ _ _=>.none
 | .exc _ _ _=>.none
 | .con _ _=>.none
 |p=>.type (tyP p)
theorem R6(h:PySem.W.kitOne K .none (.type n)=some b):False:=by
 unfold PySem.W.kitOne PySem.W.kitCls PySem.W.subIn at h;simp at h
theorem Rep.kC(s:AJ F H)(r:Rep F v p)(a:PySem.W.kitOne K (JI p) (.type n)=some b):EL K H v (JI p):=by
 cases r with
 |A9=>exact .A9
 |bl b=>exact .bl b
 |int i=>exact .int i
 |str x=>exact .str x
 |lst h _=>exact .lst (s _ _ h)
 |tup h _=>exact .tup (s _ _ h)
 |Ag h _ _=>exact .dK (s _ _ h)
 |obj _ _ _ _=>exact(R6 a).elim
 |Mo _=>exact(R6 a).elim
 |con=>exact(R6 a).elim
 |exc _ _ _ _=>exact(R6 a).elim
theorem ja(h:Wp ss te λp=>∃b,PySem.W.kitOne K (JI p) (.type n)=some b/\k (.bl b)):Wp ss (Dm (dJ K) (AU te (AU (tC (.ty n)) B3))) k:=⟨λE Z F H Q S q=>
 h.go E Z F H _ S λv p F1 H1 a r AD=>by obtain⟨b,c,kk⟩:=AD;exact⟨v,n,_,b,rfl,r.kC a.st.fh c,c,q _ _ F1 H1 a (.bl _) kk⟩⟩
theorem bq(e:r=λxs H Q=>∃i j,xs=[.int i,.int j]/\Q (.int (if j > i then j else i)) H)(h:Wp ss ta λx=>∃i,x=.int i/\Wp ss tb λy=>∃j,y=.int j/\k (.int (if j > i then j else i))):Wp ss (Dm r (AU ta (AU tb B3))) k:=⟨λE Z F H Q S q=>
 h.go E Z F H _ S λv p F1 H1 a c AD=>by
  obtain⟨i,g,h2⟩:=AD;subst e;subst g;cases c.inv;exact h2.go E Z F1 H1 _ a.st λl p2 F2 H2 d b Cn=>by
   obtain⟨j,f,kk⟩:=Cn;subst f;cases b.inv;exact⟨i,j,rfl,q _ _ F2 H2 (a.trans d) (.int _) kk⟩⟩
theorem wz(e:r=λxs H Q=>∃i j,xs=[.int i,.int j]/\Q (.int (if j<i then j else i)) H)(h:Wp ss ta λx=>∃i,x=.int i/\Wp ss tb λy=>∃j,y=.int j/\k (.int (if j<i then j else i))):Wp ss (Dm r (AU ta (AU tb B3))) k:=⟨λE Z F H Q S q=>
 h.go E Z F H _ S λv p F1 H1 a c AD=>by
  obtain⟨i,g,h2⟩:=AD;subst e;subst g;cases c.inv;exact h2.go E Z F1 H1 _ a.st λl p2 F2 H2 d b Cn=>by
   obtain⟨j,f,kk⟩:=Cn;subst f;cases b.inv;exact⟨i,j,rfl,q _ _ F2 H2 (a.trans d) (.int _) kk⟩⟩
end
structure Src (E:Ent0) (F1:Hp) (J:It) (xs:List PV):Prop where
 go:∀(ss:List Slot)(Z:L2.St)(F H:Hp)(i:Nat),AJ F1 F->Sg E ss Z F H->i<xs.length->J.go i H
 stop:∀(ss:List Slot)(Z:L2.St)(F H:Hp),AJ F1 F->Sg E ss Z F H->J.stop xs.length H
 E6:∀(ss:List Slot)(Z:L2.St)(F H:Hp)(i:Nat)(x:V)(H':Hp),AJ F1 F->Sg E ss Z F H->i<xs.length->J.E6 i H x H'->∃p F',xs[i]?=some p/\Mv E ss Z F H F' H'/\Rep F' x p
structure Wi [Xw] (ss:List Slot) (wi:TI) (k:List PV->Prop):Prop where
 go:∀(E:Ent)(Z:L2.St)(F H:Hp)(R:It->Hp->Prop),Sg E ss Z F H->(∀J xs F' H',Mv E ss Z F H F' H'->Src E F' J xs->k xs->R J H')->wi Z H R
structure Wg [Xw] (ss:List Slot) (g:TG) (p:PV) (k:List Slot->Prop):Prop where
 go:∀(E:Ent)(Z:L2.St)(F H:Hp)(v:V)(Q:L2.St->Hp->Prop),Sg E ss Z F H->Rep F v p->(∀A7 σ',k A7->Sg E A7 σ' F H->Q σ' H)->g v Z H Q
section
variable[Xw]
variable{K:ZBc}{tb:TE}{k:PV->Prop}{R:Aa}
theorem gS(h:∀(ss:List Slot)(Z:L2.St)(F H:Hp),AJ F' F->Sg E ss Z F H->H l=some (FZ tp vs))(r:AL F' vs xs):Src E F' (PZ K tp l vs) xs where
 go:=λss Z F H i s S hi=>⟨FZ.sq (h ss Z F H s S),by rw[r.length];exact hi⟩
 stop:=λss Z F H s S=>⟨FZ.sq (h ss Z F H s S),by rw[r.length];exact Ae _⟩
 E6:=λss Z F H i x H' s S hi y=>by
  obtain⟨e,hx⟩:=y;subst e;obtain⟨p,b,a⟩:=r.get' hx;exact⟨p,F,b,.refl S,a.mono s⟩
theorem C1{k:List PV->Prop}(h:Wz ss te λ_ xs=>k xs):Wi ss (LW K te) k:=⟨λE Z F H R S q=>
 h.go E Z F H _ S λv tp xs F1 H1 a f kk=>by
  cases tp with
  |true=>
   have c:Rep F1 v (.tup xs):=f;cases c with
   |tup e r=>exact⟨true,_,_,rfl,BC.of (a.st.fh _ _ e),q _ _ F1 H1 a (gS (tp:=true) (λss Z F H s S=>S.fh _ _ (s _ _ e)) r) kk⟩
  |false=>
   obtain⟨l,vs,rfl,h1,r⟩:=f;have b:∀(ss:List Slot)(Z:L2.St)(F H:Hp),AJ F1 F->Sg E ss Z F H->H l=some (.lst vs):=λss Z F H s S=>by
    rcases h1 with h1|⟨hA,h1⟩
    .exact S.fh _ _ (s _ _ h1)
    .exact S.keep _ _ hA h1
   exact⟨false,l,vs,rfl,AQ.of (b ss Z F1 H1 (AJ.refl _) a.st),q _ _ F1 H1 a (gS (tp:=false) b r) kk⟩⟩
noncomputable def JV(n:Nat):List PV:=(List.range n).map λi:Nat=>PV.int (i:Int)
theorem HW(n:Nat):(JV n).length=n:=by simp[JV]
theorem Nr{n:Nat}(h:(JV n)[i]?=some p):i<n/\p=.int (i:Int):=by
 have hi:i<n:=by have:=(List.getElem?_eq_some_iff.mp h).1;rwa [HW]at this
 unfold JV at h;rw[Am,Rj hi]at h;exact⟨hi,(BH h).symm⟩
theorem ZAG{k:List PV->Prop}(h:Wp ss te λp=>∃j:Int,p=.int j/\j<=1000000/\-1000000<=j/\k (JV j.toNat)):Wi ss (Se (AU te B3)) k:=⟨λE Z F H R S q=>
 h.go E Z F H _ S λv p F1 H1 a r AD=>by
  obtain⟨j,e,h1,h2,kk⟩:=AD;subst e;cases r.inv;refine⟨j,rfl,by omega,by omega,q _ (JV j.toNat) F1 H1 a ⟨λss Z F H i s S hi=>?_,λss Z F H s S=>?_,λss Z F H i x H' s S hi y=>?_⟩ kk⟩
  .rw[HW]at hi;exact hi
  .show _<=_;rw[HW];exact Ae _
  .obtain⟨e,hx⟩:=y;subst e;subst hx;rw[HW]at hi;refine⟨.int (i:Int),F,?_,.refl S,?_⟩
   .unfold JV;rw[Am,Rj hi];rfl
   .rw[Int.zero_add];exact .int _⟩
theorem FY{k:List Slot->Prop}(h:k (ss.set j (.is p))):Wg ss (C4 j) p k:=⟨λE Z F H v Q S r q=>q _ _ h (S.ED r)⟩
theorem eJ{k:List Slot->Prop}(h:∃a b,p=.tup [a,b]/\k ((ss.set i (.is a)).set j (.is b))):Wg ss (Jr K 2 (GW (C4 i) (GW (C4 j) MG))) p k:=⟨λE Z F H v Q S r q=>by
 obtain⟨a,b,rfl,kk⟩:=h;obtain⟨_,_,rfl,e,r⟩:=r.inv;obtain⟨_,_,rfl,d,r⟩:=r.inv;obtain⟨_,_,rfl,c,r⟩:=r.inv;obtain rfl:=r.D5;exact⟨_,_,rfl,BC.of (S.fh _ _ e),rfl,_,_,rfl,_,_,rfl,rfl,q _ _ kk ((S.ED d).ED c)⟩⟩
theorem yI{l:Nat}{k:List Slot->Prop}(h:∃a b c,p=.tup [a,b,c]/\k (((ss.set i (.is a)).set j (.is b)).set l (.is c))):Wg ss (Jr K 3 (GW (C4 i) (GW (C4 j) (GW (C4 l) MG)))) p k:=⟨λE Z F H v Q S r q=>by
 obtain⟨a,b,c,rfl,kk⟩:=h;obtain⟨_,_,rfl,e,r⟩:=r.inv;obtain⟨_,_,rfl,g,r⟩:=r.inv;obtain⟨_,_,rfl,f,r⟩:=r.inv;obtain⟨_,_,rfl,d,r⟩:=r.inv;obtain rfl:=r.D5;exact⟨_,_,rfl,BC.of (S.fh _ _ e),rfl,_,_,rfl,_,_,rfl,_,_,rfl,rfl,q _ _ kk (((S.ED g).ED f).ED d)⟩⟩
theorem AN{t:TS}(h:Ws ss t (λA7=>Ws A7 u nx R) R):Ws ss (Nv t u) nx R:=⟨λE D Z F H S c a=>
 h.go E { D with nx:=u D } Z F H S (λA7 σ' F' H' w S' s=>w.go E D σ' F' H' S' (λBD σ2 F2 H2 b S2 s2=>c BD σ2 F2 H2 b S2 (s.trans s2)) a) a⟩
theorem Cu{t:TS}(h:Ws ss t nx R):Ws ss (X7 t) nx R:=⟨λE D Z F H S b a=>⟨D.nx,h.go E { D with nx:=D.nx } Z F H S b a,λ_ _ q=>q⟩⟩
theorem Ws.mono{t:TS}(h:Ws ss t nx R)(i:∀s,nx s->QX s):Ws ss t QX R:=⟨λE D Z F H S b a=>h.go E D Z F H S (λA7 σ' F' H' n=>b A7 σ' F' H' (i _ n)) a⟩
theorem MJ{t:TS}(J:List Slot->Prop)(h:Ws ss t J R)(h2:∀A7,J A7->Ws A7 u nx R):Ws ss (Nv t u) nx R:=AN (h.mono h2)
theorem CB(h:Wp ss te λp=>nx (ss.set i (.is p))):Ws ss (EB te (C4 i)) nx R:=⟨λE D Z F H S b c=>
 h.go E Z F H _ S λv p F1 H1 a r kk=>b _ _ F1 H1 kk (a.st.ED r) a.ff⟩
theorem Dk(h:Wn ss te λxs=>nx (ss.set i (.own xs))):Ws ss (EB te (C4 i)) nx R:=⟨λE D Z F H S f m=>
 h.go E Z F H _ S λl vs xs F1 H1 a g b KQ r kk=>f _ _ F1 H1 kk (a.st.setG ⟨l,vs,rfl,g,S.CS b,KQ,r⟩ λk e j u _ d c=>by cases e;exact S.HY d b c) a.ff⟩
theorem FA(h:Wp ss te k):Ws ss (Hl te) nx (.is k):=⟨λE D Z F H S c b=>
 h.go E Z F H _ S λv p F1 H1 a r kk=>b v F1 H1 a.st.toFin ⟨p,r,kk⟩⟩
theorem JX{k:List PV->Prop}(h:Wn ss te k):Ws ss (Hl te) nx (.new k):=⟨λE D Z F H S e b=>
 h.go E Z F H _ S λl vs xs F1 H1 a d c KQ r kk=>b _ F1 H1 a.st.toFin ⟨l,vs,xs,rfl,d,S.CS c,KQ,r,kk⟩⟩
theorem NC{k:List PV->Prop}(h:ss[i]?=some (.own xs))(kk:k xs):Ws ss (Hl (Ap i)) nx (.new k):=⟨λE D Z F H S f a=>by
 obtain⟨l,vs,e,d,c,b,r⟩:=S.ok i _ h;exact⟨_,e,a _ F H S.toFin ⟨l,vs,xs,rfl,d,c,b,r,kk⟩⟩⟩
theorem Bc{t:TS}(h:Wt ss c λb=>if b=true then Ws ss t nx R else Ws ss u nx R):Ws ss (VA c t u) nx R:=⟨λE D Z F H S e d=>
 h.go E Z F H _ S λb F1 H1 a w=>by
  show if b=true then _ else _
  cases b with
  |true=>rw[ir rfl]at w ⊢;exact w.go E D Z F1 H1 a.st (λBD σ2 F2 H2 n S2 s2=>e BD σ2 F2 H2 n S2 (a.ff.trans s2)) d
  |false=>rw[ib (by decide)]at w ⊢;exact w.go E D Z F1 H1 a.st (λBD σ2 F2 H2 n S2 s2=>e BD σ2 F2 H2 n S2 (a.ff.trans s2)) d⟩
theorem BN(h:nx ss):Ws ss Si nx R:=⟨λE D Z F H S a b=>a ss Z F H h S (AJ.refl _)⟩
theorem J7(h:Wp ss te λ_=>nx ss):Ws ss (Hx te) nx R:=⟨λE D Z F H S b c=>
 h.go E Z F H _ S λv p F1 H1 a r kk=>b ss Z F1 H1 kk a.st a.ff⟩
theorem Sg.drop(S:Sg E ss Z F H)(i:Nat):Sg E (ss.set i .any) Z F H:=by
 have b:∀(j:Nat)u,(ss.set i .any)[j]?=some u->u=.any∨ss[j]?=some u:=λj u a=>by
  by_cases q:j=i
  .subst q;have e:j<ss.length:=by have:=(List.getElem?_eq_some_iff.mp a).1;simpa using this
   rw[CL e]at a;exact .inl (BH a).symm
  .rw[C0 (B5 q)]at a;exact .inr a
 refine⟨S.toFin,by rw[Ik];exact S.len,λj u a=>?_,λj k u w l PX a hk d c=>?_⟩
 .rcases b j u a with rfl|h
  .trivial
  .exact S.ok j u h
 .rcases b j u a with rfl|h
  .cases d
  .rcases b k w hk with rfl|h2
   .cases c
   .exact S.Bg j k u w l PX h h2 d c
theorem Qo(e:Z[i]?=some (some v)):Z.set i (some v)=Z:=by
 apply List.ext_getElem?;intro j
 by_cases q:j=i
 .subst q;rw[CL (List.getElem?_eq_some_iff.mp e).1,e]
 .rw[C0 (B5 q)]
theorem Sg.KR(S:Sg E ss Z F H)(k:F a=none)(c:E.H0 a=none∨a∈E.B)(g:∀(i:Nat)s,ss[i]?=some s->¬ As s Z[i]? a):Sg E ss Z F (upd H a o):=by
 have f:∀b u,b≠a->H b=some u->upd H a o b=some u:=λb u h e=>by rw[AS h];exact e
 refine⟨⟨λb u e=>?_,S.f0,λb u d e=>?_,S.fresh,λb d=>?_,S.KA,S.a0,S.bF,λb j=>?_,S.b0⟩,S.len,λi s hi=>?_,S.Bg⟩
 .exact f b u (Cy e k) (S.fh b u e)
 .refine f b u ?_ (S.keep b u d e);rintro rfl;rcases c with c|c
  .rw[c]at e;cases e
  .exact d.2 c
 .refine BJ.keep (S.G6 b d) λu e=>f b u ?_ e;rintro rfl;rcases c with c|c
  .exact S.a0 _ d c
  .exact(S.b0 _ c).2 d
 .by_cases q:b=a
  .subst q;rw[Al];simp
  .rw[AS q];exact S.bH b j
 .by_cases np:s=.AK
  .subst np;obtain⟨l,e,r,p,n⟩:=S.ok i _ hi;exact⟨l,e,r,p,BJ.keep n λu h=>f l u (by rintro rfl;exact g i _ hi e) h⟩
  .exact Ok.go S hi (AJ.refl _) (λb u m h=>f b u (by rintro rfl;exact g i _ hi m) h) (λ_ _ h=>h) np
theorem Sg.put(S:Sg E ss Z F H){ys:List PV}(hi:ss[i]?=some (.own xs))(e:Z[i]?=some (some (.ref l)))(f:F l=none)(d:E.H0 l=none)(r:AL F BI ys):Sg E (ss.set i (.own ys)) Z F (upd H l (.lst BI)):=by
 have a:∀(j:Nat)s,(ss.set i .any)[j]?=some s->¬ As s Z[j]? l:=λj s b c=>by
  by_cases q:j=i
  .subst q;have p:j<ss.length:=(List.getElem?_eq_some_iff.mp hi).1;rw[CL p]at b;cases b;cases c
  .rw[C0 (B5 q)]at b;exact S.Bg j i s _ l q b hi c e
 have n:=(S.drop i).KR (o:=.lst BI) f (.inl d) a;have g:=n.setG (j:=i) (s:=.own ys) (v:=.ref l) ⟨l,BI,rfl,f,d,Al,r⟩ λt m j u b k h=>by cases m;exact a j u k h
 rw[Qo e,Rm]at g;exact g
theorem OL(hi:ss[i]?=some (.own xs))(h:Wp ss te λp=>xs.length<=99999/\nx (ss.set i (.own (xs++[p])))):Ws ss (Hx (IZ K "list" Qc (Ap i) (AU te B3))) nx R:=⟨λE D Z F H S g m=>by
 obtain⟨l,vs,e,o,n,j,r⟩:=S.ok i _ hi;refine⟨_,e,.inl ⟨rfl,_,AQ.of j⟩,h.go E Z F H _ S λv p F1 H1 a d⟨f,kk⟩=>?_⟩;obtain⟨k,BI,c,DD,Bx,Hh,b⟩:=a.st.ok i _ hi;rw[e]at c;cases c;refine⟨l,BI,v,rfl,rfl,Hh,Gi (by rw[b.length];exact f),?_⟩;exact g _ Z F1 _ kk (a.st.put hi e DD Bx (b.append (.one d))) a.ff⟩
theorem bM(hi:ss[i]?=some (.own xs))(h:Wp ss ta λa=>∃j:Int,a=.int j/\0<=j/\j<=xs.length/\Wp ss te λp=>xs.length<=99999/\nx (ss.set i (.own (xs.take j.toNat++p::xs.drop j.toNat)))):
  Ws ss (Hx (IZ K "list" UQ (Ap i) (AU ta (AU te B3)))) nx R:=⟨λE D Z F H S q y=>by
 obtain⟨l,vs,e,A,z,t,r⟩:=S.ok i _ hi;refine⟨_,e,.inl ⟨rfl,_,AQ.of t⟩,h.go E Z F H _ S λu w F1 H1 d k⟨j,s,n,m,h2⟩=>?_⟩;subst s;cases k.inv;refine h2.go E Z F1 H1 _ d.st λv p F2 H2 c g⟨o,kk⟩=>?_;obtain⟨x,BI,f,DD,Bx,Hh,b⟩:=c.st.ok i _ hi;rw[e]at f;cases f;refine⟨l,BI,j,v,rfl,rfl,Hh,n,by rw[b.length];exact m,Gi (by rw[b.length];exact o),?_⟩;exact q _ Z F2 _ kk (c.st.put hi e DD Bx ((b.take _).append (.cons g (b.drop _)))) (d.ff.trans c.ff)⟩
noncomputable def Cd(F H:Hp)(as:List Addr):Hp:=λa=>if a∈as then H a else F a
theorem Sg.lay(S:Sg E ss Z F H)(as:List Addr)(g:∀a∈as,F a=none/\E.H0 a=none/\H a≠none)(x:∀a∈as,∀(i:Nat)s,ss[i]?=some s->¬ As s Z[i]? a):Sg E ss Z (Cd F H as) H/\AJ F (Cd F H as):=by
 have y:∀a,a∈as->Cd F H as a=H a:=λa h=>ir h;have j:∀a,a∉as->Cd F H as a=F a:=λa h=>ib h;have ff:AJ F (Cd F H as):=λa o e=>by
  by_cases q:a∈as
  .rw[(g a q).1]at e;cases e
  .rw[j a q];exact e
 have f:∀a,a∉as->F a=none->Cd F H as a=none:=λa q h=>by rw[j a q];exact h
 refine⟨⟨⟨λa o e=>?_,S.f0.trans ff,S.keep,λa o e=>?_,S.G6,λa w=>?_,S.a0,λa u=>?_,S.bH,S.b0⟩,S.len,λi s hi=>?_,S.Bg⟩,ff⟩
 .by_cases q:a∈as
  .rw[y a q]at e;exact e
  .rw[j a q]at e;exact S.fh a o e
 .by_cases q:a∈as
  .exact .inr (g a q).2.1
  .rw[j a q]at e;exact S.fresh a o e
 .exact f a (λq=>S.a0 a w (g a q).2.1) (S.KA a w)
 .exact f a (λq=>(S.b0 a u).1 (g a q).2.1) (S.bF a u)
 .have l:∀a,As s Z[i]? a->a∉as:=λa m q=>x a q i s hi m;have kk:=S.ok i s hi;cases s with
  |any=>trivial
  |is p=>obtain⟨v,e,r⟩:=kk;exact⟨v,e,r.mono ff⟩
  |own ys=>
   obtain⟨b,ws,q,d,c,k,r⟩:=kk;exact⟨b,ws,q,f b (l b q) d,c,k,r.mono ff⟩
  |AK=>
   obtain⟨b,q,d,c,k⟩:=kk;exact⟨b,q,f b (l b q) d,c,k⟩
  |sq tp ys=>
   cases tp with
   |true=>obtain⟨v,e,r⟩:=kk;exact⟨v,e,r.mono ff⟩
   |false=>obtain⟨b,ws,q,d,c,r⟩:=kk;exact⟨b,ws,q,d,c,r.mono ff⟩
  |raw P=>obtain⟨v,e,r,st⟩:=kk;exact⟨v,e,st _ _ ff r,st⟩
  |ow lt t=>
   obtain⟨v,e,r,nd,q⟩:=kk;exact⟨v,e,r.mono ff λa _ o h=>h,nd,λa n=>⟨f a (l a n) (q a n).1,(q a n).2⟩⟩
theorem G7{t:TS}(i:Nat)(hi:ss[i]?=some (.own xs))(h:Ws (ss.set i (.is (.lst xs))) t nx R):Ws ss t nx R:=⟨λE D Z F H S k g=>by
 obtain⟨l,vs,e,u,o,f,r⟩:=S.ok i _ hi;have one:∀a,a∈[l]->a=l:=λa h=>by simpa using h
 obtain⟨S1,d⟩:=(S.drop i).lay [l] (λa h=>by rw[one a h,f];exact⟨u,o,by simp⟩) λa h j s b m=>by
  rw[one a h]at m
  by_cases q:j=i
  .subst q;rw[CL (List.getElem?_eq_some_iff.mp hi).1]at b;cases b;cases m
  .rw[C0 (B5 q)]at b;exact S.Bg j i s _ l q b hi m e
 have c:=S1.ED (j:=i) (v:=.ref l) (p:=.lst xs) (.lst (by unfold Cd;rw[ir (by simp)];exact f) (r.mono d));rw[Qo e,Rm]at c;exact h.go E D Z _ H c (λBD σ2 F2 H2 n c s2=>k BD σ2 F2 H2 n c (d.trans s2)) g⟩
theorem Dz{g:TG}{tb:TS}(I:List PV->Nat->List Slot->Prop)(h:Wi ss wi λxs=>I xs 0 ss/\(∀(i:Nat)p A7,xs[i]?=some p->I xs i A7->Wg A7 g p λBD=>Ws BD tb (I xs (i+1)) R)/\∀A7,I xs xs.length A7->nx A7):Ws ss (R1 wi g tb) nx R:=⟨λE D Z F H S u s=>
 h.go E Z F H _ S λJ xs F1 H1 k d AD=>by
  obtain⟨i0,r,hd⟩:=AD;refine⟨λi m σ' H'=>m=xs.length - i/\i<=xs.length/\∃A7 F',I xs i A7/\Sg E A7 σ' F' H'/\AJ F1 F',⟨_,rfl,CA _,ss,F1,i0,k.st,AJ.refl _⟩,?_⟩;rintro i m σ' H'⟨rfl,hi,A7,F',l,S',s'⟩
  by_cases f:i<xs.length
  .refine .inr ⟨d.go A7 σ' F' H' i s' S' f,λσ2 H2=>∃BD F2,I xs (i+1) BD/\Sg E BD σ2 F2 H2/\AJ F1 F2,λσ2 H2 Cn=>by obtain⟨BD,F2,a,b,c⟩:=Cn;exact⟨_,by omega,rfl,f,BD,F2,a,b,c⟩,λx H3 y=>?_⟩;obtain⟨p,F3,t,j,o⟩:=d.E6 A7 σ' F' H' i x H3 s' S' f y;refine(r i p A7 t l).go E σ' F3 H3 x _ j.st o λv σ4 w S4=>?_;exact w.go E _ σ4 F3 H3 S4 (λJl σ5 F5 H5 q S5 n=>⟨Jl,F5,q,S5,(s'.trans j.ff).trans n⟩) s
  .have e:i=xs.length:=by omega
   subst e;exact .inl ⟨d.stop A7 σ' F' H' s' S',u A7 σ' F' H' (hd A7 l) S' (k.ff.trans s')⟩⟩
theorem Us{tb:TS}(I:Nat->List Slot->Prop)(e:Nat)(o:I e ss)(h:∀m A7,I m A7->Wt A7 c λb=>if b=true then Ws A7 tb (λBD=>∃a,a < m/\I a BD) R else nx A7):Ws ss (QK c tb) nx R:=⟨λE D Z F H S k j=>by
 refine⟨λm σ' H'=>∃A7 F',I m A7/\Sg E A7 σ' F' H'/\AJ F F',⟨e,ss,F,o,S,AJ.refl _⟩,?_⟩;rintro m σ' H'⟨A7,F',n,S',s'⟩;refine(h m A7 n).go E σ' F' H' _ S' λb F1 H1 d w=>?_;cases b with
 |true=>
  rw[ir rfl]at w;refine⟨λσ2 H2=>∃BD F2,(∃a,a < m/\I a BD)/\Sg E BD σ2 F2 H2/\AJ F F2,λσ2 H2 AD=>by obtain⟨BD,F2,⟨a,l,i⟩,b,c⟩:=AD;exact⟨a,l,BD,F2,i,b,c⟩,?_⟩;exact w.go E _ σ' F1 H1 d.st (λJl σ5 F5 H5 g S5 f=>⟨Jl,F5,g,S5,(s'.trans d.ff).trans f⟩) j
 |false=>
  rw[ib (by decide)]at w;exact k A7 σ' F1 H1 w d.st (s'.trans d.ff)⟩
end
noncomputable def Bt(js:List Nat)(ss:List Slot):List Slot:=js.map λj=>(ss[j]?).getD .any
def Ls(js:List Nat)(ss:List Slot):Bool:=js.all λj=>match ss[j]? with
 |some .AK=>false
 |_=>true
section
variable[Xw]
variable{K:ZBc}{js:List Nat}
theorem cT(h:js[i]?=some j)(e:(Bt js ss)[i]?=some s):s=(ss[j]?).getD .any:=by
 unfold Bt at e;rw[Am,h]at e;exact(BH e).symm
theorem Sg.AG(S:Sg E ss Z F H)(nd:js.Nodup)(r:AL F vs ps):Sg E (Bt js ss++ps.map .is) (BA js Z++vs.map some) F H:=by
 have d:(Bt js ss).length=js.length:=by simp[Bt]
 have f:(BA js Z).length=js.length:=by simp[BA]
 have k:∀(i:Nat)(hi:i<js.length),(Bt js ss++ps.map .is)[i]?=some ((ss[js[i]]?).getD .any)/\(BA js Z++vs.map some)[i]?=some ((Z[js[i]]?).join):=λi hi=>by
  rw[D1 (by rw[d];exact hi),D1 (by rw[f];exact hi)];unfold Bt BA;rw[Am,Am,Ah hi];exact⟨rfl,rfl⟩
 have c:∀(i:Nat)s,js.length<=i->(Bt js ss++ps.map .is)[i]?=some s->∃p v,s=.is p/\(BA js Z++vs.map some)[i]?=some (some v)/\Rep F v p:=λi s hi e=>by
  rw[DB (by rw[d];exact hi),d,Am]at e;rw[DB (by rw[f];exact hi),f,Am];cases q:ps[i - js.length]? with
  |none=>rw[q]at e;cases e
  |some p=>
   rw[q]at e;obtain⟨v,h,g⟩:=r.get q;rw[h];exact⟨p,v,(BH e).symm,rfl,g⟩
 have G:∀(s:Slot)(m:Nat)(l:Addr),As s (some (Z[m]?).join) l->As s Z[m]? l:=λs m l o=>by
  have w:∀l,some (Z[m]?).join=some (some (V.ref l))->Z[m]?=some (some (.ref l)):=λl e=>by
   cases q:Z[m]? with
   |none=>rw[q]at e;cases e
   |some o=>rw[q]at e;cases o with
    |none=>cases e
    |some v=>simpa using e
  cases s with
  |own xs=>exact w l o
  |AK=>exact w l o
  |ow lt t=>exact o
  |_=>exact o
 have n:∀(i:Nat)s l,(Bt js ss++ps.map .is)[i]?=some s->As s (BA js Z++vs.map some)[i]? l->∃hi:i<js.length,ss[js[i]]?=some s/\As s Z[js[i]]? l:=λi s l e m=>by
  by_cases hi:i<js.length
  .rw[(k i hi).2]at m;refine⟨hi,?_,G s _ l m⟩;rw[(k i hi).1]at e;cases q:ss[js[i]]? with
   |none=>rw[q]at e;cases e;cases m
   |some u=>rw[q]at e;exact e
  .obtain⟨p,v,rfl,_⟩:=c i s (by omega) e;cases m
 refine⟨S.toFin,?_,λi s e=>?_,λi j s u l FX hi D C B=>?_⟩
 .rw[Bj,Bj,d,f,AA,AA,r.length]
 .by_cases hi:i<js.length
  .obtain⟨a,b⟩:=k i hi;rw[a]at e;rw[b];cases q:ss[js[i]]? with
   |none=>rw[q]at e;cases e;trivial
   |some u=>
    rw[q]at e;have I:u=s:=BH e;subst I;have kk:=S.ok _ _ q;cases u with
    |any=>trivial
    |is p=>obtain⟨v,e,r⟩:=kk;rw[e];exact⟨v,rfl,r⟩
    |own xs=>obtain⟨l,vs,e,r⟩:=kk;rw[e];exact⟨l,vs,rfl,r⟩
    |AK=>obtain⟨l,e,r⟩:=kk;rw[e];exact⟨l,rfl,r⟩
    |sq tp xs=>
     cases tp with
     |true=>obtain⟨v,e,r⟩:=kk;rw[e];exact⟨v,rfl,r⟩
     |false=>obtain⟨l,vs,e,r⟩:=kk;rw[e];exact⟨l,vs,rfl,r⟩
    |raw P=>obtain⟨v,e,r⟩:=kk;rw[e];exact⟨v,rfl,r⟩
    |ow lt t=>obtain⟨v,e,r⟩:=kk;rw[e];exact⟨v,rfl,r⟩
  .obtain⟨p,v,rfl,h,g⟩:=c i s (by omega) e;rw[h];exact⟨v,rfl,g⟩
 .obtain⟨K,y,A⟩:=n i s l hi C;obtain⟨J,x,z⟩:=n j u l D B;refine S.Bg js[i] js[j] s u l (λe=>FX ?_) y x A z;exact(ZAj nd).mp e
theorem Mv.out(S:Sg E ss Z F H)(np:Ls js ss=true)(m:Mv E (Bt js ss++ps.map .is) τ F H F' H'):Mv E ss Z F H F' H':=by
 have nn:∀a,Bs (Bt js ss++ps.map .is) τ a:=λa i hi _=>by
  by_cases h:i<(Bt js ss).length
  .rw[D1 h]at hi;have b:i<js.length:=by simpa[Bt]using h
   have q:=cT (Ah b) hi;have z:=List.all_eq_true.mp np js[i] (Ky b);cases w:ss[js[i]]? with
   |none=>rw[w]at q;cases q
   |some u=>rw[w]at q z;cases q;cases z
  .rw[DB (by omega),Am]at hi;cases w:ps[i - (Bt js ss).length]? with
   |none=>rw[w]at hi;cases hi
   |some p=>rw[w]at hi;cases hi
 have hk:∀a o,H a=some o->H' a=some o:=λa o e=>m.hh a o (nn a) e;exact S.step m.ff m.st.fh (λa o _ e=>hk a o e) m.nn λi l hi e=>BJ.keep (S.E2 hi e) λo e=>hk l o e
theorem Tt{k:List PV->Prop}(f:PV->Bool)(g:PV->PV)
  (h:Wi ss wi λxs=>xs.length<=100000/\(∀x∈xs,Wt (Bt js ss++[.is x]) tt λb=>b=f x)/\(∀x∈xs,f x=true->Wp (Bt js ss++[.is x]) te λp=>p=g x)/\k ((xs.filter f).map g))
  (nd:js.Nodup:=by decide) (np:Ls js ss=true:=by rfl):Wn ss (HA wi js tt te) k:=⟨λE Z F H Q S q=>
 h.go E Z F H _ S λJ xs F1 H1 d C⟨hz,U,V,kk⟩acc Ao=>by
  have P:Bs ss Z acc:=d.st.He Ao;have Gz:=d.st.CS Ao;have HI:∀(i:Nat)s,ss[i]?=some s->¬ As s Z[i]? acc:=λi s hi=>d.st.HY hi Ao;refine⟨λi m H2=>m=xs.length - i/\i<=xs.length/\∃F2 vs,Mv E ss Z F1 H1 F2 H2/\F2 acc=none/\H2 acc=some (.lst vs)/\AL F2 vs (((xs.take i).filter f).map g),⟨_,rfl,CA _,F1,[],d.st.make Ao _,d.st.Bk Ao,Al,.nil⟩,?_⟩;rintro i m H2⟨rfl,hi,F2,vs,c,K,z,t⟩
  by_cases r:i<xs.length
  .refine .inr ⟨C.go ss Z F2 H2 i c.ff c.st r,λx H3 y=>?_⟩;obtain⟨p,F3,G,u,I⟩:=C.E6 ss Z F2 H2 i x H3 c.ff c.st r y;have M:p∈xs:=Bo G;have Io:(xs.take (i+1))=xs.take i++[p]:=by
    have Y:xs[i]=p:=by rw[Ah r]at G;exact BH G
    rw[Ro r,Y]
   have L:List.filter f (xs.take (i+1))=(xs.take i).filter f++(if f p=true then[p]else[]):=by
    rw[Io,Xb];congr 1
    by_cases j:f p=true <;> simp[j]
   have N:∀{F4:Hp},(∀a o,F4 a=some o->F2 a=some o∨H2 a=none)->F4 acc=none:=λ{F4}n=>by
    cases e:F4 acc with
    |none=>rfl
    |some o=>
     rcases n acc o e with w|w
     .rw[K]at w;cases w
     .rw[z]at w;cases w
   have S3:=u.st.AG (js:=js) nd (.one I);refine(U p M).go E _ F3 H3 _ S3 λb F4 H4 D W=>?_;have l:=u.trans (D.out (ps:=[p]) u.st np);show if b=true then _ else _
   rw[W]
   by_cases j:f p=true
   .rw[ir j];have σ:=l.st.AG (js:=js) nd (.one (I.mono (D.out (ps:=[p]) u.st np).ff));refine(V p M j).go E _ F4 H4 _ σ λw pw F5 H5 R IH X=>?_;have T:=D.out (ps:=[p]) u.st np;have Kj:=R.out (ps:=[p]) l.st np;have B:=l.trans Kj;have Jo:=B.hh acc _ P z;have O:=N B.nn;have v:vs.length<=99999:=by
     rw[t.length,AA];have:=Kz f (xs.take i);rw[FD]at this;omega
    refine⟨vs,Jo,Gi v,xs.length - (i+1),by omega,rfl,r,F5,vs++[w],?_,O,Al,?_⟩
    .have A:=c.trans B;refine⟨A.st.KR O (.inl Gz) HI,A.ff,λa o n e=>?_,A.nn⟩;rw[AS (Cy e Ao)];exact A.hh a o n e
    .rw[L,ir j,Bn];rw[X]at IH;exact(t.mono B.ff).append (.one IH)
   .have Mr:f p=false:=by simpa using j
    rw[Mr,ib (by decide)];refine⟨xs.length - (i+1),by omega,rfl,r,F4,vs,c.trans l,N l.nn,l.hh acc _ P z,?_⟩;rw[L,ib j,ER];exact t.mono l.ff
  .have e:i=xs.length:=by omega
   subst e;refine .inl ⟨C.stop ss Z F2 H2 c.ff c.st,q acc vs _ F2 H2 (d.trans c) K (d.none Ao) z ?_ kk⟩;rw[GD]at t;exact t⟩
end
abbrev Pre:=List Slot->Aa->Prop
def Ac(pre:Pre):Sp:=λvs H Q _=>∃(ss:List Slot)(R:Aa)(F:Hp)(A:List Addr),pre ss R/\Sg (E3 A F H) ss (vs.map some) F H/\∀v F' H',Fin (E3 A F H) F' H'->R.ok (E3 A F H) F' H' v->Q v H'
section
variable[Xw]
variable{pre:Pre}{t:TA}{k:PV->Prop}
theorem FK.at{l:List Slot}(h:FK ss Z F H vs l):∀{i:Nat}{s:Slot},l[i]?=some s->∃v,vs[i]?=some v/\Av ss Z F H v s:=by
 induction h with
 |nil=>intro i s e;simp at e
 |cons a _ b=>
  intro i s e;cases i with
  |zero=>simp at e;subst e;exact⟨_,rfl,a⟩
  |succ i=>exact b (by simpa using e)
theorem FK.len{l:List Slot}(h:FK ss Z F H vs l):l.length=vs.length:=by
 induction h with
 |nil=>rfl
 |cons a _ b=>rw[CG,CG,b]
theorem Av.ok(S:Sg E ss Z F H)(a:Av ss Z F H v s)(b:∀l,Bs ss Z l->l∉A):Ok (E3 A F H) F H s (some (some v))/\∀o l,¬ As s o l:=by
 cases s with
 |is p=>exact⟨⟨v,rfl,a⟩,λ_ _ z=>z⟩
 |sq tp xs=>
  cases tp with
  |true=>exact⟨⟨v,rfl,a⟩,λ_ _ z=>z⟩
  |false=>obtain⟨l,vs,rfl,n,h,r⟩:=a;exact⟨⟨l,vs,rfl,⟨b l n,Af⟩,h,r⟩,λ_ _ z=>z⟩
 |raw P=>exact⟨⟨v,rfl,a⟩,λ_ _ z=>z⟩
 |any=>exact a.elim
 |own xs=>exact a.elim
 |AK=>exact a.elim
 |ow lt t=>exact a.elim
theorem Sg.Qu(S:Sg E ss Z F H){l:List Slot}(a:FK ss Z F H vs l):Sg (E3 [] F H) l (vs.map some) F H:=by
 have nn:∀{p:Prop}(a:Addr),a∈([]:List Addr)->p:=λa h=>absurd h Af;refine⟨⟨S.fh,AJ.refl _,λ_ _ _ e=>e,λ_ _ e=>.inl e,λa h=>nn a h,λa h=>nn a h,λa h=>nn a h,λa h=>nn a h,λa h=>nn a h,λa h=>nn a h⟩,by rw[AA];exact a.len,λi s hi=>?_,λi j s u l FX hi f c d=>?_⟩
 .obtain⟨v,b,q⟩:=a.at hi;rw[Am,b];exact(q.ok S λ_ _ h=>absurd h Af).1
 .obtain⟨v,b,q⟩:=a.at hi;exact(q.ok S (A:=[]) λ_ _ h=>absurd h Af).2 _ _ c
theorem Sg.aH(S:Sg E ss Z F H){p:Addr}(hi:ss[i0]?=some .AK)(e:Z[i0]?=some (some (.ref p))){l:List Slot}(a:FK ss Z F H vs l):Sg (E3 [p] F H) (.AK::l) ((V.ref p::vs).map some) F H:=by
 obtain⟨w,g,fp,_,b⟩:=S.ok i0 _ hi;rw[e]at g;cases g;have f:∀l,Bs ss Z l->l∉[p]:=λl n h=>by
  have:l=p:=by simpa using h
  subst this;exact n i0 hi e
 have one:∀a,a∈[p]->a=p:=λa h=>by simpa using h
 have nn:∀{p:Prop}(a:Addr),a∈([]:List Addr)->p:=λa h=>absurd h Af;refine⟨⟨S.fh,AJ.refl _,λ_ _ _ e=>e,λ_ _ e=>.inl e,λa h=>(one a h)▸b,λa h=>(one a h)▸fp,λa h=>?_,λa h=>nn a h,λa h=>nn a h,λa h=>nn a h⟩,by rw[AA,CG,CG];rw[a.len],λi s hi=>?_,λi j s u c FX hi t r k=>?_⟩
 .rw[one a h];obtain⟨_,_,q,_⟩:=b;show H p≠none;rw[q];simp
 .cases i with
  |zero=>simp at hi;subst hi;exact⟨p,rfl,fp,.inr (by simp),b⟩
  |succ i=>
   obtain⟨v,d,q⟩:=a.at (i:=i) (s:=s) (by simpa using hi)
   have:((V.ref p::vs).map some)[i+1]?=some (some v):=by rw[Aq,ZAg,Am,d];rfl
   rw[this];exact(q.ok S f).1
 .have z:∀(i:Nat)s o c,(Slot.AK::l)[i]?=some s->As s o c->i=0:=λi s o c h m=>by
   cases i with
   |zero=>rfl
   |succ i=>
    obtain⟨v,d,q⟩:=a.at (i:=i) (s:=s) (by simpa using h)
    exact((q.ok S f).2 _ _ m).elim
  exact absurd ((z i s _ _ hi r).trans (z j u _ _ t k).symm) FX
theorem Sg.back(S:Sg E ss Z F H)(d:∀a,a∈A->∃i:Nat,ss[i]?=some .AK/\Z[i]?=some (some (.ref a)))(f:Fin (E3 A F H) F' H'):Mv E ss Z F H F' H':=by
 refine S.step f.f0 f.fh (λa o n e=>f.keep a o ⟨λh=>?_,Af⟩ e) f.fresh λi l hi e=>?_
 .obtain⟨i,c,b⟩:=d a h;exact n i c b
 .by_cases q:l∈A
  .exact f.G6 l q
  .exact BJ.keep (S.E2 hi e) λo e=>f.keep l o ⟨q,Af⟩ e
theorem wp_call(h:Wa ss t λl=>∃b,pre l (.is b)/\∀p,b p->k p):Wp ss (D6 (Ac pre) [] E0 t) k:=⟨λE Z F H Q S q=>
 h.go E Z F H _ S λvs l F1 H1 c a⟨b,d,kk⟩=>by
  rw[ER];refine⟨l,.is b,F1,[],d,c.st.Qu a,λv F' H' f⟨p,r,kp⟩=>?_⟩;exact q v p F' H' (c.trans (c.st.back (λ_ h=>absurd h Af) f)) r (kk p kp)⟩
theorem FH{k:List PV->Prop}(h:Wa ss t λl=>∃c,pre l (.new c)/\∀xs,c xs->k xs):Wn ss (D6 (Ac pre) [] E0 t) k:=⟨λE Z F H Q S q=>
 h.go E Z F H _ S λvs l F1 H1 b a⟨c,g,kk⟩=>by
  rw[ER];refine⟨l,.new c,F1,[],g,b.st.Qu a,λv F' H' f⟨l,vs,xs,e,j,i,FR,r,d⟩=>?_⟩;subst e;exact q l vs xs F' H' (b.trans (b.st.back (λ_ h=>absurd h Af) f)) j (b.none i) FR r (kk xs d)⟩
theorem Sg.grown(S:Sg E ss Z F H)(n:Nat):Sg E (ss++List.replicate n .any) (Z++List.replicate n none) F H:=by
 have k:∀(i:Nat)s,(ss++List.replicate n .any)[i]?=some s->s≠.any->ss[i]?=some s/\(Z++List.replicate n none)[i]?=Z[i]?:=λi s e o=>by
  by_cases h:i<ss.length
  .rw[D1 h]at e;rw[D1 (by rw[<- S.len];exact h)];exact⟨e,rfl⟩
  .rw[DB (by omega),gz]at e;split at e
   .exact absurd (BH e).symm o
   .cases e
 refine⟨S.toFin,by simp[S.len],λi s e=>?_,λi j s u l FX hi p g f=>?_⟩
 .cases s with
  |any=>trivial
  |_=>obtain⟨a,b⟩:=k i _ e (by simp);rw[b];exact S.ok i _ a
 .have ns:s≠.any:=by rintro rfl;cases g
  have m:u≠.any:=by rintro rfl;cases f
  obtain⟨a,b⟩:=k i s hi ns;obtain⟨c,d⟩:=k j u p m;rw[b]at g;rw[d]at f;exact S.Bg i j s u l FX a c g f
end
section
variable{pre:Pre}{t:TA}{k:PV->Prop}
noncomputable def QQ(E:Ent0):Ent:=⟨E,λ_ _ _ _ _ _ _ _ _ d=>d.elim⟩
theorem Cq{N:List Str}{n:Nat}{t:TS}(h:Ac pre vs H Q X)(c:∀ss R,pre ss R->ss.length=n)
  (hw:∀ss R,pre ss R->Ws (ss++List.replicate (N.length - n) .any) t (λ_=>∃k,R=.is k/\k .A9) R):t { nx:=λ_ H'=>Q .A9 H',rt:=Q } (L2.start N vs) H:=by
 obtain⟨ss,R,F,A,a,S,q⟩:=h;have e:vs.length=n:=by have:=S.len;rw[AA]at this;rw[<- this];exact c ss R a
 unfold L2.start;rw[e];refine(hw ss R a).go (QQ (E3 A F H)) _ _ F H (S.grown _) (λA7 σ' F' H'⟨k,e,b⟩S' _=>?_) λv F' H' f ok=>q v F' H' f ok;subst e;exact q .A9 F' H' S'.toFin ⟨.A9,.A9,b⟩
theorem Cs{n:Nat}(b:∀ss R,pre ss R->ss.length=n)(h:Ac pre vs H Q X):vs.length=n:=by
 obtain⟨ss,R,F,A,a,S,q⟩:=h;have:=S.len;rw[AA]at this;rw[<- this];exact b ss R a
end
end Fz
namespace L2
section
variable{X:Cx}
def ZD(K:ZBc):R2:=λx y H Q=>∃p q xs,x=.ref p/\y=.ref q/\AQ K H p xs/\AQ K H q []/\Q (.bl (!decide (xs=[]))) H
theorem ZAN(a:X.A.units<cLine):B6 X (compareOp .NotEq) (ZD X.K):=by
 intro Zb s Z H x y v u Q I f e h;obtain⟨p,q,xs,rfl,rfl,c,b,d⟩:=h;cases f;cases e;obtain⟨A4,i,j,m⟩:=I.list c;obtain⟨DN,g,p2,l⟩:=I.list b;have l1:=i.length;have l2:=g.length;cases xs with
 |nil=>exact Qk a Zb s Z H _ _ _ _ Q I (show RelV (.ref p) (.ref p)from rfl) (show RelV (.ref q) (.ref q)from rfl) ⟨p,q,[],[],rfl,rfl,.inl ⟨c,b⟩,rfl,rfl,d⟩
 |cons y ys=>
  have k:(A4.toArray.size != DN.toArray.size)=true:=by simp only[Bf,<- l1,<- l2];simp
  exact ZB3 j.isList p2.isList k a _ _ _ _ ⟨.bl true,H,I,rfl,d⟩
end
end L2
namespace Lw
open L2
theorem G1:∀{as bs:List Str},as.Nodup->(∀x∈as,x∈bs)->as.length<=bs.length
 | [],_,_,_=>CA _
 |a::as,bs,nd,h=>by
  obtain⟨h1,h2⟩:=List.nodup_cons.mp nd;have b:=h a ES;have q:=G1 (bs:=bs.erase a) h2 λx hx=>(hX (λe:x=a=>h1 (by rw[<- e];exact hx))).mpr (h x (DV _ hx));have e:=Xe b;have p:=Xg b;simp only[CG];omega
structure Ent where
 a:Addr
 ns:List Str
 t:Addr
 r:Str
 g:Nat
 ss:List Str
end Lw
namespace Lw
open L2
noncomputable def dM(i g:Nat):Nat:=if i<g then g+1 else g
noncomputable def d9(r:Str)(g i:Nat):Bool:=if decide (V.str r=V.str "all")=true then true else if decide (V.str r=V.str "ahead")=true then decide ((g:Int)<=(i:Int))else false
theorem Sj{a:List Str}(nd:a.Nodup){g:Nat}{x:Str}(h:a[g]?=some x):a.idxOf x=g:=by
 obtain⟨f,e⟩:=List.getElem?_eq_some_iff.mp h;have hx:x∈a:=Bo h;have b:a.idxOf x<a.length:=List.idxOf_lt_length_iff.mpr hx;have i:a[a.idxOf x]=x:=MZ b;have d:=List.pairwise_iff_getElem.mp nd;rcases Nat.lt_trichotomy (a.idxOf x) g with c|c|c
 .exact absurd (i.trans e.symm) (d _ _ b f c)
 .exact c
 .exact absurd (e.trans i.symm) (d _ _ f b c)
end Lw
namespace L2
section
variable{X:Cx}{Zb:ZBd}{Z:St}{H2:Hp}{s2:Shared}{elt iter:Expr}{x z:Str}{px pz tp pos:Pos}{tk:Nat}{scope:Scope}{AG:List Str}{js:List Nat}{te:TE}{J:It}{fp:List Addr}{it:Addr}
 {tn:Nat->Heap->Prop}
end
end L2
namespace Fz
open L2 Lw
variable{E:Ent0}{ss:List Slot}{Z:L2.St}{F F' H H':Hp}{js:List Nat}{ta tb te:TE}{nx:List Slot->Prop}{R:Aa}{i:Nat}{ns:List Int}{wi:TI}{α:Type}{xs:List PV}
section
variable[Xw]
variable{K:ZBc}{k:PV->Prop}
theorem Sg.Uy(S:Sg E ss Z F H){p:Addr}(hi:ss[i]?=some .AK)(e:Z[i]?=some (some (.ref p)))(s:Bh p H H'):Mv E ss Z F H F H':=by
 obtain⟨g,b,fp,_,f⟩:=S.ok i _ hi;rw[e]at b;cases b;refine S.step (AJ.refl _) (λa o q=>s.same a o (Cy q fp) (S.fh a o q)) (λa o n q=>s.same a o (λz=>?_) q) (λa o q=>.inl q) λj l c d=>?_
 .rw[z]at n;exact n i hi e
 .by_cases z:l=p
  .rw[z];exact s.AK
  .exact BJ.keep (S.E2 c d) λo q=>s.same l o z q
theorem mK(hi:ss[i]?=some .AK)(h:Wp ss te λx=>∃m,x=.int m/\0<m/\m<10 ^ 18/\∀r:Int,0<=r->r<m->k (.int r)):Wp ss (D6 Z9 [] E0 (AU (Ap i) (AU te B3))) k:=⟨λE Z F H Q S q=>by
 obtain⟨p,e,_⟩:=S.ok i _ hi;refine⟨_,e,h.go E Z F H _ S λv x F1 H1 a r⟨m,f,d,Gh,kk⟩=>?_⟩;subst f;cases r.inv;exact⟨p,m,rfl,a.st.E2 hi e,d,Gh,λr H2 c b s=>q _ _ F1 H2 (a.trans (a.st.Uy hi e s)) (.int r) (kk r c b)⟩⟩
def FW(K:ZBc)(ns:List Int):Hp->V->Prop:=λF v=>∃a,v=.ref a/\AQ K F a (ns.map V.int)
theorem OB(K:ZBc)(ns:List Int):∀(v:V)(F F':Hp),AJ F F'->FW K ns F v->FW K ns F' v:=λv F F' s AD=>by obtain⟨a,e,h⟩:=AD;exact⟨a,e,by
 rcases h with(h|⟨o,h⟩)|h
 .exact .inl (.inl (s _ _ h))
 .exact .inl (.inr ⟨o,s _ _ h⟩)
 .exact .inr h⟩
theorem yh(hi:ss[i]?=some (.raw (FW K ns)))(h:k (.int ns.length)):Wp ss (Dm (Q4 K) (AU (Ap i) B3)) k:=⟨λE Z F H Q S q=>by
 obtain⟨v,e,⟨a,c,b⟩,st⟩:=S.ok i _ hi;subst c;obtain⟨d,ea,Fb⟩:=OB K ns _ F H S.fh ⟨a,rfl,b⟩;cases ea;refine⟨_,e,a,_,rfl,.inl Fb,?_⟩;rw[AA];exact q _ _ F H (.refl S) (.int _) h⟩
theorem ZY{j:Nat}(hi:ss[i]?=some (.raw (FW K ns)))(h:Wp ss te λx=>∃m,x=.int m/\0<=m/\m<=1000/\nx (ss.set j .AK)):Ws ss (EB (D6 (Nl K) [] E0 (AU (Ap i) (AU te B3))) (C4 j)) nx R:=⟨λE D Z F H S t A=>by
 obtain⟨v,e,⟨a,w,B⟩,st⟩:=S.ok i _ hi;subst w;refine⟨_,e,h.go E Z F H _ S λv x F1 H1 c r⟨m,y,o,Gh,kk⟩=>?_⟩;subst y;cases r.inv;obtain⟨z,f,NL,_⟩:=c.st.ok i _ hi;rw[e]at f;cases f;obtain⟨C,ea,Fb⟩:=OB K ns _ F1 H1 c.st.fh NL;cases ea;refine⟨a,ns,m,rfl,Fb,o,Gh,λp H2 d s g=>?_⟩;have n:=c.st.grow s;exact t _ _ F1 H2 kk (n.st.setG ⟨p,rfl,c.st.Bk d,.inl (c.st.CS d),g⟩ λl e b u _ q k=>by cases e;exact c.st.HY q d k) c.ff⟩
end
section
variable{K:ZBc}
theorem jN{N:List Str}{vs:List V}{Q:VK}{X:XK}{t:TS}(h:Nj K vs H Q X)(hw:∀ns:List Int,ns.length<=63->Ws (.raw (FW K ns)::List.replicate (N.length - 1) .any) t (λ_=>False) (.is λp=>p=.bl true)):t { nx:=λ_ H'=>Q .A9 H',rt:=Q } (L2.start N vs) H:=by
 obtain⟨a,ns,rfl,c,Yb,q⟩:=h;have S:Sg (E3 [] H H) [.raw (FW K ns)] [some (.ref a)] H H:=by
  have nn:∀{p:Prop}(a:Addr),a∈([]:List Addr)->p:=λa h=>absurd h Af;refine⟨⟨AJ.refl _,AJ.refl _,λ_ _ _ e=>e,λ_ _ e=>.inl e,λa h=>nn a h,λa h=>nn a h,λa h=>nn a h,λa h=>nn a h,λa h=>nn a h,λa h=>nn a h⟩,rfl,λi s hi=>?_,λi j s u l FX hi d b=>?_⟩
  .cases i with
   |zero=>cases hi;exact⟨_,rfl,⟨a,rfl,c⟩,OB K ns _⟩
   |succ i=>simp at hi
  .cases i with
   |zero=>cases hi;cases b
   |succ i=>simp at hi
 refine(hw ns Yb).go (QQ (E3 [] H H)) _ _ H H (S.grown _) (λ_ _ _ _ h=>h.elim) λv F' H' f ok=>?_;obtain⟨p,r,rfl⟩:=ok;cases r.inv;exact q H'
end
section
variable[Xw]
variable{K:ZBc}{k:PV->Prop}
theorem Wi.mono{k a:List PV->Prop}(h:Wi ss wi k)(i:∀xs,k xs->a xs):Wi ss wi a:=⟨λE Z F H R S q=>h.go E Z F H R S λJ xs F' H' m s kk=>q J xs F' H' m s (i xs kk)⟩
theorem E5{tt:TT}{k:List PV->Prop}(c:α->PV)(f:α->Bool)(g:α->PV)
  (h:Wi ss wi λxs=>∃ns:List α,xs=ns.map c/\ns.length<=100000/\(∀x∈ns,Wt (Bt js ss++[.is (c x)]) tt λb=>b=f x)/\(∀x∈ns,f x=true->Wp (Bt js ss++[.is (c x)]) te λp=>p=g x)/\k ((ns.filter f).map g))
  (inj:∀x y,c x=c y->x=y) (nd:js.Nodup:=by decide) (np:Ls js ss=true:=by rfl):Wn ss (HA wi js tt te) k:=by
 by_cases hα:Nonempty α
 .obtain⟨x0⟩:=hα;have inv:∀p:PV,∃x:α,∀y,c y=p->y=x:=λp=>by
   by_cases q:∃y,c y=p
   .obtain⟨y,a⟩:=q;exact⟨y,λz i=>inj _ _ (i.trans a.symm)⟩
   .exact⟨x0,λy a=>absurd ⟨y,a⟩ q⟩
  let d:PV->α:=λp=>Classical.choose (inv p)
  have hd:∀x,d (c x)=x:=λx=>(gm (inv (c x)) x rfl).symm;refine Tt (λp=>f (d p)) (λp=>g (d p)) (h.mono λxs⟨ns,e,i,h1,h2,kk⟩=>?_) nd np;subst e;refine⟨by rw[AA];exact i,λx hx=>?_,λx hx j=>?_,?_⟩
  .obtain⟨y,a,rfl⟩:=List.mem_map.mp hx;rw[hd];exact h1 y a
  .obtain⟨y,a,rfl⟩:=List.mem_map.mp hx;rw[hd]at j ⊢;exact h2 y a j
  .have e:((ns.map c).filter λp=>f (d p)).map (λp=>g (d p))=(ns.filter f).map g:=by
    rw[Xc,CH]
    congr 1
    .funext x;show g (d (c x))=g x;rw[hd]
    .congr 1;funext x;show f (d (c x))=f x;rw[hd]
   rw[e];exact kk
 .refine Tt (λ_=>true) (λp=>p) (h.mono λxs⟨ns,e,i,h1,h2,kk⟩=>?_) nd np;have l:ns=[]:=by
   cases ns with
   |nil=>rfl
   |cons x r=>exact absurd ⟨x⟩ hα
  subst l;subst e;exact⟨by simp,λx hx=>absurd hx (by simp),λx hx=>absurd hx (by simp),kk⟩
theorem str_inj:∀x y:Str,PV.str x=PV.str y->x=y:=λ_ _ e=>by injection e
theorem LO(h:Wp ss ta λp=>∃x,p=.str x/\Wq ss tb λ_ ys=>∃ns:List Str,ys=ns.map PV.str/\k (.bl (decide (x∈ns)))):Wp ss (BU (IQ K false) ta tb) k:=gD h
theorem Yh(h:Wp ss ta λp=>∃x,p=.str x/\Wq ss tb λ_ ys=>∃ns:List Str,ys=ns.map PV.str/\k (.bl (!decide (x∈ns)))):Wp ss (BU (IQ K true) ta tb) k:=gD h
theorem cF(h:Wq ss ta λtp xs=>∃ns:List Str,xs=ns.map PV.str/\Wq ss tb λFf ys=>Ff=tp/\∃a:List Str,ys=a.map PV.str/\k (.bl (decide (ns=a)))):Wp ss (BU (Np K false) ta tb) k:=eO h
theorem cH(h:Wq ss ta λtp xs=>∃ns:List Str,xs=ns.map PV.str/\Wq ss tb λFf ys=>Ff=tp/\∃a:List Str,ys=a.map PV.str/\k (.bl (!decide (ns=a)))):Wp ss (BU (Np K true) ta tb) k:=eO h
theorem Wk{β:Type}(c:α->β)(xs:List α)(lo hi:Option Int):Eg (xs.map c) lo hi=(Eg xs lo hi).map c:=by
 unfold Eg;rw[AA,Xh,hV]
theorem yS(xs:List α)(g:Nat):Eg xs none (some (g:Int))=xs.take g:=by
 unfold Eg;rw[HT.cO,HT.eN,Xa,Rq];rcases Xl g xs.length with h|h
 .rw[Rp h]
 .rw[Xm h,GD,Me h]
theorem ZAL(xs:List α)(g:Nat):Eg xs (some (g:Int)) none=xs.drop g:=by
 unfold Eg;rw[HT.cO,HT.eN];rcases Xl g xs.length with h|h
 .rw[Rp h,Me (by rw[hU];omega)]
 .rw[Xm h,ZAa,List.drop_of_length_le h];simp
variable{ys:List PV}
theorem YG(h:Wq ss ta λtp xs=>tp=false/\∃ns:List Str,xs=ns.map PV.str/\Wp ss tb λp=>∃x,p=.str x/\x∈ns/\k (.int (ns.idxOf x:Nat))):Wp ss (IZ K "list" (ZR K) ta (AU tb B3)) k:=⟨λE Z F H Q S q=>
 h.go E Z F H _ S λv tp xs F1 H1 b sv⟨g,ns,e,h2⟩=>by
  subst e;subst g;obtain⟨l,vs,rfl,f,r⟩:=sv.seq b.st;refine⟨.inl ⟨rfl,_,AQ.of f⟩,h2.go E Z F1 H1 _ b.st λm p2 F2 H2 a c⟨x,i,hx,kk⟩=>?_⟩;subst i;cases c.inv;obtain⟨n,BI,j,FR,d⟩:=(sv.mv a).seq a.st;cases j;rw[d.strs]at FR;exact⟨l,ns,x,rfl,rfl,AQ.of FR,hx,q _ _ F2 H2 (b.trans a) (.int _) kk⟩⟩
noncomputable def Jg(xs:List PV):List PV:=(List.range xs.length).map λi:Nat=>.tup [.int (i:Int),xs.getD i .A9]
theorem U5(xs:List PV):(Jg xs).length=xs.length:=by simp[Jg]
theorem YT{x:PV}(h:xs[i]?=some x):(Jg xs)[i]?=some (.tup [.int (i:Int),x]):=by
 have hi:i<xs.length:=(List.getElem?_eq_some_iff.mp h).1;unfold Jg;rw[Am,Rj hi];show some (PV.tup [PV.int (i:Int),xs.getD i PV.A9])=_;rw[Ri,h];rfl
theorem jS{p:PV}(h:(Jg xs)[i]?=some p):∃x,xs[i]?=some x/\p=.tup [.int (i:Int),x]:=by
 have hi:i<xs.length:=by have:=(List.getElem?_eq_some_iff.mp h).1;rwa [U5]at this
 have e:=Ah hi;refine⟨xs[i],e,?_⟩;rw[YT e]at h;exact(BH h).symm
theorem vD{k:List PV->Prop}(h:Wz ss te λ_ xs=>k (Jg xs)):Wi ss (T4 K (AU te B3)) k:=⟨λE Z F H R S q=>
 h.go E Z F H _ S λv tp xs F1 H1 b f kk=>by
  obtain⟨l,vs,o,a,r⟩:∃l vs,v=.ref l/\(∀(ss:List Slot)(Z:L2.St)(F H:Hp),AJ F1 F->Sg E ss Z F H->H l=some (FZ tp vs))/\AL F1 vs xs:=by
   cases tp with
   |true=>
    have n:Rep F1 v (.tup xs):=f;cases n with
    |tup e r=>exact⟨_,_,rfl,λss Z F H s S=>S.fh _ _ (s _ _ e),r⟩
   |false=>
    obtain⟨l,vs,e,h1,r⟩:=f;refine⟨l,vs,e,λss Z F H s S=>?_,r⟩;rcases h1 with h1|⟨hA,h1⟩
    .exact S.fh _ _ (s _ _ h1)
    .exact S.keep _ _ hA h1
  subst o;refine⟨l,tp,vs,rfl,FZ.sq (a ss Z F1 H1 (AJ.refl _) b.st),q _ (Jg xs) F1 H1 b ⟨λss Z F H i s S hi=>?_,λss Z F H s S=>?_,λss Z F H i x H' s S hi y=>?_⟩ kk⟩
  .rw[U5]at hi;exact⟨FZ.sq (a ss Z F H s S),by rw[r.length];exact hi⟩
  .refine⟨FZ.sq (a ss Z F H s S),?_⟩;rw[U5,r.length];exact Ae _
  .obtain⟨p,y,g,ex,j,t⟩:=y;subst ex;subst t;obtain⟨z,d,c⟩:=r.get' g;have m:=S.alloc j (.tup [.int i,y]);exact⟨_,_,YT d,m,.tup Al (.cons (.int _) (.one (c.mono (s.trans m.ff))))⟩⟩
end
theorem Ej{c A B:Prop}[Decidable c](h:c)(a:A):if c then A else B:=by rw[ir h];exact a
end Fz
namespace L2
theorem ie{X:Cx}{tg:Expr}{a b:Expr}{ta:TA}{p pos:Pos}(v:Gl X "range")(u:X.mg "range"=none)(f:QA X [a,b] ta)(o:starEach [a,b] X.env=[(false,eval a X.env),(false,eval b X.env)]:=by rfl)(CI:starEach [b] X.env=[(false,eval b X.env)]:=by rfl):QI X tg (.Call (.Name "range" p) [a,b] [] pos) (VL ta):=⟨by
 have f:=f.h;intro Zb s Z H R I h;refine Call_ (LF I v u boot_range (Xq (AI (f pos Zb s Z H _ I h) λus w⟨vs,H1,I1,g,d⟩=>?_) (by rw[o,CI]) (by rw[CI];rfl)));obtain⟨i,j,e,⟨d,n,m,l⟩,q⟩:=d;subst e;cases g with
 |cons r c=>
  cases c with
  |cons k c=>
   cases c;obtain⟨t,rfl⟩:=r;obtain⟨t',rfl⟩:=k;exact call_range_2 (ZE I1 d n m l q)⟩
end L2
namespace Fz
open L2 Lw
variable{ss:List Slot}{Z:L2.St}
section
variable[Xw]
variable{E:Ent0}{F H F' H':Hp}{K:ZBc}{js:List Nat}{ta tb tc te:TE}{k:PV->Prop}{nx:List Slot->Prop}{R:Aa}{xs ys:List PV}
noncomputable def Jn(i:Int)(n:Nat):List PV:=(List.range n).map λj:Nat=>PV.int (i+(j:Int))
theorem Of(i:Int)(n:Nat):(Jn i n).length=n:=by simp[Jn]
theorem zR{i:Int}{n j:Nat}{p:PV}(h:(Jn i n)[j]?=some p):j<n/\p=.int (i+(j:Int)):=by
 have a:j<n:=by have:=(List.getElem?_eq_some_iff.mp h).1;rwa [Of]at this
 unfold Jn at h;rw[Am,Rj a]at h;exact⟨a,(BH h).symm⟩
theorem we{k:List PV->Prop}(h:Wp ss ta λp=>∃i:Int,p=.int i/\Wp ss tb λp=>∃j:Int,p=.int j/\(i<=1000000/\-1000000<=i/\j<=1000000/\-1000000<=j)/\k (Jn i (j - i).toNat)):Wi ss (VL (AU ta (AU tb B3))) k:=⟨λE Z F H R S q=>
 h.go E Z F H _ S λv p F1 H1 b r AD=>by
  obtain⟨i,e,h2⟩:=AD;subst e;cases r.inv;exact h2.go E Z F1 H1 _ b.st λg p2 F2 H2 d c Cn=>by
   obtain⟨j,f,l,kk⟩:=Cn;subst f;cases c.inv;refine⟨i,j,rfl,by omega,q _ (Jn i (j - i).toNat) F2 H2 (b.trans d) ⟨λss Z F H n s S a=>?_,λss Z F H s S=>?_,λss Z F H n x H' s S a y=>?_⟩ kk⟩
   .rw[Of]at a;exact a
   .show _<=_;rw[Of];exact Ae _
   .obtain⟨e,hx⟩:=y;subst e;subst hx;rw[Of]at a;refine⟨.int (i+(n:Int)),F,?_,.refl S,.int _⟩;unfold Jn;rw[Am,Rj a];rfl⟩
theorem SR:∀(ps:List PV){vs:List V},FK ss Z F H vs (ps.map Slot.is)->AL F vs ps
 | [],_,h=>by cases h;exact .nil
 |p::ps,_,h=>by
  rw[Aq]at h;cases h with
  |cons a t=>exact .cons a (SR ps t)
theorem dS:∀{ps:List PV}{vs:List V},AL F vs ps->FK ss Z F H vs (ps.map Slot.is):=by
 intro ps vs r
 induction ps generalizing vs with
 |nil=>cases r.D5;exact .nil
 |cons p ps c=>obtain⟨v,ws,rfl,a,b⟩:=r.inv;exact .cons (s:=.is _) a (c b)
theorem nR{pre:Pre}{t:TA}{i:Nat}{ns:List Int}(hi:ss[i]?=some (.raw (FW K ns)))(h:Wp ss te λx=>∃m,x=.int m/\0<=m/\m<=1000/\Wa ss t λl=>∃(ps:List PV)(D:PV->Prop),l=ps.map Slot.is/\pre (.AK::l) (.is D)/\∀p,D p->k p):
  Wp ss (D6 (Ac pre) [] E0 (AU (D6 (Nl K) [] E0 (AU (Ap i) (AU te B3))) t)) k:=⟨λE Z F H Q S q=>by
 obtain⟨v,e,⟨a,ev,hq⟩,st⟩:=S.ok i _ hi;subst ev;refine⟨_,e,h.go E Z F H _ S λv x F1 H1 c r⟨m,em,m0,Gh,hw⟩=>?_⟩;subst em;cases r.inv;obtain⟨v',Y,NL,_⟩:=c.st.ok i _ hi;rw[e]at Y;cases Y;obtain⟨a',ea,Fb⟩:=OB K ns _ F1 H1 c.st.fh NL;cases ea;refine⟨a,ns,m,rfl,Fb,m0,Gh,λp H2 I s T=>?_⟩;have U:=c.st.grow s;refine hw.go E Z F1 H2 _ U.st λvs l F3 H3 B av⟨ps,D,el,HZ,kk⟩=>?_;show Ac pre ((V.ref p::vs)++[]) H3 Q E0;rw[ER];have M:=c.trans (U.trans B);have L:∀(j:Nat)s,ss[j]?=some s->¬ As s Z[j]? p:=λj s b=>c.st.HY b I;have np:Bs ss Z p:=λj b=>L j _ b;have Vu:BJ H3 p:=BJ.keep T λo O=>B.hh p o np O;have Ua:F3 p=none:=by
  cases z:F3 p with
  |none=>rfl
  |some o=>
   rcases B.nn p o z with w|w
   .rw[c.st.Bk I]at w;cases w
   .obtain⟨_,_,R,_⟩:=T;rw[w]at R;cases R
 have S':Sg E (ss++[.AK]) (Z++[some (.ref p)]) F3 H3:=by
  have g:=B.st;have N:∀(j:Nat)s,(ss++[Slot.AK])[j]?=some s->(ss[j]?=some s/\(Z++[some (V.ref p)])[j]?=Z[j]?)∨(s=.AK/\(Z++[some (V.ref p)])[j]?=some (some (.ref p))/\j=ss.length):=λj s b=>by
   by_cases AM:j<ss.length
   .rw[D1 AM]at b;rw[D1 (by rw[<- g.len];exact AM)];exact .inl ⟨b,rfl⟩
   .rw[DB (by omega)]at b;have σ:j - ss.length=0:=by
     have:=(List.getElem?_eq_some_iff.mp b).1
     simpa using this
    rw[σ]at b;refine .inr ⟨by simpa using b.symm,?_,by omega⟩
    rw[DB (by rw[<- g.len];omega),<- g.len,σ];rfl
  refine⟨g.toFin,by simp[g.len],λj s b=>?_,λj G s u l Nq b HE A y=>?_⟩
  .rcases N j s b with⟨J,d⟩|⟨rfl,d,_⟩
   .rw[d];exact g.ok j s J
   .rw[d];exact⟨p,rfl,Ua,.inl (c.st.CS I),Vu⟩
  .rcases N j s b with⟨J,d⟩|⟨rfl,d,a3⟩
   .rcases N G u HE with⟨P,C⟩|⟨rfl,C,_⟩
    .rw[d]at A;rw[C]at y;exact g.Bg j G s u l Nq J P A y
    .rw[d]at A;rw[C]at y;cases y;exact L j s J A
   .rcases N G u HE with⟨P,C⟩|⟨rfl,C,b3⟩
    .rw[d]at A;cases A;rw[C]at y;exact L G u P y
    .exact absurd (a3.trans b3.symm) Nq
 have VQ:(ss++[Slot.AK])[ss.length]?=some .AK:=by rw[DB (Ae _)];simp
 have TC:(Z++[some (V.ref p)])[ss.length]?=some (some (.ref p)):=by rw[B.st.len,DB (Ae _)];simp
 have UN:FK (ss++[Slot.AK]) (Z++[some (V.ref p)]) F3 H3 vs l:=by
  subst el;exact dS (SR ps av)
 refine⟨.AK::l,.is D,F3,[p],HZ,S'.aH VQ TC UN,λv F' H' f⟨pv,r,kp⟩=>?_⟩;have W:∀a,a≠p->a∉[p]:=λa h z=>h (by simpa using z)
 have Ts:H p=none:=c.none I;have mv:Mv E ss Z F H F' H':=by
  refine S.step (M.ff.trans f.f0) f.fh (λa o n e=>f.keep a o ⟨W a (Cy e Ts),Af⟩ (M.hh a o n e)) (λa o e=>?_) λj l b X=>?_
  .rcases f.fresh a o e with w|w
   .exact M.nn a o w
   .exact .inr (M.none w)
  .exact BJ.keep (B.st.E2 b X) λo O=>f.keep l o ⟨W l (by rintro rfl;exact L j _ b X),Af⟩ O
 exact q v pv F' H' mv r (kk pv kp)⟩
end
end Fz
namespace Fz
open L2 Lw
section
variable[Xw]
variable{E:Ent0}{ss:List Slot}{Z:L2.St}{F H F' H':Hp}{K:ZBc}{js:List Nat}{ta tb tc te:TE}{k:PV->Prop}{nx:List Slot->Prop}{R:Aa}{xs ys:List PV}{P:Program}{w:World}
theorem ud(h:Wq ss ta λtp xs=>tp=false/\Wq ss tb λFf ys=>Ff=false/\ys=[]/\k (.bl (!decide (xs.length=0)))):Wp ss (BU (ZD K) ta tb) k:=⟨λE Z F H Q S q=>
 h.go E Z F H _ S λv tp xs F1 H1 b sv⟨g,h2⟩=>h2.go E Z F1 H1 _ b.st λi Ff ys F2 H2 a Nh⟨Up,f,kk⟩=>by
  subst g;subst Up;subst f;obtain⟨l,vs,rfl,d,r⟩:=(sv.mv a).seq a.st;obtain⟨l2,JJ,rfl,DL,c⟩:=Nh.seq a.st;cases c;refine⟨l,l2,vs,rfl,rfl,AQ.of d,AQ.of DL,?_⟩;have e:decide (vs=[])=decide (xs.length=0):=by
   rw[<- r.length];cases vs <;> simp
  rw[e];exact q _ _ F2 H2 (b.trans a) (.bl _) kk⟩
end
end Fz
namespace Fz
open L2 Lw
variable{E:Ent0}{ss:List Slot}{Z:L2.St}{F F' F0 F1 H H' H0:Hp}{js m p:List Nat}{ta tb tc te ti:TE}{nx:List Slot->Prop}{R:Aa}{us xs:List OV}{a:Addr}{i j:Nat}{n u x y:OV}{BI vs:List V}{v:V}{tr:TA}{ps:List PV}
noncomputable def OV.at(t:OV):List Nat->Option OV
 | []=>some t
 |j::p=>match t with
  | .nd _ _ xs=>(xs[j]?).bind λx=>OV.at x p
  | .tp xs=>(xs[j]?).bind λx=>OV.at x p
  | .fz _=>none
noncomputable def OV.put(t:OV)(l:List Nat)(n:OV):OV:=match l with
 | []=>n
 |j::p=>match t with
  | .nd k a xs=>match xs[j]? with
   |some x=>.nd k a (xs.set j (OV.put x p n))
   |none=>.nd k a xs
  | .tp xs=>match xs[j]? with
   |some x=>.tp (xs.set j (OV.put x p n))
   |none=>.tp xs
  | .fz q=>.fz q
theorem OV.JR{t:OV}:t.at []=some t:=by rw[OV.at]
theorem OV.LI{k:NK}:(OV.nd k a xs).at (j::p)=(xs[j]?).bind λx=>x.at p:=by rw[OV.at]
theorem OV.Nb:(OV.tp xs).at (j::p)=(xs[j]?).bind λx=>x.at p:=by rw[OV.at]
theorem OV.HR{t:OV}:t.put [] n=n:=by rw[OV.put]
theorem OV.Jx{k:NK}(h:xs[j]?=some x):(OV.nd k a xs).put (j::p) n=.nd k a (xs.set j (x.put p n)):=by rw[OV.put,h]
theorem OV.Og(h:xs[j]?=some x):(OV.tp xs).put (j::p) n=.tp (xs.set j (x.put p n)):=by rw[OV.put,h]
theorem OV.Ss{u w:OV}:∀{p:List Nat}{t:OV}{j:Nat},t.at p=some u->u.at [j]=some w->t.at (p++[j])=some w
 | [],t,j,h,h2=>by rw[OV.JR]at h;cases h;exact h2
 |i::p,.nd k a xs,j,h,h2=>by
  rw[OV.LI]at h;rw[gu,OV.LI];cases e:xs[i]? with
  |none=>rw[e]at h;cases h
  |some x=>rw[e]at h;exact OV.Ss (t:=x) h h2
 |i::p,.tp xs,j,h,h2=>by
  rw[OV.Nb]at h;rw[gu,OV.Nb];cases e:xs[i]? with
  |none=>rw[e]at h;cases h
  |some x=>rw[e]at h;exact OV.Ss (t:=x) h h2
 |i::p,.fz q,j,h,h2=>by rw[OV.at]at h;cases h
theorem JT:∀{xs:List OV}{j:Nat}{x:OV},xs[j]?=some x->∃l r,OV.AW xs=l++x.addrs++r/\∀y:OV,OV.AW (xs.set j y)=l++y.addrs++r
 |x::xs,0,z,h=>by
  simp at h;subst h;exact⟨[],OV.AW xs,by rw[OV.Cr];rfl,λy=>by rw[i5,OV.Cr];rfl⟩
 |x::xs,j+1,z,h=>by
  obtain⟨l,r,b,a⟩:=JT (xs:=xs) (j:=j) (x:=z) (by simpa using h)
  refine⟨x.addrs++l,r,by rw[OV.Cr,b];simp[Bv],λy=>by rw[Rl,OV.Cr,a];simp[Bv]⟩
theorem OV.split{u:OV}:∀{p:List Nat}{t:OV},t.at p=some u->∃l r,t.addrs=l++u.addrs++r/\∀n:OV,(t.put p n).addrs=l++n.addrs++r
 | [],t,h=>by rw[OV.JR]at h;cases h;exact⟨[],[],by simp,λn=>by rw[OV.HR];simp⟩
 |j::p,.nd k a xs,h=>by
  rw[OV.LI]at h;cases e:xs[j]? with
  |none=>rw[e]at h;cases h
  |some x=>
   rw[e]at h;obtain⟨l,r,g,f⟩:=JT e;obtain⟨l2,b,d,c⟩:=OV.split (t:=x) h;refine⟨a::(k.more++(l++l2)),b++r,by rw[OV.Ce,g,d];simp[Bv],λn=>by rw[OV.Jx e,OV.Ce,f,c];simp[Bv]⟩
 |j::p,.tp xs,h=>by
  rw[OV.Nb]at h;cases e:xs[j]? with
  |none=>rw[e]at h;cases h
  |some x=>
   rw[e]at h;obtain⟨l,r,g,f⟩:=JT e;obtain⟨l2,b,d,c⟩:=OV.split (t:=x) h;refine⟨l++l2,b++r,by rw[OV.G4,g,d];simp[Bv],λn=>by rw[OV.Og e,OV.G4,f,c];simp[Bv]⟩
 |j::p,.fz q,h=>by rw[OV.at]at h;cases h
theorem Au.get{F H:Hp}{vs:List V}{ts:List OV}{j:Nat}{t:OV}(r:Au F H vs ts)(e:ts[j]?=some t):∃v,vs[j]?=some v/\Aj F H v t:=by
 induction ts generalizing vs j with
 |nil=>cases e
 |cons q ps c=>
  obtain⟨v,ws,rfl,a,b⟩:=r.inv;cases j with
  |zero=>cases e;exact⟨_,rfl,a⟩
  |succ j=>exact c (vs:=ws) (j:=j) b e
theorem Au.append{ws:List V}{ys:List OV}(r:Au F H vs xs)(s:Au F H ws ys):Au F H (vs++ws) (xs++ys):=by
 induction xs generalizing vs with
 |nil=>cases r.D5;exact s
 |cons p ps c=>obtain⟨v,us,rfl,a,b⟩:=r.inv;exact .cons a (c b)
theorem Au.one{t:OV}(r:Aj F H v t):Au F H [v] [t]:=.cons r .nil
theorem Rw{xs:List PV}(r:AL F vs xs):Au F H vs (xs.map .fz):=by
 induction xs generalizing vs with
 |nil=>cases r.D5;exact .nil
 |cons p ps c=>obtain⟨v,us,rfl,a,b⟩:=r.inv;exact .cons (.fz a) (c b)
theorem Au.RD{xs:List PV}(r:Au F H vs (xs.map .fz)):AL F vs xs:=by
 induction xs generalizing vs with
 |nil=>cases r.D5;exact .nil
 |cons p ps c=>obtain⟨v,us,rfl,a,b⟩:=r.inv;exact .cons a.inv (c b)
theorem OH:∀(xs:List PV),OV.AW (xs.map .fz)=[]
 | []=>by rw[Im,OV.AW]
 |x::r=>by rw[Aq,OV.Cr,OV.LG,OH r];rfl
theorem Au.set(j:Nat){t:OV}(r:Au F H vs xs)(q:Aj F H v t):Au F H (vs.set j v) (xs.set j t):=by
 induction xs generalizing vs j with
 |nil=>cases r.D5;exact .nil
 |cons p ps c=>
  obtain⟨u,us,rfl,a,b⟩:=r.inv;cases j with
  |zero=>exact .cons q b
  |succ j=>exact .cons a (c j b)
theorem Au.swap(r:Au F H vs xs)(h:xs[j]?=some x)(e:vs[j]?=some v)(hk:∀l r,OV.AW xs=l++x.addrs++r->(∀z:OV,OV.AW (xs.set j z)=l++z.addrs++r)->∀b∈l++r,∀o,H b=some o->H' b=some o)(f:Aj F H' v y):Au F H' vs (xs.set j y):=by
 induction xs generalizing vs j with
 |nil=>cases h
 |cons p ps k=>
  obtain⟨u,us,rfl,a,b⟩:=r.inv;cases j with
  |zero=>
   cases h;cases e;refine .cons f (b.mono (AJ.refl _) λc d o=>hk [] (OV.AW ps) (by rw[OV.Cr];rfl) (λz=>by rw[i5,OV.Cr];rfl) c d o)
  |succ j=>
   rw[Rl];obtain⟨l,q,n,m⟩:=JT (xs:=ps) (j:=j) h;refine .cons (a.mono (AJ.refl _) λc d o=>hk (p.addrs++l) q (by rw[OV.Cr,n,Bv,Bv,Bv]) (λz=>by rw[Rl,OV.Cr,m,Bv,Bv,Bv]) c (GB _ (GB _ d)) o) (k (vs:=us) (j:=j) b h e λi g DD Bx c d o=>?_);refine hk (p.addrs++i) g (by rw[OV.Cr,DD,Bv,Bv,Bv]) (λz=>by rw[Rl,OV.Cr,Bx,Bv,Bv,Bv]) c ?_ o;rcases List.mem_append.mp d with hz|hz
   .exact GB _ (FE _ hz)
   .exact FE _ hz
theorem Aj.at{F H:Hp}{u:OV}:∀{p:List Nat}{t:OV}{v:V},Aj F H v t->t.at p=some u->∃w,Aj F H w u/\∀(H':Hp)(n:OV),Aj F H' w n->(∀l r,t.addrs=l++u.addrs++r->(∀n:OV,(t.put p n).addrs=l++n.addrs++r)->∀b∈l++r,∀o,H b=some o->H' b=some o)->Aj F H' v (t.put p n)
 | [],t,v,h,e=>by rw[OV.JR]at e;cases e;exact⟨v,h,λH' n r _=>by rw[OV.HR];exact r⟩
 |j::p,.fz q,v,h,e=>by rw[OV.at]at e;cases e
 |j::p,.nd k a xs,_,.nd h sd ft r,e=>by
  rw[OV.LI]at e;cases ex:xs[j]? with
  |none=>rw[ex]at e;cases e
  |some x=>
   rw[ex]at e;obtain⟨G,U3,A⟩:=r.get ex;obtain⟨w,d,go⟩:=Aj.at (t:=x) A e;refine⟨w,d,λH' n y hk=>?_⟩;obtain⟨l2,s,E,D⟩:=OV.split e;have key:∀l r,OV.AW xs=l++x.addrs++r->(∀z:OV,OV.AW (xs.set j z)=l++z.addrs++r)->∀b,b∈(a::(k.more++(l++l2)))++(s++r)->∀o,H b=some o->H' b=some o:=λl r m i b c o=>
    hk (a::(k.more++(l++l2))) (s++r) (by rw[OV.Ce,m,E];simp[Bv]) (λn=>by rw[OV.Jx ex,OV.Ce,i,D];simp[Bv]) b c o
   obtain⟨l,q,m,i⟩:=JT ex;rw[OV.Jx ex];refine .nd (key l q m i a (by simp) _ h) (NK.ZG sd λb c=>key l q m i b (by simp[c])) ft ?_;refine r.swap ex U3 (λg f DD Bx b c o=>key g f DD Bx b (by rcases List.mem_append.mp c with hz|hz <;> simp[hz]) o) ?_
   refine go H' n y λg f C B b c o=>?_;refine hk (a::(k.more++(l++g))) (f++q) (by rw[OV.Ce,m,C];simp[Bv]) (λn=>by rw[OV.Jx ex,OV.Ce,i,B];simp[Bv]) b (by rcases List.mem_append.mp c with hz|hz <;> simp[hz]) o
 |j::p,.tp xs,_,.tp h r,e=>by
  rw[OV.Nb]at e;cases ex:xs[j]? with
  |none=>rw[ex]at e;cases e
  |some x=>
   rw[ex]at e;obtain⟨G,U3,A⟩:=r.get ex;obtain⟨w,d,go⟩:=Aj.at (t:=x) A e;refine⟨w,d,λH' n y hk=>?_⟩;obtain⟨l2,s,E,D⟩:=OV.split e;obtain⟨l,q,m,i⟩:=JT ex;rw[OV.Og ex];refine .tp h (r.swap ex U3 (λg f DD Bx b c o=>?_) (go H' n y λg f C B b c o=>?_))
   .exact hk (g++l2) (s++f) (by rw[OV.G4,DD,E];simp[Bv]) (λn=>by rw[OV.Og ex,OV.G4,Bx,D];simp[Bv]) b (by rcases List.mem_append.mp c with hz|hz <;> simp[hz]) o
   .exact hk (l++g) (f++q) (by rw[OV.G4,m,C];simp[Bv]) (λn=>by rw[OV.Og ex,OV.G4,i,B];simp[Bv]) b (by rcases List.mem_append.mp c with hz|hz <;> simp[hz]) o
theorem Wu{l u r n:List Addr}(h:(l++u++r).Nodup)(g:n.Nodup)(hd:∀b∈n,b∈u∨b∉l++u++r):(l++n++r).Nodup:=by
 rw[CM]at h ⊢;obtain⟨h1,h2,f⟩:=h;rw[CM]at h1 ⊢;obtain⟨j,k,i⟩:=h1;refine⟨⟨j,g,λa c b d e=>?_⟩,h2,λa c b d e=>?_⟩
 .subst e;rcases hd a d with z|z
  .exact i a c a z rfl
  .exact z (by simp[c])
 .subst e;rcases List.mem_append.mp c with c|c
  .exact f a (by simp[c]) a d rfl
  .rcases hd a c with z|z
   .exact f a (by simp[z]) a d rfl
   .exact z (by simp[d])
theorem Sg.NZ(S:Sg E ss Z F H){t:OV}{k:NK}{ho:HO}{lt:Bool}(hi:ss[i]?=some (.ow lt t))(BO:t.at p=some (.nd k a xs))(M:Aj F (upd H a ho) (.ref a) n)(nd:n.addrs.Nodup)
  (A:∀b∈n.addrs,b∈(OV.nd k a xs).addrs∨(F b=none/\E.H0 b=none/\∀(j:Nat)s,ss[j]?=some s->¬ As s Z[j]? b)):Sg E (ss.set i (.ow lt (t.put p n))) Z F (upd H a ho):=by
 obtain⟨v,e,r,SG,q⟩:=S.ok i _ hi;obtain⟨l,K,g,B⟩:=OV.split BO;have f:a∈(OV.nd k a xs).addrs:=by rw[OV.Ce];simp
 have u:∀b∈(OV.nd k a xs).addrs,b∈t.addrs:=λb c=>by rw[g];simp[c]
 have W:∀b∈n.addrs,b∈(OV.nd k a xs).addrs∨b∉t.addrs:=λb c=>(A b c).imp id λz m=>z.2.2 i _ hi m;obtain⟨w,x,go⟩:=r.at BO;have O:w=.ref a:=by cases x;rfl
 subst O;have h:∀(j:Nat)s,(ss.set i .any)[j]?=some s->∀b,b∈t.addrs->¬ As s Z[j]? b:=λj s d b c m=>by
  by_cases z:j=i
  .subst z;rw[CL (List.getElem?_eq_some_iff.mp hi).1]at d;cases d;cases m
  .rw[C0 (B5 z)]at d;exact S.Bg j i s _ b z d hi m c
 have V:=(S.drop i).KR (o:=ho) (q a (u a f)).1 ((q a (u a f)).2.imp id λz=>z.2) λj s d=>h j s d a (u a f);have D:=SG;rw[g,CM,CM]at D;obtain⟨⟨_,_,Q⟩,_,P⟩:=D;have U:∀b,b∈l++K->b≠a:=λb c z=>by
  subst z;rcases List.mem_append.mp c with c|c
  .exact Q b c b f rfl
  .exact P b (by simp[f]) b c rfl
 have L:Aj F (upd H a ho) v (t.put p n):=go _ n M λY X N σ b c o J=>by
  rw[AS ?_];exact J;rintro rfl;have G:=SG;rw[N,CM,CM]at G;obtain⟨⟨_,_,T⟩,_,R⟩:=G;rcases List.mem_append.mp c with c|c
  .exact T b c b f rfl
  .exact R b (by simp[f]) b c rfl
 have C:∀b∈(t.put p n).addrs,b∈t.addrs∨(F b=none/\E.H0 b=none/\∀(j:Nat)s,ss[j]?=some s->¬ As s Z[j]? b):=λb c=>by
  rw[B]at c;rcases List.mem_append.mp c with c|c
  .rcases List.mem_append.mp c with c|c
   .exact .inl (by rw[g];simp[c])
   .exact(A b c).imp (u b) id
  .exact .inl (by rw[g];simp[c])
 have I:=V.setG (j:=i) (s:=.ow lt (t.put p n)) (v:=v) ⟨v,rfl,L,by rw[B];exact Wu (g▸SG) nd λb c=>(W b c).imp id (by rw[g];exact id),λb c=>(C b c).elim (q b) λz=>⟨z.1,.inl z.2.1⟩⟩ λb c j s d y m=>by
  rcases C b c with z|z
  .exact h j s y b z m
  .rw[C0 (B5 d)]at y;exact z.2.2 j s y m
 rw[Qo e,Rm]at I;exact I
structure Wl [Xw] (ss:List Slot) (i:Nat) (t:OV) (te:TE) (k:List Nat->OV->Prop):Prop where
 hi:∃lt,ss[i]?=some (.ow lt t)
 go:∀(E:Ent)(Z:L2.St)(F H:Hp)(Q:VK),Sg E ss Z F H->(∀v p u F' H',Mv E ss Z F H F' H'->Aj F' H' v u->t.at p=some u->k p u->Q v H')->te Z H Q
noncomputable def DH:List Nat->List Slot->List Slot
 | [],ss=>ss
 |i::m,ss=>DH m (ss.set i .any)
structure Wx [Xw] (ss:List Slot) (te:TE) (k:List Nat->OV->Prop):Prop where
 go:∀(E:Ent)(Z:L2.St)(F H:Hp)(Q:VK),Sg E ss Z F H->(∀v m u F' H',Mv E ss Z F H F' H'->Aj F' H' v u->u.addrs.Nodup->(∀a∈u.addrs,F' a=none/\E.H0 a=none/\((∃i∈m,∃s,s≠Slot.AK/\ss[i]?=some s/\As s Z[i]? a)∨H a=none))->k m u->Q v H')->te Z H Q
structure LB [Xw] (ss:List Slot) (te:TA) (k:List Nat->List OV->Prop):Prop where
 go:∀(E:Ent)(Z:L2.St)(F H:Hp)(Q:List V->Hp->Prop),Sg E ss Z F H->(∀vs m us F' H',Mv E ss Z F H F' H'->Au F' H' vs us->(OV.AW us).Nodup->(∀a∈OV.AW us,F' a=none/\E.H0 a=none/\((∃i∈m,∃s,s≠Slot.AK/\ss[i]?=some s/\As s Z[i]? a)∨H a=none))->k m us->Q vs H')->te Z H Q
section
variable[Xw]
variable{K:ZBc}{k:PV->Prop}{xs:List PV}{t:OV}
theorem OV.Ji(h:t.at p=some u):∀a∈u.addrs,a∈t.addrs:=λa b=>by
 obtain⟨l,r,e,_⟩:=OV.split h;rw[e];simp[b]
theorem Aj.mv(r:Aj F H v u)(S:Sg E ss Z F H)(hi:∃lt,ss[i]?=some (.ow lt t))(h:t.at p=some u)(m:Mv E ss Z F H F' H'):Aj F' H' v u:=
 r.mono m.ff λa b o e=>m.hh a o (S.OM hi.choose_spec (OV.Ji h a b) (by simp)) e
theorem Hq{lt:Bool}{k:List Nat->OV->Prop}(hi:ss[i]?=some (.ow lt t))(hk:k [] t):Wl ss i t (Ap i) k:=⟨⟨lt,hi⟩,λE Z F H Q S q=>by
 obtain⟨v,e,r,_,_⟩:=S.ok i _ hi;exact⟨v,e,q v [] t F H (.refl S) r OV.JR hk⟩⟩
theorem IF{k:List Nat->OV->Prop}(h:Wp ss te λp=>k [] (.fz p)):Wx ss te k:=⟨λE Z F H Q S q=>
 h.go E Z F H _ S λv p F1 H1 c r kk=>q v [] (.fz p) F1 H1 c (.fz r) (by rw[OV.LG];exact GC) (λa b=>by rw[OV.LG]at b;cases b) kk⟩
theorem Ya(a:Addr)(xs:List PV):(OV.nd .lst a (xs.map .fz)).addrs=[a]:=by rw[OV.Ce,OH];rfl
theorem qp{k:List Nat->OV->Prop}(h:Wn ss te λxs=>∀l,k [] (.nd .lst l (xs.map .fz))):Wx ss te k:=⟨λE Z F H Q S q=>
 h.go E Z F H _ S λl vs xs F1 H1 d f b KQ r kk=>q _ [] _ F1 H1 d (.nd (k:=.lst) KQ trivial trivial (Rw r)) (by rw[Ya];simp) (λa c=>by
  rw[Ya]at c;have e:a=l:=by simpa using c
  subst e;exact⟨f,S.CS b,.inr b⟩) (kk l)⟩
theorem aj{k:List Nat->List OV->Prop}(h:k [] []):LB ss B3 k:=⟨λE Z F H Q S q=>q _ [] [] F H (.refl S) .nil (by rw[OV.FP];exact GC) (λa b=>by rw[OV.FP]at b;cases b) h⟩
theorem Wx.jq(S:Sg E ss Z F H)(h:(∃i∈m,∃s,s≠Slot.AK/\ss[i]?=some s/\As s Z[i]? a)∨H a=none):Bs ss Z a:=by
 rcases h with⟨j,_,s,c,b,o⟩|z
 .exact S.OM b o c
 .exact S.He z
theorem Mv.bf(m:Mv E ss Z F H F' H')(h:F a=Option.none)(h2:H a≠Option.none):F' a=Option.none:=by
 cases e:F' a with
 |none=>rfl
 |some o=>
  rcases m.nn a o e with z|z
  .rw[h]at z;cases z
  .exact absurd z h2
theorem Lu{k:List Nat->List OV->Prop}(h:Wx ss te λm u=>LB ss tr λd us=>(∀i∈m,i∉d)/\k (m++d) (u::us)):LB ss (AU te tr) k:=⟨λE Z F H Q S q=>
 h.go E Z F H _ S λv m u F1 H1 p l Gb t h2=>h2.go E Z F1 H1 _ p.st λvs n us F2 H2 d A Gm y AD=>by
  obtain⟨G,kk⟩:=AD;have np:∀a∈u.addrs,Bs ss Z a:=λa c=>Wx.jq S (t a c).2.2;refine q (v::vs) (m++n) (u::us) F2 H2 (p.trans d) (.cons (l.mono d.ff λa c o e=>d.hh a o (np a c) e) A) ?_ (λa c=>?_) kk
  .rw[OV.Cr,CM];refine⟨Gb,Gm,λa c b D e=>?_⟩;subst e;rcases(y a D).2.2 with⟨B,HE,s2,Hi,CI,x⟩|z
   .rcases(t a c).2.2 with⟨j,g,s,I,C,o⟩|z
    .exact S.Bg j B s s2 a (by rintro rfl;exact G j g HE) C CI o x
    .exact S.Dj CI x z
   .exact l.there a c z
  .rw[OV.Cr]at c;rcases List.mem_append.mp c with c|c
   .obtain⟨f,r,w⟩:=t a c;exact⟨d.bf f (l.there a c),r,w.imp (λCn=>by obtain⟨j,g,z⟩:=Cn;exact⟨j,by simp[g],z⟩) id⟩
   .obtain⟨f,r,w⟩:=y a c;exact⟨f,r,w.imp (λWZ=>by obtain⟨j,g,z⟩:=WZ;exact⟨j,by simp[g],z⟩) p.none⟩⟩
theorem qU{k:List Nat->OV->Prop}(h:LB ss tr λm us=>us.length<=100000/\k m (.tp us)):Wx ss (RK tr) k:=⟨λE Z F H Q S q=>
 h.go E Z F H _ S λvs m us F1 H1 i c Gb n AD=>by obtain⟨j,kk⟩:=AD;exact⟨small (by rw[c.length];exact j),λp d=>by
  have g:=i.st.alloc d (.tup vs);refine q _ m (.tp us) _ _ (i.trans g) (.tp Al (c.mono g.ff λa b o e=>by rw[AS (by rintro rfl;exact c.there _ b d)];exact e)) (by rw[OV.G4];exact Gb) (λa b=>?_) kk;rw[OV.G4]at b;obtain⟨f,l,w⟩:=n a b;exact⟨by rw[AS (by rintro rfl;exact c.there _ b d)];exact f,l,w⟩⟩⟩
theorem NT{j:Nat}{s:Slot}:∀{m:List Nat}{ss:List Slot},(DH m ss)[j]?=some s->s=.any∨(ss[j]?=some s/\j∉m)
 | [],ss,h=>.inr ⟨h,by simp⟩
 |i::m,ss,h=>by
  rcases NT (m:=m) (ss:=ss.set i .any) h with e|⟨e,hm⟩
  .exact .inl e
  .by_cases q:j=i
   .subst q;have a:j<ss.length:=by have:=(List.getElem?_eq_some_iff.mp e).1;simpa using this
    rw[CL a]at e;exact .inl (BH e).symm
   .rw[C0 (B5 q)]at e;exact .inr ⟨e,by simp[q,hm]⟩
theorem Sg.DH{E:Ent0}{Z:L2.St}{F H:Hp}:∀(m:List Nat){ss:List Slot},Sg E ss Z F H->Sg E (Fz.DH m ss) Z F H
 | [],_,S=>S
 |i::m,_,S=>Sg.DH m (S.drop i)
theorem Sg.fO(S0:Sg E ss Z F0 H0)(S:Sg E ss Z F H)(r:Aj F H v u)(nd:u.addrs.Nodup)(c:∀a∈u.addrs,F a=none/\E.H0 a=none/\((∃i∈m,∃s,s≠Slot.AK/\ss[i]?=some s/\As s Z[i]? a)∨H0 a=none)):
  Sg E ((Fz.DH m ss).set j (.ow false u)) (Z.set j (some v)) F H:=by
 refine(S.DH m).setG ⟨v,rfl,r,nd,λa b=>⟨(c a b).1,.inl (c a b).2.1⟩⟩ λa b i s FX f o=>?_;rcases NT f with e|⟨Ge,hm⟩
 .subst e;cases o
 .rcases(c a b).2.2 with⟨i2,EY,s2,_,CI,d⟩|z
  .exact S.Bg i i2 s s2 a (by rintro rfl;exact hm EY) Ge CI o d
  .exact S0.Dj Ge o z
theorem Ni(h:Wx ss te λm u=>nx ((Fz.DH m ss).set j (.ow false u))):Ws ss (EB te (C4 j)) nx R:=⟨λE D Z F H S c d=>
 h.go E Z F H _ S λv m u F1 H1 a r nd b kk=>c _ _ F1 H1 kk (Sg.fO S a.st r nd b) a.ff⟩
theorem Aj.rep(ff:AJ F F1):∀{v:V}{t:OV},Aj F H v t->(∀a∈t.addrs,∀o,H a=some o->F1 a=some o)->Rep F1 v t.pv:=by
 intro v t r h;exact Aj.rec (motive_1:=λv t _=>(∀a∈t.addrs,∀o,H a=some o->F1 a=some o)->Rep F1 v t.pv) (motive_2:=λvs ts _=>(∀a∈OV.AW ts,∀o,H a=some o->F1 a=some o)->AL F1 vs (OV.Ci ts))
  (λ{v p}r _=>by rw[OV.pv];exact r.mono ff)
  (λ{a vs xs}e _ c h=>by rw[OV.pv];exact .tup (ff _ _ e) (c (by rw[OV.G4]at h;exact h)))
  (λ{k a vs xs}e i g _ c h=>by
   rw[OV.Ce]at h;have f:=c λa b=>h a (by simp[b]);have d:=h a (by simp) _ e;cases k with
   |lst=>rw[OV.pv];exact .lst d f
   |Ag ks=>rw[OV.pv];exact .Ag d g f
   |obj C dx ns=>rw[OV.pv];exact .obj d (h dx (by simp[NK.more]) _ i) g f
   |IJ ks=>rw[OV.pv];exact .con)
  (λ_=>by rw[OV.Ci];exact .nil)
  (λ_ _ OJ Kq h=>by
   rw[OV.Cr]at h;rw[OV.Ci];exact .cons (OJ λa b=>h a (by simp[b])) (Kq λa b=>h a (by simp[b])))
  r h
theorem Zh{t':TS}(i:Nat)(hi:ss[i]?=some (.ow false t))(h:Ws (ss.set i (.is t.pv)) t' nx R):Ws ss t' nx R:=⟨λE D Z F H S l k=>by
 obtain⟨v,e,r,nd,f⟩:=S.ok i _ hi;obtain⟨S1,g⟩:=(S.drop i).lay t.addrs (λa b=>⟨(f a b).1,(f a b).2.elim id (λz=>by cases z.1),r.there a b⟩) λa b j s c m=>by
  by_cases q:j=i
  .subst q;rw[CL (List.getElem?_eq_some_iff.mp hi).1]at c;cases c;cases m
  .rw[C0 (B5 q)]at c;exact S.Bg j i s _ a q c hi m b
 have d:=S1.ED (j:=i) (v:=v) (p:=t.pv) (r.rep g λa b o ho=>by unfold Cd;rw[ir b];exact ho);rw[Qo e,Rm]at d;exact h.go E D Z _ H d (λBD σ2 F2 H2 n d s2=>l BD σ2 F2 H2 n d (g.trans s2)) k⟩
variable{lt:Bool}
theorem Le:(OV.nd .lst a us).addrs=a::OV.AW us:=by rw[OV.Ce];rfl
theorem JM:∀(us ws:List OV),OV.AW (us++ws)=OV.AW us++OV.AW ws
 | [],ws=>by rw[Mc,OV.FP,Mc]
 |u::us,ws=>by rw[gu,OV.Cr,OV.Cr,JM us ws,Bv]
theorem Jt(u:OV):OV.AW [u]=u.addrs:=by rw[OV.Cr,OV.FP,ER]
theorem Sg.fG{BK:List OV}(S0:Sg E ss Z F0 H0)(S:Sg E ss Z F H)(hi:ss[i]?=some (.ow lt t))(BO:t.at p=some (.nd .lst a us))
  (d:∀a∈u.addrs,F a=none/\E.H0 a=none/\((∃i∈m,∃s,s≠Slot.AK/\ss[i]?=some s/\As s Z[i]? a)∨H0 a=none)) (Dt:i∉m)
  (G:Au F H BI BK) (Oo:(OV.AW BK).Nodup) (Hu:∀b∈OV.AW BK,b∈OV.AW us∨b∈u.addrs):Sg E ((Fz.DH m ss).set i (.ow lt (t.put p (.nd .lst a BK)))) Z F (upd H a (.lst BI)):=by
 have L:(Fz.DH m ss)[i]?=some (.ow lt t):=by
  have n:∀(m:List Nat)(ss:List Slot),ss[i]?=some (.ow lt t)->i∉m->(Fz.DH m ss)[i]?=some (.ow lt t):=by
   intro m
   induction m with
   |nil=>intro ss h _;exact h
   |cons j m D=>
    intro ss h f;refine D _ ?_ λz=>f (by simp[z]);rw[C0 (by rintro rfl;exact f (by simp))];exact h
  exact n m ss hi Dt
 obtain⟨v,e,r,nd,q⟩:=S.ok i _ hi;have B:∀b,b∈a::OV.AW us->b∈t.addrs:=λb c=>OV.Ji BO b (by rw[Le];exact c);have K:∀b∈u.addrs,b∉t.addrs:=λb c z=>by
  rcases(d b c).2.2 with⟨j,I,s,_,g,o⟩|w
  .exact S.Bg j i s _ b (by rintro rfl;exact Dt I) g hi o z
  .exact S0.Dj hi z w
 have A:(OV.nd .lst a us).addrs.Nodup:=by
  obtain⟨l,M,J,_⟩:=OV.split BO;rw[J,CM,CM]at nd;exact nd.1.2.1
 rw[Le]at A;have x:∀b∈OV.AW BK,b≠a:=λb c z=>by
  subst z;rcases Hu b c with w|w
  .exact(List.nodup_cons.mp A).1 w
  .exact K b w (B b (by simp))
 refine(S.DH m).NZ L BO (.nd (k:=.lst) Al trivial trivial (G.mono (AJ.refl _) λb c o ho=>by rw[AS (x b c)];exact ho)) (by rw[Le];exact List.nodup_cons.mpr ⟨λz=>x a z rfl,Oo⟩) λb c=>?_;rw[Le]at c ⊢;rcases List.mem_cons.mp c with w|w
 .exact .inl (by simp[w])
 .rcases Hu b w with z|z
  .exact .inl (by simp[z])
  .refine .inr ⟨(d b z).1,(d b z).2.1,λj s g o=>?_⟩;rcases NT g with y|⟨Ge,f⟩
   .subst y;cases o
   .rcases(d b z).2.2 with⟨i2,EY,s2,_,CI,C⟩|y
    .exact S.Bg j i2 s s2 b (by rintro rfl;exact f EY) Ge CI o C
    .exact S0.Dj Ge o y
theorem kU(h:Wl ss i t ta λp u=>∃lt a us,ss[i]?=some (.ow lt t)/\u=.nd .lst a us/\us.length<=99999/\Wx ss te λm w=>i∉m/\nx ((DH m ss).set i (.ow lt (t.put p (.nd .lst a (us++[w])))))):Ws ss (Hx (IZ K "list" Qc ta (AU te B3))) nx R:=⟨λE D Z F H S U hr=>
 h.go E Z F H _ S λv p u F1 H1 c O h1⟨lt,a,us,hi,Y,P,hw⟩=>by
  subst Y;cases O with
  |@nd k a' vs _ r L X g=>
   refine .inl ⟨rfl,_,AQ.of r⟩ |> λn=>⟨n,hw.go E Z F1 H1 _ c.st λG m w F2 H2 d N Gm A⟨Dt,kk⟩=>?_⟩;have M:=(Aj.nd (k:=.lst) r L X g).mv c.st h.hi h1 d;cases M with
   |@nd _ _ I _ C J W z=>
    refine⟨a,I,G,rfl,rfl,C,Gi (by rw[z.length];exact P),?_⟩;refine U _ Z F2 _ kk (Sg.fG (u:=w) c.st d.st hi h1 A Dt (z.append (.one N)) ?_ λb q=>?_) (c.ff.trans d.ff)
    .rw[JM,Jt,CM];obtain⟨v0,e0,r0,DJ,n⟩:=d.st.ok i _ hi;have B:(OV.nd .lst a us).addrs.Nodup:=by
      obtain⟨l,g,σ,_⟩:=OV.split h1;rw[σ,CM,CM]at DJ;exact DJ.1.2.1
     rw[Le]at B;refine⟨(List.nodup_cons.mp B).2,Gm,λx hx y Q e=>?_⟩;subst e;have f:x∈t.addrs:=OV.Ji h1 x (by rw[Le];simp[hx]);rcases(A x Q).2.2 with⟨j,V,s,_,T,o⟩|w
     .exact c.st.Bg j i s _ x (by rintro rfl;exact Dt V) T hi o f
     .exact c.st.Dj hi f w
    .rw[JM,Jt]at q;exact List.mem_append.mp q⟩
end
def ptr(a:Addr):Hp->V->Prop:=λ_ v=>v=.ref a
section
variable[Xw]
variable{K:ZBc}{k:PV->Prop}{xs:List PV}{t:OV}{lt:Bool}
theorem jO{k:List Nat->OV->Prop}{nk:NK}(f:ss[j]?=some (.raw (ptr a)))(hi:ss[i]?=some (.ow lt t))(BO:t.at p=some (.nd nk a us))(hk:k p (.nd nk a us)):Wl ss i t (Ap j) k:=⟨⟨lt,hi⟩,λE Z F H Q S q=>by
 obtain⟨v,e,c,_⟩:=S.ok j _ f;obtain⟨h,l,d,_,_⟩:=S.ok i _ hi;obtain⟨w,b,_⟩:=d.at BO;have g:w=.ref a:=by cases b;rfl
 subst g;cases(show v=.ref a from c);exact⟨_,e,q _ p _ F H (.refl S) b BO hk⟩⟩
end
def DF:List Slot->L2.St->List Addr
 | .own _::ss,some (.ref l)::Z=>l::DF ss Z
 | .ow _ t::ss,_::Z=>t.addrs++DF ss Z
 |_::ss,_::Z=>DF ss Z
 |_,_=>[]
theorem eZ:∀{ss:List Slot}{Z:L2.St}{a:Addr},a∈DF ss Z->∃(i:Nat)(s:Slot),ss[i]?=some s/\s≠.AK/\As s Z[i]? a
 | [],Z,a,h=>absurd h Af
 |s::ss,[],a,h=>by cases s <;> exact absurd h Af
 |s::ss,o::Z,a,h=>by
  have b:a∈DF ss Z->∃(i:Nat)(s':Slot),(s::ss)[i]?=some s'/\s'≠.AK/\As s' (o::Z)[i]? a:=λh=>by
   obtain⟨i,s',h1,h2,c⟩:=eZ h;exact⟨i+1,s',by simpa using h1,h2,by simpa using c⟩
  cases s with
  |own xs=>
   cases o with
   |none=>exact b h
   |some v=>
    cases v with
    |ref l=>
     have h:a∈l::DF ss Z:=h;rcases List.mem_cons.mp h with e|h
     .subst e;exact⟨0,_,rfl,by simp,rfl⟩
     .exact b h
    |_=>exact b h
  |ow lt t=>
   have h:a∈t.addrs++DF ss Z:=h;rcases List.mem_append.mp h with h|h
   .exact⟨0,_,rfl,by simp,h⟩
   .exact b h
  |_=>exact b h
theorem XG:∀{ss:List Slot}{Z:L2.St}{i:Nat}{s:Slot}{a:Addr},ss.length=Z.length->ss[i]?=some s->s≠.AK->As s Z[i]? a->a∈DF ss Z
 | [],Z,i,s,a,_,h,_,_=>by simp at h
 |s0::ss,[],i,s,a,hl,_,_,_=>by simp at hl
 |s0::ss,o::Z,0,s,a,hl,h,hp,ho=>by
  simp at h;subst h;cases s0 with
  |own xs=>
   have e:o=some (.ref a):=by have:some o=some (some (V.ref a)):=ho;exact BH this
   subst e;exact ES
  |ow lt t=>exact GB _ ho
  |AK=>exact absurd rfl hp
  |_=>cases ho
 |s0::ss,o::Z,i+1,s,a,hl,h,hp,ho=>by
  have q:=XG (ss:=ss) (Z:=Z) (i:=i) (a:=a) (by simpa using hl) (by simpa using h) hp (by simpa using ho)
  cases s0 with
  |own xs=>cases o with
   |none=>exact q
   |some v=>cases v with
    |ref l=>exact DV _ q
    |_=>exact q
  |ow lt t=>exact FE _ q
  |_=>exact q
theorem Aj.mJ{t:OV}(r:Aj F H v t):∀a∈t.addrs,∀vs,H a≠some (.tup vs):=
 Aj.rec (motive_1:=λ_ t _=>∀a∈t.addrs,∀vs,H a≠some (.tup vs)) (motive_2:=λ_ ts _=>∀a∈OV.AW ts,∀vs,H a≠some (.tup vs))
  (λ_ a c _=>by rw[OV.LG]at c;cases c)
  (λ_ _ i a c vs=>by rw[OV.G4]at c;exact i a c vs)
  (λ{k}{b}{_}{_}h d _ _ i a c vs=>by
   rw[OV.Ce,L4,PJ]at c;rcases c with rfl|c|c
   .rw[h];cases k <;> (intro z;cases z)
   .cases k with
    |obj C dx ns=>
     have e:a=dx:=List.mem_singleton.mp c;subst e;have f:H a=some (.own b):=d;rw[f];intro z;cases z
    |_=>exact absurd c Af
   .exact i a c vs)
  (λa c _=>by rw[OV.FP]at c;cases c)
  (λ_ _ i k a c ws=>by
   rw[OV.Cr,PJ]at c;rcases c with c|c
   .exact i a c ws
   .exact k a c ws)
  r
mutual
def De:PV->Bool
 | .lst _=>false
 | .Ag _ _=>false
 | .obj _ _ _=>false
 | .exc _ _ _=>false
 | .tup xs=>Hg xs
 |_=>true
def Hg:List PV->Bool
 | []=>true
 |x::r=>De x && Hg r
end
noncomputable def Eu(F:Hp)(as:List Addr):Hp:=λa=>if a∈as then none else F a
theorem Rep.sub{as:List Addr}(h:∀a∈as,∀vs,F a≠some (.tup vs)):∀{v:V}{p:PV},Rep F v p->De p=true->Rep (Eu F as) v p:=by
 intro v p r d;exact Rep.rec (motive_1:=λv p _=>De p=true->Rep (Eu F as) v p) (motive_2:=λvs ps _=>Hg ps=true->AL (Eu F as) vs ps)
  (λ_=>.A9) (λb _=>.bl b) (λi _=>.int i) (λx _=>.str x)
  (λ_ _ _ z=>by simp[De]at z)
  (λ{a vs xs}e _ c z=>.tup (by unfold Eu;rw[ib (λq=>h a q vs e)];exact e) (c (by simpa[De]using z)))
  (λ_ _ _ _ z=>by simp[De]at z)
  (λ_ _ _ _ _ z=>by simp[De]at z)
  (λ_=>.con)
  (λ_ z=>by simp[De]at z)
  (λ_ _ _ _ _ z=>by simp[De]at z)
  (λ_=>.nil)
  (λ_ _ OJ Kq z=>by
   rw[Hg,EO]at z;exact .cons (OJ z.1) (Kq z.2))
  r d
theorem AL.sub{as:List Addr}(h:∀a∈as,∀vs,F a≠some (.tup vs))(r:AL F vs ps)(z:Hg ps=true):AL (Eu F as) vs ps:=by
 induction ps generalizing vs with
 |nil=>cases r.D5;exact .nil
 |cons p ps c=>
  obtain⟨v,ws,rfl,a,b⟩:=r.inv;have z:=(EO _ _).mp z;exact .cons (a.sub h z.1) (c b z.2)
theorem Sg.as(S:Sg E ss Z F H)(h:a∈DF ss Z):F a=none/\H a≠none/\(∀vs,H a≠some (.tup vs))/\Bs ss Z a:=by
 obtain⟨i,s,b,c,ho⟩:=eZ h;refine⟨S.vJ b ho,S.Dj b ho,?_,S.OM b ho c⟩;have k:=S.ok i s b;cases s with
 |own xs=>obtain⟨l,vs,e,_,_,d,_⟩:=k;rw[show Z[i]?=some (some (.ref a))from ho]at e;cases e;rw[d];simp
 |ow lt t=>obtain⟨v,_,r,_⟩:=k;exact r.mJ a ho
 |AK=>exact absurd rfl c
 |_=>cases ho
theorem Sg.J8(S:Sg E ss Z F H):AJ F (Cd F H (DF ss Z))/\AJ (Cd F H (DF ss Z)) H:=by
 refine⟨λa o e=>?_,λa o e=>?_⟩
 .unfold Cd;rw[ib (λq=>by rw[(S.as q).1]at e;cases e)];exact e
 .unfold Cd at e;split at e
  .exact e
  .exact S.fh a o e
theorem Sg.Yi(S:Sg E ss Z F H)(f:Fin (E3 [] (Cd F H (DF ss Z)) H) F' H'):Mv E ss Z F H (Eu F' (DF ss Z)) H'/\∀a∈DF ss Z,∀vs,F' a≠some (.tup vs):=by
 have kp:∀a o,H a=some o->H' a=some o:=λa o e=>f.keep a o ⟨Af,Af⟩ e;refine⟨S.step (λa o e=>?_) (λa o e=>?_) (λa o _ e=>kp a o e) (λa o e=>?_) (λi l hi e=>BJ.keep (S.E2 hi e) λo e=>kp l o e),λa c vs e=>?_⟩
 .unfold Eu;rw[ib (λq=>by rw[(S.as q).1]at e;cases e)];exact f.f0 a o (S.J8.1 a o e)
 .unfold Eu at e;split at e
  .cases e
  .exact f.fh a o e
 .unfold Eu at e;split at e
  .cases e
  .rename_i q;rcases f.fresh a o e with z|z
   .left
    have b:Cd F H (DF ss Z) a=some o:=z;unfold Cd at b;rw[ib q]at b;exact b
   .exact .inr z
 .obtain⟨o,ho⟩:=Option.ne_none_iff_exists'.mp (S.as c).2.1;have z:F' a=some o:=f.f0 a o (by show Cd F H (DF ss Z) a=some o;unfold Cd;rw[ir c];exact ho);rw[z]at e;cases e;exact(S.as c).2.2.1 vs ho
section
variable[Xw]
variable{K:ZBc}{k:PV->Prop}{xs:List PV}{t:OV}{lt:Bool}{pre:Pre}
theorem j6(h:Wx ss te λm u=>m=[]/\k u.pv):Wp ss te k:=⟨λE Z F H Q S q=>
 h.go E Z F H _ S λv m u F1 H1 c r nd d AD=>by
  obtain⟨l,kk⟩:=AD;subst l;have g:∀a∈u.addrs,H a=none:=λa b=>by
   rcases(d a b).2.2 with⟨i,hi,_⟩|z
   .cases hi
   .exact z
  obtain⟨S1,f⟩:=c.st.lay u.addrs (λa b=>⟨(d a b).1,(d a b).2.1,r.there a b⟩) λa b i s j o=>S.Dj j o (g a b);refine q v u.pv _ H1 ⟨S1,c.ff.trans f,c.hh,λa o e=>?_⟩ (r.rep f λa b o ho=>by unfold Cd;rw[ir b];exact ho) kk;unfold Cd at e;split at e
  .rename_i z;exact .inr (g a z)
  .exact c.nn a o e⟩
end
end Fz
namespace L2
variable{M:Model}{A:Around}{E xe:Value->Shared->Prop}{s s':Shared}{Zj h h':Heap}{env:Env}{l outer:List Env}{C S a b ea f fI:Addr}{dd dx fr tb:Option Addr}{Q:Unit->Shared->Prop}{o:HO}{vs:Array Value}{cd head v:Value}{w:World}{mg:ZBe}{N ps sn:List Str}{n name par qual x:Str}{scope:Scope}{H H':Hp}{e e0:Expr}{X:Cx}{JA:Option Value}{E':St->XK}{Bw MR np p pos:Pos}{es:List Expr}{ab hdct:Bool}{prog:Program}{Zb pn:ZBd}{Z:St}{j kk:Nat}{fd:FuncData}{b0:Stmt}{Lp:(St->XK)->TS}{th:TS}{sp:Sp}{od:Option Obj}
structure FF (h:Heap) (ea:Addr) (C:Value) (dx tb:Option Addr):Prop where
 obj:∃oe vs,h.get? ea=some oe/\oe.cls=C/\oe.dict=dx/\oe.data=.fields vs/\1<vs.size/\vs[1]?=some (tb.elim Value.none Value.ref)
 ent:∀T,tb=some T->T≠ea/\∃oT ts,h.get? T=some oT/\oT.data=.fields ts/\3<ts.size
section
variable{L:Addr}{C:Value}
theorem vQ(o:Obj)(g:Array Value->Array Value):(o.mapFields g).dict=o.dict:=by
 obtain⟨c,d,a,b⟩:=o;cases a <;> rfl
structure Kp (l:List Env) (ea:Addr) (tb:Option Addr) (h h':Heap):Prop where
 keep:∀b o,h.get? b=some o->b∉CC l->b≠ea->tb≠some b->h'.get? b=some o
 slot:∀b o,h.get? b=some o->b∈CC l->∃sl,h'.get? b=some { o with slots:=sl }
 size:h.objs.size<=h'.objs.size
theorem aV(e:s.heap.FunFrames Zj (env::outer)){o:Obj}(ho:s.heap.get? b=some o)(hd:o.data=.fields vs):b∉CC (env::outer):=λd=>by
 obtain⟨_,u,a,c⟩:=e.mem d;rw[ho]at a;cases a;exact c vs hd
theorem Z1{more:Bool}{c:Obj}(JQ:A.frames=some (env::outer))(i:s.heap.FunFrames Zj (env::outer))(u:env.frame=some L)
  (j:s.heap.get? ea=some c) (v:c.cls=C) (Kn:c.dict=dx) (hd:c.data=.fields vs) (d:1<vs.size)
  (h:∀h' T,Kp (env::outer) ea none s.heap h'->s.heap.objs.size<=T->FF h' ea C dx (some T)->Q () { s with heap:=h' }) :
  wpAny M A (do
   let fr <- frameOf env
   let pl <- entryPlaceOf L more
   let b <- EntryCells.newEntry head fr Value.none (rawInt L) Value.none pl
   setField (.ref ea) 1 b) Q E s:=by
 have n:=aV i j hd;refine iM (wpAny_frameOf_fun JQ i u λg a=>?_);refine iM (wpAny_entryPlaceOf λpl t=>?_);unfold EntryCells.newEntry newFields;refine iM (pW ?_ (t.sizeOk5 _ _ _ _ _));generalize w:([head,Value.ref L,Value.none,rawInt L,Value.none]++(if pl.isEmpty then List.replicate 6 Value.none else pl)).toArray=ts
 have q:3<ts.size:=by
  rw[<- w];simp only[Bf,Bj,CG,Xf];omega
 have l:g.get? ea=some c:=(a.2.1 ea n).trans j;have x:(g.push { cls:=.type "traceback", dict:=none,data:=.fields ts }).get? g.objs.size=some { cls:=.type "traceback", dict:=none,data:=.fields ts }:=D0 g rfl;have k:=Bz (h:=g) { cls:=.type "traceback", dict:=none,data:=.fields ts } l;have p:g.objs.size≠ea:=Mh (B4 l);have m:=Rr hd (·.setIfInBounds 1 (Value.ref g.objs.size))
 have z:=MX (Obj.mapFields (·.setIfInBounds 1 (Value.ref g.objs.size))) k (iC m)
 have B:=(Ij (g.push { cls:=.type "traceback", dict:=none,data:=.fields ts }) (Obj.mapFields (·.setIfInBounds 1 (Value.ref g.objs.size))) (B5 p)).trans x
 refine pR k hd d (h _ g.objs.size ⟨λb o e LU FJ _=>?_,λb o e Ig=>?_,?_⟩ ?_ ⟨⟨_,_,z,?_,?_,m,?_,?_⟩,λT y=>?_⟩)
 .have f:g.get? b=some o:=(a.2.1 b LU).trans e;rw[Ij _ _ (B5 FJ)];exact Bz _ f
 .obtain⟨r,f⟩:=a.2.2 b o e;refine⟨r,?_⟩;rw[Ij _ _ (by rintro rfl;exact n Ig)];exact Bz _ f
 .rw[XX,Kw,a.1];exact L5 _
 .rw[a.1];exact Ae _
 .rw[Obj.cls_mapFields];exact v
 .rw[vQ];exact Kn
 .simpa using d
 .simp[d]
 .cases y;exact⟨p,_,_,B,rfl,q⟩
theorem Kp.refl:Kp l ea tb h h:=⟨λ_ _ a _ _ _=>a,λ_ o a _=>⟨o.slots,a⟩,Ae _⟩
theorem kM(JQ:A.frames=some (env::outer))(f:s.heap.FunFrames Zj (env::outer))(g:env.frame=some L)(hx:FF s.heap ea C dx tb)
  (h:∀h' T,Kp (env::outer) ea tb s.heap h'->s.heap.objs.size<=T∨tb=some T->FF h' ea C dx (some T)->Q () { s with heap:=h' }) :
  wpAny M A (noteFrame (.ref ea) env) Q E s:=by
 obtain⟨r,vs,i,n,hd,GO,l,h1⟩:=hx.obj;unfold noteFrame;simp only[g];refine iM (m9 i GO h1 ?_);cases tb with
 |none=>
  rw[ib (by decide)];exact Z1 JQ f g i n hd GO l λh' T k q=>h h' T k (.inl q)
 |some T=>
  obtain⟨Kt,t,ts,c,Gf,j⟩:=hx.ent T rfl;show wpAny M A (do if(Value.ref T != Value.none)=true then _ else _) _ _ _
  rw[ir (show(Value.ref T != Value.none)=true from by simp)];refine iM (m9 c Gf (Array.getElem?_eq_getElem j) ?_)
  by_cases m:(ts[3] == rawInt L)=true
  .rw[ir m];exact jP (h s.heap T Kp.refl (.inr rfl) hx)
  rw[ib m];refine iM (pR c Gf j ?_);have d:∀b,b≠T->(s.heap.update T (Obj.mapFields (·.setIfInBounds 3 Value.none))).get? b=s.heap.get? b:=λb a=>Ij _ _ (B5 a)
  have p:=aV f c Gf;refine Z1 (s:={ s with heap:=s.heap.update T (Obj.mapFields (·.setIfInBounds 3 Value.none)) }) JQ (f.of_keeps λb o a e=>⟨o,(d b (by rintro rfl;rw[c]at a;cases a;exact e ts Gf)).trans a,rfl⟩) g ((d ea (B5 Kt)).trans i) n hd GO l λh' T' k e x=>?_
  refine h h' T' ⟨λb o a LU FJ LY=>k.keep b o ((d b (by rintro rfl;exact LY rfl)).trans a) LU FJ (by simp),λb o a Ig=>k.slot b o ((d b (by rintro rfl;exact p Ig)).trans a) Ig,?_⟩ (.inl ?_) x
  .have z:=k.size;rw[show(s.heap.update T (Obj.mapFields (·.setIfInBounds 3 Value.none))).objs.size=s.heap.objs.size from XX ..]at z
   exact z
  .have z:=e;rw[show(s.heap.update T (Obj.mapFields (·.setIfInBounds 3 Value.none))).objs.size=s.heap.objs.size from XX ..]at z
   exact z
theorem gE(x:FF s.heap ea C dx tb)(m:∀b∈CC l,∃o,s.heap.get? b=some o/\∀vs,o.data≠.fields vs)
  (h:∀h',Kp l ea tb s.heap h'->FF h' ea C dx tb->Q () { s with heap:=h' }):wpAny M A (setFlight (.ref ea) fr) Q E s:=by
 obtain⟨i,vs,g,n,hd,GO,j,h1⟩:=x.obj;unfold setFlight;refine iM (m9 g GO h1 ?_);cases tb with
 |none=>
  rw[ib (by decide)];exact jP (h s.heap Kp.refl x)
 |some T=>
  obtain⟨Kt,r,ts,c,Gf,e⟩:=x.ent T rfl;rw[ir (show((some T).elim Value.none Value.ref != Value.none)=true from by simp)];generalize (fr.elim Value.none λf=>rawInt f)=mk;have d:∀b,b≠T->(s.heap.update T (Obj.mapFields (·.setIfInBounds 3 mk))).get? b=s.heap.get? b:=λb a=>Ij _ _ (B5 a)
  have q:=MX (Obj.mapFields (·.setIfInBounds 3 mk)) c (iC (Rr Gf _))
  refine pR c Gf e (h _ ⟨λb o a _ _ LY=>(d b (by rintro rfl;exact LY rfl)).trans a,λb o a Ig=>⟨o.slots,(d b ?_).trans a⟩,by rw[XX];exact Ae _⟩ ⟨⟨i,vs,(d ea (B5 Kt)).trans g,n,hd,GO,j,h1⟩,λT' p=>?_⟩)
  .rintro rfl;obtain⟨o',DW,k⟩:=m b Ig;rw[c]at DW;cases DW;exact k ts Gf
  .cases p;exact⟨Kt,_,_,q,Rr Gf _,by simpa using e⟩
theorem Kp.frames(k:Kp l ea tb h h')(d:h.FunFrames Zj l):∀b∈CC l,∃o,h'.get? b=some o/\∀vs,o.data≠.fields vs:=λb a=>by
 obtain⟨_,o,ho,c⟩:=d.mem a;obtain⟨f,e⟩:=k.slot b o ho a;exact⟨_,e,c⟩
theorem Kp.trans{T:Addr}{h1 h2:Heap}(k:Kp l ea tb h h1)(c:h.objs.size<=T∨tb=some T)(k2:Kp l ea (some T) h1 h2):Kp l ea tb h h2:=
 ⟨λb o a LU FJ LY=>k2.keep b o (k.keep b o a LU FJ LY) LU FJ (λz=>c.elim (λy=>absurd (B4 a) (Nat.not_lt.mpr (BH z▸y))) λy=>LY (y.trans z)),
  λb o a Ig=>by
  obtain⟨f,e⟩:=k.slot b o a Ig;obtain⟨ID,d⟩:=k2.slot b _ e Ig;exact⟨ID,d⟩,CU k.size k2.size⟩
theorem fR(JQ:A.frames=some (env::outer))(a:s.heap.FunFrames Zj (env::outer))(d:env.frame=some L)(hx:FF s.heap ea C dx tb)
  (h:∀h' T,Kp (env::outer) ea tb s.heap h'->s.heap.objs.size<=T∨tb=some T->FF h' ea C dx (some T)->Q () { s with heap:=h' }) :
  wpAny M A (noteFrame (.ref ea) env) (λ_ s'=>wpAny M A (setFlight (.ref ea) none) Q E s') E s:=
 kM JQ a d hx λh1 T k b x=>gE x (k.frames a) λh2 k2 c=>h h2 T (k.trans b k2) b c
theorem lU(JQ:A.frames=some (env::outer))(a:s.heap.FunFrames Zj (env::outer))(b:env.frame=some L)(hx:FF s.heap ea C dx tb)
  (h:∀h' T,Kp (env::outer) ea tb s.heap h'->s.heap.objs.size<=T∨tb=some T->FF h' ea C dx (some T)->Q () { s with heap:=h' }):wpAny M A (leaving env (.ref ea)) Q E s:=by
 unfold leaving;exact iM (fR JQ a b hx h)
end
def GX(P:Program)(w:World):FV:=λouter H s E e s'=>∃(ea C:Addr)(dx tb:Option Addr)(H':Hp),e=.ref ea/\s'.os=s.os/\AllBare s'.gens/\Un (CC outer) [] H H' s.heap s'.heap/\BW P w H' s'.heap/\
 FF s'.heap ea (.ref C) dx tb/\(H' ea=none/\s.heap.get? ea=none)/\(∀T,tb=some T->H' T=none/\s.heap.get? T=none)/\E (.ref C) dx H'
def WL(X:Cx)(E:XK)(e:Value)(s':Shared):Prop:=∃(Zb:ZBd)(Z:St)(H':Hp)(ea C:Addr)(dx tb:Option Addr),e=.ref ea/\Inv X Zb Z H' s'/\
 FF s'.heap ea (.ref C) dx tb/\(H' ea=none/\X.s₀.heap.get? ea=none)/\(∀T,tb=some T->H' T=none/\X.s₀.heap.get? T=none)/\E (.ref C) dx H'
section
variable{P:Program}{K:ZBc}{E:XK}
theorem BW.bc(ok:BW P w H' h)(k:∀b u,H' b≠none->h.get? b=some u->h'.get? b=some u):BW P w H' h':=λa o e=>
 (ok a o e).Hd (λb u c d=>k b u (by rcases c with rfl|c;(rw[e];simp);(rw[c];simp)) d) (λ_ z=>z) λ_ _ z=>z
theorem WL.leave{e:Value}(r:WL (Dy (GX P w) P w K mg Zj N qual scope f cd A outer s H E) E e s'):(Dy (GX P w) P w K mg Zj N qual scope f cd A outer s H E).xe e s':=by
 obtain⟨Zb,Z,H',ea,C,dx,tb,rfl,I,x,⟨u1,u2⟩,g,l⟩:=r;have fr:=I.ok.frames
 change s.heap.get? ea=none at u2
 have g:∀T,tb=some T->H' T=none/\s.heap.get? T=none:=g;refine lU (outer:=outer) (L:=s.heap.objs.size) fr I.stack rfl x λh' T kp h j=>?_;have k:∀b o,s.heap.get? b=some o->b≠s.heap.objs.size:=λb o a=>CV (B4 a);have mem:∀b,b∈CC (envOfC qual scope s.heap.objs.size f cd::outer)->b=s.heap.objs.size∨b∈CC outer:=λb a=>by
  rcases List.mem_cons.mp (I.P0 b a)with z|z
  .exact .inl z
  .exact .inr z
 have old:∀b o,s'.heap.get? b=some o->H' b≠none->h'.get? b=some o:=λb o a c=>kp.keep b o a (λz=>c (I.RS b z)) (λz=>c (z▸u1)) λz=>c (g b z).1;refine⟨ea,C,dx,some T,H',rfl,I.os,I.bare,⟨λb o a c d _=>?_,λb o a c d _=>?_,λb o a c hx=>I.base.free b o a c hx,λb o a hx=>?_,I.base.Fy,I.base.Fd,I.base.Ft⟩,I.AF.bc λb u c a=>old b u a c,j,⟨u1,u2⟩,λT' m=>?_,l⟩
 .refine kp.keep b o (I.base.keep b o a c d (by simp[Dy])) (λz=>(mem b z).elim (k b o a) d) (by rintro rfl;rw[u2]at a;cases a) λz=>?_;rw[(g b z).2]at a;cases a
 .obtain⟨p,h1⟩:=I.base.slot b o a c d (by simp[Dy]);have n:b∈CC (envOfC qual scope s.heap.objs.size f cd::outer):=by
   show b∈List.filterMap _ (_::_);rw[Rh];exact DV _ d
  obtain⟨ID,h2⟩:=kp.slot b _ h1 n;exact⟨ID,h2⟩
 .obtain⟨i,h1⟩:=I.base.there b o a (by simp[Dy])
  by_cases d:b∈CC (envOfC qual scope s.heap.objs.size f cd::outer)
  .obtain⟨ID,h2⟩:=kp.slot b _ h1 d;exact⟨_,h2⟩
  .exact⟨i,kp.keep b i h1 d (by rintro rfl;rw[u2]at a;cases a) λz=>by rw[(g b z).2]at a;cases a⟩
 .cases m;exact h.elim (λh=>⟨I.AF.fresh h,gp (CU I.sz h)⟩) (g T)
end
noncomputable abbrev eU:List Value:=[.type "ValueError",.type "Exception",.type "BaseException",.type "object"]
structure ZQ (h:Heap) (C:Addr) (JA:Option Value):Prop where
 obj:∃bm N nm q bs hdct sn sub ab col dd k0 k1 k2 k3 k5 mN,h.get? C=some (excClassObj nm q C N bs bm hdct sn sub ab col dd k0 k1 k2 k3 k5 "ValueError.__new__")/\h.Ns N mN/\mN "__init__"=JA/\OwnTail h eU bm
noncomputable def Lz(K:ZBc)(C:Addr)(JA:Option Value):Bool:=match K.lookup C with
 |some ⟨.type "type", _,.cls cd,sl⟩=>(match cd.mro,sl.toList with
  | .ref C'::bm,[_,_,_,_,some (.builtin n),_]=>C' == C && n == "ValueError.__new__" && !cd.hasDel && PySem.W.tailIn K eU bm && PySem.W.nsOkIn K cd.ns && PySem.W.nsIn K cd.ns "__init__" == some JA
  |_,_=>false)
 |_=>false
theorem Zo{K:ZBc}(X:K.In h)(q:Lz K C JA=true):ZQ h C JA:=by
 unfold Lz at q;split at q
 .rename_i dd cd sl ho;split at q
  .rename_i C' bm k0 k1 k2 k3 n k5 hm hs;simp only[EO,wB,Bool.not_eq_true']at q;obtain⟨⟨⟨⟨⟨rfl,rfl⟩,b⟩,j⟩,AF⟩,GN⟩:=q;obtain⟨nm,bs,i,ns,f,hd,sn,sub,ab,col,m⟩:=cd;dsimp only at hm b AF GN;subst hm b;obtain⟨l⟩:=sl;simp only at hs;subst hs;have G:h.Ns ns (h.nsMap ns):=.of_isNs (PySem.W.isNs_of_in X AF);refine⟨bm,ns,nm,f,bs,hd,sn,sub,ab,col,dd,k0,k1,k2,k3,k5,_,X _ _ ho,G,?_,PySem.W.tail_of_in X j⟩;cases JA with
   |none=>exact PySem.W.ns_none_of X G GN
   |some v=>
    obtain⟨o,es,p,g,a,_,k⟩:=G;unfold PySem.W.nsIn at GN;split at GN
    .rename_i c d Lq n' sl q2;have z:=X _ _ q2;rw[g]at z;cases z;cases a;split at GN
     .rename_i e he;rw[<- k];unfold nsFind findBy;rw[<- ZAQ,he]
      simpa using GN
     .split at GN <;> cases GN
    .cases GN
  .cases q
 .cases q
theorem Bu.there{P:Program}(x:Bu P w H h a o):∃u,h.get? a=some u:=by
 induction o with
 |lst xs=>obtain⟨_,_,_,_,e⟩:=x;exact⟨_,e⟩
 |tup xs=>obtain⟨_,_,_,⟨_,e,_⟩,_⟩:=x;exact⟨_,e⟩
 |dK A5=>obtain⟨_,_,_,_,_,_,_,e,_⟩:=x;exact⟨_,e⟩
 |dT A5=>obtain⟨_,_,_,_,_,_,_,e,_⟩:=x;exact⟨_,e⟩
 |set S n=>obtain⟨_,_,_,_,e,_⟩:=x;exact⟨_,e⟩
 |ins C dx fs=>obtain⟨_,_,_,e,_⟩:=x;exact⟨_,e⟩
 |own y=>exact x
 |xd fs=>obtain⟨_,⟨_,_,_,e,_⟩,_⟩:=x;exact⟨_,e⟩
 |met f y=>exact⟨_,x⟩
 |LS lo hi=>obtain⟨_,_,_,e⟩:=x;exact⟨_,e⟩
 |Du ob u _=>exact⟨_,x.1⟩
 |JF ps=>exact⟨_,x⟩
 |ext φ=>exact x.2.1
theorem BW.there{P:Program}(x:BW P w H h)(e:H a=some o):∃u,h.get? a=some u:=(x a o e).there
section
variable{t:TA}{E:XK}
def W5(C:Addr)(E:St->XK)(t:TA):TS:=λ_ Z H=>t Z H λvs H1=>vs.length<=1000/\E Z (.ref C) none H1
def Goes(X:Cx)(E:St->XK):Prop:=∀(Zb:ZBd)(Z:St)(H':Hp)(s':Shared)(ea C:Addr)(dx tb:Option Addr),Inv X Zb Z H' s'->FF s'.heap ea (.ref C) dx tb->(H' ea=none/\X.s₀.heap.get? ea=none)->(∀T,tb=some T->H' T=none/\X.s₀.heap.get? T=none)->
 (∀p∈X.pn++Zb,p.1≠ea/\tb≠some p.1)->E Z (.ref C) dx H'->X.xe (.ref ea) s'
end
section
variable{K:ZBc}{x t:Addr}
section
open PySem.Builtin PySem.Builtin.ObjectAttr
end
end
section
variable{C:Value}
theorem Inv.eX(I:Inv X Zb Z H s)(Ca:X.stack=X.env::X.outer)(x:FF s.heap ea C dx tb)(u1:H ea=none)(u2:X.s₀.heap.get? ea=none)(j:∀T,tb=some T->H T=none/\X.s₀.heap.get? T=none)
  (A:∀p∈X.pn++Zb,p.1≠ea/\tb≠some p.1)(kp:Kp (X.env::X.outer) ea tb s.heap h'):Inv X Zb Z H { s with heap:=h' }:=by
 obtain⟨Q,vs,M,_,_,J,_⟩:=x.obj;have mem:∀b,b∈CC (X.env::X.outer)->b=X.env.locals∨b∈X.fs:=λb a=>by
  rw[<- Ca]at a;exact List.mem_cons.mp (I.P0 b a)
 have E:∀b,b=X.env.locals∨b∈X.fs->b∈CC (X.env::X.outer):=λb a=>by
  have d:X.env.frame=some X.env.locals:=by
   rcases I.ok.Ie with e|⟨_,d⟩
   .rw[e]at Ca;exact absurd (k9 List.length Ca) (by simp)
   .exact d
  unfold CC;rw[Rh,d];rcases a with rfl|a
  .exact ES
  .exact DV _ a
 have g:∀b o,s.heap.get? b=some o->(∀vs,o.data≠.fields vs)->∃h,h'.get? b=some { o with slots:=h }:=λb o a hd=>by
  by_cases d:b∈CC (X.env::X.outer)
  .exact kp.slot b o a d
  .refine⟨o.slots,kp.keep b o a d (by rintro rfl;rw[M]at a;cases a;exact hd _ J) λz=>?_⟩;obtain⟨_,R,ts,N,Gf,_⟩:=x.ent b z;rw[N]at a;cases a;exact hd _ Gf
 have old:∀b o,s.heap.get? b=some o->H b≠none->h'.get? b=some o:=λb o a f=>kp.keep b o a (λz=>f (I.RS b (by rw[Ca];exact z))) (λz=>f (z▸u1)) λz=>f (j b z).1;have l:∀b o,X.s₀.heap.get? b=some o->b≠X.env.locals:=λb o a z=>absurd (B4 a) (Nat.not_lt.mpr (z▸I.ok.above));have F:∀c v,s.heap.IsCell c v->h'.IsCell c v:=λc v AD=>by
  obtain⟨o,ho,hd⟩:=AD;obtain⟨h,h1⟩:=g c o ho (by rw[hd];intro vs z;cases z);exact⟨_,h1,hd⟩
 refine⟨I.ok,I.os,I.bare,⟨λb o a f d hx=>?_,λb o a f d hx=>?_,I.base.free,λb o a hx=>?_,I.base.Fy,I.base.Fd,I.base.Ft⟩,?_,λy c q=>?_,I.free,I.Dq,λp G9=>?_,I.AF.bc λb u f a=>old b u a f,I.len⟩
 .exact kp.keep b o (I.base.keep b o a f d hx) (λz=>(mem b z).elim (l b o a) d) (by rintro rfl;rw[u2]at a;cases a) λz=>by rw[(j b z).2]at a;cases a
 .obtain⟨h,h1⟩:=I.base.slot b o a f d hx;obtain⟨ID,h2⟩:=kp.slot b _ h1 (E b (.inr d));exact⟨ID,h2⟩
 .obtain⟨w,h1⟩:=I.base.there b o a hx
  by_cases d:b∈CC (X.env::X.outer)
  .obtain⟨ID,h2⟩:=kp.slot b _ h1 d;exact⟨_,h2⟩
  .exact⟨w,kp.keep b w h1 d (by rintro rfl;rw[u2]at a;cases a) λz=>by rw[(j b z).2]at a;cases a⟩
 .obtain⟨m,⟨o,es,P,ho,r⟩,L⟩:=I.loc;obtain⟨h,h1⟩:=kp.slot _ _ ho (E _ (.inl rfl));refine⟨m,⟨_,es,P,h1,r⟩,λi y v hi t K=>?_⟩;obtain⟨u,G,n⟩:=L i y v hi t K;refine⟨u,G,?_⟩;rcases n with n|⟨k,c,hc,ic⟩
  .exact .inl n
  .exact .inr ⟨k,c,hc,F c _ ic⟩
 .obtain⟨v,t⟩:=I.cell y c q;exact⟨v,F c v t⟩
 .obtain⟨h1,h2,D,B,O⟩:=I.pin p G9;exact⟨kp.keep _ _ h1 (λz=>(mem _ z).elim D B) (A p G9).1 (A p G9).2,h2,D,B,O⟩
end
theorem Inv.unbind(I:Inv X Zb Z H s)(G:X.N.Nodup)(g:X.N[j]?=some n)(hk:X.env.scope.names.lookup n=some .local)
  (h:∀s',Inv X Zb (Z.set j none) H s'->Q () s'):wpAny M A (do bindName X.env n .none;unbindBehindTheSuite X.env n pos) Q E s:=by
 refine iM (wpAny_bindName (Vg (v:=.A9) I G g (.inl hk) rfl (λY I1 _=>?_) (.inr hk)));unfold unbindBehindTheSuite;refine wpAny_onRaise ?_;obtain⟨m,D,F⟩:=id I1.loc;have U:(X.env.scope.kind == .class || (X.env.scope.kind == .module && X.env.locals != X.env.globals))=false:=by rw[I.ok.kind];rfl
 have hjσ:j<Z.length:=by rw[I.len];exact(List.getElem?_eq_some_iff.mp g).1
 obtain⟨u,σ,P⟩:=F j n .A9 g (CL hjσ) (.inl hk);have S:m n=some u:=by
  rcases P with⟨_,e⟩|⟨z,_⟩
  .exact e
  .have V:X.env.kindOf n=some .local:=hk;rw[V]at z;rcases z with z|z <;> cases z
 refine wpAny_unbindName_local hk D S U λh' W Nt f=>?_;obtain⟨oL,_,_,YK,_⟩:=id D;have Fg:=I1.Fg;have a:∀b o,X.s₀.heap.get? b=some o->b≠X.env.locals:=λb o r=>CV (DC (B4 r) I.ok.above);refine h _ ⟨I1.ok,I1.os,I1.bare,⟨λb o e n r hx=>(f.2 b (a b o e)).trans (I1.base.keep b o e n r hx),λb o e n r hx=>?_,I1.base.free,λb o e hx=>?_,I1.base.Fy,I1.base.Fd,I1.base.Ft⟩,⟨_,Nt,λi y J l x T=>?_⟩,λy c e=>?_,I1.free,I1.Dq,λp R=>?_,λb ob e=>?_,by simpa using I.len⟩
 .obtain⟨K,l⟩:=I1.base.slot b o e n r hx;exact⟨K,(f.2 b (a b o e)).trans l⟩
 .obtain⟨o',l⟩:=I1.base.there b o e hx;exact⟨o',(f.2 b (a b o e)).trans l⟩
 .have B:i≠j:=by
   rintro rfl;rw[CL hjσ]at x;cases x
  rw[C0 (B5 B)]at x;obtain⟨w,L,q⟩:=F i y J l (by rw[C0 (B5 B)];exact x) T;refine⟨w,L,?_⟩;rcases q with⟨k,e⟩|⟨k,c,e,z⟩
  .refine .inl ⟨k,?_⟩;have:y≠n:=λe=>B (SD G l (e▸g));simp[this,e]
  .exact .inr ⟨k,c,e,z.sameBut f (Fg y c e)⟩
 .obtain⟨C,z⟩:=I1.cell y c e;exact⟨C,z.sameBut f (Fg y c e)⟩
 .obtain⟨e,n,ne,O,d⟩:=I1.pin p R;exact⟨(f.2 p.1 ne).trans e,n,ne,O,d⟩
 .refine(I1.AF b ob e).Hd (λc C t q=>(f.2 c ?_).trans q) (λ_ q=>q) λ_ _ q=>q;rintro rfl;have fr:=I1.free;rcases t with rfl|t
  .rw[fr]at e;cases e
  .rw[fr]at t;cases t
theorem Inv.tO(I:Inv X Zb Z H s)(x:FF s.heap ea (.ref C) dx tb)(u1:H ea=none)(u2:X.s₀.heap.get? ea=none)(j:∀p∈X.pn++Zb,p.1≠ea):Inv X Zb Z (upd H ea (Fz.Hj ea C dx)) s:=by
 obtain⟨g,vs,e,d,hd,GO,_⟩:=x.obj;have h:X.env.locals≠ea:=λz=>by
  obtain⟨m,⟨o,es,w,ho,a,_⟩,_⟩:=I.loc;rw[z,e]at ho;cases ho;rw[GO]at a;cases a
 have Fg:∀y c,X.env.cells.lookup y=some c->c≠ea:=λy c q z=>by
  obtain⟨v,o,ho,a⟩:=I.cell y c q;rw[z,e]at ho;cases ho;rw[GO]at a;cases a
 have tr:∀b o,H b=some o->upd H ea (Fz.Hj ea C dx) b=some o:=λb o q=>by
  rw[AS (by rintro rfl;rw[u1]at q;cases q)];exact q
 refine⟨I.ok,I.os,I.bare,⟨I.base.keep,I.base.slot,λb o q n hx=>?_,I.base.there,λb xs q=>tr b _ (I.base.Fy b xs q),λb o u q=>tr b _ (I.base.Fd b o u q),λb ps q=>?_⟩,I.loc,I.cell,?_,λy c q=>?_,λp G9=>?_,λb o q=>?_,I.len⟩
 .rw[AS (by rintro rfl;rw[u2]at q;cases q)];exact I.base.free b o q n hx
 .obtain⟨m,z⟩:=I.base.Ft b ps q;exact⟨m,tr b _ z⟩
 .rw[AS h];exact I.free
 .rw[AS (Fg y c q)];exact I.Dq y c q
 .obtain⟨h1,h2,l⟩:=I.pin p G9;exact⟨h1,by rw[AS (j p G9)];exact h2,l⟩
 .by_cases z:b=ea
  .subst z;rw[Al]at q;cases q;exact⟨⟨g,vs,e,d,hd,GO⟩,⟨_,e⟩,λ_ _⟨o',f,t,r⟩k=>⟨o',f,k _ t,r⟩⟩
  .rw[AS z]at q;exact(I.AF b o q).Hd (λc u _ i=>i) (λc d=>tr c _ d) λc xs d=>tr c _ d
noncomputable abbrev Cx.Fq(X:Cx)(pn:ZBd)(xe:Value->Shared->Prop):Cx:={ X with pn:=pn,xe:=xe }
noncomputable abbrev Cx.DP(X:Cx)(e:Value):Cx:={ X with A:=X.A.mark (some e),calm:=false,xe:=λ_ _=>False }
section
variable{ZT:ZBd}{e:Value}
theorem Cx.Ok.Fq(ok:X.Ok):(X.Fq pn xe).Ok:=⟨ok.mod,ok.kind,ok.glob,ok.blt,ok.above,ok.inj,ok.has,ok.J3,ok.hd,ok.frames,ok.Ie,ok.KY,ok.bs,ok.GA,ok.JL,ok.Iq,ok.Ed,ok.HL⟩
theorem Cx.Ok.K4(ok:(X.Fq pn xe).Ok):X.Ok:=⟨ok.mod,ok.kind,ok.glob,ok.blt,ok.above,ok.inj,ok.has,ok.J3,ok.hd,ok.frames,ok.Ie,ok.KY,ok.bs,ok.GA,ok.JL,ok.Iq,ok.Ed,ok.HL⟩
theorem Cx.Ok.DP(ok:X.Ok):(X.DP e).Ok:=⟨ok.mod,ok.kind,ok.glob,ok.blt,ok.above,ok.inj,ok.has,ok.J3,λz=>(by cases z),ok.frames,ok.Ie,ok.KY,ok.bs,ok.GA,ok.JL,ok.Iq,ok.Ed,ok.HL⟩
theorem Inv.Fq(I:Inv X Zb Z H s):Inv (X.Fq (X.pn++Zb) xe) [] Z H s:=⟨I.ok.Fq,I.os,I.bare,I.base,I.loc,I.cell,I.free,I.Dq,λp a=>I.pin p (by simpa using a),I.AF,I.len⟩
theorem Inv.K4(I:Inv (X.Fq (X.pn++Zb) xe) ZT Z H s):Inv X Zb Z H s:=⟨I.ok.K4,I.os,I.bare,I.base,I.loc,I.cell,I.free,I.Dq,λp a=>I.pin p (GB _ a),I.AF,I.len⟩
theorem Inv.DP(I:Inv X Zb Z H s):Inv (X.DP e) Zb Z H s:=⟨I.ok.DP,I.os,I.bare,I.base,I.loc,I.cell,I.free,I.Dq,I.pin,I.AF,I.len⟩
theorem Inv.Qd(ok:X.Ok)(I:Inv (X.DP e) Zb Z H s):Inv X Zb Z H s:=⟨ok,I.os,I.bare,I.base,I.loc,I.cell,I.free,I.Dq,I.pin,I.AF,I.len⟩
end
noncomputable def Ends.drop(D:Ends)(j:Nat):Ends:=⟨λZ H=>D.nx (Z.set j none) H,D.rt,λZ H=>D.bk (Z.set j none) H,λZ H=>D.ct (Z.set j none) H⟩
def SW(K:ZBc)(S:Addr)(j:Nat)(tb:(St->XK)->TS)(th:TS):TS:=λD Z H=>∃E1:St->XK,tb E1 D Z H/\
 ∀ σ1 C dx ea H1,E1 σ1 (.ref C) dx H1->H1 ea=none->PySem.W.exmOne K (.ref C) (.ref S)=some true/\th (D.drop j) (σ1.set j (some (.ref ea))) (upd H1 ea (Fz.Hj ea C dx))
def OO(sp:Sp)(E:St->XK)(t:TA):TE:=λZ H Q=>t Z H λvs H1=>sp vs H1 Q (E Z)
def G2(P:Program)(w:World)(K:ZBc)(mg:ZBe)(Zj:Heap)(x:Str)(k:Nat)(ps:List Str)(sp:Sp):Prop:=
 ∃f fd,CD P w K mg Zj (GX P w) k f fd ps sp/\Binds K fd ps []/\PySem.W.keepIn K (.ref f)=true/\mg x=some (.ref f)
section
variable{P:Program}{K:ZBc}{k:Nat}{st:Stmt}
theorem G2.mk(F:AO K x qual st f fd)(b:Binds K fd ps [])(m:mg x=some (.ref f))(h:CD P w K mg Zj (GX P w) k f fd ps sp):G2 P w K mg Zj x k ps sp:=⟨f,fd,h,b,F.kp,m⟩
variable{t:TA}{E:St->XK}
theorem Goes.xu(go:Goes X E)(i:∀b∈X.ex,∃p∈X.pn,p.1=b){e:Value}(I:Inv X Zb Z H s)(h:GX X.prog X.w X.stack H s (E Z) e s'):X.xe e s':=by
 have CS:∀a,s.heap.get? a=none->X.s₀.heap.get? a=none:=λa j=>by
  cases q:X.s₀.heap.get? a with
  |none=>rfl
  |some o=>
   by_cases hx:a∈X.ex
   .obtain⟨p,c,rfl⟩:=i a hx;have h1:=(I.pin p (GB _ c)).1;rw[j]at h1;cases h1
   .obtain⟨n,h1⟩:=I.base.there a o q hx;rw[j]at h1;cases h1
 obtain⟨ea,C,dx,tb,H',rfl,os,bare,un,AF,x,⟨u1,u2⟩,f,l⟩:=h;obtain⟨hh,g,d,t,VX⟩:=s';obtain rfl:VX=s.os:=os;have m:=I.call (h':=hh) (g':=g) (d':=d) (t':=t) (ch:=[]) un AF bare (λb z=>absurd z (by simp));refine go Zb Z H' _ ea C dx tb m x ⟨u1,CS _ u2⟩ (λT k=>⟨(f T k).1,CS _ (f T k).2⟩) (λp c=>⟨λz=>?_,λz=>?_⟩) l
 .have:=(I.pin p c).1;rw[z,u2]at this;cases this
 .have:=(I.pin p c).1;rw[(f _ z).2]at this;cases this
theorem rm(a:X.ex=[]):∀b∈X.ex,∃p∈X.pn,p.1=b:=λb c=>by rw[a]at c;cases c
theorem yy(h:G2 X.prog X.w X.K X.mg X.base x k ps sp)(g:BR j X.A)(hk:k<=j)(go:Goes X E)(c:∀b∈X.ex,∃p∈X.pn,p.1=b)(n:PA X (e::es) t)(l:Gl X x:=by rfl)(BV:(x == ("__debug__":Str))=false:=by decide)
  (he:starEach (e::es) X.env=(false,eval e X.env)::starEach es X.env:=by rfl) (BP:(backTo pos (starEach es X.env)).any (·.1)=false:=by rfl) :
  PE X (.Call (.Name x p) (e::es) [] pos) (OO sp E t):=by
 obtain⟨f,fd,F,b,kp,m⟩:=h;have F:=F.mono hk;intro Zb s Z H Q I h;refine kY (Lb I l m ?_ BV);refine Xr (h₀:=X.base) I.ok.mod.KL kp (AI (n pos Zb s Z H _ I h) λus d⟨vs,H1,I1,r,q⟩=>⟨I1.C5,?_⟩) he BP;have i:us.length=ps.length:=by rw[<- r.length];exact F.len _ _ _ _ q
 refine tV (qH (F.run X.A X.stack d H1 ⟨us,[]⟩ us vs Q (E Z) g I1.UI (by have z:=b d us I1.C5 (by rw[ER];exact i);rw[ER]at z;exact z) r q) λr s' a=>?_);cases r with
 |error e=>exact go.xu c I1 a
 |ok o=>
  cases o with
  |ret u=>exact I1.after a
  |next=>exact False.elim a
  |brk=>exact False.elim a
  |cont=>exact False.elim a
end
section
variable{P:Program}{K:ZBc}{E:XK}
theorem b4:Goes (Dy (GX P w) P w K mg Zj N qual scope f cd A outer s H E) (λ_=>E):=λZb Z H' s' ea C dx tb I x u a _ b=>
 WL.leave ⟨Zb,Z,H',ea,C,dx,tb,rfl,I,x,u,a,b⟩
theorem xR:PassesOwn (model P w) (Dy (GX P w) P w K mg Zj N qual scope f cd A outer s H E).A (Dy (GX P w) P w K mg Zj N qual scope f cd A outer s H E).env (Dy (GX P w) P w K mg Zj N qual scope f cd A outer s H E).xe:=PassesOwn.leaving
end
theorem AO.Y8{P:Program}{K:ZBc}{st:Stmt}{k:Nat}(F:AO K x qual st f fd)(S:BG N ps (AX st))(len:∀vs H Q E,sp vs H Q E->vs.length=ps.length)
  (KI:∀(AY:Value)(A:Around)(outer:List Env)(s:Shared)(H:Hp)(vs:List V)(Q:VK)(E:XK),BR k (A.deeper (envOfC qual (AX st) s.heap.objs.size f AY))->sp vs H Q E->
   ∃t,Fw (Dy (GX P w) P w K mg Zj N qual (AX st) f AY A outer s H E) (J4 st) t/\t { nx:=λ_ H'=>Q .A9 H',rt:=Q } (start N vs) H):CD P w K mg Zj (GX P w) (k+1) f fd ps sp:=by
 obtain⟨e,od,kV,c,d,g,AY,ct,IB,rfl,a,Fh⟩:=F.ex;refine Y3 a Fh S len λA outer s H vs Q E b Fc=>?_;obtain⟨t,h,q⟩:=KI AY A outer s H vs Q E b Fc;exact⟨t,h.h,q⟩
section
variable{i k:Nat}{t:TA}{E:St->XK}{body DP:List Stmt}{fld:Str}
theorem RH(h:G2 X.prog X.w X.K X.mg X.base x k ps sp)(c:BR j X.A)(hk:k<=j)(go:Goes X E)(a:X.ex=[])(b:QA X (e::es) t)(d:Gl X x:=by rfl)(BV:(x == ("__debug__":Str))=false:=by decide)
  (he:starEach (e::es) X.env=(false,eval e X.env)::starEach es X.env:=by rfl) (BP:(backTo pos (starEach es X.env)).any (·.1)=false:=by rfl):QE X (.Call (.Name x p) (e::es) [] pos) (OO sp E t):=⟨by have b:=b.h;exact yy h c hk go (rm a) b d BV he BP⟩
theorem u4(w:Gl X x)(a:X.mg x=some (.ref C))(q:Lz X.K C none=true)(y:X.calm=true)(d:X.ex=[])(go:Goes X E)(f:QA X (e0::es) t)
  (BV:(x == ("__debug__":Str))=false:=by decide) (he:starEach (e0::es) X.env=(false,eval e0 X.env)::starEach es X.env:=by rfl) (BP:(backTo Bw (starEach es X.env)).any (·.1)=false:=by rfl) :
  QS X (.Raise (some (.Call (.Name x np) (e0::es) [] Bw)) none pos) (W5 C E t):=⟨by
 have f:=f.h;intro Zb s Z H D I h;have mk:∀h':Heap,X.K.In h'->ZQ h' C none:=λh' k=>Zo k q;obtain⟨bm,N,nm,j,bs,hdct,sn,sub,ab,col,dd,k0,k1,k2,k3,k5,mN,G,A,GN,T⟩:=(Zo (X:=I.mod.KL) q).obj;refine wpAny_Raise_call_subT (C:=C) (nm:=nm) (q:=j) (N:=N) (bs:=bs) (bm:=bm) (hdct:=hdct) (sn:=sn) (sub:=sub) (ab:=ab) (col:=col) (dd:=dd) (k0:=k0) (k1:=k1) (k2:=k2) (k3:=k3) (k5:=k5)
  PySem.F.excBase_ValueError (mN:=mN) (T.hasType rfl) (I.ok.hd y) (by rw[he];show(false || (backTo Bw (starEach es X.env)).any (·.1))=false;rw[BP];rfl) GN (Lb I w a ⟨rfl,?_⟩ BV)
 rw[he];have i:=f Bw Zb s Z H _ I h;rw[he]at i;refine Calls.evalArgs_plain (AI i λus s2⟨vs,H2,I2,r,m,B⟩=>⟨rfl,?_,I2.bk _ _ G,A.keeps I2.bk,T.keeps I2.bk,λh' e a=>?_⟩)
 .rw[<- r.length];exact CU m (by decide +kernel)
 .obtain⟨t',l,n,_⟩:=a.there;have g:s2.heap.get? e=none:=a.new;have J:=I2.call (h':=h') (g':=s2.gens) (d':=s2.drawn) (t':=s2.toks) (ch:=[]) (Un.kept a.keeps) (I2.AF.kept a.keeps) I2.bare (λb z=>absurd z (by simp));refine go Zb Z H2 _ e C none none J ⟨⟨_,_,l,rfl,rfl,rfl,by simp,rfl⟩,λT z=>by cases z⟩ ⟨?_,?_⟩ (λT z=>by cases z) (λp v=>⟨λz=>?_,by simp⟩) B
  .cases z:H2 e with
   |none=>rfl
   |some o=>obtain⟨u,c⟩:=I2.AF.there z;rw[g]at c;cases c
  .cases z:X.s₀.heap.get? e with
   |none=>rfl
   |some o=>obtain⟨u,c⟩:=I2.base.there e o z (by rw[d];simp);rw[g]at c;cases c
  .have:=(I2.pin p v).1;rw[z,g]at this;cases this⟩
theorem pB(Ca:X.stack=X.env::X.outer)(hex:X.ex=[])(t:X.N.Nodup)(k:X.N[j]?=some n)(hk:X.env.scope.names.lookup n=some .local)(hg:Gl X x)(σ:X.mg x=some (.ref S))
  (m:∀(pn:ZBd)(xe:Value->Shared->Prop)(E1:St->XK),Goes (X.Fq pn xe) E1->Fw (X.Fq pn xe) body (Lp E1))
  (hh:∀e,Fw (X.DP e) (b0::DP) th) (BV:(x == ("__debug__":Str))=false:=by decide) :
  QS X (.Try body [.ExceptHandler (some (.Name x np)) (some n) (b0::DP) MR] [] [] pos) (SW X.K S j Lp th):=⟨by
 have m:=λpn xe E1 g=>(m pn xe E1 g).h;have hh:=λe=>(hh e).h;intro Zb s Z H D I h;obtain⟨E1,h1,h2⟩:=h;have G:X.env.frame=some X.env.locals:=by
  rcases I.ok.Ie with e|⟨_,G⟩
  .rw[e]at Ca;exact absurd (k9 List.length Ca) (by simp)
  .exact G
 refine wpAny_Try_except ?_;refine jx (m (X.pn++Zb) _ E1 ?_ [] s Z H D I.Fq h1) (λf B q=>?_) (λe B q=>q)
 .intro ZT σ1 H1 B ea C dx tb I1 J ⟨u1,u2⟩ A c hE;have i:Inv X Zb σ1 H1 B:=I1.K4;have u2:X.s₀.heap.get? ea=none:=u2;have A:∀T,tb=some T->H1 T=none/\X.s₀.heap.get? T=none:=A;have c:∀p∈X.pn++Zb,p.1≠ea/\tb≠some p.1:=λp q=>c p (GB _ q);refine fR (outer:=X.outer) (L:=X.env.locals) (by rw[<- Ca];exact i.ok.frames) (Zj:=X.base) (by rw[<- Ca];exact i.stack) G J λh' T kp a F=>?_;have E:=i.eX Ca J u1 u2 A c kp;obtain⟨R,GH⟩:=h2 σ1 C dx ea H1 hE u1;refine wpAny_handleBy_cons ?_ (λz=>by cases z);refine codeAny_handlers_test ?_;refine Lb (X:=X.DP (.ref ea)) E.DP hg σ ?_ BV;obtain⟨oe,vs,he,hc,hd,GO,hz,h3⟩:=F.obj;have LT:PySem.W.Looks (model X.prog X.w) h' (typeOf (.ref ea)) (.ref C):=by
   rw[<- hc];exact(PySem.W.Looks.ld he).andThen .now
  refine(PySem.W.exm_one (K:=X.K) E.C5 LT R).here ?_;refine codeAny_handlers_suite_as ?_;have fl:∀b∈CC (X.env::X.outer),∃o,h'.get? b=some o/\∀vs,o.data≠.fields vs:=λb m=>by
   have st:=E.stack;rw[Ca]at st;obtain⟨_,o,ho,Y⟩:=st.mem m;exact⟨o,ho,Y⟩
  refine gE (s:={ B with heap:=h' }) (l:=X.env::X.outer) F fl λh4 P O=>?_
  have V:∀T',some T=some T'->H1 T'=none/\X.s₀.heap.get? T'=none:=λT' eT=>by
   cases eT;exact a.elim (λa=>⟨i.AF.fresh a,gp (CU i.sz a)⟩) (A T)
  have U:∀p∈X.pn++Zb,p.1≠ea/\some T≠some p.1:=λp q=>⟨(c p q).1,λz=>a.elim (λa=>by
   have M:=B4 (i.pin p q).1;rw[<- BH z]at M;exact absurd M (Nat.not_lt.mpr a)) λy=>(c p q).2 (y.trans z)⟩
  have I4:=E.eX Ca F u1 u2 V U P;have I5:=I4.tO O u1 u2 λp q=>(c p q).1;refine Qb (X:=X.DP (.ref ea)) (v:=.ref ea) I5.DP t k (.inl hk) rfl (λQ I6=>?_) (.inr hk);refine jx (hh (.ref ea) Zb Q _ _ (D.drop j) I6 GH) (λf s7 q=>?_) (λ_ _ z=>z.elim);cases f with
  |next=>
   obtain⟨σ7,H7,I7,d⟩:=q;exact(I7.Qd I.ok).unbind t k hk λs' I9=>⟨_,_,I9,d⟩
  |brk=>
   obtain⟨σ7,H7,I7,d⟩:=q;exact(I7.Qd I.ok).unbind t k hk λs' I9=>⟨_,_,I9,d⟩
  |cont=>
   obtain⟨σ7,H7,I7,d⟩:=q;exact(I7.Qd I.ok).unbind t k hk λs' I9=>⟨_,_,I9,d⟩
  |ret u=>
   obtain⟨v,σ7,H7,I7,r,d⟩:=q;exact(I7.Qd I.ok).unbind t k hk λs' I9=>⟨v,_,_,I9,r,d⟩
 .cases f with
  |next=>
   obtain⟨σ7,H7,I7,d⟩:=q;exact mV ⟨_,_,I7.K4,d⟩
  |brk=>
   obtain⟨σ7,H7,I7,d⟩:=q;exact⟨_,_,I7.K4,d⟩
  |cont=>
   obtain⟨σ7,H7,I7,d⟩:=q;exact⟨_,_,I7.K4,d⟩
  |ret u=>
   obtain⟨v,σ7,H7,I7,r,d⟩:=q;exact⟨v,_,_,I7.K4,r,d⟩⟩
end
section
variable{K:ZBc}{x:Addr}{ox:Obj}{fill expr:Bool}{tk:Tok}
structure ExGet (K:ZBc) (C:Addr):Prop where
 ga:PySem.W.findIn K (.ref C) "__getattribute__"=some (some (.builtin "BaseException.__getattribute__"))
 gt:PySem.W.findIn K (.ref C) "__getattr__"=some none
 mb:PySem.W.mroIn K C (.type "BaseException")=some true
theorem vz(o:Value):bindSpecial (.builtin "BaseException.__getattribute__") o=pure (.builtin "BaseException.__getattribute__", [o]):=by
 first|rfl|kernel_rfl
theorem zA{Q:Value->Shared->Prop}(X:K.In s.heap)(I:PySem.W.InstAt s.heap x ox C od)(g:ExGet K C)
  (h:wpAny (model prog w) A.in1 (Builtin.«object.__getattribute__» ⟨[.ref x,.str name tk],[]⟩) (λa s'=>match a with | .done (.ret v)=>wpAny (model prog w) A (handedOut v) Q E s'|_=>False) (λ_ _=>False) s) :
  wpAny (model prog w) A (getAttrBy (.ref x) (.str name tk) fill expr) Q E s:=by
 obtain⟨hh,l,d,t,os⟩:=s;have b:=I.type (M:=model prog w);have k:=iE (M:=model prog w) X g.ga;have j:=iE (M:=model prog w) X g.gt;have i:=PySem.W.looks_mroIn (M:=model prog w) X g.mb;unfold getAttrBy;refine lZ (iM (b.at (iM (k.at ?_))));have f:(Value.builtin "BaseException.__getattribute__" == Value.builtin "object.__getattribute__")=false:=by decide +kernel
 dsimp only;rw[ib (by rw[f,XU];decide)];unfold getAttrByItsOwn hookBefore;rw[ir (show onTheHeap (Value.ref C)=true from rfl)];refine iM (j.at (iM (uT (lZ ?_))));unfold callGetattribute;rw[ib (show ¬ (expr && onTheHeap (Value.builtin "BaseException.__getattribute__"))=true by cases expr <;> decide)]
 unfold boundAndCalled;rw[vz];refine iM (jP ?_);show wpAny _ _ (call (.builtin "BaseException.__getattribute__") [.ref x,.str name tk]) _ _ _;refine tV (codeAny_call_builtin PySem.F.excAttr_ValueError.ga.plain PySem.F.entry_bexc_ga ?_);have hk:builtinKind "BaseException.__getattribute__"=some .slot:=by decide +kernel
 have c:splitId "BaseException.__getattribute__"=some ("BaseException","__getattribute__"):=by decide +kernel
 have e:=PySem.F.args_bexc_ga (.ref x) (.str name tk);simp only[checkBuiltinCall,hk,c];unfold isInstance;refine iM (iM (b.at (i.at ?_)));rw[ib (by decide)];refine wpAny_of_eq e ?_;refine jx h (λa s' z=>?_) λ_ _ z=>z.elim;rcases a with(_|_|_|_)|_ <;> first|exact z|exact z.elim
theorem ni{Q:Option Value->Shared->Prop}(X:K.In s.heap)(I:PySem.W.InstAt s.heap x ox C od)(g:ExGet K C)(c:PySem.W.findObj K C od "__class__"=some (.bind (.builtin "getset_descriptor.__get__") (.builtin "object.__class__")))(b:PySem.W.mroIn K C (.type "object")=some true)
  (h:Q (some (.ref C)) { s with toks:=s.toks+1 }):wpAny (model prog w) A (getAttr? (.ref x) "__class__") Q E s:=by
 unfold getAttr? getAttrBy?;refine iM (wpAny_mkText (iM (uT ?_)));refine zA (s:={ s with toks:=s.toks+1 }) X I g ?_
 obtain⟨a,e,d,t,os⟩:=s;have i:=I.type (M:=model prog w);have f:=PySem.W.looks_find (M:=model prog w) X I c;refine iM (jP (iM (jP (iM (i.at (iM (f.at ?_)))))));show wpAny _ _ (holding [Value.builtin "object.__class__"] (call (.builtin "getset_descriptor.__get__") [.builtin "object.__class__",.ref x,.ref C]) >>= ret) _ _ _;refine iM (lZ (tV (PySem.W.class_get (s:=⟨a,e,d,t+1,os⟩) (ox:=ox) (od:=od) X I b ?_)));refine jP ?_;show wpAny _ _ (handedOut (.ref C)) _ _ _;rw[PySem.W.handedOut_of rfl];exact jP (jP h)
end
structure Ml (K:ZBc) (C:Addr):Prop extends ExGet K C where
 cl:(PySem.W.clsIn K C).isSome=true
 gc:PySem.W.findIn K (.ref C) "__class__"=some (some (.builtin "object.__class__"))
 gn:PySem.W.specialIn K (.builtin "object.__class__") "__get__"=some (some (.builtin "getset_descriptor.__get__"))
 tk:PySem.W.takesIn K (.builtin "object.__class__")=some true
 mo:PySem.W.mroIn K C (.type "object")=some true
theorem pq{K:ZBc}{a g:Value}(b:(PySem.W.clsIn K C).isSome=true)(e:PySem.W.findIn K (.ref C) name=some (some a))(d:PySem.W.specialIn K a "__get__"=some (some g))(c:PySem.W.takesIn K a=some true):PySem.W.findObj K C od name=some (.bind g a):=by
 obtain⟨cd,b⟩:=Option.isSome_iff_exists.mp b;unfold PySem.W.findObj;rw[b,ZAs,e,ZAs];simp[d,c]
theorem zd{K:ZBc}{x:Addr}(g:Ml K C):PySem.W.KitX K (.ref x) (.ref C) (λh=>∃ox od,PySem.W.InstAt h x ox C od) where
 ty:=λ_ _ _ AD=>by obtain⟨_,_,I⟩:=AD;exact I.type
 it:=λ_ _ X _=>by
  obtain⟨a,IW⟩:=Option.isSome_iff_exists.mp g.cl;unfold PySem.W.clsIn at IW;split at IW
  .rename_i c' d' pN Sl ho;intro A' Q' E' s' k q;unfold isType loadHead;exact iM (wpAny_loadPart (k _ _ (X _ _ ho)) (jP q))
  .cases IW
 ne:=λh tp dd A4 n c X b=>by
  obtain⟨a,IW⟩:=Option.isSome_iff_exists.mp g.cl;refine Bool.eq_false_iff.mpr λq=>?_;have e:C=tp:=Value.ref.inj (beq_iff_eq.mp q);subst e;unfold PySem.W.clsIn at IW;split at IW
  .rename_i c' d' pN Sl ho;have z:=(X _ _ ho).symm.trans b;cases z
  .cases IW
 ca:=λX⟨_,_,I⟩k=>ni X I g.toExGet (pq g.cl g.gc g.gn g.tk) g.mo k
theorem ql(e:∃ob vs,h.get? a=some ob/\ob.cls=.ref C/\ob.dict=dx/\ob.data=.fields vs)(hd:∀d,dx=some d->∃o,h.get? d=some o):∃ox od,PySem.W.InstAt h a ox C od:=by
 obtain⟨ob,vs,h1,h2,c,b⟩:=e;cases dx with
 |none=>exact⟨ob,none,h1,h2,by unfold PySem.W.notCls;rw[b],by rw[c];trivial⟩
 |some d=>
  obtain⟨o,ho⟩:=hd d rfl;exact⟨ob,some o,h1,h2,by unfold PySem.W.notCls;rw[b],by rw[c];exact ho⟩
def di:V->Value->Prop
 | .ty n,c=>c=.type n
 | .ref S,c=>c=.ref S
 |_,_=>False
def ae(K:ZBc)(H:Hp)(x:V)(t:Value):Prop:=EL K H x t∨∃a C dx,x=.ref a/\t=.ref C/\H a=some (Fz.Hj a C dx)/\Ml K C/\∀d,dx=some d->∃fs,H d=some (.xd fs)
def fg(K:ZBc):List V->Hp->VK->Prop:=λxs H Q=>∃(x cv:V)(c t:Value)(b:Bool),xs=[x,cv]/\di cv c/\ae K H x t/\PySem.W.kitOne K t c=some b/\Q (.bl b) H
section
theorem Dl:CZ X (.builtin "isinstance") (fg X.K):=by
 intro Zb s Z H xs us Q I r h;obtain⟨x,cv,c,t,b,rfl,i,ty,e,q⟩:=h;obtain⟨u,p,rfl,k,j⟩:=vals2 r;have o:p=c:=by
  cases cv with
  |ty n=>cases j;exact i.symm
  |ref S=>cases j;exact i.symm
  |_=>exact i.elim
 subst o;have f:∀tk,EP X Zb Z Q (.bool b) { s with toks:=tk }:=λtk=>⟨.bl b,H,I.tok tk,rfl,q⟩
 rcases ty with ty|⟨a,C,dx,rfl,rfl,ha,g,hd⟩
 .exact ZC I k ty e f
 .cases k;have ok:=(I.AF a _ ha).1;exact Gs (zd g) I.C5 (ql ok λd m=>by obtain⟨fs,l⟩:=hd d m;exact I.AF.there l) e (λz=>nomatch z) f
variable{ta:TE}{f:Str}
end
end L2
namespace Fz
open L2 Lw
variable{xs:List PV}
structure JE (K:ZBc) (a:Addr) (xs:List PV):Prop where
 JO:xs.all flat=true
 sq:∀H,BC K H a (xs.map Fz.enc)
 ob:∃o:Obj,K.lookup a=some o/\o.cls=.type "tuple"
theorem JE.of{K:ZBc}{a:Addr}{vs:List V}(h:∀H,BC K H a vs)(e:xs.map Fz.enc=vs)(f:xs.all flat=true):JE K a xs:=by
 subst e;refine⟨f,h,?_⟩;rcases h (λ_=>none)with h|⟨o,A4,n,h1,h2,_⟩
 .rcases h with h|⟨_,h⟩
  .cases h
  .cases h
 .exact⟨o,h1,h2⟩
section
variable[Xw]
variable{E:Ent0}{ss:List Slot}{Z:L2.St}{F H F' H':Hp}{K:ZBc}{ta tb tc te:TE}{k:PV->Prop}{v:V}{tp:Bool}{nx:List Slot->Prop}{R:Aa}
def KD:Sp:=λvs H Q _=>∃(p:Addr)(m:Int),vs=[.ref p,.int m]/\BJ H p/\0<m/\m<10 ^ 200/\∀r H',0<=r->r<m->Bh p H H'->Q (.int r) H'
theorem pk{a:Int}(c:0<a)(h1:a<10 ^ 200):a.natAbs<2 ^ 1000:=by
 have b:a.natAbs<10 ^ 200:=by omega
 exact iA b (by decide +kernel)
theorem Nd{i:Nat}(hi:ss[i]?=some .AK)(h:Wp ss te λx=>∃m,x=.int m/\0<m/\m<10 ^ 200/\∀r:Nat,(r:Int)<m->k (.int r)):Wp ss (D6 KD [] E0 (AU (Ap i) (AU te B3))) k:=⟨λE Z F H Q S q=>by
 obtain⟨p,e,_⟩:=S.ok i _ hi;refine⟨_,e,h.go E Z F H _ S λv x F1 H1 a r⟨m,f,d,Gh,kk⟩=>?_⟩;subst f;cases r.inv;refine⟨p,m,rfl,a.st.E2 hi e,d,Gh,λr H2 c b s=>q _ _ F1 H2 (a.trans (a.st.Uy hi e s)) (.int r) ?_⟩;obtain⟨n,rfl⟩:=Rf c;exact kk n b⟩
variable{F1:Hp}{js:List Nat}{ti:TE}
noncomputable def JS:Option Str->PV
 |none=>.A9
 |some x=>.str x
end
end Fz
namespace Fz
open L2 Lw
variable{E:Ent0}{A7 ss:List Slot}{Z σ':L2.St}{F F' H H':Hp}{te:TE}{cv v:V}{b tp:Bool}{nx:List Slot->Prop}{R:Aa}{N ps:List Str}{j n:Nat}{vs:List V}{Q:VK}{X:XK}
theorem AE.Wj{P:Program}{w:World}{K:ZBc}{mg:ZBe}{Zj:Heap}{x:Str}{k:Nat}(h:AE P w K mg Zj x k ps KD):AE P w K mg Zj x k ps Z9:=by
 obtain⟨f,fd,F,b,kp,m⟩:=h;refine⟨f,fd,F.imp λvs H Q E q=>?_,b,kp,m⟩;obtain⟨p,m,e,d,c,a,q⟩:=q;exact⟨p,m,e,d,c,gq a (by decide +kernel),q⟩
abbrev Iy:=List Slot->Aa->(Ex->Prop)->Prop
def IC(pre:Iy):Sp:=λvs H Q X=>∃(ss:List Slot)(R:Aa)(D:Ex->Prop)(F:Hp)(A:List Addr),pre ss R D/\Sg (E3 A F H) ss (vs.map some) F H/\(∀v F' H',Fin (E3 A F H) F' H'->R.ok (E3 A F H) F' H' v->Q v H')/\
 ∀(x:Ex)(C:Value)(dx:Option Addr)F' H',Fin (E3 A F H) F' H'->D x->x.at F' C dx->X C dx H'
@[reducible] noncomputable def Zi (X:XK) (D:Ex->Prop):Xw:=⟨λ_=>X,λ_=>True,D⟩
@[reducible] noncomputable def Lf (E:Ent0) (J:List Slot->Prop) (D:Ex->Prop):Xw:=⟨λZ C dx H=>∃ss F x,J ss/\Sg E ss Z F H/\D x/\x.at F C dx,J,D⟩
section
variable[Xw]
variable{pre:Iy}{t:TA}{k:PV->Prop}{K:ZBc}{C S:Addr}{fld:Str}
theorem U6(h:Wa ss t λl=>∃c D,pre l (.is c) D/\Xw.J ss/\(∀x,D x->Xw.D x)/\∀p,c p->k p):Wp ss (OO (IC pre) Xw.e t) k:=⟨λE Z F H Q S q=>
 h.go E Z F H _ S λvs l F1 H1 b a⟨c,D,g,i,j,kk⟩=>by
  refine⟨l,.is c,D,F1,[],g,b.st.Qu a,λv F' H' f⟨p,r,kp⟩=>?_,λx C dx F' H' f d BO=>?_⟩
  .exact q v p F' H' (b.trans (b.st.back (λ_ h=>absurd h Af) f)) r (kk p kp)
  .exact E.hx ss Z F' H' x C dx i (b.st.back (λ_ h=>absurd h Af) f).st (j x d) BO⟩
theorem iq(h:We ss t λps=>ps.length<=1000/\Xw.J ss/\Xw.D ⟨C,[],[]⟩):Ws ss (W5 C Xw.e t) nx R:=⟨λE D Z F H S i g=>
 h.go E Z F H _ S λvs ps F1 H1 b a AD=>by obtain⟨c,d,f⟩:=AD;exact⟨by rw[a.length];exact c,E.hx ss Z F1 H1 ⟨C,[],[]⟩ (.ref C) none d b.st f ⟨rfl,.inl ⟨rfl,rfl,rfl⟩⟩⟩⟩
end
section
variable{pre:Iy}
theorem fT{t:TS}(h:IC pre vs H Q X)(g:∀ss R D,pre ss R D->ss.length=n)
  (hw:∀ss R D,pre ss R D->let _i:Xw:=Zi X D;Ws (ss++List.replicate (N.length - n) .any) t (λ_=>∃k,R=.is k/\k .A9) R):t { nx:=λ_ H'=>Q .A9 H',rt:=Q } (L2.start N vs) H:=by
 obtain⟨ss,R,D,F,A,a,S,q,b⟩:=h;have e:vs.length=n:=by have:=S.len;rw[AA]at this;rw[<- this];exact g ss R D a
 unfold L2.start;rw[e];letI:Xw:=Zi X D;refine(hw ss R D a).go ⟨E3 A F H,λA7 σ' F' H' x C dx _ S' d BO=>b x C dx F' H' S'.toFin d BO⟩ _ _ F H (S.grown _) (λA7 σ' F' H'⟨k,e,c⟩S' _=>?_) λv F' H' f ok=>q v F' H' f ok;subst e;exact q .A9 F' H' S'.toFin ⟨.A9,.A9,c⟩
theorem fw(b:∀ss R D,pre ss R D->ss.length=n)(h:IC pre vs H Q X):vs.length=n:=by
 obtain⟨ss,R,D,F,A,a,S,q⟩:=h;have:=S.len;rw[AA]at this;rw[<- this];exact b ss R D a
noncomputable abbrev Ent0.at(E:Ent0)(F:Hp):Ent0:=⟨E.A,F,E.H0,E.B⟩
theorem Fin.un(S:Fin E F H)(f:Fin (E.at F) F' H'):Fin E F' H':=⟨f.fh,S.f0.trans f.f0,f.keep,λa o e=>(f.fresh a o e).elim (λe=>S.fresh a o e) .inr,f.G6,f.KA,f.a0,f.bF,f.bH,f.b0⟩
theorem Ok.un{G:Hp}{s:Slot}{o:Option (Option V)}:Ok (E.at G) F H s o↔Ok E F H s o:=by
 cases s with
 |sq tp xs=>cases tp <;> exact Iff.rfl
 |_=>exact Iff.rfl
theorem Sg.un(S:Sg E ss Z F H)(S':Sg (E.at F) A7 σ' F' H'):Sg E A7 σ' F' H':=⟨S.toFin.un S'.toFin,S'.len,λi s hi=>Ok.un.mp (S'.ok i s hi),S'.Bg⟩
theorem Sg.ye(S:Sg E ss Z F H):Sg (E.at F) ss Z F H:=⟨⟨S.fh,AJ.refl _,S.keep,λ_ _ e=>.inl e,S.G6,S.KA,S.a0,S.bF,S.bH,S.b0⟩,S.len,λi s hi=>Ok.un.mpr (S.ok i s hi),S.Bg⟩
theorem Aa.un{G:Hp}(h:R.ok (E.at G) F H v):R.ok E F H v:=by
 cases R <;> exact h
theorem Sg.yV(S:Sg E ss Z F H)(j:Nat):Sg E (ss.set j .any) (Z.set j none) F H:=by
 have at_:∀(i:Nat)(s:Slot),(ss.set j .any)[i]?=some s->s=.any∨(i≠j/\ss[i]?=some s):=λi s hi=>by
  by_cases q:i=j
  .subst q
   by_cases c:i<ss.length
   .rw[CL c]at hi;cases hi;exact .inl rfl
   .rw[ZAh (by rw[Ik];omega)]at hi;cases hi
  .rw[C0 (B5 q)]at hi;exact .inr ⟨q,hi⟩
 refine⟨S.toFin,by rw[Ik,Ik];exact S.len,λi s hi=>?_,λi k u w l MF hi hk b a=>?_⟩
 .rcases at_ i s hi with rfl|⟨q,hi⟩
  .trivial
  .rw[C0 (B5 q)];exact S.ok i s hi
 .rcases at_ i u hi with rfl|⟨q,hi⟩
  .exact b
  .rcases at_ k w hk with rfl|⟨q2,hk⟩
   .exact a
   .rw[C0 (B5 q)]at b;rw[C0 (B5 q2)]at a;exact S.Bg i k u w l MF hi hk b a
end
section
variable[Xw]
variable{K:ZBc}{S:Addr}{tb:(L2.St->XK)->TS}{th:TS}
theorem nB(J:List Slot->Prop)(Dx:Ex->Prop)(q:∀E:Ent0,@Ws (Lf E J Dx) ss (tb (Lf E J Dx).e) nx R)
  (hh:∀NP x,J NP->Dx x->PySem.W.exmOne K (.ref x.C) (.ref S)=some true/\Ws (NP.set j (.is (.exc x.C x.ns x.xs))) th (λBD=>nx (BD.set j .any)) R):Ws ss (SW K S j tb th) nx R:=⟨λE D Z F H S0 k i=>by
 refine⟨(Lf (E.toEnt0.at F) J Dx).e,@Ws.go (Lf (E.toEnt0.at F) J Dx) _ _ _ _ (q (E.toEnt0.at F)) (@Ent.mk (Lf (E.toEnt0.at F) J Dx) (E.toEnt0.at F) λss Z F H x C dx b S d BO=>⟨ss,F,x,b,S,d,BO⟩) D Z F H S0.ye (λA7 σ' F' H' n S' ff=>k A7 σ' F' H' n (S0.un S') ff) (λv F' H' f ok=>i v F' H' (S0.toFin.un f) (Aa.un ok)),λσ1 C dx ea H1 p UG=>?_⟩;obtain⟨NP,F1,x,b,S1,s,t,BO⟩:=p;obtain⟨UX,hw⟩:=hh NP x b s;cases t;have l:=S0.un S1;have m:=l.alloc UG (Hj ea x.C dx);have r:Rep (upd F1 ea (Hj ea x.C dx)) (.ref ea) (.exc x.C x.ns x.xs):=by
  rcases BO with⟨h,g,c⟩|⟨a,vs,h,g,c,u⟩
  .subst c;rw[h,g];exact .Mo Al
  .subst h;exact .exc Al (m.ff _ _ g) c (u.mono m.ff)
 exact⟨UX,hw.go E (D.drop j) _ _ _ (m.st.ED r) (λBD σ2 F3 H3 o S2 ff=>k _ _ F3 H3 o (S2.yV j) (S1.f0.trans (m.ff.trans ff))) λv F' H' f ok=>i v F' H' f ok⟩⟩
end
def YR(K:ZBc)(p:PV)(t:Value):Prop:=match p with
 | .exc C _ _=>t=.ref C/\Ml K C
 |p=>t=JI p
section
variable[Xw]
variable{K:ZBc}{k:PV->Prop}{fld:Str}
theorem Rep.kc{p:PV}{t c:Value}(s:AJ F H)(r:Rep F v p)(h:YR K p t)(l:PySem.W.kitOne K t c=some b)(j:∀C ns xs,p≠.obj C ns xs)(f:∀a xs,p≠.con a xs):ae K H v t:=by
 cases r with
 |A9=>cases(show t=.type "NoneType" from h);exact .inl .A9
 |bl b=>cases(show t=.type "bool" from h);exact .inl (.bl b)
 |int i=>cases(show t=.type "int" from h);exact .inl (.int i)
 |str x=>cases(show t=.type "str" from h);exact .inl (.str x)
 |lst e _=>cases(show t=.type "list" from h);exact .inl (.lst (s _ _ e))
 |tup e _=>cases(show t=.type "tuple" from h);exact .inl (.tup (s _ _ e))
 |Ag e _ _=>cases(show t=.type "dict" from h);exact .inl (.dK (s _ _ e))
 |obj _ _ _ _=>exact absurd rfl (j _ _ _)
 |con=>exact absurd rfl (f _ _)
 |Mo e=>
  obtain⟨rfl,g⟩:=h;exact .inr ⟨_,_,none,rfl,rfl,s _ _ e,g,λd z=>by cases z⟩
 |exc e k _ _=>
  obtain⟨rfl,g⟩:=h;exact .inr ⟨_,_,_,rfl,rfl,s _ _ e,g,λd z=>by cases z;exact⟨_,s _ _ k⟩⟩
theorem DY(h:Wp ss te λp=>((∀C ns xs,p≠.obj C ns xs)/\∀a xs,p≠.con a xs)/\∃t c b,di cv c/\YR K p t/\PySem.W.kitOne K t c=some b/\k (.bl b)):Wp ss (Dm (fg K) (AU te (AU (tC cv) B3))) k:=⟨λE Z F H Q S q=>
 h.go E Z F H _ S λv p F1 H1 d r AD=>by obtain⟨⟨h1,h2⟩,t,c,b,g,f,e,kk⟩:=AD;exact⟨v,cv,c,t,b,rfl,g,r.kc d.st.fh f e h1 h2,e,q _ _ F1 H1 d (.bl _) kk⟩⟩
end
end Fz
namespace L2
theorem fk{X:Cx}:Goes X (λ_=>E0):=λ_ _ _ _ _ _ _ _ _ _ _ _ _ h=>h.elim
end L2
namespace Fz
open L2 Lw
variable{i j n:Nat}{C a a0:Addr}{l ss:List Slot}{ta tb te:TE}{N ns:List Str}{F F' H H':Hp}{t' u:OV}{pre:Pre}{X:XK}{Z:L2.St}{E:Ent0}{vs:List V}{nk:NK}{us:List OV}{Q:VK}
theorem iu{b c n:Int}(e:1<=b)(d:b<=c)(a:0<=n):∃m:Nat,(if(if c<n then c else n) > b then(if c<n then c else n)else b)=(m:Int)/\(m:Int)<=c:=by
 have h:∀z:Int,1<=z->z<=c->∃m:Nat,z=(m:Int)/\(m:Int)<=c:=λz f h1=>⟨z.toNat,by omega,by omega⟩;apply h
 .split
  .omega
  .omega
 .split
  .split <;> omega
  .omega
noncomputable def U2(K:ZBc)(C:Addr):Bool:=PySem.W.findIn K (.ref C) "__getattribute__" == some (some (.builtin "BaseException.__getattribute__")) && (PySem.W.findIn K (.ref C) "__getattr__" == some none && (PySem.W.mroIn K C (.type "BaseException") == some true && ((PySem.W.clsIn K C).isSome && (PySem.W.findIn K (.ref C) "__class__" == some (some (.builtin "object.__class__")) && (PySem.W.specialIn K (.builtin "object.__class__") "__get__" == some (some (.builtin "getset_descriptor.__get__")) && (PySem.W.takesIn K (.builtin "object.__class__") == some true && PySem.W.mroIn K C (.type "object") == some true))))))
theorem zu{K:ZBc}(h:U2 K C=true):Ml K C:=by
 unfold U2 at h;simp only[EO,wB]at h;obtain⟨h1,h2,f,e,d,c,b,a⟩:=h;exact⟨⟨h1,h2,f⟩,e,d,c,b,a⟩
def Qx(K:ZBc)(cs:List Addr)(S C:Addr)(i:Nat):Bool:=U2 K C && (PySem.W.kitOne K (.ref C) (.ref S) == some true && (PySem.W.kitOne K (.ref C) (.type "ValueError") == some true && (List.range cs.length).all λj=>PySem.W.kitOne K (.ref C) (.ref (cs.getD j 0)) == some (decide (j=i))))
structure aO (K:ZBc) (cs:List Addr) (S C:Addr) (i:Nat):Prop where
 ex:Ml K C
 st:PySem.W.kitOne K (.ref C) (.ref S)=some true
 ve:PySem.W.kitOne K (.ref C) (.type "ValueError")=some true
 at_:∀j,j<cs.length->PySem.W.kitOne K (.ref C) (.ref (cs.getD j 0))=some (decide (j=i))
theorem pZ{K:ZBc}{cs:List Addr}{S:Addr}(h:Qx K cs S C i=true):aO K cs S C i:=by
 unfold Qx at h;simp only[EO,wB,Gq]at h;obtain⟨h1,h2,c,b⟩:=h;exact⟨zu h1,h2,c,λj a=>b j (List.mem_range.mpr a)⟩
theorem tI(bs:List Bool):(bs.map V.bl).all D3=true:=by
 rw[Gq];intro x hx;obtain⟨y,_,rfl⟩:=List.mem_map.mp hx;rfl
section
variable[Xw]
variable{K:ZBc}{k:PV->Prop}
theorem Yt{neg:Bool}(c:JE K a (ns.map .str))(h:Wp ss ta λp=>∃x,p=.str x/\k (.bl (if neg then !decide (x∈ns)else decide (x∈ns)))):Wp ss (BU (IQ K neg) ta (tC (.ref a))) k:=⟨λE Z F H Q S q=>
 h.go E Z F H _ S λv p F1 H1 d b AD=>by
  obtain⟨x,e,kk⟩:=AD;subst e;cases b.inv;have sq:=c.sq H1;rw[Tj]at sq;refine⟨a,ns.map V.str,rfl,.inr sq,rfl,KZ ns,?_⟩;rw[VI];exact q _ _ F1 H1 d (.bl _) kk⟩
theorem sQ(h:Wq ss ta λtp xs=>tp=false/\∃bs:List Bool,xs=bs.map PV.bl/\Wp ss tb λq=>∃b,q=.bl b/\k (.int (P7 (.bl b) (bs.map V.bl)))):Wp ss (IZ K "list" (WN K) ta (AU tb B3)) k:=⟨λE Z F H Q S q=>
 h.go E Z F H _ S λv tp xs F1 H1 c sv⟨i,bs,e,h2⟩=>by
  subst i;subst e;obtain⟨l,vs,rfl,g,r⟩:=sv.seq c.st;refine⟨.inl ⟨rfl,_,AQ.of g⟩,h2.go E Z F1 H1 _ c.st λn p2 F2 H2 a d⟨b,j,kk⟩=>?_⟩;subst j;cases d.inv;obtain⟨o,BI,m,FR,f⟩:=(sv.mv a).seq a.st;cases m;rw[f.fu]at FR;exact⟨l,_,_,rfl,rfl,AQ.of FR,rfl,tI bs,q _ _ F2 H2 (c.trans a) (.int _) kk⟩⟩
end
def TB(K:ZBc)(cs:List Addr)(S:Addr):Pre:=λl R=>∃(C:Addr)(a:List Str)(xs:List PV)(i:Nat),l=[.is (.exc C a xs),.is (.int i)]/\aO K cs S C i/\i<cs.length/\cs.length=16/\R=.is λp=>p=.bl true
theorem za(h:i<16):P7 (.bl true) (List.map V.bl [decide (0=i),decide (1=i),decide (2=i),decide (3=i),decide (4=i),decide (5=i),decide (6=i),decide (7=i),decide (8=i),decide (9=i),decide (10=i),decide (11=i),decide (12=i),decide (13=i),decide (14=i),decide (15=i)])=1:=by
 have c:i=0∨i=1∨i=2∨i=3∨i=4∨i=5∨i=6∨i=7∨i=8∨i=9∨i=10∨i=11∨i=12∨i=13∨i=14∨i=15:=by omega
 rcases c with rfl|rfl|rfl|rfl|rfl|rfl|rfl|rfl|rfl|rfl|rfl|rfl|rfl|rfl|rfl|rfl <;> rfl
theorem sI(h:i<16):L2.Bm [PV.bl (decide (0=i)),PV.bl (decide (1=i)),PV.bl (decide (2=i)),PV.bl (decide (3=i)),PV.bl (decide (4=i)),PV.bl (decide (5=i)),PV.bl (decide (6=i)),PV.bl (decide (7=i)),PV.bl (decide (8=i)),PV.bl (decide (9=i)),PV.bl (decide (10=i)),PV.bl (decide (11=i)),PV.bl (decide (12=i)),PV.bl (decide (13=i)),PV.bl (decide (14=i)),PV.bl (decide (15=i))] (i:Int)=some (.bl true):=by
 have c:i=0∨i=1∨i=2∨i=3∨i=4∨i=5∨i=6∨i=7∨i=8∨i=9∨i=10∨i=11∨i=12∨i=13∨i=14∨i=15:=by omega
 rcases c with rfl|rfl|rfl|rfl|rfl|rfl|rfl|rfl|rfl|rfl|rfl|rfl|rfl|rfl|rfl|rfl <;> rfl
noncomputable def LR:PV->Bool
 | .A9=>true
 |_=>false
theorem Rep.LR{v:V}{p:PV}(r:Rep F v p):decide (v=.A9)=LR p:=by
 cases r <;> rfl
section
variable[Xw]
variable{k:PV->Prop}
theorem lO(h:Wp ss ta λp=>Wp ss tb λq=>q=.A9/\k (.bl (LR p))):Wp ss (BU (λx y H Q=>y=.A9/\Q (.bl (decide (x=.A9))) H) ta tb) k:=⟨λE Z F H Q S q=>
 h.go E Z F H _ S λv p F1 H1 a c h2=>h2.go E Z F1 H1 _ a.st λf p2 F2 H2 d b AD=>by
  obtain⟨e,kk⟩:=AD;subst e;cases b.inv;refine⟨rfl,?_⟩;rw[c.LR];exact q _ _ F2 H2 (a.trans d) (.bl _) kk⟩
theorem KJ(h:Wp ss ta λp=>Wp ss tb λq=>q=.A9/\k (.bl (!LR p))):Wp ss (BU (λx y H Q=>y=.A9/\Q (.bl (!decide (x=.A9))) H) ta tb) k:=⟨λE Z F H Q S q=>
 h.go E Z F H _ S λv p F1 H1 a c h2=>h2.go E Z F1 H1 _ a.st λf p2 F2 H2 d b AD=>by
  obtain⟨e,kk⟩:=AD;subst e;cases b.inv;refine⟨rfl,?_⟩;rw[c.LR];exact q _ _ F2 H2 (a.trans d) (.bl _) kk⟩
variable{K:ZBc}{t u:TE}{pre:Iy}{tA:TA}
theorem xU(h:Wp ss te λp=>∃x,p=.str x/\x.length<=1000/\k (.bl (isNm x))):Wp ss (D6 UW [] E0 (AU te B3)) k:=⟨λE Z F H Q S q=>
 h.go E Z F H _ S λv p F1 H1 a r AD=>by
  obtain⟨x,e,hx,kk⟩:=AD;subst e;cases r.inv;exact⟨x,rfl,hx,λH3 s=>q _ _ F1 H3 (a.trans (a.st.grow s)) (.bl _) kk⟩⟩
end
def bX(K:ZBc):List V->Hp->VK->Prop:=λxs H Q=>∃p ys,xs=[.ref p]/\(AQ K H p ys∨BC K H p ys)/\∀l,H l=none->Q (.ref l) (upd H l (.lst ys))
theorem sX{X:Cx}:CZ X (.type "list") (bX X.K):=Ra
def C2(pre:Pre):Sp:=λvs H Q _=>∃(ss:List Slot)(R:Aa)(F:Hp)(A B:List Addr),pre ss R/\Sg ⟨A,F,H,B⟩ ss (vs.map some) F H/\∀v F' H',Fin ⟨A,F,H,B⟩ F' H'->R.ok ⟨A,F,H,B⟩ F' H' v->Q v H'
inductive Ii (F:Hp):List V->List Slot->Prop where
 |nil:Ii F [] []
 |cons {v:V}{p:PV}{vs:List V}{l:List Slot}:Rep F v p->Ii F vs l->Ii F (v::vs) (.is p::l)
inductive Ho (Z:L2.St) (F:Hp) (i:Nat) (t:OV):List V->List Slot->Prop where
 |here {v:V}{vs:List V}{l:List Slot}:Z[i]?=some (some v)->Ii F vs l->Ho Z F i t (v::vs) (.ow true t::l)
 |there {v:V}{p:PV}{vs:List V}{l:List Slot}:Rep F v p->Ho Z F i t vs l->Ho Z F i t (v::vs) (.is p::l)
theorem Ii.len:∀{vs:List V}{l:List Slot},Ii F vs l->l.length=vs.length:=by
 intro vs l h
 induction h with
 |nil=>rfl
 |cons _ _ a=>rw[CG,CG,a]
theorem Ho.len{t:OV}:∀{vs:List V}{l:List Slot},Ho Z F i t vs l->l.length=vs.length:=by
 intro vs l h
 induction h with
 |here _ r=>rw[CG,CG,r.len]
 |there _ _ a=>rw[CG,CG,a]
theorem Ii.at:∀{vs:List V}{l:List Slot},Ii F vs l->∀{n:Nat}{s:Slot},l[n]?=some s->∃v p,vs[n]?=some v/\s=.is p/\Rep F v p:=by
 intro vs l h
 induction h with
 |nil=>intro n s e;rw[List.getElem?_nil]at e;cases e
 |cons r _ a=>
  intro n s e;cases n with
  |zero=>cases(show some _=some s from e);exact⟨_,_,rfl,rfl,r⟩
  |succ n=>exact a (n:=n) e
theorem Ho.at{t:OV}:∀{vs:List V}{l:List Slot},Ho Z F i t vs l->∃m:Nat,∀{n:Nat}{s:Slot},l[n]?=some s->(n=m/\s=.ow true t/\∃v,vs[n]?=some v/\Z[i]?=some (some v))∨∃v p,vs[n]?=some v/\s=.is p/\Rep F v p:=by
 intro vs l h
 induction h with
 |here e r=>
  refine⟨0,λ{n s}h=>?_⟩;cases n with
  |zero=>cases(show some _=some s from h);exact .inl ⟨rfl,rfl,_,rfl,e⟩
  |succ n=>exact .inr (r.at (n:=n) h)
 |there r _ b=>
  obtain⟨m,c⟩:=b;refine⟨m+1,λ{n s}q=>?_⟩;cases n with
  |zero=>cases(show some _=some s from q);exact .inr ⟨_,_,rfl,rfl,r⟩
  |succ n=>
   rcases c (n:=n) (s:=s) q with⟨e,es,a⟩|a
   .exact .inl ⟨k9 Nat.succ e,es,a⟩
   .exact .inr a
structure Om (E:Ent0) (ss:List Slot) (Z:L2.St) (i:Nat) (lt:Bool) (t t':OV) (F H F' H':Hp):Prop where
 st:Sg E (ss.set i (.ow lt t')) Z F' H'
 ff:AJ F F'
 hh:∀a o,Bs ss Z a->a∉t.addrs->H a=some o->H' a=some o
 nn:∀a o,F' a=some o->F a=some o∨H a=none
structure OR [Xw] (ss:List Slot) (ta:TA) (k:List Slot->Prop):Prop where
 go:∀(E:Ent)(Z:L2.St)(F H:Hp)(Q:List V->Hp->Prop),Sg E ss Z F H->(∀vs l F' H',Mv E ss Z F H F' H'->Ii F' vs l->k l->Q vs H')->ta Z H Q
structure QH [Xw] (ss:List Slot) (i:Nat) (t:OV) (ta:TA) (k:List Slot->Prop):Prop where
 go:∀(E:Ent)(Z:L2.St)(F H:Hp)(Q:List V->Hp->Prop),Sg E ss Z F H->(∀vs l F' H',Mv E ss Z F H F' H'->Ho Z F' i t vs l->k l->Q vs H')->ta Z H Q
structure Wm [Xw] (ss:List Slot) (i:Nat) (lt:Bool) (t:OV) (te:TE) (k:PV->OV->Prop):Prop where
 go:∀(E:Ent)(Z:L2.St)(F H:Hp)(Q:VK),Sg E ss Z F H->(∀v p t' F' H',Om E ss Z i lt t t' F H F' H'->Rep F' v p->k p t'->Q v H')->te Z H Q
structure eK [Xw] (ss:List Slot) (i:Nat) (lt:Bool) (t:OV) (c:TT) (k:Bool->OV->Prop):Prop where
 go:∀(E:Ent)(Z:L2.St)(F H:Hp)(Q:Bool->Hp->Prop),Sg E ss Z F H->(∀b t' F' H',Om E ss Z i lt t t' F H F' H'->k b t'->Q b H')->c Z H Q
theorem Sg.XN{lt:Bool}{t:OV}(S:Sg E ss Z F H)(hi:ss[i]?=some (.ow lt t))(a:Ho Z F i t vs l):Sg ⟨[],F,H,t.addrs⟩ l (vs.map some) F H:=by
 obtain⟨w,e0,c,DJ,k⟩:=S.ok i _ hi;have nn:∀{p:Prop}(a:Addr),a∈([]:List Addr)->p:=λa h=>absurd h Af;obtain⟨m,g⟩:=a.at;refine⟨⟨S.fh,AJ.refl _,λ_ _ _ e=>e,λ_ _ e=>.inl e,λa h=>nn a h,λa h=>nn a h,λa h=>nn a h,λa h=>(k a h).1,λa h=>c.there a h,λa h=>⟨c.there a h,Af⟩⟩,by rw[AA];exact a.len,λn s f=>?_,λn j s u b x f A z y=>?_⟩
 .rcases g f with⟨_,rfl,v,d,q⟩|⟨v,p,d,rfl,r⟩
  .rw[Am,d];rw[e0]at q;cases q;exact⟨w,rfl,c,DJ,λa o=>⟨(k a o).1,.inr ⟨rfl,o⟩⟩⟩
  .rw[Am,d];exact⟨v,rfl,r⟩
 .rcases g f with⟨C,rfl,_⟩|⟨_,_,_,rfl,_⟩
  .rcases g A with⟨B,rfl,_⟩|⟨_,_,_,rfl,_⟩
   .exact x (C.trans B.symm)
   .cases y
  .cases z
theorem Sg.VN{lt:Bool}{EJ:NK}{BK:List OV}(S:Sg E ss Z F H)(hi:ss[i]?=some (.ow lt (.nd nk a0 us)))(f:Fin ⟨[],F,H,(OV.nd nk a0 us).addrs⟩ F' H')(r:Aj F' H' (.ref a0) (.nd EJ a0 BK))(nd:(OV.nd EJ a0 BK).addrs.Nodup)(q:∀a∈(OV.nd EJ a0 BK).addrs,F' a=none/\(H a=none∨a∈(OV.nd nk a0 us).addrs)):
  Om E ss Z i lt (.nd nk a0 us) (.nd EJ a0 BK) F H F' H':=by
 obtain⟨K,e0,L,DJ,x⟩:=S.ok i _ hi;have Q:K=.ref a0:=by cases L;rfl
 subst Q;have J:i<ss.length:=(List.getElem?_eq_some_iff.mp hi).1;have kp:∀a o,a∉(OV.nd nk a0 us).addrs->H a=some o->H' a=some o:=λa o n e=>f.keep a o ⟨Af,n⟩ e;have Bk:∀a,H a≠none->F a=none->F' a=none:=λa h1 h2=>by
  cases e:F' a with
  |none=>rfl
  |some o=>
   rcases f.fresh a o e with z|z
   .rw[show F a=some o from z]at h2;cases h2
   .exact absurd z h1
 have N:∀a,a∈E.A->a∉(OV.nd nk a0 us).addrs:=λa h m=>by
  rcases(x a m).2 with z|⟨_,z⟩
  .exact S.a0 a h z
  .exact(S.b0 a z).2 h
 have d:∀(j:Nat)s,j≠i->ss[j]?=some s->∀a,As s Z[j]? a->a∉(OV.nd nk a0 us).addrs:=λj s g v a ho m=>S.Bg j i s _ a g v hi ho m;refine⟨⟨⟨f.fh,S.f0.trans f.f0,λa o h e=>?_,λa o e=>?_,λa h=>?_,λa h=>?_,S.a0,λa w=>?_,λa w=>?_,S.b0⟩,by rw[Ik];exact S.len,λj s g=>?_,λj k s u b PX g hk B y=>?_⟩,f.f0,λa o _ n e=>kp a o n e,λa o e=>f.fresh a o e⟩
 .refine kp a o (λm=>?_) (S.keep a o h e);rcases(x a m).2 with z|⟨_,z⟩
  .rw[e]at z;cases z
  .exact h.2 z
 .rcases f.fresh a o e with z|z
  .exact S.fresh a o z
  .exact .inr (S.CS z)
 .exact BJ.keep (S.G6 a h) λo e=>kp a o (N a h) e
 .obtain⟨_,_,t,_⟩:=S.G6 a h;exact Bk a (by rw[t];simp) (S.KA a h)
 .exact Bk a (S.bH a w) (S.bF a w)
 .by_cases m:a∈(OV.nd nk a0 us).addrs
  .exact f.bH a m
  .intro z;cases e:H a with
   |none=>exact S.bH a w e
   |some o=>rw[kp a o m e]at z;cases z
 .by_cases c:j=i
  .subst c;rw[CL J]at g;cases g;refine⟨.ref a0,e0,r,nd,λa D=>⟨(q a D).1,?_⟩⟩;rcases(q a D).2 with z|z
   .exact .inl (S.CS z)
   .exact(x a z).2
  .rw[C0 (B5 c)]at g
   by_cases np:s=.AK
   .subst np;obtain⟨l,e,P,O,pt⟩:=S.ok j _ g;obtain⟨_,_,t,_⟩:=id pt;exact⟨l,e,Bk l (by rw[t];simp) P,O,BJ.keep pt λo z=>kp l o (d j _ c g l e) z⟩
   .exact Ok.go S g f.f0 (λa o ho e=>kp a o (d j s c g a ho) e) Bk np
 .have at_:∀(n:Nat)s,(ss.set i (.ow lt (.nd EJ a0 BK)))[n]?=some s->(n=i/\s=.ow lt (.nd EJ a0 BK))∨(n≠i/\ss[n]?=some s):=λn s p=>by
   by_cases c:n=i
   .subst c;rw[CL J]at p;exact .inl ⟨rfl,(BH p).symm⟩
   .rw[C0 (B5 c)]at p;exact .inr ⟨c,p⟩
  have I:∀(n:Nat)s,n≠i->ss[n]?=some s->As s Z[n]? b->b∉(OV.nd EJ a0 BK).addrs:=λn s p v ho m=>by
   rcases(q b m).2 with z|z
   .exact S.Dj v ho z
   .exact d n s p v b ho z
  rcases at_ j s g with⟨t,rfl⟩|⟨M,h1⟩
  .rcases at_ k u hk with⟨G,rfl⟩|⟨C,h2⟩
   .exact PX (t.trans G.symm)
   .exact I k u C h2 y B
  .rcases at_ k u hk with⟨G,rfl⟩|⟨C,h2⟩
   .exact I j s M h1 B y
   .exact S.Bg j k s u b PX h1 h2 B y
section
variable[Xw]
variable{ta:TA}{lt:Bool}{t:OV}{nx:List Slot->Prop}{R:Aa}
theorem L7{k:List Slot->Prop}(h:k []):OR ss B3 k:=⟨λE Z F H Q S q=>q [] [] F H (Mv.refl S) .nil h⟩
theorem uu{k:List Slot->Prop}(h:Wp ss te λp=>OR ss ta λl=>k (.is p::l)):OR ss (AU te ta) k:=⟨λE Z F H Q S q=>
 h.go E Z F H _ S λv p F1 H1 c r h2=>h2.go E Z F1 H1 _ c.st λvs l F2 H2 b a kk=>q _ _ F2 H2 (c.trans b) (.cons (r.mono b.ff) a) kk⟩
theorem O7{k:List Slot->Prop}(hi:ss[i]?=some (.ow lt t))(h:OR ss ta λl=>k (.ow true t::l)):QH ss i t (AU (Ap i) ta) k:=⟨λE Z F H Q S q=>by
 obtain⟨c,e0,_⟩:=S.ok i _ hi;exact⟨_,e0,h.go E Z F H _ S λvs l F2 H2 b a kk=>q _ _ F2 H2 b (.here e0 a) kk⟩⟩
theorem FL{k:List Slot->Prop}(h:Wp ss te λp=>QH ss i t ta λl=>k (.is p::l)):QH ss i t (AU te ta) k:=⟨λE Z F H Q S q=>
 h.go E Z F H _ S λv p F1 H1 c r h2=>h2.go E Z F1 H1 _ c.st λvs l F2 H2 b a kk=>q _ _ F2 H2 (c.trans b) (.there (r.mono b.ff) a) kk⟩
theorem Mv.z8{F1 H1 F2 H2:Hp}(hi:ss[i]?=some (.ow lt t))(a:Mv E ss Z F H F1 H1)(b:Om E ss Z i lt t t' F1 H1 F2 H2):Om E ss Z i lt t t' F H F2 H2:=
 ⟨b.st,a.ff.trans b.ff,λc o n z e=>b.hh c o n z (a.hh c o n e),λc o e=>(b.nn c o e).elim (λe=>a.nn c o e) λe=>.inr (a.none e)⟩
theorem Nc{k:PV->OV->Prop}(hi:ss[i]?=some (.ow lt (.nd nk a0 us)))(h:QH ss i (.nd nk a0 us) ta λl=>∃b,pre l (.mt b)/\∀p t',b p t'->∃EJ BK,t'=.nd EJ a0 BK/\k p t'):Wm ss i lt (.nd nk a0 us) (D6 (C2 pre) [] E0 ta) k:=⟨λE Z F H Q S q=>
 h.go E Z F H _ S λvs l F1 H1 c a⟨b,g,kk⟩=>by
  rw[ER];refine⟨l,.mt b,F1,[],(OV.nd nk a0 us).addrs,g,c.st.XN hi a,λv F' H' f⟨p,t',r,d,nd,e,kp⟩=>?_⟩;obtain⟨EJ,BK,rfl,k2⟩:=kk p t' kp;exact q v p _ F' H' (c.z8 hi (c.st.VN hi f d nd e)) r k2⟩
theorem my{k:Bool->OV->Prop}(h:Wm ss i lt t te λp t'=>∃c,p=.bl c/\k c t'):eK ss i lt t (Km te) k:=⟨λE Z F H Q S q=>
 h.go E Z F H _ S λv p t' F1 H1 a r AD=>by
  obtain⟨c,e,kk⟩:=AD;subst e;cases r.inv;exact⟨c,rfl,q c t' F1 H1 a kk⟩⟩
theorem RU(h:Wm ss i lt t te λp t'=>nx ((ss.set i (.ow lt t')).set j (.is p))):Ws ss (EB te (C4 j)) nx R:=⟨λE D Z F H S b c=>
 h.go E Z F H _ S λv p t' F1 H1 a r kk=>b _ _ F1 H1 kk (a.st.ED r) a.ff⟩
theorem LZ{k:PV->OV->Prop}(hi:ss[i]?=some (.ow lt (.nd nk a0 us)))(h:Wp ss te λp=>k p (.nd nk a0 us)):Ws ss (Hl te) nx (.mt k):=⟨λE D Z F H S l g=>
 h.go E Z F H _ S λv p F1 H1 d r kk=>by
  obtain⟨f,e0,b,DJ,c⟩:=d.st.ok i _ hi;have j:f=.ref a0:=by cases b;rfl
  subst j;exact g v F1 H1 d.st.toFin ⟨p,.nd nk a0 us,r,b,DJ,λa e=>⟨(c a e).1,(c a e).2.imp id λz=>z.2⟩,kk⟩⟩
end
theorem TM{t:TS}(h:C2 pre vs H Q X)(b:∀ss R,pre ss R->ss.length=n)
  (hw:∀ss R,pre ss R->Ws (ss++List.replicate (N.length - n) .any) t (λ_=>False) R):t { nx:=λ_ H'=>Q .A9 H',rt:=Q } (L2.start N vs) H:=by
 obtain⟨ss,R,F,A,B,a,S,q⟩:=h;have e:vs.length=n:=by have:=S.len;rw[AA]at this;rw[<- this];exact b ss R a
 unfold L2.start;rw[e];exact(hw ss R a).go (QQ ⟨A,F,H,B⟩) _ _ F H (S.grown _) (λA7 σ' F' H' z S' _=>z.elim) λv F' H' f ok=>q v F' H' f ok
theorem Pu(b:∀ss R,pre ss R->ss.length=n)(h:C2 pre vs H Q X):vs.length=n:=by
 obtain⟨ss,R,F,A,B,a,S,q⟩:=h;have:=S.len;rw[AA]at this;rw[<- this];exact b ss R a
end Fz
namespace L2
section
variable{X:Cx}{o i value:Expr}{td ty tv:TE}{pos pos':Pos}
theorem II(j:X.A.units+1<cLine)(ho:QE X o td)(hi:QE X i ty)(k:XM i):QE X (.Subscript o i pos) (OY td ty):=⟨by
 have ho:=ho.h;have hi:=hi.h;intro Zb s Z H Q I h;refine xC PySem.F.slot_dict_getitem.lookup k (AI (ho Zb s Z H _ I h) λu b⟨x,H1,I1,d,f⟩=>AI (hi Zb b Z H1 _ I1 f) λn s2⟨y,H2,I2,c,a,v,ex,g,e⟩=>?_);subst ex;obtain rfl:u=Value.ref a:=d;exact⟨wx I2 g,ZAK j I2 g c λl m I3 IM=>⟨v,H2,I3,IM,e⟩⟩⟩
theorem NA(m:X.A.units+1<cLine)(ho:QE X o td)(hi:QE X i ty)(b:QE X value tv)(n:swapsWith value (some (.Subscript o i pos')) pos.line X.env=pure false:=by rfl):
  QS X (.Assign [.Subscript o i pos'] value pos) (Ot td ty tv):=⟨by
 have ho:=ho.h;have hi:=hi.h;have b:=b.h;intro Zb s Z H D I h;refine wpAny_Assign_Subscript (AI (b Zb s Z H _ I h) λr c⟨v,H1,I1,f,l⟩=>AI (ho Zb c Z H1 _ I1 l) λu s2⟨x,H2,I2,e,k⟩=>AI (hi Zb s2 Z H2 _ I2 k) λq p⟨y,H3,I3,d,a,H4,ex,g,j⟩=>?_) n;subst ex;obtain rfl:u=Value.ref a:=e;exact o4 m I3 g d f λs4 I4=>⟨Z,H4,I4,j⟩⟩
theorem PL:QE X (.Dict [] [] pos) V8:=⟨λZb s Z H Q I h=>
 wpAny_Dict_empty ⟨.ref s.heap.objs.size,_,I.laid (a:=s.heap.objs.size) (o:=.dK []) (t':=s.toks) (λ_ _ q=>Bz _ q) (Ae _) (ZO s.heap I.big),rfl,h _ (I.AF.fresh (Ae _))⟩⟩
end
end L2
namespace Fz
open L2 Lw
variable{F F0 H H0:Hp}{v:V}{ss:List Slot}{ta td tv ty:TE}{nx:List Slot->Prop}{R:Aa}{i:Nat}{key:Key}{m p:List Nat}{ks:List Key}{C a dx:Addr}{BI vs:List V}{BK us:List OV}{E:Ent0}{Z:L2.St}{u w:OV}{f:Str}{ns:List Str}
noncomputable def HK:Key->PV
 | .inl i=>.int i
 | .inr x=>.str x
def Gj:List Key->List PV->Key->Option PV
 |k'::ks,x::xs,k=>if k'=k then some x else Gj ks xs k
 |_,_,_=>none
def Es(ks:List Key)(k:Key):Bool:=ks.any λa=>decide (a=k)
def EG(ks:List Key)(k:Key):List Key:=if Es ks k=true then ks else ks++[k]
noncomputable def PQ:List Key->List PV->Key->PV->List PV
 |k'::ks,x::xs,k,p=>(if k'=k then p else x)::PQ ks xs k p
 |_,xs,_,_=>xs
def Lx(ks:List Key)(xs:List PV)(k:Key)(p:PV):List PV:=if Es ks k=true then PQ ks xs k p else xs++[p]
theorem MN{k:Key}(r:Rep F v (HK k)):v=kV k:=by
 cases k with
 |inl i=>cases r.inv;rfl
 |inr x=>cases r.inv;rfl
theorem kL{k:Key}{y:PV}:∀{ks:List Key}{vs:List V}{xs:List PV},AL F vs xs->ks.length=vs.length->Gj ks xs k=some y->∃v,DQ (ks.zip vs) k=some v/\Rep F v y:=by
 intro ks
 induction ks with
 |nil=>intro vs xs _ _ h;cases h
 |cons d ks e=>
  intro vs xs r f h;cases xs with
  |nil=>cases h
  |cons x xs=>
   obtain⟨v,ws,rfl,a,b⟩:=r.inv;have h:(if d=k then some x else Gj ks xs k)=some y:=h
   rw[Ja]
   by_cases c:d=k
   .rw[ir c]at h;cases h;exact⟨v,N5 c,a⟩
   .rw[ib c]at h;obtain⟨w,h1,h2⟩:=e b (PK f) h;exact⟨w,by rw[Nz c];exact h1,h2⟩
section
variable[Xw]
variable{k:PV->Prop}{lt:Bool}
theorem O4(h:Wp ss td λp=>∃ks xs,p=.Ag ks xs/\Wp ss ty λq=>∃key y,q=HK key/\Gj ks xs key=some y/\k y):Wp ss (OY td ty) k:=⟨λE Z F H Q S q=>
 h.go E Z F H _ S λv p F1 H1 c g⟨ks,xs,e,h2⟩=>h2.go E Z F1 H1 _ c.st λo p2 F2 H2 b f⟨key,y,m,i,kk⟩=>by
  subst e;subst m;have n:=g.mono b.ff;cases n with
  |Ag l j d=>
   obtain⟨w,hw,a⟩:=kL d j i;refine⟨_,w,rfl,?_,q w y F2 H2 (c.trans b) a kk⟩;rw[<- hw,MN f];exact E7.k (b.st.fh _ _ l)⟩
theorem Q6{k:List Nat->OV->Prop}(h:∀a,k [] (.nd (.Ag []) a (([]:List PV).map .fz))):Wx ss V8 k:=⟨λE Z F H Q S q p b=>by
 have m:=S.make b (.dK []);refine q _ [] (.nd (.Ag []) p (([]:List PV).map .fz)) F _ m (.nd (k:=.Ag []) (vs:=[]) Al trivial rfl .nil) (by rw[OV.Ce];simp[NK.more,OV.FP]) (λa c=>?_) (h p);rw[OV.Ce]at c;have e:a=p:=by simpa[NK.more,OV.FP]using c
 subst e;exact⟨S.Bk b,S.CS b,.inr b⟩⟩
theorem fe(ks:List Key)(a:Addr)(xs:List PV):(OV.nd (.Ag ks) a (xs.map .fz)).addrs=[a]:=by rw[OV.Ce,OH];rfl
theorem QR:∀{ks:List Key}{vs:List V}{key:Key},ks.length=vs.length->(ks.zip vs).any (λa=>decide (a.1=key))=Es ks key
 | [],vs,key,h=>rfl
 |k'::ks,w::vs,key,h=>by
  rw[Ja,MY,QR (by simpa using h)]
  rfl
 |_::_,[],_,h=>by simp at h
noncomputable def Dn:List Key->List V->Key->V->List V
 |k'::ks,x::xs,k,p=>(if k'=k then p else x)::Dn ks xs k p
 |_,xs,_,_=>xs
theorem Ry:∀{ks:List Key}{vs:List V}{key:Key}{v:V},(ks.zip vs).map (λa=>if a.1=key then(a.1,v)else a)=ks.zip (Dn ks vs key v)
 | [],vs,key,v=>by simp
 |k'::ks,w::vs,key,v=>by
  rw[Ja,Aq,Ry,Dn,Ja]
  by_cases c:k'=key
  .rw[ir c,ir c]
  .rw[ib c,ib c]
 |_::_,[],_,_=>by simp[Dn]
theorem bI:∀(ks:List Key)(vs:List V)(key:Key)(v:V),(Dn ks vs key v).length=vs.length
 | [],vs,key,v=>by rw[Dn];simp
 |k'::ks,w::vs,key,v=>by rw[Dn,CG,bI,CG]
 |_::_,[],_,_=>by rw[Dn];simp
theorem mO{p:PV}(r:Rep F v p):∀{ks:List Key}{vs:List V}{xs:List PV},AL F vs xs->AL F (Dn ks vs key v) (PQ ks xs key p):=by
 intro ks
 induction ks with
 |nil=>intro vs xs h;exact h
 |cons d ks e=>
  intro vs xs h;cases xs with
  |nil=>cases h.D5;exact .nil
  |cons x xs=>
   obtain⟨w,ws,rfl,a,b⟩:=h.inv;show AL F ((if d=key then v else w)::Dn ks ws key v) ((if d=key then p else x)::PQ ks xs key p)
   by_cases c:d=key
   .rw[ir c,ir c];exact .cons r (e b)
   .rw[ib c,ib c];exact .cons a (e b)
theorem wj{xs:List PV}(hi:ss[i]?=some (.ow lt (.nd (.Ag ks) a (xs.map .fz))))(h:Wp ss tv λp=>Wp ss ty λq=>∃key,q=HK key/\ks.length<=99999/\nx (ss.set i (.ow lt (.nd (.Ag (EG ks key)) a ((Lx ks xs key p).map .fz))))):Ws ss (Ot (Ap i) ty tv) nx R:=⟨λE D Z F H S w O=>
 h.go E Z F H _ S λv p F1 H1 f o h2=>by
  obtain⟨m,e0,u,_,_⟩:=f.st.ok i _ hi;have z:m=.ref a:=by cases u;rfl
  subst z;refine⟨_,e0,h2.go E Z F1 H1 _ f.st λI q F2 H2 d t⟨key,A,N,kk⟩=>?_⟩;subst A;have l:=o.mono d.ff;obtain⟨G,P,s,L,K⟩:=d.st.ok i _ hi;cases s with
  |@nd _ _ vs _ x J y r=>
   have j:=r.RD;have e:ks.length=vs.length:=y;have C:(ks.zip vs).length<=99999:=by rw[PH];omega
   refine⟨a,_,rfl,by rw[MN t];exact IE.k x (Gi C),?_⟩;obtain⟨BI,OC,N1,B⟩:∃BI:List V,(EG ks key).length=BI.length/\AL F2 BI (Lx ks xs key p)/\putK (ks.zip vs) key v=(EG ks key).zip BI:=by
    unfold putK EG Lx;rw[QR e]
    by_cases c:Es ks key=true
    .rw[ir c,ir c,ir c];exact⟨Dn ks vs key v,by rw[bI];exact e,mO l j,Ry⟩
    .rw[ib c,ib c,ib c];exact⟨vs++[v],by rw[Bj,Bj,e];rfl,j.append (.one l),by rw[i6 e];rfl⟩
   rw[B];have M:=d.st.NZ (p:=[]) (n:=.nd (.Ag (EG ks key)) a ((Lx ks xs key p).map .fz)) (ho:=.dK ((EG ks key).zip BI)) hi OV.JR (.nd (k:=.Ag (EG ks key)) Al trivial OC (Rw N1)) (by rw[fe];simp) λb g=>.inl (by rw[fe]at g ⊢;exact g);rw[OV.HR]at M;exact w _ Z F2 _ kk M (f.ff.trans d.ff)⟩
end
noncomputable def FU:List Key->Key->Option Nat
 | [],_=>none
 |k'::ks,k=>if k'=k then some 0 else(FU ks k).map (· + 1)
theorem dr:∀{ks:List Key}{key:Key}{n:Nat},FU ks key=some n->ks[n]?=some key
 | [],_,_,h=>by cases h
 |k'::ks,key,n,h=>by
  rw[FU]at h
  by_cases c:k'=key
  .rw[ir c]at h;cases h;subst c;rfl
  .rw[ib c]at h;cases e:FU ks key with
   |none=>rw[e]at h;cases h
   |some m=>rw[e]at h;cases h;exact dr (ks:=ks) e
theorem Sd:∀{ks:List Key}{key:Key},(FU ks key).isSome=Es ks key
 | [],_=>rfl
 |k'::ks,key=>by
  rw[FU];unfold Es;rw[MY]
  by_cases c:k'=key
  .rw[ir c,jE c];rfl
  .rw[ib c,jo c,Bool.false_or,Xo,Sd];rfl
theorem Ut(a:ks.length=vs.length):(DQ (ks.zip vs) key).isSome=Es ks key:=by
 rw[<- Pg,QR a]
theorem YI:∀{ks:List Key}{vs:List V}{key:Key}{n:Nat}{v:V},ks.Nodup->FU ks key=some n->Dn ks vs key v=vs.set n v
 | [],_,_,_,_,_,h=>by cases h
 |k'::ks,[],key,n,v,_,h=>by rw[Dn];simp;simp
 |k'::ks,w::vs,key,n,v,nd,h=>by
  rw[FU]at h;obtain⟨f,d⟩:=List.nodup_cons.mp nd;rw[Dn]
  by_cases c:k'=key
  .rw[ir c]at h;cases h;rw[ir c,i5]
   congr 1
   subst c;have a:∀{ks:List Key}{vs:List V},k'∉ks->Dn ks vs k' v=vs:=by
    intro ks
    induction ks with
    |nil=>intro vs _;rw[Dn];simp
    |cons k2 ks g=>
     intro vs b;cases vs with
     |nil=>rw[Dn];simp
     |cons u vs=>
      rw[Dn,ib (λz=>b (by rw[z];simp)),g (λz=>b (by simp[z]))]
   exact a f
  .rw[ib c]at h;cases e:FU ks key with
   |none=>rw[e]at h;cases h
   |some m=>
    rw[e]at h;cases h;rw[ib c,Rl,YI d e]
section
variable[Xw]
variable{k:PV->Prop}{t:OV}
theorem jw(h:Wp ss ty λq=>Wl ss i t td λ_ u=>∃ks a us key,u=.nd (.Ag ks) a us/\q=HK key/\k (.bl (Es ks key))):Wp ss (P8 ty td) k:=⟨λE Z F H Q S q=>
 h.go E Z F H _ S λv p F1 H1 b d h2=>h2.go E Z F1 H1 _ b.st λm p2 u F2 H2 e c BO AD=>by
  obtain⟨ks,a,us,key,j,l,kk⟩:=AD;subst j;subst l;obtain⟨vs,rfl,f,n,g,o⟩:=c.inv;refine⟨a,DQ (ks.zip vs) key,rfl,by rw[MN d];exact E7.k f,?_⟩;rw[Ut g];exact q _ _ F2 H2 (b.trans e) (.bl _) kk⟩
theorem oA(h:Wp ss ty λq=>Wp ss td λu=>∃ks xs key,u=.Ag ks xs/\q=HK key/\k (.bl (Es ks key))):Wp ss (P8 ty td) k:=⟨λE Z F H Q S q=>
 h.go E Z F H _ S λv p F1 H1 c e h2=>h2.go E Z F1 H1 _ c.st λl u F2 H2 b d AD=>by
  obtain⟨ks,xs,key,g,i,kk⟩:=AD;subst g;subst i;cases d with
  |@Ag a _ vs _ j f m=>
   refine⟨a,DQ (ks.zip vs) key,rfl,by rw[MN e];exact E7.k (b.st.fh _ _ j),?_⟩;rw[Ut f];exact q _ _ F2 H2 (c.trans b) (.bl _) kk⟩
theorem si(h:Wp ss ty λq=>Wp ss td λu=>∃ks xs key,u=.Ag ks xs/\q=HK key/\k (.bl (!Es ks key))):Wp ss (QY ty td) k:=⟨λE Z F H Q S q=>
 h.go E Z F H _ S λv p F1 H1 c e h2=>h2.go E Z F1 H1 _ c.st λl u F2 H2 b d AD=>by
  obtain⟨ks,xs,key,g,i,kk⟩:=AD;subst g;subst i;cases d with
  |@Ag a _ vs _ j f m=>
   refine⟨a,DQ (ks.zip vs) key,rfl,by rw[MN e];exact E7.k (b.st.fh _ _ j),?_⟩;rw[Ut f];exact q _ _ F2 H2 (c.trans b) (.bl _) kk⟩
theorem Lg:(OV.nd (.Ag ks) a us).addrs=a::OV.AW us:=by rw[OV.Ce];rfl
theorem dG{lt:Bool}:∀(m:List Nat)(ss:List Slot),ss[i]?=some (.ow lt t)->i∉m->(Fz.DH m ss)[i]?=some (.ow lt t):=by
 intro m
 induction m with
 |nil=>intro ss h _;exact h
 |cons j m b=>
  intro ss h a;refine b _ ?_ λz=>a (by simp[z]);rw[C0 (by rintro rfl;exact a (by simp))];exact h
theorem Sg.yo{lt:Bool}{Qt:List Key}(S0:Sg E ss Z F0 H0)(S:Sg E ss Z F H)(hi:ss[i]?=some (.ow lt t))(BO:t.at p=some (.nd (.Ag ks) a us))
  (d:∀a∈u.addrs,F a=none/\E.H0 a=none/\((∃i∈m,∃s,s≠Slot.AK/\ss[i]?=some s/\As s Z[i]? a)∨H0 a=none)) (Dt:i∉m)
  (A:Au F H BI BK) (B:Qt.length=BI.length) (Oo:(OV.AW BK).Nodup) (Hu:∀b∈OV.AW BK,b∈OV.AW us∨b∈u.addrs):Sg E ((Fz.DH m ss).set i (.ow lt (t.put p (.nd (.Ag Qt) a BK)))) Z F (upd H a (.dK (Qt.zip BI))):=by
 have I:=dG m ss hi Dt;obtain⟨v,e,r,nd,q⟩:=S.ok i _ hi;have n:∀b,b∈a::OV.AW us->b∈t.addrs:=λb c=>OV.Ji BO b (by rw[Lg];exact c);have G:∀b∈u.addrs,b∉t.addrs:=λb c z=>by
  rcases(d b c).2.2 with⟨j,C,s,_,f,o⟩|w
  .exact S.Bg j i s _ b (by rintro rfl;exact Dt C) f hi o z
  .exact S0.Dj hi z w
 have h:(OV.nd (.Ag ks) a us).addrs.Nodup:=by
  obtain⟨l,J,D,_⟩:=OV.split BO;rw[D,CM,CM]at nd;exact nd.1.2.1
 rw[Lg]at h;have g:∀b∈OV.AW BK,b≠a:=λb c z=>by
  subst z;rcases Hu b c with w|w
  .exact(List.nodup_cons.mp h).1 w
  .exact G b w (n b (by simp))
 refine(S.DH m).NZ I BO (.nd (k:=.Ag Qt) Al trivial B (A.mono (AJ.refl _) λb c o ho=>by rw[AS (g b c)];exact ho)) (by rw[Lg];exact List.nodup_cons.mpr ⟨λz=>g a z rfl,Oo⟩) λb c=>?_;rw[Lg]at c ⊢;rcases List.mem_cons.mp c with w|w
 .exact .inl (by simp[w])
 .rcases Hu b w with z|z
  .exact .inl (by simp[z])
  .refine .inr ⟨(d b z).1,(d b z).2.1,λj s f o=>?_⟩;rcases NT f with y|⟨Ge,hm⟩
   .subst y;cases o
   .rcases(d b z).2.2 with⟨i2,EY,s2,_,CI,x⟩|y
    .exact S.Bg j i2 s s2 b (by rintro rfl;exact hm EY) Ge CI o x
    .exact S0.Dj Ge o y
def Iz(ks:List Key)(us:List OV)(key:Key)(w:OV):List OV:=match FU ks key with
 |some n=>us.set n w
 |none=>us++[w]
theorem T8(h:Wx ss tv λm w=>Wl ss i t td λp u=>∃lt a ks us,ss[i]?=some (.ow lt t)/\u=.nd (.Ag ks) a us/\us.length<=99999/\ks.Nodup/\i∉m/\Wp ss ty λq=>∃key,q=HK key/\nx ((Fz.DH m ss).set i (.ow lt (t.put p (.nd (.Ag (EG ks key)) a (Iz ks us key w)))))):Ws ss (Ot td ty tv) nx R:=⟨λE D Z F H S hn hr=>
 h.go E Z F H _ S λv m w F1 H1 Q O Gb G h2=>h2.go E Z F1 H1 _ Q.st λσ p u F2 H2 K N BO⟨lt,a,ks,us,hi,eu,hz,hk,Dt,h3⟩=>h3.go E Z F2 H2 _ K.st λv3 q F3 H3 C r3⟨key,eq,kk⟩=>by
  subst eu;subst eq;have ev:σ=.ref a:=by cases N;rfl
  subst ev;have I:=K.trans C;have np:∀b∈w.addrs,Bs ss Z b:=λb d k hk U=>by
   rcases(G b d).2.2 with⟨j,T,s,L,O1,o⟩|z
   .exact S.Bg j k s _ b (λe=>by subst e;rw[O1]at hk;exact L (BH hk)) O1 hk o U
   .exact S.Dj hk U z
  have Y:Aj F3 H3 v w:=O.mono I.ff λb d o e=>I.hh b o (np b d) e;have TV:∀b∈w.addrs,F3 b=none/\E.H0 b=none/\((∃i∈m,∃s,s≠Slot.AK/\ss[i]?=some s/\As s Z[i]? b)∨H b=none):=λb d=>by
   refine⟨?_,(G b d).2⟩;cases e:F3 b with
   |none=>rfl
   |some o=>
    rcases I.nn b o e with z|z
    .rw[(G b d).1]at z;cases z
    .exact absurd z (O.there b d)
  have r4:=N.mv K.st ⟨lt,hi⟩ BO C;cases r4 with
  |@nd _ _ vs _ ha sd ft B=>
   have J:ks.length=vs.length:=ft;have vl:=B.length;have Ng:(ks.zip vs).length<=99999:=by rw[PH];omega
   refine⟨a,_,rfl,by rw[MN r3];exact IE.k ha (Gi Ng),?_⟩;obtain⟨v0,e0,r0,DJ,q0⟩:=C.st.ok i _ hi;have M:(OV.nd (.Ag ks) a us).addrs.Nodup:=by
    obtain⟨l,B,g,_⟩:=OV.split BO;rw[g,CM,CM]at DJ;exact DJ.1.2.1
   rw[Lg]at M;have f:∀b∈w.addrs,b∉OV.AW us:=λb d z=>by
    have X:b∈t.addrs:=OV.Ji BO b (by rw[Lg];simp[z]);rcases(G b d).2.2 with⟨j,T,s,_,L,o⟩|y
    .exact S.Bg j i s _ b (by rintro rfl;exact Dt T) L hi o X
    .exact S.Dj hi X y
   obtain⟨BI,ep,OC,N1,Gm,sb⟩:∃BI:List V,putK (ks.zip vs) key v=(EG ks key).zip BI/\(EG ks key).length=BI.length/\Au F3 H3 BI (Iz ks us key w)/\(OV.AW (Iz ks us key w)).Nodup/\∀b∈OV.AW (Iz ks us key w),b∈OV.AW us∨b∈w.addrs:=by
    unfold putK EG Iz;rw[QR J];cases e:FU ks key with
    |some n=>
     have c:Es ks key=true:=by rw[<- Sd,e];rfl
     have Vm:n<us.length:=by
      have:=(List.getElem?_eq_some_iff.mp (dr e)).1;omega
     obtain⟨l,r,g,W⟩:=JT (Ah Vm);rw[ir c,ir c,Ry,YI hk e];refine⟨vs.set n v,rfl,by rw[Ik];exact J,B.set n Y,?_,λb d=>?_⟩
     .show(OV.AW (us.set n w)).Nodup;rw[W];have P:=(List.nodup_cons.mp M).2;rw[g]at P;exact Wu P Gb λb d=>.inr (by rw[<- g];exact f b d)
     .have A:b∈OV.AW (us.set n w):=d;rw[W]at A;rcases List.mem_append.mp A with z|z
      .rcases List.mem_append.mp z with z|z
       .exact .inl (by rw[g];simp[z])
       .exact .inr z
      .exact .inl (by rw[g];simp[z])
    |none=>
     have c:¬ Es ks key=true:=by rw[<- Sd,e];decide
     rw[ib c,ib c];refine⟨vs++[v],by rw[i6 J];rfl,by rw[Bj,Bj,J];rfl,B.append (.one Y),?_,λb d=>?_⟩
     .show(OV.AW (us++[w])).Nodup;rw[JM,Jt,CM];exact⟨(List.nodup_cons.mp M).2,Gb,λx hx y hy e=>f y hy (e▸hx)⟩
     .have A:b∈OV.AW (us++[w]):=d;rw[JM,Jt]at A;exact List.mem_append.mp A
   rw[ep];exact hn _ Z F3 _ kk (Sg.yo (u:=w) S C.st hi BO TV Dt N1 OC Gm sb) (Q.ff.trans I.ff)⟩
end
noncomputable def DE:List Str->Str->Option Nat
 | [],_=>none
 |g::ns,f=>if g=f then some 0 else(DE ns f).map (· + 1)
def Nw(ns:List Str)(f:Str):List Str:=match DE ns f with
 |some _=>ns
 |none=>ns++[f]
def O0(ns:List Str)(us:List OV)(f:Str)(w:OV):List OV:=match DE ns f with
 |some n=>us.set n w
 |none=>us++[w]
def L8(ns:List Str)(vs:List V)(f:Str)(w:V):List V:=match DE ns f with
 |some n=>vs.set n w
 |none=>vs++[w]
theorem bS:∀{ns:List Str}{f:Str}{n:Nat},DE ns f=some n->n<ns.length
 | [],_,_,h=>by cases h
 |g::ns,f,n,h=>by
  rw[DE]at h
  by_cases c:g=f
  .rw[ir c]at h;cases h;exact Nat.succ_pos _
  .rw[ib c]at h;cases e:DE ns f with
   |none=>rw[e]at h;cases h
   |some m=>rw[e]at h;cases h;exact Nat.succ_lt_succ (bS e)
theorem WE:∀{ns:List Str}{vs:List V}{f:Str}{n:Nat}{v:V},DE ns f=some n->vs[n]?=some v->(ns.zip vs).lookup f=some v
 | [],_,_,_,_,h,_=>by cases h
 |g::ns,[],f,n,v,h,hv=>by simp at hv
 |g::ns,w::vs,f,n,v,h,hv=>by
  rw[DE]at h;rw[Ja]
  by_cases c:g=f
  .rw[ir c]at h;cases h;simp at hv;subst c;rw[List.lookup_cons_self,hv]
  .rw[ib c]at h;cases e:DE ns f with
   |none=>rw[e]at h;cases h
   |some m=>
    rw[e]at h;cases h;rw[Gr];have:(f == g)=false:=by simpa using λz=>c z.symm
    rw[this];exact WE e (by simpa using hv)
theorem Zt:∀{ns:List Str}{vs:List V}{f:Str}{v:V},ns.length=vs.length->DI f v (ns.zip vs)=(Nw ns f).zip (L8 ns vs f v)/\(Nw ns f).length=(L8 ns vs f v).length
 | [],[],f,v,_=>by simp[DI,Nw,L8,DE]
 | [],_::_,_,_,h=>by simp at h
 |_::_,[],_,_,h=>by simp at h
 |g::ns,w::vs,f,v,h=>by
  obtain⟨i1,i2⟩:=Zt (ns:=ns) (vs:=vs) (f:=f) (v:=v) (by simpa using h)
  rw[Ja];rw[show DI f v ((g,w)::ns.zip vs)=(if g=f then(g,v)::ns.zip vs else(g,w)::DI f v (ns.zip vs))from rfl]
  unfold Nw L8 at i1 i2 ⊢;rw[DE]
  by_cases c:g=f
  .rw[ir c,ir c];exact⟨by simp,by simpa using h⟩
  .rw[ib c,ib c,i1];cases e:DE ns f with
   |none=>rw[e]at i2;exact⟨by simp,by simpa using i2⟩
   |some m=>rw[e]at i2;exact⟨by simp,by simpa using i2⟩
section
variable[Xw]
variable{k:PV->Prop}{t:OV}{K:ZBc}
theorem Zz{k:List Nat->OV->Prop}(h:Wl ss i t ta λp u=>∃C dx ns a us n w,u=.nd (.obj C dx ns) a us/\Dh K C/\Fe K C f/\DE ns f=some n/\us[n]?=some w/\k (p++[n]) w):Wl ss i t (Qs K ta f) k:=⟨h.hi,λE Z F H Q S q=>
 h.go E Z F H _ S λv p u F1 H1 e d h1 AD=>by
  obtain⟨C,dx,ns,a,us,n,w,m,j,g,hx,hw,kk⟩:=AD;subst m;obtain⟨vs,rfl,l,o,r,c⟩:=d.inv;obtain⟨x,O5,b⟩:=c.get hw;exact⟨a,C,dx,ns.zip vs,x,rfl,l,j,g,WE hx O5,q x (p++[n]) w F1 H1 e b (OV.Ss h1 (by rw[OV.LI,hw];exact OV.JR)) kk⟩⟩
theorem Jj:(OV.nd (.obj C dx ns) a us).addrs=a::dx::OV.AW us:=by rw[OV.Ce];rfl
theorem Sg.wc{lt:Bool}{Ks:List Str}(S0:Sg E ss Z F0 H0)(S:Sg E ss Z F H)(hi:ss[i]?=some (.ow lt t))(BO:t.at p=some (.nd (.obj C dx ns) a us))(Kn:H dx=some (.own a))
  (d:∀a∈u.addrs,F a=none/\E.H0 a=none/\((∃i∈m,∃s,s≠Slot.AK/\ss[i]?=some s/\As s Z[i]? a)∨H0 a=none)) (Dt:i∉m)
  (J:Au F H BI BK) (K:Ks.length=BI.length) (Oo:(OV.AW BK).Nodup) (Hu:∀b∈OV.AW BK,b∈OV.AW us∨b∈u.addrs):Sg E ((Fz.DH m ss).set i (.ow lt (t.put p (.nd (.obj C dx Ks) a BK)))) Z F (upd H a (.ins C dx (Ks.zip BI))):=by
 have N:=dG m ss hi Dt;obtain⟨v,e,r,nd,q⟩:=S.ok i _ hi;have g:∀b,b∈a::dx::OV.AW us->b∈t.addrs:=λb c=>OV.Ji BO b (by rw[Jj];exact c);have A:∀b∈u.addrs,b∉t.addrs:=λb c z=>by
  rcases(d b c).2.2 with⟨j,L,s,_,f,o⟩|w
  .exact S.Bg j i s _ b (by rintro rfl;exact Dt L) f hi o z
  .exact S0.Dj hi z w
 have B:(OV.nd (.obj C dx ns) a us).addrs.Nodup:=by
  obtain⟨l,O,M,_⟩:=OV.split BO;rw[M,CM,CM]at nd;exact nd.1.2.1
 rw[Jj]at B;obtain⟨n,I⟩:=List.nodup_cons.mp B;obtain⟨G,P⟩:=List.nodup_cons.mp I;have h:∀b∈OV.AW BK,b≠a:=λb c z=>by
  subst z;rcases Hu b c with w|w
  .exact n (by simp[w])
  .exact A b w (g b (by simp))
 have QX:∀b∈OV.AW BK,b≠dx:=λb c z=>by
  subst z;rcases Hu b c with w|w
  .exact G w
  .exact A b w (g b (by simp))
 have x:dx≠a:=λz=>n (by simp[z]);refine(S.DH m).NZ N BO (.nd (k:=.obj C dx Ks) Al (show upd H a _ dx=some (.own a) by rw[AS x];exact Kn) K (J.mono (AJ.refl _) λb c o ho=>by rw[AS (h b c)];exact ho)) (by
  rw[Jj];exact List.nodup_cons.mpr ⟨λz=>by
   rcases List.mem_cons.mp z with z|z
   .exact x z.symm
   .exact h a z rfl,List.nodup_cons.mpr ⟨λz=>QX dx z rfl,Oo⟩⟩) λb c=>?_
 rw[Jj]at c ⊢;rcases List.mem_cons.mp c with w|w
 .exact .inl (by simp[w])
 .rcases List.mem_cons.mp w with w|w
  .exact .inl (by simp[w])
  .rcases Hu b w with z|z
   .exact .inl (by simp[z])
   .refine .inr ⟨(d b z).1,(d b z).2.1,λj s f o=>?_⟩;rcases NT f with y|⟨Ge,hm⟩
    .subst y;cases o
    .rcases(d b z).2.2 with⟨i2,EY,s2,_,CI,D⟩|y
     .exact S.Bg j i2 s s2 b (by rintro rfl;exact hm EY) Ge CI o D
     .exact S0.Dj Ge o y
theorem zr{F1 H1 F3 H3:Hp}(S:Sg E ss Z F H)(J2:Mv E ss Z F1 H1 F3 H3)(f:Aj F1 H1 v w)(d:∀a∈w.addrs,F1 a=none/\E.H0 a=none/\((∃i∈m,∃s,s≠Slot.AK/\ss[i]?=some s/\As s Z[i]? a)∨H a=none)):
  Aj F3 H3 v w/\∀b∈w.addrs,F3 b=none/\E.H0 b=none/\((∃i∈m,∃s,s≠Slot.AK/\ss[i]?=some s/\As s Z[i]? b)∨H b=none):=by
 have np:∀b∈w.addrs,Bs ss Z b:=λb c k hk g=>by
  rcases(d b c).2.2 with⟨j,l,s,h,O1,o⟩|z
  .exact S.Bg j k s _ b (λe=>by subst e;rw[O1]at hk;exact h (BH hk)) O1 hk o g
  .exact S.Dj hk g z
 refine⟨f.mono J2.ff λb c o e=>J2.hh b o (np b c) e,λb c=>⟨?_,(d b c).2⟩⟩;cases e:F3 b with
 |none=>rfl
 |some o=>
  rcases J2.nn b o e with z|z
  .rw[(d b c).1]at z;cases z
  .exact absurd z (f.there b c)
theorem fV(h:Wx ss tv λm w=>Wl ss i t ta λp u=>∃lt C dx ns a us,ss[i]?=some (.ow lt t)/\u=.nd (.obj C dx ns) a us/\Dh K C/\Fe K C f/\ns.length<1000/\i∉m/\nx ((Fz.DH m ss).set i (.ow lt (t.put p (.nd (.obj C dx (Nw ns f)) a (O0 ns us f w)))))):Ws ss (T6 K ta tv f) nx R:=⟨λE D Z F H S X hr=>
 h.go E Z F H _ S λv m w F1 H1 I U Gb M h2=>h2.go E Z F1 H1 _ I.st λO p u F2 H2 A G BO AD=>by
  obtain⟨lt,C,dx,ns,a,us,hi,eu,σ,T,hz,Dt,kk⟩:=AD;subst eu;have ev:O=.ref a:=by cases G;rfl
  subst ev;obtain⟨K9,TV⟩:=zr S A U M;cases G with
  |@nd _ _ vs _ ha P ft q=>
   have GR:ns.length=vs.length:=ft;have vl:=q.length;obtain⟨ep,OC⟩:=Zt (f:=f) (v:=v) GR;refine⟨a,C,dx,ns.zip vs,rfl,ha,σ,T,by rw[PH];omega,?_⟩;obtain⟨v0,e0,r0,DJ,q0⟩:=A.st.ok i _ hi;have N:(OV.nd (.obj C dx ns) a us).addrs.Nodup:=by
    obtain⟨l,q,g,_⟩:=OV.split BO;rw[g,CM,CM]at DJ;exact DJ.1.2.1
   rw[Jj]at N;have B:=(List.nodup_cons.mp (List.nodup_cons.mp N).2).2;have c:∀b∈w.addrs,b∉OV.AW us:=λb d z=>by
    have L:b∈t.addrs:=OV.Ji BO b (by rw[Jj];simp[z]);rcases(M b d).2.2 with⟨j,Y,s,_,W,o⟩|y
    .exact S.Bg j i s _ b (by rintro rfl;exact Dt Y) W hi o L
    .exact S.Dj hi L y
   obtain⟨N1,Gm,Q⟩:Au F2 H2 (L8 ns vs f v) (O0 ns us f w)/\(OV.AW (O0 ns us f w)).Nodup/\∀b∈OV.AW (O0 ns us f w),b∈OV.AW us∨b∈w.addrs:=by
    unfold L8 O0;cases e:DE ns f with
    |some n=>
     have Vm:n<us.length:=by have:=bS e;omega
     obtain⟨l,r,g,J⟩:=JT (Ah Vm);refine⟨q.set n K9,?_,λb d=>?_⟩
     .show(OV.AW (us.set n w)).Nodup;rw[J];rw[g]at B;exact Wu B Gb λb d=>.inr (by rw[<- g];exact c b d)
     .have k:b∈OV.AW (us.set n w):=d;rw[J]at k;rcases List.mem_append.mp k with z|z
      .rcases List.mem_append.mp z with z|z
       .exact .inl (by rw[g];simp[z])
       .exact .inr z
      .exact .inl (by rw[g];simp[z])
    |none=>
     refine⟨q.append (.one K9),?_,λb d=>?_⟩
     .show(OV.AW (us++[w])).Nodup;rw[JM,Jt,CM];exact⟨B,Gb,λx hx y V e=>c y V (e▸hx)⟩
     .have k:b∈OV.AW (us++[w]):=d;rw[JM,Jt]at k;exact List.mem_append.mp k
   rw[ep];exact X _ Z F2 _ kk (Sg.wc (u:=w) S A.st hi BO P TV Dt N1 OC Gm Q) (I.ff.trans A.ff)⟩
end
theorem cz:∀{ns:List Str}{vs:List V}{f:Str},DE ns f=none->(ns.zip vs).lookup f=none
 | [],_,_,_=>by simp
 |g::ns,[],f,h=>by simp
 |g::ns,w::vs,f,h=>by
  rw[DE]at h
  by_cases c:g=f
  .rw[ir c]at h;cases h
  .rw[ib c]at h;rw[Ja,Gr];have:(f == g)=false:=by simpa using λz=>c z.symm
   rw[this];refine cz ?_;cases e:DE ns f with
   |none=>rfl
   |some m=>rw[e]at h;cases h
section
variable[Xw]
variable{te:TE}{ta:TA}{lt:Bool}{t:OV}{K:ZBc}
theorem Tn{k:PV->Prop}(h:Wp ss te λo=>∃C ns xs n y,o=.obj C ns xs/\Dh K C/\Fe K C f/\DE ns f=some n/\xs[n]?=some y/\k y):Wp ss (Qs K te f) k:=⟨λE Z F H Q S q=>
 h.go E Z F H _ S λv o F1 H1 b e AD=>by
  obtain⟨C,ns,xs,n,y,m,l,j,hx,g,kk⟩:=AD;subst m;cases e with
  |@obj a _ dx _ MP _ p s r d=>
   obtain⟨u,i,c⟩:=d.get g;exact⟨a,C,dx,ns.zip MP,u,rfl,b.st.fh _ _ p,l,j,WE hx i,q u y F1 H1 b c kk⟩⟩
theorem yQ{pre:Pre}{k:List Nat->OV->Prop}(h:OR ss ta λl=>∀x dx:Addr,∃s,pre (.ow true (.nd (.obj C dx []) x [])::l) (.mt s)/\∀p t',s p t'->p=.A9/\∃Ks BK,t'=.nd (.obj C dx Ks) x BK/\k [] t'):Wx ss (UJ C (C2 pre) [] E0 ta) k:=⟨λE Z F H Q S q=>
 h.go E Z F H _ S λvs l F1 H1 d O HZ x dx hx Kn BE=>by
  rw[ER];have G:=d.st.make Kn (.own x);have P:upd H1 dx (.own x) x=none:=by rw[AS (B5 BE)];exact hx
  have T:=G.st.make P (.ins C dx []);have K:=G.trans T;have w:∀a o,H1 a=some o->upd (upd H1 dx (.own x)) x (.ins C dx []) a=some o:=λa o e=>by
   rw[AS (Cy e hx),AS (Cy e Kn)];exact e
  have A:∀a,upd (upd H1 dx (.own x)) x (.ins C dx []) a=none->H1 a=none:=λa e=>by
   cases z:H1 a with
   |none=>rfl
   |some o=>rw[w a o z]at e;cases e
  have a0:(OV.nd (.obj C dx []) x []).addrs=[x,dx]:=by rw[Jj,OV.FP]
  have J:Aj F1 (upd (upd H1 dx (.own x)) x (.ins C dx [])) (.ref x) (.nd (.obj C dx []) x []):=.nd (k:=.obj C dx []) (vs:=[]) Al (show upd _ x _ dx=some (.own x) by rw[AS BE];exact Al) rfl .nil;have f0:∀a∈(OV.nd (.obj C dx []) x []).addrs,H1 a=none:=λa b=>by
   rw[a0]at b;simp only[L4,Af,vE]at b;rcases b with rfl|rfl
   .exact hx
   .exact Kn
  have U:(OV.nd (.obj C dx []) x []).addrs.Nodup:=by
   rw[a0];simp[B5 BE]
  have D:=Sg.fO (j:=ss.length) (m:=[]) (v:=.ref x) (u:=.nd (.obj C dx []) x []) (d.st.grown 1) (K.st.grown 1) J U λa b=>⟨d.st.Bk (f0 a b),d.st.CS (f0 a b),.inr (f0 a b)⟩;have X:=d.st.len;have hi:((ss++List.replicate 1 Slot.any).set ss.length (.ow false (.nd (.obj C dx []) x [])))[ss.length]?=some (.ow false (.nd (.obj C dx []) x [])):=CL (by simp);have e0:((Z++List.replicate 1 none).set ss.length (some (V.ref x)))[ss.length]?=some (some (.ref x)):=CL (by simp;omega);obtain⟨s,L,kk⟩:=HZ x dx;refine⟨.ow true (.nd (.obj C dx []) x [])::l,.mt s,F1,[],(OV.nd (.obj C dx []) x []).addrs,L,D.XN hi (.here e0 O),λv F' H' f⟨p,t',r,y,nd,t,kp⟩=>?_⟩;obtain⟨rfl,Ks,BK,rfl,k2⟩:=kk p t' kp;have B:=D.VN hi f y nd t;have at':∀n,n<ss.length->((ss++List.replicate 1 Slot.any).set ss.length (.ow false (.nd (.obj C dx []) x [])))[n]?=ss[n]?:=λn g=>by rw[C0 (by omega),D1 g]
  have I:∀n,n<ss.length->((Z++List.replicate 1 none).set ss.length (some (V.ref x)))[n]?=Z[n]?:=λn g=>by rw[C0 (by omega),D1 (by omega)]
  have np:∀a,H1 a≠none->Bs ss Z a->Bs ((ss++List.replicate 1 Slot.any).set ss.length (.ow false (.nd (.obj C dx []) x []))) ((Z++List.replicate 1 none).set ss.length (some (V.ref x))) a:=λa _ g n hk=>by
   by_cases c:n<ss.length
   .rw[at' n c]at hk;rw[I n c];exact g n hk
   .by_cases N:n=ss.length
    .subst N;rw[hi]at hk;cases hk
    .rw[ZAh (by simp;omega)]at hk;cases hk
  have R:Mv E ss Z F1 H1 F' H':=d.st.step B.ff B.st.fh (λa o g e=>B.hh a o (np a (by rw[e];simp) g) (λz=>by rw[f0 a z]at e;cases e) (w a o e)) (λa o e=>(B.nn a o e).imp id (A a)) λn W g M=>by
   have c:n<ss.length:=(List.getElem?_eq_some_iff.mp g).1;refine B.st.E2 (i:=n) ?_ (by rw[I n c];exact M);rw[C0 (by omega)];exact(at' n c).trans g
  cases r.inv;refine⟨rfl,q (.ref x) [] _ F' H' (d.trans R) y nd (λa b=>?_) k2⟩;have h1:H1 a=none:=(t a b).2.elim (A a) (f0 a);exact⟨(t a b).1,d.st.CS h1,.inr (d.none h1)⟩⟩
end
end Fz
namespace L2
section
variable{X:Cx}{o e value:Expr}{f:Str}{pos pos' TN:Pos}{ta tv:TE}
theorem NN(b:QE X e ta)(i:attributeBase e f X.env (eval e X.env)=eval e X.env:=by rfl):QE X (.Attribute e f pos) (Qs X.K ta f):=⟨by
 have b:=b.h;intro Zb s Z H Q I h;refine o8 i (AI (b Zb s Z H _ I h) λu k Ea=>?_);obtain⟨x,H1,I1,d,a,C,dx,fs,v,ex,ea,c,n,l,q⟩:=Ea;subst ex;obtain rfl:u=Value.ref a:=d;exact rO I1 ea c n l λj s2 I2 g=>⟨v,H1,I2,g,q⟩⟩
theorem az(d:QE X o ta)(b:QE X value tv)(m:swapsWith value (some (.Attribute o f pos')) pos.line X.env=pure false:=by rfl):QS X (.Assign [.Attribute o f pos'] value pos) (T6 X.K ta tv f):=⟨by
 have d:=d.h;have b:=b.h;intro Zb s Z H D I h;refine plainObj_wpAny_Assign_Attribute (AI (b Zb s Z H _ I h) λu e⟨y,H1,I1,g,q⟩=>AI (d Zb e Z H1 _ I1 q) λk s2⟨x,H2,I2,i,a,C,dx,fs,ex,ea,c,n,l,j⟩=>?_) m;subst ex;obtain rfl:k=Value.ref a:=i;exact t7 I2 ea c n l g λp I3=>⟨Z,_,I3,j⟩⟩
end
end L2
namespace L2
variable{pl:Sem Bool}
def J5(P:Program)(w:World)(K:ZBc)(mg:ZBe)(Zj:Heap)(C:Addr)(m:Str)(k:Nat)(ps:List Str)(sp:Sp):Prop:=
 ∃f fd,CD P w K mg Zj Fj k f fd ps sp/\Binds K fd ps []/\Meth K C m f/\Dh K C
def Sa(P:Program)(w:World)(K:ZBc)(mg:ZBe)(Zj:Heap)(C:Addr)(k:Nat)(ps:List Str)(sp:Sp):Prop:=
 ∃f fd,CD P w K mg Zj Fj k f fd ps sp/\Binds K fd ps []/\Mk K C f
section
variable{X:Cx}{o e:Expr}{es:List Expr}{m x:Str}{C:Addr}{k j:Nat}{ps:List Str}{sp:Sp}{ta:TE}{t:TA}{apos pos p:Pos}
theorem Sk(h:J5 X.prog X.w X.K X.mg X.base C m k ps sp)(a:BR j X.A)(hk:k<=j)(g:QE X o ta)(i:QA X (e::es) t)
  (Ca:starEach (e::es) X.env=(false,eval e X.env)::starEach es X.env:=by rfl) (BP:(backTo pos (starEach es X.env)).any (·.1)=false:=by rfl)
  (ht:eval (.Call (.Attribute o m apos) (e::es) [] pos) X.env=(do
   let ov <- eval o X.env
   standAt apos.atName
   let (f,first) <- holding [ov] (getMethod ov m pl)
   callWith pos f first (backTo pos (starEach (e::es) X.env)) (backToKw pos (keywordEach [] X.env))):=by rfl) :
  QE X (.Call (.Attribute o m apos) (e::es) [] pos) (OS C m sp [] E0 ta t):=by
 obtain⟨f,fd,F,b,d,c⟩:=h;exact⟨sD g.h c d (F.mono hk) a b .nil R8 i.h Ca BP ht⟩
theorem ZH(h:J5 X.prog X.w X.K X.mg X.base C m k ps sp)(d:BR j X.A)(hk:k<=j)(g:QE X o ta)
  (a:eval (.Call (.Attribute o m apos) [] [] pos) X.env=(do
   let ov <- eval o X.env
   standAt apos.atName
   let (f,first) <- holding [ov] (getMethod ov m pl)
   callWith pos f first (backTo pos (starEach [] X.env)) (backToKw pos (keywordEach [] X.env))):=by rfl) :
  QE X (.Call (.Attribute o m apos) [] [] pos) (OS C m sp [] E0 ta B3):=by
 obtain⟨f,fd,F,b,e,c⟩:=h;exact⟨vW g.h c e (F.mono hk) d b .nil R8 a⟩
theorem uo(h:Sa X.prog X.w X.K X.mg X.base C k ps sp)(a:BR (j+1) X.A)(hk:k<=j)(c:X.mg x=some (.ref C))(g:QA X (e::es) t)(d:Gl X x:=by rfl)(BV:(x == ("__debug__":Str))=false:=by decide)
  (he:starEach (e::es) X.env=(false,eval e X.env)::starEach es X.env:=by rfl) (BP:(backTo pos (starEach es X.env)).any (·.1)=false:=by rfl):QE X (.Call (.Name x p) (e::es) [] pos) (UJ C sp [] E0 t):=by
 obtain⟨f,fd,F,b,M⟩:=h;exact⟨qG M (F.mono hk) a d c b .nil R8 g.h BV he BP⟩
variable{prog:Program}{w:World}{A:Around}{E:Value->Shared->Prop}{s:Shared}
end
end L2
set_option maxHeartbeats 200000
set_option maxHeartbeats 4000000
namespace Fz
open L2 Lw
variable{ss:List Slot}{ta tb:TE}
def kQ(K:ZBc):List V->Hp->VK->Prop:=λxs H Q=>∃(p:Addr)(bs:List Bool),xs=[.ref p]/\AQ K H p (bs.map V.bl)/\Q (.bl (bs.all id)) H
end Fz
namespace L2
open Lw
section
variable{X:Cx}
theorem iy:Fu X "list.extend" SE:=y9
theorem Qq{i:Nat}{x:Str}{e:Expr}{te:TE}{op:Operator}{ti:OF}{pos pos':Pos}(F:X.N.Nodup)(hi:X.N[i]?=some x)(hx:Loc X.env.scope x)(a:QE X e te)(ho:Pw X op ti)(C:X.fn x=true∨X.env.scope.names.lookup x=some .local:=by first|exact .inl rfl|exact .inr rfl|assumption):
  QS X (.AugAssign (.Name x pos') op e pos) (Pr i te ti):=⟨by
 have a:=a.h;intro Zb s Z H D I h;obtain⟨v,G,h⟩:=h;obtain⟨m,q,B⟩:=I.loc;have p:Q5 X.env.scope x:=by rcases hx with k|k;exact .inl k;exact .inr (.inl k)
 obtain⟨u,r,l⟩:=B i x v hi G p;refine wpAny_AugAssign_Name ?_;have go:wpAny (model X.prog X.w) X.A (eval e X.env) (λw d=>wpAny (model X.prog X.w) X.A (inplaceOp op u w) (λr b=>wpAny (model X.prog X.w) X.A (storeName X.env x r) (λ_=>SP X Zb D .next) X.xe b) X.xe d) X.xe s:=by
  refine AI (a Zb s Z H _ I h) λw f XA=>?_;obtain⟨y,H1,I1,j,o⟩:=XA;refine AI (ho Zb f Z H1 v y u w _ I1 r j o) λz s2 NY=>?_;obtain⟨J,H2,I2,g,n⟩:=NY;exact Qb I2 F hi hx g (λK I3=>⟨_,H2,I3,n⟩) C
 rcases l with⟨hk,t⟩|⟨hk,c,E,Qw⟩
 .exact wpAny_loadName_local I.ok.kind hk q t go
 .rcases hk with hk|hk
  .exact wpAny_loadName_cell I.ok.kind hk E Qw go
  .rcases hx with k|k
   .have:X.env.scope.names.lookup x=some .free:=hk;rw[k]at this;cases this
   .have:X.env.scope.names.lookup x=some .free:=hk;rw[k]at this;cases this⟩
end
end L2
namespace Fz
open L2 Lw
variable{ps xs:List PV}{i:Nat}{js:List Nat}
section
variable[Xw]
variable{E:Ent0}{ss:List Slot}{Z:L2.St}{F H F' H':Hp}{K:ZBc}{ta tb tc te:TE}{k:PV->Prop}{v:V}{tp:Bool}{nx:List Slot->Prop}{R:Aa}
theorem t6(hi:ss[i]?=some (.own xs))(h:Wn ss te λys=>xs.length+ys.length<=100000/\nx (ss.set i (.own (xs++ys)))):Ws ss (Hx (IZ K "list" SE (Ap i) (AU te B3))) nx R:=⟨λE D Z F H S g m=>by
 obtain⟨l,vs,e,q,p,j,r⟩:=S.ok i _ hi;refine⟨_,e,.inl ⟨rfl,_,AQ.of j⟩,h.go E Z F H _ S λl2 JJ ys F1 H1 a o n KQ b⟨f,kk⟩=>?_⟩;obtain⟨k,BI,d,DD,Bx,Hh,c⟩:=a.st.ok i _ hi;rw[e]at d;cases d;refine⟨l,l2,BI,JJ,rfl,rfl,Hh,KQ,small (by rw[c.length,b.length];exact f),?_⟩;exact g _ Z F1 _ kk (a.st.put hi e DD Bx (c.append b)) a.ff⟩
theorem SX{a:Int}{f:Int->Int->Int}(hi:ss[i]?=some (.is (.int a)))(h:Wp ss te λp=>∃b,p=.int b/\nx (ss.set i (.is (.int (f a b))))):Ws ss (Pr i te (Qj f)) nx R:=⟨λE D Z F H S g l=>by
 obtain⟨v,e,r⟩:=S.ok i _ hi;cases r.inv;refine⟨_,e,h.go E Z F H _ S λk p F1 H1 c d⟨b,j,kk⟩=>?_⟩;subst j;cases d.inv;exact⟨a,b,rfl,rfl,g _ _ F1 H1 kk (c.st.ED (.int _)) c.ff⟩⟩
theorem Z5{j:Nat}(h:js[i]?=some j):(BA js Z)[i]?=some ((Z[j]?).join):=by
 unfold BA;rw[Am,h];rfl
theorem join_some{o:Option (Option V)}{a:Addr}(h:some o.join=some (some (V.ref a))):o=some (some (.ref a)):=by
 cases o with
 |none=>cases h
 |some q=>cases q with
  |none=>cases h
  |some v=>simpa using h
theorem Mv.dz{vs:List V}(S:Sg E ss Z F H)(m:Mv E (Bt js ss++ps.map .is) (BA js Z++vs.map some) F H F' H'):Mv E ss Z F H F' H':=by
 have g:(Bt js ss).length=js.length:=by simp[Bt]
 have r:(BA js Z).length=js.length:=by simp[BA]
 have k:∀(i:Nat)(a:Addr),(Bt js ss++ps.map .is)[i]?=some .AK->(BA js Z++vs.map some)[i]?=some (some (.ref a))->∃j,js[i]?=some j/\ss[j]?=some .AK/\Z[j]?=some (some (.ref a)):=λi a hi f=>by
  by_cases h:i<js.length
  .rw[D1 (by rw[g];exact h)]at hi;rw[D1 (by rw[r];exact h)]at f;have d:=Ah h;have q:=cT d hi;rw[Z5 d]at f;refine⟨js[i],d,?_,join_some f⟩;cases w:ss[js[i]]? with
   |none=>rw[w]at q;cases q
   |some u=>rw[w]at q;cases q;rfl
  .rw[DB (by omega),Am]at hi;cases w:ps[i - (Bt js ss).length]? with
   |none=>rw[w]at hi;cases hi
   |some p=>rw[w]at hi;cases hi
 refine S.step m.ff m.st.fh (λa o n e=>m.hh a o (λi hi f=>?_) e) m.nn λi l hi e=>?_
 .obtain⟨j,_,h1,h2⟩:=k i a hi f;exact n j h1 h2
 .by_cases c:∃b:Nat,js[b]?=some i
  .obtain⟨b,c⟩:=c;have lt:b < js.length:=(List.getElem?_eq_some_iff.mp c).1;refine m.st.E2 (i:=b) ?_ ?_
   .rw[D1 (by rw[g];exact lt)];unfold Bt;rw[Am,c];show some ((ss[i]?).getD .any)=_;rw[hi];rfl
   .rw[D1 (by rw[r];exact lt),Z5 c,e];rfl
  .refine BJ.keep (S.E2 hi e) λo v=>m.hh l o (λb C9 s=>?_) v;obtain⟨j,t,h1,h2⟩:=k b l C9 s;have d:j≠i:=by rintro rfl;exact c ⟨b,t⟩
   exact S.Bg j i _ _ l d h1 hi h2 e
theorem j3{wi:TI}{tt:TT}{k:List PV->Prop}(P:PV->PV->Prop)
  (h:Wi ss wi λxs=>xs.length<=100000/\(∀x∈xs,Wt (Bt js ss++[.is x]) tt λb=>b=true)/\(∀x∈xs,Wp (Bt js ss++[.is x]) te (P x))/\∀ys:List PV,ys.length=xs.length->(∀(j:Nat)x y,xs[j]?=some x->ys[j]?=some y->P x y)->k ys)
  (nd:js.Nodup:=by decide):Wn ss (HA wi js tt te) k:=⟨λE Z F H Q S q=>
 h.go E Z F H _ S λJ xs F1 H1 f u⟨hz,V,W,kk⟩acc Ao=>by
  have Et:Bs ss Z acc:=f.st.He Ao;have Gz:=f.st.CS Ao;have HI:∀(i:Nat)s,ss[i]?=some s->¬ As s Z[i]? acc:=λi s hi=>f.st.HY hi Ao;refine⟨λi m H2=>m=xs.length - i/\i<=xs.length/\∃F2 vs ys,Mv E ss Z F1 H1 F2 H2/\F2 acc=none/\H2 acc=some (.lst vs)/\AL F2 vs ys/\ys.length=i/\∀(j:Nat)x y,xs[j]?=some x->ys[j]?=some y->P x y,⟨_,rfl,CA _,F1,[],[],f.st.make Ao _,f.st.Bk Ao,Al,.nil,rfl,λj x y _ e=>by simp at e⟩,?_⟩;rintro i m H2⟨rfl,hi,F2,vs,ys,d,L,B,v,Je,K⟩
  by_cases D:i<xs.length
  .refine .inr ⟨u.go ss Z F2 H2 i d.ff d.st D,λx H3 y=>?_⟩;obtain⟨p,F3,I,z,G⟩:=u.E6 ss Z F2 H2 i x H3 d.ff d.st D y;have N:p∈xs:=Bo I;have Hm:∀{F4:Hp},(∀a o,F4 a=some o->F2 a=some o∨H2 a=none)->F4 acc=none:=λ{F4}n=>by
    cases e:F4 acc with
    |none=>rfl
    |some o=>
     rcases n acc o e with w|w
     .rw[L]at w;cases w
     .rw[B]at w;cases w
   have S3:=z.st.AG (js:=js) nd (.one G);refine(V p N).go E _ F3 H3 _ S3 λb F4 H4 U g=>?_;have M:=U.dz (ps:=[p]) (vs:=[x]) z.st;have C:=z.trans M;show if b=true then _ else _
   rw[g,ir rfl];have σ:=C.st.AG (js:=js) nd (.one (G.mono M.ff));refine(W p N).go E _ F4 H4 _ σ λw R F5 H5 T IH X=>?_;have Kj:=T.dz (ps:=[p]) (vs:=[x]) C.st;have t:=C.trans Kj;have Jo:=t.hh acc _ Et B;have O:=Hm t.nn;have l:vs.length<=99999:=by
    rw[v.length,Je];omega
   refine⟨vs,Jo,Gi l,xs.length - (i+1),by omega,rfl,D,F5,vs++[w],ys++[R],?_,O,Al,(v.mono t.ff).append (.one IH),by simp[Je],λj a b A g=>?_⟩
   .have r:=d.trans t;refine⟨r.st.KR O (.inl Gz) HI,r.ff,λa o n e=>?_,r.nn⟩;rw[AS (Cy e Ao)];exact r.hh a o n e
   .by_cases c:j<ys.length
    .rw[D1 c]at g;exact K j a b A g
    .have Y:j=i:=by
      have:=(List.getElem?_eq_some_iff.mp g).1;rw[Bj,Il]at this;omega
     subst Y;rw[DB (by omega),Je,Xn]at g;rw[I]at A;cases A;cases g;exact X
  .have e:i=xs.length:=by omega
   subst e;exact .inl ⟨u.stop ss Z F2 H2 d.ff d.st,q acc vs _ F2 H2 (f.trans d) L (f.none Ao) B v (kk ys Je K)⟩⟩
variable{t:OV}
end
end Fz
namespace L2
noncomputable def Tr(s:Stmt)(n:Nat):Stmt:=match s with
 | .ClassDef _ _ _ b ..=>b.getD n (.Pass ⟨0,0,0,0⟩)
 |s=>s
end L2
namespace Fz
open L2 Lw
@[reducible] noncomputable def xwM (X:XK) (t:OV) (D:Ex->Prop):Xw:=⟨λ_=>X,λss=>ss[0]?=some (.ow true t),D⟩
variable{R:Aa}{A7 ss:List Slot}
section
variable{pre:Iy}{H:Hp}
def Tc(R:Aa)(A7:List Slot):Prop:=∃(k:PV->OV->Prop)(nk:NK)(a:Addr)(us:List OV),R=.mt k/\A7[0]?=some (.ow true (.nd nk a us))/\k .A9 (.nd nk a us)
theorem Tc.ok{E:Ent0}{Z:L2.St}{F:Hp}(h:Tc R A7)(S:Sg E A7 Z F H):R.ok E F H .A9:=by
 obtain⟨k,nk,a,us,rfl,g,hk⟩:=h;obtain⟨f,e0,c,DJ,d⟩:=S.ok 0 _ g;have i:f=.ref a:=by cases c;rfl
 subst i;exact⟨.A9,.nd nk a us,.A9,c,DJ,λb e=>⟨(d b e).1,(d b e).2.imp id λz=>z.2⟩,hk⟩
end
section
variable[Xw]
variable{te tv:TE}{ta:TA}{i:Nat}{lt:Bool}{t:OV}{nx:List Slot->Prop}{K:ZBc}{f:Str}
theorem OU{pre:Pre}{C:Addr}{m:Str}{k:List PV->Prop}(h:Wp ss te λo=>∃ns xs,o=.obj C ns xs/\DE ns m=none/\Wa ss ta λl=>∃d,pre (.is o::l) (.new d)/\∀p,d p->k p):Wn ss (OS C m (Ac pre) [] E0 te ta) k:=⟨λE Z F H Q S q=>
 h.go E Z F H _ S λv o F1 H1 c j⟨ns,xs,z,u,h2⟩=>by
  subst z;cases j with
  |@obj a _ dx _ MP _ e A w i=>
   refine⟨a,dx,ns.zip MP,rfl,c.st.fh _ _ e,cz u,h2.go E Z F1 H1 _ c.st λvs l F2 H2 b B⟨d,t,kk⟩=>?_⟩;rw[ER];refine⟨.is (.obj C ns xs)::l,.new d,F2,[],t,b.st.Qu (.cons (s:=.is _) (Rep.obj (b.ff _ _ e) (b.ff _ _ A) w (i.mono b.ff)) B),λv F' H' f⟨a,n,g,y,x,h1,Ib,r,kp⟩=>?_⟩;subst y;exact q a n g F' H' (c.trans (b.trans (b.st.back (λ_ h=>absurd h Af) f))) x (c.none (b.none h1)) Ib r (kk g kp)⟩
end
end Fz
namespace L2
section
variable{prog:Program}{w:World}{A:Around}{E:Value->Shared->Prop}{s:Shared}
theorem rZ:typeLookup (.type "dict") "__len__"=pure (some (.builtin "dict.__len__")):=by rw[typeLookup_type,builtinLookup_eq_fast];kernel_rfl
variable{X:Cx}
end
end L2
namespace Fz
open L2 Lw
theorem fB:∀{ks:List Key}{vs:List V},ks.length=vs.length->(ks.zip vs).map (·.1)=ks
 | [],[],_=>rfl
 | [],_::_,h=>by simp at h
 |_::_,[],h=>by simp at h
 |k::ks,v::vs,h=>by
  rw[Ja,Aq,fB (by simpa using h)]
end Fz
namespace L2
section
variable{prog:Program}{w:World}{A:Around}{s:Shared}{R:Result->Shared->Prop}
theorem qR{L S:Addr}{T:Nat}{res:Value}{A5:List (Key×Value)}{n:Nat}(hh:A.handled=none)(L9:(S == sysModules)=false)(m:s.heap.get? L=some { cls:=.type "list", data:=.seq #[] T })(vK:s.heap.DictOf (D9 prog w) S A5)(en:A5.length=n)(hn:n<=sizeLine)
  (h:∀(s':Shared)(vs:List Value)(d:Nat),(∀b o,b≠L->s.heap.get? b=some o->s'.heap.get? b=some o)->L<s'.heap.objs.size->s'.gens=s.gens->s'.os=s.os->s'.heap.get? L=some { cls:=.type "list", data:=.seq vs.toArray d }->vs.length=n->(∀(i:Nat)v,vs[i]?=some v->∃k x,A5[i]?=some (k,x)/\(D9 prog w).is k v=true)->R (.ok (.ret res)) s') :
  wpAny (model prog w) A.in1 (Builtin.List.listExtendWith (.ref L) (.ref S) res)
   (λp s'=>match p with | .done f=>R (.ok f) s' | .again d=>d.quiet=true/\codeAny (model prog w) A d R s') (λe s'=>R (.error e) s') s:=by
 obtain⟨j,g⟩:=vK.dictAt;have X:S<s.heap.objs.size:=g.lt_size;have B:L≠S:=λz=>by
  subst z;obtain⟨o,ho,l⟩:=g.dictOf.typeIs;rw[m]at ho;cases ho;exact absurd l (by show ¬ Value.type "list"=Value.type "dict"; decide)
 have I:Shared.TypeIs s (.ref S) "dict" := g.dictOf.typeIs;have h1:Builtin.List.listSameRef (.ref L) (.ref S)=false:=by simp[Builtin.List.listSameRef,B]
 unfold Builtin.List.listExtendWith;refine iM (wpAny_typeOf I ?_);rw[ib (by rw[h1];decide)];refine iM (wpAny_pyIter_dict (s:=s) L9 g ?_);dsimp only;generalize r:({ cls:=.type "dict_keyiterator", data:=.fields #[.ref S,.int 0 0,.int A5.length 0,.int j 0] }:Obj)=io;have kp:∀b o,s.heap.get? b=some o->(s.heap.push io).get? b=some o:=λb o e=>Bz _ e;have V:S≠s.heap.objs.size:=CV X;have W:∀A2:Around,A2.handled=none->Walks prog w A2 s.heap.objs.size [s.heap.objs.size,S] [s.heap.objs.size] A5.length _ _:=λA2 h2=>Walks.dictKeys (knd:=D9 prog w) h2 s.heap.objs.size S V A5 j;have C:(s.heap.push io).IsKeyIter s.heap.objs.size S 0 A5.length j/\(s.heap.push io).DictAt (D9 prog w) S A5 j:=⟨⟨io,D0 _ (by rw[<- r];rfl),by rw[<- r],by rw[<- r];rfl⟩,g.push _⟩;have E:L∉[s.heap.objs.size,S]:=λc=>by
  simp only[L4,Af,vE]at c;rcases c with z|z
  .have q:L<s.heap.objs.size:=B4 m;rw[z]at q;exact Mf _ q
  .exact B z
 generalize Y:s.heap.push io=h2 at kp C ⊢;have t:Shared.TypeIs { s with heap:=h2 } (.ref S) "dict" := by obtain⟨o,ho,l⟩:=I;exact⟨o,kp _ _ ho,l⟩
 refine iM (lZ ?_);unfold Builtin.List.listLengthHint;refine iM (wpAny_specialOf t rZ ?_);generalize G:("dict.__len__":String)=yu
 wp_delta
 rw[show splitId yu=some ("dict","__len__")from by subst G;decide +kernel];subst G;refine iM (wpAny_isInstance (b:=true) t (by rw[isSubtype_type];kernel_rfl) ?_);rw[ib (by decide)];refine wpAny_ite_split (λ_=>?_) (λM5=>absurd (by decide +kernel) M5);refine iM (wpAny_typeOf t ?_);refine jP ?_;refine wpAny_ite_split (λ_=>?_) (λM5=>absurd (by decide +kernel) M5);refine iM (wpAny_rule ?_);refine iM ?_;show wpAny _ _ (updateSeq L (·.push .none) >>= λ_=>updateSeq L (·.pop)) _ _ _
 have N:(#[]:Array Value).size<=sizeLine:=CA _;have u:((#[]:Array Value).push Value.none).size<=sizeLine:=by show 1<=sizeLine;decide
 have M:((#[]:Array Value).push Value.none).size<=sizeLine+1:=Nat.le_succ_of_le u;have K:(((#[]:Array Value).push Value.none).pop).size<=sizeLine+1:=CA _;have D:=kp _ _ m;refine iM (tW (s:={ s with heap:=h2 }) D rfl ?_ N M)
 have y:=MX (Obj.mapSeq (·.push Value.none)) D rfl
 refine tW y rfl ?_ u K;have O:=MX (Obj.mapSeq (·.pop)) y rfl
 have J:∀b o,b≠L->h2.get? b=some o->((h2.update L (Obj.mapSeq (·.push Value.none))).update L (Obj.mapSeq (·.pop))).get? b=some o:=
  λb o a e=>(Ij _ _ (B5 a)).trans ((Ij _ _ (B5 a)).trans e)
 refine jP ⟨plainId_quiet PySem.F.plain_extend_loop _,codeAny_extend_loopS (W A.in1 hh).toS (en▸hn) _ E _ A5.length 0 _ #[] _ rfl (CA _) ?_ O (ItemsOf.nil _) λs' P d c H Ao=>?_⟩
 .exact(W A.in1 hh).frame 0 h2 _ C λb a o e=>J b o (λz=>E (z▸a)) e
 .have hsz:L<s'.heap.objs.size:=B4 H;refine h s' P.toList d (λb o a e=>?_) hsz c.gens c.os H (by rw[XT,Ao.1];exact en) λi v Q=>Ao.2 i v (by rw[<- gj];exact Q);have U:b<s.heap.objs.size:=B4 e;refine c.heap b o ?_ (J b o a (kp b o e));simp only[L4,Af,vE,not_or];exact⟨a,CV U⟩
end
theorem YD{prog:Program}{w:World}:∀{ks:List Key}{A5:List (Key×Value)}{vs:List Value},A5.map (·.1)=ks->vs.length=A5.length->(∀(i:Nat)v,vs[i]?=some v->∃k x,A5[i]?=some (k,x)/\(D9 prog w).is k v=true)->Vals (ks.map kV) vs
 | [],[],[],_,_,_=>.nil
 | [],[],_::_,_,h,_=>by simp at h
 | [],_::_,_,h,_,_=>by simp at h
 |_::_,[],_,h,_,_=>by simp at h
 |_::_,_::_,[],_,h,_=>by simp at h
 |n::ns,kv::A5,v::vs,e,hl,h=>by
  rw[Aq]at e;injection e with e1 e2
  obtain⟨k,x,c,hk⟩:=h 0 v rfl;have a:kv=(k,x):=by simpa using c
  subst a;have d:k=n:=e1;subst d;refine .cons ?_ (YD e2 (by simpa using hl) λi v b=>h (i+1) v b)
  rcases HS (show K7 k v=true from hk)with⟨i,t,rfl,rfl⟩|⟨y,t,rfl,rfl⟩
  .exact⟨t,rfl⟩
  .exact⟨t,rfl⟩
section
variable{X:Cx}
def Xv:List V->Hp->VK->Prop:=λxs H Q=>∃(p:Addr)(A5:List (Key×V)),xs=[.ref p]/\Rd H p (.dK A5)/\A5.length<=1000/\∀l:Addr,H l=none->Q (.ref l) (upd H l (.lst ((A5.map (·.1)).map kV)))
theorem qd(z:X.calm=true):CZ X (.type "list") Xv:=by
 intro Zb s Z H xs us Q I r h;obtain⟨p,A5,rfl,B,ZX,q⟩:=h;obtain⟨u,rfl,v⟩:=vals1 r;cases v;obtain⟨f,L9,MP,rel,g⟩:=LN I.AF B;have hh:X.A.handled=none:=I.ok.hd z;have K:p<s.heap.objs.size:=by obtain⟨i,h2⟩:=g.dictAt;exact h2.lt_size
 have N:p≠s.heap.objs.size:=CV K;refine callType_codes (Q₁:=λobj d=>obj=.ref s.heap.objs.size/\d={ s with heap:=s.heap.push { cls:=.type "list", data:=.seq #[] } }) F.called_list (F.typeCall_list_1 _) F.entry_list_init
  (code_list_new _ ⟨rfl,rfl⟩) λobj d y=>?_
 obtain⟨rfl,rfl⟩:=y;have c:(s.heap.push { cls:=.type "list", data:=.seq #[] }).get? s.heap.objs.size=some { cls:=.type "list", data:=.seq #[] }:=D0 _ rfl;refine⟨⟨_,c,rfl⟩,F.args_list_init_2 _ _,?_⟩;show wpAny _ X.A.in1.in1 (do let old <- Builtin.List.listItems (.ref s.heap.objs.size);Builtin.List.listUpdate (.ref s.heap.objs.size) (λ_=>#[]);letGo old.toList.reverse;Builtin.List.listExtendWith (.ref s.heap.objs.size) (.ref p) .none) _ _ _
 refine iM ?_;unfold Builtin.List.listItems;refine iM (uD c rfl (jP ?_));show wpAny _ X.A.in1.in1 (updateSeq s.heap.objs.size (λ_=>#[]) >>= λ_=>letGo (#[]:Array Value).toList.reverse >>= λ_=>Builtin.List.listExtendWith (.ref s.heap.objs.size) (.ref p) .none) _ _ _;refine iM (tW c rfl ?_);have x:=MX (Obj.mapSeq (λ_=>(#[]:Array Value))) c rfl;have old:∀b o,s.heap.get? b=some o->((s.heap.push { cls:=.type "list", data:=.seq #[] }).update s.heap.objs.size (Obj.mapSeq (λ_=>(#[]:Array Value)))).get? b=some o:=λb o e=>
  (Ij _ _ (Mh (B4 e))).trans (Bz _ e)
 have n:((s.heap.push { cls:=.type "list", data:=.seq #[] }).update s.heap.objs.size (Obj.mapSeq (λ_=>(#[]:Array Value)))).DictOf (D9 X.prog X.w) p MP:=by
  obtain⟨o,es,i,ho,rest⟩:=g;exact⟨o,es,i,old _ _ ho,rest⟩
 refine iM (wpAny_letGo ?_);refine qR (A:=X.A.in1) hh L9 x n rfl (by rw[<- rel.length];exact f) λs' vs D m J l k j G E=>?_;have t:Vals ((A5.map (·.1)).map kV) vs:=by
  rw[rel.keys];exact YD rfl G E
 refine⟨rfl,?_⟩;obtain⟨h1,M,C,t1,L⟩:=s';simp only at m J l k j;subst l;subst k;refine⟨.ref _,_,(I.drew C).laid (a:=s.heap.objs.size) (h':=h1) (t':=t1) (o:=.lst ((A5.map (·.1)).map kV)) (λb o e=>m b o (CV (B4 e)) (old b o e)) (Ae _) ?_,rfl,q _ (I.AF.fresh (Ae _))⟩
 exact⟨by rw[AA,AA];exact f,vs,D,t,j⟩
variable{i o:Expr}{ty td:TE}{pos:Pos}
theorem vm(a:X.A.units+1<cLine)(hi:QE X i ty)(ho:QE X o td)(b:behindInMarks .In o=false:=by with_unfolding_all rfl):QE X (.Compare i [.In] [o] pos) (P8 ty td):=⟨x6 (dU a hi.h ho.h) b⟩
theorem iQ(a:X.A.units+1<cLine)(hi:QE X i ty)(ho:QE X o td)(b:behindInMarks .In o=false:=by with_unfolding_all rfl):QT X (.Compare i [.In] [o] pos) (tB (P8 ty td)):=⟨bK (dU a hi.h ho.h) b⟩
theorem aX(a:X.A.units+1<cLine)(hi:QE X i ty)(ho:QE X o td)(b:behindInMarks .NotIn o=false:=by with_unfolding_all rfl):QT X (.Compare i [.NotIn] [o] pos) (tB (QY ty td)):=⟨bK (p8 a hi.h ho.h) b⟩
end
end L2
namespace Fz
open L2 Lw
theorem Uo{F:Hp}:∀ks:List Key,AL F (ks.map kV) (ks.map HK)
 | []=>.nil
 | .inl i::ks=>.cons (.int i) (Uo ks)
 | .inr x::ks=>.cons (.str x) (Uo ks)
theorem bN{F:Hp}:∀ns:List Int,AL F (ns.map V.int) (ns.map PV.int)
 | []=>.nil
 |i::ns=>.cons (.int i) (bN ns)
section
variable[Xw]
variable{E:Ent0}{ss:List Slot}{Z:L2.St}{F H F' H':Hp}{K:ZBc}{i:Nat}{t:OV}{ta tb tc te:TE}{nx:List Slot->Prop}{R:Aa}
theorem yH{k:List PV->Prop}(h:Wp ss te λp=>∃(ks:List Key)(xs:List PV),p=.Ag ks xs/\ks.length<=1000/\k (ks.map HK)):Wn ss (Dm Xv (AU te B3)) k:=⟨λE Z F H Q S q=>
 h.go E Z F H _ S λv p F1 H1 b c AD=>by
  obtain⟨ks,xs,e,j,kk⟩:=AD;subst e;cases c with
  |@Ag a _ vs _ g f i=>
   refine⟨a,_,rfl,.inl (b.st.fh _ _ g),by rw[PH];omega,λl FR=>?_⟩;rw[fB f];have d:=b.st.make FR (.lst (ks.map kV));exact q l _ _ F1 _ (b.trans d) (b.st.Bk FR) (b.none FR) Al (Uo ks) kk⟩
end
end Fz
namespace L2
variable{w:World}{H H2:Hp}{a b it:Addr}{X:Cx}{Zb:ZBd}{s s2:Shared}{A:Around}{E:Value->Shared->Prop}{e elt tg:Expr}{pos tp:Pos}{ifs:List Expr}{tk:Nat}{outer scope:Scope}{js:List Nat}{tt:TT}{te:TE}{J:It}{fp:List Addr}{tn:Nat->Heap->Prop}{N zs:List Str}{wi:TI}
structure Hz (N:List Str) (outer scope:Scope) (zs:List Str) (AG:List Str) (js:List Nat):Prop where
 kind:scope.kind=.function
 Jq:∀y∈scope.names,y.2≠.cell
 loc:∀y∈scope.names,y.2=.local->scope.names.lookup y.1=some .local
 HN:∀x∈zs,scope.names.lookup x=some .local
 at':js.map (λj=>N[j]?)=AG.map some
 cell:∀y∈AG,outer.names.lookup y=some .cell
 free:∀y∈AG,scope.names.lookup y=some .free
 all:∀y∈scope.names,y.2=.free->outer.names.lookup y.1=some .cell
 nd:(AG++zs).Nodup
def Ly(K:ZBc)(n:Nat)(wi:TI)(js:List Nat)(tt:TT)(te:TE):TE:=λZ H Q=>wi Z H λJ H1=>∀acc,H1 acc=none->QV K n J js tt te Z H1 acc Q
section
variable{Z:St}{iter:Expr}{es:List Expr}{AG:List Str}
theorem Hz.G(S:Hz N outer scope zs AG js):EH N outer scope none zs AG js:=.da S.kind S.Jq S.loc S.at' S.cell S.free S.all S.nd
theorem mX(a:X.calm=true)(S:Hz X.N X.env.scope scope zs AG js)(Hs:IG zs es)(IS:∀e,(assignEach es e).length=zs.length)(FQ:∀e,(assignEach es e).findIdx? (·.1)=none)(hi:PI X (.Tuple es tk tp) iter wi)
  (CP:∀fp C s H,Gd (EF X (AG++zs) scope (Ba X.env.cells scope.names) C s H fp) ifs tt) (CO:∀fp C s H,PE (EF X (AG++zs) scope (Ba X.env.cells scope.names) C s H fp) elt te)
  (b:∀v,foldedSetIterable iter X.env v=pure v:=by intro _;rfl):PE X (.ListComp elt [⟨.Tuple es tk tp,iter,ifs,0⟩] scope pos) (Ly X.K zs.length wi js tt te):=
 Vx (CW:=λJ Z H1 acc Q=>QV X.K zs.length J js tt te Z H1 acc Q) (gR S.G) a S.G hi (λ_ _ _ _=>Z7 a S.G S.HN Hs IS FQ) CP CO b
theorem cu(b:X.calm=true)(S:Hz X.N X.env.scope scope zs AG js)(Hs:IG zs es)(IS:∀e,(assignEach es e).length=zs.length)(FQ:∀e,(assignEach es e).findIdx? (·.1)=none)(hi:QI X (.Tuple es tk tp) iter wi)(CP:∀fp C s H,Kc (EF X (AG++zs) scope (Ba X.env.cells scope.names) C s H fp) ifs tt)(CO:∀fp C s H,QE (EF X (AG++zs) scope (Ba X.env.cells scope.names) C s H fp) elt te)
  (a:∀v,foldedSetIterable iter X.env v=pure v:=by intro _;rfl):QE X (.ListComp elt [⟨.Tuple es tk tp,iter,ifs,0⟩] scope pos) (Ly X.K zs.length wi js tt te):=⟨mX b S Hs IS FQ hi.h (λfp C s H=>(CP fp C s H).h) (λfp C s H=>(CO fp C s H).h) a⟩
variable{prog:Program}{z TI TO i1 i2 l1 l2:Addr}{k:Nat}{t1 t2:Bool}{xs ys:Array Value}{x y a b:Value}
variable{l:Expr}{tl t:TE}{st:Stmt}{ts:TS}
end
end L2
namespace L2
variable{values vs:List Expr}{Eb:List (TE×TE)}
section
variable{X:Cx}{pos:Pos}
theorem nD:Iu X pos [] [] []:=ya
theorem X2{k v:Expr}{ks:List (Option Expr)}{tk tv:TE}(hk:QE X k tk)(a:QE X v tv)(b:Iu X pos ks vs Eb):Iu X pos (some k::ks) (v::vs) ((tk,tv)::Eb):=qN hk.h a.h b
theorem uk{keys:List (Option Expr)}(h:Iu X pos keys values Eb)(JG:keys.all (·.isSome)=true)(l:keys.length=values.length)(n:keys≠[])(Pk:keys.length<=15):QE X (.Dict keys values pos) (Ur Eb):=⟨by
 intro Zb s Z H Q I q;have k:=I.AF.fresh (Ae s.heap.objs.size);have r:=I.laid (a:=s.heap.objs.size) (o:=.dK []) (h':=s.heap.push { cls:=.type "dict", data:=.dict #[] }) (t':=s.toks) (λ_ _ q=>Bz _ q) (Ae _) (ZO s.heap I.big);refine wpAny_Dict_walk (knd:=D9 X.prog X.w) JG l n Pk (AI (h Zb _ Z _ _ r (q _ k)) λws s2⟨ps,H2,I2,rel,e,A5,p,t,g⟩=>?_);subst p;obtain⟨b,c,d⟩:=Zn (P:=X.prog) (w:=X.w) rel;obtain⟨z,hd,MP,f,dd⟩:=dq I2.AF e;cases f;refine⟨b,c,dd,λh' K5 j=>⟨.ref s.heap.objs.size,_,?_,rfl,g⟩⟩;have i:(JH [] A5).length<=sizeLine:=by
  have h1:=Yl A5 [];rw[Xf]at h1;rw[sizeLine_eq];omega
 have m:∃q,h'.get? s.heap.objs.size=some q:=let ⟨q,_,_,hq,_⟩:=K5;⟨q,hq⟩;exact VU I2 (by rw[e];exact True.intro) j m (YV i hd (d.merge .nil) K5)⟩
end
theorem ar:∀(more acc:List (Key×V)),((acc++more).map (·.1)).Nodup->JH acc more=acc++more
 | [],acc,_=>by rw[ER];rfl
 |p::r,acc,h=>by
  show JH (putK acc p.1 p.2) r=_;have c:acc.any (λa=>decide (a.1=p.1))=false:=by
   rw[ZAX];intro q b e;have d:=jG e;rw[Bn,Aq,CM]at h;exact h.2.2 q.1 (List.mem_map.mpr ⟨q,b,rfl⟩) p.1 ES d
  have e:putK acc p.1 p.2=acc++[p]:=by
   unfold putK;rw[c];rfl
  rw[e,ar r (acc++[p]) (by rw[Bv];exact h),Bv];rfl
end L2
namespace Fz
open L2 Lw
variable{ss:List Slot}{E:Ent0}{Z:L2.St}{F H:Hp}{p:Addr}{ta:TA}{Q:VK}{i n:Nat}{pre:Pre}
section
variable[Xw]
theorem rX{F1 H1:Hp}{o:HO}(S:Sg E ss Z F H)(m:Mv E ss Z F H F1 H1)(b:H p=none)(d:F1 p=none):Mv E ss Z F H F1 (upd H1 p o):=
 S.step m.ff (λa u e=>by rw[AS (by rintro rfl;rw[d]at e;cases e)];exact m.st.fh a u e)
  (λa u n e=>by rw[AS (by rintro rfl;rw[b]at e;cases e)];exact m.hh a u n e) m.nn
  λi l hi e=>BJ.keep (m.st.E2 hi e) λu f=>by
   rw[AS (by
    rintro rfl;obtain⟨_,_,c,_⟩:=S.E2 hi e;rw[b]at c;cases c)]
   exact f
theorem o3{k:List Nat->OV->Prop}{E:Ent}(ks:List Str)(hk:ks.Nodup)(Pk:ks.length<=15)(S:Sg E ss Z F H)(d:H p=none)
  (h:LB ss ta λm us=>us.length=ks.length/\∀l,k m (.nd (.Ag (ks.map Sum.inr)) l us))
  (q:∀v m u F' H',Mv E ss Z F H F' H'->Aj F' H' v u->u.addrs.Nodup->(∀a∈u.addrs,F' a=none/\E.H0 a=none/\((∃i∈m,∃s,s≠Slot.AK/\ss[i]?=some s/\As s Z[i]? a)∨H a=none))->k m u->Q v H') :
  ta Z (upd H p (.dK [])) λvs H2=>H2 p=some (.dK [])/\∃A5:List (Key×V),List.zipWith (λs v=>(V.str s,v)) ks vs=A5.map (λj=>(kV j.1,j.2))/\A5.length<=15/\Q (.ref p) (upd H2 p (.dK (JH [] A5))):=by
 have x:=S.make d (.dK []);have r:F p=none:=S.Bk d;refine h.go E Z F _ _ x.st λvs m us F1 H1 n t Gb A⟨I,kk⟩=>?_;have C:H1 p=some (.dK []):=n.hh p _ (S.He d) Al;have y:F1 p=none:=by
  cases e:F1 p with
  |none=>rfl
  |some o=>
   rcases n.nn p o e with z|z
   .rw[r]at z;cases z
   .rw[Al]at z;cases z
 have D:vs.length=ks.length:=by rw[t.length,I]
 have K:List.zipWith (λs v=>(V.str s,v)) ks vs=((ks.map Sum.inr).zip vs:List (Key×V)).map (λj=>(kV j.1,j.2)):=by
  rw[List.zip_eq_zipWith,List.zipWith_map_left,List.map_zipWith];rfl
 refine⟨C,(ks.map Sum.inr).zip vs,K,by rw[PH,AA];omega,?_⟩;have nk:((ks.map Sum.inr:List Key)).Nodup:=ZAW _ (λa b(h:a≠b)=>λz=>h (by injection z)) hk;rw[ar _ [] (by rw[Mc,List.map_fst_zip (by rw[AA];omega)];exact nk),Mc];have mv:=rX (o:=.dK ((ks.map Sum.inr).zip vs)) S (x.trans n) d y;have B:p∉OV.AW us:=λg=>by
  rcases(A p g).2.2 with⟨i,_,s,_,G,ow⟩|z
  .exact S.Dj G ow d
  .rw[Al]at z;cases z
 refine q _ m (.nd (.Ag (ks.map Sum.inr)) p us) F1 _ mv (.nd (k:=.Ag (ks.map Sum.inr)) (vs:=vs) Al trivial (show(List.map Sum.inr ks:List Key).length=vs.length by rw[AA];exact D.symm) (t.mono (AJ.refl _) λa g o e=>by rw[AS (by rintro rfl;exact B g)];exact e)) ?_ (λa g=>?_) (kk p)
 .rw[OV.Ce];exact List.nodup_cons.mpr ⟨B,Gb⟩
 .rw[OV.Ce]at g;rcases List.mem_cons.mp g with e|g
  .subst e;exact⟨y,S.CS d,.inr d⟩
  .obtain⟨f,J,w⟩:=A a g;exact⟨f,J,w.imp id λz=>by
    by_cases c:a=p
    .subst c;exact d
    .rw[AS c]at z;exact z⟩
theorem jJ{k:List Nat->OV->Prop}{k1 k2 k3:Str}{t1 t2 a:TE}(hk:[k1,k2,k3].Nodup)(h:LB ss (AU t1 (AU t2 (AU a B3))) λm us=>us.length=3/\∀l,k m (.nd (.Ag [.inr k1,.inr k2,.inr k3]) l us)):Wx ss (Ur [(tC (.str k1),t1),(tC (.str k2),t2),(tC (.str k3),a)]) k:=⟨λE Z F H Q S q p b=>
 o3 (ta:=AU t1 (AU t2 (AU a B3))) [k1,k2,k3] hk (by show(_:Nat)+1<=15;simp) S b h q⟩
variable{te:TE}{t:OV}
end
theorem yC{N:List Str}{vs:List V}{X:XK}{t:TS}(h:C2 pre vs H Q X)(b:∀ss R,pre ss R->ss.length=n)
  (hw:∀ss R,pre ss R->Ws (ss++List.replicate (N.length - n) .any) t (Tc R) R):t { nx:=λ_ H'=>Q .A9 H',rt:=Q } (L2.start N vs) H:=by
 obtain⟨ss,R,F,A,B,a,S,q⟩:=h;have e:vs.length=n:=by have:=S.len;rw[AA]at this;rw[<- this];exact b ss R a
 unfold L2.start;rw[e];exact(hw ss R a).go (QQ ⟨A,F,H,B⟩) _ _ F H (S.grown _) (λA7 σ' F' H' z S' _=>q .A9 F' H' S'.toFin (z.ok S')) λv F' H' f ok=>q v F' H' f ok
end Fz
namespace Fz
open L2 Lw
section
variable[Xw]
variable{ss:List Slot}{te:TE}{K:ZBc}{P:Program}{w:World}
variable{E:Ent0}{Z:L2.St}{F H F' H':Hp}{js:List Nat}{ta tb:TE}
theorem bg{n:Nat}{wi:TI}{tt:TT}{te:TE}{k:List PV->Prop}(f:PV->Bool)(g:PV->PV)
  (h:Wi ss wi λxs=>xs.length<=100000/\(∀x∈xs,∃as:List PV,x=.tup as/\as.length=n/\Wt (Bt js ss++as.map .is) tt (λc=>c=f x)/\(f x=true->Wp (Bt js ss++as.map .is) te λp=>p=g x))/\k ((xs.filter f).map g))
  (nd:js.Nodup:=by decide) (np:Ls js ss=true:=by rfl):Wn ss (Ly K n wi js tt te) k:=⟨λE Z F H Q S q=>
 h.go E Z F H _ S λJ xs F1 H1 d D⟨hz,X,kk⟩acc Ao=>by
  have R:Bs ss Z acc:=d.st.He Ao;have Gz:=d.st.CS Ao;have HI:∀(i:Nat)s,ss[i]?=some s->¬ As s Z[i]? acc:=λi s hi=>d.st.HY hi Ao;refine⟨λi m H2=>m=xs.length - i/\i<=xs.length/\∃F2 vs,Mv E ss Z F1 H1 F2 H2/\F2 acc=none/\H2 acc=some (.lst vs)/\AL F2 vs (((xs.take i).filter f).map g),⟨_,rfl,CA _,F1,[],d.st.make Ao _,d.st.Bk Ao,Al,.nil⟩,?_⟩;rintro i m H2⟨rfl,hi,F2,vs,b,L,A,u⟩
  by_cases t:i<xs.length
  .refine .inr ⟨D.go ss Z F2 H2 i b.ff b.st t,λx H3 y=>?_⟩;obtain⟨p,F3,G,z,I⟩:=D.E6 ss Z F2 H2 i x H3 b.ff b.st t y;have IX:p∈xs:=Bo G;have Io:(xs.take (i+1))=xs.take i++[p]:=by
    have e2:xs[i]=p:=by rw[Ah t]at G;exact BH G
    rw[Ro t,e2]
   have M:List.filter f (xs.take (i+1))=(xs.take i).filter f++(if f p=true then[p]else[]):=by
    rw[Io,Xb];congr 1
    by_cases j:f p=true <;> simp[j]
   have O:∀{F4:Hp},(∀a o,F4 a=some o->F2 a=some o∨H2 a=none)->F4 acc=none:=λ{F4}n=>by
    cases e:F4 acc with
    |none=>rfl
    |some o=>
     rcases n acc o e with w|w
     .rw[L]at w;cases w
     .rw[A]at w;cases w
   obtain⟨as,ep,W,V,hw⟩:=X p IX;rw[ep]at I;obtain⟨_,_,rfl,e,r⟩:=I.inv;refine⟨_,_,rfl,BC.of (z.st.fh _ _ e),by rw[r.length,W],?_⟩;have S3:=z.st.AG (js:=js) nd r;refine V.go E _ F3 H3 _ S3 λc F4 H4 U Y=>?_;have N:=U.out (ps:=as) z.st np;have l:=z.trans N;show if c=true then _ else _
   rw[Y]
   by_cases j:f p=true
   .rw[ir j];have S4:=l.st.AG (js:=js) nd (r.mono N.ff);refine(hw j).go E _ F4 H4 _ S4 λw pw F5 H5 T IH σ=>?_;have Kj:=T.out (ps:=as) l.st np;have C:=l.trans Kj;have Jo:=C.hh acc _ R A;have P:=O C.nn;have v:vs.length<=99999:=by
     rw[u.length,AA];have:=Kz f (xs.take i);rw[FD]at this;omega
    refine⟨vs,Jo,Gi v,xs.length - (i+1),by omega,rfl,t,F5,vs++[w],?_,P,Al,?_⟩
    .have B:=b.trans C;refine⟨B.st.KR P (.inl Gz) HI,B.ff,λa o n e=>?_,B.nn⟩;rw[AS (Cy e Ao)];exact B.hh a o n e
    .rw[M,ir j,Bn];rw[σ]at IH;exact(u.mono C.ff).append (.one IH)
   .have Mr:f p=false:=by simpa using j
    rw[Mr,ib (by decide)];refine⟨xs.length - (i+1),by omega,rfl,t,F4,vs,b.trans l,O l.nn,l.hh acc _ R A,?_⟩;rw[M,ib j,ER];exact u.mono l.ff
  .have e:i=xs.length:=by omega
   subst e;refine .inl ⟨D.stop ss Z F2 H2 b.ff b.st,q acc vs _ F2 H2 (d.trans b) L (d.none Ao) A ?_ kk⟩;rw[GD]at u;exact u⟩
end
end Fz
namespace L2
theorem ig{X:Cx}:Fu X "list.clear" W3:=lS
end L2
namespace Fz
open L2 Lw
section
variable[Xw]
variable{ss:List Slot}{ta tb:TE}{K:ZBc}{k:PV->Prop}{nx:List Slot->Prop}{R:Aa}{xs:List PV}
variable{te:TE}
theorem pO{ts:TO}{k:List PV->Prop}(h:Wq ss te λtp xs=>tp=false/\Wo ss ts λo=>o=some (-1)/\k xs.reverse):Wn ss (Rv K te ts) k:=⟨λE Z F H Q S q=>
 h.go E Z F H _ S λv tp xs F1 H1 c sv⟨g,h2⟩=>h2.go E Z F1 H1 _ c.st λo F2 H2 b⟨i,kk⟩=>by
  subst g;obtain⟨l,vs,rfl,f,r⟩:=(sv.mv b).seq b.st;refine⟨l,vs,rfl,i,AQ.of f,λa d=>?_⟩;have e:=b.st.make d (.lst vs.reverse);exact q a _ _ F2 _ (c.trans (b.trans e)) (b.st.Bk d) ((c.trans b).none d) Al r.reverse kk⟩
variable{P:Program}{w:World}
end
end Fz
namespace L2
section
variable{X:Cx}{e:Expr}{t1 t2:TE}{u1 u2:TT}
def VZ(t1 t2:TT):TT:=λZ H Q=>t1 Z H Q∨t2 Z H Q
theorem uY(h1:QT X e u1)(h2:QT X e u2):QT X e (VZ u1 u2):=⟨λZb s Z H Q I h=>h.elim (h1.h Zb s Z H Q I) (h2.h Zb s Z H Q I)⟩
end
end L2
namespace Fz
open L2 Lw
variable{ss:List Slot}{te:TE}{a a0 b:Addr}
section
variable[Xw]
variable{K:ZBc}{ta tb tc ti t1 t2:TE}{u1 u2:TT}{nx:List Slot->Prop}{R:Aa}{xs ps:List PV}{i j:Nat}{t:OV}{lt:Bool}{js:List Nat}
theorem w6{k:Bool->Prop}(h:Wt ss u1 k):Wt ss (VZ u1 u2) k:=⟨λE Z F H Q S q=>.inl (h.go E Z F H Q S q)⟩
theorem ph{k:Bool->Prop}(h:Wt ss u2 k):Wt ss (VZ u1 u2) k:=⟨λE Z F H Q S q=>.inr (h.go E Z F H Q S q)⟩
theorem ZAE{n:Nat}{wi:TI}{tt:TT}{k:List Nat->OV->Prop}(G:PV->OV->Prop)
  (h:Wi ss wi λxs=>xs.length<=99999/\(∀x∈xs,∃as:List PV,x=.tup as/\as.length=n/\Wt (Bt js ss++as.map .is) tt (λc=>c=true)/\Wx (Bt js ss++as.map .is) te λm u=>m=[]/\G x u)/\∀l us,us.length=xs.length->(∀(j:Nat)x u,xs[j]?=some x->us[j]?=some u->G x u)->k [] (.nd .lst l us))
  (nd:js.Nodup:=by decide) (np:Ls js ss=true:=by rfl):Wx ss (Ly K n wi js tt te) k:=⟨λE Z F H Q S q=>
 h.go E Z F H _ S λJ xs F1 H1 g N⟨hz,he,kk⟩acc Ao=>by
  have Et:Bs ss Z acc:=g.st.He Ao;have σ:=g.st.CS Ao;have HI:∀(i:Nat)s,ss[i]?=some s->¬ As s Z[i]? acc:=λi s hi=>g.st.HY hi Ao;refine⟨λi m H2=>m=xs.length - i/\i<=xs.length/\∃F2 vs us,Mv E ss Z F1 H1 F2 H2/\F2 acc=none/\H2 acc=some (.lst vs)/\Au F2 H2 vs us/\(OV.AW us).Nodup/\(∀a∈OV.AW us,F2 a=none/\H1 a=none/\a≠acc)/\us.length=i/\∀(j:Nat)x u,xs[j]?=some x->us[j]?=some u->G x u,
   ⟨_,rfl,CA _,F1,[],[],g.st.make Ao _,g.st.Bk Ao,Al,.nil,by rw[OV.FP];exact GC,λa v=>by(rw[OV.FP]at v;cases v),rfl,λj x u _ e=>by simp at e⟩,?_⟩
  rintro i m H2⟨rfl,hi,F2,vs,us,t,W,v,C,MS,Kf,Jc,U⟩
  by_cases P:i<xs.length
  .refine .inr ⟨N.go ss Z F2 H2 i t.ff t.st P,λx H3 y=>?_⟩;obtain⟨p,F3,T,L,R⟩:=N.E6 ss Z F2 H2 i x H3 t.ff t.st P y;have IX:p∈xs:=Bo T;have Hm:∀{F4:Hp},(∀a o,F4 a=some o->F2 a=some o∨H2 a=none)->F4 acc=none:=λ{F4}n=>by
    cases e:F4 acc with
    |none=>rfl
    |some o=>
     rcases n acc o e with w|w
     .rw[W]at w;cases w
     .rw[v]at w;cases w
   obtain⟨as,ep,hn,ht,hw⟩:=he p IX;rw[ep]at R;obtain⟨_,_,rfl,e,r⟩:=R.inv;refine⟨_,_,rfl,BC.of (L.st.fh _ _ e),by rw[r.length,hn],?_⟩;have S3:=L.st.AG (js:=js) nd r;refine ht.go E _ F3 H3 _ S3 λc F4 H4 m4 d=>?_;have Y:=m4.out (ps:=as) L.st np;have A:=L.trans Y;show if c=true then _ else _
   rw[d,ir rfl];have S4:=A.st.AG (js:=js) nd (r.mono Y.ff);refine hw.go E _ F4 H4 _ S4 λw mm u F5 H5 m5 IH oX hu⟨em,nZ⟩=>?_;subst em;have Kj:=m5.out (ps:=as) A.st np;have B:=A.trans Kj;have Jo:=B.hh acc _ Et v;have GU:=Hm B.nn;have D:vs.length<=99999:=by rw[C.length,Jc];omega
   have X:∀b∈OV.AW us,Bs ss Z b:=λb d=>g.st.He (Kf b d).2.1;have r5:=C.mono B.ff λb d o I=>B.hh b o (X b d) I;have r4:=C.mono A.ff λb d o I=>A.hh b o (X b d) I;have un:∀b∈u.addrs,F5 b=none/\H4 b=none:=λb d=>by
    obtain⟨f,_,w⟩:=hu b d;exact⟨f,w.elim (λ⟨_,z,_⟩=>absurd z (by simp)) id⟩
   have vP:H4 acc≠none:=by rw[A.hh acc _ Et v];simp
   have V:∀b∈u.addrs,b≠acc:=λb d z=>vP (z▸(un b d).2);have O:OV.AW (us++[u])=OV.AW us++u.addrs:=by rw[JM,Jt]
   have yU:∀b,F2 b=none->H2 b≠none->F5 b=none:=λb h1 h2=>B.bf h1 h2;refine⟨vs,Jo,Gi D,xs.length - (i+1),by omega,rfl,P,F5,vs++[w],us++[u],?_,GU,Al,?_,?_,λb d=>?_,by rw[Bj,Jc];rfl,λj x u' hx Fi=>?_⟩
   .have M:=t.trans B;refine⟨M.st.KR GU (.inl σ) HI,M.ff,λa o n e=>?_,M.nn⟩;rw[AS (Cy e Ao)];exact M.hh a o n e
   .refine(r5.append (.one IH)).mono (AJ.refl _) λb d o I=>?_;rw[AS ?_]
    .exact I
    .rw[O]at d;rcases List.mem_append.mp d with d|d
     .exact(Kf b d).2.2
     .exact V b d
   .rw[O,CM];refine⟨MS,oX,λb d c hc uh=>?_⟩;subst uh;exact r4.there b d (un b hc).2
   .rw[O]at d;rcases List.mem_append.mp d with d|d
    .exact⟨yU b (Kf b d).1 (C.there b d),(Kf b d).2⟩
    .exact⟨(un b d).1,(t.trans A).none (un b d).2,V b d⟩
   .by_cases c:j<us.length
    .rw[D1 c]at Fi;exact U j x u' hx Fi
    .rw[DB (by omega)]at Fi;have hj:j=us.length:=by
      have:=(List.getElem?_eq_some_iff.mp Fi).1;simp at this;omega
     subst hj;simp at Fi;subst Fi;rw[Jc,T]at hx;cases hx;exact nZ
  .have e:i=xs.length:=by omega
   subst e;refine .inl ⟨N.stop ss Z F2 H2 t.ff t.st,?_⟩;refine q _ [] (.nd .lst acc us) F2 H2 (g.trans t) (.nd (k:=.lst) v trivial trivial C) ?_ (λb d=>?_) (kk acc us Jc U)
   .rw[OV.Ce];exact List.nodup_cons.mpr ⟨λz=>(Kf acc z).2.2 rfl,MS⟩
   .rw[OV.Ce]at d;rcases List.mem_cons.mp d with e|d
    .subst e;exact⟨W,σ,.inr (g.none Ao)⟩
    .have d:b∈OV.AW us:=by simpa[NK.more]using d
     have z:=(Kf b d).2.1;exact⟨(Kf b d).1,g.st.CS z,.inr (g.none z)⟩⟩
theorem jC(h:Wl ss i t ta λp u=>∃lt a us,ss[i]?=some (.ow lt t)/\u=.nd .lst a us/\nx (ss.set i (.ow lt (t.put p (.nd .lst a []))))):Ws ss (Hx (Pz K "list" W3 ta)) nx R:=⟨λE D Z F H S g n=>
 h.go E Z F H _ S λv p u F1 H1 d f BO AD=>by
  obtain⟨lt,a,us,hi,j,kk⟩:=AD;subst j;obtain⟨vs,rfl,e,k,o,l⟩:=f.inv;refine⟨.inl ⟨rfl,_,AQ.of e⟩,a,vs,rfl,rfl,e,g _ Z F1 _ kk (Sg.fG (m:=[]) (u:=.fz .A9) d.st d.st hi BO (λb c=>by rw[OV.LG]at c;cases c) (by simp) .nil (by rw[OV.FP];exact GC) λb c=>by rw[OV.FP]at c;cases c) d.ff⟩⟩
structure aB (ss:List Slot) (g:TG) (u:OV) (k:List Slot->Prop):Prop where
 go:∀(E:Ent)(Z:L2.St)(F H:Hp)(v:V)(Q:L2.St->Hp->Prop),Sg E ss Z F H->Aj F H v u->(∀A7 σ',k A7->Sg E A7 σ' F H->Q σ' H)->g v Z H Q
theorem xF{g d f:Nat}{p q:PV}{nk:NK}{us:List OV}{k:List Slot->Prop}(h:k (((ss.set g (.is p)).set d (.raw (ptr b))).set f (.is q))):aB ss (Jr K 3 (GW (C4 g) (GW (C4 d) (GW (C4 f) MG)))) (.tp [.fz p,.nd nk b us,.fz q]) k:=⟨λE Z F H v Q S r l=>by
 obtain⟨_,_,rfl,e,r⟩:=r.inv;obtain⟨_,_,rfl,c,r⟩:=r.inv;obtain⟨_,_,rfl,i,r⟩:=r.inv;obtain⟨_,_,rfl,a,r⟩:=r.inv;obtain rfl:=r.D5;have c:Rep _ _ _:=c.inv;have a:Rep _ _ _:=a.inv;obtain⟨_,rfl,_,_,_,_⟩:=i.inv;refine⟨_,_,rfl,BC.of (S.fh _ _ e),rfl,_,_,rfl,_,_,rfl,_,_,rfl,rfl,l _ _ h ?_⟩;exact((S.ED c).setG (j:=d) (s:=.raw (ptr b)) (v:=.ref b) ⟨_,rfl,rfl,λ_ _ _ h=>h⟩ λ_ z=>by cases z).ED a⟩
theorem sG{g:TG}{tb:TS}(N:Nat)(I:Nat->List Slot->Prop)(f:I 0 ss)(st:∀n A7,n<=N->I n A7->∃lt us,A7[i]?=some (.ow lt (.nd .lst a0 us))/\us.length=N/\(n<N->∃u,us[n]?=some u/\aB A7 g u λBD=>Ws BD tb (I (n+1)) R))(hd:∀A7,I N A7->nx A7):
  Ws ss (R1 (Vi K (Ap i)) g tb) nx R:=⟨λE D Z F H S C B=>by
 have look:∀{A7:List Slot}{σ':L2.St}{F' H':Hp}{lt:Bool}{us:List OV},Sg E A7 σ' F' H'->A7[i]?=some (.ow lt (.nd .lst a0 us))->σ'[i]?=some (some (.ref a0))/\∃vs,H' a0=some (.lst vs)/\Au F' H' vs us:=λ{A7 σ' F' H' lt us}S hi=>by
  obtain⟨v,e,r,_,_⟩:=S.ok i _ hi;obtain⟨_,rfl,G,_,_,q⟩:=r.inv;exact⟨e,_,G,q⟩
 obtain⟨lt,us,hi,P,_⟩:=st 0 ss (CA _) f;obtain⟨e,vs,z,M⟩:=look S hi;refine⟨_,e,a0,rfl,⟨vs,AQ.of z⟩,?_⟩;refine⟨λn m σ' H'=>m=N - n/\n<=N/\∃A7 F',I n A7/\Sg E A7 σ' F' H'/\AJ F F',⟨_,rfl,CA _,ss,F,f,S,AJ.refl _⟩,?_⟩;rintro n m σ' H'⟨rfl,Nt,A7,F',d,S',s'⟩;obtain⟨t,BK,C9,FR,tn⟩:=st n A7 Nt d;obtain⟨_,BI,KW,j⟩:=look S' C9;have O:=j.length
 by_cases k:n<N
 .obtain⟨u,A,o⟩:=tn k;obtain⟨v,h,l⟩:=j.get A;refine .inr ⟨⟨BI,v,AQ.of KW,h⟩,λσ2 H2=>∃BD F2,I (n+1) BD/\Sg E BD σ2 F2 H2/\AJ F F2,λσ2 H2 AD=>by obtain⟨BD,F2,a,b,c⟩:=AD;exact⟨_,by omega,rfl,k,BD,F2,a,b,c⟩,λx H3 y=>?_⟩;obtain⟨J,hx⟩:=y;subst J;have ex:x=v:=by
   have:=hx BI (AQ.of KW);rw[h]at this;exact(BH this).symm
  subst ex;refine o.go E σ' F' H3 _ _ S' l λL σ4 w S4=>?_;exact w.go E _ σ4 F' H3 S4 (λJl σ5 F5 H5 s S5 p=>⟨Jl,F5,s,S5,s'.trans p⟩) B
 .have e:n=N:=by omega
  subst e;refine .inl ⟨⟨BI,AQ.of KW,by omega⟩,?_⟩;exact C _ _ F' H' (hd _ d) S' s'⟩
end
noncomputable def GG:Slot->Slot
 | .own xs=>.is (.lst xs)
 | .ow _ t=>.is t.pv
 | .AK=>.any
 |s=>s
section
variable{E:Ent0}{Z:L2.St}{F H F' H':Hp}
theorem Sg.dk(S:Sg E ss Z F H):Sg (E3 [] (Cd F H (DF ss Z)) H) (ss.map GG) Z (Cd F H (DF ss Z)) H:=by
 have nn:∀{p:Prop}(a:Addr),a∈([]:List Addr)->p:=λa h=>absurd h Af;refine⟨⟨S.J8.2,AJ.refl _,λ_ _ _ e=>e,λ_ _ e=>.inl e,λa h=>nn a h,λa h=>nn a h,λa h=>nn a h,λa h=>nn a h,λa h=>nn a h,λa h=>nn a h⟩,by rw[AA,S.len],λi s hi=>?_,λi j s u l FX hi x d w=>?_⟩
 .rw[Am]at hi;cases e:ss[i]? with
  |none=>rw[e]at hi;cases hi
  |some s0=>
   rw[e]at hi;have es:GG s0=s:=BH hi;subst es;have k:=S.ok i s0 e;cases s0 with
   |any=>trivial
   |is p=>obtain⟨v,b,r⟩:=k;exact⟨v,b,r.mono S.J8.1⟩
   |own xs=>
    obtain⟨l,vs,b,_,_,n,r⟩:=k;refine⟨_,b,.lst ?_ (r.mono S.J8.1)⟩;unfold Cd;rw[ir (XG S.len e (by simp) b)];exact n
   |AK=>trivial
   |sq tp xs=>
    cases tp with
    |true=>obtain⟨v,b,r⟩:=k;exact⟨v,b,r.mono S.J8.1⟩
    |false=>
     obtain⟨l,vs,b,m,q,r⟩:=k;exact⟨l,vs,b,⟨Af,Af⟩,S.keep l _ m q,r.mono S.J8.1⟩
   |raw P=>obtain⟨v,b,f,c⟩:=k;exact⟨v,b,c _ _ S.J8.1 f,c⟩
   |ow lt t=>
    obtain⟨v,b,r,_,_⟩:=k;refine⟨v,b,r.rep S.J8.1 λa g o ho=>?_⟩;unfold Cd;rw[ir (XG S.len e (by simp) g)];exact ho
 .rw[Am]at hi;cases e:ss[i]? with
  |none=>rw[e]at hi;cases hi
  |some s0=>
   rw[e]at hi;have es:GG s0=s:=BH hi;subst es;cases s0 <;> cases d
mutual
def OV.G5:OV->Bool
 | .fz p=>De p
 | .tp xs=>OV.IU xs
 | .nd _ _ xs=>OV.IU xs
def OV.IU:List OV->Bool
 | []=>true
 |x::r=>x.G5 && OV.IU r
end
theorem Aj.sM{as:List Addr}(h:∀a∈as,∀vs,F a≠some (.tup vs)):∀{v:V}{t:OV},Aj F H v t->t.G5=true->Aj (Eu F as) H v t:=by
 intro v t r d;exact Aj.rec (motive_1:=λv t _=>t.G5=true->Aj (Eu F as) H v t) (motive_2:=λvs ts _=>OV.IU ts=true->Au (Eu F as) H vs ts)
  (λ{v p}r z=>.fz (r.sub h (by simpa[OV.G5]using z)))
  (λ{a vs xs}e _ b z=>.tp (by unfold Eu;rw[ib (λq=>h a q vs e)];exact e) (b (by simpa[OV.G5]using z)))
  (λ{k a vs xs}e c f _ b z=>.nd e c f (b (by simpa[OV.G5]using z)))
  (λ_=>.nil)
  (λ_ _ OJ Kq z=>by
   rw[OV.IU,EO]at z;exact .cons (OJ z.1) (Kq z.2))
  r d
end
section
variable{c:TT}
def gI(E:Ent0)(F H:Hp)(as:List Addr):@Ent Xz:=@Ent.mk Xz (E3 [] (Cd F H as) H) λ_ _ _ _ _ _ _ _ _ d _=>d.elim
theorem U1{k:List PV->Prop}(h:Wn (ss.map GG) te λys=>Hg ys=true/\k ys):Wn ss te k:=⟨λE Z F H Q S q=>by
 refine h.go (gI E F H (DF ss Z)) Z _ H Q S.dk λl2 JJ ys F' H' m d h2 Ib a⟨c,kk⟩=>?_;obtain⟨M,b⟩:=S.Yi m.st.toFin;exact q l2 JJ ys _ H' M (by unfold Eu;split <;> first|rfl|exact d) h2 Ib (a.sub b c) kk⟩
theorem qu{k:List Nat->OV->Prop}(h:Wx (ss.map GG) te λm u=>m=[]/\u.G5=true/\k [] u):Wx ss te k:=⟨λE Z F H Q S q=>by
 refine h.go (gI E F H (DF ss Z)) Z _ H Q S.dk λv l u F' H' m c nd d⟨j,g,kk⟩=>?_;subst j;obtain⟨M,e⟩:=S.Yi m.st.toFin;refine q v [] u _ H' M (c.sM e g) nd (λa i=>?_) kk;obtain⟨f,b,_⟩:=d a i;have b:H a=none:=b;exact⟨by unfold Eu;split <;> first|rfl|exact f,S.CS b,.inr b⟩⟩
end
end Fz
namespace L2
variable{X:Cx}{Zb:ZBd}{Z:St}{s s2:Shared}{i tk:Nat}{te tl:TE}{ifs:List Expr}{N zs:List Str}{outer scope:Scope}{js:List Nat}{tt:TT}{wi:TI}
section
theorem Inv.same{H:Hp}(I:Inv X Zb Z H s){h':Heap}(k:∀b o,s.heap.get? b=some o->h'.get? b=some o):Inv X Zb Z H { s with heap:=h',toks:=tk }:=I.kept (t':=tk) k
def R5(K:ZBc):List V->Hp->VK->Prop:=λxs H Q=>∃(p:Addr)(ss:List Int),xs=[.ref p]/\AQ K H p (ss.map V.int)/\Q (.int ss.sum) H
theorem K8(f:X.calm=true):CZ X (.builtin "sum") (R5 X.K):=by
 intro Zb s Z H xs us Q I r h;obtain⟨p,ss,rfl,d,q⟩:=h;obtain⟨u,rfl,b⟩:=vals1 r;cases b;obtain⟨A4,c,pl,_⟩:=I.list d;have hi:=cG c;obtain⟨ys,e⟩:=hi.allInts.items;have a:=pl.isList;rw[e]at a;refine sum_intListG (I.ok.hd f) a λh' tk t' hk=>⟨.int _,H,I.same hk,⟨t',rfl⟩,?_⟩;have g:ys.toList.map (·.1)=ss:=by
  rw[<- nums_intItems,<- e];exact hi.numsOf
 rw[preSum_eq,Me (by simp),g];exact q
theorem kN{tg l:Expr}(d:QE X l tl):QI X tg l (Vi X.K tl):=⟨by
 have d:=d.h;intro Zb s Z H R I h;refine AI (d Zb s Z H _ I h) λv c Ea=>?_;obtain⟨x,H1,I1,f,g⟩:=Ea;obtain⟨a,e,⟨xs,i⟩,q⟩:=g;subst e;cases f;obtain⟨A4,k,p,m⟩:=I1.list i;refine qr p.isList ?_;refine⟨c.heap.objs.size,[c.heap.objs.size],_,_,H1,rfl,I1.kept (t':=c.toks) λb o e=>Bz _ e,La a _,⟨_,D0 _ rfl,rfl,rfl⟩,λb j=>?_,q⟩;have e:b=c.heap.objs.size:=by simpa using j
 subst e;exact I1.LX (Ae _) (I1.AF.fresh (Ae _))⟩
variable{elt iter:Expr}{es:List Expr}{tp pos:Pos}{AG:List Str}
theorem wL{y:Str}{py FO:Pos}(f:X.N.Nodup)(C9:X.N[i]?=some y)(d:Loc X.env.scope y)(c:X.calm=true)(S:Hz X.N X.env.scope scope zs AG js)(Hs:IG zs es)(IS:∀e,(assignEach es e).length=zs.length)(FQ:∀e,(assignEach es e).findIdx? (·.1)=none)(hi:QI X (.Tuple es tk tp) iter wi)
  (a:∀fp C s H,Kc (EF X (AG++zs) scope (Ba X.env.cells scope.names) C s H fp) ifs tt) (b:∀fp C s H,QE (EF X (AG++zs) scope (Ba X.env.cells scope.names) C s H fp) elt te)
  (Hr:swapsWith (.ListComp elt [⟨.Tuple es tk tp,iter,ifs,0⟩] scope pos) (some (.Name y py)) FO.line X.env=pure true:=by rfl)
  (hf:X.fn y=true∨X.env.scope.names.lookup y=some .local:=by first|exact .inl rfl|exact .inr rfl|assumption)
  (hs:∀v,foldedSetIterable iter X.env v=pure v:=by intro _;rfl):QS X (.Assign [.Name y py] (.ListComp elt [⟨.Tuple es tk tp,iter,ifs,0⟩] scope pos) FO) (EB (Ly X.K zs.length wi js tt te) (C4 i)):=⟨by have hi:=hi.h;have a:=λfp C s H=>(a fp C s H).h;have b:=λfp C s H=>(b fp C s H).h;exact ZJ (CW:=λJ Z H1 acc Q=>QV X.K zs.length J js tt te Z H1 acc Q) (gR S.G) f C9 d c S.G hi (λ_ _ _ _=>Z7 c S.G S.HN Hs IS FQ) a b Hr hf hs⟩
end
structure PY (N:List Str) (outer scope:Scope) (x:Str) (AG:List Str) (js:List Nat):Prop where
 kind:scope.kind=.function
 loc:∀y∈scope.names,y.2=.local->scope.names.lookup y.1=some .local
 HN:scope.names.lookup x=some .cell
 one:∀y∈scope.names,y.2=.cell->y.1=x
 cf:∀(n:Nat)(cl:List (Str×Addr)),cellsFrom n scope.names cl=(x,n)::cl
 pc:∀h:Heap,pushCells h scope.names=h.push { cls:=.type "cell", data:=.cell none }
 at':js.map (λj=>N[j]?)=AG.map some
 cell:∀y∈AG,outer.names.lookup y=some .cell
 free:∀y∈AG,scope.names.lookup y=some .free
 all:∀y∈scope.names,y.2=.free->outer.names.lookup y.1=some .cell
 nd:(AG++[x]).Nodup
abbrev cU(X:Cx)(N:List Str)(scope:Scope)(x:Str)(cl:List (Str×Addr))(C:Addr)(s:Shared)(H:Hp)(fp:List Addr):Cx:=El X N scope (some x) cl C s H fp
section
variable{H2:Hp}{elt iter:Expr}{x:Str}{px pos:Pos}{AG:List Str}{J:It}{fp:List Addr}{it:Addr}{tn:Nat->Heap->Prop}
theorem PY.G(S:PY N outer scope x AG js):EH N outer scope (some x) [x] AG js:=
 ⟨S.kind,S.loc,λy a e=>by rw[S.one y a e],λy e=>by rw[BH e];exact List.mem_singleton_self _,S.cf,S.pc,S.at',S.cell,S.free,S.all,S.nd⟩
theorem sF(b:X.calm=true)(S:PY X.N X.env.scope scope x AG js)(hi:QI X (.Name x px) iter wi)
  (CP:∀fp C s H,Kc (cU X (AG++[x]) scope x (Ba X.env.cells scope.names) C s H fp) ifs tt) (CO:∀fp C s H,QE (cU X (AG++[x]) scope x (Ba X.env.cells scope.names) C s H fp) elt te)
  (a:∀v,foldedSetIterable iter X.env v=pure v:=by intro _;rfl):QE X (.ListComp elt [⟨.Name x px,iter,ifs,0⟩] scope pos) (HA wi js tt te):=
 ⟨Vx (CW:=λJ Z H1 acc Q=>Kg J js tt te Z H1 acc Q) (Uc S.G) b S.G hi.h (λ_ _ _ _=>T7 S.G (.inr ⟨rfl,S.HN⟩)) (λfp C s H=>(CP fp C s H).h) (λfp C s H=>(CO fp C s H).h) a⟩
end
end L2
namespace Fz
open L2 Lw
variable{ss:List Slot}{ta tb tc te ti:TE}{nx:List Slot->Prop}{R:Aa}{xs:List PV}{i j:Nat}{r x y:Str}{F H:Hp}{us:List OV}{L S W ns:List Str}{u:OV}{f:Str->List Str}
section
variable[Xw]
variable{K:ZBc}{ys:List PV}{k:PV->Prop}
theorem NI(h:Wq ss te λtp xs=>tp=false/\∃ns:List Int,xs=ns.map PV.int/\k (.int ns.sum)):Wp ss (Dm (R5 K) (AU te B3)) k:=⟨λE Z F H Q S q=>
 h.go E Z F H _ S λv tp xs F1 H1 a sv AD=>by
  obtain⟨c,ns,e,kk⟩:=AD;subst c;subst e;obtain⟨l,vs,rfl,b,r⟩:=sv.seq a.st;rw[r.ints]at b;exact⟨l,ns,rfl,AQ.of b,q _ _ F1 H1 a (.int _) kk⟩⟩
theorem zf{y:PV}(c:ss[j]?=some (.own ys))(g:ys[ys.length - 1]?=some y)(h:nx ((ss.set j (.own ys.dropLast)).set i (.is y))):Ws ss (EB (Pz K "list" Vo (Ap j)) (C4 i)) nx R:=⟨λE D Z F H S k o=>by
 obtain⟨l,vs,e,n,m,d,r⟩:=S.ok j _ c;obtain⟨w,hw,a⟩:=r.get g;have b:=r.length;refine⟨_,e,.inl ⟨rfl,_,AQ.of d⟩,l,vs,w,rfl,rfl,d,by rw[b];exact hw,?_⟩;have f:AL F vs.dropLast ys.dropLast:=by
  rw[ZAZ,ZAZ,b];exact r.take _
 exact k _ _ F _ h ((S.put c e n m f).ED a) (AJ.refl _)⟩
variable{lt:Bool}
end
theorem Lv{pre:Pre}(b:∀ss R,¬ pre ss R){vs:List V}{Q:VK}{E:XK}(h:C2 pre vs H Q E):False:=by
 obtain⟨ss,R,F,A,B,a,_⟩:=h;exact b ss R a
section
variable[Xw]
variable{K:ZBc}{ps:List PV}{t:OV}{lt:Bool}{a b:Addr}{nk:NK}
theorem yG{k:List PV->Prop}(hi:ss[i]?=some .AK)(h:Wp ss te λx=>∃m,x=.int m/\0<=m/\m<=100/\∀ns:List Str,(ns.length:Int)=m->(∀x∈ns,Nm x)->ns.Nodup->k (ns.map PV.str)):Wn ss (D6 Tg [] E0 (AU (Ap i) (AU te B3))) k:=⟨λE Z F H Q S q=>by
 obtain⟨p,e,_⟩:=S.ok i _ hi;refine⟨_,e,h.go E Z F H _ S λv x F1 H1 a r⟨m,j,d,Gh,kk⟩=>?_⟩;subst j;cases r.inv;refine⟨p,m,rfl,a.st.E2 hi e,d,Gh,λl H2 ns b s DL f g nd=>?_⟩;have c:=a.st.Uy hi e s;exact q l _ _ F1 H2 (a.trans c) (a.st.Bk b) (a.none b) DL (Xu ns) (kk ns f g nd)⟩
end
theorem gP:∀ps:List PV,OV.Ci (ps.map .fz)=ps
 | []=>rfl
 |p::ps=>by rw[Aq,OV.Ci,OV.pv,gP ps]
theorem aL{n:Int}(h:n<=1000):n<10 ^ 18:=XZ h (by decide)
theorem sH{k:Nat}(h:k<=ns.length):Eg ns none (some (k:Int))=ns.take k:=by
 unfold Eg;rw[show HT.Cv ns.length 0 none=0 from rfl,Xa,Rq]
 congr 1
 simp only[HT.Cv];split <;> omega
structure Kd where
 w:Str
 ps:List (Str×Str)
 g:Bool
variable{ks:List Kd}
def Ay(p:Str×Str):PV:=.tup [.str p.1,.str p.2]
noncomputable def Kd.P(k:Kd):PV:=.tup [.str k.w,.tup (k.ps.map Ay),.bl k.g]
noncomputable def WH:List Str:=["next","last","back","first"]
theorem KN{α:Type}{xs:List α}{k:Nat}{x:α}(h:xs[k]?=some x):xs.take (k+1)=xs.take k++[x]:=by
 obtain⟨hk,e⟩:=List.getElem?_eq_some_iff.mp h;rw[Ro hk,e]
theorem yr{t:Int}(a:0<=t)(h:t<7):∃z:Nat,L2.Bm [PV.int 0,.int 1,.int 1,.int 2,.int 2,.int 3,.int 6] t=some (.int (z:Int))/\z<=6:=by
 rcases(show t=0∨t=1∨t=2∨t=3∨t=4∨t=5∨t=6 by omega)with rfl|rfl|rfl|rfl|rfl|rfl|rfl
 .exact⟨0,rfl,by decide⟩
 .exact⟨1,rfl,by decide⟩
 .exact⟨1,rfl,by decide⟩
 .exact⟨2,rfl,by decide⟩
 .exact⟨2,rfl,by decide⟩
 .exact⟨3,rfl,by decide⟩
 .exact⟨6,rfl,by decide⟩
theorem WR:∀{ps c:List (Str×Str)},ps.map Ay=c.map Ay->ps=c
 | [],[],_=>rfl
 | [],_::_,h=>by simp at h
 |_::_,[],h=>by simp at h
 |p::ps,q::c,h=>by
  rw[Aq,Aq]at h;injection h with h1 h2
  have d:p.1=q.1/\p.2=q.2:=by
   unfold Ay at h1;injection h1 with h1
   injection h1 with a b
   injection a with a
   injection b with b _
   injection b with b
   exact⟨a,b⟩
  rw[WR h2,Prod.ext d.1 d.2]
theorem Kd.inj(x y:Kd)(h:x.P=y.P):x=y:=by
 obtain⟨w,ps,g⟩:=x;obtain⟨e,f,g'⟩:=y;unfold Kd.P at h;injection h with h
 injection h with a b
 injection a with a
 injection b with b c
 injection b with b
 injection c with c _
 injection c with c
 have d:=WR b;simp only at a d c;subst a d c;rfl
noncomputable def B2(ns:List Str):List Key:=ns.map Sum.inr
theorem OI(ns:List Str)(x:Str):Es (B2 ns) (.inr x)=decide (x∈ns):=by
 unfold Es B2;rw[List.any_map]
 by_cases h:x∈ns
 .rw[jE h];exact List.any_eq_true.mpr ⟨x,h,jE rfl⟩
 .rw[jo h];rw[Bool.eq_false_iff];intro z;obtain⟨y,b,e⟩:=List.any_eq_true.mp z;have a:(Sum.inr y:Key)=Sum.inr x:=jG e;injection a with a
  exact h (a▸b)
theorem fP:∀{ns:List Str}{x:Str},x∉ns->FU (B2 ns) (.inr x)=none
 | [],_,_=>rfl
 |y::ns,x,h=>by
  unfold B2;rw[Aq,FU,ib (λe=>h (by injection e with e;subst e;exact ES))]
  have h1:FU (ns.map (Sum.inr:Str->Key)) (.inr x)=none:=fP (ns:=ns) λz=>h (DV _ z);rw[h1];rfl
theorem WT(h:ns.Nodup):(B2 ns).Nodup:=ZAW _ (λa b(h:a≠b)=>λz=>h (by injection z)) h
theorem fQ(h:x∉ns):EG (B2 ns) (.inr x)=B2 (ns++[x])/\Iz (B2 ns) us (.inr x) u=us++[u]:=by
 unfold Iz EG;rw[fP h,OI,jo h];exact⟨by unfold B2;rw[Bn];rfl,rfl⟩
theorem OQ(h:x∉ns):EG (B2 ns) (.inr x)=B2 (ns++[x]):=(fQ (us:=[]) (u:=.fz .A9) h).1
theorem WC(h:x∉ns):Iz (B2 ns) us (.inr x) u=us++[u]:=(fQ h).2
theorem QM{y:PV}:∀{ns:List Str}{xs:List PV}{x:Str},x∈ns->xs[ns.idxOf x]?=some y->Gj (B2 ns) xs (.inr x)=some y
 | [],_,_,h,_=>absurd h Af
 |z::ns,xs,x,h,e=>by
  rw[List.idxOf_cons]at e;unfold B2
  by_cases c:z=x
  .subst c;rw[show(z == z)=true from kW z]at e;cases xs with
   |nil=>cases e
   |cons w ws=>rw[Aq,Gj,ir rfl];exact e
  .rw[show(z == x)=false from beq_eq_false_iff_ne.mpr c]at e;cases xs with
   |nil=>cases e
   |cons w ws=>
    rw[Aq,Gj,ib (λq=>c (by injection q))];exact QM ((List.mem_cons.mp h).resolve_left λq=>c q.symm) e
theorem w8(ns:List Str):(B2 ns).map HK=ns.map PV.str:=by
 unfold B2;rw[CH];rfl
section
variable[Xw]
variable{t:OV}
theorem ng{lt:Bool}{k:PV->OV->Prop}(hi:ss[i]?=some (.ow lt t))(h:Wm ss i lt t te λp t'=>(∃nk a us,t'=.nd nk a us)/\k p t'):Ws ss (Hl te) nx (.mt k):=⟨λE D Z F H S n j=>
 h.go E Z F H _ S λv p t' F1 H1 d r AD=>by
  obtain⟨⟨nk,a0,us,e⟩,kk⟩:=AD;subst e;have l:i<ss.length:=(List.getElem?_eq_some_iff.mp hi).1;obtain⟨g,e0,b,DJ,c⟩:=d.st.ok i (.ow lt (.nd nk a0 us)) (by rw[CL l]);have m:g=.ref a0:=by cases b;rfl
  subst m;exact j v F1 H1 d.st.toFin ⟨p,.nd nk a0 us,r,b,DJ,λa f=>⟨(c a f).1,(c a f).2.imp id λz=>z.2⟩,kk⟩⟩
end
noncomputable abbrev wk(ks:List Kd):List Str:=ks.map Kd.w
structure KG (ks:List Kd):Prop where
 l1:1<=ks.length
 l8:ks.length<=8
 nd:(wk ks).Nodup
 nm:∀k∈ks,Nm k.w
 ps:∀k∈ks,k.ps.length<=6/\∀p∈k.ps,p.1∈WH/\p.2∈wk ks
noncomputable def HX:List Str:=[("none":Str), "ahead","all"]
noncomputable def EX(k:Kd):PV:=.tup [.str k.w,.lst (k.ps.map Ay),.bl k.g]
noncomputable def Df(ks:List Kd)(x:Str):List (Str×Str):=match ks[(wk ks).idxOf x]? with
 |some k=>k.ps
 |none=>[]
noncomputable def YJ(ks:List Kd)(x:Str):Bool:=match ks[(wk ks).idxOf x]? with
 |some k=>k.g
 |none=>false
def Dw:List Str:=["next","last"]
def GY(ks:List Kd)(r x:Str):List (Str×Str):=if r="none" then[]else(Df ks x).filter λp=>decide (r="all") || decide (p.1∈Dw)
def Ax(ks:List Kd)(r x:Str):List Str:=(GY ks r x).map (·.2)
def QL(r:Str):List Str:=if r="none" then[]else if r="ahead" then Dw else WH
theorem KG.at(h:KG ks)(hx:x∈wk ks):∃k,ks[(wk ks).idxOf x]?=some k/\k.w=x/\Df ks x=k.ps/\YJ ks x=k.g/\k∈ks:=by
 have hi:=List.idxOf_lt_length_iff.mpr hx;have a:(wk ks).idxOf x<ks.length:=by simpa using hi
 have e:=Ah a;refine⟨_,e,?_,?_,?_,Ky a⟩
 .have q:(wk ks)[(wk ks).idxOf x]'hi=x:=MZ hi;rw[Ma]at q;exact q
 .unfold Df;rw[e]
 .unfold YJ;rw[e]
theorem KG.JY(h:KG ks)(x:Str):(Df ks x).length<=6/\∀p∈Df ks x,p.1∈WH/\p.2∈wk ks:=by
 unfold Df;split
 .next k e=>exact h.ps k (Bo e)
 .exact⟨CA _,λp a=>absurd a Af⟩
theorem yj{p:Str×Str}(h:p∈GY ks r x):p∈Df ks x:=by
 unfold GY at h;split at h
 .cases h
 .exact(List.mem_filter.mp h).1
theorem j8(h:KG ks)(r x:Str):(GY ks r x).length<=6:=by
 unfold GY;split
 .exact CA _
 .exact CU (Kz _ _) (h.JY x).1
theorem KG.Uj(h:KG ks)(a:y∈Ax ks r x):y∈wk ks:=by
 obtain⟨p,b,rfl⟩:=List.mem_map.mp a;exact((h.JY x).2 p (yj b)).2
theorem b5(h:KG ks)(r x:Str):(Ax ks r x).length<=6:=by
 unfold Ax;rw[AA];exact j8 h r x
theorem qy(h:KG ks)(a:r∈HX)(x:Str):((Df ks x).filter λp=>decide (p.1∈QL r)).map (·.2)=Ax ks r x:=by
 unfold Ax GY QL;simp only[HX,L4,Af,vE]at a;rcases a with rfl|rfl|rfl
 .rw[ir rfl];simp
 .rw[ib (by decide),ir rfl,ib (by decide)]
  congr 1
 .rw[ib (by decide),ib (by decide),ib (by decide)]
  congr 1
  refine gw λp b=>?_;rw[jE ((h.JY x).2 p b).1];simp
theorem Qn(p q:Str×Str)(h:Ay p=Ay q):p=q:=by
 unfold Ay at h;injection h with h
 injection h with h1 h2
 injection h1 with h1
 injection h2 with h2 _
 injection h2 with h2
 exact Prod.ext h1 h2
theorem y8(x y:Kd)(h:EX x=EX y):x=y:=by
 obtain⟨w,ps,g⟩:=x;obtain⟨a,b,g'⟩:=y;unfold EX at h;injection h with h
 injection h with h1 h2
 injection h1 with h1
 injection h2 with h2 h3
 injection h2 with h2
 injection h3 with h3 _
 injection h3 with h3
 have h2:=WR h2;subst h1 h2 h3;rfl
inductive C3 (f:Str->List Str) (S:List Str):Str->Prop
 |here {x:Str}:x∈S->C3 f S x
 |step {x y:Str}:C3 f S x->y∈f x->C3 f S y
def Top(f:Str->List Str)(L:List Str):Prop:=∀(i:Nat)(x:Str),L[i]?=some x->∀y∈f x,y∈L.take i
def Ih(f:Str->List Str)(W:List Str):Prop:=∀(i:Nat)(x y:Str),W[i]?=some x->W[i+1]?=some y->y∈f x
theorem Top.nil:Top f []:=λi x h=>by simp at h
theorem Top.snoc(h:Top f L)(hx:∀y∈f x,y∈L):Top f (L++[x]):=λi z a y b=>by
 by_cases c:i<L.length
 .rw[D1 c]at a;rw[List.take_append_of_le_length (by omega)];exact h i z a y b
 .rw[DB (by omega)]at a;have hi:i=L.length:=by
   have:=(List.getElem?_eq_some_iff.mp a).1;simp at this;omega
  subst hi;simp at a;subst a;rw[List.take_left']
  .exact hx y b
  .rfl
theorem Ih.snoc{V:List Str}(h:Ih f (V++[x]))(g:y∈f x):Ih f (V++[x]++[y]):=λi a b e d=>by
 by_cases c:i+1<(V++[x]).length
 .rw[D1 c]at d;rw[D1 (by omega)]at e;exact h i a b e d
 .have hi:i+1=(V++[x]).length:=by
   have:=(List.getElem?_eq_some_iff.mp d).1;simp at this c ⊢;omega
  rw[hi]at d;have d:(V++[x]++[y])[(V++[x]).length]?=some b:=d;rw[DB (Ae _)]at d;simp at d;subst d;have j:i=V.length:=by simp at hi;exact hi
  subst j;rw[Bv,DB (Ae _)]at e;simp at e;subst e;exact g
theorem Ih.one(x:Str):Ih f [x]:=λi a b _ c=>by simp at c
structure Su (f:Str->List Str) (ws W:List Str) (i:Nat):Prop where
 nd:W.Nodup
 ch:Ih f W
 sub:∀x∈W,x∈ws
 at':∃y z,W[i]?=some y/\W[W.length - 1]?=some z/\y∈f z
noncomputable def X8(W:List Str)(i:Nat):PV:=.tup [.lst ((W.take (i+1)).map .str),.lst ((W.drop i).map .str)]
theorem SJ(h:Top f L)(c:∀x∈S,x∈L)(r:C3 f S x):x∈L:=by
 induction r with
 |here m=>exact c _ m
 |step _ b a=>
  obtain⟨i,hi,e⟩:=Fm a;exact i3 (h i _ (by rw[Ah hi,e]) _ b)
theorem ik(h:Top f L)(n:Nat):Top f (L.take n):=λi x hx y a=>by
 rw[List.getElem?_take]at hx;split at hx
 .next c=>
  rw[List.take_take,Rp (by omega)];exact h i x hx y a
 .cases hx
theorem rQ(h:Top f L)(nd:L.Nodup)(hx:x∈L):¬ C3 f (f x) x:=λr=>by
 obtain⟨i,hi,e⟩:=Fm hx;have d:L[i]?=some x:=by rw[Ah hi,e]
 have m:=SJ (ik h i) (S:=f x) (λy b=>h i x d y b) r;obtain⟨j,c,a⟩:=Fm m;rw[FD]at c;rw[Xd]at a;have q:=List.pairwise_iff_getElem.mp nd j i (by omega) hi (by omega);exact q (a.trans e.symm)
def GZ(f:Str->List Str)(S:List Str):Prop:=∃x,C3 f S x/\C3 f (f x) x
theorem uF(h:Top f L)(nd:L.Nodup)(c:∀x∈S,x∈L):¬ GZ f S:=λAD=>by obtain⟨x,b,a⟩:=AD;exact rQ h nd (SJ h c b) a
theorem gL(h:Ih f W)(hi:∃x,W[i]?=some x/\C3 f S x):∀j,i<=j->∀y,W[j]?=some y->C3 f S y:=by
 intro j
 induction j with
 |zero=>
  intro d y a;obtain⟨x,hx,r⟩:=hi;have:i=0:=by omega
  subst this;rw[hx]at a;cases a;exact r
 |succ j b=>
  intro d y a
  by_cases c:i=j+1
  .obtain⟨x,hx,r⟩:=hi;subst c;rw[hx]at a;cases a;exact r
  .have e:=(List.getElem?_eq_some_iff.mp a).1;obtain⟨x,hx⟩:∃x,W[j]?=some x:=⟨_,Ah (by omega)⟩;exact .step (b (by omega) x hx) (h j x y hx a)
theorem oz{ws:List Str}(h:Su f ws W i)(k:∃x,W[0]?=some x/\x∈S):GZ f S:=by
 obtain⟨x0,e0,j⟩:=k;obtain⟨y,z,b,d,e⟩:=h.at';have hi:=(List.getElem?_eq_some_iff.mp b).1;refine⟨y,gL h.ch ⟨x0,e0,.here j⟩ i (CA _) y b,?_⟩
 by_cases c:i=W.length - 1
 .subst c;rw[b]at d;cases d;exact .here e
 .obtain⟨a,g⟩:∃a,W[i+1]?=some a:=⟨_,Ah (by omega)⟩;exact .step (gL h.ch ⟨a,g,.here (h.ch i y a b g)⟩ _ (by omega) z d) e
noncomputable def GS:List Str:=["puts_by_word","goes_by_word"]
def Aw(C:Addr)(ks:List Kd):PV:=.obj C GS [.Ag (B2 (wk ks)) (ks.map λk=>.tup (k.ps.map Ay)),.Ag (B2 (wk ks)) (ks.map λk=>.bl k.g)]
def IA(C dx a c b:Addr)(ks:List Kd):OV:=.nd (.obj C dx GS) a [.nd (.Ag (B2 (wk ks))) c (ks.map λk=>.fz (.tup (k.ps.map Ay))),.nd (.Ag (B2 (wk ks))) b (ks.map λk=>.fz (.bl k.g))]
theorem Pp{α:Type}(g:α->PV):∀(l:List α),OV.Ci (l.map λx=>OV.fz (g x))=l.map g
 | []=>by rw[Im,OV.Ci];rfl
 |x::r=>by rw[Aq,OV.Ci,OV.pv,Pp g r];rfl
theorem ZA2(C dx a c b:Addr)(ks:List Kd):(IA C dx a c b ks).pv=Aw C ks:=by
 unfold IA Aw;rw[OV.pv,OV.Ci,OV.pv,OV.Ci,OV.pv,OV.Ci,Pp,Pp]
theorem Ob{α:Type}(g:α->PV)(h:∀x,De (g x)=true):∀(l:List α),Hg (l.map g)=true
 | []=>by rw[Im,Hg]
 |x::r=>by rw[Aq,Hg,h x,Ob g h r];rfl
theorem UZ{α:Type}(g:α->OV)(h:∀x,(g x).G5=true):∀(l:List α),OV.IU (l.map g)=true
 | []=>by rw[Im,OV.IU]
 |x::r=>by rw[Aq,OV.IU,h x,UZ g h r];rfl
theorem nP(p:Str×Str):De (Ay p)=true:=by unfold Ay;simp[De,Hg]
theorem ZAH(C dx a c b:Addr)(ks:List Kd):(IA C dx a c b ks).G5=true:=by
 unfold IA;simp only[OV.G5,OV.IU];rw[UZ _ λk=>?_,UZ _ λk=>?_]
 .rfl
 .simp[OV.G5,De]
 .rw[OV.G5,De];exact Ob _ nP _
def My:Pre:=λl R=>∃(ws:List Str)(d:PV)(x:Str),l=[.is d,.is (.str x)]/\(d=.lst (ws.map .str)∨∃xs,d=.Ag (B2 ws) xs)/\ws.length<=1000/\x∈ws/\R=.is (λp=>p=.A9)
def VH:Pre:=λl R=>∃(ws:List Str)(ps:List (Str×Str)),l=[.is (.lst (ws.map .str)),.is (.lst (ps.map Ay))]/\ws.length<=1000/\(∀p∈ps,p.1∈WH/\p.2∈ws)/\R=.is (λp=>p=.A9)
def XH:Pre:=λl R=>∃ks:List Kd,l=[.is (.lst (ks.map EX))]/\KG ks/\R=.is (λp=>p=.A9)
def WU(C:Addr):Pre:=λl R=>∃(dx a:Addr)(ks:List Kd),l=[.ow true (.nd (.obj C dx []) a []),.is (.lst (ks.map EX))]/\KG ks/\R=.mt (λp t'=>p=.A9/\∃c b,t'=IA C dx a c b ks)
def RE(C:Addr):Pre:=λl R=>∃ks:List Kd,l=[.is (Aw C ks)]/\KG ks/\R=.new (λxs=>xs=(wk ks).map .str)
def Pq(C:Addr):Pre:=λl R=>∃(ks:List Kd)(x:Str),l=[.is (Aw C ks),.is (.str x)]/\KG ks/\x∈wk ks/\R=.new (λxs=>xs=(Df ks x).map Ay)
def Ve(C:Addr):Pre:=λl R=>∃(ks:List Kd)(tp:Bool)(cs:List Str),l=[.is (Aw C ks),.sq tp (cs.map .str)]/\KG ks/\cs.length<=12/\(∀c∈cs,c∈wk ks)/\R=.is (λp=>p=.A9)
def Rb(C:Addr):Pre:=λl R=>∃(ks:List Kd)(x r:Str),l=[.is (Aw C ks),.is (.str x),.is (.str r)]/\KG ks/\x∈wk ks/\r∈HX/\R=.new (λxs=>xs=(GY ks r x).map Ay)
def LK(a:Addr)(L:List Str):OV:=.nd (.Ag (B2 L)) a (L.map λ_=>.fz (.bl true))
def Jy(C:Addr)(n:Nat):Pre:=λl R=>∃(ks:List Kd)(r:Str)(V:List Str)(x:Str)(L:List Str)(a:Addr),l=[.is (Aw C ks),.is (.str r),.is (.lst ((V++[x]).map .str)),.ow true (LK a L)]/\KG ks/\r∈HX/\9<=V.length+1+n/\
 (V++[x]).Nodup/\(∀y∈V++[x],y∈wk ks)/\Ih (Ax ks r) (V++[x])/\(∀y∈V,y∉L)/\Top (Ax ks r) L/\L.Nodup/\(∀y∈L,y∈wk ks)/\
 R=.mt (λp t'=>∃L',t'=LK a L'/\((p=.A9/\Top (Ax ks r) L'/\L'.Nodup/\(∀y∈L',y∈wk ks)/\(∀y∈L,y∈L')/\(∀y∈V,y∉L')/\x∈L')∨∃W i,p=X8 W i/\(V++[x]) <+: W/\Su (Ax ks r) (wk ks) W i))
theorem gF{C:Addr}:∀ss R,¬ Jy C 0 ss R:=by
 rintro ss R⟨ks,r,V,x,L,a,_,g,_,b,nd,sub,_⟩;have:=G1 nd sub;have:=g.l8;rw[Bj,Il,AA]at *;omega
def ur(f:Str->List Str)(ws cs:List Str)(p:PV):Prop:=(p=.A9/\∃L,Top f L/\L.Nodup/\(∀y∈L,y∈ws)/\∀c∈cs,c∈L)∨∃W i c,p=X8 W i/\Su f ws W i/\W[0]?=some c/\c∈cs
def XD(C:Addr):Pre:=λl R=>∃(ks:List Kd)(tp:Bool)(cs:List Str)(r:Str),l=[.is (Aw C ks),.sq tp (cs.map .str),.is (.str r)]/\KG ks/\r∈HX/\cs.length<=12/\(∀c∈cs,c∈wk ks)/\R=.is (ur (Ax ks r) (wk ks) cs)
def WM:Pre:=λl R=>l=[.AK]/\R=.is λp=>∃ks:List Kd,p=.lst (ks.map Kd.P)/\KG ks
def Vr(C:Addr):Pre:=λl R=>∃ks:List Kd,l=[.is (.lst (ks.map Kd.P))]/\KG ks/\R=.is (λp=>p=Aw C ks)
def UM:Pre:=λl R=>∃ks:List Kd,l=[.AK,.is (.lst (ks.map Kd.P))]/\KG ks/\R=.new (λxs=>∃cs:List Str,xs=cs.map .str/\cs.length<=12/\∀c∈cs,c∈wk ks)
def RX:Pre:=λl R=>∃(ks:List Kd)(x r:Str),l=[.is (.lst (ks.map Kd.P)),.is (.str x),.is (.str r)]/\KG ks/\x∈wk ks/\r∈HX/\R=.new (λxs=>xs=(Ax ks r x).map .str)
def QN:Pre:=λl R=>∃(ks:List Kd)(S:List Str)(r:Str),l=[.is (.lst (ks.map Kd.P)),.sq false (S.map .str),.is (.str r)]/\KG ks/\r∈HX/\S.length<=12/\(∀x∈S,x∈wk ks)/\R=.new (λxs=>∃L:List Str,xs=L.map .str/\L.Nodup/\L.length<=8/\∀x,x∈L↔C3 (Ax ks r) S x)
def WK:Pre:=λl R=>∃(ks:List Kd)(cs:List Str)(r:Str),l=[.is (.lst (ks.map Kd.P)),.sq false (cs.map .str),.is (.str r)]/\KG ks/\r∈HX/\cs.length<=12/\(∀x∈cs,x∈wk ks)/\R=.is (λp=>∃b:Bool,p=.bl b/\(b=true↔GZ (Ax ks r) cs))
theorem KG.gJ(h:KG ks)(hx:x∈wk ks):∃k rest,ks.filter (λk=>decide (k.w=x))=k::rest/\k.ps=Df ks x:=by
 obtain⟨k,c,l,m,_,g⟩:=h.at hx;have:k∈ks.filter (λk=>decide (k.w=x)):=List.mem_filter.mpr ⟨g,jE l⟩;cases e:ks.filter (λk=>decide (k.w=x))with
 |nil=>rw[e]at this;cases this
 |cons a rest=>
  refine⟨a,rest,rfl,?_⟩;have j:a∈ks.filter (λk=>decide (k.w=x)):=by rw[e];simp
  obtain⟨V3,b⟩:=List.mem_filter.mp j;have b:a.w=x:=jG b;obtain⟨i,hi,d⟩:=Fm V3;have f:(wk ks).idxOf x=i:=by
   have q:(wk ks)[i]?=some x:=by rw[Am,Ah hi,d];simp[b]
   exact Sj h.nd q
  rw[m];rw[f,Ah hi,d]at c;cases c;rfl
theorem Ll(h:KG ks)(b:∀x∈S,x∈wk ks)(q:C3 (Ax ks r) S x):x∈wk ks:=by
 induction q with
 |here m=>exact b _ m
 |step _ a _=>exact h.Uj a
theorem jQ(n:Nat):HD (n+1) (-1)=some n:=by
 unfold HD;rw[ib (by decide),ir (by omega)]
 congr 1
 omega
theorem xb(V:List Str)(x:Str):L2.Bm ((V++[x]).map PV.str) (-1)=some (.str x):=by
 unfold L2.Bm;rw[AA,Bj,Il,jQ];simp
theorem vk{t:Int}(a:0<=t)(h:t<4):∃x∈WH,L2.Bm [PV.str "next",.str "last",.str "back",.str "first"] t=some (.str x):=by
 rcases(show t=0∨t=1∨t=2∨t=3 by omega)with rfl|rfl|rfl|rfl
 .exact⟨"next", by decide,rfl⟩
 .exact⟨"last", by decide,rfl⟩
 .exact⟨"back", by decide,rfl⟩
 .exact⟨"first", by decide,rfl⟩
theorem v5{t:Int}(a:0<=t)(h:t<8):∃z:Nat,L2.Bm [PV.int 0,.int 1,.int 1,.int 2,.int 3,.int 4,.int 6,.int 12] t=some (.int (z:Int))/\z<=12:=by
 rcases(show t=0∨t=1∨t=2∨t=3∨t=4∨t=5∨t=6∨t=7 by omega)with rfl|rfl|rfl|rfl|rfl|rfl|rfl|rfl
 .exact⟨0,rfl,by decide⟩
 .exact⟨1,rfl,by decide⟩
 .exact⟨1,rfl,by decide⟩
 .exact⟨2,rfl,by decide⟩
 .exact⟨3,rfl,by decide⟩
 .exact⟨4,rfl,by decide⟩
 .exact⟨6,rfl,by decide⟩
 .exact⟨12,rfl,by decide⟩
theorem T9{P:Str->Prop}:∀{ys:List PV},(∀y∈ys,∃c,P c/\y=.str c)->∃cs:List Str,ys=cs.map .str/\∀c∈cs,P c
 | [],_=>⟨[],rfl,λc h=>absurd h Af⟩
 |y::r,h=>by
  obtain⟨c,b,rfl⟩:=h y (by simp);obtain⟨cs,e,h2⟩:=T9 (ys:=r) λz a=>h z (by simp[a]);exact⟨c::cs,by rw[e];rfl,λd hd=>by
   rcases List.mem_cons.mp hd with rfl|hd
   .exact b
   .exact h2 d hd⟩
theorem U8:∀{a b:List Str},a.map PV.str=b.map PV.str->a=b
 | [],[],_=>rfl
 | [],_::_,h=>by simp at h
 |_::_,[],h=>by simp at h
 |x::a,y::b,h=>by
  rw[Aq,Aq]at h;injection h with h1 h2
  injection h1 with h1
  rw[h1,U8 h2]
noncomputable def Dd:List Kd->List Addr->List OV
 |k::ks,b::bs=>.tp [.fz (.str k.w),.nd .lst b ((k.ps.map Ay).map .fz),.fz (.bl k.g)]::Dd ks bs
 |_,_=>[]
theorem ZP:∀{ks:List Kd}{us:List OV},us.length=(ks.map Kd.P).length->(∀(j:Nat)x u,(ks.map Kd.P)[j]?=some x->us[j]?=some u->∃(k:Kd)(b:Addr),x=k.P/\u=.tp [.fz (.str k.w),.nd .lst b ((k.ps.map Ay).map .fz),.fz (.bl k.g)])->∃bs:List Addr,bs.length=ks.length/\us=Dd ks bs
 | [],[],_,_=>⟨[],rfl,rfl⟩
 | [],_::_,h,_=>by simp at h
 |_::_,[],h,_=>by simp at h
 |k::ks,u::us,h,hG=>by
  obtain⟨i,b,a,f⟩:=hG 0 _ _ rfl rfl;have a:=Kd.inj _ _ a;subst a;obtain⟨bs,c,e⟩:=ZP (ks:=ks) (us:=us) (by simpa using h) λj x u hx d=>hG (j+1) x u hx d
  exact⟨b::bs,by simp[c],by rw[e,f];rfl⟩
theorem c7:∀(ks:List Kd)(bs:List Addr),bs.length=ks.length->(Dd ks bs).length=ks.length
 | [],_,_=>by simp[Dd]
 |_::_,[],h=>by simp at h
 |k::ks,b::bs,h=>by rw[Dd,CG,CG,c7 ks bs (by simpa using h)]
theorem fq:∀(ks:List Kd)(bs:List Addr),bs.length=ks.length->∀{j:Nat}{u:OV},(Dd ks bs)[j]?=some u->∃(k:Kd)(b:Addr),k∈ks/\u=.tp [.fz (.str k.w),.nd .lst b ((k.ps.map Ay).map .fz),.fz (.bl k.g)]
 | [],_,_,j,u,hu=>by simp[Dd]at hu
 |_::_,[],h,_,_,_=>by simp at h
 |k::ks,b::bs,h,0,u,hu=>by
  rw[Dd]at hu;exact⟨k,b,by simp,(BH hu).symm⟩
 |k::ks,b::bs,h,j+1,u,hu=>by
  rw[Dd]at hu;obtain⟨c,d,a,e⟩:=fq ks bs (by simpa using h) (j:=j) (u:=u) (by simpa using hu)
  exact⟨c,d,by simp[a],e⟩
theorem Xx:∀(ks:List Kd)(bs:List Addr),bs.length=ks.length->OV.Ci (Dd ks bs)=ks.map EX
 | [],_,_=>by rw[Dd,OV.Ci];rfl;exact λ_ _ _ _ h=>by cases h
 |_::_,[],h=>by simp at h
 |k::ks,b::bs,h=>by
  rw[Dd,OV.Ci,Xx ks bs (by simpa using h),Aq]
  congr 1
  rw[OV.pv,OV.Ci,OV.pv,OV.Ci,OV.pv,OV.Ci,OV.pv,OV.Ci];unfold EX;rw[CH,show(OV.fz ∘ Ay)=λp=>OV.fz (Ay p)from rfl,Pp]
theorem pY(ks:List Kd)(bs:List Addr)(l:Addr)(h:bs.length=ks.length):(OV.nd .lst l (Dd ks bs)).pv=.lst (ks.map EX):=by rw[OV.pv,Xx ks bs h]
theorem YS:∃n:Nat,n=9:=⟨9,rfl⟩
noncomputable def fuel:Nat:=Classical.choose YS
theorem Zf:fuel=9:=gm YS
end Fz
namespace L2
variable{ns:List Str}
section
variable{X:Cx}
noncomputable def p7(y:Str):Value->Bool
 | .str a _=>a == y
 |_=>false
theorem wN{y:Str}(h:y∈ns):∃h:ns.idxOf y<ns.length,ns[ns.idxOf y]=y/\∀m(b:m<ns.length),m<ns.idxOf y->ns[m]≠y:=by
 have a:ns.idxOf y<ns.length:=List.idxOf_lt_length_iff.mpr h;refine⟨a,MZ a,λm b AM e=>?_⟩;have:=List.not_of_lt_findIdx (p:=(· == y)) (xs:=ns) (i:=m) AM
 simp[e]at this
theorem vn{A4:List Value}(r:Vals (ns.map V.str) A4){m:Nat}{u:Value}(h:A4[m]?=some u):∃(c:m<ns.length)(t:Tok),u=.str ns[m] t:=by
 have b:=r.length;rw[AA]at b;have hi:m<A4.length:=(List.getElem?_eq_some_iff.mp h).1;have a:m<ns.length:=by omega
 obtain⟨w,h1,h2⟩:=r.get (i:=m) (x:=.str ns[m]) (by rw[Am,Ah a];rfl);rw[h1]at h;cases h;obtain⟨t,rfl⟩:=h2;exact⟨a,t,rfl⟩
theorem Y0:∀(ns:List Str)(j:Nat),(ns.map V.str).eraseIdx j=(ns.eraseIdx j).map V.str
 | [],_=>rfl
 |_::_,0=>rfl
 |x::t,j+1=>by rw[Aq,ZAc,Y0 t j];rfl
def fA:V->List V->Hp->VK->Prop:=λx vs H Q=>∃(l:Addr)(ns:List Str)(y:Str),x=.ref l/\vs=[.str y]/\H l=some (.lst (ns.map V.str))/\y∈ns/\Q .A9 (upd H l (.lst ((ns.eraseIdx (ns.idxOf y)).map V.str)))
theorem vC:Fu X "list.remove" fA:=by
 intro Zb s Z H x vs v us Q I f g h;obtain⟨l,ns,y,rfl,rfl,c,j,q⟩:=h;cases f;obtain⟨u,rfl,i⟩:=g.one;obtain⟨t,rfl⟩:=i;obtain⟨z,A4,n,r,p,e⟩:=I.Hn c;obtain⟨B,Ru,Uw⟩:=wN j;have o:ns.length=A4.length:=by rw[<- p,AA]
 have at':∀(m:Nat)(a:m<A4.toArray.size),∃(k:m<ns.length)(t:Tok),A4.toArray[m]=.str ns[m] t:=λm a=>by
  have A:m<A4.length:=by simpa using a
  obtain⟨h2,t,e⟩:=vn r (Ah A);exact⟨h2,t,by simpa using e⟩
 have d:ns.idxOf y<A4.toArray.size:=by simp;omega
 refine oJ ZAy ⟨_,e,rfl⟩ PySem.F.entry_list_remove (PySem.F.args_list_remove_2 _ _) (MeetsSeq.list_remove l A4.toArray n (.str y t) (p7 y) (λw hw=>?_) (ns.idxOf y) d ?_ (λm a AM=>?_) (by rw[Bf];omega)) ⟨e,?_⟩
 .obtain⟨m,a,rfl⟩:=Array.mem_iff_getElem.mp hw;obtain⟨h2,t2,b⟩:=at' m a;rw[b];exact eqGives_str _ _ _ _
 .obtain⟨h2,t2,b⟩:=at' _ d;rw[b];show(_ == _)=true;rw[Ru];simp
 .obtain⟨h2,t2,b⟩:=at' m a;rw[b];show(_ == _)=false
  simpa using Uw m h2 AM
 .refine⟨.A9,_,I.LA (its':=A4.eraseIdx (ns.idxOf y)) c e ?_ ?_ ?_,rfl,q⟩
  .show A4.toArray.eraseIdxIfInBounds _=_;rw[ZAb]
  .rw[<- Y0];exact r.eraseIdx _
  .have:=fX ns (ns.idxOf y);rw[AA]at z ⊢;omega
end
end L2
namespace Fz
open L2 Lw
variable{ss:List Slot}{tb tc te ti ty:TE}{nx:List Slot->Prop}{R:Aa}{ps xs:List PV}{i j:Nat}{a b:Addr}{us:List OV}{nk:NK}
section
variable[Xw]
variable{K:ZBc}{ta:TE}{t:OV}{lt:Bool}
theorem oK{ns:List Str}(hi:ss[i]?=some (.own (ns.map PV.str)))(h:Wp ss ty λq=>∃y,q=.str y/\y∈ns/\nx (ss.set i (.own ((ns.eraseIdx (ns.idxOf y)).map PV.str)))):Ws ss (Hx (IZ K "list" fA (Ap i) (AU ty B3))) nx R:=⟨λE D Z F H S g n=>by
 obtain⟨l,vs,e,p,o,k,r⟩:=S.ok i _ hi;refine⟨_,e,.inl ⟨rfl,_,AQ.of k⟩,h.go E Z F H _ S λv q F1 H1 a c⟨y,j,f,kk⟩=>?_⟩;subst j;cases c.inv;obtain⟨m,BI,b,DD,Bx,Hh,d⟩:=a.st.ok i _ hi;rw[e]at b;cases b;rw[d.strs]at Hh;refine⟨l,ns,y,rfl,rfl,Hh,f,?_⟩;exact g _ Z F1 _ kk (a.st.put hi e DD Bx (Xu _)) a.ff⟩
end
end Fz
namespace Fz
open L2 Lw
variable{ss:List Slot}{tb te:TE}{i j:Nat}
theorem set_same{α:Type}{l:List α}{x:α}(h:l[i]?=some x):l.set i x=l:=by
 obtain⟨a,ex⟩:=List.getElem?_eq_some_iff.mp h;rw[<- ex,List.set_getElem_self]
end Fz
namespace Fz
open L2 Lw
variable{ss:List Slot}{ta tb td te ti tv ty:TE}{d i j jb js:Nat}{nx:List Slot->Prop}{R:Aa}{C a a0:Addr}{pl r x x0 y:Str}{n:Int}{pre:Pre}{ps xs:List PV}{Jk us:List OV}{f:Str->List Str}{L M Q S T cs:List Str}{ks:List Kd}{p:Str×Str}{Ms:List (List Str)}
abbrev aI:=Str×Bool
structure Rn where
 r:Str
 th:List aI
 gap:Nat
 pG:Nat
def sO(s:Rn)(w:Str)(at_:Nat):Rn:=⟨s.r,s.th.take at_++(w,d9 s.r s.gap at_)::s.th.drop at_,dM at_ s.gap,s.pG⟩
theorem putAt{k:Str}{pre a th:List aI}{g n m:Nat}(e:th=pre++a)(b:m=pre.length):sO ⟨r,th,g,n⟩ k m=⟨r,pre++(k,d9 r g m)::a,dM m g,n⟩:=by
 subst e;subst b;show Rn.mk r ((pre++a).take pre.length++_::(pre++a).drop pre.length) _ n=_;rw[List.take_left,List.drop_left]
theorem z5{X:Cx}{pos:Pos}:QE X (.Dict [] [] pos) XI:=⟨λZb s Z H Q I h=>
 wpAny_Dict_empty ⟨.ref s.heap.objs.size,_,I.laid (a:=s.heap.objs.size) (o:=.dT []) (t':=s.toks) (λ_ _ q=>Bz _ q) (Ae _) (qD s.heap I.big),rfl,h _ (I.AF.fresh (Ae _))⟩⟩
abbrev Br:=Str×Nat
variable{b:Br}
def EE(b:Br):List Key:=[.inr b.1,.inl (b.2:Int)]
noncomputable def B1(b:Br):PV:=.tup [.str b.1,.int (b.2:Int)]
theorem j4{a:Br}(h:EE a=EE b):a=b:=by
 obtain⟨x,n⟩:=a;obtain⟨y,m⟩:=b;unfold EE at h;injection h with h1 h2
 injection h1 with h1
 injection h2 with h2 _
 injection h2 with h2
 have h1:x=y:=h1;have h2:(n:Int)=(m:Int):=h2;have h2:n=m:=by omega
 rw[h1,h2]
noncomputable def Be(f:Br->Int)(a:Addr)(M:List Br):OV:=.nd (.IJ (M.map EE)) a (((M.map f).map PV.int).map .fz)
theorem Qe(f:Br->Int)(a:Addr)(M:List Br):(Be f a M).addrs=[a]:=by
 unfold Be;rw[OV.Ce,OH];rfl
theorem QD(f:Br->Int)(b:Br):∀M:List Br,DQ ((M.map EE).zip ((M.map f).map V.int)) (EE b)=if b∈M then some (.int (f b))else none
 | []=>by rw[ib Af];rfl
 |c::M=>by
  rw[Aq,Aq,Aq,Ja]
  by_cases e:c=b
  .subst e;rw[N5 rfl,ir ES]
  .rw[Nz (λz=>e (j4 z)),QD f b M];have:(b∈c::M)↔b∈M:=⟨λh=>(List.mem_cons.mp h).elim (λz=>absurd z.symm e) id,λh=>DV _ h⟩
   by_cases d:b∈M
   .rw[ir d,ir (this.mpr d)]
   .rw[ib d,ib λz=>d (this.mp z)]
theorem VM{F:Hp}{v:V}(r:Rep F v (B1 b)):∃c,v=.ref c/\F c=some (.tup ((EE b).map kV)):=by
 obtain⟨c,vs,rfl,e,a⟩:=r.inv;have d:vs=(EE b).map kV:=(a.enc (show[PV.str b.1,.int (b.2:Int)].all flat=true from rfl)).trans rfl;rw[d]at e;exact⟨c,rfl,e⟩
section
variable[Xw]
variable{k:PV->Prop}{lt:Bool}{t:OV}{K:ZBc}
theorem kX{k:List Nat->OV->Prop}(f:Br->Int)(h:∀a,k [] (Be f a [])):Wx ss XI k:=⟨λE Z F H Q S q p b=>by
 have m:=S.make b (.dT []);refine q _ [] (Be f p []) F _ m (.nd (k:=.IJ []) (vs:=[]) Al trivial rfl .nil) (by rw[Qe];simp) (λa c=>?_) (h p);rw[Qe]at c;have e:a=p:=by simpa using c
 subst e;exact⟨S.Bk b,S.CS b,.inr b⟩⟩
theorem pE(h:Wp ss ty λq=>Wl ss i t td λ_ u=>∃f a M b,u=Be f a M/\q=B1 b/\k (.bl (!decide (b∈M)))):Wp ss (QY ty td) k:=⟨λE Z F H Q S q=>
 h.go E Z F H _ S λv p F1 H1 g m h2=>h2.go E Z F1 H1 _ g.st λx p2 u F2 H2 d l BO AD=>by
  obtain⟨f,a,M,b,r,s,kk⟩:=AD;subst r;subst s;obtain⟨vs,rfl,n,y,z,j⟩:=l.inv;have o:=(j.RD).ints;subst o;obtain⟨c,rfl,w⟩:=VM m;refine⟨a,_,rfl,E7.t n (d.st.fh _ _ (d.ff _ _ w)),?_⟩;rw[QD];have e:(!(if b∈M then some (V.int (f b))else none).isSome)=!decide (b∈M):=by split <;> simp[*]
  rw[e];exact q _ _ F2 H2 (g.trans d) (.bl _) kk⟩
theorem sC(h:Wl ss i t td λ_ u=>∃f a M,u=Be f a M/\Wp ss ty λq=>∃b,b∈M/\q=B1 b/\k (.int (f b))):Wp ss (OY td ty) k:=⟨λE Z F H Q S q=>
 h.go E Z F H _ S λv p u F1 H1 g n h1⟨f,a,M,w,h2⟩=>h2.go E Z F1 H1 _ g.st λy p2 F2 H2 d m⟨b,o,e,kk⟩=>by
  subst e;have l:=n.mv g.st h.hi h1 d;subst w;obtain⟨vs,rfl,r,z,A,j⟩:=l.inv;have s:=(j.RD).ints;subst s;obtain⟨c,rfl,x⟩:=VM m;refine⟨a,.int (f b),rfl,?_,q _ _ F2 H2 (g.trans d) (.int _) kk⟩;have:=E7.t r (d.st.fh _ _ x);rw[QD,ir o]at this;exact this⟩
theorem r6{f:Br->Int}{M:List Br}(hi:ss[i]?=some (.ow lt (Be f a M)))(h:Wp ss tv λp=>Wp ss ty λq=>∃b,b∉M/\p=.int (f b)/\q=B1 b/\M.length<=99999/\nx (ss.set i (.ow lt (Be f a (M++[b]))))):Ws ss (Ot (Ap i) ty tv) nx R:=⟨λE D Z F H S w P=>
 h.go E Z F H _ S λv p F1 H1 j m h2=>by
  obtain⟨J,e0,u,_,_⟩:=j.st.ok i _ hi;obtain⟨_,d,_⟩:=u.inv;subst d;refine⟨_,e0,h2.go E Z F1 H1 _ j.st λI q F2 H2 e s⟨b,g,A,z,O,kk⟩=>?_⟩;subst A;subst z;have d:v=.int (f b):=m.inv;subst d;obtain⟨c,rfl,B⟩:=VM s;obtain⟨G,T,r,N,L⟩:=e.st.ok i _ hi;obtain⟨vs,_,x,K,Q,o⟩:=r.inv;have d:=(o.RD).ints;subst d;have C:((M.map EE).zip ((M.map f).map V.int)).length<=99999:=by rw[PH,AA,AA,AA];omega
  refine⟨a,_,rfl,IE.t x (e.st.fh _ _ B) (Gi C),?_⟩;rw[L2.OQ _ (by rw[QD,ib g])];have y:(M.map EE).zip ((M.map f).map V.int)++[(EE b,V.int (f b))]=((M++[b]).map EE).zip (((M++[b]).map f).map V.int):=by
   rw[Bn,Bn,Bn,i6 (by rw[AA,AA,AA])];rfl
  rw[y];have l:=e.st.NZ (p:=[]) (n:=Be f a (M++[b])) (ho:=.dT (((M++[b]).map EE).zip (((M++[b]).map f).map V.int))) hi OV.JR (.nd (k:=.IJ ((M++[b]).map EE)) Al trivial (by show(List.map _ _).length=_;rw[AA,AA,AA]) (Rw (bN _))) (by rw[Qe];simp) λb g=>.inl (by rw[Qe]at g;rw[OV.Ce,OH];exact g);rw[OV.HR]at l;exact w _ Z F2 _ kk l (j.ff.trans e.ff)⟩
theorem ah{wi:TI}{G:PV}{Jp:NK}{k:PV->OV->Prop}(I:Nat->OV->Int->Prop)(hi:ss[i]?=some (.ow lt (.nd Jp a0 Jk)))(M:ss[jb]?=some (.is G))
  (h:Wi ss wi λxs=>xs.length<=1000/\I 0 (.nd Jp a0 Jk) 0/\(∀n x nk us s,xs[n]?=some x->I n (.nd nk a0 us) s->∃u,pre [.is G,.is x,.ow true (.nd nk a0 us)] (.mt u)/\∀p t',u p t'->∃(m:Int)(EJ:NK)(BK:List OV),p=.int m/\t'=.nd EJ a0 BK/\I (n+1) (.nd EJ a0 BK) (s+m))/\∀nk us s,I xs.length (.nd nk a0 us) s->k (.int s) (.nd nk a0 us)) :
  Wm ss i lt (.nd Jp a0 Jk) (Dm (R5 K) (AU (HA wi [jb,i] ML (D6 (C2 pre) [] E0 (AU (Ap 0) (AU (Ap 2) (AU (Ap 1) B3))))) B3)) k:=⟨λE Z F H Q S q=>
 h.go E Z F H _ S λJ xs F1 H1 d C⟨hz,i0,st,hk⟩acc Ao=>by
  have Et:Bs ss Z acc:=d.st.He Ao;have Gz:=d.st.CS Ao;have HI:∀(i:Nat)s,ss[i]?=some s->¬ As s Z[i]? acc:=λi s hi=>d.st.HY hi Ao;have P:=(List.getElem?_eq_some_iff.mp hi).1;obtain⟨vI,eI,rI,ndI,qI⟩:=d.st.ok i _ hi;obtain⟨_,p5,_⟩:=rI.inv;subst p5;have om:jb≠i:=λz=>by subst z;rw[hi]at M;cases M
  have sW:acc∉(OV.nd Jp a0 Jk).addrs:=λz=>HI i _ hi z;have ID:∀(T:OV),acc∉T.addrs->∀(n:Nat)s,(ss.set i (.ow lt T))[n]?=some s->¬ As s Z[n]? acc:=λT hT n s r o=>by
   by_cases c:n=i
   .subst c;rw[CL P]at r;cases r;exact hT o
   .rw[C0 (B5 c)]at r;exact HI n s r o
  refine⟨λn m H2=>m=xs.length - n/\n<=xs.length/\∃nk us s ns F2,I n (.nd nk a0 us) s/\List.sum ns=s/\ns.length=n/\Sg E (ss.set i (.ow lt (.nd nk a0 us))) Z F2 H2/\AJ F1 F2/\F2 acc=none/\H2 acc=some (.lst (ns.map V.int))/\acc∉(OV.nd nk a0 us).addrs/\(∀x∈(OV.nd nk a0 us).addrs,x∈(OV.nd Jp a0 Jk).addrs∨H1 x=none)/\(∀a o,Bs ss Z a->a∉(OV.nd Jp a0 Jk).addrs->H1 a=some o->H2 a=some o)/\(∀a,H1 a≠none->H2 a≠none)/\(∀a o,F2 a=some o->F1 a=some o∨H1 a=none),⟨_,rfl,CA _,Jp,Jk,0,[],F1,i0,rfl,rfl,by rw[set_same hi];exact(d.st.make Ao _).st,AJ.refl _,d.st.Bk Ao,Al,sW,λx hx=>.inl hx,λa o _ _ ea=>by rw[AS (Cy ea Ao)];exact ea,λa ea=>by rw[AS (λz=>by subst z;exact ea Ao)];exact ea,λa o ea=>.inl ea⟩,?_⟩;rintro n m H2⟨rfl,r,nk,us,s,ns,F2,X,es,σ,S2,Od,lx,N,aT,W,Uu,Mp,Zc⟩
  by_cases U:n<xs.length
  .refine .inr ⟨C.go _ Z F2 H2 n Od S2 U,λx H3 y=>?_⟩;obtain⟨p,F3,hp,g,rp⟩:=C.E6 _ Z F2 H2 n x H3 Od S2 U y;unfold ML;dsimp only;rw[ir rfl];have YE:∀b,Bs ss Z b->Bs (ss.set i (.ow lt (.nd nk a0 us))) Z b:=λb nb j A=>by
    by_cases c:j=i
    .subst c;rw[CL P]at A;cases A
    .rw[C0 (B5 c)]at A;exact nb j A
   have YZ:(ss.set i (.ow lt (.nd nk a0 us)))[i]?=some (.ow lt (.nd nk a0 us)):=CL P;have O:=g.hh acc _ (YE acc Et) N;have Y:F3 acc=none:=by
    cases e:F3 acc with
    |none=>rfl
    |some o=>
     rcases g.nn acc o e with w|w
     .rw[lx]at w;cases w
     .rw[N]at w;cases w
   obtain⟨u,G9,kk⟩:=st n p nk us s hp X;obtain⟨B,eb,rb⟩:=g.st.ok jb (.is G) (by rw[C0 (B5 om)];exact M);have Lq:BA [jb,i] Z++[some x]=[some B,some (V.ref a0),some x]:=by
    show[(Z[jb]?).join,(Z[i]?).join]++_=_;rw[eb,eI];rfl
   rw[Lq];refine⟨B,rfl,x,rfl,V.ref a0,rfl,?_⟩;show C2 pre ([B,x,V.ref a0]++[]) H3 _ E0;rw[ER];refine⟨_,.mt u,F3,[],(OV.nd nk a0 us).addrs,G9,g.st.XN YZ (.there rb (.there rp (.here eI .nil))),λv F' H' f⟨q',t',rq,ro,Ga,D,kp⟩=>?_⟩;obtain⟨L,EJ,BK,rfl,rfl,uV⟩:=kk q' t' kp;have ev:v=.int L:=rq.inv;subst ev;have m4:=g.st.VN YZ f ro Ga D;have S4:=m4.st;rw[Rm]at S4;have tj:H' acc=some (.lst (ns.map V.int)):=f.keep acc _ ⟨Af,aT⟩ O;have dy:F' acc=none:=by
    cases e:F' acc with
    |none=>rfl
    |some o=>
     rcases f.fresh acc o e with w|w
     .rw[show F3 acc=some o from w]at Y;cases Y
     .have l:H3 acc=none:=w;rw[O]at l;cases l
   have bY:acc∉(OV.nd EJ a0 BK).addrs:=λz=>by
    rcases(D acc z).2 with w|w
    .have w:H3 acc=none:=w;rw[O]at w;cases w
    .exact aT w
   have R:∀a,H2 a≠none->H3 a≠none:=λa e w=>e (g.none w);have ia:∀a,H3 a≠none->H' a≠none:=λa e w=>by
    by_cases c:a∈(OV.nd nk a0 us).addrs
    .exact f.bH a c w
    .cases e2:H3 a with
     |none=>exact e e2
     |some o=>rw[f.keep a o ⟨Af,c⟩ e2]at w;cases w
   refine⟨_,tj,Gi (by rw[AA,σ];omega),xs.length - (n+1),by omega,rfl,U,EJ,BK,s+L,ns++[L],F',uV,by rw[Xj,es];simp,by rw[Bj,σ];rfl,S4.KR dy (.inl Gz) (ID _ bY),Od.trans (g.ff.trans f.f0),dy,?_,bY,λz Ue=>?_,λa o np t ea=>?_,λa ea=>?_,λa o ea=>?_⟩
   .rw[Al,Bn];rfl
   .rcases(D z Ue).2 with w|w
    .refine .inr ?_;have l:H3 z=none:=w;cases e:H1 z with
     |none=>rfl
     |some o=>exact absurd l (R z (Mp z (by rw[e];simp)))
    .exact W z w
   .rw[AS (Cy ea Ao)];have h3:=g.hh a o (YE a np) (Uu a o np t ea);refine f.keep a o ⟨Af,λz=>?_⟩ h3;rcases W a z with w|w
    .exact t w
    .rw[w]at ea;cases ea
   .rw[AS (λz=>by subst z;exact ea Ao)];exact ia a (R a (Mp a ea))
   .rcases f.fresh a o ea with w|w
    .rcases g.nn a o w with w|w
     .exact Zc a o w
     .refine .inr ?_;cases e:H1 a with
      |none=>rfl
      |some o'=>exact absurd w (Mp a (by rw[e];simp))
    .refine .inr ?_;have l:H3 a=none:=w;cases e:H1 a with
     |none=>rfl
     |some o'=>exact absurd l (R a (Mp a (by rw[e];simp)))
  .have e:n=xs.length:=by omega
   subst e;refine .inl ⟨C.stop _ Z F2 H2 Od S2,acc,ns,rfl,AQ.of N,?_⟩;rw[es];exact q _ (.int s) (.nd nk a0 us) F2 H2 ⟨S2,d.ff.trans Od,λa o np t ea=>Uu a o np t (d.hh a o np ea),λa o ea=>(Zc a o ea).elim (d.nn a o) λw=>.inr (d.none w)⟩ (.int s) (hk nk us s X)⟩
theorem lK{c:TT}{tb:TS}(I:Nat->List Slot->Prop)(e:Nat)(p:I e ss)(h:∀m A7,I m A7->∃lt t,A7[i]?=some (.ow lt t)/\eK A7 i lt t c λb t'=>if b=true then Ws (A7.set i (.ow lt t')) tb (λBD=>∃a,a < m/\I a BD) R else nx (A7.set i (.ow lt t'))):Ws ss (QK c tb) nx R:=⟨λE D Z F H S k j=>by
 refine⟨λm σ' H'=>∃A7 F',I m A7/\Sg E A7 σ' F' H'/\AJ F F',⟨e,ss,F,p,S,AJ.refl _⟩,?_⟩;rintro m σ' H'⟨A7,F',o,S',s'⟩;obtain⟨lt,t,hi,n⟩:=h m A7 o;refine n.go E σ' F' H' _ S' λb t' F1 H1 d w=>?_;cases b with
 |true=>
  rw[ir rfl]at w;refine⟨λσ2 H2=>∃BD F2,(∃a,a < m/\I a BD)/\Sg E BD σ2 F2 H2/\AJ F F2,λσ2 H2 AD=>by obtain⟨BD,F2,⟨a,l,i⟩,b,c⟩:=AD;exact⟨a,l,BD,F2,i,b,c⟩,?_⟩;exact w.go E _ σ' F1 H1 d.st (λJl σ5 F5 H5 g S5 f=>⟨Jl,F5,g,S5,(s'.trans d.ff).trans f⟩) j
 |false=>
  rw[ib (by decide)]at w;exact k _ σ' F1 H1 w d.st (s'.trans d.ff)⟩
theorem ZAM{a:Int}{f:Int->Int->Int}(k:ss[j]?=some (.is (.int a)))(h:Wm ss i lt t te λp t'=>∃b,p=.int b/\nx ((ss.set i (.ow lt t')).set j (.is (.int (f a b))))):Ws ss (Pr j te (Qj f)) nx R:=⟨λE D Z F H S g n=>by
 obtain⟨v,e,r⟩:=S.ok j _ k;cases r.inv;refine⟨_,e,h.go E Z F H _ S λm p t' F1 H1 c d⟨b,l,kk⟩=>?_⟩;subst l;cases d.inv;exact⟨a,b,rfl,rfl,g _ _ F1 H1 kk (c.st.ED (.int _)) c.ff⟩⟩
theorem ZAC{k:PV->OV->Prop}{g:Int->Int->Bool}{a:Int}(f:ss[j]?=some (.is (.int a)))(h:Wm ss i lt t tb λp t'=>∃b,p=.int b/\k (.bl (g a b)) t'):Wm ss i lt t (BU (Fl λi j=>.bl (g i j)) (Ap j) tb) k:=⟨λE Z F H Q S q=>by
 obtain⟨v,e,r⟩:=S.ok j _ f;cases r.inv;refine⟨_,e,h.go E Z F H _ S λm p t' F1 H1 d c⟨b,l,kk⟩=>?_⟩;subst l;cases c.inv;exact⟨a,b,rfl,rfl,q _ _ t' F1 H1 d (.bl _) kk⟩⟩
theorem yd(h:Wm ss i lt t te λp _=>k p):Ws ss (Hl te) nx (.is k):=⟨λE D Z F H S c b=>
 h.go E Z F H _ S λv p t' F1 H1 a r kk=>b v F1 H1 a.st.toFin ⟨p,r,kk⟩⟩
theorem n9{t':TS}{s:Slot}(i:Nat)(hi:ss[i]?=some s)(a:s=.is (.lst xs)∨s=.own xs)(h:Ws (ss.set i (.is (.lst xs))) t' nx R):Ws ss t' nx R:=by
 rcases a with rfl|rfl
 .rw[set_same hi]at h;exact h
 .exact G7 i hi h
theorem lI{t:TA}{k:List PV->Prop}{ns:List Int}(hi:ss[i]?=some (.raw (FW K ns)))(h:Wp ss te λx=>∃m,x=.int m/\0<=m/\m<=1000/\Wa ss t λl=>∃(ps:List PV)(G:List PV->Prop),l=ps.map Slot.is/\pre (.AK::l) (.new G)/\∀p,G p->k p):
  Wn ss (D6 (Ac pre) [] E0 (AU (D6 (Nl K) [] E0 (AU (Ap i) (AU te B3))) t)) k:=⟨λE Z F H Q S q=>by
 obtain⟨v,e,⟨a,ev,hq⟩,st⟩:=S.ok i _ hi;subst ev;refine⟨_,e,h.go E Z F H _ S λv x F1 H1 c r⟨m,em,m0,Gh,hw⟩=>?_⟩;subst em;cases r.inv;obtain⟨v',σ,NL,_⟩:=c.st.ok i _ hi;rw[e]at σ;cases σ;obtain⟨a',ea,Fb⟩:=OB K ns _ F1 H1 c.st.fh NL;cases ea;refine⟨a,ns,m,rfl,Fb,m0,Gh,λp H2 J s T=>?_⟩;have U:=c.st.grow s;refine hw.go E Z F1 H2 _ U.st λvs l F3 H3 B av⟨ps,G,el,HZ,kk⟩=>?_;show Ac pre ((V.ref p::vs)++[]) H3 Q E0;rw[ER];have D:=c.trans (U.trans B);have M:∀(j:Nat)s,ss[j]?=some s->¬ As s Z[j]? p:=λj s b=>c.st.HY b J;have np:Bs ss Z p:=λj b=>M j _ b;have Vu:BJ H3 p:=BJ.keep T λo O=>B.hh p o np O;have Ua:F3 p=none:=by
  cases z:F3 p with
  |none=>rfl
  |some o=>
   rcases B.nn p o z with w|w
   .rw[c.st.Bk J]at w;cases w
   .obtain⟨_,_,R,_⟩:=T;rw[w]at R;cases R
 have S':Sg E (ss++[.AK]) (Z++[some (.ref p)]) F3 H3:=by
  have g:=B.st;have N:∀(j:Nat)s,(ss++[Slot.AK])[j]?=some s->(ss[j]?=some s/\(Z++[some (V.ref p)])[j]?=Z[j]?)∨(s=.AK/\(Z++[some (V.ref p)])[j]?=some (some (.ref p))/\j=ss.length):=λj s b=>by
   by_cases AM:j<ss.length
   .rw[D1 AM]at b;rw[D1 (by rw[<- g.len];exact AM)];exact .inl ⟨b,rfl⟩
   .rw[DB (by omega)]at b;have MH:j - ss.length=0:=by
     have:=(List.getElem?_eq_some_iff.mp b).1
     simpa using this
    rw[MH]at b;refine .inr ⟨by simpa using b.symm,?_,by omega⟩
    rw[DB (by rw[<- g.len];omega),<- g.len,MH];rfl
  refine⟨g.toFin,by simp[g.len],λj s b=>?_,λj I s u l Nq b HE A y=>?_⟩
  .rcases N j s b with⟨L,d⟩|⟨rfl,d,_⟩
   .rw[d];exact g.ok j s L
   .rw[d];exact⟨p,rfl,Ua,.inl (c.st.CS J),Vu⟩
  .rcases N j s b with⟨L,d⟩|⟨rfl,d,a3⟩
   .rcases N I u HE with⟨P,C⟩|⟨rfl,C,_⟩
    .rw[d]at A;rw[C]at y;exact g.Bg j I s u l Nq L P A y
    .rw[d]at A;rw[C]at y;cases y;exact M j s L A
   .rcases N I u HE with⟨P,C⟩|⟨rfl,C,b3⟩
    .rw[d]at A;cases A;rw[C]at y;exact M I u P y
    .exact absurd (a3.trans b3.symm) Nq
 have VQ:(ss++[Slot.AK])[ss.length]?=some .AK:=by rw[DB (Ae _)];simp
 have TC:(Z++[some (V.ref p)])[ss.length]?=some (some (.ref p)):=by rw[B.st.len,DB (Ae _)];simp
 have UN:FK (ss++[Slot.AK]) (Z++[some (V.ref p)]) F3 H3 vs l:=by
  subst el;exact dS (SR ps av)
 refine⟨.AK::l,.new G,F3,[p],HZ,S'.aH VQ TC UN,λv F' H' f⟨l9,xl,X,e9,mi,tJ,ki,r9,yb⟩=>?_⟩;subst e9;have W:∀a,a≠p->a∉[p]:=λa h z=>h (by simpa using z)
 have Ts:H p=none:=c.none J;have mv:Mv E ss Z F H F' H':=by
  refine S.step (D.ff.trans f.f0) f.fh (λa o n e=>f.keep a o ⟨W a (Cy e Ts),Af⟩ (D.hh a o n e)) (λa o e=>?_) λj l b Y=>?_
  .rcases f.fresh a o e with w|w
   .exact D.nn a o w
   .exact .inr (D.none w)
  .exact BJ.keep (B.st.E2 b Y) λo O=>f.keep l o ⟨W l (by rintro rfl;exact M j _ b Y),Af⟩ O
 exact q l9 xl X F' H' mv mi (D.none tJ) ki r9 (kk X yb)⟩
end
theorem Z6:∀{l:List Str},¬ l.Nodup->∃(i j:Nat)(x:Str),i<j/\l[i]?=some x/\l[j]?=some x
 | [],h=>absurd GC h
 |a::l,h=>by
  by_cases c:a∈l
  .obtain⟨j,b,e⟩:=Fm c;exact⟨0,j+1,a,by omega,rfl,by rw[ZAg,Ah b,e]⟩
  .obtain⟨i,j,x,h1,h2,d⟩:=Z6 (l:=l) λz=>h (List.nodup_cons.mpr ⟨c,z⟩);exact⟨i+1,j+1,x,by omega,h2,d⟩
noncomputable def O8(g:Str->Str)(x:Str):Nat->Str
 | 0=>x
 |n+1=>g (O8 g x n)
theorem sink(q:x0∈S)(h:∀x∈S,∃y,y∈f x/\y∈S):∃x∈S,C3 f (f x) x:=by
 have k:∀x,∃y,x∈S->y∈f x/\y∈S:=λx=>by
  by_cases c:x∈S
  .obtain⟨y,b⟩:=h x c;exact⟨y,λ_=>b⟩
  .exact⟨x,λz=>absurd z c⟩
 let g:Str->Str:=λx=>Classical.choose (k x)
 have e:∀x∈S,g x∈f x/\g x∈S:=λx hx=>gm (k x) hx;have is:∀n,O8 g x0 n∈S:=λn=>by
  induction n with
  |zero=>exact q
  |succ n a=>exact(e _ a).2
 have nn:¬ ((List.range (S.length+1)).map (O8 g x0)).Nodup:=λnd=>by
  have:=G1 nd (bs:=S) λy b=>by
   obtain⟨n,_,rfl⟩:=List.mem_map.mp b;exact is n
  rw[AA,Rk]at this;omega
 obtain⟨i,j,x,FX,m,l⟩:=Z6 nn;rw[Am]at m l;obtain⟨w,s,rfl⟩:=Option.map_eq_some_iff.mp m;obtain⟨v,r,t⟩:=Option.map_eq_some_iff.mp l;have hi:=(List.getElem?_eq_some_iff.mp s);have o:=(List.getElem?_eq_some_iff.mp r);obtain⟨p,EY⟩:=hi;obtain⟨u,HE⟩:=o;rw[ZAk]at EY HE;subst EY;subst HE;refine⟨_,is i,?_⟩;have go:∀d,C3 f (f (O8 g x0 i)) (O8 g x0 (i+1+d)):=λd=>by
  induction d with
  |zero=>exact .here (e _ (is i)).1
  |succ d a=>exact .step a (e _ (is (i+1+d))).1
 have:=go (j - i - 1);rw[show i+1+(j - i - 1)=j from by omega,t]at this;exact this
theorem lC{ws:List Str}(hw:∀x,C3 f cs x->x∈ws)(h:¬ GZ f cs):∃T,Top f T/\T.Nodup/\(∀y∈T,C3 f cs y)/\∀x,C3 f cs x->x∈T:=by
 have go:∀n,∃T,Top f T/\T.Nodup/\(∀y∈T,C3 f cs y)/\(n<=T.length∨∀x,C3 f cs x->x∈T):=λn=>by
  induction n with
  |zero=>exact⟨[],Top.nil,GC,λ_ h=>absurd h Af,.inl (Ae _)⟩
  |succ n m=>
   obtain⟨T,b,nd,sub,g⟩:=m
   by_cases c:∀x,C3 f cs x->x∈T
   .exact⟨T,b,nd,sub,.inr c⟩
   have g:n<=T.length:=g.elim id λz=>absurd z c;obtain⟨x0,Qm⟩:=Classical.not_forall.mp c;obtain⟨k,n0⟩:=Classical.not_imp.mp Qm;haveI:DecidablePred λx=>C3 f cs x/\x∉T:=λ_=>Classical.propDecidable _;have e:∀x,x∈ws.filter (λx=>decide (C3 f cs x/\x∉T))↔C3 f cs x/\x∉T:=λx=>by
    rw[hZ,ou];exact⟨λh=>h.2,λh=>⟨hw x h.1,h⟩⟩
   by_cases d:∀x∈ws.filter (λx=>decide (C3 f cs x/\x∉T)),∃y,y∈f x/\y∈ws.filter (λx=>decide (C3 f cs x/\x∉T))
   .obtain⟨x,hx,j⟩:=sink ((e x0).mpr ⟨k,n0⟩) d;exact absurd ⟨x,((e x).mp hx).1,j⟩ h
   .obtain⟨x,hx⟩:=Classical.not_forall.mp d;obtain⟨UX,Mt⟩:=Classical.not_imp.mp hx;obtain⟨i,nx⟩:=(e x).mp UX;refine⟨T++[x],b.snoc λy a=>?_,N2 nd nx,λy a=>?_,.inl (by rw[Bj,Il];omega)⟩
    .refine Classical.byContradiction λl=>Mt ⟨y,a,(e y).mpr ⟨.step i a,l⟩⟩
    .rcases List.mem_append.mp a with z|z
     .exact sub y z
     .rw[List.mem_singleton.mp z];exact i
 obtain⟨T,b,nd,sub,g⟩:=go (ws.length+1);refine⟨T,b,nd,sub,g.elim (λz=>?_) id⟩;have:=G1 nd (bs:=ws) λy a=>hw y (sub y a);omega
def Hc(a:Addr)(L:List Str)(m:Str->Int):OV:=.nd (.Ag (B2 L)) a ((L.map λy=>PV.int (m y)).map .fz)
def Rx(L:List Str)(m:Str->Int):PV:=.Ag (B2 L) (L.map λy=>PV.int (m y))
theorem WO(a:Addr)(L:List Str)(m:Str->Int):(Hc a L m).pv=Rx L m:=by
 unfold Hc Rx;rw[OV.pv,gP]
theorem vt(m:Str->Int)(h:y∈L):Gj (B2 L) (L.map λy=>PV.int (m y)) (.inr y)=some (.int (m y)):=by
 have hi:=List.idxOf_lt_length_iff.mpr h;exact QM h (by rw[Am,Ah hi,MZ hi];rfl)
theorem vU(m:Str->Int)(h:y∉L)(a:Addr):OV.nd (.Ag (EG (B2 L) (.inr y))) a ((Lx (B2 L) (L.map λz=>PV.int (m z)) (.inr y) (.int (m y))).map .fz)=Hc a (L++[y]) m:=by
 have hk:¬ Es (B2 L) (.inr y)=true:=by rw[OI];exact λz=>h (jG z)
 unfold EG Lx Hc;rw[ib hk,ib hk];unfold B2;rw[Bn,Bn,Bn,Bn];rfl
def Bp(ks:List Kd)(x pl:Str):List Str:=((Df ks x).filter λp=>decide (p.1=pl)).map (·.2)
def BS(ks:List Kd)(b:Br):List Br:=(if b.2=0 then[]else(Bp ks b.1 "last").map λy=>(y,b.2 - 1))++(Bp ks b.1 "next").map λy=>(y,b.2)
theorem N8(a:pl∈Dw)(h:y∈Bp ks x pl):y∈Ax ks "ahead" x:=by
 obtain⟨p,Hi,rfl⟩:=List.mem_map.mp h;obtain⟨h1,h2⟩:=List.mem_filter.mp Hi;refine List.mem_map.mpr ⟨p,?_,rfl⟩;unfold GY;rw[ib (by decide +kernel)];refine List.mem_filter.mpr ⟨h1,?_⟩;rw[jG h2,jE a,Bool.or_true]
theorem HU(g:KG ks)(x pl:Str):(Bp ks x pl).length<=6:=by
 unfold Bp;rw[AA];exact CU (Kz _ _) (g.JY x).1
theorem Hb{c:Br}(h:c∈BS ks b):c.1∈Ax ks "ahead" b.1/\c.2<=b.2:=by
 unfold BS at h;rcases List.mem_append.mp h with h|h
 .split at h
  .cases h
  .obtain⟨y,a,rfl⟩:=List.mem_map.mp h;exact⟨N8 (by decide +kernel) a,Nat.sub_le _ _⟩
 .obtain⟨y,a,rfl⟩:=List.mem_map.mp h;exact⟨N8 (by decide +kernel) a,Ae _⟩
theorem Rc(g:KG ks)(b:Br):(BS ks b).length<=12:=by
 unfold BS;rw[Bj,AA];have h1:=HU g b.1 "next"
 have h2:=HU g b.1 "last";split
 .rw[Xf];omega
 .rw[AA];omega
def Ep(ks:List Kd)(b:Br)(g:Br->Int):Int:=((BS ks b).map g).sum+if b.2=0 then 1 else 0
def wF(ks:List Kd):Nat->Br->Int
 | 0=>λ_=>0
 |n+1=>λb=>Ep ks b (wF ks n)
theorem Z4{g g':Br->Int}(h:∀c∈BS ks b,g c=g' c):Ep ks b g=Ep ks b g':=by
 unfold Ep;rw[Mb h]
theorem LC(h:Top f T)(hx:T[i]?=some x)(b:y∈f x):∃j,j<i/\T[j]?=some y:=by
 obtain⟨j,c,a⟩:=Fm (h i x hx y b);rw[FD]at c;rw[Xd]at a;exact⟨j,by omega,by rw[Ah (by omega),a]⟩
theorem zL(h:Top (Ax ks "ahead") T):∀(i:Nat)(b:Br),T[i]?=some b.1->∀n m,i<n->i<m->wF ks n b=wF ks m b:=by
 intro i
 induction i using Nat.strongRecOn with
 |_ i a=>
  intro b hx n m g k;cases n with
  |zero=>omega
  |succ n=>cases m with
   |zero=>omega
   |succ m=>
    rw[wF,wF];refine Z4 λc e=>?_;obtain⟨j,d,f⟩:=LC h hx (Hb e).1;exact a j d c f n m (by omega) (by omega)
noncomputable def wv(ks:List Kd)(b:Br):Int:=wF ks fuel b
theorem Nx(h:Top (Ax ks "ahead") T)(n:T.length<=8)(hx:b.1∈T):wv ks b=Ep ks b (wv ks):=by
 obtain⟨i,hi,e⟩:=Fm hx;have g:T[i]?=some b.1:=by rw[Ah hi,e]
 have l:=Zf;obtain⟨m,a⟩:∃m,m+1=fuel:=⟨8,by omega⟩;have q:wv ks b=wF ks (m+1) b:=by unfold wv;rw[a]
 rw[q,wF];refine Z4 λc d=>?_;obtain⟨j,k,f⟩:=LC h g (Hb d).1;exact zL h j c f m fuel (by omega) (by omega)
theorem Oa:∀{l:List Int},(∀x∈l,0<=x)->0<=l.sum
 | [],_=>by simp
 |x::r,h=>by
  rw[Md];have:=h x (by simp);have:=Oa (l:=r) λy a=>h y (by simp[a]);omega
theorem QP{c:Int}(b:0<=c):∀{l:List Int},(∀x∈l,x<=c)->l.sum<=(l.length:Int) * c
 | [],_=>by simp
 |x::r,h=>by
  rw[Md,CG];have h1:=h x (by simp);have h2:=QP b (l:=r) λy a=>h y (by simp[a]);rw[show((r.length+1:Nat):Int)=(r.length:Int)+1 by omega,Int.add_mul,Int.one_mul];omega
theorem cx(ks:List Kd):∀(n:Nat)(b:Br),0<=wF ks n b
 | 0,b=>XY _
 |n+1,b=>by
  show 0<=Ep ks b (wF ks n);unfold Ep;have:=Oa (l:=(BS ks b).map (wF ks n)) λx hx=>by
   obtain⟨c,_,rfl⟩:=List.mem_map.mp hx;exact cx ks n c
  split <;> omega
theorem og(ks:List Kd)(b:Br):0<=wv ks b:=cx ks _ b
theorem cI{ks:List Kd}(g:KG ks):∀(n:Nat)(b:Br),wF ks n b<=((13 ^ n:Nat):Int)
 | 0,b=>by show(0:Int)<=_;exact PD _
 |n+1,b=>by
  show Ep ks b (wF ks n)<=_;unfold Ep;have a:(0:Int)<=(13 ^ n:Nat):=PD _;have h1:=QP (c:=((13 ^ n:Nat):Int)) a (l:=(BS ks b).map (wF ks n)) λx hx=>by
   obtain⟨c,_,rfl⟩:=List.mem_map.mp hx;exact cI g n c
  rw[AA]at h1;have h2:((BS ks b).length:Int) * ((13 ^ n:Nat):Int)<=12 * ((13 ^ n:Nat):Int):=ZAV (by have:=Rc g b;omega) a;have d:(13 ^ (n+1):Nat)=13 * 13 ^ n:=by rw[Nat.pow_succ,Nat.mul_comm]
  have e:1<=13 ^ n:=Nat.one_le_pow _ _ (by decide);rw[d];generalize (13 ^ n:Nat)=N at *;split <;> omega
theorem jF(g:KG ks)(b:Br):wv ks b<=13 ^ 9:=by
 have:=cI g fuel b;unfold wv;rw[Zf]at this ⊢;exact this
theorem sA(h:Top (Ax ks "ahead") T)(g:T.length<=8):∀(i:Nat)(b:Br),T[i]?=some b.1->i<b.2->wv ks b=0:=by
 intro i
 induction i using Nat.strongRecOn with
 |_ i d=>
  intro b hx hd;rw[Nx h g (Bo hx)];unfold Ep;rw[ib (by omega),Int.add_zero];have:∀c∈BS ks b,wv ks c=0:=λc a=>by
   obtain⟨j,f,k⟩:=LC h hx (Hb a).1;refine d j f c k ?_;unfold BS at a;rcases List.mem_append.mp a with a|a
   .split at a
    .cases a
    .obtain⟨y,e,rfl⟩:=List.mem_map.mp a;show j<b.2 - 1;omega
   .obtain⟨y,e,rfl⟩:=List.mem_map.mp a;show j<b.2;omega
  rw[Mb this]
  induction BS ks b with
  |nil=>rfl
  |cons c r Kq=>rw[Aq,Md];omega
noncomputable def pick(g:Br->Int):List Br->Int->Option (Br×Int)
 | [],_=>none
 |b::r,n=>if n<g b then some (b,n)else pick g r (n - g b)
theorem X0{g:Br->Int}:∀{bs:List Br}{n:Int},0<=n->n<(bs.map g).sum->∃b m,pick g bs n=some (b,m)/\b∈bs/\0<=m/\m<g b
 | [],n,h0,h1=>by simp at h1;omega
 |b::r,n,h0,h1=>by
  rw[pick]
  by_cases c:n<g b
  .rw[ir c];exact⟨b,n,rfl,by simp,h0,c⟩
  .rw[ib c];rw[Aq,Md]at h1;obtain⟨e,m,h2,d,a⟩:=X0 (g:=g) (bs:=r) (n:=n - g b) (by omega) (by omega);exact⟨e,m,h2,by simp[d],a⟩
noncomputable def E8(ks:List Kd):Nat->List Br->Int->Str
 | 0=>λ_ _ => ""
 |f+1=>λbs n=>match pick (wv ks) bs n with
  |none => ""
  |some q=>if q.1.2=0 then(if q.2=0 then q.1.1 else E8 ks f (BS ks q.1) (q.2 - 1))else E8 ks f (BS ks q.1) q.2
theorem dZ{f:Nat}{bs:List Br}{m:Int}(h:pick (wv ks) bs n=some (b,m)):E8 ks (f+1) bs n=if b.2=0 then(if m=0 then b.1 else E8 ks f (BS ks b) (m - 1))else E8 ks f (BS ks b) m:=by
 show(match pick (wv ks) bs n with
  |none=>("":Str)
  |some q=>if q.1.2=0 then(if q.2=0 then q.1.1 else E8 ks f (BS ks q.1) (q.2 - 1))else E8 ks f (BS ks q.1) q.2)=_
 rw[h]
noncomputable def tot(ks:List Kd)(cs:List Str)(d:Nat):Int:=(cs.map λc=>wv ks (c,d)).sum
noncomputable def Dg(ks:List Kd)(cs:List Str):Nat->Nat->Int->Option Str
 | 0=>λ_ _=>none
 |c+1=>λd n=>if n<tot ks cs d then some (E8 ks 9 (cs.map λx=>(x,d)) n)else Dg ks cs c (d+1) (n - tot ks cs d)
theorem LM(ks:List Kd)(cs:List Str)(c d:Nat)(n:Int):Dg ks cs (c+1) d n=if n<tot ks cs d then some (E8 ks 9 (cs.map λx=>(x,d)) n)else Dg ks cs c (d+1) (n - tot ks cs d):=rfl
theorem XS{ks:List Kd}{cs:List Str}:∀(c e d:Nat)(n:Int),0<=n->(∀d',d+c<=d'->tot ks cs d'=0)->Dg ks cs (c+e) d n=Dg ks cs c d n
 | 0,0,d,n,_,_=>rfl
 | 0,e+1,d,n,h0,h=>by
  rw[iB,LM,h d (by omega),ib (by omega),Int.sub_zero];have:=XS (ks:=ks) (cs:=cs) 0 e (d+1) n h0 λd' hd=>h d' (by omega);rw[iB]at this;rw[this];rfl
 |c+1,e,d,n,h0,h=>by
  rw[show c+1+e=(c+e)+1 by omega,LM,LM]
  by_cases k:n<tot ks cs d
  .rw[ir k,ir k]
  .rw[ib k,ib k];exact XS c e (d+1) _ (by omega) λd' hd=>h d' (by omega)
theorem lF(h:Top (Ax ks "ahead") T)(f:T.length<=8)(a:∀c∈cs,c∈T)(hd:T.length<=d):tot ks cs d=0:=by
 unfold tot;have:∀c∈cs,wv ks (c,d)=0:=λc b=>by
  obtain⟨i,hi,e⟩:=Fm (a c b);exact sA h f i (c,d) (by rw[Ah hi,e]) (by show i<d;omega)
 rw[Mb this];clear this a
 induction cs with
 |nil=>rfl
 |cons c r Kq=>rw[Aq,Md];omega
theorem eS(ks:List Kd)(cs:List Str)(d:Nat):0<=tot ks cs d:=Oa λx hx=>by
 obtain⟨c,_,rfl⟩:=List.mem_map.mp hx;exact og ks _
theorem fH{ks:List Kd}{cs:List Str}:∀(c d:Nat)(n:Int),((List.range c).map λj=>tot ks cs (d+j)).sum<=n->Dg ks cs c d n=none
 | 0,d,n,_=>rfl
 |c+1,d,n,h=>by
  rw[List.range_succ_eq_map,Aq,Md,CH]at h;have e:((List.range c).map ((λj=>tot ks cs (d+j)) ∘ Nat.succ))=(List.range c).map λj=>tot ks cs (d+1+j):=Mb λj _=>by show tot ks cs (d+(j+1))=_;rw[show d+(j+1)=d+1+j by omega]
  rw[e]at h;have nn:=Oa (l:=(List.range c).map λj=>tot ks cs (d+1+j)) λx hx=>by
   obtain⟨j,_,rfl⟩:=List.mem_map.mp hx;exact eS ks cs _
  have h:tot ks cs d+_<=n:=h;rw[LM,ib (by omega)];exact fH c (d+1) _ (by omega)
structure FG (T:List Str) (M:List Br):Prop where
 nd:M.Nodup
 sub:∀c∈M,c.1∈T/\c.2<=8
theorem aE:∀{as bs:List Br},as.Nodup->(∀x∈as,x∈bs)->as.length<=bs.length
 | [],_,_,_=>CA _
 |a::as,bs,nd,h=>by
  obtain⟨h1,h2⟩:=List.nodup_cons.mp nd;have b:=h a ES;have q:=aE (bs:=bs.erase a) h2 λx hx=>(hX (λe:x=a=>h1 (by rw[<- e];exact hx))).mpr (h x (DV _ hx));have e:=Xe b;have p:=Xg b;simp only[CG];omega
theorem FG.len{M:List Br}(h:FG T M)(f:T.length<=8):M.length<=72:=by
 have a:∀c∈M,c∈(T.flatMap λx=>(List.range 9).map λd=>((x,d):Br)):=λc e=>by
  obtain⟨h1,h2⟩:=h.sub c e;exact List.mem_flatMap.mpr ⟨c.1,h1,List.mem_map.mpr ⟨c.2,List.mem_range.mpr (by omega),rfl⟩⟩
 have h1:=aE h.nd a;have h2:(T.flatMap λx=>(List.range 9).map λd=>((x,d):Br)).length=T.length * 9:=by
  clear h a h1 f
  induction T with
  |nil=>rfl
  |cons x r b=>rw[List.flatMap_cons,Bj,b,AA,Rk,CG];omega
 omega
def Ku(C:Addr):Pre:=λl R=>∃(ks:List Kd)(b:Br),l=[.is (Aw C ks),.is (B1 b)]/\KG ks/\b.1∈wk ks/\R=.new λxs=>xs=(BS ks b).map B1
def HB(C:Addr)(n:Nat):Pre:=λl R=>∃(ks:List Kd)(b:Br)(T:List Str)(i:Nat)(M:List Br)(a:Addr),l=[.is (Aw C ks),.is (B1 b),.ow true (Be (wv ks) a M)]/\KG ks/\Top (Ax ks "ahead") T/\T.Nodup/\(∀y∈T,y∈wk ks)/\(T[i]?=some b.1/\i<n/\b.2<=8)/\FG T M/\
 R=.mt λp t'=>p=.int (wv ks b)/\∃M',t'=Be (wv ks) a M'/\FG T M'/\(∀c∈M,c∈M')/\∀c∈M',c∈M∨∃j,T[j]?=some c.1/\j<=i
theorem fL:∀ss R,¬ HB C 0 ss R:=by
 rintro ss R⟨ks,b,T,i,M,a,_,_,_,_,_,⟨_,h,_⟩,_⟩;omega
def JN(C:Addr)(n:Nat):Pre:=λl R=>∃(ks:List Kd)(bs:List Br)(m:Int)(T:List Str)(M:List Br)(a:Addr),l=[.is (Aw C ks),.is (.lst (bs.map B1)),.is (.int m),.ow true (Be (wv ks) a M)]/\KG ks/\Top (Ax ks "ahead") T/\T.Nodup/\(∀y∈T,y∈wk ks)/\(bs.length<=12/\∀b∈bs,(∃i,T[i]?=some b.1/\i<n)/\b.2<=8)/\(0<=m/\m<(bs.map (wv ks)).sum)/\FG T M/\
 R=.mt λp t'=>p=.str (E8 ks n bs m)/\∃M',t'=Be (wv ks) a M'/\FG T M'
theorem dN:∀ss R,¬ JN C 0 ss R:=by
 rintro ss R⟨ks,bs,m,T,M,a,_,_,_,_,_,⟨_,h⟩,⟨d,h1⟩,_⟩;obtain⟨b,_,_,c,_⟩:=X0 d h1;obtain⟨⟨_,_,z⟩,_⟩:=h b c;omega
section
variable[Xw]{K:ZBc}{k:PV->Prop}
theorem SS(h:ss[j]?=some (.is (B1 b)))(hk:k (.str b.1)):Wp ss (BU (DA K) (Ap j) (tC (.int 0))) k:=CN (CK h ⟨rfl,AZ ⟨_,_,rfl,rfl,hk⟩⟩)
theorem OD(h:ss[j]?=some (.is (B1 b)))(hk:k (.int (b.2:Int))):Wp ss (BU (DA K) (Ap j) (tC (.int 1))) k:=CN (CK h ⟨rfl,AZ ⟨_,_,rfl,rfl,hk⟩⟩)
theorem WJ(h:ss[j]?=some (.is (Ay p)))(hk:k (.str p.1)):Wp ss (BU (DA K) (Ap j) (tC (.int 0))) k:=CN (CK h ⟨rfl,AZ ⟨_,_,rfl,rfl,hk⟩⟩)
theorem Zw(h:ss[j]?=some (.is (Ay p)))(hk:k (.str p.2)):Wp ss (BU (DA K) (Ap j) (tC (.int 1))) k:=CN (CK h ⟨rfl,AZ ⟨_,_,rfl,rfl,hk⟩⟩)
end
theorem NX{n:Nat}(c:alike (.int (n:Int)) (.int 0)=true):n=0:=by
 have:(n:Int)=0:=by simpa[alike]using c
 omega
theorem Q9(x y:Str):alike (.str x) (.str y)=decide (x=y):=by
 rw[MW,ou];simp[alike]
theorem YF(d:Nat):((Df ks x).filter λp=>decide (p.1=pl)).map (λp=>B1 (p.2,d))=((Bp ks x pl).map λy=>((y,d):Br)).map B1:=by
 unfold Bp;rw[CH,CH];rfl
def Er(ks:List Kd)(r:Str)(cs T:List Str):Prop:=Top (Ax ks r) T/\T.Nodup/\(∀y∈T,y∈wk ks)/\∀c∈cs,c∈T
def TU(C EN:Addr):Iy:=λl R D=>∃(ks:List Kd)(tp:Bool)(cs:List Str)(r:Str),l=[.is (Aw C ks),.sq tp (cs.map .str),.is (.str r)]/\KG ks/\r∈HX/\cs.length<=12/\(∀c∈cs,c∈wk ks)/\R=.is (λp=>p=.A9/\∃T,Er ks r cs T)/\D=λe=>GZ (Ax ks r) cs/\e=⟨EN,[],[]⟩
def Nk(C EN:Addr):Iy:=λl R D=>∃(ks:List Kd)(tp:Bool)(cs:List Str)(m:Int),l=[.is (Aw C ks),.sq tp (cs.map .str),.is (.int m)]/\KG ks/\cs.length<=12/\(∀c∈cs,c∈wk ks)/\0<=m/\R=.is (λp=>(∃T,Er ks "ahead" cs T)/\p=JS (Dg ks cs 9 0 m))/\D=λe=>GZ (Ax ks "ahead") cs/\e=⟨EN,[],[]⟩
theorem Er.len(h:Er ks r cs T):T.length<=ks.length:=by
 have:=G1 h.2.1 h.2.2.1;rw[AA]at this;exact this
theorem Er.l8(g:KG ks)(h:Er ks r cs T):T.length<=8:=CU h.len g.l8
theorem Er.LS(h:Er ks r cs T):¬ GZ (Ax ks r) cs:=uF h.1 h.2.1 h.2.2.2
theorem gW(g:KG ks)(h:Er ks "ahead" cs T)(a:0<=n):Dg ks cs ks.length 0 n=Dg ks cs 9 0 n:=by
 have l8:=g.l8;have:=XS (ks:=ks) (cs:=cs) ks.length (9 - ks.length) 0 n a λd' hd=>lF h.1 (h.l8 g) h.2.2.2 (by have:=h.len;omega);rw[show ks.length+(9 - ks.length)=9 by omega]at this;exact this.symm
def HJ(ks:List Kd)(cs Q:List Str):Prop:=Q.Nodup/\∀x,x∈Q↔C3 (Ax ks "ahead") cs x
noncomputable def BB(ks:List Kd)(Q:List Str):List Kd:=(ks.filter λk=>decide (k.w∈Q)).map λk=>⟨k.w,k.ps.filter λp=>decide (p.1∈Dw),k.g⟩
theorem Zv(g:KG ks)(Q:List Str):(BB ks Q).length<=8:=by
 unfold BB;rw[AA];exact CU (Kz _ _) g.l8
theorem dA:wk (BB ks Q)=(wk ks).filter λw=>decide (w∈Q):=by
 unfold BB wk;rw[CH,Xc];rfl
theorem yf(g:KG ks)(hx:x∈wk ks)(a:x∈Q):∃k rest,(BB ks Q).filter (λk=>decide (k.w=x))=k::rest/\k.ps=(Df ks x).filter λp=>decide (p.1∈Dw):=by
 obtain⟨k,rest,e,b⟩:=g.gJ hx;have kw:k.w=x:=by
  have:k∈ks.filter (λk=>decide (k.w=x)):=by rw[e];exact ES
  exact jG (List.mem_filter.mp this).2
 unfold BB;rw[Xc];have:(ks.filter λk=>decide (k.w∈Q)).filter ((λk:Kd=>decide (k.w=x)) ∘ λk:Kd=>(⟨k.w,k.ps.filter λp=>decide (p.1∈Dw),k.g⟩:Kd))=(k::rest).filter λk=>decide (k.w∈Q):=by
  rw[<- e,gx,gx];refine gw λy _=>?_;show(decide (y.w=x) && decide (y.w∈Q))=(decide (y.w∈Q) && decide (y.w=x));rw[Bool.and_comm]
 rw[this,ZAf (by rw[kw];exact jE a),Aq];exact⟨_,_,rfl,by rw[<- b]⟩
theorem t4(a:pl∈Dw):(((Df ks x).filter λp=>decide (p.1∈Dw)).filter λp=>decide (p.1=pl)).map (·.2)=Bp ks x pl:=by
 unfold Bp;rw[gx]
 congr 1
 refine gw λp _=>?_
 by_cases c:p.1=pl
 .rw[jE c,jE (show p.1∈Dw by rw[c];exact a)];rfl
 .rw[jo c];rfl
def Wc:Pre:=λl R=>∃(ks:List Kd)(cs:List Str),l=[.is (.lst (ks.map Kd.P)),.is (.lst (cs.map .str))]/\KG ks/\cs.length<=12/\(∀c∈cs,c∈wk ks)/\R=.new λxs=>∃Q,HJ ks cs Q/\xs=(BB ks Q).map Kd.P
def P6:Pre:=λl R=>∃(ks:List Kd)(Q:List Str)(x pl:Str),l=[.is (.lst ((BB ks Q).map Kd.P)),.is (.str x),.is (.str pl)]/\KG ks/\x∈wk ks/\x∈Q/\pl∈Dw/\R=.new λxs=>xs=(Bp ks x pl).map .str
noncomputable def NQ(ks:List Kd)(d:Nat)(M:List Str):PV:=.Ag (B2 M) (M.map λx=>.int (wv ks (x,d)))
noncomputable def BZ(ks:List Kd)(Ms:List (List Str)):List PV:=Ms.mapIdx λd M=>NQ ks d M
def Pe(Q:List Str)(Ms:List (List Str)):Prop:=∀M∈Ms,M.Nodup/\∀x,x∈M↔x∈Q
def Wv:Pre:=λl R=>∃(ks:List Kd)(cs Q T:List Str),l=[.is (.lst ((BB ks Q).map Kd.P)),.is (.int 9)]/\KG ks/\cs.length<=12/\(∀c∈cs,c∈wk ks)/\HJ ks cs Q/\Er ks "ahead" cs T/\R=.new λxs=>∃Ms,Ms.length=9/\Pe Q Ms/\xs=BZ ks Ms
def Tw:Pre:=λl R=>∃(ks:List Kd)(cs Q T:List Str)(Ms:List (List Str))(bs:List Br)(d:Nat)(n:Int),l=[.is (.lst ((BB ks Q).map Kd.P)),.is (.lst (BZ ks Ms)),.is (.lst (bs.map B1)),.is (.int d),.is (.int n)]/\KG ks/\(∀c∈cs,c∈wk ks)/\HJ ks cs Q/\Er ks "ahead" cs T/\(Ms.length=9/\Pe Q Ms)/\(bs.length<=12/\∀b∈bs,b.1∈Q/\b.2<=8)/\(0<=n/\n<(bs.map (wv ks)).sum)/\R=.is λp=>p=.str (E8 ks 9 bs n)
def V1:Pre:=λl R=>∃(ks:List Kd)(cs Q T:List Str)(Ms:List (List Str))(n:Int),l=[.is (.lst ((BB ks Q).map Kd.P)),.is (.lst (BZ ks Ms)),.is (.lst (cs.map .str)),.is (.int n)]/\KG ks/\cs.length<=12/\(∀c∈cs,c∈wk ks)/\HJ ks cs Q/\Er ks "ahead" cs T/\(Ms.length=9/\Pe Q Ms)/\0<=n/\R=.is λp=>p=JS (Dg ks cs 9 0 n)
def Uv(C:Addr):Pre:=λl R=>∃(ks:List Kd)(tp:Bool)(cs:List Str)(m:Int),l=[.is (Aw C ks),.sq tp (cs.map .str),.is (.int m)]/\KG ks/\cs.length<=12/\(∀c∈cs,c∈wk ks)/\0<=m/\GZ (Ax ks "ahead") cs/\R=.is λp=>p=.bl true
theorem HJ.sub(g:KG ks)(a:∀c∈cs,c∈wk ks)(h:HJ ks cs Q)(hx:x∈Q):x∈wk ks:=Ll g a ((h.2 x).mp hx)
theorem HJ.T2(h:HJ ks cs Q)(hx:x∈Q)(a:y∈Ax ks "ahead" x):y∈Q:=(h.2 y).mpr (.step ((h.2 x).mp hx) a)
theorem HJ.HF(h:HJ ks cs Q)(t:Er ks "ahead" cs T)(hx:x∈Q):x∈T:=SJ t.1 t.2.2.2 ((h.2 x).mp hx)
theorem xY(a:Top f T)(sub:∀x∈L,x∈T)(ne:L≠[]):∃x,x∈L/\∀y∈f x,y∉L:=by
 have:(T.find? λx=>decide (x∈L)).isSome=true:=by
  rw[List.find?_isSome];obtain⟨x,hx⟩:=List.exists_mem_of_ne_nil L ne;exact⟨x,sub x hx,jE hx⟩
 obtain⟨x,hx⟩:=Option.isSome_iff_exists.mp this;obtain⟨h1,as,bs,e,h2⟩:=List.find?_eq_some_iff_append.mp hx;refine⟨x,jG h1,λy b z=>?_⟩;have:=a as.length x (by rw[e,DB (Ae _),Xn];rfl) y b;rw[e,List.take_left'  rfl]at this;have:=h2 y this;rw[jE z]at this;cases this
theorem iw(g:KG ks)(t:Er ks "ahead" cs T)(hx:x∈T):wv ks (x,d)=(if d=0 then 1 else((Bp ks x "last").map λy=>wv ks (y,d - 1)).sum)+((Bp ks x "next").map λy=>wv ks (y,d)).sum:=by
 rw[Nx t.1 (t.l8 g) (b:=(x,d)) hx];unfold Ep BS;rw[Bn,Xj,CH]
 by_cases c:d=0
 .rw[ir c,ir c,ir c,Im,List.sum_nil];show 0+((Bp ks x "next").map λy=>wv ks (y,d)).sum+1=_
  omega
 .rw[ib c,ib c,ib c,CH];show((Bp ks x "last").map λy=>wv ks (y,d - 1)).sum+((Bp ks x "next").map λy=>wv ks (y,d)).sum+0=_
  omega
theorem Yk(h:Ms[d]?=some M):(BZ ks Ms)[d]?=some (NQ ks d M):=by
 unfold BZ;rw[ZAi,h];rfl
theorem qZ(ks:List Kd)(Ms:List (List Str))(M:List Str):BZ ks (Ms++[M])=BZ ks Ms++[NQ ks Ms.length M]:=by
 unfold BZ;rw[List.mapIdx_concat]
theorem NW(ks:List Kd)(Ms:List (List Str)):(BZ ks Ms).length=Ms.length:=by unfold BZ;rw[List.length_mapIdx]
theorem UU(hx:x∈M):Gj (B2 M) (M.map λx=>PV.int (wv ks (x,d))) (.inr x)=some (.int (wv ks (x,d))):=by
 have hi:=List.idxOf_lt_length_iff.mpr hx;exact QM hx (by rw[Am,Ah hi,MZ hi];rfl)
theorem RY[Xw]{K:ZBc}{k:PV->Prop}(a:ss[js]?=some (.is (.lst (BZ ks Ms))))(h:Wp ss td λp=>∃(d:Nat)(M:List Str),p=.int d/\Ms[d]?=some M/\Wp ss ty λq=>∃x,q=.str x/\x∈M/\k (.int (wv ks (x,d)))):Wp ss (OY (BU (Iw K) (Ap js) td) ty) k:=
 O4 (Hy (Ct a ⟨rfl,h.mono λp z=>by
  obtain⟨d,M,rfl,b,h2⟩:=z;refine⟨_,_,rfl,L2.Fp (Yk b),B2 M,_,rfl,h2.mono λq z=>?_⟩;obtain⟨x,rfl,hx,kk⟩:=z;exact⟨.inr x,_,rfl,UU hx,kk⟩⟩))
noncomputable def V4(pl:Str):PV->Bool
 | .tup [.str a,_]=>decide (a=pl)
 |_=>false
noncomputable def fZ:PV->PV
 | .tup [_,b]=>b
 |p=>p
theorem Vs(pl:Str):∀l:List (Str×Str),((l.map Ay).filter (V4 pl)).map fZ=((l.filter λp=>decide (p.1=pl)).map (·.2)).map .str
 | []=>rfl
 |p::r=>by
  rw[Aq,ZAe,ZAe];have e:V4 pl (Ay p)=decide (p.1=pl):=rfl;rw[e]
  by_cases c:decide (p.1=pl)=true
  .rw[ir c,ir c,Aq,Aq,Aq,Vs pl r];rfl
  .rw[ib c,ib c,Vs pl r]
theorem ck{k:Kd}(Q:List Str)(h:ks[i]?=some k):BB (ks.take (i+1)) Q=BB (ks.take i) Q++if k.w∈Q then[⟨k.w,k.ps.filter λp=>decide (p.1∈Dw),k.g⟩]else[]:=by
 unfold BB;rw[KN h,Xb,Bn]
 congr 1
 by_cases c:k.w∈Q
 .rw[ir c,show[k].filter (λk=>decide (k.w∈Q))=[k]from ZAf (by show decide (k.w∈Q)=true;exact jE c)];rfl
 .rw[ib c,show[k].filter (λk=>decide (k.w∈Q))=[]from List.filter_cons_of_neg (by show ¬ decide (k.w∈Q)=true;rw[jo c];decide)];rfl
theorem Z8(cs:List Str)(d:Nat):(cs.map λc=>B1 (c,d))=(cs.map λc=>((c,d):Br)).map B1:=by rw[CH];rfl
theorem m7(ks:List Kd)(cs:List Str)(d:Nat):((cs.map λc=>((c,d):Br)).map (wv ks)).sum=tot ks cs d:=by rw[CH];rfl
theorem cW(h:¬ d=0):PV.int ((d:Int) - 1)=.int ((d - 1:Nat):Int):=by rw[show(d:Int) - 1=((d - 1:Nat):Int) by omega]
def l0(c:Str):PV->Int
 | .Ag ks xs=>match Gj ks xs (.inr c)with
  |some (.int v)=>v
  |_=>0
 |_=>0
noncomputable def P2(cs:List Str)(p:PV):Int:=(cs.map λc=>l0 c p).sum
theorem cP(h:∀c∈cs,c∈M):P2 cs (NQ ks d M)=tot ks cs d:=by
 unfold P2 tot;rw[Mb λc a=>?_];show(match Gj (B2 M) (M.map λx=>PV.int (wv ks (x,d))) (.inr c)with
  |some (.int v)=>v
  |_=>0)=_
 rw[UU (h c a)]
theorem lJ{x:PV}(h:x∈BZ ks Ms):∃d M,Ms[d]?=some M/\x=NQ ks d M:=by
 obtain⟨d,hd⟩:=List.getElem?_of_mem h;unfold BZ at hd;rw[ZAi]at hd;obtain⟨M,a,e⟩:=Option.map_eq_some_iff.mp hd;exact⟨d,M,a,e.symm⟩
theorem nK(h:∀M∈Ms,∀c∈cs,c∈M):(BZ ks Ms).map (P2 cs)=(List.range Ms.length).map (tot ks cs):=by
 refine ZAd (by rw[AA,NW,AA,Rk]) λd h1 h2=>?_;rw[AA,NW]at h1;have e:=Yk (ks:=ks) (Ah h1);rw[Ma,Ma,ZAk];obtain⟨b,a⟩:=List.getElem?_eq_some_iff.mp e;rw[a];exact cP (h _ (Ky h1))
noncomputable def M6(ks:List Kd)(cs:List Str):Int:=((List.range 9).map (tot ks cs)).sum
theorem yM(ks:List Kd)(cs:List Str):0<=M6 ks cs:=Oa λx hx=>by
 obtain⟨d,_,rfl⟩:=List.mem_map.mp hx;exact eS ks cs d
theorem nA(g:KG ks)(b:cs.length<=12):M6 ks cs<=9 * (12 * 13 ^ 9):=by
 have h1:=QP (c:=12 * 13 ^ 9) (by decide) (l:=(List.range 9).map (tot ks cs)) λx hx=>by
  obtain⟨d,_,rfl⟩:=List.mem_map.mp hx;have h2:=QP (c:=13 ^ 9) (by decide) (l:=cs.map λc=>wv ks (c,d)) λx hx=>by
   obtain⟨c,_,rfl⟩:=List.mem_map.mp hx;exact jF g _
  rw[AA]at h2;have a:(cs.length:Int) * 13 ^ 9<=12 * 13 ^ 9:=ZAV (by omega) (by decide);exact Int.le_trans h2 a
 rw[AA,Rk]at h1;exact h1
theorem u6(ks:List Kd)(cs:List Str):Dg ks cs 9 0 (M6 ks cs)=none:=fH 9 0 _ (by
 unfold M6;rw[Mb λd _=>by rw[iB]];exact XY _)
theorem vo(o:Option Str):Ko (JS o) (JS o)=true/\alike (JS o) (JS o)=true:=by
 cases o with
 |none=>exact⟨rfl,rfl⟩
 |some x=>exact⟨rfl,by simp[JS,alike]⟩
end Fz
set_option maxHeartbeats 8000000
namespace Pf
open L2 Lw
variable{w:World}{mg:ZBe}{Zj h:Heap}{A3 B9 Dp ET EU EV EW EZ Ec Ee Eh Ek Em En Eo Ew Ez FC JC JP f:Addr}{α:Type}{Rt SU Th VJ VR:Tok}{n nj wV:Nat}{l:PySem.W.OpenLaw}{qY rD:Option Addr}{y4 zt:Array (Option Value)}
abbrev St:=L2.St
noncomputable def top(i:Nat):Stmt:=PySem.Challenge.pw_stirround_k79_the_nth_told.main.body.getD i (.Pass ⟨0,0,0,0⟩)
abbrev SH:Stmt:=top 44
abbrev WQ:Stmt:=top 45
abbrev TZ:Stmt:=top 46
abbrev VB:Stmt:=top 47
abbrev SI:Stmt:=top 49
abbrev T5:Stmt:=top 30
abbrev V7:Stmt:=top 29
abbrev RA:Stmt:=top 21
abbrev Pd:Stmt:=top 28
abbrev Sh:Stmt:=Tr (top 27) 0
abbrev RO:Stmt:=top 54
abbrev Qv:Stmt:=top 50
abbrev Oq:Stmt:=top 51
abbrev Tv:Stmt:=top 52
abbrev Sm:Stmt:=top 53
abbrev RZ:Stmt:=top 59
abbrev Ow:Stmt:=top 55
abbrev KO:Stmt:=top 56
abbrev TK:Stmt:=top 43
abbrev Vv:Stmt:=Tr (top 27) 1
abbrev SM:Stmt:=top 31
abbrev Tx:Stmt:=Tr (top 27) 2
abbrev Qr:Stmt:=top 36
abbrev RM:Stmt:=top 38
abbrev UP:Stmt:=top 37
abbrev UK:Stmt:=top 35
abbrev PB:Stmt:=top 40
abbrev NS:Stmt:=top 39
abbrev Qg:Stmt:=top 41
abbrev N9:Stmt:=top 34
abbrev XO:Stmt:=top 48
abbrev Wy:Stmt:=top 60
abbrev NH:Stmt:=top 57
abbrev NJ:Stmt:=top 58
abbrev Jw:Stmt:=top 61
variable{P:Program}{K:ZBc}{fd:FuncData}
def ee{us:List α}(h:us.length=1):∃a,us=[a]:=by
 rcases us with _|⟨a,_|⟨b,us⟩⟩
 .cases h
 .exact⟨a,rfl⟩
 .cases h
def ln2{us:List α}(h:us.length=2):∃a b,us=[a,b]:=by
 rcases us with _|⟨a,us⟩
 .cases h
 .obtain⟨b,rfl⟩:=ee (PK h);exact⟨a,b,rfl⟩
def cN{us:List α}(h:us.length=3):∃a b c,us=[a,b,c]:=by
 rcases us with _|⟨a,us⟩
 .cases h
 .obtain⟨b,c,rfl⟩:=ln2 (PK h);exact⟨a,b,c,rfl⟩
def Y9{us:List α}(h:us.length=4):∃a b c d,us=[a,b,c,d]:=by
 rcases us with _|⟨a,us⟩
 .cases h
 .obtain⟨b,c,d,rfl⟩:=cN (PK h);exact⟨a,b,c,d,rfl⟩
def c9{us:List α}(h:us.length=5):∃a b c d e,us=[a,b,c,d,e]:=by
 rcases us with _|⟨a,us⟩
 .cases h
 .obtain⟨b,c,d,e,rfl⟩:=Y9 (PK h);exact⟨a,b,c,d,e,rfl⟩
def vG{us:List α}(h:us.length=6):∃a b c d e f,us=[a,b,c,d,e,f]:=by
 rcases us with _|⟨a,us⟩
 .cases h
 .obtain⟨b,c,d,e,f,rfl⟩:=c9 (PK h);exact⟨a,b,c,d,e,f,rfl⟩
local macro_rules | `(tactic| walk_at "bD1")=>`(tactic| (intro _ _ _ _ _ _ us hl;obtain⟨_,e⟩:=ee hl;subst e;rfl))
local macro_rules | `(tactic| walk_at "bD2")=>`(tactic| (intro _ _ _ _ _ _ us hl;obtain⟨_,_,e⟩:=ln2 hl;subst e;rfl))
local macro_rules | `(tactic| walk_at "bD3")=>`(tactic| (intro _ _ _ _ _ _ us hl;obtain⟨_,_,_,e⟩:=cN hl;subst e;rfl))
local macro_rules | `(tactic| walk_at "bD4")=>`(tactic| (intro _ _ _ _ _ _ us hl;obtain⟨_,_,_,_,e⟩:=Y9 hl;subst e;rfl))
local macro_rules | `(tactic| walk_at "bD5")=>`(tactic| (intro _ _ _ _ _ _ us hl;obtain⟨_,_,_,_,_,e⟩:=c9 hl;subst e;rfl))
local macro_rules | `(tactic| walk_at "bD6")=>`(tactic| (intro _ _ _ _ _ _ us hl;obtain⟨_,_,_,_,_,_,e⟩:=vG hl;subst e;rfl))
abbrev nS(K:ZBc)(x:Str)(v:Value):Prop:=PySem.W.nsIn K mainGlobals x=some (some v)
abbrev nN(K:ZBc)(x:Str):Prop:=PySem.W.nsIn K mainGlobals x=some none
open Fz
def ZWM(t:String):Lean.MacroM (Lean.TSyntax `tactic):=do
 let g:Lean.TSyntax `tactic←`(tactic| fail)
 let k←`(tactic| case wk=>rfl)
 let n (s:String):=`(tactic| walk_at $(Lean.quote s):str)
 (t.splitOn " ").foldrM (λs r=>do
  let l:=((s.drop 1).toString.splitOn "/").map λx=>Lean.mkIdent (`Fz++x.toName)
  let h:Lean.Ident:=l.getLast!
  let c:=s.front
  let w:=(h.getId.getString!.toLower.replace "o" "e").replace "i" "e"
  let z←if c=='j' then `($h ?wj ?wk ?_)else if c=='k'||c=='K' then `($h ?wk ?_)else `($h ?_)
  let z←l.dropLast.foldrM (λ(f:Lean.Ident)(z:Lean.Term)=>`($f ($z))) z
  let p←if c=='e' then `(tactic| show ∃_,_=$h _/\_)else if c=='s' then `(tactic| show $h _ _ _)else `(tactic| refine' $z)
  let p←if c=='K'||c=='R'||c=='j' then pure p else `(tactic| with_reducible $p:tactic)
  let q←if c=='e' then `(tactic| refine⟨_,rfl,?_⟩)else if c=='s' then n w else if c=='n' then n "wn" else if c=='p' then n "wp" else if c=='k'||c=='K' then pure k else if c=='j' then `(tactic| ((case wj=>rfl);$k:tactic))else `(tactic| skip)
  `(tactic| first|($p:tactic;$q:tactic) | $r:tactic)) g
local macro_rules | `(tactic| walk_at "wp")=>ZWM "kA1 rAZ rCT rME rEC rVT rFT rOl rCj rgd rTH rbG rSA kyh rYW rHy rCN rLO rYh rDX rcF rcH kmK rYG rud Kbq Kwz KfM KR0"
local macro_rules | `(tactic| walk_at "wn")=>ZWM "rIv rN0 rW7 KRN"
local macro_rules | `(tactic| walk_at "wq")=>do
 let z←ZWM "kMU kLJ kCt kCK"
 `(tactic| first | $z:tactic|(refine C8 (BM ?_);walk_at "wn")|(refine C8 ?_;walk_at "wp"))
local macro_rules | `(tactic| walk_at "wz")=>`(tactic| first
 | ((with_reducible refine' WB ?wk ?_);(case wk=>rfl))
 | (refine C6 (BM ?_);walk_at "wn")
 | (refine C6 ?_;walk_at "wp"))
local macro_rules | `(tactic| walk_at "wt")=>ZWM "rAz rHG rFN rQ3 rKS rUz"
local macro_rules | `(tactic| walk_at "we")=>ZWM "rBb rCk rVh rRL rZAG rwe rvD rC1"
local macro_rules | `(tactic| walk_at "w")=>do
 let z←ZWM "rAN rCu rBc rBN kOL kbM kZY nDk pCB kNC nJX pFA"
 let z1←ZWM "eOV.tp eOV.fz"
 let z2←ZWM "sWn sWq sWz sWt sWe sWo sWi"
 let z3←ZWM "ePV.int ePV.str ePV.bl"
 `(tactic| first | $z1:tactic|((with_reducible show ∃_ _,_=OV.nd NK.lst _ _/\_);refine⟨_,_,rfl,?_⟩)|((with_reducible show ∃_ _ _,_=PV.int _/\_/\_/\_);refine⟨_,_,_,rfl,rfl,rfl,?_⟩)|((with_reducible show Wp _ _ _);first|walk_at "wp" | (refine BM ?_;walk_at "wn")) | $z2:tactic|((with_reducible show Ws _ _ _ _);$z:tactic) | $z3:tactic|((with_reducible show(_:Bool)=_/\_);refine⟨rfl,?_⟩)|((with_reducible show ∃_ _,_=PV.int _/\L2.Bm _ _=some _/\_);refine⟨_,_,rfl,rfl,?_⟩)|((with_reducible show ∃_,(_=PV.lst _/\_)∨(_=PV.tup _/\_));first|refine⟨_,.inl ⟨rfl,?_⟩⟩|refine⟨_,.inr ⟨rfl,?_⟩⟩)|((with_reducible show ∃_,_=List.map _ _/\_);first|refine⟨_,rfl,?_⟩|refine⟨[],rfl,?_⟩|refine⟨_,Wk _ _ _ _,?_⟩))
local macro_rules | `(tactic| walk_at "ww")=>`(tactic| repeat walk_at "w")
local macro_rules | `(tactic| walk_at "z1")=>`(tactic| exact⟨rfl,rfl,rfl,by decide +kernel,rfl,by decide +kernel,by decide +kernel⟩)
local macro_rules | `(tactic| walk_at "z2")=>`(tactic| exact⟨rfl,by decide +kernel,by decide +kernel,rfl,rfl,by decide +kernel,by decide +kernel,by decide +kernel,by decide +kernel⟩)
def b6:BG ["pot","many","found"] ["pot","many"] (AX SH):=by walk_at "z1"
variable(O6:AE P w K mg Zj "_law_letters" 1 ["number"] (Zp))(Bd:AE P w K mg Zj "_law_take" 1 ["pot","many"] (KD))(By:mg "len"=none)(X3:AE P w K mg Zj "_law_name" 2 ["pot","names"] (ZS K))(Cz:mg "range"=none)(Sw:AE P w K mg Zj "_law_names" 3 ["pot","many"] (Tg))(Ki:mg "max"=none)(Fx:mg "tuple"=none)(Ht:AE P w K mg Zj "check_word" 1 ["words","word"] (Ac My))(Wd:mg "WHERES"=some (.ref JC))(TX:∀H,BC K H JC [.str "next",.str "last",.str "back",.str "first"])(MQ:mg "all"=none)(Ux:mg "LETTERS"=some (.str "abcdefghijklmnopqrstuvwxyz" SU))(U4:mg "MOST_LETTERS"=some (.int 8 Rt))(SV:AE P w K mg Zj "check_puts" 2 ["words","puts"] (Ac VH))(TL:AE P w K mg Zj "is_name" 1 ["text"] (UW))(TJ:mg "enumerate"=none)(SN:mg "MOST_KINDS"=some (.int 8 VJ))(Vd:mg "MOST_PUTS"=some (.int 6 Th))(X5:AE P w K mg Zj "check_kinds" 3 ["kinds"] (Ac XH))(Ef:Dh K A3)(Ql:Fe K A3 "goes_by_word")(GK:Fe K A3 "puts_by_word")(UH:Sa P w K mg Zj A3 4 ["self","kinds"] (C2 (WU A3)))(Ey:mg "list"=none)(V6:mg "Errands"=some (.ref A3))(Lk:AE P w K mg Zj "_law_comers" 1 ["kinds","word","rule"] (Ac RX))(Jh:AE P w K mg Zj "_law_reached" 2 ["kinds","some","rule"] (Ac QN))(IV:AE P w K mg Zj "_law_puts" 2 ["kinds","word","place"] (Ac P6))(DS:mg "sum"=none)(MK:J5 P w K mg Zj A3 "words" 1 ["self"] (Ac (RE A3)))(U7:mg "MOST_IN_CROWD"=some (.int 12 VR))(Kh:J5 P w K mg Zj A3 "puts" 2 ["self","word"] (Ac (Pq A3)))(Tz:mg "WHERES_AHEAD"=some (.ref JP))(XR:∀H,BC K H JP [.str "next",.str "last"])(OG:AE P w K mg Zj "comers_of" 3 ["book","word","rule"] (Ac (Rb A3)))(Vb:AE P w K mg Zj "way_and_ring" 14 ["book","crowd","rule"] (Ac (XD A3)))(MI:mg "Endless"=some (.ref B9))(Sn:Lz K B9 none=true)(Gv:AE P w K mg Zj "parts_of" 3 ["book","branch"] (Ac (Ku A3)))(S9:AE P w K mg Zj "check_crowd" 2 ["book","crowd"] (Ac (Ve A3)))(WD:G2 P w K mg Zj "check_ends" 15 ["book","crowd","rule"] (IC (TU A3 B9)))(Wr:mg "ValueError"=none)(Cg:mg "isinstance"=none)(To:mg "Full"=some (.ref EW))(UO:mg "Gone"=some (.ref FC))(UD:mg "NoLog"=some (.ref Ee))(Sy:mg "NoLoop"=some (.ref EU))(S6:mg "NoName"=some (.ref Ew))(XE:mg "NoOrders"=some (.ref EZ))(XB:mg "NoPlace"=some (.ref Ez))(SQ:mg "NoRow"=some (.ref En))(Um:mg "NoRule"=some (.ref Em))(VE:mg "NoText"=some (.ref EV))(TQ:mg "NoTicket"=some (.ref Ec))(Tq:mg "NoWhere"=some (.ref Eo))(VP:mg "Stale"=some (.ref Ek))(M4:mg "StirError"=some (.ref Dp))(VC:mg "There"=some (.ref Eh))(Sb:mg "TooMany"=some (.ref ET))(W4:AE P w K mg Zj "_law_alone" 1 ["e","place"] (Ac (TB K [Ew,Eh,FC,Ez,Em,Ee,Ek,Eo,EV,EW,ET,EU,Ec,B9,EZ,En] Dp)))(Kl:G2 P w K mg Zj "nth" 24 ["book","crowd","n"] (IC (Nk A3 B9)))(V9:PySem.W.exmOne K (.ref B9) (.ref Dp)=some true)(O9:Qx K [Ew,Eh,FC,Ez,Em,Ee,Ek,Eo,EV,EW,ET,EU,Ec,B9,EZ,En] Dp B9 13=true)(Ug:AE P w K mg Zj "_law_found" 3 ["kinds","sizes","some","d","n"] (Ac Tw))(Vy:AE P w K mg Zj "_law_book" 6 ["kinds"] (Ac (Vr A3)))(UR:AE P w K mg Zj "_law_crowd" 2 ["pot","kinds"] (Ac UM))(UY:AE P w K mg Zj "_law_due" 4 ["kinds","sizes","crowd","n"] (Ac V1))(Vl:AE P w K mg Zj "_law_kinds" 4 ["pot"] (Ac WM))(W8:AE P w K mg Zj "_law_only" 3 ["kinds","crowd"] (Ac Wc))(Ox:AE P w K mg Zj "_law_pot" 1 ["script","k"] (Nl K))(RI:AE P w K mg Zj "_law_refused" 25 ["book","crowd","n"] (Ac (Uv A3)))(UT:AE P w K mg Zj "_law_rings" 3 ["kinds","crowd","rule"] (Ac WK))(Vc:AE P w K mg Zj "_law_sizes" 3 ["kinds","waves"] (Ac Wv))(XF:mg "min"=none)(Tp:mg "str"=none)
def jB(F:AO K "_law_take" "_law_take" SH f fd)(m:mg "_law_take"=some (.ref f)):
  AE P w K mg Zj "_law_take" 1 ["pot","many"] (KD):=by
 refine AE.mk F (F.binds (by walk_at "bD2")) m (F.BX (k:=0) b6 (λvs H Q E h=>?_) (λAY A outer s H vs Q E t h=>?_))
 .obtain⟨p,m,rfl,⟨a,b,e,a0,g,b0,o⟩,d,j,q⟩:=h;rfl
 obtain⟨p,m,rfl,⟨a,b,e,a0,g,b0,o⟩,d,j,q⟩:=h;refine⟨_,(AB rfl (B8 (An O2 (Ad CJ (qv 0) A8) A8) (AB rfl (AR 2 b6.nd (Ai Hw (Ad CJ (qv 0) A8) (qv 1)))
   (AB rfl (Xy (Ai UL (Ad CJ (qv 0) A8) (qv 1)) (ZV (qv 0) A8 set_list))
   (AH rfl (B0 (qv 2))))) BF)
   (AB rfl (Xy (Ai Hw (Ai FI (Ai Jd (Ad CJ (qv 0) A8) A8) A8) A8) (ZV (qv 0) A8 set_list))
   (AH rfl (B0 (Ai Hw (Ai UL (Ai Hw (Ai Jd (Ad CJ (qv 0) A8) (Ad CJ (qv 0) A8)) A8) A8) (qv 1)))))),?_⟩
 refine⟨_,rfl,p,_,_,_,rfl,rfl,AQ.of e,rfl,_,_,rfl,rfl,_,rfl,?_⟩;refine BY (λc=>?_) (λc=>?_)
 .have u:0<a:=jG c;refine⟨_,rfl,p,_,_,_,rfl,rfl,AQ.of e,rfl,_,rfl,_,_,rfl,rfl,d,?_⟩;refine⟨_,rfl,p,_,_,_,rfl,rfl,AQ.of e,rfl,_,rfl,_,_,rfl,rfl,⟨d,pk d j⟩,?_⟩;refine⟨_,rfl,p,_,_,_,rfl,rfl,e,rfl,?_⟩;refine⟨_,rfl,?_⟩;refine q _ _ (JZ _ (by omega)) (Kx _ d) ⟨⟨a / m,b,Al,Int.ediv_nonneg a0 (by omega),XZ (Int.ediv_le_self _ a0) g,b0,o⟩,Fs.upd⟩
 .refine⟨_,rfl,p,_,_,_,rfl,rfl,AQ.of e,rfl,_,_,rfl,rfl,⟨OW (by omega) (by omega),by decide +kernel⟩,_,_,rfl,rfl,_,_,rfl,rfl,(by show(0:Int)<2147483647;decide),?_⟩;refine⟨_,rfl,p,_,_,_,rfl,rfl,e,rfl,?_⟩;have l:0<=(b * 69621+12345) % 2147483647:=JZ _ (by decide);have n:(b * 69621+12345) % 2147483647<2147483647:=Kx _ (by decide);generalize r:(b * 69621+12345) % 2147483647=b' at l n;have i:(upd H p (.lst [.int a,.int ((b * 69621+12345) % 2147483647)])) p=some (.lst [.int a,.int b']):=by rw[Al,r]
  refine⟨_,rfl,p,_,_,_,rfl,rfl,AQ.of i,rfl,_,rfl,p,_,_,_,rfl,rfl,AQ.of i,rfl,_,_,rfl,rfl,⟨OW (by omega) (by omega),OW (by omega) (by omega)⟩,_,_,rfl,rfl,(by show(0:Int)<2147483629;decide),?_⟩;refine⟨_,_,rfl,rfl,⟨(by show(0:Int)<64;decide),by decide +kernel⟩,_,rfl,_,_,rfl,rfl,d,?_⟩;exact q _ _ (JZ _ (by omega)) (Kx _ d) ⟨⟨a,b',i,a0,g,l,n⟩,Fs.upd⟩
def R4:BG ["number","word"] ["number"] (AX WQ):=by walk_at "z1"
def uI(F:AO K "_law_letters" "_law_letters" WQ f fd)(m:mg "_law_letters"=some (.ref f)):
  AE P w K mg Zj "_law_letters" 1 ["number"] (Zp):=by
 refine AE.mk F (F.binds (by walk_at "bD1")) m (F.BX (k:=0) R4 (λvs H Q E h=>?_) (λAY A outer s H vs Q E x h=>?_))
 .obtain⟨r,rfl,j,p,q⟩:=h;rfl
 obtain⟨r,rfl,j,p,q⟩:=h;refine⟨_,(AB rfl (AR 1 R4.nd Ar)
   (AB rfl (Bq (LD Cp (Sf (An Cc (qv 1) Ar) (Uh (An O2 (qv 0) A8))).pt (AB rfl (AR 1 R4.nd (Ai cY (qv 1) (Ad tK Ar (Ai Hw (qv 0) A8))))
   (AH rfl (AR 0 R4.nd (Ai UL (qv 0) A8))))))
   (AH rfl (B0 (qv 1))))),?_⟩
 obtain⟨n,rfl⟩:=Rf j;have l:n<26 ^ 8:=by omega
 rw[Gp]at q;refine⟨λσ' H'=>∃v,σ'=[some v,some (.str (Cw (MA.lets n)))]/\H=H',?_,?_⟩
 .refine⟨λm σ' H'=>∃(k:Nat)(pre:List Nat),σ'=[some (.int k),some (.str (Cw pre))]/\H=H'/\((pre=[]/\k=n/\m=n+2)∨(pre≠[]/\m=k+1/\(0<k->pre++MA.lets k=MA.lets n)/\(k=0->pre=MA.lets n))),⟨n+2,n,[],rfl,rfl,.inl ⟨rfl,rfl,rfl⟩⟩,?_⟩;rintro m σ' H'⟨k,pre,rfl,rfl,o⟩;refine⟨_,rfl,rfl,_,rfl,?_⟩;refine BY (λc=>xg ?_) (λc=>⟨_,rfl,_,_,rfl,rfl,_,rfl,?_⟩)
  .have d:pre=[]:=aN.mp (jG c);obtain⟨_,hk,t⟩|⟨h,_⟩:=o
   .have b:pre++MA.lets k=MA.lets n:=by rw[d,hk];rfl
    have a:pre.length+1<=8:=by
     have h1:=k9 List.length b;rw[Bj]at h1;have h2:=MA.Qp 7 n l;have u:=MA.Vp k;omega
    refine⟨λσ' H'=>σ'=[some (.int ((k:Int) / 26)),some (.str (Cw pre++⟨#[97+((k:Int) % 26).toNat]⟩))]/\H=H',?_,?_⟩
    .rintro σ' H'⟨rfl,rfl⟩;have nx:=ZI b;have g:((k:Int) % 26).toNat=k % 26:=by omega
     have e:(k:Int) / 26=((k / 26:Nat):Int):=by omega
     exact⟨k / 26+1,by omega,k / 26,pre++[97+k % 26],by rw[g,e,Yz],rfl,.inr ⟨by simp,rfl,nx.1,nx.2⟩⟩
    .refine⟨_,rfl,_,rfl,_,_,rfl,rfl,(by show(0:Int)<26;decide),_,_,_,rfl,rfl,(by decide +kernel),Z3 (JZ _ (by decide)) (Kx _ (by decide)),_,_,rfl,rfl,?_,?_⟩
     .rw[Q0];exact small (show pre.length+1<=_ by omega)
     .exact⟨_,rfl,_,_,rfl,rfl,⟨(by show(0:Int)<26;decide),by decide +kernel⟩,rfl,rfl⟩
   .exact absurd d h
  .have d:pre≠[]:=λh=>c (jE (aN.mpr h));obtain⟨h,_⟩|⟨_,t,h1,h2⟩:=o
   .exact absurd h d
   refine BY (λi=>?_) (λi=>?_)
   .have hk:0<k:=by have:(0:Int)<k:=jG i;omega
    have b:=h1 hk;have a:pre.length+1<=8:=by
     have h1:=k9 List.length b;rw[Bj]at h1;have h2:=MA.Qp 7 n l;have u:=MA.Vp k;omega
    refine⟨λσ' H'=>σ'=[some (.int ((k:Int) / 26)),some (.str (Cw pre++⟨#[97+((k:Int) % 26).toNat]⟩))]/\H=H',?_,?_⟩
    .rintro σ' H'⟨rfl,rfl⟩;have nx:=ZI b;have g:((k:Int) % 26).toNat=k % 26:=by omega
     have e:(k:Int) / 26=((k / 26:Nat):Int):=by omega
     exact⟨k / 26+1,by omega,k / 26,pre++[97+k % 26],by rw[g,e,Yz],rfl,.inr ⟨by simp,rfl,nx.1,nx.2⟩⟩
    .refine⟨_,rfl,_,rfl,_,_,rfl,rfl,(by show(0:Int)<26;decide),_,_,_,rfl,rfl,(by decide +kernel),Z3 (JZ _ (by decide)) (Kx _ (by decide)),_,_,rfl,rfl,?_,?_⟩
     .rw[Q0];exact small (show pre.length+1<=_ by omega)
     .exact⟨_,rfl,_,_,rfl,rfl,⟨(by show(0:Int)<26;decide),by decide +kernel⟩,rfl,rfl⟩
   .have hk:k=0:=by
     have:¬ (0:Int)<k:=λz=>i (jE z);omega
    exact⟨_,by rw[h2 hk],rfl⟩
 .rintro σ' H'⟨v,rfl,rfl⟩;exact⟨_,rfl,q _ (AJ.refl _)⟩
def Fo:BG ["pot","names","some","way","name","number"] ["pot","names"] (AX TZ):=by walk_at "z1"
def md(F:AO K "_law_name" "_law_name" TZ f fd)(m:mg "_law_name"=some (.ref f)):
  AE P w K mg Zj "_law_name" 2 ["pot","names"] (ZS K):=by
 have Bd:=Fz.AE.Wj Bd;refine AE.mk F (F.binds (by walk_at "bD2")) m (F.BX (k:=1) Fo (λvs H Q E h=>?_) (λAY A outer s H vs Q E g h=>?_))
 .obtain⟨p,q,ns,rfl,X,u,BE,σ,hL,K1⟩:=h;rfl
 obtain⟨p,q,ns,rfl,X,u,BE,σ,hL,K1⟩:=h;refine⟨_,(AB rfl (AR 2 Fo.nd (D4 (A0 Ar (A0 Ar (A0 Ar (A0 Ar (A0 Ar (A0 Ar (A0 Ar (A0 Ar (A0 Ar (A0 Ar (A0 Ar (A0 Ar (A0 Ar A6)))))))))))))))
   (AB rfl (AR 3 Fo.nd (Ab Bd g (A0 (qv 0) (A0 A8 A6))))
   (AB rfl (AR 4 Fo.nd (Ad BL (qv 2) (Ab Bd g (A0 (qv 0) (A0 A8 A6)))))
   (AB rfl (Bq (B8 (An Cc (qv 3) A8) (AH rfl (AR 4 Fo.nd (Ab O6 g (A0 (Ab Bd g (A0 (qv 0) (A0 (Ai Gn (Ai J1 A8 A8) A8) A6))) A6)))) BF))
   (AB rfl (Bq (B8 (Oi (An Cc (qv 3) A8) (OZ (An (Qk g.P5) (qv 1) (Ds A6)))).pt (AB rfl (AR 4 Fo.nd (Ad CJ (qv 1) (Ab Bd g (A0 (qv 0) (A0 (B7 Pb By (A0 (qv 1) A6)) A6)))))
   (AH rfl (AR 4 Fo.nd (O3 dY (Ai cY (qv 4) (Ab O6 g (A0 (Ab Bd g (A0 (qv 0) (A0 A8 A6))) A6))) Oc (LQ A8))))) BF))
   (AB rfl (Bq (B8 (Oi (An Cc (qv 3) A8) (OZ (An (Qk g.P5) (qv 1) (Ds A6)))).pt (AB rfl (AR 4 Fo.nd (Ad CJ (qv 1) (Ab Bd g (A0 (qv 0) (A0 (B7 Pb By (A0 (qv 1) A6)) A6)))))
   (AH rfl (AR 4 Fo.nd (O3 dY (qv 4) Oc (LQ (Ai FI A8 (Ab Bd g (A0 (qv 0) (A0 (B7 fv By (A0 (qv 4) A6)) A6))))))))) BF))
   (AB rfl (AR 5 Fo.nd A8)
   (AB rfl (Bq (LD Cp (An Ir (qv 4) (qv 1)) (AB rfl (AR 4 Fo.nd (Ab O6 g (A0 (qv 5) A6)))
   (AH rfl (AR 5 Fo.nd (Ai FI (qv 5) A8))))))
   (AH rfl (B0 (qv 4))))))))))),?_⟩
 have G:(ns.map V.str).length=ns.length:=AA _;have u:AQ K H q (ns.map V.str):=AQ.of u;refine⟨(by show 13<=sizeLine;decide +kernel),λo L9=>?_⟩;have Fc:o≠p:=by
  obtain⟨_,_,e,_⟩:=X;exact(Cy e L9).symm
 have g0:Bh p H (upd H o (.tup Pj)):=Bh.of X (DG L9 _);refine⟨_,rfl,p,4,rfl,g0.AK,by decide,by decide,λd H1 w0 w1 U=>?_⟩;refine⟨_,rfl,_,rfl,p,13,rfl,U.AK,by decide,by decide,λi H2 i0 i1 s2=>?_⟩;have h2:H2 o=some (.tup Pj):=s2.at' (U.at' Al Fc) Fc;obtain⟨x,hx,nx⟩:=j5 i0 i1;refine⟨o,_,_,_,rfl,rfl,BC.of h2,hx,?_⟩;have R:=g0.trans (U.trans s2);refine⟨λσ' H'=>∃x,σ'=[some (.ref p),some (.ref q),some (.ref o),some (.int d),some (.str x),none]/\Nm x/\Bh p H H',?_,?_⟩
 .refine⟨_,rfl,rfl,_,rfl,?_⟩;refine BY (λc=>?_) (λc=>?_)
  .refine⟨_,rfl,_,_,rfl,rfl,⟨by decide,by decide,by decide +kernel⟩,_,_,rfl,rfl,p,_,rfl,R.AK,lV,kD,λr H3 D N s3=>?_⟩;have J:r<26 ^ 8:=gq N mG;exact⟨r,rfl,D,J,λH4 s4=>⟨_,rfl,Tb (Zs D J),(R.trans s3).trans (Bh.of s3.AK s4)⟩⟩
  .exact⟨x,rfl,nx,R⟩
 clear h2 hx nx s2 R i0 i1;rintro σ' H3⟨y,rfl,t,l⟩;refine⟨λσ' H'=>∃x,σ'=[some (.ref p),some (.ref q),some (.ref o),some (.int d),some (.str x),none]/\Nm x/\Bh p H H',?_,?_⟩
 .refine⟨_,rfl,rfl,_,rfl,?_⟩;refine BY (λc=>?_) (λc=>NO ⟨y,rfl,t,l⟩);refine⟨_,rfl,(by show 0<=sizeLine;decide),λe Y=>?_⟩;have b:=l.trans (Bh.of l.AK (DG Y (.lst [])));have M:=b.Nn u BE;refine⟨q,e,_,[],rfl,rfl,.inl ⟨M,AQ.of Al⟩,KZ ns,rfl,_,rfl,?_⟩;rw[Yr];refine BY (λL=>?_) (λL=>⟨y,rfl,t,b⟩);have MR:0<ns.length:=by
   cases ns with
   |nil=>simp at L
   |cons a r=>simp
  refine⟨_,rfl,_,rfl,_,rfl,q,_,rfl,.inl M,p,_,rfl,b.AK,(by rw[G];omega),(by rw[G];omega),λi H5 i0 i1 T=>?_⟩;rw[G]at i1;have C:=b.trans T;obtain⟨z,W,WS,_⟩:=fN i0 i1;have B:=σ z WS;refine⟨q,_,_,_,rfl,rfl,C.Nn u BE,W,?_⟩;refine⟨_,rfl,_,rfl,p,26,rfl,C.AK,by decide,by decide,λr H6 D N S=>?_⟩;have O:=C.trans S;have J:r<26 ^ 8:=gq N iG;refine⟨r,rfl,D,J,λH7 s7=>?_⟩;have O:=O.trans (Bh.of O.AK s7);have nl:=Tb (n:=r.toNat) (Zs D J);have hlen:z.length+(Cw (MA.lets r.toNat)).length<=16:=by have:=B.2.1;have:=nl.2.1;omega
  refine⟨_,_,rfl,rfl,small (by omega),?_⟩;refine⟨_,rfl,_,rfl,small (by rw[cD];omega),?_⟩;refine⟨_,rfl,er (by decide) (by decide) (by rw[cD];have:=B.1;omega) (λc I=>?_),O⟩;rw[aJ]at I;rcases List.mem_append.mp I with I|I
  .exact B.2.2 c I
  .exact nl.2.2 c I
 clear t l;rintro σ' H3⟨y,rfl,t,l⟩;refine⟨λσ' H'=>∃x,σ'=[some (.ref p),some (.ref q),some (.ref o),some (.int d),some (.str x),none]/\Nm x/\Bh p H H',?_,?_⟩
 .refine⟨_,rfl,rfl,_,rfl,?_⟩;refine BY (λc=>?_) (λc=>NO ⟨y,rfl,t,l⟩);refine⟨_,rfl,(by show 0<=sizeLine;decide),λe Y=>?_⟩;have b:=l.trans (Bh.of l.AK (DG Y (.lst [])));have M:=b.Nn u BE;refine⟨q,e,_,[],rfl,rfl,.inl ⟨M,AQ.of Al⟩,KZ ns,rfl,_,rfl,?_⟩;rw[Yr];refine BY (λL=>?_) (λL=>⟨y,rfl,t,b⟩);have MR:0<ns.length:=by
   cases ns with
   |nil=>simp at L
   |cons a r=>simp
  refine⟨_,rfl,_,rfl,_,rfl,q,_,rfl,.inl M,p,_,rfl,b.AK,(by rw[G];omega),(by rw[G];omega),λi H5 i0 i1 T=>?_⟩;rw[G]at i1;have C:=b.trans T;obtain⟨z,W,WS,_⟩:=fN i0 i1;have B:=σ z WS;refine⟨q,_,_,_,rfl,rfl,C.Nn u BE,W,?_⟩;have oU:=B.1;have Mp:=B.2.1;refine⟨_,rfl,_,rfl,_,rfl,_,rfl,small (by omega),p,_,rfl,C.AK,(by omega),(by omega),λr H6 D N S=>?_⟩;refine⟨_,_,rfl,rfl,_,rfl,_,rfl,small (by omega),?_⟩;exact⟨_,rfl,er (by omega) (by omega) oU B.2.2,C.trans S⟩
 clear t l;rintro σ' H3⟨y,rfl,t,l⟩;refine⟨λσ' H'=>∃x v,σ'=[some (.ref p),some (.ref q),some (.ref o),some (.int d),some (.str x),some v]/\Nm x/\x∉ns/\Bh p H H',?_,?_⟩
 .refine⟨λm σ' H'=>∃(k:Nat)(x:Str),σ'=[some (.ref p),some (.ref q),some (.ref o),some (.int d),some (.str x),some (.int k)]/\Bh p H H'/\Nm x/\m=ns.length+1 - k/\k<=ns.length+1/\(0<k->x=Cw (MA.lets (k - 1)))/\(∀j,j+1<k->Cw (MA.lets j)∈ns),
   ⟨ns.length+1,0,y,rfl,l,t,rfl,CA _,λh=>absurd h (by decide),λj h=>absurd h (by omega)⟩,?_⟩
  rintro m σ' H'⟨k,x,rfl,b,nx,rfl,hk,hx,hj⟩;refine⟨_,rfl,_,rfl,q,_,rfl,.inl (b.Nn u BE),rfl,KZ ns,_,rfl,?_⟩;rw[ib (by decide),VI];refine BY (λc=>?_) (λc=>⟨x,_,rfl,nx,λz=>c (jE z),b⟩);have Lo:x∈ns:=jG c;have JG:∀j,j<k->Cw (MA.lets j)∈ns:=λj NV=>by
   by_cases e:j+1<k
   .exact hj j e
   .have e2:j=k - 1:=by omega
    rw[e2,<- hx (by omega)];exact Lo
  have RP:=lr JG;refine⟨λσ' H'=>σ'=[some (.ref p),some (.ref q),some (.ref o),some (.int d),some (.str (Cw (MA.lets k))),some (.int ((k:Int)+1))]/\Bh p H H',?_,?_⟩
  .rintro σ' H'⟨rfl,b⟩;exact⟨ns.length+1 - (k+1),by omega,k+1,Cw (MA.lets k),rfl,b,Tb (Mg (CU RP hL) iR),rfl,by omega,λ_=>rfl,λj NV=>JG j (by omega)⟩
  .refine⟨_,rfl,k,rfl,by omega,?_,λH4 s4=>?_⟩
   .have:(k:Int)<=1000:=by omega
    exact XZ this oC
   .rw[Gp];exact⟨_,rfl,_,_,rfl,rfl,rfl,b.trans (Bh.of b.AK s4)⟩
 rintro σ' H'⟨x,v,rfl,nx,hx,b⟩;exact⟨_,rfl,K1 x H' nx hx b⟩
def Vk:BG ["pot","many","names","k"] ["pot","many"] (AX VB):=by walk_at "z1"
def xA(F:AO K "_law_names" "_law_names" VB f fd)(m:mg "_law_names"=some (.ref f)):
  AE P w K mg Zj "_law_names" 3 ["pot","many"] (Tg):=by
 refine AE.mk F (F.binds (by walk_at "bD2")) m (F.BX (k:=2) Vk (λvs H Q E h=>?_) (λAY A outer s H vs Q E u h=>?_))
 .obtain⟨p,m,rfl,j,r,o,q⟩:=h;rfl
 obtain⟨p,m,rfl,j,r,o,q⟩:=h;refine⟨_,(AB rfl (AR 2 Vk.nd (Ds A6))
   (AB rfl (Bq (DT Cp rfl (KH rfl Cz (A0 (qv 1) A6)) (CQ 3 Vk.nd) (AH rfl (DK (G8 Fn Mi Mj Ju (qv 2) (A0 (Ab X3 u (A0 (qv 0) (A0 (qv 2) A6))) A6))))))
   (AH rfl (B0 (qv 2))))),?_⟩
 refine⟨(by show 0<=sizeLine;decide),λl c=>?_⟩;have d:=j.ne c;refine⟨λσ' H'=>∃(ns:List Str)(v:Option V),σ'=[some (.ref p),some (.int m),some (.ref l),v]/\Bh p H H'/\H' l=some (.lst (ns.map V.str))/\(ns.length:Int)=m/\(∀x∈ns,Nm x)/\ns.Nodup,?_,?_⟩
 .refine⟨_,rfl,m,rfl,by omega,by omega,jA (n:=m.toNat) (λi σ' H'=>∃(ns:List Str)(v:Option V),σ'=[some (.ref p),some (.int m),some (.ref l),v]/\Bh p H H'/\H' l=some (.lst (ns.map V.str))/\ns.length=i/\(∀x∈ns,Nm x)/\ns.Nodup) ?_ ?_ ?_⟩
  .exact⟨[],none,rfl,(Bh.of j (AJ.refl H)).upd c d,Al,rfl,λx hx=>absurd hx (by simp),by simp⟩
  .rintro i σ' H' hi⟨ns,v,rfl,g,e,a,b,nd⟩;refine⟨_,rfl,.inl ⟨rfl,_,AQ.of e⟩,_,rfl,_,rfl,p,l,ns,rfl,g.AK,e,d,b,by omega,λx H2 nx hx s2=>?_⟩;refine⟨l,_,_,rfl,rfl,s2.at' e d,Mg (m:=100) (by rw[AA];omega) (by decide +kernel),?_⟩;refine⟨ns++[x],_,rfl,(g.trans s2).upd c d,by rw[Al,Bn];rfl,by rw[Bj];simp[a],λy t=>?_,N2 nd hx⟩;rcases List.mem_append.mp t with h|h
   .exact b y h
   .have:y=x:=by simpa using h
    rw[this];exact nx
  .rintro σ' H'⟨ns,v,rfl,g,e,a,b,nd⟩;exact⟨ns,v,rfl,g,e,by omega,b,nd⟩
 rintro σ' H'⟨ns,v,rfl,g,e,a,b,nd⟩;exact⟨_,rfl,q l H' ns c g e a b nd⟩
def GL:BG ["pot","many","words","shape","kinds","k","puts","j","where","kind"] ["pot"] (AX SI):=by walk_at "z1"
def Zx : ∀ss R,WM ss R->ss.length=1:=by rintro _ _⟨rfl,rfl⟩;rfl
def oH(F:AO K "_law_kinds" "_law_kinds" SI f fd)(m:mg "_law_kinds"=some (.ref f)):
  AE P w K mg Zj "_law_kinds" 4 ["pot"] (Ac WM):=by
 have Bd:=Fz.AE.Wj Bd;refine AE.mk F (F.binds (by walk_at "bD1")) m (F.BX (k:=3) GL (λvs H Q E h=>Fz.Cs Zx h) (λAY A outer s H vs Q E l h=>?_))
 refine⟨_,(AB rfl (AR 1 GL.nd (Ai FI A8 (Ab Bd l (A0 (qv 0) (A0 A8 A6)))))
   (AB rfl (AR 2 GL.nd (Ab Sw l (A0 (qv 0) (A0 (qv 1) A6))))
   (AB rfl (AR 3 GL.nd (Ab Bd l (A0 (qv 0) (A0 A8 A6))))
   (AB rfl (AR 4 GL.nd (Ds A6))
   (AB rfl (Bq (DT Cp rfl (KH rfl Cz (A0 (qv 1) A6)) (CQ 5 GL.nd) (AB rfl (AR 6 GL.nd (Ds A6))
   (AB rfl (Bq (DT Cp rfl (KH rfl Cz (A0 (Ad BL (D4 (A0 A8 (A0 A8 (A0 A8 (A0 A8 (A0 A8 (A0 A8 (A0 A8 A6)))))))) (Ab Bd l (A0 (qv 0) (A0 A8 A6)))) A6)) (CQ 7 GL.nd) (AB rfl (AR 8 GL.nd (Ad BL (D4 (A0 Ar (A0 Ar (A0 Ar (A0 Ar A6))))) (Ab Bd l (A0 (qv 0) (A0 A8 A6)))))
   (AB rfl (AR 9 GL.nd (Ab Bd l (A0 (qv 0) (A0 (qv 1) A6))))
   (AB rfl (Bq (B8 (An MC (qv 3) A8) (AH rfl (AR 9 GL.nd (Ai FI (Ai FI (qv 5) A8) (Ai Hw (qv 9) (B7 (Vw rfl) Ki (A0 A8 (A0 (Ai Gn (Ai Gn (qv 1) A8) (qv 5)) A6))))))) BF))
   (AH rfl (B8 (An MC (qv 9) (qv 1)) (AH rfl (DK (G8 Fn Mi Mj Ju (qv 6) (A0 (D4 (A0 (qv 8) (A0 (Ad CJ (qv 2) (qv 9)) A6))) A6)))) BF)))))))
   (AH rfl (DK (G8 Fn ZAx PySem.F.type_list_insert yY (qv 4) (A0 (Ab Bd l (A0 (qv 0) (A0 (Ai FI (qv 5) A8) A6))) (A0 (D4 (A0 (Ad CJ (qv 2) (qv 5)) (A0 (IT PM Fx (A0 (qv 6) A6)) (A0 (RT Cc (Ab Bd l (A0 (qv 0) (A0 A8 A6))) A8) A6)))) A6)))))))))
   (AH rfl (B0 (qv 4)))))))),?_⟩
 refine Fz.Cq h Zx ?_;rintro _ _⟨rfl,rfl⟩;show Ws [_,.any,.any,.any,.any,.any,.any,.any,.any,.any] _ _ _
 walk_at "ww"
 refine⟨by decide,by decide,λr a1 b1=>⟨_,rfl,?_⟩⟩;obtain⟨n,rfl⟩:=Rf a1;refine AN (Dk (yG rfl (A1 rfl ⟨_,rfl,by omega,by omega,λws hl hN nd=>?_⟩)));refine G7 2 rfl ?_
 walk_at "ww"
 refine⟨by decide,by decide,λD s0 s1=>?_⟩
 walk_at "ww"
 refine⟨by decide,?_⟩;refine AN (Cu (Dz (λ_ i A7=>∃(ks:List Kd)(I G g d b:Slot),A7=[.AK,.is (.int (1+(n:Int))),.is (.lst (ws.map .str)),.is (.int D),.own (ks.map Kd.P),I,G,g,d,b]/\(wk ks).Perm (ws.take i)/\∀k∈ks,k.ps.length<=6/\∀p∈k.ps,p.1∈WH/\p.2∈ws) ?_))
 walk_at "ww"
 rw[HW];refine⟨by omega,by omega,⟨[],_,_,_,_,_,rfl,.refl _,λk hk=>absurd hk Af⟩,?_,?_⟩
 .rintro k p A7 u⟨ks,I,G,g,d,b,rfl,v,ok⟩;obtain⟨hk,rfl⟩:=Nr u;have V:=v.length_eq;rw[AA,FD]at V;refine FY ?_
  walk_at "ww"
  refine⟨by decide,?_⟩;refine AN (Cu (Dz (λ_ j A7=>∃(a:List (Str×Str))(g d b:Slot),A7=[.AK,.is (.int (1+(n:Int))),.is (.lst (ws.map .str)),.is (.int D),.own (ks.map Kd.P),.is (.int k),.own (a.map Ay),g,d,b]/\a.length<=j/\∀q∈a,q.1∈WH/\q.2∈ws) ?_))
  walk_at "ww"
  refine⟨by decide,_,.inr ⟨rfl,rfl,?_⟩⟩
  walk_at "ww"
  refine⟨by decide,by decide,λt W t1=>?_⟩;obtain⟨m,hm,lm⟩:=yr W t1;refine⟨_,_,rfl,hm,_,rfl,by omega,by omega,?_⟩;rw[HW,Gp];refine⟨⟨[],_,_,_,rfl,Ae _,λq J=>absurd J Af⟩,?_,?_⟩
  .rintro j p A7 u⟨a,g,d,b,rfl,σ,y⟩;obtain⟨hj,rfl⟩:=Nr u;refine FY ?_
   walk_at "ww"
   refine⟨by decide,_,.inr ⟨rfl,rfl,?_⟩⟩
   walk_at "ww"
   refine⟨by decide,by decide,λt2 R N=>?_⟩;obtain⟨C,U,k6⟩:=vk R N;refine⟨_,_,rfl,k6,?_⟩
   walk_at "ww"
   refine⟨by omega,aL (by omega),λo a3 b3=>?_⟩;refine MJ (λA7=>∃o:Int,A7=[.AK,.is (.int (1+(n:Int))),.is (.lst (ws.map .str)),.is (.int D),.own (ks.map Kd.P),.is (.int k),.own (a.map Ay),.is (.int j),.is (.str C),.is (.int o)]/\0<=o) ?_ ?_
   .walk_at "ww"
    refine BY (λc=>?_) (λc=>BN ⟨o,rfl,a3⟩)
    walk_at "ww"
    have S:0<(if 1+(n:Int) - 1 - k > 1 then 1+(n:Int) - 1 - k else 1):=by split <;> omega
    have ZBQ:=JZ o (Int.ne_of_gt S);exact⟨S,_,rfl,_,rfl,by omega⟩
   rintro _⟨o,rfl,k0⟩
   walk_at "ww"
   refine BY (λc=>?_) (λc=>BN ⟨a,_,_,_,rfl,by omega,y⟩);have c':=jG c;obtain⟨x,rfl⟩:=Rf k0;have T:x<ws.length:=by omega
   have L:L2.Bm (ws.map PV.str) (x:Int)=some (.str ws[x]):=M7 (by omega) (by rw[Gp,Am,Ah T];rfl);refine OL rfl (DX ?_)
   walk_at "ww"
   refine⟨_,_,rfl,L,?_⟩
   walk_at "ww"
   refine⟨by show 2<=100000;decide,by rw[AA];omega,a++[(C,ws[x])],.is (.int j),.is (.str C),.is (.int x),?_,?_,?_⟩
   .rw[Bn];rfl
   .rw[Bj,Il];omega
   .intro q J;rcases List.mem_append.mp J with z|z
    .exact y q z
    .rw[List.mem_singleton.mp z];exact⟨U,Ky T⟩
  .rintro A7⟨a,g,d,b,rfl,σ,y⟩;have O:k<ws.length:=by omega
   have L:L2.Bm (ws.map PV.str) (k:Int)=some (.str ws[k]):=M7 (by omega) (by rw[Gp,Am,Ah O];rfl);refine bM rfl ?_
   walk_at "ww"
   refine⟨by omega,aL (by omega),λM a9 b9=>⟨_,rfl,a9,by rw[AA];omega,?_⟩⟩;refine DX ?_
   walk_at "ww"
   refine⟨_,_,rfl,L,?_⟩
   walk_at "ww"
   refine⟨by decide,by decide,λX R N=>?_⟩
   walk_at "ww"
   refine⟨by show 3<=100000;decide,by rw[AA];omega,ks.take M.toNat++⟨ws[k],a,alike (.int X) (.int 1)⟩ :: ks.drop M.toNat,.is (.int k),.own (a.map Ay),g,d,b,?_,?_,?_⟩
   .rw[<- Xh,<- hV,Bn];rfl
   .rw[Ro O];show(List.map Kd.w (_++_::_)).Perm _;rw[Bn,Aq,Xh,hV];refine(List.perm_middle.trans (List.Perm.cons _ ?_)).trans (List.perm_append_comm (l₁:=[ws[k]]));rw[List.take_append_drop];exact v
   .intro kk Y;rcases List.mem_append.mp Y with z|z
    .exact ok kk (i3 z)
    .rcases List.mem_cons.mp z with z|z
     .rw[z];exact⟨by show a.length<=6;omega,y⟩
     .exact ok kk (List.mem_of_mem_drop z)
 .rintro A7⟨ks,I,G,g,d,b,rfl,v,ok⟩;refine G7 4 rfl ?_;have B:(wk ks).Perm ws:=by
   have e:ws.take (1+(n:Int)).toNat=ws:=Me (by omega);rw[e]at v;exact v
  have ll:=B.length_eq;rw[AA]at ll;refine FA (A1 rfl ⟨ks,rfl,by omega,by omega,B.nodup_iff.mpr nd,λk hk=>hN _ (B.mem_iff.mp (List.mem_map.mpr ⟨k,hk,rfl⟩)),λk hk=>⟨(ok k hk).1,λp u=>⟨((ok k hk).2 p u).1,B.mem_iff.mpr ((ok k hk).2 p u).2⟩⟩⟩)
def uS:BG ["words","word"] ["words","word"] (AX T5):=by walk_at "z1"
def ZN : ∀ss R,My ss R->ss.length=2:=by rintro _ _⟨ws,d,x,rfl,_,_,_,rfl⟩;rfl
def jW(F:AO K "check_word" "check_word" T5 f fd)(m:mg "check_word"=some (.ref f)):
  AE P w K mg Zj "check_word" 1 ["words","word"] (Ac My):=by
 refine AE.mk F (F.binds (by walk_at "bD2")) m (F.BX (k:=0) uS (λvs H Q E h=>Fz.Cs ZN h) (λAY A outer s H vs Q E a h=>?_))
 refine⟨_,(AH rfl (B8 (uY (aX (Dc a) (qv 1) (qv 0)) (eE TF (qv 1) (qv 0) (by with_unfolding_all rfl))) (AH rfl Jv) BF)),?_⟩;refine Fz.Cq h ZN ?_;rintro _ _⟨ws,d,x,rfl,hd,b,hx,rfl⟩;show Ws [_,_] _ _ _;refine Bc ?_;rcases hd with rfl|⟨xs,rfl⟩
 .refine ph (Az (Yh (A1 rfl ⟨x,rfl,Ct rfl ⟨_,rfl,?_⟩⟩)));refine⟨_,rfl,Cf ?_ (BN ⟨_,rfl,rfl⟩)⟩;rw[jE hx];decide
 .refine w6 (HG (si (A1 rfl (A1 rfl ⟨_,_,.inr x,rfl,rfl,_,rfl,?_⟩))));rw[OI,jE hx];exact Cf (by decide) (BN ⟨_,rfl,rfl⟩)
def ZZ:BG ["words","puts","put"] ["words","puts"] (AX V7):=by walk_at "z1"
def cL : ∀ss R,VH ss R->ss.length=2:=by rintro _ _⟨ws,ps,rfl,_,_,rfl⟩;rfl
def vT(F:AO K "check_puts" "check_puts" V7 f fd)(m:mg "check_puts"=some (.ref f)):
  AE P w K mg Zj "check_puts" 2 ["words","puts"] (Ac VH):=by
 refine AE.mk F (F.binds (by walk_at "bD2")) m (F.BX (k:=1) ZZ (λvs H Q E h=>Fz.Cs cL h) (λAY A outer s H vs Q E c h=>?_))
 refine⟨_,(AH rfl (DT Cp rfl (Bi (qv 1)) (CQ 2 ZZ.nd) (AB rfl (B8 (An TF (Ad BL (qv 2) A8) (CY (v:=.ref JC) (by rfl) Wd rfl)) (AH rfl Jv) BF)
   (AH rfl (DK (Ab Ht c (A0 (qv 0) (A0 (Ad BL (qv 2) A8) A6)))))))),?_⟩
 refine Fz.Cq h cL ?_;rintro _ _⟨ws,ps,rfl,b,d,rfl⟩;show Ws [_,_,.any] _ _ _;have C:JE K JC (WH.map .str):=JE.of TX rfl rfl;refine Dz (λ_ i A7=>∃s2:Slot,A7=[.is (.lst (ws.map .str)),.is (.lst (ps.map Ay)),s2]) ?_
 walk_at "ww"
 refine⟨⟨_,rfl⟩,?_,?_⟩
 .rintro k p A7 a⟨s2,rfl⟩;rw[Am]at a;obtain⟨q,ex,rfl⟩:=Option.map_eq_some_iff.mp a;refine FY ?_;have sq:=d q (Bo ex);refine AN (Bc (Az (Yt (neg:=true) C (CN (CK rfl ⟨rfl,AZ ⟨_,_,rfl,rfl,q.1,rfl,_,rfl,?_⟩⟩)))));rw[jE sq.1];refine Cf (by decide) (BN ?_);refine J7 (wp_call (AV (A1 rfl (AV (CN (CK rfl ⟨rfl,AZ ⟨_,_,rfl,rfl,BQ ⟨_,⟨ws,_,q.2,rfl,.inl rfl,b,sq.2,rfl⟩,?_⟩⟩⟩))))));rintro _ rfl;exact⟨_,rfl⟩
 .rintro A7⟨s2,rfl⟩;exact⟨_,rfl,rfl⟩
def tS:BG ["text"] ["text"] (AX RA):=by walk_at "z1"
noncomputable abbrev Sc(l):=Scope.mk .function l false false []
def jM:=Sc [(".0",.local),("sign",.local),("LETTERS",.globalImplicit)]
def uj:C7 ["text"] (AX RA) jM "sign" [] []:=by walk_at "z2"
def uB(F:AO K "is_name" "is_name" RA f fd)(m:mg "is_name"=some (.ref f)):
  AE P w K mg Zj "is_name" 1 ["text"] (UW):=by
 refine AE.mk F (F.binds (by walk_at "bD1")) m (F.BX (k:=0) tS (λvs H Q E h=>?_) (λAY A outer s H vs Q E j h=>?_))
 .obtain⟨x,rfl,hx,q⟩:=h;rfl
 obtain⟨x,rfl,hx,q⟩:=h;refine⟨_,(AH rfl (B0 (VS (wd ON ON A8 (B7 fv By (A0 (qv 0) A6)) (CY (v:=.int 8) (by rfl) U4 ⟨_,rfl⟩)) (Wb (B7 (d8 rfl) MQ (A0 (EA rfl uj (yL (qv 0)) (λ_ _ _ _=>by exact Dv) (λ_ _ _ _=>by exact(RT ZAJ (qv 0) (CY (v:=.str "abcdefghijklmnopqrstuvwxyz") (by rfl) Ux ⟨_,rfl⟩)))) A6)))))),?_⟩;refine⟨_,rfl,_,rfl,small (by omega),_,_,rfl,rfl,_,rfl,?_⟩;refine BY (λc=>?_) (λc=>⟨_,rfl,NO ?_⟩)
 .refine⟨_,_,rfl,rfl,_,rfl,?_⟩;refine BY (λa=>?_) (λa=>?_)
  .refine⟨_,rfl,x,rfl,λacc Ao=>iW (λ_=>true) bh Ao (by rw[<- XT,<- HM];exact small (by omega)) (λi v H' Q' _ _ h=>h H' (AJ.refl _)) (λi v H' Q' g _ _ h=>?_) (λH' d b=>?_)⟩
   .obtain⟨l,rfl⟩:=signs_get g;exact⟨_,rfl,_,_,rfl,rfl,h H' (AJ.refl _)⟩
   .rw[mM]at b;refine⟨acc,_,rfl,AQ.of b,?_⟩;rw[all_map];have e:isNm x=x.cps.toList.all PU:=by unfold isNm;rw[c,a];rfl
    rw[<- e];exact q H' d
  .have e:isNm x=false:=by unfold isNm;rw[Bool.eq_false_iff.mpr a];simp
   rw[<- e];exact q H (AJ.refl _)
 .have e:isNm x=false:=by unfold isNm;rw[Bool.eq_false_iff.mpr c];simp
  rw[<- e];exact q H (AJ.refl _)
def Oz:BG ["kinds","words","number","kind"] ["kinds"] (AX Pd):=by walk_at "z1"
def qP:=Sc [(".0",.local),("kind",.local)]
def qT:C7 ["kinds","words","number","kind"] (AX Pd) qP "kind" [] []:=by walk_at "z2"
def fc : ∀ss R,XH ss R->ss.length=1:=by rintro _ _⟨ks,rfl,_,rfl⟩;rfl
def xn(F:AO K "check_kinds" "check_kinds" Pd f fd)(m:mg "check_kinds"=some (.ref f)):
  AE P w K mg Zj "check_kinds" 3 ["kinds"] (Ac XH):=by
 refine AE.mk F (F.binds (by walk_at "bD1")) m (F.BX (k:=2) Oz (λvs H Q E h=>Fz.Cs fc h) (λAY A outer s H vs Q E d h=>?_))
 refine⟨_,(AB rfl (B8 (Oe (gf ON ON A8 (B7 Kr By (A0 (qv 0) A6)) (CY (v:=.int 8) (by rfl) SN ⟨_,rfl⟩))) (AH rfl Jv) BF)
   (AB rfl (Lj (i:=1) Oz.nd rfl (Or.inl rfl) rfl qT (Bi (qv 0)) (λ_ _ _ _=>by exact Dv) (λ_ _ _ _=>by exact(Ad (show Cb _ (DA K)from BL) (qv 0) A8)))
   (AB rfl (Bq (DT Cp rfl (uX rfl TJ (A0 (qv 0) A6)) (Pt rfl (Hf (CQ 2 Oz.nd) (Hf (CQ 3 Oz.nd) QJ))) (AB rfl (B8 (Oe (Jm (Ab TL d (A0 (Ad BL (qv 3) A8) A6)))) (AH rfl Jv) BF)
   (AB rfl (B8 (An Ir (Ad BL (qv 3) A8) (O3 Sz (qv 1) Oc (LQ (qv 2)))) (AH rfl Jv) BF)
   (AH rfl (B8 (An O2 (B7 Kr By (A0 (Ad BL (qv 3) A8) A6)) (CY (v:=.int 6) (by rfl) Vd ⟨_,rfl⟩)) (AH rfl Jv) BF))))))
   (AH rfl (DT Cp rfl (Bi (qv 0)) (CQ 3 Oz.nd) (AH rfl (DK (Ab SV d (A0 (qv 1) (A0 (Ad BL (qv 3) A8) A6)))))))))),?_⟩
 refine Fz.Cq h fc ?_;rintro _ _⟨ks,rfl,g,rfl⟩;show Ws [_,.any,.any,.any] _ _ _;have l1:=g.l1;have l8:=g.l8
 walk_at "ww"
 rw[AA];refine Ej (jE (by omega)) ?_;refine AZ ⟨_,rfl,_,rfl,?_⟩;rw[jE (show(ks.length:Int)<=8 by omega)];refine Cf (by decide) (BN ?_);refine AN (Dk (E5 EX (λ_=>true) (λk=>PV.str k.w) (C1 (C6 (A1 rfl ⟨_,.inl ⟨rfl,ks,rfl,by omega,λk _=>FN rfl,λk _ _=>CN (CK rfl ⟨rfl,AZ ⟨_,_,rfl,rfl,rfl⟩⟩),?_⟩⟩))) y8));rw[List.filter_eq_self.mpr λ_ _=>rfl];refine G7 1 rfl ?_;have r:(ks.map λk=>PV.str k.w)=(wk ks).map PV.str:=by rw[CH];rfl
 rw[r];show Ws [.is (.lst (ks.map EX)),.is (.lst ((wk ks).map .str)),.any,.any] _ _ _;refine AN (Cu (Dz (λ_ i A7=>∃s2 a:Slot,A7=[.is (.lst (ks.map EX)),.is (.lst ((wk ks).map .str)),s2,a]) ?_))
 walk_at "ww"
 refine⟨⟨_,_,rfl⟩,?_,?_⟩
 .rintro i q A7 n⟨s2,a,rfl⟩;obtain⟨x0,hx,rfl⟩:=jS n;rw[Am]at hx;obtain⟨k,ex,rfl⟩:=Option.map_eq_some_iff.mp hx;have hi:=(List.getElem?_eq_some_iff.mp ex).1;have b:=Bo ex;refine eJ ⟨_,_,rfl,?_⟩
  walk_at "ww"
  refine xU (CN (CK rfl ⟨rfl,AZ ⟨_,_,rfl,rfl,k.w,rfl,CU (g.nm k b).2.1 (by decide),_,rfl,?_⟩⟩));rw[wt (g.nm k b)];refine Cf (by decide) (BN ?_)
  walk_at "ww"
  rw[show Eg (wk ks) none (some (i:Int))=(wk ks).take i from sH (by rw[AA];omega)];refine Cf (λc=>?_) (BN ?_)
  .obtain⟨j,o,l⟩:=Fm (jG c);rw[FD,AA]at o;rw[Xd]at l;have q:=List.pairwise_iff_getElem.mp g.nd j i (by rw[AA];omega) (by rw[AA];exact hi) (by omega);refine q (l.trans ?_);rw[Ma,(List.getElem?_eq_some_iff.mp ex).2]
  refine Bc (Az (Ol (YW (C8 (CN (CK rfl ⟨rfl,AZ ⟨_,_,rfl,rfl,_,.inl ⟨rfl,?_⟩⟩⟩))))))
  walk_at "ww"
  rw[AA];refine Cf (λc=>?_) (BN ⟨_,_,rfl⟩);have:=jG c;have:=(g.ps k b).1;omega
 .rintro A7⟨s2,a,rfl⟩;refine Dz (λ_ i A7=>∃s2 a:Slot,A7=[.is (.lst (ks.map EX)),.is (.lst ((wk ks).map .str)),s2,a]) ?_
  walk_at "ww"
  refine⟨⟨_,_,rfl⟩,?_,?_⟩
  .rintro i p A7 e⟨s2,a,rfl⟩;rw[Am]at e;obtain⟨k,ex,rfl⟩:=Option.map_eq_some_iff.mp e;have b:=Bo ex;refine FY ?_;refine J7 (wp_call (AV (A1 rfl (AV (CN (CK rfl ⟨rfl,AZ ⟨_,_,rfl,rfl,BQ ⟨_,⟨wk ks,k.ps,rfl,by rw[AA];omega,(g.ps k b).2,rfl⟩,?_⟩⟩⟩))))));rintro _ rfl;exact⟨_,_,rfl⟩
  .rintro A7⟨s2,a,rfl⟩;exact⟨_,rfl,rfl⟩
def bb:BG ["self","kinds","kind"] ["self","kinds"] (AX Sh):=by walk_at "z1"
def d7:∀ss R,(WU A3) ss R->ss.length=2:=by rintro _ _⟨dx,a,ks,rfl,_,rfl⟩;rfl
def yF(F:AO K "__init__" "Errands.__init__" Sh f fd)(o:Mk K A3 f):
  Sa P w K mg Zj A3 4 ["self","kinds"] (C2 (WU A3)):=by
 refine⟨f,fd,F.BX (k:=3) bb (λvs H Q E h=>Fz.Pu d7 h) (λAY A outer s H vs Q E d h=>?_),(F.binds (by walk_at "bD2")),o⟩
 refine⟨_,(AB rfl (DK (Ab X5 d (A0 (qv 1) A6)))
   (AB rfl (az (qv 0) PL)
   (AB rfl (az (qv 0) PL)
   (AH rfl (DT Cp rfl (Bi (qv 1)) (CQ 2 bb.nd) (AB rfl (NA (Dc d) (NN (qv 0)) (Ad BL (qv 2) A8) (IT PM Fx (A0 (Ad BL (qv 2) A8) A6)))
   (AH rfl (NA (Dc d) (NN (qv 0)) (Ad BL (qv 2) A8) (Ad BL (qv 2) A8))))))))),?_⟩
 refine Fz.yC h d7 ?_;rintro _ _⟨dx,a,ks,rfl,g,rfl⟩;show Ws [_,_,.any] _ _ _;refine AN (J7 (wp_call (AV (A1 rfl (BQ ⟨_,⟨ks,rfl,g,rfl⟩,?_⟩)))));rintro _ rfl;refine AN (fV (i:=0) (Q6 λb=>Hq rfl ⟨true,A3,dx,[],a,[],rfl,rfl,Ef,GK,by decide,Af,?_⟩));rw[OV.HR];show Ws [.ow true (.nd (.obj A3 dx ["puts_by_word"]) a [.nd (.Ag []) b []]),.is (.lst (ks.map EX)),.any] _ _ _;refine AN (fV (i:=0) (Q6 λc=>Hq rfl ⟨true,A3,dx,_,a,_,rfl,rfl,Ef,Ql,by decide,Af,?_⟩));rw[OV.HR];have l8:=g.l8;refine Dz (λ_ i A7=>∃(s2:Slot),A7=[.ow true (IA A3 dx a b c (ks.take i)),.is (.lst (ks.map EX)),s2]) ?_
 walk_at "ww"
 refine⟨⟨_,rfl⟩,?_,?_⟩
 .rintro i p A7 e⟨s2,rfl⟩;rw[Am]at e;obtain⟨k,ex,rfl⟩:=Option.map_eq_some_iff.mp e;have hi:=(List.getElem?_eq_some_iff.mp ex).1;have nk:k.w∉wk (ks.take i):=λm=>by
   obtain⟨j,r,l⟩:=Fm m;rw[AA,FD]at r;rw[Ma,Xd]at l;have q:=List.pairwise_iff_getElem.mp g.nd j i (by rw[AA];omega) (by rw[AA];exact hi) (by omega);refine q ?_;rw[Ma,Ma,l,(List.getElem?_eq_some_iff.mp ex).2]
  have n:(wk (ks.take i)).Nodup:=by
   rw[show wk (ks.take i)=(wk ks).take i from Xh];exact g.nd.sublist (ZAo _ _)
  refine FY ?_;refine AN (T8 (i:=0) (t:=IA A3 dx a b c (ks.take i)) (IF (R0 rfl (C8 (CN (CK rfl ⟨rfl,AZ ⟨_,_,rfl,rfl,_,.inl ⟨rfl,?_⟩⟩⟩))))));refine Zz (Hq rfl ⟨A3,dx,_,a,_,0,_,rfl,Ef,GK,rfl,rfl,true,b,_,_,rfl,rfl,by rw[AA,FD];omega,WT n,Af,CN (CK rfl ⟨rfl,AZ ⟨_,_,rfl,rfl,.inr k.w,rfl,?_⟩⟩)⟩);rw[Mc,OQ nk,WC nk];unfold IA;rw[OV.Jx (show _=some _ from rfl),OV.HR];refine T8 (i:=0) (t:=.nd (.obj A3 dx GS) a [.nd (.Ag (B2 (wk (ks.take i)++[k.w]))) b ((ks.take i).map (λk=>.fz (.tup (k.ps.map Ay)))++[.fz (.tup (k.ps.map Ay))]),.nd (.Ag (B2 (wk (ks.take i)))) c ((ks.take i).map λk=>.fz (.bl k.g))]) (IF (CN (CK rfl ⟨rfl,AZ ⟨_,_,rfl,rfl,?_⟩⟩)));refine Zz (Hq rfl ⟨A3,dx,_,a,_,1,_,rfl,Ef,Ql,by decide +kernel,rfl,true,c,_,_,rfl,rfl,by rw[AA,FD];omega,WT n,Af,CN (CK rfl ⟨rfl,AZ ⟨_,_,rfl,rfl,.inr k.w,rfl,?_⟩⟩)⟩);rw[Mc,OQ nk,WC nk,OV.Jx (show _=some _ from rfl),OV.HR];refine⟨.is (EX k),?_⟩;rw[KN ex];simp only[wk,Bn,Aq,Im];rfl
 .rintro A7⟨s2,rfl⟩;rw[AA,GD];exact⟨_,_,_,_,rfl,rfl,rfl,b,c,rfl⟩
def M0:BG ["kinds","handed","book","word","puts","goes"] ["kinds"] (AX RO):=by walk_at "z1"
def jm:=Sc [(".0",.local),("word",.local),("puts",.local),("goes",.local),("list",.globalImplicit)]
def mL:Hz ["kinds","handed","book","word","puts","goes"] (AX RO) jm ["word","puts","goes"] [] []:=⟨rfl,by decide +kernel,by decide +kernel,by decide +kernel,rfl,by decide +kernel,by decide +kernel,by decide +kernel,by decide +kernel⟩
def bU:∀ss R,(Vr A3) ss R->ss.length=1:=by rintro _ _⟨ks,rfl,_,rfl⟩;rfl
def uf(F:AO K "_law_book" "_law_book" RO f fd)(m:mg "_law_book"=some (.ref f)):
  AE P w K mg Zj "_law_book" 6 ["kinds"] (Ac (Vr A3)):=by
 refine AE.mk F (F.binds (by walk_at "bD1")) m (F.BX (k:=5) M0 (λvs H Q E h=>Fz.Cs bU h) (λAY A outer s H vs Q E I h=>?_))
 refine⟨_,(AB rfl (wL (i:=1) M0.nd rfl (Or.inl rfl) rfl mL (.cons (.cons (.cons .nil))) (λ_=>rfl) (λ_=>rfl) (Bi (qv 0)) (λ_ _ _ _=>by exact Dv) (λ_ _ _ _=>by exact(D4 (A0 (qv 0) (A0 (IT (show CZ _ (.type "list") (Fz.bX K)from Fz.sX) Ey (A0 (qv 1) A6)) (A0 (qv 2) A6))))))
   (AB rfl (AR 2 M0.nd (uo UH I (by decide) V6 (A0 (qv 1) A6)))
   (AB rfl (Bq (DT Cp rfl (kN (qv 1)) (Pt rfl (Hf (CQ 3 M0.nd) (Hf (CQ 4 M0.nd) (Hf (CQ 5 M0.nd) QJ)))) (AH rfl (DK (G8 Fn Mi Mj Ju (qv 4) (A0 (D4 (A0 Ar (A0 (qv 3) A6))) A6))))))
   (AB rfl (DK (Zm Fn PySem.F.slot_list_clear PySem.F.type_list_clear ig (qv 1)))
   (AH rfl (B0 (qv 2))))))),?_⟩
 refine Fz.Cq h bU ?_;rintro _ _⟨ks,rfl,g,rfl⟩;show Ws [_,.any,.any,.any,.any,.any] _ _ _;have l8:=g.l8;refine AN (Ni (ZAE (λx u=>∃(k:Kd)(b:Addr),x=k.P/\u=.tp [.fz (.str k.w),.nd .lst b ((k.ps.map Ay).map .fz),.fz (.bl k.g)]) (C1 (C6 (A1 rfl ⟨_,.inl ⟨rfl,by rw[AA];omega,λx hx=>?_,λl us o L=>?_⟩⟩)))))
 .obtain⟨k,B,rfl⟩:=List.mem_map.mp hx;refine⟨_,rfl,rfl,FN rfl,?_⟩;refine qU (Lu (IF (A1 rfl (Lu (qp (RN rfl (CK rfl λb=>Lu (IF (A1 rfl (aj ⟨λ_ h=>absurd h Af,λ_ h=>absurd h Af,λ_ h=>absurd h Af,by show 3<=100000;decide,rfl,k,b,rfl,rfl⟩))))))))))
 have R:∃bs:List Addr,bs.length=ks.length/\us=Dd ks bs:=ZP o L;obtain⟨bs,y,rfl⟩:=R;show Ws [.is (.lst (ks.map Kd.P)),.ow false (.nd .lst l (Dd ks bs)),.any,.any,.any,.any] _ _ _;refine AN (Ni (qu ?_));show Wx [.is (.lst (ks.map Kd.P)),.is (OV.nd .lst l (Dd ks bs)).pv,.any,.any,.any,.any] _ _;refine yQ (uu (A1 rfl (L7 λx dx=>⟨_,⟨dx,x,ks,by rw[pY ks bs l y],g,rfl⟩,?_⟩)));rintro _ _⟨rfl,N,M,rfl⟩;refine⟨rfl,_,_,rfl,rfl,ZAH _ _ _ _ _ _,?_⟩;show Ws [.is (.lst (ks.map Kd.P)),.ow false (.nd .lst l (Dd ks bs)),.ow false (IA A3 dx x N M ks),.any,.any,.any] _ _ _;refine Zh 2 rfl ?_;rw[ZA2];show Ws [.is (.lst (ks.map Kd.P)),.ow false (.nd .lst l (Dd ks bs)),.is (Aw A3 ks),.any,.any,.any] _ _ _;refine AN (Cu (sG (i:=1) (a0:=l) ks.length (λn A7=>∃(us:List OV)(v s4 t:Slot),A7=[.is (.lst (ks.map Kd.P)),.ow false (.nd .lst l us),.is (Aw A3 ks),v,s4,t]/\us.length=ks.length/\∀(j:Nat)u,us[j]?=some u->∃(k:Kd)(b:Addr)(a:List PV),u=.tp [.fz (.str k.w),.nd .lst b (a.map .fz),.fz (.bl k.g)]/\a.length<=7/\(n<=j->a.length<=6)) ⟨_,_,_,_,rfl,c7 ks bs y,λj u d=>?_⟩ (λn A7 S J=>?_) ?_))
 .obtain⟨k,b,B,rfl⟩:=fq ks bs y d;have:=(g.ps k B).1;exact⟨k,b,_,rfl,by rw[AA];omega,λ_=>by rw[AA];exact this⟩
 .obtain⟨us,v,s4,t,rfl,o,d⟩:=J;refine⟨false,us,rfl,o,λAM=>?_⟩;obtain⟨u,r⟩:∃u,us[n]?=some u:=⟨_,Ah (by omega)⟩;obtain⟨k,b,a,rfl,T,C⟩:=d n u r;have C:=C (Ae _);refine⟨_,r,xF ?_⟩;show Ws [.is (.lst (ks.map Kd.P)),.ow false (.nd .lst l us),.is (Aw A3 ks),.is (.str k.w),.raw (ptr b),.is (.bl k.g)] _ _ _;have at':(OV.nd .lst l us).at [n,1]=some (.nd .lst b (a.map .fz)):=by rw[OV.LI,r];show OV.at (.tp [.fz (.str k.w),.nd .lst b (a.map .fz),.fz (.bl k.g)]) [1]=_;rw[OV.Nb];exact OV.JR
  refine kU (i:=1) (jO (j:=4) (p:=[n,1]) rfl rfl at' ⟨false,b,_,rfl,rfl,by rw[AA];omega,IF (DX (Bb (CT (Bb (A1 rfl (Ck ⟨by show 2<=100000;decide,?_⟩))))))⟩);refine⟨Af,us.set n (.tp [.fz (.str k.w),.nd .lst b ((a++[PV.tup [.str "first",.str k.w]]).map .fz),.fz (.bl k.g)]),.is (.str k.w),.raw (ptr b),.is (.bl k.g),?_,by rw[Ik];exact o,λj u q=>?_⟩
  .rw[OV.Jx r,OV.Og (show _=some _ from rfl),OV.HR,Bn];rfl
  .by_cases c:j=n
   .subst c;rw[CL (by omega)]at q;cases q;exact⟨k,b,_,rfl,by rw[Bj];show _+1<=_;omega,λz=>by omega⟩
   .rw[C0 (B5 c)]at q;obtain⟨G,O,D,e,h1,h2⟩:=d j u q;exact⟨G,O,D,e,h1,λz=>h2 (by omega)⟩
 .rintro A7⟨us,v,s4,t,rfl,o,d⟩;refine AN (jC (i:=1) (Hq rfl ⟨false,l,us,rfl,rfl,?_⟩));exact FA (A1 rfl rfl)
def bz:BG ["pot","kinds","many"] ["pot","kinds"] (AX Qv):=by walk_at "z1"
def uG:=Sc [(".0",.local),("k",.local),("_law_take",.globalImplicit),("len",.globalImplicit),("kinds",.free),("pot",.free)]
def x8:C7 ["pot","kinds","many"] (AX Qv) uG "k" ["kinds","pot"] [1,0]:=by walk_at "z2"
def dO : ∀ss R,UM ss R->ss.length=2:=by rintro _ _⟨ks,rfl,_,rfl⟩;rfl
def tR(F:AO K "_law_crowd" "_law_crowd" Qv f fd)(m:mg "_law_crowd"=some (.ref f)):
  AE P w K mg Zj "_law_crowd" 2 ["pot","kinds"] (Ac UM):=by
 have Bd:=Fz.AE.Wj Bd;refine AE.mk F (F.binds (by walk_at "bD2")) m (F.BX (k:=1) bz (λvs H Q E h=>Fz.Cs dO h) (λAY A outer s H vs Q E b h=>?_))
 refine⟨_,(AB rfl (AR 2 bz.nd (Ad BL (D4 (A0 A8 (A0 A8 (A0 A8 (A0 A8 (A0 A8 (A0 A8 (A0 A8 (A0 A8 A6))))))))) (Ab Bd b (A0 (qv 0) (A0 A8 A6)))))
   (AH rfl (B0 (EA rfl x8 (KH rfl Cz (A0 (qv 2) A6)) (λ_ _ _ _=>by exact Dv) (λ_ _ _ _=>by exact(Ad (show Cb _ (DA K)from BL) (Ad (show Cb _ (Iw K)from CJ) (qv 0) (Ab Bd b (A0 (qv 1) (A0 (B7 (show CZ _ (.builtin "len") (Q4 K)from Kr) By (A0 (qv 0) A6)) A6)))) A8)))))),?_⟩
 refine Fz.Cq h dO ?_;rintro _ _⟨ks,rfl,g,rfl⟩;show Ws [_,_,.any] _ _ _;have l1:=g.l1;have l8:=g.l8
 walk_at "ww"
 refine⟨by decide,?_⟩
 walk_at "ww"
 refine⟨by decide,by decide,λt d t1=>?_⟩;obtain⟨z,e,v⟩:=v5 d t1;refine⟨_,_,rfl,e,?_⟩;refine JX (j3 (λ_ p=>∃c∈wk ks,p=.str c) ?_)
 walk_at "ww"
 rw[Gp];refine⟨by omega,by omega,by rw[HW];omega,λx hx=>FN rfl,λx hx=>?_,λys Je o=>?_⟩
 .walk_at "ww"
  rw[AA];refine⟨by omega,by omega,λq j u=>?_⟩;obtain⟨i,rfl⟩:=Rf j;have a:i<ks.length:=by omega
  refine⟨_,_,rfl,Fp (by rw[Am,Ah a];rfl),_,.inr ⟨rfl,rfl,?_⟩⟩
  walk_at "ww"
  exact⟨_,List.mem_map.mpr ⟨_,Ky a,rfl⟩,rfl⟩
 .rw[HW]at Je;have all:∀y∈ys,∃c∈wk ks,y=.str c:=λy l=>by
   obtain⟨q,a,r⟩:=Fm l;have h1:ys[q]?=some y:=by rw[Ah a,r]
   exact o q _ y (Ah (show q<(JV z).length by rw[HW];omega)) h1
  obtain⟨cs,rfl,n⟩:=T9 all;exact⟨cs,rfl,by rw[AA]at Je;omega,n⟩
def X9:BG ["kinds","word","rule","wheres","puts"] ["kinds","word","rule"] (AX Oq):=by walk_at "z1"
def kF:=Sc [(".0",.local),("row",.local),("word",.free)]
def nI:C7 ["kinds","word","rule","wheres","puts"] (AX Oq) kF "row" ["word"] [1]:=by walk_at "z2"
def xV:=Sc [(".0",.local),("where",.local),("kind",.local),("wheres",.free)]
def u9:Hz ["kinds","word","rule","wheres","puts"] (AX Oq) xV ["where","kind"] ["wheres"] [3]:=⟨rfl,by decide +kernel,by decide +kernel,by decide +kernel,rfl,by decide +kernel,by decide +kernel,by decide +kernel,by decide +kernel⟩
def cC : ∀ss R,RX ss R->ss.length=3:=by rintro _ _⟨ks,x,r,rfl,_,_,_,rfl⟩;rfl
def wG(F:AO K "_law_comers" "_law_comers" Oq f fd)(m:mg "_law_comers"=some (.ref f)):
  AE P w K mg Zj "_law_comers" 1 ["kinds","word","rule"] (Ac RX):=by
 refine AE.mk F (F.binds (by walk_at "bD3")) m (F.BX (k:=0) X9 (λvs H Q E h=>Fz.Cs cC h) (λAY A outer s H vs Q E c h=>?_))
 refine⟨_,(AB rfl (AR 3 X9.nd (II (Dc c) (uk (X2 Ar (D4 A6) (X2 Ar (D4 (A0 Ar (A0 Ar A6))) (X2 Ar (D4 (A0 Ar (A0 Ar (A0 Ar (A0 Ar A6))))) nD))) rfl rfl (by simp) (by decide)) (qv 2) (λ_ _=>rfl)))
   (AB rfl (AR 4 X9.nd (Ad CJ (EA rfl nI (Bi (qv 0)) (λ_ _ _ _=>by exact(IY (An Cc (Ad (show Cb _ (DA K)from BL) (qv 1) A8) (qv 0)))) (λ_ _ _ _=>by exact(Ad (show Cb _ (DA K)from BL) (qv 1) A8))) A8))
   (AH rfl (B0 (cu rfl u9 (.cons (.cons .nil)) (λ_=>rfl) (λ_=>rfl) (Bi (qv 4)) (λ_ _ _ _=>by exact(IY (An (show B6 _ (compareOp .In) (IQ K false)from Ir) (qv 1) (qv 0)))) (λ_ _ _ _=>by exact(qv 2))))))),?_⟩
 refine Fz.Cq h cC ?_;rintro _ _⟨ks,x,r,rfl,g,hx,c,rfl⟩;show Ws [_,_,_,.any,.any] _ _ _;have l8:=g.l8;have o:=(g.JY x).1;refine AN (CB (O4 (j6 (jJ (by decide) ?_))));refine Lu (IF (DX (Ck ⟨by decide,?_⟩)));refine Lu (IF (DX (Bb (CT (Bb (CT (Ck ⟨by decide,?_⟩)))))));refine Lu (IF (DX (Bb (CT (Bb (CT (Bb (CT (Bb (CT (Ck ⟨by decide,?_⟩)))))))))));refine aj ⟨λ_ h=>absurd h Af,λ_ h=>absurd h Af,λ_ h=>absurd h Af,rfl,λl=>⟨rfl,_,_,by rw[OV.pv],A1 rfl ⟨.inr r,.tup ((QL r).map .str),rfl,?_,?_⟩⟩⟩
 .simp only[HX,L4,Af,vE]at c;rcases c with rfl|rfl|rfl <;> rfl
 obtain⟨k,rest,i,e⟩:=g.gJ hx;refine AN (CB (Hy (C8 (BM (E5 Kd.P (λk=>decide (k.w=x)) (λk=>PV.tup (k.ps.map Ay)) (C1 (C6 (A1 rfl ⟨_,.inl ⟨rfl,ks,rfl,by omega,λk _=>?_,λk _ _=>?_,?_⟩⟩))) Kd.inj)))))
 .exact Az (Cj (CN (CK rfl ⟨rfl,AZ ⟨_,_,rfl,rfl,A1 rfl ⟨rfl,_,rfl,rfl⟩⟩⟩)))
 .exact CN (CK rfl ⟨rfl,AZ ⟨_,_,rfl,rfl,rfl⟩⟩)
 rw[i];refine⟨_,.inl ⟨rfl,rfl,AZ ⟨0,PV.tup (k.ps.map Ay),rfl,(Fp (j:=0) rfl:L2.Bm (List.map (λk:Kd=>PV.tup (k.ps.map Ay)) (k::rest)) ((0:Nat):Int)=_),?_⟩⟩⟩;rw[e];refine JX (bg (λq=>match q with | .tup [.str a,_]=>decide (a∈QL r)|_=>false) (λq=>match q with | .tup [_,b]=>b|_=>.A9) (C1 (C6 (A1 rfl ⟨_,.inr ⟨rfl,by rw[AA];omega,λq d=>?_,?_⟩⟩))))
 .obtain⟨p,n,rfl⟩:=List.mem_map.mp d;refine⟨_,rfl,rfl,?_,λ_=>A1 rfl rfl⟩;exact Az (LO (A1 rfl ⟨p.1,rfl,CK rfl ⟨_,rfl,_,rfl,rfl⟩⟩))
 .rw[<- qy g c x,Xc,CH,CH];rfl
def Py:BG ["kinds","some","rule","found","left","word"] ["kinds","some","rule"] (AX Tv):=by walk_at "z1"
def dv : ∀ss R,QN ss R->ss.length=3:=by rintro _ _⟨ks,S,r,rfl,_,_,_,_,rfl⟩;rfl
def jh(F:AO K "_law_reached" "_law_reached" Tv f fd)(m:mg "_law_reached"=some (.ref f)):
  AE P w K mg Zj "_law_reached" 2 ["kinds","some","rule"] (Ac QN):=by
 refine AE.mk F (F.binds (by walk_at "bD3")) m (F.BX (k:=1) Py (λvs H Q E h=>Fz.Cs dv h) (λAY A outer s H vs Q E i h=>?_))
 refine⟨_,(AB rfl (AR 3 Py.nd (Ds A6))
   (AB rfl (AR 4 Py.nd (IT Ra Ey (A0 (qv 1) A6)))
   (AB rfl (Bq (LD Cp (An (ZAN i.P5) (qv 4) (Ds A6)) (AB rfl (AR 5 Py.nd (Zm Fn PySem.F.slot_list_pop PySem.F.type_list_pop rS (qv 4)))
   (AH rfl (B8 (An TF (qv 5) (qv 3)) (AB rfl (DK (G8 Fn Mi Mj Ju (qv 3) (A0 (qv 5) A6)))
   (AH rfl (DK (G8 Fn PySem.F.slot_list_extend PySem.F.type_list_extend iy (qv 4) (A0 (Ab Lk i (A0 (qv 0) (A0 (qv 5) (A0 (qv 2) A6)))) A6))))) BF)))))
   (AH rfl (B0 (qv 3)))))),?_⟩
 refine Fz.Cq h dv ?_;rintro _ _⟨ks,S,r,rfl,g,i,d,u,rfl⟩;show Ws [_,_,_,.any,.any,.any] _ _ _;have l8:=g.l8
 walk_at "ww"
 refine⟨by decide,?_⟩
 walk_at "ww"
 refine Us (λm A7=>∃(A B:List Str)(t:Slot),A7=[.is (.lst (ks.map Kd.P)),.sq false (S.map .str),.is (.str r),.own (A.map .str),.own (B.map .str),t]/\A.Nodup/\(∀y∈A,C3 (Ax ks r) S y)/\(∀y∈B,C3 (Ax ks r) S y)/\(∀y∈S,y∈A∨y∈B)/\(∀y∈A,∀z∈Ax ks r y,z∈A∨z∈B)/\B.length<=12+6 * A.length/\m+7 * A.length=B.length+7 * 9) (S.length+7 * 9) ?_ ?_
 .exact⟨[],S,_,rfl,GC,λy a=>absurd a Af,λy a=>.here a,λy a=>.inr a,λy a=>absurd a Af,by simp;omega,by simp⟩
 rintro m A7⟨A,B,t,rfl,nd,e,n,o,p,C,I⟩;have D:A.length<=8:=by
  have:=G1 nd (bs:=wk ks) λy a=>Ll g u (e y a);rw[AA]at this;omega
 walk_at "ww"
 refine⟨by decide,_,.inl ⟨rfl,rfl,rfl,_,rfl,?_⟩⟩;rw[AA];refine BY (λc=>?_) (λc=>?_)
 .obtain⟨B',x,rfl⟩:∃B' x,B=B'++[x]:=by
   have L:B≠[]:=λz=>by subst z;cases c
   exact⟨_,_,(List.dropLast_concat_getLast L).symm⟩
  have l:=n x (by simp);have v:=Ll g u l;refine AN (zf (y:=.str x) rfl (by simp) ?_);rw[Bn,Aq,Im,List.dropLast_concat];show Ws [.is (.lst (ks.map Kd.P)),.sq false (S.map .str),.is (.str r),.own (A.map .str),.own (B'.map .str),.is (.str x)] _ _ _;rw[Bj,Il]at C I
  walk_at "ww"
  refine BY (λj=>?_) (λj=>BN ?_)
  .have hx:x∉A:=λz=>by rw[jE z]at j;cases j
   walk_at "ww"
   refine⟨by rw[AA];omega,?_⟩;refine t6 rfl (FH (AV (A1 rfl (AV (A1 rfl (AV (A1 rfl (BQ ⟨_,⟨ks,x,r,rfl,g,v,i,rfl⟩,?_⟩))))))));rintro _ rfl;have M:=b5 g r x;refine⟨by rw[AA,AA];omega,(8 * 7+B'.length+(Ax ks r x).length) - 7 * A.length,by omega,A++[x],B'++Ax ks r x,.is (.str x),?_,N2 nd hx,?_,?_,?_,?_,?_,?_⟩
   .rw[Bn,Bn];rfl
   .intro y a;rcases List.mem_append.mp a with h|h
    .exact e y h
    .rw[List.mem_singleton.mp h];exact l
   .intro y a;rcases List.mem_append.mp a with h|h
    .exact n y (by simp[h])
    .exact .step l h
   .intro y a;rcases o y a with h|h
    .exact .inl (by simp[h])
    .rcases List.mem_append.mp h with h|h
     .exact .inr (by simp[h])
     .exact .inl (by simp[List.mem_singleton.mp h])
   .intro y a z d;rcases List.mem_append.mp a with h|h
    .rcases p y h z d with q|q
     .exact .inl (by simp[q])
     .rcases List.mem_append.mp q with q|q
      .exact .inr (by simp[q])
      .exact .inl (by simp[List.mem_singleton.mp q])
    .rw[List.mem_singleton.mp h]at d;exact .inr (by simp[d])
   .rw[Bj,Bj,Il];omega
   .rw[Bj,Bj,Il];omega
  .have hx:x∈A:=Decidable.byContradiction λz=>j (by rw[jo z];rfl);refine⟨m - 1,by omega,A,B',_,rfl,nd,e,λy a=>n y (by simp[a]),λy a=>?_,λy a z d=>?_,by omega,by omega⟩
   .rcases o y a with h|h
    .exact .inl h
    .rcases List.mem_append.mp h with h|h
     .exact .inr h
     .exact .inl (by rw[List.mem_singleton.mp h];exact hx)
   .rcases p y a z d with q|q
    .exact .inl q
    .rcases List.mem_append.mp q with q|q
     .exact .inr q
     .exact .inl (by rw[List.mem_singleton.mp q];exact hx)
 .have J:B=[]:=by
   cases B with
   |nil=>rfl
   |cons b r=>exact absurd rfl c
  subst J;refine NC rfl ⟨A,rfl,nd,D,λx=>⟨e x,λq=>?_⟩⟩
  induction q with
  |here m=>exact(o _ m).elim id λz=>absurd z Af
  |step _ a G=>exact(p _ G _ a).elim id λz=>absurd z Af
def YA:BG ["kinds","crowd","rule","word"] ["kinds","crowd","rule"] (AX Sm):=by walk_at "z1"
def ai : ∀ss R,WK ss R->ss.length=3:=by rintro _ _⟨ks,cs,r,rfl,_,_,_,_,rfl⟩;rfl
def ky(F:AO K "_law_rings" "_law_rings" Sm f fd)(m:mg "_law_rings"=some (.ref f)):
  AE P w K mg Zj "_law_rings" 3 ["kinds","crowd","rule"] (Ac WK):=by
 refine AE.mk F (F.binds (by walk_at "bD3")) m (F.BX (k:=2) YA (λvs H Q E h=>Fz.Cs ai h) (λAY A outer s H vs Q E a h=>?_))
 refine⟨_,(AB rfl (Bq (DT Cp rfl (Bi (Ab Jh a (A0 (qv 0) (A0 (qv 1) (A0 (qv 2) A6))))) (CQ 3 YA.nd) (AH rfl (B8 (An Ir (qv 3) (Ab Jh a (A0 (qv 0) (A0 (Ab Lk a (A0 (qv 0) (A0 (qv 3) (A0 (qv 2) A6)))) (A0 (qv 2) A6))))) (AH rfl (B0 JD)) BF))))
   (AH rfl (B0 JD))),?_⟩
 refine Fz.Cq h ai ?_;rintro _ _⟨ks,cs,r,rfl,g,a,B,t,rfl⟩;show Ws [_,_,_,.any] _ _ _;refine AN (Cu (Dz (λxs i A7=>∃(L:List Str)(l:Slot),xs=L.map .str/\A7=[.is (.lst (ks.map Kd.P)),.sq false (cs.map .str),.is (.str r),l]/\(∀x,x∈L↔C3 (Ax ks r) cs x)/\∀x∈L.take i,¬ C3 (Ax ks r) (Ax ks r x) x) (C1 (C6 (BM (FH (AV (A1 rfl (GI (LJ rfl (AV (A1 rfl (BQ ⟨_,⟨ks,cs,r,rfl,g,a,B,t,rfl⟩,?_⟩)))))))))))));rintro _⟨L,rfl,nd,l8,d⟩;refine⟨_,.inl ⟨rfl,⟨L,_,rfl,rfl,d,λx hx=>absurd hx (by simp)⟩,?_,?_⟩⟩
 .rintro i p A7 o⟨L',l,b,rfl,_,j⟩;have b:=U8 b;subst b;rw[Am]at o;obtain⟨x,ex,rfl⟩:=Option.map_eq_some_iff.mp o;have n:=Bo ex;have v:=Ll g t ((d x).mp n);have C:=b5 g r x;refine FY ?_;refine Bc (Az (LO (A1 rfl ⟨x,rfl,C8 (BM (FH (AV (A1 rfl (GI (C8 (BM (FH (AV (A1 rfl (AV (A1 rfl (AV (A1 rfl (BQ ⟨_,⟨ks,x,r,rfl,g,v,a,rfl⟩,?_⟩)))))))))))))))⟩)));rintro _ rfl;refine⟨_,.inl ⟨rfl,AV (A1 rfl (BQ ⟨_,⟨ks,Ax ks r x,r,rfl,g,a,by omega,λy e=>g.Uj e,rfl⟩,?_⟩))⟩⟩;rintro _⟨M,rfl,_,_,u⟩;refine⟨_,.inl ⟨rfl,M,rfl,_,rfl,?_⟩⟩;refine BY (λc=>?_) (λc=>BN ?_)
  .exact FA (ME ⟨true,rfl,⟨λ_=>⟨x,(d x).mp n,(u x).mp (jG c)⟩,λ_=>rfl⟩⟩)
  .refine⟨L,_,rfl,rfl,d,λy e=>?_⟩;rw[KN ex]at e;rcases List.mem_append.mp e with h|h
   .exact j y h
   .rw[List.mem_singleton.mp h];exact λq=>c (jE ((u x).mpr q))
 .rintro A7⟨L',l,b,rfl,_,j⟩;have b:=U8 b;subst b;rw[AA,GD]at j;refine FA (ME ⟨false,rfl,⟨λz=>(by cases z),λ⟨x,h1,h2⟩=>absurd h2 (j x ((d x).mpr h1))⟩⟩)
def M8:BG ["kinds","crowd","some","found","word","puts","goes"] ["kinds","crowd"] (AX RZ):=by walk_at "z1"
def qA:=Sc [(".0",.local),("put",.local)]
def xO:C7 ["kinds","crowd","some","found","word","puts","goes"] (AX RZ) qA "put" [] []:=by walk_at "z2"
def bV : ∀ss R,Wc ss R->ss.length=2:=by rintro _ _⟨ks,cs,rfl,_,_,_,rfl⟩;rfl
def uz(F:AO K "_law_only" "_law_only" RZ f fd)(m:mg "_law_only"=some (.ref f)):
  AE P w K mg Zj "_law_only" 3 ["kinds","crowd"] (Ac Wc):=by
 refine AE.mk F (F.binds (by walk_at "bD2")) m (F.BX (k:=2) M8 (λvs H Q E h=>Fz.Cs bV h) (λAY A outer s H vs Q E n h=>?_))
 refine⟨_,(AB rfl (AR 2 M8.nd (Ab Jh n (A0 (qv 0) (A0 (qv 1) (A0 Ar A6)))))
   (AB rfl (AR 3 M8.nd (Ds A6))
   (AB rfl (Bq (DT Cp rfl (Bi (qv 0)) (Pt rfl (Hf (CQ 4 M8.nd) (Hf (CQ 5 M8.nd) (Hf (CQ 6 M8.nd) QJ)))) (AH rfl (B8 (An Ir (qv 4) (qv 2)) (AH rfl (DK (G8 Fn Mi Mj Ju (qv 3) (A0 (D4 (A0 (qv 4) (A0 (IT PM Fx (A0 (EA rfl xO (Bi (qv 5)) (λ_ _ _ _=>by exact(IY (An (show B6 _ (compareOp .In) (IQ K false)from Ir) (Ad (show Cb _ (DA K)from BL) (qv 0) A8) (D4 (A0 Ar (A0 Ar A6)))))) (λ_ _ _ _=>by exact(qv 0))) A6)) (A0 (qv 6) A6)))) A6)))) BF))))
   (AH rfl (B0 (qv 3)))))),?_⟩
 refine Fz.Cq h bV ?_;rintro _ _⟨ks,cs,rfl,g,l,o,rfl⟩;show Ws [_,_,.any,.any,.any,.any,.any] _ _ _;have l8:=g.l8;refine AN (Dk (FH (AV (A1 rfl (GI (Ct rfl (AV (CT (BQ ⟨_,⟨ks,cs, "ahead", rfl,g,by decide +kernel,l,o,rfl⟩,?_⟩)))))))));rintro _⟨Q,rfl,j,r,q⟩;refine G7 2 rfl ?_;refine AN (Dk (Iv (Ck ⟨by decide,?_⟩)));refine AN (Cu (Dz (λ_ i A7=>∃(s4 b a:Slot),A7=[.is (.lst (ks.map Kd.P)),.is (.lst (cs.map .str)),.is (.lst (Q.map .str)),.own ((BB (ks.take i) Q).map Kd.P),s4,b,a]) (C1 (C6 (A1 rfl ⟨_,.inl ⟨rfl,⟨_,_,_,rfl⟩,?_,?_⟩⟩)))))
 .rintro i p A7 e⟨s4,b,a,rfl⟩;rw[Am]at e;obtain⟨k,d,rfl⟩:=Option.map_eq_some_iff.mp e;have t:=(g.ps k (Bo d)).1;have lo:(BB (ks.take i) Q).length<=8:=by
   unfold BB;rw[AA];refine CU (Kz _ _) ?_;rw[FD];omega
  refine yI ⟨_,_,_,rfl,?_⟩;refine Bc (Az (LO (A1 rfl ⟨k.w,rfl,Ct rfl ⟨Q,rfl,_,rfl,BY (λc=>?_) (λc=>BN ⟨.is (.str k.w),.is (.tup (k.ps.map Ay)),.is (.bl k.g),?_⟩)⟩⟩)))
  .have c:=jG c;refine OL rfl (DX (Bb (A1 rfl (Bb (R0 rfl (C8 (BM (E5 Ay (λp=>decide (p.1∈Dw)) Ay (C1 (C6 (A1 rfl ⟨_,.inr ⟨rfl,k.ps,rfl,by omega,λp _=>?_,λp _ _=>A1 rfl rfl,?_⟩⟩))) Qn))))))))
   .exact Az (LO (WJ rfl ⟨p.1,rfl,C8 (DX (Bb (CT (Bb (CT (Ck ⟨by show 2<=100000;decide,_,.inr ⟨rfl,Dw,rfl,_,rfl,rfl⟩⟩))))))⟩))
   refine⟨_,.inl ⟨rfl,Bb (A1 rfl (Ck ⟨by show 3<=100000;decide,by rw[AA];omega,.is (.str k.w),.is (.tup (k.ps.map Ay)),.is (.bl k.g),?_⟩))⟩⟩;rw[ck Q d,ir c,Bn];rfl
  .rw[ck Q d,ib λz=>c (jE z),ER];rfl
 .rintro A7⟨s4,b,a,rfl⟩;rw[AA,GD];exact NC rfl ⟨Q,⟨j,q⟩,rfl⟩
def aD:BG ["kinds","word","place","puts"] ["kinds","word","place"] (AX Ow):=by walk_at "z1"
def zU:=Sc [(".0",.local),("row",.local),("word",.free)]
def oQ:C7 ["kinds","word","place","puts"] (AX Ow) zU "row" ["word"] [1]:=by walk_at "z2"
def qc:=Sc [(".0",.local),("where",.local),("kind",.local),("place",.free)]
def la:Hz ["kinds","word","place","puts"] (AX Ow) qc ["where","kind"] ["place"] [2]:=⟨rfl,by decide +kernel,by decide +kernel,by decide +kernel,rfl,by decide +kernel,by decide +kernel,by decide +kernel,by decide +kernel⟩
def dD : ∀ss R,P6 ss R->ss.length=3:=by rintro _ _⟨ks,Q,x,pl,rfl,_,_,_,_,rfl⟩;rfl
def iK(F:AO K "_law_puts" "_law_puts" Ow f fd)(m:mg "_law_puts"=some (.ref f)):
  AE P w K mg Zj "_law_puts" 2 ["kinds","word","place"] (Ac P6):=by
 refine AE.mk F (F.binds (by walk_at "bD3")) m (F.BX (k:=1) aD (λvs H Q E h=>Fz.Cs dD h) (λAY A outer s H vs Q E l h=>?_))
 refine⟨_,(AB rfl (AR 3 aD.nd (Ad CJ (EA rfl oQ (Bi (qv 0)) (λ_ _ _ _=>by exact(IY (An Cc (Ad (show Cb _ (DA K)from BL) (qv 1) A8) (qv 0)))) (λ_ _ _ _=>by exact(Ad (show Cb _ (DA K)from BL) (qv 1) A8))) A8))
   (AH rfl (B0 (cu rfl la (.cons (.cons .nil)) (λ_=>rfl) (λ_=>rfl) (Bi (qv 3)) (λ_ _ _ _=>by exact(IY (An Cc (qv 1) (qv 0)))) (λ_ _ _ _=>by exact(qv 2)))))),?_⟩
 refine Fz.Cq h dD ?_;rintro _ _⟨ks,Q,x,pl,rfl,g,hx,b,c,rfl⟩;show Ws [_,_,_,.any] _ _ _;have lo:=Zv g Q;have n:=(g.JY x).1;refine AN (CB (Hy (C8 (BM (E5 Kd.P (λk=>decide (k.w=x)) (λk=>PV.tup (k.ps.map Ay)) (C1 (C6 (A1 rfl ⟨_,.inl ⟨rfl,BB ks Q,rfl,by omega,λk _=>?_,λk _ _=>?_,?_⟩⟩))) Kd.inj)))))
 .exact Az (Cj (CN (CK rfl ⟨rfl,AZ ⟨_,_,rfl,rfl,A1 rfl ⟨rfl,_,rfl,Q9 _ _⟩⟩⟩)))
 .exact CN (CK rfl ⟨rfl,AZ ⟨_,_,rfl,rfl,rfl⟩⟩)
 obtain⟨k,rest,e,d⟩:=yf g hx b;rw[e];refine⟨_,.inl ⟨rfl,rfl,AZ ⟨0,PV.tup (k.ps.map Ay),rfl,(L2.Fp (j:=0) rfl:L2.Bm (List.map (λk:Kd=>PV.tup (k.ps.map Ay)) (k::rest)) ((0:Nat):Int)=_),?_⟩⟩⟩;rw[d];have i:=Kz (λp:Str×Str=>decide (p.1∈Dw)) (Df ks x);refine JX (bg (V4 pl) fZ (C1 (C6 (A1 rfl ⟨_,.inr ⟨rfl,by rw[AA];omega,λq a=>?_,?_⟩⟩))))
 .obtain⟨p,_,rfl⟩:=List.mem_map.mp a;exact⟨_,rfl,rfl,Az (Cj (A1 rfl (A1 rfl ⟨rfl,_,rfl,Q9 _ _⟩))),λ_=>A1 rfl rfl⟩
 .rw[Vs,t4 c]
def Gy:BG ["kinds","waves","words","sizes","d","wave","left","free","word","many"] ["kinds","waves"] (AX KO):=by walk_at "z1"
def lh:=Sc [(".0",.local),("row",.local)]
def lN:=Sc [(".0",.local),("word",.local),("all",.globalImplicit),("_law_puts",.globalImplicit),("kinds",.free),("wave",.free)]
def xD:=Sc [(".0",.local),("kind",.local),("wave",.free)]
def o9:=Sc [(".0",.local),("kind",.local),("d",.free),("sizes",.free)]
def qo:=Sc [(".0",.local),("kind",.local),("wave",.free)]
def qF:C7 ["kinds","waves","words","sizes","d","wave","left","free","word","many"] (AX KO) lh "row" [] []:=by walk_at "z2"
def n8:C7 ["kinds","waves","words","sizes","d","wave","left","free","word","many"] (AX KO) lN "word" ["kinds","wave"] [0,5]:=by walk_at "z2"
def ji:=Sc [(".0",.local),("word",.local),("all",.globalImplicit),("_law_puts",.globalImplicit),("kinds",.cell),("wave",.cell)]
def rH:C7 ["kinds","wave","word"] ji xD "kind" ["wave"] [1]:=by walk_at "z2"
def rJ:C7 ["kinds","waves","words","sizes","d","wave","left","free","word","many"] (AX KO) o9 "kind" ["d","sizes"] [4,3]:=by walk_at "z2"
def uJ:C7 ["kinds","waves","words","sizes","d","wave","left","free","word","many"] (AX KO) qo "kind" ["wave"] [5]:=by walk_at "z2"
def ba : ∀ss R,Wv ss R->ss.length=2:=by rintro _ _⟨ks,cs,Q,T,rfl,_,_,_,_,_,rfl⟩;rfl
def pA(F:AO K "_law_sizes" "_law_sizes" KO f fd)(m:mg "_law_sizes"=some (.ref f)):
  AE P w K mg Zj "_law_sizes" 3 ["kinds","waves"] (Ac Wv):=by
 refine AE.mk F (F.binds (by walk_at "bD2")) m (F.BX (k:=2) Gy (λvs H Q E h=>Fz.Cs ba h) (λAY A outer s H vs Q E l h=>?_))
 refine⟨_,(AB rfl (Lj (i:=2) Gy.nd rfl (Or.inl rfl) rfl qF (Bi (qv 0)) (λ_ _ _ _=>by exact Dv) (λ_ _ _ _=>by exact(Ad (show Cb _ (DA K)from BL) (qv 0) A8)))
   (AB rfl (AR 3 Gy.nd (Ds A6))
   (AB rfl (Bq (DT Cp rfl (KH rfl Cz (A0 (qv 1) A6)) (CQ 4 Gy.nd) (AB rfl (AR 5 Gy.nd PL)
   (AB rfl (AR 6 Gy.nd (IT Ra Ey (A0 (qv 2) A6)))
   (AB rfl (Bq (LD Cp (An (Qk l.P5) (qv 6) (Ds A6)) (AB rfl (Lj (i:=7) Gy.nd rfl (Or.inl rfl) rfl n8 (Bi (qv 6)) (λ_ _ _ _=>by exact(IY (Jm (B7 (show CZ _ (.builtin "all") (Fz.kQ K)from d8 rfl) MQ (A0 (EA rfl rH (show QI _ _ _ (LW K _)from Bi (Ab IV l (A0 (qv 0) (A0 (qv 2) (A0 Ar A6))))) (λ_ _ _ _=>by exact Dv) (λ_ _ _ _=>by exact(vm (Dc l) (qv 1) (qv 0)))) A6))))) (λ_ _ _ _=>by exact(qv 2)))
   (AB rfl (B8 (An (nO l.P5) (qv 7) (Ds A6)) (AH rfl (B0 (qv 3))) BF)
   (AB rfl (AR 8 Gy.nd (Ad CJ (qv 7) A8))
   (AB rfl (AR 9 Gy.nd A8)
   (AB rfl (Bq (B8 (An O2 (qv 4) A8) (AH rfl (AR 9 Gy.nd (B7 (K8 rfl) DS (A0 (EA rfl rJ (Bi (Ab IV l (A0 (qv 0) (A0 (qv 8) (A0 Ar A6))))) (λ_ _ _ _=>by exact Dv) (λ_ _ _ _=>by exact(II (Dc l) (Ad (show Cb _ (Iw K)from CJ) (qv 1) (Ai Gn (qv 0) A8)) (qv 2) (λ_ _=>rfl)))) A6)))) BF))
   (AB rfl (NA (Dc l) (qv 5) (qv 8) (Ai FI (qv 9) (B7 (K8 rfl) DS (A0 (EA rfl uJ (Bi (Ab IV l (A0 (qv 0) (A0 (qv 8) (A0 Ar A6))))) (λ_ _ _ _=>by exact Dv) (λ_ _ _ _=>by exact(II (Dc l) (qv 0) (qv 1) (λ_ _=>rfl)))) A6))))
   (AH rfl (DK (G8 Fn ZAy PySem.F.type_list_remove vC (qv 6) (A0 (qv 8) A6))))))))))))
   (AH rfl (DK (G8 Fn Mi Mj Ju (qv 3) (A0 (qv 5) A6)))))))))
   (AH rfl (B0 (qv 3)))))),?_⟩
 refine Fz.Cq h ba ?_;rintro _ _⟨ks,cs,Q,T,rfl,g,hz,V,t,J,rfl⟩;show Ws [_,_,.any,.any,.any,.any,.any,.any,.any,.any] _ _ _;have lo:=Zv g Q;obtain⟨W,O⟩:∃W,W=wk (BB ks Q):=⟨_,rfl⟩;have kg:W.Nodup:=by rw[O,dA];exact g.nd.sublist List.filter_sublist
 have U:∀x,x∈W↔x∈Q:=λx=>by
  rw[O,dA,hZ,ou];exact⟨λh=>h.2,λh=>⟨t.sub g V h,h⟩⟩
 have lW:W.length<=8:=by rw[O,AA];exact lo
 refine AN (Dk (E5 Kd.P (λ_=>true) (λk=>PV.str k.w) (C1 (C6 (A1 rfl ⟨_,.inl ⟨rfl,BB ks Q,rfl,by omega,λ_ _=>FN rfl,λk _ _=>CN (CK rfl ⟨rfl,AZ ⟨_,_,rfl,rfl,rfl⟩⟩),?_⟩⟩))) Kd.inj));rw[List.filter_eq_self.mpr λ_ _=>rfl,show((BB ks Q).map λk=>PV.str k.w)=W.map .str from by rw[O];unfold wk;rw[CH];rfl];refine G7 2 rfl ?_;refine AN (Dk (Iv (Ck ⟨by decide,?_⟩)));refine AN (Cu (Dz (λxs d A7=>∃(Ms:List (List Str))(s4 S R r q o:Slot),A7=[.is (.lst ((BB ks Q).map Kd.P)),.is (.int 9),.is (.lst (W.map .str)),.own (BZ ks Ms),s4,S,R,r,q,o]/\Ms.length=d/\Pe Q Ms) ?_))
 walk_at "ww"
 refine⟨by decide,by decide,⟨[],_,_,_,_,_,_,rfl,rfl,λM h=>absurd h Af⟩,?_,?_⟩
 .rintro d p A7 hp⟨Ms,s4,S,R,r,q,o,rfl,I,G⟩;obtain⟨hd,rfl⟩:=Nr hp;have hd:d<9:=hd;refine FY ?_;refine AN (Ni (Q6 λa=>?_));refine AN (Dk (RN rfl (Ct rfl ?_)));refine AN (Cu (Us (λn A7=>∃(L M:List Str)(r q o:Slot),n=L.length/\A7=[.is (.lst ((BB ks Q).map Kd.P)),.is (.int 9),.is (.lst (W.map .str)),.own (BZ ks Ms),.is (.int d),.ow false (Hc a M λx=>wv ks (x,d)),.own (L.map .str),r,q,o]/\L.Nodup/\M.Nodup/\(∀x,x∈Q↔x∈L∨x∈M)/\(∀x∈L,x∉M)) W.length ⟨W,[],_,_,_,rfl,rfl,kg,GC,λx=>by rw[U];simp,λx _ h=>by cases h⟩ ?_));rintro n A7⟨L,M,r,q,o,rfl,rfl,K6,Tu,Ln,Yg⟩;have lL:L.length<=8:=by
   have:=G1 K6 (bs:=W) λy b=>(U y).mpr ((Ln y).mpr (.inl b));omega
  have lMm:M.length<=8:=by
   have:=G1 Tu (bs:=W) λy b=>(U y).mpr ((Ln y).mpr (.inr b));omega
  refine Az (cH (MU rfl ⟨L,rfl,C8 (BM (Iv (Ck ⟨by decide,_,.inl ⟨rfl,rfl,[],rfl,_,rfl,?_⟩⟩)))⟩))
  by_cases ne:L=[]
  .subst ne;refine Cf (by decide) ?_;refine Zh 5 rfl ?_;rw[WO];have es:BZ ks Ms++[Rx M λx=>wv ks (x,d)]=BZ ks (Ms++[M]):=by rw[qZ,I];rfl
   refine OL (i:=3) rfl (A1 rfl ⟨by rw[NW];omega,?_⟩);rw[es];refine⟨Ms++[M],_,_,_,_,_,_,rfl,by rw[Bj,I];rfl,λM' h=>?_⟩
   .rcases List.mem_append.mp h with h|h
    .exact G M' h
    .rw[List.mem_singleton.mp h];exact⟨Tu,λx=>by rw[Ln];simp⟩
  rw[jo ne];refine Ej rfl ?_;have Du:List.map GG [.is (.lst ((BB ks Q).map Kd.P)),.is (.int 9),.is (.lst (W.map .str)),.own (BZ ks Ms),.is (.int d),.ow false (Hc a M λx=>wv ks (x,d)),.own (L.map .str),r,q,o]=[.is (.lst ((BB ks Q).map Kd.P)),.is (.int 9),.is (.lst (W.map .str)),.is (.lst (BZ ks Ms)),.is (.int d),.is (Hc a M λx=>wv ks (x,d)).pv,.is (.lst (L.map .str)),GG r,GG q,GG o]:=rfl;have D:∀{y},y∈L->y∈Q:=λh=>(Ln _).mpr (.inl h);refine AN (Dk (U1 ?_));rw[Du,WO];refine E5 PV.str (λy=>(Bp ks y "next").all λz=>decide (z∈M)) (λy=>PV.str y) (C1 (C6 (A1 rfl ⟨_,.inl ⟨rfl,L,rfl,by omega,λy b=>?_,λy _ _=>A1 rfl rfl,?_⟩⟩))) str_inj
  .have l3:=HU g y "next"
   refine HG (fM rfl (C8 (BM (E5 PV.str (λ_=>true) (λz=>PV.bl (decide (z∈M))) (C1 (C6 (BM (FH (AV (A1 rfl (AV (A1 rfl (AV (CT (BQ ⟨_,⟨ks,Q,y, "next", rfl,g,t.sub g V (D b),D b,by decide +kernel,rfl⟩,?_⟩))))))))))) str_inj))))
   rintro _ rfl;refine⟨_,.inl ⟨rfl,Bp ks y "next", rfl,by omega,λ_ _=>FN rfl,λz _ _=>oA (A1 rfl (A1 rfl ⟨B2 M,_,.inr z,rfl,rfl,?_⟩)),?_⟩⟩
   .rw[OI]
   .rw[List.filter_eq_self.mpr λ_ _=>rfl];refine⟨_,.inl ⟨rfl,rfl,(Bp ks y "next").map λz=>decide (z∈M),by rw[CH];rfl,_,rfl,?_⟩⟩
    rw[List.all_map];rfl
  obtain⟨x0,Qm,zO⟩:=xY (f:=Ax ks "ahead") J.1 (λx hx=>t.HF J (D hx)) ne;have aA:∀{z:Str},z∈(L.filter λy=>(Bp ks y "next").all λz=>decide (z∈M))↔z∈L/\∀y∈Bp ks z "next", y∈M:=λ{z}=>by
   rw[hZ,Gq];exact⟨λh=>⟨h.1,λy b=>jG (h.2 y b)⟩,λh=>⟨h.1,λy b=>jE (h.2 y b)⟩⟩
  obtain⟨x,rest,eF⟩:∃x rest,(L.filter λy=>(Bp ks y "next").all λz=>decide (z∈M))=x::rest:=by
   have σ:=aA.mpr ⟨Qm,λy b=>((Ln y).mp (t.T2 (D Qm) (N8 (by decide +kernel) b))).elim (λz=>absurd z (zO y (N8 (by decide +kernel) b))) id⟩;cases e:L.filter λy=>(Bp ks y "next").all λz=>decide (z∈M)with
   |nil=>rw[e]at σ;cases σ
   |cons x rest=>exact⟨x,rest,rfl⟩
  obtain⟨B,xM⟩:=aA.mp (show x∈_ by rw[eF];simp);rw[eF];have C:=D B;have X:=t.sub g V C;have es:=iw g J (d:=d) (t.HF J C);refine⟨Ob _ (λ_=>by simp[De]) _,?_⟩;refine G7 7 rfl ?_;refine AN (Bc (Az (cF (Ct rfl ⟨x::rest,rfl,C8 (BM (Iv (Ck ⟨by decide,_,.inl ⟨rfl,rfl,[],rfl,_,rfl,Cf (by simp) (BN ?_)⟩⟩)))⟩))));refine AN (CB (Hy (Ct rfl ⟨rfl,AZ ⟨0,.str x,rfl,(L2.Fp (j:=0) rfl:L2.Bm (List.map (λy=>PV.str y) (x::rest)) ((0:Nat):Int)=_),?_⟩⟩)));refine AN (CB (AZ ?_));generalize eR:PV.lst (List.map (λy=>PV.str y) (x::rest))=R7;obtain⟨Mm,N⟩:∃Mm:Int,Mm=if d=0 then 1 else((Bp ks x "last").map λy=>wv ks (y,d - 1)).sum:=⟨_,rfl⟩
  refine MJ (λA7=>A7=[.is (.lst ((BB ks Q).map Kd.P)),.is (.int 9),.is (.lst (W.map .str)),.own (BZ ks Ms),.is (.int d),.ow false (Hc a M λx=>wv ks (x,d)),.own (L.map .str),.is R7,.is (.str x),.is (.int Mm)]) ?_ ?_
  .refine Cu (Bc (Az (Ol (A1 rfl ⟨_,rfl,AZ ⟨_,rfl,_,rfl,BY (λc=>?_) (λc=>BN ?_)⟩⟩))))
   .have c:¬ d=0:=by have:=jG c;omega
    rw[ib c]at N;refine CB (NI (C8 (BM (U1 ?_))));rw[show List.map GG _=[.is (.lst ((BB ks Q).map Kd.P)),.is (.int 9),.is (.lst (W.map .str)),.is (.lst (BZ ks Ms)),.is (.int d),.is (Hc a M λx=>wv ks (x,d)).pv,.is (.lst (L.map .str)),.is R7,.is (.str x),.is (.int 1)]from rfl];refine E5 PV.str (λ_=>true) (λy=>PV.int (wv ks (y,d - 1))) (C1 (C6 (BM (FH (AV (A1 rfl (AV (A1 rfl (AV (CT (BQ ⟨_,⟨ks,Q,x, "last", rfl,g,X,C,by decide +kernel,rfl⟩,?_⟩))))))))))) str_inj;rintro _ rfl;have l3:=HU g x "last";obtain⟨M1,Y2⟩:∃M1,Ms[d - 1]?=some M1:=⟨_,Ah (by omega)⟩;have qE:=G M1 (Bo Y2);refine⟨_,.inl ⟨rfl,Bp ks x "last", rfl,by omega,λ_ _=>FN rfl,λy b _=>?_,?_⟩⟩
    .exact RY (js:=1) rfl (FT (A1 rfl ⟨_,rfl,AZ ⟨_,rfl,d - 1,M1,cW c,Y2,A1 rfl ⟨y,rfl,(qE.2 y).mpr (t.T2 C (N8 (by decide +kernel) b)),rfl⟩⟩⟩))
    rw[List.filter_eq_self.mpr λ_ _=>rfl];refine⟨Ob _ (λ_=>by simp[De]) _,_,.inl ⟨rfl,rfl,(Bp ks x "last").map λy=>wv ks (y,d - 1),by rw[CH];rfl,?_⟩⟩;rw[N];rfl
   .have c:d=0:=Nat.eq_zero_of_not_pos λz=>c (jE (by omega));rw[N,ir c];rfl
  rintro A7 rfl;refine AN (wj (i:=5) (ks:=B2 M) (xs:=M.map λy=>PV.int (wv ks (y,d))) rfl (FT (A1 rfl ⟨_,rfl,NI (C8 (BM (U1 ?_)))⟩)));rw[show List.map GG _=[.is (.lst ((BB ks Q).map Kd.P)),.is (.int 9),.is (.lst (W.map .str)),.is (.lst (BZ ks Ms)),.is (.int d),.is (Hc a M λx=>wv ks (x,d)).pv,.is (.lst (L.map .str)),.is R7,.is (.str x),.is (.int Mm)]from rfl,WO];refine E5 PV.str (λ_=>true) (λy=>PV.int (wv ks (y,d))) (C1 (C6 (BM (FH (AV (A1 rfl (AV (A1 rfl (AV (CT (BQ ⟨_,⟨ks,Q,x, "next", rfl,g,X,C,by decide +kernel,rfl⟩,?_⟩))))))))))) str_inj
  rintro _ rfl;have l3:=HU g x "next"
  refine⟨_,.inl ⟨rfl,Bp ks x "next", rfl,by omega,λ_ _=>FN rfl,λy b _=>O4 (A1 rfl ⟨B2 M,_,rfl,A1 rfl ⟨.inr y,_,rfl,vt (λy=>wv ks (y,d)) (xM y b),rfl⟩⟩),?_⟩⟩
  rw[List.filter_eq_self.mpr λ_ _=>rfl];refine⟨Ob _ (λ_=>by simp[De]) _,_,.inl ⟨rfl,rfl,(Bp ks x "next").map λy=>wv ks (y,d),by rw[CH];rfl,_,rfl,A1 rfl ⟨.inr x,rfl,by unfold B2;rw[AA];omega,?_⟩⟩⟩
  have Y:=Yg x B;rw[show Mm+((Bp ks x "next").map λy=>wv ks (y,d)).sum=wv ks (x,d) by rw[N,es],vU (λx=>wv ks (x,d)) Y a]
  have eL:L.eraseIdx (L.idxOf x)=L.erase x:=(List.erase_eq_eraseIdx_of_idxOf rfl).symm;have ll:=Xe B;have lp:=Xg B;refine oK (i:=6) (ns:=L) rfl (A1 rfl ⟨x,rfl,B,?_⟩);rw[eL];refine⟨_,by rw[ll];omega,L.erase x,M++[x],_,_,_,rfl,rfl,K6.erase x,?_,λy=>?_,λy b hm=>?_⟩
  .rw[CM];exact⟨Tu,List.nodup_cons.mpr ⟨Af,GC⟩,λu hu v hv e=>Y (by rw[List.mem_singleton.mp hv]at e;rw[<- e];exact hu)⟩
  .rw[Ln,PJ,ZAn,K6.mem_erase_iff]
   by_cases c:y=x
   .subst c;simp[B]
   .simp[c]
  .have h1:=K6.mem_erase_iff.mp b;rcases List.mem_append.mp hm with z|z
   .exact Yg y h1.2 z
   .exact h1.1 (List.mem_singleton.mp z)
 .rintro A7⟨Ms,s4,S,R,r,q,o,rfl,I,G⟩;exact NC rfl ⟨Ms,I,G,rfl⟩
def NB:BG ["script","k","cell","rest_here"] ["script","k"] (AX TK):=by walk_at "z1"
def oF(F:AO K "_law_pot" "_law_pot" TK f fd)(m:mg "_law_pot"=some (.ref f)):
  AE P w K mg Zj "_law_pot" 1 ["script","k"] (Nl K):=by
 refine AE.mk F (F.binds (by walk_at "bD2")) m (F.BX (k:=0) NB (λvs H Q E h=>?_) (λAY A outer s H vs Q E t h=>?_))
 .obtain⟨a,ns,k,rfl,b,k0,k1,q⟩:=h;rfl
 obtain⟨a,ns,k,rfl,b,k0,k1,q⟩:=h;refine⟨_,(AB rfl (AR 2 NB.nd A8)
   (AB rfl (Bq (B8 (An MC (qv 1) (B7 Pb By (A0 (qv 0) A6))) (AH rfl (AR 2 NB.nd (Ai Hw (Ad CJ (qv 0) (qv 1)) (Ai Jd (Ai Jd (Ai Jd (Ai J1 A8 A8) (Ai J1 A8 A8)) (Ai J1 A8 A8)) (Ai J1 A8 A8))))) BF))
   (AB rfl (AR 3 NB.nd A8)
   (AB rfl (Bq (B8 (An aM (qv 2) (Ai J1 A8 A8)) (AH rfl (AR 3 NB.nd (qv 2))) BF))
   (AH rfl (B0 (Ds (A0 (qv 3) (A0 (Ai Hw (Ai Jd (Ai FI (Ai FI (Ai Hw (qv 2) A8) (Ai Jd A8 (qv 1))) A8) A8) A8) A6))))))))),?_⟩
 have i:(ns.map V.int).length=ns.length:=AA _;refine⟨λσ' H'=>∃c:Int,σ'=[some (.ref a),some (.int k),some (.int c),none]/\H=H'/\0<=c/\c<10 ^ 256,?_,?_⟩
 .refine⟨_,rfl,_,rfl,a,_,rfl,.inl b,_,_,rfl,rfl,_,rfl,?_⟩;refine BY (λc=>?_) (λc=>?_)
  .have r:k<(((ns.map V.int).length:Nat):Int):=jG c;rw[i]at r;have hk:k.toNat<ns.length:=by omega
   have g:Bm (ns.map V.int) k=some (.int ns[k.toNat]):=M7 k0 (by rw[Am,Ah hk] <;> rfl)
   refine⟨_,rfl,_,rfl,a,_,_,_,rfl,rfl,b,g,_,_,rfl,rfl,⟨by decide,by decide,by decide +kernel⟩,_,_,rfl,rfl,⟨by decide,by decide,by decide +kernel⟩,_,_,rfl,rfl,⟨by decide +kernel,by decide +kernel⟩,_,_,rfl,rfl,⟨by decide,by decide,by decide +kernel⟩,_,_,rfl,rfl,⟨by decide +kernel,by decide +kernel⟩,
    _,_,rfl,rfl,⟨by decide,by decide,by decide +kernel⟩,_,_,rfl,rfl,⟨by decide +kernel,by decide +kernel⟩,_,_,rfl,rfl,(by show(0:Int)<_;decide +kernel),?_⟩
   exact⟨_,rfl,rfl,JZ _ (by decide +kernel),Kx _ (by decide +kernel)⟩
  .exact⟨0,rfl,rfl,by decide,by decide +kernel⟩
 rintro σ' H'⟨c,rfl,rfl,o,n⟩;refine⟨λσ' H'=>∃d:Int,σ'=[some (.ref a),some (.int k),some (.int c),some (.int d)]/\H=H'/\0<=d/\d<10 ^ 256,?_,?_⟩
 .refine⟨_,rfl,_,_,rfl,rfl,⟨by decide,by decide,by decide +kernel⟩,_,_,rfl,rfl,_,rfl,?_⟩;refine BY (λ_=>?_) (λ_=>?_)
  .exact⟨_,rfl,c,rfl,rfl,o,n⟩
  .exact⟨0,rfl,rfl,by decide,by decide +kernel⟩
 rintro σ' H'⟨d,rfl,rfl,l,j⟩;have e0:0<=c % 2147483629:=JZ _ (by decide);have u:c % 2147483629<2147483629:=Kx _ (by decide);refine⟨_,rfl,_,rfl,_,_,rfl,rfl,(by show(0:Int)<2147483629;decide),_,rfl,_,_,rfl,rfl,⟨by decide +kernel,OW (by omega) (by omega)⟩,_,_,rfl,rfl,_,_,rfl,rfl,_,_,rfl,rfl,⟨OW (by omega) (by omega),by decide +kernel⟩,_,_,rfl,rfl,(by show(0:Int)<2147483647;decide),?_⟩;refine⟨(by show 2<=sizeLine;decide),λp e=>?_⟩;exact q p _ e (DG e _) ⟨d,_,Al,l,j,JZ _ (by decide),Kx _ (by decide)⟩
def k8:BG ["self"] ["self"] (AX Vv):=by walk_at "z1"
def fi:∀ss R,(RE A3) ss R->ss.length=1:=by rintro _ _⟨ks,rfl,_,rfl⟩;rfl
def ua(F:AO K "words" "Errands.words" Vv f fd)(a:Meth K A3 "words" f):
  J5 P w K mg Zj A3 "words" 1 ["self"] (Ac (RE A3)):=by
 refine⟨f,fd,F.BX (k:=0) k8 (λvs H Q E h=>Fz.Cs fi h) (λAY A outer s H vs Q E b h=>?_),(F.binds (by walk_at "bD1")),a,Ef⟩
 refine⟨_,(AH rfl (B0 (IT (qd rfl) Ey (A0 (NN (qv 0)) A6)))),?_⟩;refine Fz.Cq h fi ?_;rintro _ _⟨ks,rfl,g,rfl⟩;show Ws [_] _ _ _;have l8:=g.l8;refine JX (yH (Tn (A1 rfl ⟨A3,GS,_,0,_,rfl,Ef,GK,by decide +kernel,rfl,B2 (wk ks),_,rfl,by unfold B2;rw[AA,AA];omega,w8 _⟩)))
def fj:BG ["book","crowd","word"] ["book","crowd"] (AX SM):=by walk_at "z1"
def Za:∀ss R,(Ve A3) ss R->ss.length=2:=by rintro _ _⟨ks,tp,cs,rfl,_,_,_,rfl⟩;rfl
def kR(F:AO K "check_crowd" "check_crowd" SM f fd)(m:mg "check_crowd"=some (.ref f)):
  AE P w K mg Zj "check_crowd" 2 ["book","crowd"] (Ac (Ve A3)):=by
 refine AE.mk F (F.binds (by walk_at "bD2")) m (F.BX (k:=1) fj (λvs H Q E h=>Fz.Cs Za h) (λAY A outer s H vs Q E a h=>?_))
 refine⟨_,(AB rfl (B8 (An O2 (B7 Kr By (A0 (qv 1) A6)) (CY (v:=.int 12) (by rfl) U7 ⟨_,rfl⟩)) (AH rfl Jv) BF)
   (AH rfl (DT Cp rfl (Bi (qv 1)) (CQ 2 fj.nd) (AH rfl (DK (Ab Ht a (A0 (ZH MK a (by decide) (qv 0)) (A0 (qv 2) A6)))))))),?_⟩
 refine Fz.Cq h Za ?_;rintro _ _⟨ks,tp,cs,rfl,g,e,d,rfl⟩;show Ws [_,_,.any] _ _ _;have l8:=g.l8
 walk_at "ww"
 rw[AA];refine Cf (λc=>by have:=jG c;omega) (BN ?_);refine Dz (λ_ i A7=>∃(s2:Slot),A7=[.is (Aw A3 ks),.sq tp (cs.map .str),s2]) ?_
 walk_at "ww"
 refine⟨⟨_,rfl⟩,?_,?_⟩
 .rintro i p A7 b⟨s2,rfl⟩;rw[Am]at b;obtain⟨c,ex,rfl⟩:=Option.map_eq_some_iff.mp b;refine FY ?_;refine J7 (wp_call (AV (BM (OU (A1 rfl ⟨GS,_,rfl,by decide +kernel,BQ ⟨_,⟨ks,rfl,g,rfl⟩,?_⟩⟩)))));rintro _ rfl;refine AV (A1 rfl (BQ ⟨_,⟨wk ks,_,c,rfl,.inl rfl,by rw[AA];omega,d c (Bo ex),rfl⟩,?_⟩));rintro _ rfl;exact⟨_,rfl⟩
 .rintro A7⟨s2,rfl⟩;exact⟨_,rfl,rfl⟩
def yi:BG ["self","word"] ["self","word"] (AX Tx):=by walk_at "z1"
def c4:∀ss R,(Pq A3) ss R->ss.length=2:=by rintro _ _⟨ks,x,rfl,_,_,rfl⟩;rfl
def kh(F:AO K "puts" "Errands.puts" Tx f fd)(b:Meth K A3 "puts" f):
  J5 P w K mg Zj A3 "puts" 2 ["self","word"] (Ac (Pq A3)):=by
 refine⟨f,fd,F.BX (k:=1) yi (λvs H Q E h=>Fz.Cs c4 h) (λAY A outer s H vs Q E a h=>?_),(F.binds (by walk_at "bD2")),b,Ef⟩
 refine⟨_,(AB rfl (DK (Ab Ht a (A0 (NN (qv 0)) (A0 (qv 1) A6))))
   (AH rfl (B0 (IT Ra Ey (A0 (II (Dc a) (NN (qv 0)) (qv 1) (λ_ _=>rfl)) A6))))),?_⟩
 refine Fz.Cq h c4 ?_;rintro _ _⟨ks,x,rfl,g,hx,rfl⟩;show Ws [_,_] _ _ _;have l8:=g.l8;obtain⟨k,d,_,c,_,_⟩:=g.at hx;refine AN (J7 (wp_call (AV (Tn (A1 rfl ⟨A3,GS,_,0,_,rfl,Ef,GK,by decide +kernel,rfl,AV (A1 rfl (BQ ⟨_,⟨wk ks,_,x,rfl,.inr ⟨_,rfl⟩,by rw[AA];omega,hx,rfl⟩,?_⟩))⟩)))));rintro _ rfl;refine JX (RN rfl (C8 (O4 (Tn (A1 rfl ⟨A3,GS,_,0,_,rfl,Ef,GK,by decide +kernel,rfl,B2 (wk ks),_,rfl,A1 rfl ⟨.inr x,_,rfl,QM hx (by rw[Am,d];rfl),_,.inr ⟨rfl,?_⟩⟩⟩)))));rw[c]
def qO:BG ["book","word","rule"] ["book","word","rule"] (AX Qr):=by walk_at "z1"
def vZ:=Sc [(".0",.local),("put",.local),("WHERES_AHEAD",.globalImplicit),("rule",.free)]
def t8:C7 ["book","word","rule"] (AX Qr) vZ "put" ["rule"] [2]:=by walk_at "z2"
def aa:∀ss R,(Rb A3) ss R->ss.length=3:=by rintro _ _⟨ks,x,r,rfl,_,_,_,rfl⟩;rfl
def sE(F:AO K "comers_of" "comers_of" Qr f fd)(m:mg "comers_of"=some (.ref f)):
  AE P w K mg Zj "comers_of" 3 ["book","word","rule"] (Ac (Rb A3)):=by
 refine AE.mk F (F.binds (by walk_at "bD3")) m (F.BX (k:=2) qO (λvs H Q E h=>Fz.Cs aa h) (λAY A outer s H vs Q E b h=>?_))
 refine⟨_,(AB rfl (B8 (An Cc (qv 2) Ar) (AH rfl (B0 (Ds A6))) BF)
   (AH rfl (B0 (EA rfl t8 (Bi (Sk Kh b (by decide) (qv 0) (A0 (qv 1) A6))) (λ_ _ _ _=>by exact(IY (Sf (An Cc (qv 0) Ar) (Uh (An (show B6 _ (compareOp .In) (IQ K false)from Ir) (Ad (show Cb _ (DA K)from BL) (qv 1) A8) (CY (v:=.ref JP) (by rfl) Tz rfl)))).pt)) (λ_ _ _ _=>by exact(qv 1)))))),?_⟩
 refine Fz.Cq h aa ?_;rintro _ _⟨ks,x,r,rfl,g,hx,b,rfl⟩;have C:JE K JP (Dw.map .str):=JE.of XR rfl rfl;show Ws [_,_,_] _ _ _;have i:=(g.JY x).1
 walk_at "ww"
 refine BY (λc=>?_) (λc=>BN ?_)
 .have e:r="none" := jG c
  walk_at "ww"
  refine⟨by decide,?_⟩;unfold GY;rw[ir e];rfl
 .have e:¬ r="none" := λz=>c (jE z);refine JX (E5 Ay (λp=>decide (r="all") || decide (p.1∈Dw)) Ay (C1 (C6 (BM (OU (A1 rfl ⟨GS,_,rfl,by decide +kernel,AV (A1 rfl (BQ ⟨_,⟨ks,x,rfl,g,hx,rfl⟩,?_⟩))⟩))))) Qn);rintro _ rfl;refine⟨_,.inl ⟨rfl,Df ks x,rfl,by omega,λp d=>?_,λp d _=>A1 rfl rfl,?_⟩⟩
  .refine Uz (Az (Cj (A1 rfl (CT ⟨rfl,_,rfl,?_⟩))));show if decide (r="all")=true then _ else _
   refine BY (λa=>by rw[a];rfl) (λa=>?_);refine Az (Yt (neg:=false) C (CN (CK rfl ⟨rfl,AZ ⟨_,_,rfl,rfl,p.1,rfl,_,rfl,?_⟩⟩)));rw[Bool.eq_false_iff.mpr a];rfl
  .unfold GY;rw[ib e]
def Oj:BG ["book","rule","way","settled","put","first","found"] ["book","rule","way","settled"] (AX RM):=by walk_at "z1"
def cZ:∀ss R,(Jy A3 n) ss R->ss.length=4:=by rintro _ _⟨ks,r,V,x,L,a,rfl,_,_,_,_,_,_,_,_,_,_,rfl⟩;rfl
def zq(n:Nat)(F:AO K "ring_along" "ring_along" RM f fd)(m:mg "ring_along"=some (.ref f))(Mz:AE P w K mg Zj "ring_along" (4+n) ["book","rule","way","settled"] (C2 (Jy A3 (n)))):
  AE P w K mg Zj "ring_along" (4+n+1) ["book","rule","way","settled"] (C2 (Jy A3 (n+1))):=by
 refine AE.mk F (F.binds (by walk_at "bD4")) m (F.BX (k:=4+n) Oj (λvs H Q E h=>Fz.Pu cZ h) (λAY A outer s H vs Q E e h=>?_))
 refine⟨_,(AB rfl (B8 (iQ (Dc e) (Ad CJ (qv 2) (Q2 QF A8)) (qv 3)) (AH rfl (B0 GF)) BF)
   (AB rfl (Bq (DT Cp rfl (Bi (Ab (hk:=by omega) OG e (A0 (qv 0) (A0 (Ad CJ (qv 2) (Q2 QF A8)) (A0 (qv 1) A6))))) (CQ 4 Oj.nd) (AB rfl (B8 (An Ir (Ad BL (qv 4) A8) (qv 2)) (AB rfl (AR 5 Oj.nd (G8 Fn ZAw PySem.F.type_list_index z6 (qv 2) (A0 (Ad BL (qv 4) A8) A6)))
   (AH rfl (B0 (D4 (A0 (O3 Sz (qv 2) Oc (LQ (Ai FI (qv 5) A8))) (A0 (O3 Sz (qv 2) (LQ (qv 5)) Oc) A6)))))) BF)
   (AB rfl (AR 6 Oj.nd (Ab (hk:=by omega) Mz e (A0 (qv 0) (A0 (qv 1) (A0 (Ai R3 (qv 2) (Ds (A0 (Ad BL (qv 4) A8) A6))) (A0 (qv 3) A6))))))
   (AH rfl (B8 (An Qi (qv 6) GF) (AH rfl (B0 (qv 6))) BF))))))
   (AB rfl (NA (Dc e) (qv 3) (Ad CJ (qv 2) (Q2 QF A8)) JD)
   (AH rfl (B0 GF))))),?_⟩
 refine Fz.TM h cZ ?_;rintro _ _⟨ks,r,V,x,L,a,rfl,g,e,T,nd,sub,ch,C,D,K6,G,rfl⟩;show Ws [_,_,_,_,.any,.any,.any] _ _ _;have l8:=g.l8;have B:x∈wk ks:=sub x (by simp);have S:(V++[x]).length<=8:=by
  have:=G1 nd sub;rw[AA]at this;omega
 have lst:∀{ss:List Slot}{k:PV->Prop},ss[2]?=some (.is (.lst ((V++[x]).map .str)))->k (.str x)->Wp ss (BU (Iw K) (Ap 2) (RF (rU λi=>.int (-i)) (tC (.int 1)))) k:=λh hk=>Hy (Ct h ⟨rfl,SA (AZ ⟨_,rfl,_,_,rfl,xb V x,hk⟩)⟩);refine AN (Bc (HG (jw (lst rfl (Hq (i:=3) rfl ⟨B2 L,a,_,.inr x,rfl,rfl,_,rfl,?_⟩)))));rw[OI];refine BY (λc=>?_) (λc=>BN ?_)
 .exact LZ (i:=3) rfl (EC ⟨L,rfl,.inl ⟨rfl,D,K6,G,λy h=>h,C,jG c⟩⟩)
 have hx:x∉L:=λz=>c (jE z);refine AN (Cu (Dz (λxs i A7=>∃(L':List Str)(s4 u t:Slot),A7=[.is (Aw A3 ks),.is (.str r),.is (.lst ((V++[x]).map .str)),.ow true (LK a L'),s4,u,t]/\Top (Ax ks r) L'/\L'.Nodup/\(∀y∈L',y∈wk ks)/\(∀y∈L,y∈L')/\(∀y∈V++[x],y∉L')/\∀p∈(GY ks r x).take i,p.2∈L') (C1 (C6 (BM (FH (AV (A1 rfl (AV (lst rfl (AV (A1 rfl (BQ ⟨_,⟨ks,x,r,rfl,g,B,e,rfl⟩,?_⟩)))))))))))));rintro _ rfl;refine⟨_,.inl ⟨rfl,⟨L,_,_,_,rfl,D,K6,G,λy h=>h,λy b=>?_,λp d=>absurd d (by simp)⟩,?_,?_⟩⟩
 .rcases List.mem_append.mp b with h|h
  .exact C y h
  .rw[List.mem_singleton.mp h];exact hx
 .rintro i q A7 o⟨L',s4,u,t,rfl,Kk,Ga,JK,SY,l,IL⟩;rw[Am]at o;obtain⟨p,J,rfl⟩:=Option.map_eq_some_iff.mp o;have N:=Bo J;have pn:p.2∈Ax ks r x:=List.mem_map.mpr ⟨p,N,rfl⟩;refine FY ?_;refine AN (Bc (Az (LO (CN (CK rfl ⟨rfl,AZ ⟨_,_,rfl,rfl,p.2,rfl,Ct rfl ⟨V++[x],rfl,_,rfl,?_⟩⟩⟩)))));refine BY (λc=>?_) (λc=>BN ?_)
  .have d:=jG c;have hi:=List.idxOf_lt_length_iff.mpr d;refine AN (CB (YG (Ct rfl ⟨rfl,V++[x],rfl,CN (CK rfl ⟨rfl,AZ ⟨_,_,rfl,rfl,p.2,rfl,d,?_⟩⟩)⟩)));refine LZ (i:=3) rfl (DX (Bb (BM (W7 (Ct rfl ⟨rfl,Vh (RL (FT (A1 rfl ⟨_,rfl,AZ ⟨_,rfl,_,rfl,?_⟩⟩)))⟩)))));refine Bb (BM (W7 (Ct rfl ⟨rfl,RL (A1 rfl ⟨_,rfl,Vh (Ck ⟨by show 2<=100000;decide,L',rfl,.inr ⟨V++[x],(V++[x]).idxOf p.2,?_,List.prefix_refl _,nd,ch,sub,p.2,x,?_,?_,pn⟩⟩)⟩)⟩)))
   .rw[Wk,Wk];unfold X8;rw[show Eg (V++[x]) none (some (((V++[x]).idxOf p.2:Nat)+1:Int))=(V++[x]).take ((V++[x]).idxOf p.2+1)from yS (V++[x]) _,show Eg (V++[x]) (some (((V++[x]).idxOf p.2:Nat):Int)) none=(V++[x]).drop ((V++[x]).idxOf p.2)from ZAL (V++[x]) _]
   .rw[Ah hi,MZ hi]
   .simp
  .have d:p.2∉V++[x]:=λz=>c (jE z);refine AN (RU (i:=3) (Nc rfl (FL (A1 rfl (FL (A1 rfl (FL (BM (N0 (Ct rfl ⟨rfl,C8 (BM (Iv (Bb (CN (CK rfl ⟨rfl,AZ ⟨_,_,rfl,rfl,Ck ⟨by show 1<=100000;decide,?_⟩⟩⟩)))))⟩))))))))));refine⟨_,.inl ⟨rfl,rfl,by rw[AA];show _+1<=_;omega,O7 rfl (L7 ⟨_,⟨ks,r,V++[x],p.2,L',a,by rw[Bn (l₁:=V++[x])];rfl,g,e,by rw[Bj,Il];omega,N2 nd d,λy b=>?_,ch.snoc pn,l,Kk,Ga,JK,rfl⟩,?_⟩)⟩⟩
   .rcases List.mem_append.mp b with h|h
    .exact sub y h
    .rw[List.mem_singleton.mp h];exact g.Uj pn
   rintro q t'⟨L2,rfl,o⟩;refine⟨_,_,rfl,?_⟩;rcases o with⟨rfl,V0,Gm,U0,MB,R,p2⟩|⟨W,j,rfl,pre,M⟩
   .refine Bc (Az (KJ (A1 rfl (EC ⟨rfl,_,rfl,Cf (by decide) (BN ⟨L2,_,_,_,rfl,V0,Gm,U0,λy h=>MB y (SY y h),R,λz I=>?_⟩)⟩))));rw[KN J]at I;rcases List.mem_append.mp I with h|h
    .exact MB _ (IL z h)
    .rw[List.mem_singleton.mp h];exact p2
   .refine Bc (Az (KJ (A1 rfl (EC ⟨rfl,_,rfl,Ej rfl ?_⟩))));exact LZ (i:=3) rfl (A1 rfl ⟨L2,rfl,.inr ⟨W,j,rfl,(List.prefix_append _ _).trans pre,M⟩⟩)
 .rintro A7⟨L',s4,u,t,rfl,Kk,Ga,JK,SY,l,IL⟩;rw[AA,GD]at IL;have v:x∉L':=l x (by simp);have O:=G1 Ga JK;rw[AA]at O;refine AN (T8 (i:=3) (IF (ME (Hq rfl ⟨true,a,B2 L',_,rfl,rfl,by rw[AA];omega,WT Ga,Af,lst rfl ⟨.inr x,rfl,?_⟩⟩))));rw[OV.HR,OQ v,WC v];refine LZ (i:=3) rfl (EC ⟨L'++[x],?_,.inl ⟨rfl,Kk.snoc λy b=>?_,N2 Ga v,λy b=>?_,λy b=>by simp[SY y b],λy b m=>?_,by simp⟩⟩)
  .unfold LK;rw[Bn];rfl
  .obtain⟨p,d,rfl⟩:=List.mem_map.mp b;exact IL p d
  .rcases List.mem_append.mp b with h|h
   .exact JK y h
   .rw[List.mem_singleton.mp h];exact B
  .rcases List.mem_append.mp m with h|h
   .exact l y (by simp[b]) h
   .rw[List.mem_singleton.mp h]at b;exact(List.nodup_append.mp nd).2.2 x b x (by simp) rfl
def v8(F:AO K "ring_along" "ring_along" RM f fd)(m:mg "ring_along"=some (.ref f)):AE P w K mg Zj "ring_along" 13 ["book","rule","way","settled"] (C2 (Jy A3 9)):=by
 have z:∀n:Nat,AE P w K mg Zj "ring_along" (4+n) ["book","rule","way","settled"] (C2 (Jy A3 (n))):=λn=>by
  induction n with
  |zero=>exact AE.mk F (F.binds (by walk_at "bD4")) m (F.BX (k:=3) Oj (λvs H Q E h=>(Fz.Lv (gF) h).elim) (λAY A outer s H vs Q E b h=>(Fz.Lv (gF) h).elim))
  |succ n a=>exact zq (A3:=A3) OG n F m a
 exact z 9
def Pl:BG ["book","crowd","rule","settled","word","found"] ["book","crowd","rule"] (AX UP):=by walk_at "z1"
def dP:∀ss R,(XD A3) ss R->ss.length=3:=by rintro _ _⟨ks,tp,cs,r,rfl,_,_,_,_,rfl⟩;rfl
def zj(F:AO K "way_and_ring" "way_and_ring" UP f fd)(m:mg "way_and_ring"=some (.ref f))(Mz:AE P w K mg Zj "ring_along" 13 ["book","rule","way","settled"] (C2 (Jy A3 9))):
  AE P w K mg Zj "way_and_ring" 14 ["book","crowd","rule"] (Ac (XD A3)):=by
 refine AE.mk F (F.binds (by walk_at "bD3")) m (F.BX (k:=13) Pl (λvs H Q E h=>Fz.Cs dP h) (λAY A outer s H vs Q E n h=>?_))
 refine⟨_,(AB rfl (AR 3 Pl.nd PL)
   (AB rfl (Bq (DT Cp rfl (Bi (qv 1)) (CQ 4 Pl.nd) (AB rfl (AR 5 Pl.nd (Ab Mz n (A0 (qv 0) (A0 (qv 2) (A0 (Ds (A0 (qv 4) A6)) (A0 (qv 3) A6))))))
   (AH rfl (B8 (An Qi (qv 5) GF) (AH rfl (B0 (qv 5))) BF)))))
   (AH rfl (B0 GF)))),?_⟩
 refine Fz.Cq h dP ?_;rintro _ _⟨ks,tp,cs,r,rfl,g,n,l,u,rfl⟩;show Ws [_,_,_,.any,.any,.any] _ _ _;refine AN (Ni (Q6 λa=>?_));show Ws [_,_,_,.ow false (LK a []),.any,.any] _ _ _;refine AN (Cu (Dz (λxs i A7=>∃(L':List Str)(s4 e:Slot),A7=[.is (Aw A3 ks),.sq tp (cs.map .str),.is (.str r),.ow false (LK a L'),s4,e]/\Top (Ax ks r) L'/\L'.Nodup/\(∀y∈L',y∈wk ks)/\∀y∈cs.take i,y∈L') ?_))
 walk_at "ww"
 refine⟨⟨[],_,_,rfl,Top.nil,GC,λy b=>absurd b Af,λy b=>absurd b (by simp)⟩,?_,?_⟩
 .rintro i q A7 d⟨L',s4,e,rfl,Kk,Ga,JK,IL⟩;rw[Am]at d;obtain⟨c,o,rfl⟩:=Option.map_eq_some_iff.mp d;have p:=Bo o;refine FY ?_;refine AN (RU (i:=3) (Nc rfl (FL (A1 rfl (FL (A1 rfl (FL (BM (Iv (Bb (A1 rfl (Ck ⟨by show 1<=100000;decide,?_⟩))))))))))));refine O7 rfl (L7 ⟨_,⟨ks,r,[],c,L',a,rfl,g,n,by decide,by simp,λy b=>?_,Ih.one c,λy b=>absurd b Af,Kk,Ga,JK,rfl⟩,?_⟩)
  .rw[Mc,ZAn]at b;rw[b];exact u c p
  rintro q t'⟨L2,rfl,d⟩;refine⟨_,_,rfl,?_⟩;rcases d with⟨rfl,V0,Gm,U0,MB,x,p2⟩|⟨W,j,rfl,pre,t⟩
  .refine Bc (Az (KJ (A1 rfl (EC ⟨rfl,_,rfl,Cf (by decide) (BN ⟨L2,_,_,rfl,V0,Gm,U0,λz l=>?_⟩)⟩))));rw[KN o]at l;rcases List.mem_append.mp l with h|h
   .exact MB _ (IL z h)
   .rw[List.mem_singleton.mp h];exact p2
  .refine Bc (Az (KJ (A1 rfl (EC ⟨rfl,_,rfl,Ej rfl ?_⟩))));obtain⟨W2,v⟩:=pre;refine FA (A1 rfl (.inr ⟨W,j,c,rfl,t,?_,p⟩));rw[<- v];rfl
 .rintro A7⟨L',s4,e,rfl,Kk,Ga,JK,IL⟩;rw[AA,GD]at IL;exact FA (EC (.inl ⟨rfl,L',Kk,Ga,JK,IL⟩))
def uP:BG ["book","crowd","rule"] ["book","crowd","rule"] (AX UK):=by walk_at "z1"
def eB:∀ss R D,(TU A3 B9) ss R D->ss.length=3:=by rintro _ _ _⟨ks,tp,cs,r,rfl,_,_,_,_,rfl,rfl⟩;rfl
def ix(F:AO K "check_ends" "check_ends" UK f fd)(m:mg "check_ends"=some (.ref f)):
  G2 P w K mg Zj "check_ends" 15 ["book","crowd","rule"] (IC (TU A3 B9)):=by
 refine G2.mk F (F.binds (by walk_at "bD3")) m (F.Y8 (k:=14) uP (λvs H Q E h=>Fz.fw eB h) (λAY A outer s H vs Q E a h=>?_))
 refine⟨_,(AH rfl (B8 (An Qi (Ab Vb a (A0 (qv 0) (A0 (qv 1) (A0 (qv 2) A6)))) GF) (AH rfl (u4 (by rfl) MI Sn rfl rfl b4 (A0 Ar A6))) BF)),?_⟩;refine Fz.fT h eB ?_;rintro _ _ _⟨ks,tp,cs,r,rfl,g,a,j,l,rfl,rfl⟩;intro i0;show Ws [_,_,_] _ _ _;refine Bc (Az (KJ (wp_call (AV (A1 rfl (GI (LJ rfl (AV (A1 rfl (BQ ⟨_,⟨ks,tp,cs,r,rfl,g,a,j,l,rfl⟩,?_⟩))))))))));rintro _(⟨rfl,T,b,Dr,d,HF⟩|⟨W,i,c,rfl,e,n,hx⟩)
 .exact EC ⟨rfl,_,rfl,Cf (by decide) (BN ⟨_,rfl,rfl,T,b,Dr,d,HF⟩)⟩
 .refine EC ⟨rfl,_,rfl,Ej rfl ?_⟩;refine iq ?_
  walk_at "ww"
  exact⟨by simp,trivial,oz e ⟨c,n,hx⟩,rfl⟩
def fW:BG ["book","branch","nexts"] ["book","branch"] (AX PB):=by walk_at "z1"
def ko:=Sc [(".0",.local),("put",.local),("branch",.free)]
def ze:C7 ["book","branch","nexts"] (AX PB) ko "put" ["branch"] [1]:=by walk_at "z2"
def zH:=Sc [(".0",.local),("put",.local),("branch",.free)]
def xj:C7 ["book","branch","nexts"] (AX PB) zH "put" ["branch"] [1]:=by walk_at "z2"
def ZM:∀ss R,(Ku A3) ss R->ss.length=2:=by rintro _ _⟨ks,b,rfl,_,_,rfl⟩;rfl
def zh(F:AO K "parts_of" "parts_of" PB f fd)(m:mg "parts_of"=some (.ref f)):
  AE P w K mg Zj "parts_of" 3 ["book","branch"] (Ac (Ku A3)):=by
 refine AE.mk F (F.binds (by walk_at "bD2")) m (F.BX (k:=2) fW (λvs H Q E h=>Fz.Cs ZM h) (λAY A outer s H vs Q E a h=>?_))
 refine⟨_,(AB rfl (Lj (i:=2) fW.nd rfl (Or.inl rfl) rfl ze (Bi (Sk Kh a (by decide) (qv 0) (A0 (Ad BL (qv 1) A8) A6))) (λ_ _ _ _=>by exact(IY (An Cc (Ad (show Cb _ (DA K)from BL) (qv 1) A8) Ar))) (λ_ _ _ _=>by exact(D4 (A0 (Ad (show Cb _ (DA K)from BL) (qv 1) A8) (A0 (Ad (show Cb _ (DA K)from BL) (qv 0) A8) A6)))))
   (AB rfl (B8 (An Cc (Ad BL (qv 1) A8) A8) (AH rfl (B0 (qv 2))) BF)
   (AH rfl (B0 (Ai R3 (EA rfl xj (Bi (Sk Kh a (by decide) (qv 0) (A0 (Ad BL (qv 1) A8) A6))) (λ_ _ _ _=>by exact(IY (An Cc (Ad (show Cb _ (DA K)from BL) (qv 1) A8) Ar))) (λ_ _ _ _=>by exact(D4 (A0 (Ad (show Cb _ (DA K)from BL) (qv 1) A8) (A0 (Ai Gn (Ad (show Cb _ (DA K)from BL) (qv 0) A8) A8) A6))))) (qv 2)))))),?_⟩
 refine Fz.Cq h ZM ?_;rintro _ _⟨ks,b,rfl,g,d,rfl⟩;show Ws [_,_,.any] _ _ _;have j:=(g.JY b.1).1;refine AN (Dk (E5 Ay (λp=>decide (p.1="next")) (λp=>B1 (p.2,b.2)) (C1 (C6 (BM (OU (A1 rfl ⟨GS,_,rfl,by decide +kernel,AV (SS rfl (BQ ⟨_,⟨ks,b.1,rfl,g,d,rfl⟩,?_⟩))⟩))))) Qn))
 rintro _ rfl;refine⟨_,.inl ⟨rfl,Df ks b.1,rfl,by omega,λp _=>Az (Cj (WJ rfl (CT ⟨rfl,_,rfl,Q9 _ _⟩))),λp _ _=>?_,?_⟩⟩
 .exact DX (Bb (Zw rfl (Bb (OD rfl (Ck ⟨by show 2<=100000;decide,rfl⟩)))))
 rw[YF];refine AN (Bc (Az (Cj (OD rfl (AZ ⟨rfl,_,rfl,BY (λc=>?_) (λc=>BN ?_)⟩)))))
 .have e:b.2=0:=NX c;refine NC rfl ?_;unfold BS;rw[ir e];rfl
 have e:¬ b.2=0:=λz=>c (by rw[z];rfl);refine JX (N0 (C8 (BM (E5 Ay (λp=>decide (p.1="last")) (λp=>B1 (p.2,b.2 - 1)) (C1 (C6 (BM (OU (A1 rfl ⟨GS,_,rfl,by decide +kernel,AV (SS rfl (BQ ⟨_,⟨ks,b.1,rfl,g,d,rfl⟩,?_⟩))⟩))))) Qn))));rintro _ rfl;refine⟨_,.inl ⟨rfl,Df ks b.1,rfl,by omega,λp _=>Az (Cj (WJ rfl (CT ⟨rfl,_,rfl,Q9 _ _⟩))),λp _ _=>?_,?_⟩⟩
 .refine DX (Bb (Zw rfl (Bb (FT (OD rfl ⟨_,rfl,AZ ⟨_,rfl,Ck ⟨by show 2<=100000;decide,?_⟩⟩⟩)))));unfold B1;rw[show((b.2 - 1:Nat):Int)=(b.2:Int) - 1 by omega]
 rw[YF];refine⟨_,.inl ⟨rfl,rfl,MU rfl ⟨rfl,?_,?_⟩⟩⟩
 .have h1:=HU g b.1 "last";have h2:=HU g b.1 "next"
  simp only[AA];omega
 unfold BS;rw[ib e,Bn]
def S8:BG ["book","branch","known","many"] ["book","branch","known"] (AX NS):=by walk_at "z1"
def yw:=Sc [(".0",.local),("part",.local),("many_told",.globalImplicit),("book",.free),("known",.free)]
def xT:C7 ["book","branch","known","many"] (AX NS) yw "part" ["book","known"] [0,2]:=by walk_at "z2"
def fm:∀ss R,(HB A3 n) ss R->ss.length=3:=by rintro _ _⟨ks,b,T,i,M,a,rfl,_,_,_,_,_,_,rfl⟩;rfl
def rK(n:Nat)(F:AO K "many_told" "many_told" NS f fd)(m:mg "many_told"=some (.ref f))(GV:AE P w K mg Zj "many_told" (4+n) ["book","branch","known"] (C2 (HB A3 (n)))):
  AE P w K mg Zj "many_told" (4+n+1) ["book","branch","known"] (C2 (HB A3 (n+1))):=by
 refine AE.mk F (F.binds (by walk_at "bD3")) m (F.BX (k:=4+n) S8 (λvs H Q E h=>Fz.Pu fm h) (λAY A outer s H vs Q E o h=>?_))
 refine⟨_,(AB rfl (Bq (B8 (aX (Dc o) (qv 1) (qv 2)) (AB rfl (AR 3 S8.nd (B7 (K8 rfl) DS (A0 (EA rfl xT (Bi (Ab (hk:=by omega) Gv o (A0 (qv 0) (A0 (qv 1) A6)))) (λ_ _ _ _=>by exact Dv) (λ_ _ _ _=>by exact(Ab (hk:=by omega) GV o (A0 (qv 0) (A0 (qv 2) (A0 (qv 1) A6)))))) A6)))
   (AH rfl (NA (Dc o) (qv 2) (qv 1) (mx (An Cc (Ad BL (qv 1) A8) A8) (Ai FI (qv 3) A8) (qv 3))))) BF))
   (AH rfl (B0 (II (Dc o) (qv 2) (qv 1) (λ_ _=>rfl))))),?_⟩
 refine Fz.TM h fm ?_;rintro _ _⟨ks,b,T,i,M,a,rfl,g,v,Dr,B,⟨hi,Y,hd⟩,ok,rfl⟩;have I:=Bo hi;have L:T.length<=8:=by
  have l8:=g.l8;have:=G1 Dr B;rw[AA]at this;omega
 show Ws [.is (Aw A3 ks),.is (B1 b),.ow true (Be (wv ks) a M),.any] _ _ _;refine MJ (λA7=>∃(M':List Br)(J:Slot),A7=[.is (Aw A3 ks),.is (B1 b),.ow true (Be (wv ks) a M'),J]/\FG T M'/\(∀c∈M,c∈M')/\(∀c∈M',c∈M∨∃j,T[j]?=some c.1/\j<=i)/\b∈M') ?_ ?_
 .refine Cu (Bc (HG (pE (A1 rfl (Hq (i:=2) rfl ⟨wv ks,a,M,b,rfl,rfl,_,rfl,?_⟩)))))
  by_cases l:b∈M
  .rw[jE l];exact Cf (by decide) (BN ⟨M,_,rfl,ok,λc h=>h,λc h=>.inl h,l⟩)
  rw[jo l];refine Ej rfl ?_;refine AN (RU (i:=2) (ah (λn t s=>∃M',t=Be (wv ks) a M'/\FG T M'/\(∀c∈M,c∈M')/\(∀c∈M',c∈M∨∃j,T[j]?=some c.1/\j<i)/\s=(((BS ks b).take n).map (wv ks)).sum) rfl rfl (C1 (C6 (BM (FH (AV (A1 rfl (AV (A1 rfl (BQ ⟨_,⟨ks,b,rfl,g,B _ I,rfl⟩,?_⟩)))))))))));rintro _ rfl;have pl:=Rc g b;refine⟨_,.inl ⟨rfl,by rw[AA];omega,⟨M,rfl,ok,λc h=>h,λc h=>.inl h,rfl⟩,?_,?_⟩⟩
  .rintro n x nk us s hx⟨M',G,EI,P4,MV,es⟩;rw[Am]at hx;obtain⟨c,D,rfl⟩:=Option.map_eq_some_iff.mp hx;obtain⟨j,σ,V⟩:=LC v hi (Hb (Bo D)).1;rw[G];refine⟨_,⟨ks,c,T,j,M',a,rfl,g,v,Dr,B,⟨V,by omega,CU (Hb (Bo D)).2 hd⟩,EI,rfl⟩,?_⟩;rintro _ _⟨rfl,M2,rfl,GH,MB,R⟩;refine⟨_,_,_,rfl,rfl,M2,rfl,GH,λd h=>MB d (P4 d h),λd h=>?_,?_⟩
   .rcases R d h with h|⟨q,r,u⟩
    .exact MV d h
    .exact .inr ⟨q,r,by omega⟩
   .rw[es,KN D,Bn,Xj];simp
  .rintro nk us s⟨M',G,EI,P4,MV,es⟩;rw[AA,GD]at es;rw[G,es];have O:b∉M':=λz=>by
    rcases MV b z with h|⟨q,r,u⟩
    .exact l h
    .obtain⟨h1,X⟩:=List.getElem?_eq_some_iff.mp r;obtain⟨h2,W⟩:=List.getElem?_eq_some_iff.mp hi;exact List.pairwise_iff_getElem.mp Dr q i h1 h2 u (X.trans W.symm)
   have S:=EI.len L;have N:=Nx v L I;show Ws [.is (Aw A3 ks),.is (B1 b),.ow true (Be (wv ks) a M'),.is (.int ((BS ks b).map (wv ks)).sum)] _ _ _;refine r6 (i:=2) rfl (Wp.mono (k:=λp=>p=PV.int (wv ks b)) ?_ ?_)
   .refine kK (Az (Cj (OD rfl (AZ ⟨rfl,_,rfl,BY (λc=>?_) (λc=>?_)⟩))))
    .refine FT (A1 rfl ⟨_,rfl,AZ ⟨_,rfl,?_⟩⟩);rw[N];unfold Ep;rw[ir (NX c)]
    .refine A1 rfl ?_;rw[N];unfold Ep;rw[ib (λz=>c (by rw[z];rfl)),Int.add_zero]
   .rintro _ rfl;refine A1 rfl ⟨b,O,rfl,rfl,by omega,M'++[b],_,rfl,⟨?_,λc C=>?_⟩,λc h=>GB _ (P4 c h),λc C=>?_,by simp⟩
    .rw[CM];exact⟨EI.nd,List.nodup_cons.mpr ⟨Af,GC⟩,λx hx y U e=>O (by rw[List.mem_singleton.mp U]at e;rw[<- e];exact hx)⟩
    .rcases List.mem_append.mp C with h|h
     .exact EI.sub c h
     .rw[List.mem_singleton.mp h];exact⟨I,hd⟩
    .rcases List.mem_append.mp C with h|h
     .exact(MV c h).imp id λ⟨q,r,u⟩=>⟨q,r,Xk u⟩
     .rw[List.mem_singleton.mp h];exact .inr ⟨i,hi,Ae _⟩
 .rintro A7⟨M',J,rfl,EI,P4,MV,l⟩;exact LZ (i:=2) (nk:=.IJ (M'.map EE)) (a0:=a) rfl (sC (Hq (i:=2) rfl ⟨wv ks,a,M',rfl,A1 rfl ⟨b,l,rfl,rfl,M',rfl,EI,P4,MV⟩⟩))
def mU(F:AO K "many_told" "many_told" NS f fd)(m:mg "many_told"=some (.ref f)):AE P w K mg Zj "many_told" 13 ["book","branch","known"] (C2 (HB A3 9)):=by
 have z:∀n:Nat,AE P w K mg Zj "many_told" (4+n) ["book","branch","known"] (C2 (HB A3 (n))):=λn=>by
  induction n with
  |zero=>exact AE.mk F (F.binds (by walk_at "bD3")) m (F.BX (k:=3) S8 (λvs H Q E h=>(Fz.Lv (fL) h).elim) (λAY A outer s H vs Q E b h=>(Fz.Lv (fL) h).elim))
  |succ n a=>exact rK (A3:=A3) DS Gv n F m a
 exact z 9
def Kb:BG ["book","branches","n","known","number","branch"] ["book","branches","n","known"] (AX Qg):=by walk_at "z1"
def YC:∀ss R,(JN A3 n) ss R->ss.length=4:=by rintro _ _⟨ks,bs,m,T,M,a,rfl,_,_,_,_,_,_,_,rfl⟩;rfl
def vq(n:Nat)(F:AO K "word_at" "word_at" Qg f fd)(m:mg "word_at"=some (.ref f))(GV:AE P w K mg Zj "many_told" 13 ["book","branch","known"] (C2 (HB A3 9)))(Mn:AE P w K mg Zj "word_at" (14+n) ["book","branches","n","known"] (C2 (JN A3 (n)))):
  AE P w K mg Zj "word_at" (14+n+1) ["book","branches","n","known"] (C2 (JN A3 (n+1))):=by
 refine AE.mk F (F.binds (by walk_at "bD4")) m (F.BX (k:=14+n) Kb (λvs H Q E h=>Fz.Pu YC h) (λAY A outer s H vs Q E y h=>?_))
 refine⟨_,(AB rfl (AR 4 Kb.nd A8)
   (AB rfl (Bq (LD Cp (An aM (qv 2) (Ab (hk:=by omega) GV y (A0 (qv 0) (A0 (Ad CJ (qv 1) (qv 4)) (A0 (qv 3) A6))))) (AB rfl (Qq (i:=2) Kb.nd rfl (Or.inl rfl) (Ab (hk:=by omega) GV y (A0 (qv 0) (A0 (Ad CJ (qv 1) (qv 4)) (A0 (qv 3) A6)))) WV)
   (AH rfl (Qq (i:=4) Kb.nd rfl (Or.inl rfl) A8 qt)))))
   (AB rfl (AR 5 Kb.nd (Ad CJ (qv 1) (qv 4)))
   (AB rfl (Bq (B8 (An Cc (Ad BL (qv 5) A8) A8) (AB rfl (B8 (An Cc (qv 2) A8) (AH rfl (B0 (Ad BL (qv 5) A8))) BF)
   (AH rfl (Qq (i:=2) Kb.nd rfl (Or.inl rfl) A8 WV))) BF))
   (AH rfl (B0 (Ab (hk:=by omega) Mn y (A0 (qv 0) (A0 (Ab (hk:=by omega) Gv y (A0 (qv 0) (A0 (qv 5) A6))) (A0 (qv 2) (A0 (qv 3) A6))))))))))),?_⟩
 refine Fz.TM h YC ?_;rintro _ _⟨ks,bs,m,T,M,a,rfl,g,v,Dr,x,⟨lb,O⟩,⟨V,U⟩,ok,rfl⟩;have W:T.length<=8:=by
  have l8:=g.l8;have:=G1 Dr x;rw[AA]at this;omega
 show Ws [.is (Aw A3 ks),.is (.lst (bs.map B1)),.is (.int m),.ow true (Be (wv ks) a M),.any,.any] _ _ _;have l:∀{q:Int}{M':List Br}{j:Nat}{b:Br}{u:Slot}{kk:PV->OV->Prop},bs[j]?=some b->FG T M'->(∀M2,FG T M2->kk (.int (wv ks b)) (Be (wv ks) a M2))->Wm [.is (Aw A3 ks),.is (.lst (bs.map B1)),.is (.int q),.ow true (Be (wv ks) a M'),.is (.int (j:Int)),u] 3 true (Be (wv ks) a M') (D6 (C2 (HB A3 9)) [] E0 (AU (Ap 0) (AU (BU (Iw K) (Ap 1) (Ap 4)) (AU (Ap 3) B3)))) kk:=λ{q M' j b u kk}o EI hk=>by
  obtain⟨⟨i,hi,_⟩,hd⟩:=O b (Bo o);have:=(List.getElem?_eq_some_iff.mp hi).1;refine Nc rfl (FL (A1 rfl (FL (Hy (Ct rfl ⟨rfl,A1 rfl ⟨_,_,rfl,L2.Fp (by rw[Am,o];rfl),O7 rfl (L7 ⟨_,⟨ks,b,T,i,M',a,rfl,g,v,Dr,x,⟨hi,by omega,hd⟩,EI,rfl⟩,?_⟩)⟩⟩)))));rintro _ _⟨rfl,M2,rfl,GH,_,_⟩;exact⟨_,_,rfl,hk M2 GH⟩
 refine AN (CB (AZ ?_));refine AN (Cu (lK (i:=3) (λq A7=>∃(j:Nat)(d:Int)(M':List Br),q=bs.length - j/\A7=[.is (Aw A3 ks),.is (.lst (bs.map B1)),.is (.int d),.ow true (Be (wv ks) a M'),.is (.int (j:Int)),.any]/\FG T M'/\pick (wv ks) (bs.drop j) d=pick (wv ks) bs m/\0<=d/\d < ((bs.drop j).map (wv ks)).sum) bs.length ⟨0,m,M,rfl,rfl,ok,rfl,V,U⟩ ?_));rintro q A7⟨j,d,M',rfl,rfl,EI,r,S,L⟩;have G:j<bs.length:=Nat.lt_of_not_le λz=>by
  rw[List.drop_eq_nil_of_le z]at L;have:(0:Int)=(([]:List Br).map (wv ks)).sum:=rfl;omega
 have o:=Ah G;rw[gv G,Aq,Md]at L;rw[gv G,pick]at r;refine⟨true,Be (wv ks) a M',rfl,my (ZAC (g:=λi j=>decide (j<=i)) rfl (l o EI λM2 GH=>⟨_,rfl,_,rfl,BY (λc=>?_) (λc=>?_)⟩))⟩
 .have c:=jG c;rw[ib (by omega)]at r;show Ws [.is (Aw A3 ks),.is (.lst (bs.map B1)),.is (.int d),.ow true (Be (wv ks) a M2),.is (.int (j:Int)),.any] _ _ _;refine AN (ZAM (i:=3) (lt:=true) (t:=Be (wv ks) a M2) rfl (l o GH λM3 QC=>⟨_,rfl,?_⟩));refine SX (i:=4) rfl (AZ ⟨_,rfl,bs.length - (j+1),by omega,j+1,d - wv ks bs[j],M3,rfl,rfl,QC,r,by omega,by omega⟩)
 .have c:¬ wv ks bs[j]<=d:=λz=>c (jE z);rw[ir (by omega)]at r;have σ:=dZ (f:=n) r.symm;rw[σ];obtain⟨b,eb⟩:∃b,b=bs[j]:=⟨_,rfl⟩;rw[<- eb]at r o c ⊢;obtain⟨⟨i,hi,Lo⟩,hd⟩:=O b (Bo o);have R:=Bo hi;have ev:=Nx v W R;refine AN (CB (Hy (Ct rfl ⟨rfl,A1 rfl ⟨_,_,rfl,L2.Fp (by rw[Am,o];rfl),?_⟩⟩)));show Ws [.is (Aw A3 ks),.is (.lst (bs.map B1)),.is (.int d),.ow true (Be (wv ks) a M2),.is (.int (j:Int)),.is (B1 b)] _ _ _;have go:∀{e:Int}{s4 u:Slot},0<=e->e<((BS ks b).map (wv ks)).sum->u=.is (B1 b)->Ws [.is (Aw A3 ks),.is (.lst (bs.map B1)),.is (.int e),.ow true (Be (wv ks) a M2),s4,u] (Hl (D6 (C2 (JN A3 n)) [] E0 (AU (Ap 0) (AU (D6 (Ac (Ku A3)) [] E0 (AU (Ap 0) (AU (Ap 5) B3))) (AU (Ap 2) (AU (Ap 3) B3)))))) (λ_=>False) (.mt λp t'=>p=.str (E8 ks n (BS ks b) e)/\∃M',t'=Be (wv ks) a M'/\FG T M'):=λ{e s4 u}D C e5=>by
   subst e5;refine ng (i:=3) rfl (Nc rfl (FL (A1 rfl (FL (BM (FH (AV (A1 rfl (AV (A1 rfl (BQ ⟨_,⟨ks,b,rfl,g,x _ R,rfl⟩,?_⟩)))))))))));rintro _ rfl;refine FL (A1 rfl (O7 rfl (L7 ⟨_,⟨ks,BS ks b,e,T,M2,a,rfl,g,v,Dr,x,⟨Rc g b,λc N=>?_⟩,⟨D,C⟩,GH,rfl⟩,?_⟩)))
   .obtain⟨X,NV,SK⟩:=LC v hi (Hb N).1;exact⟨⟨X,SK,by omega⟩,CU (Hb N).2 hd⟩
   .rintro _ _⟨rfl,M3,rfl,QC⟩;exact⟨_,_,rfl,⟨_,_,_,rfl⟩,rfl,M3,rfl,QC⟩
  have ep0:=r;have c:d < wv ks b:=by omega
  rw[ev]at c;unfold Ep at c;refine MJ (λA7=>∃(e:Int)(s4:Slot),A7=[.is (Aw A3 ks),.is (.lst (bs.map B1)),.is (.int e),.ow true (Be (wv ks) a M2),s4,.is (B1 b)]/\0<=e/\e<((BS ks b).map (wv ks)).sum/\(if b.2=0 then if d=0 then b.1 else E8 ks n (BS ks b) (d - 1)else E8 ks n (BS ks b) d)=E8 ks n (BS ks b) e) ?_ ?_
  .refine Cu (Bc (Az (Cj (OD rfl (AZ ⟨rfl,_,rfl,BY (λJ=>?_) (λJ=>BN ?_)⟩)))))
   .have z:=NX J;rw[ir z]at c;rw[ir z];refine AN (Bc (Az (Cj (A1 rfl (AZ ⟨rfl,_,rfl,BY (λI=>?_) (λI=>BN ?_)⟩)))))
    .have B:d=0:=by simpa[alike]using I
     rw[ir B];exact LZ (i:=3) (nk:=.IJ (M2.map EE)) (a0:=a) rfl (SS rfl ⟨rfl,M2,rfl,GH⟩)
    .have B:¬ d=0:=λz=>I (by rw[z];rfl);rw[ib B];exact SX (i:=2) rfl (AZ ⟨_,rfl,d - 1,_,rfl,by omega,by omega,rfl⟩)
   .have z:¬ b.2=0:=λz=>J (by rw[z];rfl);rw[ib z]at c;rw[ib z];exact⟨d,_,rfl,S,by omega,rfl⟩
  .rintro A7⟨e,s4,rfl,D,C,Y⟩;rw[Y];exact go D C rfl
def yW(F:AO K "word_at" "word_at" Qg f fd)(m:mg "word_at"=some (.ref f))(GV:AE P w K mg Zj "many_told" 13 ["book","branch","known"] (C2 (HB A3 9))):AE P w K mg Zj "word_at" 23 ["book","branches","n","known"] (C2 (JN A3 9)):=by
 have z:∀n:Nat,AE P w K mg Zj "word_at" (14+n) ["book","branches","n","known"] (C2 (JN A3 (n))):=λn=>by
  induction n with
  |zero=>exact AE.mk F (F.binds (by walk_at "bD4")) m (F.BX (k:=13) Kb (λvs H Q E h=>(Fz.Lv (dN) h).elim) (λAY A outer s H vs Q E b h=>(Fz.Lv (dN) h).elim))
  |succ n a=>exact vq (A3:=A3) Gv n F m GV a
 exact z 9
def LL:BG ["book","crowd","n","known","wave","branches","many"] ["book","crowd","n"] (AX N9):=by walk_at "z1"
def tG:=Sc [(".0",.local),("word",.local),("wave",.free)]
def jd:C7 ["book","crowd","n","known","wave","branches","many"] (AX N9) tG "word" ["wave"] [4]:=by walk_at "z2"
def jU:=Sc [(".0",.local),("branch",.local),("many_told",.globalImplicit),("book",.free),("known",.free)]
def xJ:C7 ["book","crowd","n","known","wave","branches","many"] (AX N9) jU "branch" ["book","known"] [0,3]:=by walk_at "z2"
def bW:∀ss R D,(Nk A3 B9) ss R D->ss.length=3:=by rintro _ _ _⟨ks,tp,cs,m,rfl,_,_,_,_,rfl,rfl⟩;rfl
def lE(F:AO K "nth" "nth" N9 f fd)(m:mg "nth"=some (.ref f))(GV:AE P w K mg Zj "many_told" 13 ["book","branch","known"] (C2 (HB A3 9)))(Mn:AE P w K mg Zj "word_at" 23 ["book","branches","n","known"] (C2 (JN A3 9))):
  G2 P w K mg Zj "nth" 24 ["book","crowd","n"] (IC (Nk A3 B9)):=by
 refine G2.mk F (F.binds (by walk_at "bD3")) m (F.Y8 (k:=23) LL (λvs H Q E h=>Fz.fw bW h) (λAY A outer s H vs Q E u h=>?_))
 refine⟨_,(AB rfl (DK (Ab S9 u (A0 (qv 0) (A0 (qv 1) A6))))
   (AB rfl (DK (RH WD u (by decide) b4 rfl (A0 (qv 0) (A0 (qv 1) (A0 Ar A6)))))
   (AB rfl (AR 3 LL.nd z5)
   (AB rfl (Bq (DT xR rfl (KH rfl Cz (A0 (B7 Kr By (A0 (ZH MK u (by decide) (qv 0)) A6)) A6)) (CQ 4 LL.nd) (AB rfl (Lj (i:=5) LL.nd rfl (Or.inl rfl) rfl jd (Bi (qv 1)) (λ_ _ _ _=>by exact Dv) (λ_ _ _ _=>by exact(D4 (A0 (qv 1) (A0 (qv 0) A6)))))
   (AB rfl (AR 6 LL.nd (B7 (K8 rfl) DS (A0 (EA rfl xJ (Bi (qv 5)) (λ_ _ _ _=>by exact Dv) (λ_ _ _ _=>by exact(Ab GV u (A0 (qv 0) (A0 (qv 2) (A0 (qv 1) A6)))))) A6)))
   (AB rfl (B8 (gf ON MC A8 (qv 2) (qv 6)) (AH rfl (B0 (Ab Mn u (A0 (qv 0) (A0 (qv 5) (A0 (qv 2) (A0 (qv 3) A6))))))) BF)
   (AH rfl (Qq (i:=2) LL.nd rfl (Or.inl rfl) (qv 6) WV)))))))
   (AH rfl (B0 GF)))))),?_⟩
 refine Fz.fT h bW ?_;rintro _ _ _⟨ks,tp,cs,m,rfl,g,G,S,D,rfl,rfl⟩;intro i0;show Ws [.is (Aw A3 ks),.sq tp (cs.map .str),.is (.int m),.any,.any,.any,.any] _ _ _;have l8:=g.l8;refine AN (J7 (wp_call (AV (A1 rfl (GI (LJ rfl (BQ ⟨_,⟨ks,tp,cs,rfl,g,G,S,rfl⟩,?_⟩)))))));rintro _ rfl;refine AN (J7 (U6 (AV (A1 rfl (GI (LJ rfl (AV (CT (BQ ⟨_,_,⟨ks,tp,cs, "ahead", rfl,g,by decide +kernel,G,S,rfl,rfl⟩,trivial,λe h=>h,?_⟩)))))))));rintro _⟨rfl,T,q⟩;have lT:=q.l8 g;obtain⟨O,Dr,R,HF⟩:=id q;refine AN (Ni (kX (wv ks) λa=>?_));show Ws [.is (Aw A3 ks),.sq tp (cs.map .str),.is (.int m),.ow false (Be (wv ks) a []),.any,.any,.any] _ _ _;refine AN (Cu (Dz (λxs d A7=>∃(l:Int)(M:List Br)(s4 v r:Slot),A7=[.is (Aw A3 ks),.sq tp (cs.map .str),.is (.int l),.ow false (Be (wv ks) a M),s4,v,r]/\FG T M/\0<=l/\d<=ks.length/\Dg ks cs (ks.length - d) d l=Dg ks cs ks.length 0 m) ?_))
 walk_at "ww"
 refine C8 (BM (OU (A1 rfl ⟨GS,_,rfl,by decide +kernel,BQ ⟨_,⟨ks,rfl,g,rfl⟩,?_⟩⟩)));rintro _ rfl;have y:((wk ks).map PV.str).length=ks.length:=by rw[AA,AA]
 refine⟨_,.inl ⟨rfl,_,rfl,by rw[y];omega,by rw[y];omega,⟨m,[],_,_,_,rfl,⟨GC,λc h=>absurd h Af⟩,D,CA _,by rw[Rq]⟩,?_,?_⟩⟩
 .rintro d p A7 W⟨l,M,s4,v,r,rfl,ok,C,hd,o⟩;obtain⟨J,rfl⟩:=Nr W;rw[y,Gp]at J;rw[show ks.length - d=(ks.length - (d+1))+1 by omega,LM]at o;refine FY ?_;show Ws [.is (Aw A3 ks),.sq tp (cs.map .str),.is (.int l),.ow false (Be (wv ks) a M),.is (.int d),v,r] _ _ _;refine AN (Dk (E5 PV.str (λ_=>true) (λc=>B1 (c,d)) (C1 (WB rfl ⟨cs,rfl,by omega,λ_ _=>FN rfl,λc _ _=>?_,?_⟩)) str_inj))
  .exact DX (Bb (A1 rfl (Bb (A1 rfl (Ck ⟨by show 2<=100000;decide,rfl⟩)))))
  rw[List.filter_eq_self.mpr λ_ _=>rfl];refine G7 5 rfl ?_;have Y:(cs.map λc=>B1 (c,d))=(cs.map λc=>((c,d):Br)).map B1:=by rw[CH];rfl
  have U:((cs.map λc=>((c,d):Br)).map (wv ks)).sum=tot ks cs d:=by rw[CH];rfl
  rw[Y];show Ws [.is (Aw A3 ks),.sq tp (cs.map .str),.is (.int l),.ow false (Be (wv ks) a M),.is (.int d),.is (.lst ((cs.map λc=>((c,d):Br)).map B1)),r] _ _ _;refine AN (RU (i:=3) (lt:=false) (ah (λn t s=>∃M',t=Be (wv ks) a M'/\FG T M'/\s=(((cs.map λc=>((c,d):Br)).take n).map (wv ks)).sum) rfl rfl (C1 (C6 (A1 rfl ⟨_,.inl ⟨rfl,by rw[AA,AA];omega,⟨M,rfl,ok,rfl⟩,?_,?_⟩⟩)))))
  .rintro n x nk us s hx⟨M',N,EI,es⟩;rw[Am]at hx;obtain⟨c,V,rfl⟩:=Option.map_eq_some_iff.mp hx;have σ:=Bo V;obtain⟨B,Ou,rfl⟩:=List.mem_map.mp σ;obtain⟨j,I,L⟩:=Fm (HF B Ou);rw[N];refine⟨_,⟨ks,(B,d),T,j,M',a,rfl,g,O,Dr,R,⟨by rw[Ah I,L],by omega,by show d<=8;omega⟩,EI,rfl⟩,?_⟩;rintro _ _⟨rfl,M2,rfl,GH,_,_⟩;refine⟨_,_,_,rfl,rfl,M2,rfl,GH,?_⟩;rw[es,KN V,Bn,Xj];simp
  .rintro nk us s⟨M',N,EI,es⟩;rw[AA,GD,U]at es;rw[N,es];show Ws [.is (Aw A3 ks),.sq tp (cs.map .str),.is (.int l),.ow false (Be (wv ks) a M'),.is (.int d),.is (.lst ((cs.map λc=>((c,d):Br)).map B1)),.is (.int (tot ks cs d))] _ _ _;refine AN (Bc (Az (bG (AZ ⟨_,rfl,A1 rfl ⟨_,rfl,Ej (jE C) (A1 rfl ⟨_,rfl,_,rfl,BY (λc=>?_) (λc=>BN ?_)⟩)⟩⟩))))
   .have c:=jG c;rw[ir c]at o;refine yd (i:=3) (Nc rfl (FL (A1 rfl (FL (A1 rfl (FL (A1 rfl (O7 rfl (L7 ⟨_,⟨ks,cs.map λc=>(c,d),l,T,M',a,rfl,g,O,Dr,R,⟨by rw[AA];exact G,λb X=>?_⟩,⟨C,by rw[U];exact c⟩,EI,rfl⟩,?_⟩)))))))))
    .obtain⟨B,Ou,rfl⟩:=List.mem_map.mp X;obtain⟨j,I,L⟩:=Fm (HF B Ou);exact⟨⟨j,by rw[Ah I,L],by omega⟩,by show d<=8;omega⟩
    .rintro _ _⟨rfl,M3,rfl,QC⟩;refine⟨_,_,rfl,⟨T,q⟩,?_⟩;rw[<- gW g q D,<- o];rfl
   .have c:¬ l < tot ks cs d:=λz=>c (jE z);rw[ib c]at o;exact SX (i:=2) rfl (A1 rfl ⟨_,rfl,l - tot ks cs d,M',_,_,_,rfl,EI,by omega,by omega,o⟩)
 .rintro A7⟨l,M,s4,v,r,rfl,ok,C,hd,o⟩;rw[y,Gp,HW,Xn]at o;refine FA (EC ⟨⟨T,q⟩,?_⟩);rw[<- gW g q D,<- o];rfl
def bD:BG ["e","place","some"] ["e","place"] (AX XO):=by walk_at "z1"
def Zq:∀ss R,(TB K [Ew,Eh,FC,Ez,Em,Ee,Ek,Eo,EV,EW,ET,EU,Ec,B9,EZ,En] Dp) ss R->ss.length=2:=by rintro _ _⟨C,a,xs,i,rfl,_,_,_,rfl⟩;rfl
def xa(F:AO K "_law_alone" "_law_alone" XO f fd)(m:mg "_law_alone"=some (.ref f)):
  AE P w K mg Zj "_law_alone" 1 ["e","place"] (Ac (TB K [Ew,Eh,FC,Ez,Em,Ee,Ek,Eo,EV,EW,ET,EU,Ec,B9,EZ,En] Dp)):=by
 refine AE.mk F (F.binds (by walk_at "bD2")) m (F.BX (k:=0) bD (λvs H Q E h=>Fz.Cs Zq h) (λAY A outer s H vs Q E d h=>?_))
 refine⟨_,(AB rfl (AR 2 bD.nd (Ds (A0 (B7 Dl Cg (A0 (qv 0) (A0 (CY (v:=.ref Ew) (by rfl) S6 rfl) A6))) (A0 (B7 Dl Cg (A0 (qv 0) (A0 (CY (v:=.ref Eh) (by rfl) VC rfl) A6))) (A0 (B7 Dl Cg (A0 (qv 0) (A0 (CY (v:=.ref FC) (by rfl) UO rfl) A6))) (A0 (B7 Dl Cg (A0 (qv 0) (A0 (CY (v:=.ref Ez) (by rfl) XB rfl) A6))) (A0 (B7 Dl Cg (A0 (qv 0) (A0 (CY (v:=.ref Em) (by rfl) Um rfl) A6))) (A0 (B7 Dl Cg (A0 (qv 0) (A0 (CY (v:=.ref Ee) (by rfl) UD rfl) A6))) (A0 (B7 Dl Cg (A0 (qv 0) (A0 (CY (v:=.ref Ek) (by rfl) VP rfl) A6))) (A0 (B7 Dl Cg (A0 (qv 0) (A0 (CY (v:=.ref Eo) (by rfl) Tq rfl) A6))) (A0 (B7 Dl Cg (A0 (qv 0) (A0 (CY (v:=.ref EV) (by rfl) VE rfl) A6))) (A0 (B7 Dl Cg (A0 (qv 0) (A0 (CY (v:=.ref EW) (by rfl) To rfl) A6))) (A0 (B7 Dl Cg (A0 (qv 0) (A0 (CY (v:=.ref ET) (by rfl) Sb rfl) A6))) (A0 (B7 Dl Cg (A0 (qv 0) (A0 (CY (v:=.ref EU) (by rfl) Sy rfl) A6))) (A0 (B7 Dl Cg (A0 (qv 0) (A0 (CY (v:=.ref Ec) (by rfl) TQ rfl) A6))) (A0 (B7 Dl Cg (A0 (qv 0) (A0 (CY (v:=.ref B9) (by rfl) MI rfl) A6))) (A0 (B7 Dl Cg (A0 (qv 0) (A0 (CY (v:=.ref EZ) (by rfl) XE rfl) A6))) (A0 (B7 Dl Cg (A0 (qv 0) (A0 (CY (v:=.ref En) (by rfl) SQ rfl) A6))) A6))))))))))))))))))
   (AB rfl (B8 (Sf (Oe (Jm (B7 Dl Cg (A0 (qv 0) (A0 (CY (v:=.ref Dp) (by rfl) M4 rfl) A6))))) (Uh (Oe (Jm (B7 Dl Cg (A0 (qv 0) (A0 (eh "ValueError" Wr) A6))))))).pt (AH rfl (B0 JD)) BF)
   (AH rfl (B0 (VS (RT Cc (G8 Fn PySem.F.slot_list_count PySem.F.type_list_count jT (qv 2) (A0 JD A6)) A8) (Wb (Ad CJ (qv 2) (qv 1)))))))),?_⟩
 refine Fz.Cq h Zq ?_;rintro _ _⟨C,c,xs,i,rfl,a,hi,_,rfl⟩;show Ws [_,_,.any] _ _ _
 walk_at "ww"
 refine DY (A1 rfl ⟨⟨λ_ _ _ z=>(by cases z),λ_ _ z=>(by cases z)⟩,_,_,_,rfl,⟨rfl,a.ex⟩,a.at_ 0 (by show 0<16;decide),?_⟩)
 walk_at "ww"
 refine DY (A1 rfl ⟨⟨λ_ _ _ z=>(by cases z),λ_ _ z=>(by cases z)⟩,_,_,_,rfl,⟨rfl,a.ex⟩,a.at_ 1 (by show 1<16;decide),?_⟩)
 walk_at "ww"
 refine DY (A1 rfl ⟨⟨λ_ _ _ z=>(by cases z),λ_ _ z=>(by cases z)⟩,_,_,_,rfl,⟨rfl,a.ex⟩,a.at_ 2 (by show 2<16;decide),?_⟩)
 walk_at "ww"
 refine DY (A1 rfl ⟨⟨λ_ _ _ z=>(by cases z),λ_ _ z=>(by cases z)⟩,_,_,_,rfl,⟨rfl,a.ex⟩,a.at_ 3 (by show 3<16;decide),?_⟩)
 walk_at "ww"
 refine DY (A1 rfl ⟨⟨λ_ _ _ z=>(by cases z),λ_ _ z=>(by cases z)⟩,_,_,_,rfl,⟨rfl,a.ex⟩,a.at_ 4 (by show 4<16;decide),?_⟩)
 walk_at "ww"
 refine DY (A1 rfl ⟨⟨λ_ _ _ z=>(by cases z),λ_ _ z=>(by cases z)⟩,_,_,_,rfl,⟨rfl,a.ex⟩,a.at_ 5 (by show 5<16;decide),?_⟩)
 walk_at "ww"
 refine DY (A1 rfl ⟨⟨λ_ _ _ z=>(by cases z),λ_ _ z=>(by cases z)⟩,_,_,_,rfl,⟨rfl,a.ex⟩,a.at_ 6 (by show 6<16;decide),?_⟩)
 walk_at "ww"
 refine DY (A1 rfl ⟨⟨λ_ _ _ z=>(by cases z),λ_ _ z=>(by cases z)⟩,_,_,_,rfl,⟨rfl,a.ex⟩,a.at_ 7 (by show 7<16;decide),?_⟩)
 walk_at "ww"
 refine DY (A1 rfl ⟨⟨λ_ _ _ z=>(by cases z),λ_ _ z=>(by cases z)⟩,_,_,_,rfl,⟨rfl,a.ex⟩,a.at_ 8 (by show 8<16;decide),?_⟩)
 walk_at "ww"
 refine DY (A1 rfl ⟨⟨λ_ _ _ z=>(by cases z),λ_ _ z=>(by cases z)⟩,_,_,_,rfl,⟨rfl,a.ex⟩,a.at_ 9 (by show 9<16;decide),?_⟩)
 walk_at "ww"
 refine DY (A1 rfl ⟨⟨λ_ _ _ z=>(by cases z),λ_ _ z=>(by cases z)⟩,_,_,_,rfl,⟨rfl,a.ex⟩,a.at_ 10 (by show 10<16;decide),?_⟩)
 walk_at "ww"
 refine DY (A1 rfl ⟨⟨λ_ _ _ z=>(by cases z),λ_ _ z=>(by cases z)⟩,_,_,_,rfl,⟨rfl,a.ex⟩,a.at_ 11 (by show 11<16;decide),?_⟩)
 walk_at "ww"
 refine DY (A1 rfl ⟨⟨λ_ _ _ z=>(by cases z),λ_ _ z=>(by cases z)⟩,_,_,_,rfl,⟨rfl,a.ex⟩,a.at_ 12 (by show 12<16;decide),?_⟩)
 walk_at "ww"
 refine DY (A1 rfl ⟨⟨λ_ _ _ z=>(by cases z),λ_ _ z=>(by cases z)⟩,_,_,_,rfl,⟨rfl,a.ex⟩,a.at_ 13 (by show 13<16;decide),?_⟩)
 walk_at "ww"
 refine DY (A1 rfl ⟨⟨λ_ _ _ z=>(by cases z),λ_ _ z=>(by cases z)⟩,_,_,_,rfl,⟨rfl,a.ex⟩,a.at_ 14 (by show 14<16;decide),?_⟩)
 walk_at "ww"
 refine DY (A1 rfl ⟨⟨λ_ _ _ z=>(by cases z),λ_ _ z=>(by cases z)⟩,_,_,_,rfl,⟨rfl,a.ex⟩,a.at_ 15 (by show 15<16;decide),?_⟩)
 walk_at "ww"
 refine⟨by simp,?_⟩;refine AN (Bc (Uz (Q3 (HG (DY (A1 rfl ⟨⟨λ_ _ _ z=>(by cases z),λ_ _ z=>(by cases z)⟩,_,_,_,rfl,⟨rfl,a.ex⟩,a.st,true,rfl,NO ?_⟩))))));refine Q3 (HG (DY (A1 rfl ⟨⟨λ_ _ _ z=>(by cases z),λ_ _ z=>(by cases z)⟩,_,_,_,rfl,⟨rfl,a.ex⟩,a.ve,true,rfl,NO (BN ?_)⟩)));refine FA (TH (Cj (sQ (MU rfl ⟨rfl,[decide (0=i),decide (1=i),decide (2=i),decide (3=i),decide (4=i),decide (5=i),decide (6=i),decide (7=i),decide (8=i),decide (9=i),decide (10=i),decide (11=i),decide (12=i),decide (13=i),decide (14=i),decide (15=i)],rfl,ME ⟨true,rfl,AZ ?_⟩⟩))));have b:i<16:=hi;refine⟨rfl,_,rfl,Ej (by rw[za b];rfl) (Hy (MU rfl ⟨rfl,A1 rfl ⟨_,_,rfl,sI b,rfl⟩⟩))⟩
def Qf:BG ["book","crowd","n","found","e"] ["book","crowd","n"] (AX Wy):=by walk_at "z1"
def bE:∀ss R,(Uv A3) ss R->ss.length=3:=by rintro _ _⟨ks,tp,cs,m,rfl,_,_,_,_,_,rfl⟩;rfl
def yZ(F:AO K "_law_refused" "_law_refused" Wy f fd)(m:mg "_law_refused"=some (.ref f)):
  AE P w K mg Zj "_law_refused" 25 ["book","crowd","n"] (Ac (Uv A3)):=by
 refine AE.mk F (F.binds (by walk_at "bD3")) m (F.BX (k:=24) Qf (λvs H Q E h=>Fz.Cs bE h) (λAY A outer s H vs Q E a h=>?_))
 refine⟨_,(AB rfl (AR 3 Qf.nd GF)
   (AB rfl (pB (j:=4) rfl rfl Qf.nd rfl rfl (by rfl) M4 (λ_ _ _ o=>by exact(AH rfl (DK (RH Kl a (by decide) o rfl (A0 (qv 0) (A0 (qv 1) (A0 (qv 2) A6))))))) (λ_=>by exact(AH rfl (AR 3 Qf.nd (qv 4)))))
   (AH rfl (B0 (Ab W4 a (A0 (qv 3) (A0 A8 A6))))))),?_⟩
 refine Fz.Cq h bE ?_;rintro _ _⟨ks,tp,cs,m,rfl,g,d,i,c,b,rfl⟩;have O9:=pZ O9;show Ws [_,_,_,.any,.any] _ _ _;refine AN (CB (EC ?_));refine AN (nB (λA7=>A7=[.is (Aw A3 ks),.sq tp (cs.map .str),.is (.int m),.is .A9,.any]) (λe=>GZ (Ax ks "ahead") cs/\e=⟨B9,[],[]⟩) (λE=>?_) (λNP e l n=>?_))
 .letI:Xw:=Lf E (λA7=>A7=[.is (Aw A3 ks),.sq tp (cs.map .str),.is (.int m),.is .A9,.any]) (λe=>GZ (Ax ks "ahead") cs/\e=⟨B9,[],[]⟩);exact J7 (U6 (AV (A1 rfl (GI (LJ rfl (AV (A1 rfl (BQ ⟨_,_,⟨ks,tp,cs,m,rfl,g,d,i,c,rfl,rfl⟩,rfl,λe h=>h,λp h=>absurd b (h.1.elim λ_ z=>z.LS)⟩))))))))
 .subst l;obtain⟨_,rfl⟩:=n;refine⟨V9,CB (A1 rfl ?_)⟩;refine FA (wp_call (AV (A1 rfl (AV (AZ (BQ ⟨_,⟨B9,_,_,13,rfl,O9,by show 13<16;decide,rfl,rfl⟩,?_⟩))))));rintro _ rfl;rfl
def HP:BG ["kinds","sizes","some","d","n","word","kind","wave"] ["kinds","sizes","some","d","n"] (AX NH):=by walk_at "z1"
def uW:=Sc [(".0",.local),("kind",.local),("d",.free)]
def wM:C7 ["kinds","sizes","some","d","n","word","kind","wave"] (AX NH) uW "kind" ["d"] [3]:=by walk_at "z2"
def zW:=Sc [(".0",.local),("kind",.local),("d",.free)]
def zZ:C7 ["kinds","sizes","some","d","n","word","kind","wave"] (AX NH) zW "kind" ["d"] [3]:=by walk_at "z2"
def YX : ∀ss R,Tw ss R->ss.length=5:=by rintro _ _⟨ks,cs,Q,T,Ms,bs,d,n,rfl,_,_,_,_,_,_,_,rfl⟩;rfl
def rG(F:AO K "_law_found" "_law_found" NH f fd)(m:mg "_law_found"=some (.ref f)):
  AE P w K mg Zj "_law_found" 3 ["kinds","sizes","some","d","n"] (Ac Tw):=by
 refine AE.mk F (F.binds (by walk_at "bD5")) m (F.BX (k:=2) HP (λvs H Q E h=>Fz.Cs YX h) (λAY A outer s H vs Q E G h=>?_))
 refine⟨_,(AH rfl (LD Cp (Jm JD) (AB rfl (AR 5 HP.nd Ar)
   (AB rfl (Bq (DT Cp rfl (Bi (qv 2)) (Pt rfl (Hf (CQ 6 HP.nd) (Hf (CQ 7 HP.nd) QJ))) (AH rfl (B8 (Oi (An Cc (qv 5) Ar) (OZ (An MC (qv 4) (II (Dc G) (Ad CJ (qv 1) (qv 7)) (qv 6) (λ_ _=>rfl))))).pt (AB rfl (AR 5 HP.nd (qv 6))
   (AH rfl (AR 3 HP.nd (qv 7)))) (AH rfl (B8 (An Cc (qv 5) Ar) (AH rfl (AR 4 HP.nd (Ai Gn (qv 4) (II (Dc G) (Ad CJ (qv 1) (qv 7)) (qv 6) (λ_ _=>rfl))))) BF))))))
   (AB rfl (B8 (Oi (An Cc (qv 3) A8) (OZ (An Cc (qv 4) A8))).pt (AH rfl (B0 (qv 5))) BF)
   (AB rfl (Lj (i:=2) HP.nd rfl (Or.inl rfl) rfl wM (Bi (Ab IV G (A0 (qv 0) (A0 (qv 5) (A0 Ar A6))))) (λ_ _ _ _=>by exact Dv) (λ_ _ _ _=>by exact(D4 (A0 (qv 1) (A0 (qv 0) A6)))))
   (AH rfl (B8 (An Cc (qv 3) A8) (AH rfl (AR 4 HP.nd (Ai Gn (qv 4) A8))) (AH rfl (AR 2 HP.nd (Ai R3 (EA rfl zZ (Bi (Ab IV G (A0 (qv 0) (A0 (qv 5) (A0 Ar A6))))) (λ_ _ _ _=>by exact Dv) (λ_ _ _ _=>by exact(D4 (A0 (qv 1) (A0 (Ai Gn (qv 0) A8) A6))))) (qv 2)))))))))))),?_⟩
 refine Fz.Cq h YX ?_;rintro _ _⟨ks,cs,Q,T,Ms,bs,d,n,rfl,g,V,L,J,⟨lM,oM⟩,⟨lb,W⟩,⟨n0,n1⟩,rfl⟩;show Ws [_,_,_,_,_,.any,.any,.any] _ _ _;have lT:=J.l8 g;have nm:∀{x},x∈Q->x ≠"" := λ{x}hx z=>by
  obtain⟨k,hk,e⟩:=List.mem_map.mp (L.sub g V hx);have:=(g.nm k hk).1;rw[e,z]at this;exact absurd this (by decide)
 refine Us (λf A7=>∃(Gx:List Br)(d':Nat)(v:Int)(s2 U u t:Slot),A7=[.is (.lst ((BB ks Q).map Kd.P)),.is (.lst (BZ ks Ms)),s2,.is (.int d'),.is (.int v),U,u,t]/\(s2=.is (.lst (Gx.map B1))∨s2=.own (Gx.map B1))/\(Gx.length<=12/\∀b∈Gx,(b.1∈Q/\b.2<=8)/\∃i,T[i]?=some b.1/\i<f)/\(0<=v/\v < (Gx.map (wv ks)).sum)/\f<=9/\E8 ks f Gx v=E8 ks 9 bs n) 9 ⟨bs,d,n,_,_,_,_,rfl,.inl rfl,⟨lb,λb B=>⟨W b B,?_⟩⟩,⟨n0,n1⟩,Ae _,rfl⟩ ?_
 .obtain⟨i,hi,e⟩:=Fm (L.HF J (W b B).1);exact⟨i,by rw[Ah hi,e],by omega⟩
 rintro f A7⟨Gx,d',v,s2,U,u,t,rfl,h2,⟨lb',Cm⟩,⟨p0,p1⟩,f9,q⟩;obtain⟨b,m,X,bm,m0,D⟩:=X0 p0 p1;obtain⟨⟨N,b8⟩,i,hi,hif⟩:=Cm b bm;obtain⟨C,rfl⟩:∃C,f=C+1:=⟨f - 1,by omega⟩;rw[dZ X]at q;refine HG (ME ⟨true,rfl,Ej rfl ?_⟩);refine n9 2 rfl h2 ?_;refine AN (CB (CT ?_));refine AN (Cu (Dz (λxs j A7=>∃(w:Str)(r:Nat)(a:Int)(u t:Slot),A7=[.is (.lst ((BB ks Q).map Kd.P)),.is (.lst (BZ ks Ms)),.is (.lst (Gx.map B1)),.is (.int r),.is (.int a),.is (.str w),u,t]/\((w="" /\ pick (wv ks) (Gx.drop j) a=some (b,m))∨(w=b.1/\r=b.2/\a=m))) (C1 (C6 (A1 rfl ⟨_,.inl ⟨rfl,⟨"", d',v,_,_,rfl,.inl ⟨rfl,X⟩⟩,?_,?_⟩⟩)))))
 .rintro j p A7 I⟨w,r,a,u,t,rfl,hw⟩;rw[Am]at I;obtain⟨c,σ,rfl⟩:=Option.map_eq_some_iff.mp I;obtain⟨⟨cQ,c8⟩,_⟩:=Cm c (Bo σ);have hM:=Ah (l:=Ms) (i:=c.2) (by omega);obtain⟨M,R⟩:∃M,Ms[c.2]?=some M:=⟨_,hM⟩;have Va:=oM M (Bo R);have cM:=(Va.2 c.1).mpr cQ;refine eJ ⟨_,_,rfl,?_⟩;show Ws [.is (.lst ((BB ks Q).map Kd.P)),.is (.lst (BZ ks Ms)),.is (.lst (Gx.map B1)),.is (.int r),.is (.int a),.is (.str w),.is (.str c.1),.is (.int c.2)] _ _ _;have Y:=(List.getElem?_eq_some_iff.mp σ);rcases hw with⟨rfl,Hi⟩|⟨rfl,rfl,rfl⟩
  .rw[gv Y.1,pick,Y.2]at Hi;refine Bc (KS (Az (Cj (A1 rfl (CT ⟨rfl,_,rfl,Ej (by simp[alike]) (Az (Ol (A1 rfl ⟨_,rfl,RY (js:=1) rfl (A1 rfl ⟨c.2,M,rfl,R,A1 rfl ⟨c.1,rfl,cM,_,rfl,_,rfl,BY (λk=>?_) (λk=>?_)⟩⟩)⟩)))⟩)))))
   .rw[ir (jG k)]at Hi;cases Hi;refine AN (CB (A1 rfl ?_));exact CB (A1 rfl ⟨b.1,b.2,m,_,_,rfl,.inr ⟨rfl,rfl,rfl⟩⟩)
   .rw[ib λz=>k (jE z)]at Hi;refine Bc (Az (Cj (A1 rfl (CT ⟨rfl,_,rfl,Ej (by simp[alike]) ?_⟩))));exact CB (FT (A1 rfl ⟨_,rfl,RY (js:=1) rfl (A1 rfl ⟨c.2,M,rfl,R,A1 rfl ⟨c.1,rfl,cM,_,rfl, "", r,a - wv ks c,_,_,rfl,.inl ⟨rfl,Hi⟩⟩⟩)⟩))
  .have ne:=nm N;refine Bc (KS (Az (Cj (A1 rfl (CT ⟨rfl,_,rfl,Cf (λz=>ne (by simpa[alike]using z)) (Cf (by decide) ?_)⟩)))))
   exact Bc (Az (Cj (A1 rfl (CT ⟨rfl,_,rfl,Cf (λz=>ne (by simpa[alike]using z)) (BN ⟨b.1,b.2,_,_,_,rfl,.inr ⟨rfl,rfl,rfl⟩⟩)⟩))))
 .rintro A7⟨w,r,a,u,t,rfl,hw⟩;rw[AA,ZAa]at hw;obtain⟨rfl,rfl,rfl⟩:w=b.1/\r=b.2/\a=m:=hw.elim (λz=>by cases z.2) id;have bT:=Bo hi;have ev:=Nx J.1 lT bT;rw[ev]at D;unfold Ep at D;have bw:=L.sub g V N;have pl:=Rc g b;have l1:=HU g b.1 "next"
  have l2:=HU g b.1 "last";have kp:∀c∈BS ks b,(c.1∈Q/\c.2<=8)/\∃i,T[i]?=some c.1/\i<C:=λc B=>by
   obtain⟨j',NV,SK⟩:=LC J.1 hi (Hb B).1;exact⟨⟨L.T2 N (Hb B).1,CU (Hb B).2 b8⟩,j',SK,by omega⟩
  have o:∀{ss:List Slot}{kk:List PV->Prop}(pl:Str)(e:Nat){te:TE},ss[0]?=some (.is (.lst ((BB ks Q).map Kd.P)))->ss[5]?=some (.is (.str b.1))->ss[3]?=some (.is (.int b.2))->pl∈Dw->(∀{y:Str},Wp (Bt [3] ss++[.is (.str y)]) te λp=>p=B1 (y,e))->kk (((Bp ks b.1 pl).map λy=>((y,e):Br)).map B1)->Wn ss (HA (LW K (D6 (Ac P6) [] E0 (AU (Ap 0) (AU (Ap 5) (AU (tC (.str pl)) B3))))) [3] ML te) kk:=λ{ss kk}pl e{te}h0 h5 h3 I hw hk=>by
   refine E5 PV.str (λ_=>true) (λy=>B1 (y,e)) (C1 (C6 (BM (FH (AV (A1 h0 (AV (A1 h5 (AV (CT (BQ ⟨_,⟨ks,Q,b.1,pl,rfl,g,bw,N,I,rfl⟩,?_⟩))))))))))) str_inj (np:=by unfold Ls;simp[h3]);rintro _ rfl;have l3:=HU g b.1 pl;refine⟨_,.inl ⟨rfl,Bp ks b.1 pl,rfl,by omega,λ_ _=>FN rfl,λy _ _=>hw,?_⟩⟩;rw[List.filter_eq_self.mpr λ_ _=>rfl,Z8];exact hk
  by_cases z:b.2=0
  .have eP:BS ks b=(Bp ks b.1 "next").map λy=>(y,b.2):=by unfold BS;rw[ir z];rfl
   rw[ir z]at D q;refine AN (Bc (KS (Az (Cj (A1 rfl (AZ ⟨rfl,_,rfl,Ej (by rw[z];rfl) (Az (Cj (A1 rfl (AZ ⟨rfl,_,rfl,BY (λS=>?_) (λS=>BN ?_)⟩))))⟩))))))
   .have O:a=0:=by simpa[alike]using S
    rw[ir O]at q;exact FA (A1 rfl (by rw[q]))
   .have O:¬ a=0:=λz=>S (by rw[z];rfl);rw[ib O]at q;refine AN (Dk (o "next" b.2 rfl rfl rfl (by decide +kernel) (DX (Bb (A1 rfl (Bb (A1 rfl (Ck ⟨by show 2<=100000;decide,rfl⟩)))))) ?_))
    rw[<- eP];refine Bc (Az (Cj (A1 rfl (AZ ⟨rfl,_,rfl,Ej (by rw[z];rfl) ?_⟩))));exact CB (FT (A1 rfl ⟨_,rfl,AZ ⟨_,rfl,C,by omega,BS ks b,b.2,a - 1,_,_,_,_,rfl,.inr rfl,⟨pl,kp⟩,⟨by omega,by omega⟩,by omega,q⟩⟩))
  .rw[ib z]at D q;refine AN (Bc (KS (Az (Cj (A1 rfl (AZ ⟨rfl,_,rfl,Cf (λy=>z (NX y)) (Cf (by decide) (BN ?_))⟩))))));refine AN (Dk (o "next" b.2 rfl rfl rfl (by decide +kernel) (DX (Bb (A1 rfl (Bb (A1 rfl (Ck ⟨by show 2<=100000;decide,rfl⟩)))))) ?_))
   refine Bc (Az (Cj (A1 rfl (AZ ⟨rfl,_,rfl,Cf (λy=>z (NX y)) ?_⟩))));refine Dk (N0 (C8 (BM (o "last" (b.2 - 1) rfl rfl rfl (by decide +kernel) (DX (Bb (A1 rfl (Bb (FT (A1 rfl ⟨_,rfl,AZ ⟨_,rfl,Ck ⟨by show 2<=100000;decide,?_⟩⟩⟩)))))) ?_))))
   .unfold B1;rw[cW z]
   refine⟨_,.inl ⟨rfl,rfl,MU rfl ⟨rfl,by simp only[AA];omega,C,by omega,BS ks b,b.2,a,_,_,_,_,rfl,.inr ?_,⟨pl,kp⟩,⟨by omega,by omega⟩,by omega,q⟩⟩⟩;unfold BS;rw[ib z,Bn]
def Px:BG ["kinds","sizes","crowd","n","d","total"] ["kinds","sizes","crowd","n"] (AX NJ):=by walk_at "z1"
def pP:=Sc [(".0",.local),("word",.local),("d",.free),("sizes",.free)]
def kI:C7 ["kinds","sizes","crowd","n","d","total"] (AX NJ) pP "word" ["d","sizes"] [4,1]:=by walk_at "z2"
def ZA4:=Sc [(".0",.local),("word",.local),("d",.free)]
def lX:C7 ["kinds","sizes","crowd","n","d","total"] (AX NJ) ZA4 "word" ["d"] [4]:=by walk_at "z2"
def gC : ∀ss R,V1 ss R->ss.length=4:=by rintro _ _⟨ks,cs,Q,T,Ms,n,rfl,_,_,_,_,_,_,_,rfl⟩;rfl
def nC(F:AO K "_law_due" "_law_due" NJ f fd)(m:mg "_law_due"=some (.ref f)):
  AE P w K mg Zj "_law_due" 4 ["kinds","sizes","crowd","n"] (Ac V1):=by
 refine AE.mk F (F.binds (by walk_at "bD4")) m (F.BX (k:=3) Px (λvs H Q E h=>Fz.Cs gC h) (λAY A outer s H vs Q E u h=>?_))
 refine⟨_,(AB rfl (Bq (DT Cp rfl (KH rfl Cz (A0 (B7 Kr By (A0 (qv 1) A6)) A6)) (CQ 4 Px.nd) (AB rfl (AR 5 Px.nd (B7 (K8 rfl) DS (A0 (EA rfl kI (Bi (qv 2)) (λ_ _ _ _=>by exact Dv) (λ_ _ _ _=>by exact(II (Dc u) (Ad (show Cb _ (Iw K)from CJ) (qv 1) (qv 0)) (qv 2) (λ_ _=>rfl)))) A6)))
   (AB rfl (B8 (An MC (qv 3) (qv 5)) (AH rfl (B0 (Ab Ug u (A0 (qv 0) (A0 (qv 1) (A0 (EA rfl lX (Bi (qv 2)) (λ_ _ _ _=>by exact Dv) (λ_ _ _ _=>by exact(D4 (A0 (qv 1) (A0 (qv 0) A6))))) (A0 (qv 4) (A0 (qv 3) A6)))))))) BF)
   (AH rfl (AR 3 Px.nd (Ai Gn (qv 3) (qv 5))))))))
   (AH rfl (B0 GF))),?_⟩
 refine Fz.Cq h gC ?_;rintro _ _⟨ks,cs,Q,T,Ms,n,rfl,g,C,G,x,J,⟨t,r⟩,n0,rfl⟩;show Ws [_,_,_,_,.any,.any] _ _ _;have B:∀{c},c∈cs->c∈Q:=λh=>(x.2 _).mpr (.here h);refine AN (Cu (Dz (λxs d A7=>∃(a:Int)(s4 o:Slot),A7=[.is (.lst ((BB ks Q).map Kd.P)),.is (.lst (BZ ks Ms)),.is (.lst (cs.map .str)),.is (.int a),s4,o]/\0<=a/\d<=9/\Dg ks cs (9 - d) d a=Dg ks cs 9 0 n) ?_))
 walk_at "ww"
 rw[NW,t];refine⟨by decide,by decide,⟨n,_,_,rfl,n0,CA _,rfl⟩,?_,?_⟩
 .rintro d p A7 D⟨a,s4,o,rfl,q,hd,e⟩;obtain⟨j,rfl⟩:=Nr D;have j:d<9:=j;have L:=Ah (l:=Ms) (i:=d) (by omega);obtain⟨M,y⟩:∃M,Ms[d]?=some M:=⟨_,L⟩;have N:=r M (Bo y);rw[show 9 - d=(9 - (d+1))+1 by omega,LM]at e;refine FY ?_;show Ws [.is (.lst ((BB ks Q).map Kd.P)),.is (.lst (BZ ks Ms)),.is (.lst (cs.map .str)),.is (.int a),.is (.int d),o] _ _ _;refine AN (CB (NI (C8 (BM (E5 PV.str (λ_=>true) (λc=>PV.int (wv ks (c,d))) (C1 (C6 (A1 rfl ⟨_,.inl ⟨rfl,cs,rfl,by omega,λ_ _=>FN rfl,λc v _=>?_,?_⟩⟩))) str_inj)))))
  .exact RY (js:=1) rfl (A1 rfl ⟨d,M,rfl,y,A1 rfl ⟨c,rfl,(N.2 c).mpr (B v),rfl⟩⟩)
  rw[List.filter_eq_self.mpr λ_ _=>rfl];refine⟨_,.inl ⟨rfl,rfl,cs.map λc=>wv ks (c,d),by rw[CH];rfl,?_⟩⟩;show Ws [.is (.lst ((BB ks Q).map Kd.P)),.is (.lst (BZ ks Ms)),.is (.lst (cs.map .str)),.is (.int a),.is (.int d),.is (.int (tot ks cs d))] _ _ _;refine AN (Bc (Az (Ol (A1 rfl ⟨_,rfl,A1 rfl ⟨_,rfl,_,rfl,BY (λc=>?_) (λc=>BN ?_)⟩⟩))))
  .have c:=jG c;rw[ir c]at e;refine FA (wp_call (AV (A1 rfl (AV (A1 rfl (AV (BM (E5 PV.str (λ_=>true) (λc=>B1 (c,d)) (C1 (C6 (A1 rfl ⟨_,.inl ⟨rfl,cs,rfl,by omega,λ_ _=>FN rfl,λc v _=>?_,?_⟩⟩))) str_inj))))))))
   .exact DX (Bb (A1 rfl (Bb (A1 rfl (Ck ⟨by show 2<=100000;decide,rfl⟩)))))
   rw[List.filter_eq_self.mpr λ_ _=>rfl,Z8];refine AV (A1 rfl (AV (A1 rfl (BQ ⟨_,⟨ks,cs,Q,T,Ms,cs.map λc=>(c,d),d,a,rfl,g,G,x,J,⟨t,r⟩,⟨by rw[AA];exact C,λb I=>?_⟩,⟨q,by rw[m7];exact c⟩,rfl⟩,?_⟩))))
   .obtain⟨O,Ou,rfl⟩:=List.mem_map.mp I;exact⟨B Ou,by show d<=8;omega⟩
   .rintro _ rfl;rw[<- e];rfl
  .have c:¬ a < tot ks cs d:=λz=>c (jE z);rw[ib c]at e;exact CB (FT (A1 rfl ⟨_,rfl,A1 rfl ⟨_,rfl,a - tot ks cs d,_,_,rfl,by omega,by omega,e⟩⟩))
 .rintro A7⟨a,s4,o,rfl,q,hd,e⟩;refine FA (EC ?_);rw[<- e];rfl
def EK:BG ["script","kinds","book","crowd","some","sizes","total","asked","k","pot","way","n","found"] ["script"] (AX Jw):=by walk_at "z1"
def yk:=Sc [(".0",.local),("wave",.cell),("sum",.globalImplicit),("crowd",.free)]
def vO:=Sc [(".0",.local),("word",.local),("wave",.free)]
def ku:PY ["script","kinds","book","crowd","some","sizes","total","asked","k","pot","way","n","found"] (AX Jw) yk "wave" ["crowd"] [3]:=⟨rfl,by decide +kernel,rfl,by decide +kernel,λ_ _=>rfl,λ_=>rfl,rfl,by decide +kernel,by decide +kernel,by decide +kernel,by decide +kernel⟩
def wm:=Sc [(".0",.local),("wave",.cell),("sum",.globalImplicit),("crowd",.cell)]
def j7:C7 ["crowd","wave"] wm vO "word" ["wave"] [1]:=by walk_at "z2"
def kl(F:AO K "law" "law" Jw f fd)(m:mg "law"=some (.ref f)):
  CD P w K mg Zj Fj 26 f fd ["script"] (Nj K):=by
 refine(F.BX (k:=25) EK (λvs H Q E h=>by obtain⟨a,ns,rfl,_⟩:=h;rfl) (λAY A outer s H vs Q E l h=>?_));refine⟨_,(AB rfl (AR 1 EK.nd (Ab Vl l (A0 (Ab Ox l (A0 (qv 0) (A0 A8 A6))) A6)))
   (AB rfl (AR 2 EK.nd (Ab Vy l (A0 (qv 1) A6)))
   (AB rfl (AR 3 EK.nd (Ab UR l (A0 (Ab Ox l (A0 (qv 0) (A0 A8 A6))) (A0 (qv 1) A6))))
   (AB rfl (B8 (Jm (Ab UT l (A0 (qv 1) (A0 (qv 3) (A0 Ar A6))))) (AH rfl (B0 (VS (Ab RI l (A0 (qv 2) (A0 (qv 3) (A0 A8 A6)))) (Wb (Ab RI l (A0 (qv 2) (A0 (IT PM Fx (A0 (qv 3) A6)) (A0 (Ai Gn (Ai J1 A8 A8) A8) A6)))))))) BF)
   (AB rfl (AR 4 EK.nd (Ab W8 l (A0 (qv 1) (A0 (qv 3) A6))))
   (AB rfl (AR 5 EK.nd (Ab Vc l (A0 (qv 4) (A0 A8 A6))))
   (AB rfl (AR 6 EK.nd (B7 (K8 rfl) DS (A0 (sF rfl ku (Bi (qv 5)) (λ_ _ _ _=>by exact Dv) (λ_ _ _ _=>by exact(B7 (show CZ _ (.builtin "sum") (R5 K)from K8 rfl) DS (A0 (EA rfl j7 (show QI _ _ _ (LW K _)from Bi (qv 0)) (λ_ _ _ _=>by exact Dv) (λ_ _ _ _=>by exact(II (Dc l) (qv 0) (qv 1) (λ_ _=>rfl)))) A6)))) A6)))
   (AB rfl (AR 7 EK.nd (Ds A6))
   (AB rfl (Bq (DT Cp rfl (ie rfl Cz (A0 A8 (A0 (B7 (Vw rfl) Ki (A0 A8 (A0 (B7 (wq rfl) XF (A0 (B7 Kr By (A0 (qv 0) A6)) (A0 A8 A6))) A6))) A6))) (CQ 8 EK.nd) (AB rfl (AR 9 EK.nd (Ab Ox l (A0 (qv 0) (A0 (qv 8) A6))))
   (AB rfl (AR 10 EK.nd (Ab Bd l (A0 (qv 9) (A0 A8 A6))))
   (AB rfl (AR 11 EK.nd (Ad BL (D4 (A0 (Ab Bd l (A0 (qv 9) (A0 A8 A6))) (A0 (B7 (Vw rfl) Ki (A0 A8 (A0 (Ai FI (Ai Gn (qv 6) A8) (Ab Bd l (A0 (qv 9) (A0 A8 A6)))) A6))) (A0 A8 (A0 A8 A6))))) (qv 10)))
   (AB rfl (Bq (B8 (An Cc (qv 10) A8) (AH rfl (AR 11 EK.nd (Ab Bd l (A0 (qv 9) (A0 (Ai J1 A8 A8) A6))))) BF))
   (AB rfl (Bq (B8 (An Cc (qv 10) A8) (AH rfl (AR 11 EK.nd (Ab Bd l (A0 (qv 9) (A0 (Ai FI (qv 6) A8) A6))))) BF))
   (AH rfl (DK (G8 Fn Mi Mj Ju (qv 7) (A0 (qv 11) A6)))))))))))
   (AB rfl (Bq (DT Cp rfl (Bi (Ai R3 (qv 7) (oZ (qv 7) (LQ (Q2 QF A8))))) (CQ 11 EK.nd) (AB rfl (AR 12 EK.nd (RH Kl l (by decide) fk rfl (A0 (qv 2) (A0 (qv 3) (A0 (qv 11) A6)))))
   (AB rfl (B8 (An wI (qv 12) (Ab UY l (A0 (qv 4) (A0 (qv 5) (A0 (qv 3) (A0 (qv 11) A6)))))) (AH rfl (B0 JD)) BF)
   (AH rfl (B8 (Oi (An Qi (qv 12) GF) (OZ (Oe (Jm (B7 zN Cg (A0 (qv 12) (A0 (eh "str" Tp) A6))))))).pt (AH rfl (B0 JD)) BF))))))
   (AH rfl (B0 (RT iZ (RH Kl l (by decide) fk rfl (A0 (qv 2) (A0 (qv 3) (A0 (qv 6) A6)))) GF))))))))))))),?_⟩
 refine Fz.jN h ?_;intro sc Yb;show Ws [_,.any,.any,.any,.any,.any,.any,.any,.any,.any,.any,.any,.any] _ _ _;refine AN (CB (nR rfl (AZ ⟨_,rfl,by decide,by decide,BQ ⟨[],_,rfl,⟨rfl,rfl⟩,?_⟩⟩)));rintro _⟨ks,rfl,g⟩;have l8:=g.l8;refine AN (CB (wp_call (AV (A1 rfl (BQ ⟨_,⟨ks,rfl,g,rfl⟩,?_⟩)))));rintro _ rfl;refine AN (Dk (lI rfl (AZ ⟨_,rfl,by decide,by decide,AV (A1 rfl (BQ ⟨[.lst (ks.map Kd.P)],_,rfl,⟨ks,rfl,g,rfl⟩,?_⟩))⟩)));rintro _⟨cs,rfl,t,q⟩;refine G7 3 rfl ?_;refine AN (Bc (HG (wp_call (AV (A1 rfl (GI (Ct rfl (AV (CT (BQ ⟨_,⟨ks,cs, "ahead", rfl,g,by decide +kernel,t,q,rfl⟩,?_⟩))))))))));rintro _⟨b,rfl,I⟩;refine⟨_,rfl,BY (λc=>?_) (λc=>BN ?_)⟩
 .have R:=I.mp c;refine FA (TH (wp_call (AV (A1 rfl (GI (Ct rfl (AV (AZ (BQ ⟨_,⟨ks,false,cs,0,rfl,g,t,q,by decide,R,rfl⟩,?_⟩)))))))));rintro _ rfl;refine⟨_,rfl,Ej rfl ?_⟩;refine wp_call (AV (A1 rfl (GI (C8 (R0 rfl (Ct rfl ⟨_,.inr ⟨rfl,AV (FT (VT (AZ ⟨_,rfl,AZ ⟨_,rfl,?_,_,rfl,AZ ⟨_,rfl,BQ ⟨_,⟨ks,true,cs,_,rfl,g,t,q,?_,R,rfl⟩,?_⟩⟩⟩⟩)))⟩⟩))))))
  .exact⟨by decide,by decide,by decide⟩
  .decide +kernel
  .rintro _ rfl;rfl
 have U:¬ GZ (Ax ks "ahead") cs:=λz=>c (I.mpr z);obtain⟨T,σ,Dr,rT,HF⟩:=lC (ws:=wk ks) (λx h=>Ll g q h) U;have W:Er ks "ahead" cs T:=⟨σ,Dr,λy hy=>Ll g q (rT y hy),λx hx=>HF x (.here hx)⟩;refine AN (Dk (FH (AV (A1 rfl (AV (A1 rfl (BQ ⟨_,⟨ks,cs,rfl,g,t,q,rfl⟩,?_⟩)))))));rintro _⟨Q,J,rfl⟩;refine G7 4 rfl ?_;refine AN (Dk (FH (AV (A1 rfl (AV (AZ (BQ ⟨_,⟨ks,cs,Q,T,rfl,g,t,q,J,W,rfl⟩,?_⟩)))))));rintro _⟨Ms,V,S,rfl⟩;refine G7 5 rfl ?_;have N:∀M∈Ms,∀c∈cs,c∈M:=λM L c B=>((S M L).2 c).mpr ((J.2 c).mpr (.here B));refine AN (CB (NI (C8 (BM (Tt (λ_=>true) (λp=>PV.int (P2 cs p)) (C1 (C6 (A1 rfl ⟨_,.inl ⟨rfl,by rw[NW];omega,λx _=>FN rfl,λx hx _=>?_,?_⟩⟩))))))))
 .obtain⟨d,M,L,rfl⟩:=lJ hx;have X:=Bo L;refine NI (C8 (BM (E5 PV.str (λ_=>true) (λc=>PV.int (wv ks (c,d))) (C1 (C6 (A1 rfl ⟨_,.inl ⟨rfl,cs,rfl,by omega,λ_ _=>FN rfl,λc B _=>O4 (A1 rfl ⟨B2 M,_,rfl,A1 rfl ⟨.inr c,_,rfl,UU (N M X c B),rfl⟩⟩),?_⟩⟩))) str_inj)));rw[List.filter_eq_self.mpr λ_ _=>rfl];refine⟨_,.inl ⟨rfl,rfl,cs.map λc=>wv ks (c,d),by rw[CH];rfl,?_⟩⟩;rw[cP (N M X)];rfl
 rw[List.filter_eq_self.mpr λ_ _=>rfl];refine⟨_,.inl ⟨rfl,rfl,(BZ ks Ms).map (P2 cs),by rw[CH];rfl,?_⟩⟩;rw[nK N,V,show((List.range 9).map (tot ks cs)).sum=M6 ks cs from rfl];have O:=yM ks cs;have t1:=nA g t;generalize eT:M6 ks cs=tt at O t1;refine AN (Dk (Iv (Ck ⟨by decide,?_⟩)));show Ws [.raw (FW K sc),.is (.lst (ks.map Kd.P)),.is (Aw A3 ks),.is (.lst (cs.map .str)),.is (.lst ((BB ks Q).map Kd.P)),.is (.lst (BZ ks Ms)),.is (.int tt),.own (([]:List Int).map .int),.any,.any,.any,.any,.any] _ _ _;refine AN (Cu (Dz (λ_ i A7=>∃(ns:List Int)(v u I0 JB:Slot),A7=[.raw (FW K sc),.is (.lst (ks.map Kd.P)),.is (Aw A3 ks),.is (.lst (cs.map .str)),.is (.lst ((BB ks Q).map Kd.P)),.is (.lst (BZ ks Ms)),.is (.int tt),.own (ns.map .int),v,u,I0,JB,.any]/\ns.length=i/\∀n∈ns,0<=n) ?_))
 walk_at "ww"
 obtain⟨m,em,B⟩:=iu (b:=3) (c:=62) (n:=sc.length) (by decide) (by decide) (by omega);rw[em];refine⟨⟨by decide,by decide,by omega,by omega⟩,⟨[],_,_,_,_,rfl,rfl,λ_ h=>by cases h⟩,?_,?_⟩
 .rintro i p A7 D⟨ns,v,u,I0,JB,rfl,C,G⟩;obtain⟨hi,rfl⟩:=zR D;refine FY ?_;refine AN (ZY rfl (A1 rfl ⟨_,rfl,by omega,by omega,?_⟩));refine AN (CB (Nd rfl (AZ ⟨_,rfl,by decide,by decide +kernel,λw hw=>?_⟩)));refine AN (CB (Wp.mono (k:=λp=>∃n:Int,p=.int n/\0<=n) ?_ ?_))
  .refine CN (C8 (DX (Bb (Nd rfl (AZ ⟨_,rfl,by decide,by decide +kernel,λa ha=>?_⟩)))));refine Bb (bq rfl (AZ ⟨_,rfl,FT (FT (A1 rfl ⟨_,rfl,AZ ⟨_,rfl,_,rfl,Nd rfl (AZ ⟨_,rfl,by decide,by decide +kernel,λb I=>⟨_,rfl,_,rfl,?_⟩⟩)⟩⟩))⟩));refine Bb (AZ (Bb (AZ (Ck ⟨by show 4<=100000;decide,_,.inr ⟨rfl,rfl,A1 rfl ?_⟩⟩))));rcases(show w=0∨w=1∨w=2∨w=3 by omega)with rfl|rfl|rfl|rfl
   .exact⟨_,_,rfl,L2.Fp (j:=0) rfl,_,rfl,PD _⟩
   .exact⟨_,_,rfl,L2.Fp (j:=1) rfl,_,rfl,by split <;> omega⟩
   .exact⟨_,_,rfl,L2.Fp (j:=2) rfl,_,rfl,XY _⟩
   .exact⟨_,_,rfl,L2.Fp (j:=3) rfl,_,rfl,XY _⟩
  rintro _⟨n,rfl,n0⟩;show Ws [.raw (FW K sc),.is (.lst (ks.map Kd.P)),.is (Aw A3 ks),.is (.lst (cs.map .str)),.is (.lst ((BB ks Q).map Kd.P)),.is (.lst (BZ ks Ms)),.is (.int tt),.own (ns.map .int),.is (.int (2+(i:Int))),.AK,.is (.int w),.is (.int n),.any] _ _ _;refine MJ (λA7=>∃n:Int,0<=n/\A7=[.raw (FW K sc),.is (.lst (ks.map Kd.P)),.is (Aw A3 ks),.is (.lst (cs.map .str)),.is (.lst ((BB ks Q).map Kd.P)),.is (.lst (BZ ks Ms)),.is (.int tt),.own (ns.map .int),.is (.int (2+(i:Int))),.AK,.is (.int w),.is (.int n),.any]) ?_ ?_
  .refine Cu (Bc (Az (Cj (A1 rfl (AZ ⟨rfl,_,rfl,BY (λc=>?_) (λc=>BN ⟨n,n0,rfl⟩)⟩)))));exact CB (Nd rfl (VT (AZ ⟨_,rfl,AZ ⟨_,rfl,⟨by decide,by decide,by decide⟩,_,rfl,by decide +kernel,by decide +kernel,λr l=>⟨r,PD _,rfl⟩⟩⟩)))
  rintro _⟨n,n0,rfl⟩;refine MJ (λA7=>∃n:Int,0<=n/\A7=[.raw (FW K sc),.is (.lst (ks.map Kd.P)),.is (Aw A3 ks),.is (.lst (cs.map .str)),.is (.lst ((BB ks Q).map Kd.P)),.is (.lst (BZ ks Ms)),.is (.int tt),.own (ns.map .int),.is (.int (2+(i:Int))),.AK,.is (.int w),.is (.int n),.any]) ?_ ?_
  .refine Cu (Bc (Az (Cj (A1 rfl (AZ ⟨rfl,_,rfl,BY (λc=>?_) (λc=>BN ⟨n,n0,rfl⟩)⟩)))));exact CB (Nd rfl (FT (A1 rfl ⟨_,rfl,AZ ⟨_,rfl,_,rfl,by omega,XZ (b:=9 * (12 * 13 ^ 9)+1) (by omega) (by decide +kernel),λr l=>⟨r,PD _,rfl⟩⟩⟩)))
  rintro _⟨n,n0,rfl⟩;refine OL rfl (A1 rfl ⟨by rw[AA];omega,ns++[n],_,_,_,_,by rw[Bn];rfl,by rw[Bj,C];rfl,λx hx=>?_⟩);rcases List.mem_append.mp hx with z|z
  .exact G x z
  .rw[List.mem_singleton.mp z];exact n0
 .rintro A7⟨ns,v,u,I0,JB,rfl,C,G⟩;rw[Of]at C;refine G7 7 rfl ?_;have Y:∀{ss:List Slot}{te:TE}{kk:PV->Prop},ss[2]?=some (.is (Aw A3 ks))->ss[3]?=some (.is (.lst (cs.map .str)))->Wp ss te (λp=>∃n:Int,p=.int n/\0<=n/\kk (JS (Dg ks cs 9 0 n)))->Wp ss (OO (IC (Nk A3 B9)) (λ_=>E0) (AU (Ap 2) (AU (Ap 3) (AU te B3)))) kk:=λ{ss te kk}h2 h3 hw=>by
   refine U6 (AV (A1 h2 (GI (Ct h3 (AV (hw.mono λp z=>?_))))));obtain⟨n,rfl,n0,hk⟩:=z;exact BQ ⟨_,_,⟨ks,false,cs,n,rfl,g,t,q,n0,rfl,rfl⟩,trivial,λe h=>absurd h.1 U,λp h=>by rw[h.2];exact hk⟩
  refine AN (Cu (Dz (λ_ _ A7=>∃(v u I0 JB VD:Slot),A7=[.raw (FW K sc),.is (.lst (ks.map Kd.P)),.is (Aw A3 ks),.is (.lst (cs.map .str)),.is (.lst ((BB ks Q).map Kd.P)),.is (.lst (BZ ks Ms)),.is (.int tt),.is (.lst (ns.map .int)),v,u,I0,JB,VD]) (C1 (C6 (BM (N0 (Ct rfl ⟨rfl,C8 (BM (pO (Ct rfl ⟨rfl,RL (SA (AZ ⟨_,rfl,_,rfl,rfl,?_⟩))⟩)))⟩)))))));refine⟨_,.inl ⟨rfl,rfl,by rw[ZAm,AA];omega,_,.inl ⟨rfl,⟨_,_,_,_,_,rfl⟩,?_,?_⟩⟩⟩
  .rintro i p A7 D⟨v,u,I0,JB,VD,rfl⟩;obtain⟨n,B,rfl⟩:∃n∈ns,p=.int n:=by
    rcases List.mem_append.mp (Bo D)with z|z
    .obtain⟨n,h1,h2⟩:=List.mem_map.mp z;exact⟨n,h1,h2.symm⟩
    .obtain⟨n,h1,h2⟩:=List.mem_map.mp (List.mem_reverse.mp z);exact⟨n,h1,h2.symm⟩
   have n0:=G n B;refine FY ?_;refine AN (CB (Y rfl rfl (A1 rfl ⟨n,rfl,n0,?_⟩)));refine AN (Bc (Az (gd (A1 rfl (wp_call (AV (A1 rfl (AV (A1 rfl (AV (A1 rfl (AV (A1 rfl (BQ ⟨_,⟨ks,cs,Q,T,Ms,n,rfl,g,t,q,J,W,⟨V,S⟩,n0,rfl⟩,?_⟩))))))))))))));rintro _ rfl;obtain⟨h1,h2⟩:=vo (Dg ks cs 9 0 n);refine⟨h1,_,rfl,Cf (by rw[h2];decide) (BN ?_)⟩;generalize Dg ks cs 9 0 n=o;cases o with
   |none=>exact Bc (KS (Az (KJ (A1 rfl (EC ⟨rfl,_,rfl,Cf (by decide) (Cf (by decide) (BN ⟨_,_,_,_,_,rfl⟩))⟩)))))
   |some x=>exact Bc (KS (Az (KJ (A1 rfl (EC ⟨rfl,_,rfl,Ej rfl (Q3 (HG (ja (A1 rfl ⟨true,kz _ _,_,rfl,Cf (by decide) (BN ⟨_,_,_,_,_,rfl⟩)⟩))))⟩)))))
  .rintro A7⟨v,u,I0,JB,VD,rfl⟩;refine FA (lO (Y rfl rfl (A1 rfl ⟨tt,rfl,O,?_⟩)));rw[<- eT,u6];exact EC ⟨rfl,rfl⟩
def all_mk{fa f1 f2 f3 f4 f5 f6 f7 f8 f9 RV fK YN bP bx aw e6 bp cV Zg Q1 bJ Qa YM aU fb Yp aY aG Yy bo bR ZU cX fS gY:Addr}{g1 g2 g3 g4 g5 g6 g7 g8 g9 qg wX jX nW rP jr ym ot sP xp zS k7 pU pC yT wa v7 iT g28 tq zD g31 tH mP tD oV:FuncData}(X:K.In h)(G:h.Ns mainGlobals mg)(hfa:mg "law"=some (.ref fa))
  
  (xW:PySem.W.nsIn K mainGlobals "Errands"=some (some (.ref A3)))
  (ZAO:PySem.W.plainGet K A3 Str.empty=true)
  (kb:PySem.W.hasDictIn K A3=true)
  (x3:PySem.W.plainOver K A3=true)
  (wQ:PySem.W.findIn K (.ref A3) "__setattr__"=some (some (.builtin "object.__setattr__")))
  (rN:PySem.W.makesIn K A3=true)
  (yD:PySem.W.keepIn K (.ref A3)=true)
  (Ql:PySem.W.findIn K (.ref A3) "goes_by_word"=some none)
  (GK:PySem.W.findIn K (.ref A3) "puts_by_word"=some none)
  (a1:nS K "_law_take" (.ref f1)) (F1:AO K "_law_take" "_law_take" SH f1 g1)
  (a2:nS K "_law_letters" (.ref f2)) (F2:AO K "_law_letters" "_law_letters" WQ f2 g2)
  (a3:nS K "_law_name" (.ref f3)) (F3:AO K "_law_name" "_law_name" TZ f3 g3)
  (a4:nS K "_law_names" (.ref f4)) (F4:AO K "_law_names" "_law_names" VB f4 g4)
  (a5:nS K "_law_kinds" (.ref f5)) (F5:AO K "_law_kinds" "_law_kinds" SI f5 g5)
  (a6:nS K "check_word" (.ref f6)) (F6:AO K "check_word" "check_word" T5 f6 g6)
  (a7:nS K "check_puts" (.ref f7)) (F7:AO K "check_puts" "check_puts" V7 f7 g7)
  (a8:nS K "is_name" (.ref f8)) (F8:AO K "is_name" "is_name" RA f8 g8)
  (a9:nS K "check_kinds" (.ref f9)) (F9:AO K "check_kinds" "check_kinds" Pd f9 g9)
  (kB:PySem.W.findIn K (.ref A3) "__init__"=some (some (.ref RV))) (qJ:AO K "__init__" "Errands.__init__" Sh RV qg)
  (mI:PySem.W.isFn K (.ref RV)=true)
  (su:nS K "_law_book" (.ref fK)) (uv:AO K "_law_book" "_law_book" RO fK wX)
  (iz:nS K "_law_crowd" (.ref YN)) (zz:AO K "_law_crowd" "_law_crowd" Qv YN jX)
  (o6:nS K "_law_comers" (.ref bP)) (uM:AO K "_law_comers" "_law_comers" Oq bP nW)
  (kr:nS K "_law_reached" (.ref bx)) (tf:AO K "_law_reached" "_law_reached" Tv bx rP)
  (mq:nS K "_law_rings" (.ref aw)) (iP:AO K "_law_rings" "_law_rings" Sm aw jr)
  (zk:nS K "_law_only" (.ref e6)) (pM:AO K "_law_only" "_law_only" RZ e6 ym)
  (m8:nS K "_law_puts" (.ref bp)) (zQ:AO K "_law_puts" "_law_puts" Ow bp ot)
  (jH:nS K "_law_sizes" (.ref cV)) (uc:AO K "_law_sizes" "_law_sizes" KO cV sP)
  (uq:nS K "_law_pot" (.ref Zg)) (vH:AO K "_law_pot" "_law_pot" TK Zg xp)
  (a20:PySem.W.findIn K (.ref A3) "words"=some (some (.ref Q1))) (dw:AO K "words" "Errands.words" Vv Q1 zS)
  (yc:PySem.W.isFn K (.ref Q1)=true)
  (yJ:nS K "check_crowd" (.ref bJ)) (sZ:AO K "check_crowd" "check_crowd" SM bJ k7)
  (oG:PySem.W.findIn K (.ref A3) "puts"=some (some (.ref Qa))) (dB:AO K "puts" "Errands.puts" Tx Qa pU)
  (mY:PySem.W.isFn K (.ref Qa)=true)
  (zV:nS K "comers_of" (.ref YM)) (o5:AO K "comers_of" "comers_of" Qr YM pC)
  (vA:nS K "ring_along" (.ref aU)) (zK:AO K "ring_along" "ring_along" RM aU yT)
  (zw:nS K "way_and_ring" (.ref fb)) (xk:AO K "way_and_ring" "way_and_ring" UP fb wa)
  (vx:nS K "check_ends" (.ref Yp)) (iO:AO K "check_ends" "check_ends" UK Yp v7)
  (yq:nS K "parts_of" (.ref aY)) (pf:AO K "parts_of" "parts_of" PB aY iT)
  (jI:nS K "many_told" (.ref aG)) (y1:AO K "many_told" "many_told" NS aG g28)
  (mR:nS K "word_at" (.ref Yy)) (oa:AO K "word_at" "word_at" Qg Yy tq)
  (yl:nS K "nth" (.ref bo)) (F30:AO K "nth" "nth" N9 bo zD)
  (pV:nS K "_law_alone" (.ref bR)) (z9:AO K "_law_alone" "_law_alone" XO bR g31)
  (mn:nS K "_law_refused" (.ref ZU)) (vB:AO K "_law_refused" "_law_refused" Wy ZU tH)
  (rR:nS K "_law_found" (.ref cX)) (zp:AO K "_law_found" "_law_found" NH cX mP)
  (nM:nS K "_law_due" (.ref fS)) (sg:AO K "_law_due" "_law_due" NJ fS tD)
  (ax:nS K "law" (.ref gY)) (dW:AO K "law" "law" Jw gY oV)
  (ZA5:nN K "ValueError")
  (ZAA:nN K "all")
  (kq:nN K "enumerate")
  (ug:nN K "isinstance")
  (xE:nN K "len")
  (wZ:nN K "list")
  (rW:nN K "max")
  (oy:nN K "min")
  (kP:nN K "range")
  (lG:nN K "str")
  (mT:nN K "sum")
  (wH:nN K "tuple")
  (nJ:nS K "LETTERS" (.str "abcdefghijklmnopqrstuvwxyz" SU))
  (xx:nS K "MOST_IN_CROWD" (.int 12 VR))
  (xS:nS K "MOST_KINDS" (.int 8 VJ))
  (tY:nS K "MOST_LETTERS" (.int 8 Rt))
  (lu:nS K "MOST_PUTS" (.int 6 Th))
  (l5:nS K "WHERES" (.ref JC))
  {zy xH iV rE:Tok}(yn:K.lookup JC=some ⟨.type "tuple", qY,.seq #[.str "next" zy,.str "last" xH,.str "back" iV,.str "first" rE] wV,zt⟩)
  (oS:nS K "WHERES_AHEAD" (.ref JP))
  {lY lD:Tok}(jn:K.lookup JP=some ⟨.type "tuple", rD,.seq #[.str "next" lY,.str "last" lD] nj,y4⟩)
  (oP:nS K "Endless" (.ref B9))
  (nv:nS K "Full" (.ref EW))
  (xK:nS K "Gone" (.ref FC))
  (uR:nS K "NoLog" (.ref Ee))
  (qk:nS K "NoLoop" (.ref EU))
  (vc:nS K "NoName" (.ref Ew))
  (u5:nS K "NoOrders" (.ref EZ))
  (ma:nS K "NoPlace" (.ref Ez))
  (yO:nS K "NoRow" (.ref En))
  (kf:nS K "NoRule" (.ref Em))
  (zm:nS K "NoText" (.ref EV))
  (vg:nS K "NoTicket" (.ref Ec))
  (ra:nS K "NoWhere" (.ref Eo))
  (zg:nS K "Stale" (.ref Ek))
  (kO:nS K "StirError" (.ref Dp))
  (qX:nS K "There" (.ref Eh))
  (vd:nS K "TooMany" (.ref ET))
  (Sn:Lz K B9 none=true)
  (V9:PySem.W.exmOne K (.ref B9) (.ref Dp)=some true)
  (O9:Qx K [Ew,Eh,FC,Ez,Em,Ee,Ek,Eo,EV,EW,ET,EU,Ec,B9,EZ,En] Dp B9 13=true)
  : ∃fd:FuncData,(∀(s:Shared)(v:Value),BindsTo s fd ⟨[v],[]⟩ [("script", v)])/\∀Zj:Heap,K.In Zj->Zj.Ns mainGlobals mg->CD l.prog w K mg Zj Fj 26 fa fd ["script"] (Nj K):=by
 have e:=hfa.symm.trans (Ak X G ax);cases e;have Ef:Dh K A3:=⟨ZAO,kb,x3,wQ⟩;have zJ:Mk K A3 RV:=⟨rN,kB,mI,yD⟩;have u3:Meth K A3 "words" Q1:=⟨a20,yc,dw.kp⟩;have mE:Meth K A3 "puts" Qa:=⟨oG,mY,dB.kp⟩;have Wr:=Gu X G ZA5;have MQ:=Gu X G ZAA;have TJ:=Gu X G kq;have Cg:=Gu X G ug;have By:=Gu X G xE;have Ey:=Gu X G wZ;have Ki:=Gu X G rW;have XF:=Gu X G oy;have Cz:=Gu X G kP;have Tp:=Gu X G lG;have DS:=Gu X G mT;have Fx:=Gu X G wH;have Ux:=Ak X G nJ;have U7:=Ak X G xx;have SN:=Ak X G xS;have U4:=Ak X G tY;have Vd:=Ak X G lu;have Wd:=Ak X G l5;have TX:∀H,BC K H JC [.str "next",.str "last",.str "back",.str "first"]:=λH=>.inr ⟨_,_,_,yn,rfl,rfl,(by show 4<=sizeLine;decide +kernel),(.cons ⟨_,rfl⟩ (.cons ⟨_,rfl⟩ (.cons ⟨_,rfl⟩ (.cons ⟨_,rfl⟩ .nil))))⟩
 have Tz:=Ak X G oS;have XR:∀H,BC K H JP [.str "next",.str "last"]:=λH=>.inr ⟨_,_,_,jn,rfl,rfl,(by show 2<=sizeLine;decide +kernel),(.cons ⟨_,rfl⟩ (.cons ⟨_,rfl⟩ .nil))⟩
 have MI:=Ak X G oP;have V6:=Ak X G xW;have To:=Ak X G nv;have UO:=Ak X G xK;have UD:=Ak X G uR;have Sy:=Ak X G qk;have S6:=Ak X G vc;have XE:=Ak X G u5;have XB:=Ak X G ma;have SQ:=Ak X G yO;have Um:=Ak X G kf;have VE:=Ak X G zm;have TQ:=Ak X G vg;have Tq:=Ak X G ra;have VP:=Ak X G zg;have M4:=Ak X G kO;have VC:=Ak X G qX;have Sb:=Ak X G vd;obtain⟨_,_,kV,dc,pm,an,cd,ct,_,rfl,_,_⟩:=id dW.ex;refine⟨PySem.W.fnOf "law" "law" (Oh Jw) (J4 Jw) (AX Jw) .none kV dc pm an cd ct,λs v=>.of_eq rfl,λZj _ _=>?_⟩;have Bd:=jB (P:=l.prog) (w:=w) (Zj:=Zj) F1 (Ak X G a1);have O6:=uI (P:=l.prog) (w:=w) (Zj:=Zj) F2 (Ak X G a2);have X3:=md O6 Bd By F3 (Ak X G a3);have Sw:=xA X3 Cz F4 (Ak X G a4);have Vl:=oH Bd Cz Sw Ki Fx F5 (Ak X G a5);have Ht:=jW (P:=l.prog) (w:=w) (Zj:=Zj) F6 (Ak X G a6);have SV:=vT Ht Wd TX F7 (Ak X G a7);have TL:=uB (P:=l.prog) (w:=w) (Zj:=Zj) By MQ Ux U4 F8 (Ak X G a8);have X5:=xn By SV TL TJ SN Vd F9 (Ak X G a9);have UH:=yF (P:=l.prog) (w:=w) (mg:=mg) (Zj:=Zj) (A3:=A3) Fx X5 Ef Ql GK qJ zJ;have Vy:=uf (A3:=A3) UH Ey V6 uv (Ak X G su);have UR:=tR Bd By Cz zz (Ak X G iz);have Lk:=wG (P:=l.prog) (w:=w) (Zj:=Zj) uM (Ak X G o6);have Jh:=jh Ey Lk tf (Ak X G kr);have UT:=ky Lk Jh iP (Ak X G mq);have W8:=uz Fx Jh pM (Ak X G zk);have IV:=iK (P:=l.prog) (w:=w) (Zj:=Zj) zQ (Ak X G m8);have Vc:=pA Cz MQ Ey IV DS uc (Ak X G jH);have Ox:=oF (P:=l.prog) (w:=w) (Zj:=Zj) By vH (Ak X G uq);have MK:=ua (P:=l.prog) (w:=w) (mg:=mg) (Zj:=Zj) (A3:=A3) Ef GK Ey dw u3;have S9:=kR (A3:=A3) By Ht MK U7 sZ (Ak X G yJ);have Kh:=kh (P:=l.prog) (w:=w) (mg:=mg) (Zj:=Zj) (A3:=A3) Ht Ef GK Ey dB mE;have OG:=sE (A3:=A3) Kh Tz XR o5 (Ak X G zV);have Mz:=v8 (A3:=A3) OG zK (Ak X G vA);have Vb:=zj (A3:=A3) xk (Ak X G zw) Mz;have WD:=ix (B9:=B9) (A3:=A3) Vb MI Sn iO (Ak X G vx);have Gv:=zh (A3:=A3) Kh pf (Ak X G yq);have GV:=mU (A3:=A3) DS Gv y1 (Ak X G jI);have Mn:=yW (A3:=A3) Gv oa (Ak X G mR) GV;have Kl:=lE (B9:=B9) (A3:=A3) By Cz DS MK S9 WD F30 (Ak X G yl) GV Mn;have W4:=xa (P:=l.prog) (w:=w) (Zj:=Zj) (B9:=B9) (EW:=EW) (FC:=FC) (Ee:=Ee) (EU:=EU) (Ew:=Ew) (EZ:=EZ) (Ez:=Ez) (En:=En) (Em:=Em) (EV:=EV) (Ec:=Ec) (Eo:=Eo) (Ek:=Ek) (Dp:=Dp) (Eh:=Eh) (ET:=ET) MI Wr Cg To UO UD Sy S6 XE XB SQ Um VE TQ Tq VP M4 VC Sb z9 (Ak X G pV);have RI:=yZ (B9:=B9) (A3:=A3) (EW:=EW) (FC:=FC) (Ee:=Ee) (EU:=EU) (Ew:=Ew) (EZ:=EZ) (Ez:=Ez) (En:=En) (Em:=Em) (EV:=EV) (Ec:=Ec) (Eo:=Eo) (Ek:=Ek) (Dp:=Dp) (Eh:=Eh) (ET:=ET) M4 W4 Kl V9 O9 vB (Ak X G mn)
 have Ug:=rG IV zp (Ak X G rR);have UY:=nC By Cz DS Ug sg (Ak X G nM);exact kl (A3:=A3) Bd By Cz Ki Fx DS Cg Kl Vy UR UY Vl W8 Ox RI UT Vc XF Tp dW (Ak X G ax)
def walk{q:Program}{loose:List Str}{XP:(ZBe)->Heap->Prop}{YP:World->Heap->Prop}{d:DefRec}{K:Params->ZBc}(hn:l.most=some 63)(NG:d.params.defaults=[])
  (hY:∀(w:World)(h:Heap),YP w h->(K w.params).In h)
  (F:∀(w:World)(mg:ZBe)(fa:Addr)(h:Heap),(K w.params).In h->h.Ns mainGlobals mg->mg d.name=some (.ref fa)->
   ∃fd:FuncData,(∀(s:Shared)(u:Value),BindsTo s fd ⟨[u],[]⟩ [("script", u)])/\∀Zj:Heap,(K w.params).In Zj->Zj.Ns mainGlobals mg->CD l.prog w (K w.params) mg Zj Fj 26 fa fd ["script"] (Nj (K w.params))) :
  PySem.W.WalkO q loose XP YP l.row.toRowW d [] (λf vs=>PySem.call f vs):=
 L2.xq (n:=63) (k:=26) (x:="script") (CX:=λ_=>Fj) (sp:=λw=>Nj (K w.params)) hn (by decide) NG ⟨rfl,by decide,by decide⟩ hY F (λ_ _ a ns hl _ hS=>⟨a,ns,rfl,hS,hl,λ_=>rfl⟩) λ_ _ _ _ _ z=>z
end Pf
open PySem.W
local macro_rules | `(tactic| walk_at "kF")=>`(tactic| (refine' L2.yB ?_ ?_ ?_;all_goals try k_is;all_goals k_is))
set_option maxRecDepth 100000 in
set_option maxHeartbeats 0 in
theorem PySem.Challenge.cw_stirround_k79_the_nth_told_holds : PySem.Challenge.rw_stirround_k79_the_nth_told.Holds := by
 w_on;o_law;k_head;(case hw=>w_witness2)
 k_fill
 refine Pf.walk (l:=PySem.Challenge.rw_stirround_k79_the_nth_told) rfl rfl (λw h Y=>PySem.W.kIn_of Y) ?F
 case F=>
  intro w mg fa h KX G P9;refine' Pf.all_mk KX G P9 ?_ ?_ ?_ ?_ ?_ ?_ ?_ ?_ ?_ ?_ ?_ ?_ ?_ ?_ ?_ ?_ ?_ ?_ ?_ ?_ ?_ ?_ ?_ ?_ ?_ ?_ ?_ ?_ ?_ ?_ ?_ ?_ ?_ ?_ ?_ ?_ ?_ ?_ ?_ ?_ ?_ ?_ ?_ ?_ ?_ ?_ ?_ ?_ ?_ ?_ ?_ ?_ ?_ ?_ ?_ ?_ ?_ ?_ ?_ ?_ ?_ ?_ ?_ ?_ ?_ ?_ ?_ ?_ ?_ ?_ ?_ ?_ ?_ ?_ ?_ ?_ ?_ ?_ ?_ ?_ ?_ ?_ ?_ ?_ ?_ ?_ ?_ ?_ ?_ ?_ ?_ ?_ ?_ ?_ ?_ ?_ ?_ ?_ ?_ ?_ ?_ ?_ ?_ ?_ ?_ ?_ ?_ ?_ ?_ ?_ ?_ ?_ ?_ ?_ ?_ ?_ ?_ ?_ ?_ ?_ ?_ ?_ ?_
  any_goals first|k_is|(show _=_;k_is)|kernel_rfl|walk_at "kF"
#print axioms PySem.Challenge.cw_stirround_k79_the_nth_told_holds
