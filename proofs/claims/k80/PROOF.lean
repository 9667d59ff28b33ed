import PyProof.Rows.All
import Wide.All
import OpenK.AllK
import PySem.Challenge.RW_stirround_k80_whole_ends_without_running
set_option genSizeOf false
set_option linter.all false
set_option compiler.extract_closed false
set_option bootstrap.genMatcherCode false
noncomputable section
def p5:=@PySem.wpAny_bind
def pL:=@if_neg
def pT:=@if_pos
def pf:=@decide_eq_true
def qB:=@of_decide_eq_true
def qC:=@PySem.wpAny_pure
def qD:=@decide_eq_false
def qK:=@PySem.wpAny_truthy_bool
def qr:=@PySem.wpAny_mono
def rB:=@beq_self_eq_true
def rP:=@congrArg
def sC:=@PySem.wpAny_seqItems
def sG:=@PySem.wpAny_Call_Name_kw
def sH:=@PySem.wpAny_field
def sN:=@PySem.wpAny_setField_rec
def sP:=@decide_eq_true_iff
def sV:=@PySem.wpAny_passesOwn
def tE:=@PySem.wpAny_callSpecial?_slot
def tJ:=@PySem.wpAny_updateSeq
def vE:=@or_false
def vZ:=@PySem.wpAny_letGo
def vg:=@PySem.lookup_relabel_local
def wH:=@PySem.wpAny_holding
def wV:=@PySem.plainId_quiet
def x8:=@PySem.call_meets
def xC:=@PySem.tupleKind_room_in1
def xK:=@PySem.wpAny_pyIter_list
def xg:=@PySem.wpAny_newObj_type
def xl:=@PySem.wpAny_call_entry
def y9:=@PySem.wpAny_updateSeq_pair
def yB:=@PySem.wpAny_execs_nil
def yP:=@PySem.wpAny_pyIter_tuple
def yi:=@PySem.wpAny_onRaise
def zC:=@PySem.wpAny_comprehension_free
def ZA1:=@PySem.wpAny_rule
def ZA4:=@PySem.codeAny_mono
def ZA5:=@PySem.codeAny_builtin
def ZA8:=@PySem.wpAny_tryCatch
def ZAH:=@if_true
def AD:=@List.length_map
def AX:=@List.getElem?_eq_getElem
def Ae:=@List.map_cons
def Aj:=@List.getElem?_map
def Ak:=@List.not_mem_nil
def As:=@Nat.le_refl
def BB:=@PySem.W.mg_of
def BH:=@PySem.Heap.lt_size
def BX:=@List.append_assoc
def BY:=@Option.some.inj
def Bi:=@List.mem_of_getElem?
def Bt:=@List.length_append
def Bu:=@List.map_map
def C0:=@List.map_append
def CB:=@List.append_nil
def CC:=@Ne.symm
def CG:=@PySem.Heap.get?_push_of_some
def CH:=@List.length_cons
def Cf:=@List.sum_cons
def Cg:=@Nat.zero_le
def Co:=@PySem.Heap.get?_push_size
def Cp:=@List.nodup_append
def Cq:=@List.size_toArray
def D6:=@Nat.ne_of_lt
def DH:=@List.getElem?_set_ne
def DN:=@List.getD_eq_getElem?_getD
def DO:=@List.getElem?_append_left
def DP:=@List.getElem?_set_self
def DQ:=@List.getElem_of_mem
def DR:=@List.length_take
def DS:=@List.mem_cons_of_mem
def Dj:=@Bool.false_ne_true
def Dw:=@PySem.PassesOwn.never
def E8:=@List.getElem?_append_right
def E9:=@Nat.lt_of_lt_of_le
def Eb:=@Nat.le_trans
def Er:=@List.mem_append_right
def Es:=@List.mem_cons_self
def Et:=@List.nil_append
def FR:=@List.take_length
def Fm:=@PySem.F.plainAttrs_list
def G8:=@List.mem_append_left
def G9:=@List.mem_cons
def GX:=@Bool.and_eq_true
def GY:=@List.map_nil
def Gz:=@Int.toNat_natCast
def HA:=@List.nodup_nil
def Hq:=@List.all_eq_true
def Hr:=@List.getElem_idxOf
def Hs:=@List.getElem_mem
def Ht:=@List.lookup_cons
def Ii:=@Int.le_refl
def Ij:=@List.length_singleton
def Ik:=@List.map_congr_left
def Il:=@List.sum_append
def Im:=@List.zip_cons_cons
def Jg:=@PySem.Heap.get?_update_other
def Jh:=@List.take_of_length_le
def Kg:=@Bool.eq_iff_iff
def Kh:=@PySem.Heap.size_push
def Ki:=@Int.emod_nonneg
def Kj:=@List.flatMap_cons
def Kk:=@List.getElem?_range
def Kl:=@List.length_range
def Km:=@List.map_drop
def Kn:=@Nat.lt_irrefl
def Ko:=@Nat.lt_of_le_of_lt
def Kp:=@PySem.W.mg_none_of
def MQ:=@Int.emod_lt_of_pos
def MR:=@List.any_cons
def MS:=@List.getElem_map
def MT:=@List.length_set
def MU:=@List.mem_append
def MV:=@Nat.min_eq_left
def MW:=@Nat.ne_of_gt
def MX:=@PySem.mem_of_lookup
def Nx:=@PySem.Heap.get?_update_self
def Ny:=@List.cons_append
def Nz:=@List.getElem_take
def O0:=@Nat.le_succ
def Qi:=@PySem.F.plain_max_loop
def Qj:=@List.all_cons
def Qk:=@List.drop_zero
def Ql:=@List.find?_cons
def Qm:=@List.flatMap_map
def Qn:=@List.length_nil
def Qo:=@List.length_zip
def Qp:=@List.map_take
def Qq:=@List.mem_of_mem_take
def Qr:=@List.set_cons_succ
def Qs:=@List.take_succ_eq_append_getElem
def Qt:=@Nat.sub_zero
def Qu:=@Nat.succ.inj
def Qv:=@Nat.succ_pos
def Qw:=@Nat.zero_add
def Us:=@Int.eq_ofNat_of_zero_le
def Ut:=@List.count_append
def Uu:=@List.filter_append
def Uv:=@List.forIn_nil
def Uw:=@List.length_drop
def Ux:=@List.length_filter_le
def Uy:=@List.set_set
def Uz:=@Nat.le_add_right
def V0:=@Nat.lt_succ_self
def V2:=@Nat.min_eq_right
def V3:=@Nat.sub_self
def V4:=@PyProof.Rows.callWith_type1
def V5:=@PySem.F.slot_list_append
def V6:=@PySem.F.slot_list_index
def V7:=@PySem.F.type_list_append
def bB:=@Array.length_toList
def bC:=@Bool.and_false
def bD:=@PySem.F.slot_tuple_iterator_next
def bE:=@PySem.F.slot_zip_next
def bG:=@List.filter_cons
def bI:=@List.forIn_cons
def bJ:=@List.forall_mem_singleton
def bK:=@List.range_succ_eq_map
def bL:=@List.sum_nil
def bM:=@List.take_append_drop
def bN:=@List.take_left'
def bO:=@Nat.le_of_lt
def bP:=@Nat.le_total
def bQ:=@Option.isSome_map
def bR:=@Option.map_some
def bS:=@PySem.F.slot_list_insert
def n9:=@PySem.Around.under_plainId
def nA:=@Array.getElem?_toList
def nB:=@Bool.and_true
def nC:=@Bool.true_and
def nD:=@Classical.choose_spec
def nE:=@Int.add_zero
def nG:=@Int.lt_of_le_of_lt
def nH:=@Int.toNat_of_nonneg
def nI:=@List.all_map
def nJ:=@List.countP_cons
def nK:=@List.drop_eq_getElem_cons
def nL:=@List.ext_getElem
def nM:=@List.filterMap_cons
def nO:=@List.flatMap_append
def nP:=@List.getElem?_replicate
def nQ:=@List.getElem?_take
def nR:=@List.getElem_inj
def nT:=@List.idxOf_cons
def nU:=@List.length_erase_of_mem
def nW:=@List.length_pos_of_mem
def nX:=@List.mem_erase_of_ne
def nY:=@List.modify_succ_cons
def nZ:=@List.of_mem_zip
def nc:=@List.set_cons_zero
def ng:=@Nat.le_of_eq
def nh:=@Nat.le_of_lt_succ
def ni:=@Nat.le_of_not_lt
def nj:=@Nat.lt_succ_of_lt
def nq:=@Nat.min_self
def nv:=@PySem.Paired.length
def o6:=@PySem.F.type_list_index
def o7:=@PySem.F.type_list_insert
def o8:=@PySem.W.callWith_K
def o9:=@PySem.W.plainGet_of
def ZGO:=@PySem.Calls.Name_function_global
def ZGP:=@PySem.Calls.callWith_builtin
def ZGQ:=@PySem.F.args_tuple_iterator_next_1
def ZGR:=@PySem.F.entry_tuple_iterator_next
def ZGS:=@Int.natCast_nonneg
def ZGT:=@List.Pairwise.map
def ZGU:=@List.any_eq_false
def ZGV:=@List.any_eq_true
def ZGW:=@List.count_cons_of_ne
def ZGX:=@List.count_cons_self
def ZGY:=@List.drop_eq_nil_of_le
def ZGZ:=@List.findIdx_cons
def ZGa:=@List.forall_mem_cons
def ZGb:=@List.getElem?_cons_succ
def ZGc:=@List.getElem?_eq_none
def ZGd:=@List.getElem?_modify
def ZGe:=@List.getElem_drop
def ZGf:=@List.getElem_range
def ZGg:=@List.length_replicate
def ZGh:=@List.length_zipWith
def ZGi:=@List.mem_of_mem_drop
def ZGj:=@List.take_sublist
def ZGk:=@List.toList_toArray
def ZGl:=@List.zipIdx_cons
def ZGm:=@Nat.add_sub_cancel
def ZGn:=@Nat.not_lt_of_le
def ZGp:=@Nat.succ_ne_zero
def ZGq:=@Option.getD_none
def ZGr:=@Option.isSome_some
def ZGs:=@PySem.F.entry_list_index
def ZGt:=@PySem.F.slot_list_count
def ZGu:=@PySem.F.slot_list_pop
def ZGv:=@PySem.F.type_list_count
def ZGw:=@PySem.F.type_list_pop
def ZGx:=@PySem.W.cellsFrom_some
def ZGy:=@PySem.W.methodCall_KW
open PySem PySem.Spec PyProof.Rows
abbrev ZHa:=PySem.W.Frag
abbrev ZHb:=(List (Addr×Obj))
abbrev ZHc:=(Str->Option Value)
namespace PySem.W.Fast
def t:=Nat
def tw15540873280101804692:=t
def tw13850300044287605455:=t
def tw2163399212412472886:=t
def tw3552111458679561179:=t
def tw14301597171665695626:=t
def tw960366113698650539:=t
def tw4203770643784837626:=t
def tw5106151609713592795:=t
def tw15743338863931361164:=t
def tw17412974006043787516:=t
def tw5464347741338958389:=t
def tw132853724847986591:=t
def tw8533729186849831783:=t
def tw12246476176973994469:=t
def tw14960126290485009583:=t
def tw13652755305207656599:=t
def tw11728398844054182613:=t
def tw3058215779579240456:=t
def tw2995934534615195232:=t
def tw10459548381984558339:=t
def tw941475339995165892:=t
def tw4751522843921454039:=t
def tw7397633032144787081:=t
def tw14482791183147971962:=t
def tw15776903672850273918:=t
def tw8557360295986556111:=t
def tw6678752078120953912:=t
def tw1798397198579934962:=t
def tw8947122887256362441:=t
def tw864867751885906619:=t
def tw8737454287269433922:=t
def tw8719073799603764035:=t
def tw7682480439835650710:=t
def tw17042793964617794651:=t
def tw6464492169689157493:=t
def tw10767036108272615770:=t
def tw18068066772440232950:=t
def tw12002070166060653698:=t
def tw8838160032933656403:=t
def tw3733772043072960801:=t
def tw1219042139091618606:=t
def tw2147172480700770952:=t
def tw13265595912355604666:=t
def tw4955879901890397263:=t
def tw17635485853219819451:=t
def tw9549087753381664902:=t
def tw17119780705907171016:=t
def tw3681290588411101405:=t
def tw17501331829595618713:=t
def tw2328899628734062796:=t
def tw13127025828197997673:=t
def tw2329219996826252940:=t
def tw4705814524147051026:=t
def tw8587786940692926887:=t
def tw14006286547904912149:=t
def tw11758738571244079725:=t
def tw12837838325071433038:=t
def tw9086345718278077738:=t
def tw10160924764412066902:=t
def tw18437686909809718094:=t
def tw7129144709607801817:=t
def tw17910803753740654709:=t
def tw11958289190290693825:=t
def tw1706831585697373357:=t
def tw14317000008995889769:=t
def tw3786023236849703486:=t
def tw2635605088514196889:=t
def tw10647867391365991405:=t
def tw15009293756498956253:=t
def tw3090176700748009300:=t
def tw36237742245662740:=t
def tw11264067256912939108:=t
def tw9662097669813908319:=t
def tw223151926852744848:=t
def tw9925044951923499136:=t
def tw14519110986959913987:=t
def tw16070291208266630508:=t
def tw17933986033600808804:=t
def tw7503694356396690175:=t
def tw1213519393181476711:=t
def tw11108610735248117882:=t
def tw11515527944499101907:=t
def tw11555641237385385493:=t
def tw17302944158457861539:=t
def tw4369855019793863167:=t
def tw16523679701816007251:=t
def tw2375329192894640154:=t
def tw6476748586076355130:=t
def tw7075001282993840279:=t
def tw502495093928165565:=t
def tw13687322231558319151:=t
def tw4038111495795765082:=t
def tw6408229274528551444:=t
def tw16140572495230649061:=t
def tw17319852700241970010:=t
def tw3696645976695431583:=t
def tw4192317715036378673:=t
def tw15606985437810089535:=t
def tw10838765101903776556:=t
def tw9147648911113197360:=t
def tw7991916538425194993:=t
def tw17046418949235131970:=t
def tw8995536252501677923:=t
def tw9867258226183985821:=t
def tw12163624838511742734:=t
def tw7710789417104817811:=t
def tw911825207742571792:=t
def tw4324607469481876686:=t
def tw9087583924391641226:=t
def tw12627880829909745236:=t
def tw13595005909342482479:=t
def tw7095228224915751592:=t
def tw1742570676719302175:=t
def tw5102192383596486643:=t
def tw16455534140224357942:=t
def tw167666315540073555:=t
def tw1715189378085232779:=t
def tw11880673461623400363:=t
def tw11828042192432832020:=t
def tw14041747623554315959:=t
def tw12961760596647466519:=t
def tw1938533984603492490:=t
def tw3703169898183229204:=t
def tw8808772965102786027:=t
def tw7897622679916155659:=t
def tw13455904400777157754:=t
def tw7599804143477302674:=t
def tw3597939671920791002:=t
def tw3221263631020713554:=t
def tw9311485493000418348:=t
def tw12241905310858359564:=t
def tw8512549778062019641:=t
def tw1138776748336120463:=t
def tw12046108922610258243:=t
def tw11284781758662868403:=t
def tw7363766340440314722:=t
def tw18010593320250387295:=t
def tw734876638730969288:=t
def tw15567561152674193269:=t
def tw9984626995876115310:=t
def tw17154134124759801357:=t
def tw15408147301054458447:=t
def tw8730212334216568434:=t
def tw17311738209445449085:=t
def tw13500396524947081371:=t
def tw13473023732158059744:=t
def tw8372792731950455524:=t
def tw6142994687432886508:=t
def tw141198973945630288:=t
def tw15699710823100774042:=t
def tw5308882818041019758:=t
def tw10249813953425109547:=t
def tw1660344266698795468:=t
def tw9390735757660368671:=t
def tw6244819582730880803:=t
def tw1978701914186321931:=t
def tw15206823009625475857:=t
def tw4716253970627665873:=t
def tw15857843982861618633:=t
def tw3737066791677643838:=t
def tw331583443153336660:=t
def tw12902365686197133090:=t
end PySem.W.Fast
set_option Elab.async false
set_option maxRecDepth 100000
namespace L2
variable{α κ:Type}{C a b dx it:Addr}{c cd u:Value}{w:World}{ZS h h':Heap}{m name qual x:Str}{e tg:Expr}{lL ZB:ZHb}{s s':Shared}{i j n t' tk:Nat}{ch fp:List Addr}{N ks ns ps:List Str}{M:Model}{A:Around}{E Q:Value->Shared->Prop}{JN ZH2 pos:Pos}{op:CmpOp}{es rest:List Expr}{f:Value->Value->Sem Value}{pl:Sem Bool}{ds us:List Value}{mA mg:ZHc}{prog:Program}{kw:List (Str×Value)}{fd:FuncData}{outer:List Env}{sc scope:Scope}
abbrev Key:=Sum Int Str
noncomputable def LK:Key->Value->Bool
 | .inl k,v=>Value.isInt k v
 | .inr x,v=>Value.isStrOf x v
noncomputable def vz(w:World):Key->Int
 | .inl k=>hashInt k
 | .inr x=>hashStr w x
theorem IT:∀{k:Key}{v:Value},LK k v=true->(∃i t,k=Sum.inl i/\v=Value.int i t)∨(∃x t,k=Sum.inr x/\v=Value.str x t)
 | .inl i,v,h=>by
  obtain⟨t,e⟩:=Value.isInt_shape (k:=i) (v:=v) h;exact .inl ⟨i,t,rfl,e⟩
 | .inr x,v,h=>by
  obtain⟨t,e⟩:=Value.isStrOf_shape (x:=x) (v:=v) h;exact .inr ⟨x,t,rfl,e⟩
theorem ZBT(i:Int)(t:Tok):LK (.inl i) (.int i t)=true:=by simp[LK,Value.isInt]
theorem sf(x:Str)(t:Tok):LK (.inr x) (.str x t)=true:=by simp[LK,Value.isStrOf]
theorem v5(a b:Int):decide ((Sum.inl a:Key)=Sum.inl b)=(a == b):=by
 by_cases e:a=b
 .subst e;simp
 .have h:¬ (Sum.inl a:Key)=Sum.inl b:=λq=>e (Sum.inl.inj q);rw[qD h];exact(beq_eq_false_iff_ne.mpr e).symm
theorem ZCE(a b:Str):decide ((Sum.inr a:Key)=Sum.inr b)=decide (a=b):=by
 by_cases e:a=b
 .subst e;simp
 .have h:¬ (Sum.inr a:Key)=Sum.inr b:=λq=>e (Sum.inr.inj q);rw[qD h,qD e]
theorem t8(a:Int)(b:Str):decide ((Sum.inl a:Key)=Sum.inr b)=false:=qD (λq=>nomatch q)
theorem yc(a:Str)(b:Int):decide ((Sum.inr a:Key)=Sum.inl b)=false:=qD (λq=>nomatch q)
def Dk(prog:Program)(w:World):PySem.KeyKind prog w Key where
 is:=LK
 hash:=vz w
 inj:=λv a b g d=>by
  rcases IT g with⟨i,t,rfl,rfl⟩|⟨x,t,rfl,rfl⟩
  .rcases IT d with⟨j,u,rfl,e⟩|⟨y,u,rfl,e⟩
   .injection e with e1 _;rw[e1]
   .exact nomatch e
  .rcases IT d with⟨j,u,rfl,e⟩|⟨y,u,rfl,e⟩
   .exact nomatch e
   .injection e with e1 _;rw[e1]
 byValue:=λk v h=>by
  rcases IT h with⟨i,t,rfl,rfl⟩|⟨x,t,rfl,rfl⟩ <;> rfl
 pyHash:=λc h=>by
  rcases IT c with⟨i,t,rfl,rfl⟩|⟨x,t,rfl,rfl⟩
  .exact wpAny_pyHash_int h
  .exact wpAny_pyHash_str h
 eqBool:=λf c h=>by
  rcases IT f with⟨i,t,rfl,rfl⟩|⟨x,t,rfl,rfl⟩
  .rcases IT c with⟨j,u,rfl,rfl⟩|⟨y,u,rfl,rfl⟩
   .rw[v5]at h;exact wpAny_eqBool_int h
   .rw[t8]at h;exact SeqAt.EqAt.int_str i t y u _ _ _ _ h
  .rcases IT c with⟨j,u,rfl,rfl⟩|⟨y,u,rfl,rfl⟩
   .rw[yc]at h;exact SeqAt.EqAt.str_int x t j u _ _ _ _ h
   .rw[ZCE]at h;exact wpAny_eqBool_str h
 «strs»:=λk x t v h=>by
  rcases IT h with⟨i,u,rfl,e⟩|⟨y,u,rfl,e⟩
  .exact nomatch e
  .injection e with e1 _
   subst e1;cases v <;> rfl
theorem tS(prog:Program)(w:World)(i:Int)(t:Tok):(Dk prog w).is (.inl i) (.int i t)=true:=ZBT i t
theorem ZDd(prog:Program)(w:World)(x:Str)(t:Tok):(Dk prog w).is (.inr x) (.str x t)=true:=sf x t
inductive V where
 |AE|bl (b:Bool)|int (i:Int)|str (x:Str)|Gg (b:Array UInt8)|Pb (b:UInt64)|ref (a:Addr)|ty (n:String)
 deriving DecidableEq
variable{v y:V}{Dr vs:List V}
def RelV:V->Value->Prop
 | .AE,u=>u=Value.none
 | .bl b,u=>u=Value.bool b
 | .int i,u=>∃t,u=Value.int i t
 | .str x,u=>∃t,u=Value.str x t
 | .Gg b,u=>∃t,u=Value.bytes b t
 | .Pb b,u=>∃t,u=Value.float b t
 | .ref a,u=>u=Value.ref a
 | .ty n,u=>u=Value.type n
abbrev Vals:List V->List Value->Prop:=Paired RelV
theorem Vals.length{xs:List V}{us:List Value}(r:Vals xs us):xs.length=us.length:=nv r
theorem Vals.get:∀{xs:List V}{us:List Value}{i:Nat}{x:V},Vals xs us->xs[i]?=some x->∃u,us[i]?=some u/\RelV x u
 |_,_,_,_,.nil,e=>by simp at e
 |_,_,0,_,.cons r _,e=>by simp at e;subst e;exact⟨_,rfl,r⟩
 |_,_,i+1,x,.cons _ t,e=>by
  obtain⟨u,h1,h2⟩:=Vals.get (i:=i) (x:=x) t (by simpa using e)
  exact⟨u,by simpa using h1,h2⟩
theorem Vals.set{x:V}{u:Value}(r:RelV x u):∀{xs:List V}{us:List Value}(i:Nat),Vals xs us->Vals (xs.set i x) (us.set i u)
 |_,_,_,.nil=>.nil
 |_,_,0,.cons _ t=>.cons r t
 |_,_,i+1,.cons q t=>.cons q (Vals.set r i t)
theorem Vals.append:∀{xs ys:List V}{us ws:List Value},Vals xs us->Vals ys ws->Vals (xs++ys) (us++ws)
 |_,_,_,_,.nil,s=>s
 |_,_,_,_,.cons r t,s=>.cons r (Vals.append t s)
theorem Vals.take:∀{xs:List V}{us:List Value}(n:Nat),Vals xs us->Vals (xs.take n) (us.take n)
 |_,_,0,_=>.nil
 |_,_,_+1,.nil=>.nil
 |_,_,n+1,.cons r t=>.cons r (Vals.take n t)
theorem Vals.drop:∀{xs:List V}{us:List Value}(n:Nat),Vals xs us->Vals (xs.drop n) (us.drop n)
 |_,_,0,r=>r
 |_,_,_+1,.nil=>.nil
 |_,_,n+1,.cons _ t=>Vals.drop n t
def FL:Option V->Option Value->Prop
 |some v,some u=>RelV v u
 |none,none=>True
 |_,_=>False
def KV:List (κ×V)->List (κ×Value)->Prop:=Paired λ(p:κ×V)(q:κ×Value)=>p.1=q.1/\RelV p.2 q.2
noncomputable def kV:Key->V
 | .inl i=>.int i
 | .inr x=>.str x
inductive HO where
 /-- a list -/
 |lst (xs:List V)
 /-- a tuple (never changes) -/
 |tup (xs:List V)
 /-- a dict yk keys are ints and texts;one yk keys are tuples of ints and texts (HF empty one is both) -/
 |dK (A7:List (Key×V))|dT (A7:List (List Key×V))
 /-- a set of ints: A5 members,A5 size -/
 |set (S:Int->Bool) (n:Nat)
 /-- an instance of HF class at C,A5 dict at dx,A5 attributes -/
 |ins (C dx:Addr) (fs:List (Str×V))
 /-- HF dict of HF instance at x -/
 |own (x:Addr)
 /-- HF dict of an exception -/
 |xd (fs:List (Str×V))
 /-- a bound method,f of x -/
 |met (f x:Addr)
 /-- a range object lo,lo+1,.. below hi -/
 |NU (lo hi:Int)
 /-- a xy ZHV is known to HF object (HF cP;a dict while a loop walks it): read,never written while it is so -/
 |IB (o:Obj) (u:HO)
 /-- a code ZHT table -/
 |MP (ps:Array Value)
 /-- any other xy,by ZFA is true of A5 one object (a def of ZHO own: rM a S n:=HO.ext λh=>..) -/
 |ext (φ:Heap->Prop)
variable{o o':HO}
abbrev Hp:=Addr->Option HO
variable{H H':Hp}
noncomputable def upd(H:Hp)(a:Addr)(o:HO):Hp:=λb=>if b=a then some o else H b
theorem BC:upd H a o a=some o:=by unfold upd;rw[pT rfl]
theorem An(h:b≠a):upd H a o b=H b:=by unfold upd;rw[pL h]
theorem ZDm{u:HO}(h:H a=some o)(h':H b=some u)(d:o≠u):a≠b:=by
 intro e;subst e;rw[h]at h';exact d (BY h')
theorem Di(h:H a=some o)(h':H b=none):a≠b:=by
 intro e;subst e;rw[h]at h';cases h'
section
variable(P:Program)(w:World)
def DA(H:Hp)(h:Heap)(a:Addr):HO->Prop
 | .lst xs=>xs.length<=sizeLine/\∃(A5:List Value)(n:Nat),Vals xs A5/\h.get? a=some { cls:=.type "list", data:=.seq A5.toArray n }
 | .tup xs=>xs.length<=sizeLine/\∃A5:List Value,Vals xs A5/\(IsTup h a A5.toArray/\∀ob,h.get? a=some ob->ob.dict=none)
 | .dK A7=>A7.length<=sizeLine/\(a == sysModules)=false/\∃vs,KV A7 vs/\h.DictOf (Dk P w) a vs
 | .dT A7=>A7.length<=sizeLine/\(a == sysModules)=false/\∃xs:List (List Key×Addr×Value),
   Paired (λ(p:List Key×V)(q:List Key×Addr×Value)=>p.1=q.1/\H q.2.1=some (.tup (p.1.map kV))/\RelV p.2 q.2.2) A7 xs/\
   ∃o es b,h.get? a=some o/\o.ExactDict/\o.data=.dict es b/\es.toList=xs.map (entryOfKey (tupleKind (Dk P w)))/\(xs.map (·.1)).Nodup
 | .set S n=>h.SetOf (intKind P w) a S n
 | .ins C dx fs=>H dx=some (.own a)/\fs.length<=1000/\dx≠a/\h.get? a=some (PySem.W.instObj C dx)/\
   ∃mA,h.Ns1 dx mA/\(∀f,FL (fs.lookup f) (mA f))/\PySem.Within mA (fs.map (·.1))
 | .own _=>∃o,h.get? a=some o
 | .xd fs=>∃mA,h.Ns1 a mA/\∀f,FL (fs.lookup f) (mA f)
 | .NU lo hi=>∃t u v,h.get? a=some { cls:=.type "range", data:=.fields #[.int lo t,.int hi u,.int 1 v] }
 | .IB o u=>h.get? a=some o/\DA H h a u
 | .MP ps=>h.get? a=some { cls:=.none,data:=.fields ps }
 | .met f x=>h.get? a=some (PySem.W.methodObj (.ref f) (.ref x))
 | .ext φ=>φ h/\(∃o,h.get? a=some o)/\∀h1 h2:Heap,φ h1->(∀o,h1.get? a=some o->h2.get? a=some o)->φ h2
def CI(H:Hp)(h:Heap):Prop:=∀a o,H a=some o->DA P w H h a o
end
section
variable{P:Program}
theorem DA.lt(x:DA P w H h a o):a<h.objs.size:=by
 cases o with
 |lst xs=>obtain⟨_,_,_,_,e⟩:=x;exact BH e
 |tup xs=>obtain⟨_,_,_,p⟩:=x;exact p.1.lt
 |dK A7=>obtain⟨_,_,_,_,o,_,_,e,_⟩:=x;exact BH e
 |dT A7=>obtain⟨_,_,_,_,o,_,_,e,_⟩:=x;exact BH e
 |set S n=>obtain⟨o,_,_,_,e,_⟩:=x;exact BH e
 |ins C dx fs=>obtain⟨_,_,_,e,_⟩:=x;exact BH e
 |own y=>obtain⟨_,e⟩:=x;exact BH e
 |xd fs=>obtain⟨_,⟨_,_,_,e,_⟩,_⟩:=x;exact BH e
 |NU lo hi=>obtain⟨_,_,_,e⟩:=x;exact BH e
 |IB ob u=>obtain⟨e,_⟩:=x;exact BH e
 |MP ps=>exact BH (show h.get? a=some _ from x)
 |met f y=>exact BH (show h.get? a=some _ from x)
 |ext φ=>obtain⟨_,⟨_,e⟩,_⟩:=x;exact BH e
theorem Paired.Zb{α β:Type}{F G:α->β->Prop}:∀{l₁:List α}{c:List β},Paired F l₁ c->(∀a b,F a b->G a b)->Paired G l₁ c
 |_,_,.nil,_=>.nil
 |_,_,.cons r t,f=>.cons (f _ _ r) (Paired.Zb t f)
theorem DA.Kr(x:DA P w H h a o)(k:∀b u,(b=a∨H b=some (.own a))->h.get? b=some u->h'.get? b=some u)
  (ho:∀b,H b=some (.own a)->H' b=some (.own a)) (m:∀b xs,H b=some (.tup xs)->H' b=some (.tup xs)):DA P w H' h' a o:=by
 induction o with
 |lst xs=>obtain⟨z,A5,n,r,e⟩:=x;exact⟨z,A5,n,r,k _ _ (.inl rfl) e⟩
 |tup xs=>obtain⟨z,A5,r,⟨ob,e,c⟩,A⟩:=x;exact⟨z,A5,r,⟨ob,k _ _ (.inl rfl) e,c⟩,λB j=>by rw[k _ _ (.inl rfl) e]at j;cases j;exact A _ e⟩
 |dK A7=>obtain⟨z,y,vs,r,ob,es,g,e,c⟩:=x;exact⟨z,y,vs,r,ob,es,g,k _ _ (.inl rfl) e,c⟩
 |dT A7=>
  obtain⟨z,y,xs,r,ob,es,g,e,c⟩:=x;exact⟨z,y,xs,Paired.Zb r λp q z=>⟨z.1,m _ _ z.2.1,z.2.2⟩,ob,es,g,k _ _ (.inl rfl) e,c⟩
 |set S n=>obtain⟨ob,es,g,t,e,c⟩:=x;exact⟨ob,es,g,t,k _ _ (.inl rfl) e,c⟩
 |ins C dx fs=>
  obtain⟨d,z,ne,e,mA,⟨i,es,g,s,c⟩,r⟩:=x;exact⟨ho _ d,z,ne,k _ _ (.inl rfl) e,mA,⟨i,es,g,k _ _ (.inr d) s,c⟩,r⟩
 |own y=>obtain⟨ob,e⟩:=x;exact⟨ob,k _ _ (.inl rfl) e⟩
 |xd fs=>obtain⟨mA,⟨i,es,g,e,c⟩,r⟩:=x;exact⟨mA,⟨i,es,g,k _ _ (.inl rfl) e,c⟩,r⟩
 |NU lo hi=>obtain⟨t,u,v,e⟩:=x;exact⟨t,u,v,k _ _ (.inl rfl) e⟩
 |IB ob u l=>obtain⟨e,q⟩:=x;exact⟨k _ _ (.inl rfl) e,l q⟩
 |MP ps=>
  have e:h.get? a=some { cls:=.none,data:=.fields ps }:=x;show h'.get? a=some { cls:=.none,data:=.fields ps };exact k a _ (.inl rfl) e
 |met f y=>
  have e:h.get? a=some (PySem.W.methodObj (.ref f) (.ref y)):=x;show h'.get? a=some (PySem.W.methodObj (.ref f) (.ref y));exact k a _ (.inl rfl) e
 |ext φ=>obtain⟨p,⟨o,e⟩,st⟩:=x;exact⟨st _ _ p λo q=>k _ _ (.inl rfl) q,⟨o,k _ _ (.inl rfl) e⟩,st⟩
theorem CI.lt(x:CI P w H h)(e:H a=some o):a<h.objs.size:=(x a o e).lt
theorem CI.fresh(x:CI P w H h)(e:h.objs.size<=a):H a=none:=by
 cases q:H a with
 |none=>rfl
 |some u=>exact absurd (E9 (x.lt q) e) (Kn _)
theorem CI.kept(x:CI P w H h)(k:∀b u,h.get? b=some u->h'.get? b=some u):CI P w H h':=λa o e=>
 (x a o e).Kr (λb u _ q=>k b u q) (λ_ q=>q) λ_ _ q=>q
theorem CI.laid(x:CI P w H h)(k:∀b u,h.get? b=some u->h'.get? b=some u)(g:h.objs.size<=a)(new:DA P w (upd H a o) h' a o):CI P w (upd H a o) h':=λb u e=>by
 have d:=x.fresh g
 by_cases f:b=a
 .subst f;rw[BC]at e;cases e;exact new
 .rw[An f]at e;exact(x b u e).Kr (λc v _ q=>k c v q) (λc q=>by rw[An (Di q d)];exact q) λc xs q=>by rw[An (Di q d)];exact q
end
def Rd(H:Hp)(a:Addr)(u:HO):Prop:=H a=some u∨∃o,H a=some (.IB o u)
theorem Rd.ok{P:Program}{u:HO}(r:Rd H a u)(x:CI P w H h):DA P w H h a u:=by
 rcases r with r|⟨o,r⟩
 .exact x a u r
 .obtain⟨_,q⟩:=x a _ r;exact q
def O4:Option HO->Prop
 |some (.lst _)=>True
 |some (.dK _)=>True
 |some (.dT _)=>True
 |some (.set _ _)=>True
 |some (.ins _ _ _)=>True
 |some (.ext _)=>True
 |_=>False
section
variable{P:Program}{x e:Addr}
theorem CI.write(ok:CI P w H h)(a:O4 (H x))(j:e=x∨H e=some (.own x))(k:∀b u,b≠e->h.get? b=some u->h'.get? b=some u)(Ji:∃u,h'.get? e=some u)
  (new:DA P w (upd H x o') h' x o'):CI P w (upd H x o') h':=λb u q=>by
 have l:∀c y,H c=some (.own y)->c≠x:=λc y r z=>by subst z;rw[r]at a;exact a
 have m:∀c xs,H c=some (.tup xs)->c≠x:=λc xs r z=>by subst z;rw[r]at a;exact a
 by_cases f:b=x
 .subst f;rw[BC]at q;cases q;exact new
 .rw[An f]at q
  by_cases g:b=e
  .have i:H b=some (.own x):=by
    rcases j with z|z
    .exact absurd (g.trans z) f
    .rw[g];exact z
   rw[q]at i;cases i;obtain⟨v,n⟩:=Ji;exact⟨v,by rw[g];exact n⟩
  .refine(ok b u q).Kr (λc v d r=>k c v ?_ r) (λc r=>by rw[An (l c b r)];exact r) λc xs r=>by rw[An (m c xs r)];exact r
   rcases d with rfl|d
   .exact g
   .rintro rfl;rcases j with z|z
    .exact l c b d z
    .rw[d]at z;cases z;exact f rfl
end
structure Un (fs ex:List Addr) (H H':Hp) (h h':Heap):Prop where
 keep:∀b o,h.get? b=some o->H b=none->b∉fs->b∉ex->h'.get? b=some o
 slot:∀b o,h.get? b=some o->H b=none->b∈fs->b∉ex->∃sl,h'.get? b=some { o with slots:=sl }
 free:∀b o,h.get? b=some o->H b=none->b∉ex->H' b=none
 there:∀b o,h.get? b=some o->b∉ex->∃o',h'.get? b=some o'
 KS:∀b xs,H b=some (.tup xs)->H' b=some (.tup xs)
 Iu:∀b o u,H b=some (.IB o u)->H' b=some (.IB o u)
 KI:∀b ps,H b=some (.MP ps)->∃more,H' b=some (.MP (ps++more))
section
variable{fs Nc ex ex':List Addr}{H1 H2:Hp}{h1 h2:Heap}{x e:Addr}
theorem Un.any(u:Un fs ex H H1 h h1){ob:Obj}(q:h.get? b=some ob)(n:H b=none)(hx:b∉ex):∃c,h1.get? b=some { ob with slots:=c }:=by
 by_cases a:b∈fs
 .exact u.slot b ob q n a hx
 .exact⟨ob.slots,u.keep b ob q n a hx⟩
theorem Un.kept(k:∀b u,h.get? b=some u->h'.get? b=some u):Un fs ex H H h h':=
 ⟨λb ob q _ _ _=>k b ob q,λb ob q _ _ _=>⟨ob.slots,k b ob q⟩,λ_ _ _ n _=>n,λb ob q _=>⟨ob,k b ob q⟩,λ_ _ q=>q,λ_ _ _ q=>q,λ_ ps q=>⟨#[],by rw[q];simp⟩⟩
theorem Un.refl:Un fs ex H H h h:=Un.kept λ_ _ q=>q
theorem Un.laid(k:∀b u,h.get? b=some u->h'.get? b=some u)(d:h.objs.size<=a)(c:H a=none):Un fs ex H (upd H a o) h h' where
 keep:=λb u q _ _ _=>k b u q
 slot:=λb u q _ _ _=>⟨u.slots,k b u q⟩
 free:=λb u q n _=>by rw[An (D6 (E9 (BH q) d))];exact n
 there:=λb u q _=>⟨u,k b u q⟩
 KS:=λb xs q=>by rw[An (Di q c)];exact q
 Iu:=λb u xs q=>by rw[An (Di q c)];exact q
 KI:=λb ps q=>⟨#[],by rw[An (Di q c),q];simp⟩
theorem Un.write(a:O4 (H x))(g:e=x∨H e=some (.own x))(k:∀b u,b≠e->h.get? b=some u->h'.get? b=some u)(Ji:∃u,h'.get? e=some u):Un fs ex H (upd H x o) h h':=by
 have hx:∀b,H b=none->b≠x:=λb n z=>by subst z;rw[n]at a;exact a
 have d:∀b,H b=none->b≠e:=λb n z=>by
  subst z;rcases g with r|r
  .exact hx b n r
  .rw[n]at r;cases r
 have c:∀b u,H b=some u->¬ O4 (some u)->b≠x:=λb u q nm z=>by subst z;rw[q]at a;exact nm a
 refine⟨λb u q n _ _=>k b u (d b n) q,λb u q n _ _=>⟨u.slots,k b u (d b n) q⟩,λb u q n _=>by rw[An (hx b n)];exact n,λb u q _=>?_,
  λb xs q=>by rw[An (c b _ q λz=>z)];exact q,λb u xs q=>by rw[An (c b _ q λz=>z)];exact q,λb ps q=>⟨#[],by rw[An (c b _ q λz=>z),q];simp⟩⟩
 by_cases f:b=e
 .subst f;exact Ji
 .exact⟨u,k b u f q⟩
end
noncomputable def Tq(h:Heap)(H:Hp):List Addr:=(List.range h.objs.size).filter λa=>(H a).isSome
def J2(h:Heap)(H:Hp):Heap:=PySem.W.hideAll h (Tq h H)
theorem ZDO(h:Heap)(H:Hp):(J2 h H).objs.size=h.objs.size:=PySem.W.hideAll_size _ _
theorem tj{o:Obj}(e:h.get? b=some o)(n:H b=none):(J2 h H).get? b=some o:=
 PySem.W.hideAll_get _ e λa=>by
  have q:(H b).isSome=true:=(List.mem_filter.mp a).2;rw[n]at q;simp at q
theorem zb{o:Obj}(e:(J2 h H).get? b=some o):h.get? b=some o/\H b=none:=by
 have a:h.get? b=some o:=PySem.W.of_hideAll (Tq h H) e;refine⟨a,?_⟩;cases q:H b with
 |none=>rfl
 |some x=>
  have c:b∈Tq h H:=List.mem_filter.mpr ⟨List.mem_range.mpr (BH a),by simp[q]⟩;have z:(J2 h H).get? b=none:=PySem.W.hideAll_none (Tq h H) c;rw[z]at e;cases e
structure Mod (K:ZHa) (mg:ZHc) (ZS:Heap):Prop where
 Ou:K.In ZS
 glob:ZS.Ns mainGlobals mg
 blt:∃mb,ZS.Ns builtinsNs mb/\∀x:Str,x ≠"__name__" -> mb x=bootBuiltins x
 nolimit:ZS.NoLimit
structure Cx where
 prog:Program
 w:World
 K:ZHa
 mg:ZHc
 base:Heap
 A:Around
 N:List Str
 s₀:Shared
 H₀:Hp
 env:Env
 outer:List Env
 stack:List Env
 ex:List Addr
 fn:Str->Bool
 calm:Bool
 pn:ZHb
 xe:Value->Shared->Prop
variable{X:Cx}
noncomputable def Hd(l:List Env):List Addr:=l.filterMap (·.frame)
abbrev Cx.fs(X:Cx):List Addr:=Hd X.outer
def UW(sc:Scope)(x:Str):Prop:=sc.names.lookup x=some .local∨sc.names.lookup x=some .cell∨sc.names.lookup x=some .free
def Loc(sc:Scope)(x:Str):Prop:=sc.names.lookup x=some .local∨sc.names.lookup x=some .cell
def Look(env:Env)(h:Heap)(m:ZHc)(x:Str)(u:Value):Prop:=
 (env.kindOf x=some .local/\m x=some u)∨((env.kindOf x=some .cell∨env.kindOf x=some .free)/\∃c,env.cells.lookup x=some c/\h.IsCell c (some u))
structure Cx.Ok (X:Cx):Prop where
 mod:Mod X.K X.mg X.base
 kind:X.env.scope.kind=.function
 glob:X.env.globals=mainGlobals
 blt:X.env.builtins=builtinsNs
 above:X.s₀.heap.objs.size<=X.env.locals
 inj:∀x y c,X.env.cells.lookup x=some c->X.env.cells.lookup y=some c->x=y
 has:∀x,(X.env.kindOf x=some .cell∨X.env.kindOf x=some .free)->∃c,X.env.cells.lookup x=some c
 O1:∀x c,X.fn x=true->X.env.cells.lookup x=some c->X.s₀.heap.objs.size<=c
 hd:X.calm=true->X.A.handled=none
 frames:X.A.frames=some X.stack
 Tf:X.stack=X.outer∨(X.stack=X.env::X.outer/\X.env.frame=some X.env.locals)
 SF:∀b∈X.ex,b≠X.env.locals/\∀x c,X.env.cells.lookup x=some c->c≠b
 bs:∀b o,X.base.get? b=some o->X.s₀.heap.get? b=some o/\X.H₀ b=none
 JS:X.base.objs.size<=X.s₀.heap.objs.size
 Q3:∀b o,X.base.get? b=some o->b∉X.ex
 Ob:∀b∈X.ex,b∉X.fs
 Gd:X.s₀.heap.FunFrames X.base X.outer
 MO:∀b∈X.fs,X.H₀ b=none
structure Inv (X:Cx) (ZB:ZHb) (O:List (Option V)) (H:Hp) (s:Shared):Prop where
 ok:X.Ok
 os:s.os=X.s₀.os
 bare:AllBare s.gens
 base:Un X.fs X.ex X.H₀ H X.s₀.heap s.heap
 loc:∃m,s.heap.Ns X.env.locals m/\∀(i:Nat)(x:Str)(v:V),X.N[i]?=some x->O[i]?=some (some v)->UW X.env.scope x->∃u,RelV v u/\Look X.env s.heap m x u
 cell:∀x c,X.env.cells.lookup x=some c->∃v,s.heap.IsCell c v
 free:H X.env.locals=none
 IC:∀x c,X.env.cells.lookup x=some c->H c=none
 pin:∀p∈X.pn++ZB,s.heap.get? p.1=some p.2/\H p.1=none/\p.1≠X.env.locals/\p.1∉X.fs/\∀v,p.2.data≠.cell v
 AY:CI X.prog X.w H s.heap
 len:O.length=X.N.length
section
variable{O:List (Option V)}
theorem Cx.Ok.ZBc(ok:X.Ok){o:Obj}(e:X.base.get? b=some o):b∉X.fs:=λa=>by
 have:=(ok.Gd.mem a).1;rw[e]at this;cases this
theorem Inv.bs(I:Inv X ZB O H s):∀b o,X.base.get? b=some o->s.heap.get? b=some o/\H b=none:=λb o e=>
 ⟨I.base.keep b o (I.ok.bs b o e).1 (I.ok.bs b o e).2 (I.ok.ZBc e) (I.ok.Q3 b o e),I.base.free b o (I.ok.bs b o e).1 (I.ok.bs b o e).2 (I.ok.Q3 b o e)⟩
theorem Inv.bk(I:Inv X ZB O H s):∀b o,X.base.get? b=some o->s.heap.get? b=some o:=λb o e=>(I.bs b o e).1
theorem Inv.mod(I:Inv X ZB O H s):Mod X.K X.mg X.base:=I.ok.mod
theorem Inv.Fn(I:Inv X ZB O H s):X.K.In s.heap:=I.ok.mod.Ou.keeps I.bk
theorem Inv.lt(I:Inv X ZB O H s):X.env.locals<s.heap.objs.size:=let ⟨_,hn,_⟩:=I.loc;hn.lt
theorem Inv.sz(I:Inv X ZB O H s):X.s₀.heap.objs.size<=s.heap.objs.size:=Eb I.ok.above (bO I.lt)
theorem Inv.ql(I:Inv X ZB O H s)(h:s.heap.objs.size<=a):a∉X.fs:=λb=>by
 obtain⟨_,o,ho,_⟩:=I.ok.Gd.mem b;exact absurd (E9 (BH ho) (Eb I.sz h)) (Kn _)
theorem Inv.Lv(I:Inv X ZB O H s):∀x c,X.env.cells.lookup x=some c->c≠X.env.locals:=λx c e z=>by
 obtain⟨v,o,ho,hd⟩:=I.cell x c e;obtain⟨m,⟨o',es,b,Ff,a,_⟩,_⟩:=I.loc;rw[z,Ff]at ho;cases ho;rw[a]at hd;cases hd
theorem Inv.Gd(I:Inv X ZB O H s):s.heap.FunFrames X.base X.outer:=by
 have all:∀(l:List Env),(∀b∈Hd l,b∈X.fs)->X.s₀.heap.FunFrames X.base l->s.heap.FunFrames X.base l:=by
  intro l
  induction l with
  |nil=>intro _ _;trivial
  |cons env r g=>
   intro f j;obtain⟨hk,⟨L,o,a,i,ho,hd⟩,h⟩:=j;have d:L∈X.fs:=f L (by unfold Hd;rw[nM,a];exact Es);obtain⟨k,e⟩:=I.base.slot L o ho (I.ok.MO L d) d λz=>I.ok.Ob L z d;exact⟨hk,⟨L,_,a,i,e,hd⟩,g (λb c=>f b (by unfold Hd;rw[nM,a];exact DS _ c)) h⟩
 exact all X.outer (λ_ c=>c) I.ok.Gd
theorem Inv.stack(I:Inv X ZB O H s):s.heap.FunFrames X.base X.stack:=by
 rcases I.ok.Tf with e|⟨e,hf⟩
 .rw[e];exact I.Gd
 .rw[e];obtain⟨m,a,_⟩:=I.loc;refine .cons (by rw[I.ok.kind];decide) hf a ?_ I.Gd;exact Heap.get?_none_of_le (Eb I.ok.JS I.ok.above)
theorem Inv.WC(I:Inv X ZB O H s):∀b∈Hd X.stack,b∈X.env.locals::X.fs:=λb a=>by
 rcases I.ok.Tf with e|⟨e,hf⟩
 .rw[e]at a;exact DS _ a
 .rw[e]at a;unfold Hd at a;rw[nM,hf]at a;exact a
theorem Inv.fS(I:Inv X ZB O H s):∀b∈Hd X.stack,H b=none:=λb a=>by
 rcases List.mem_cons.mp (I.WC b a)with e|a
 .rw[e];exact I.free
 .obtain⟨_,o,ho,_⟩:=I.ok.Gd.mem a;exact I.base.free b o ho (I.ok.MO b a) λz=>I.ok.Ob b z a
theorem Inv.step{g':Array GenState}{t':Nat}{d':Drawn}{ch:List Addr}(I:Inv X ZB O H s)
  (IF:∀b∈ch,(b∈X.ex∨X.s₀.heap.objs.size<=b)/\b≠X.env.locals/\(∀x c,X.env.cells.lookup x=some c->c≠b)/\∀p∈X.pn++ZB,p.1≠b)
  (keep:∀b o,b≠X.env.locals->b∉X.fs->b∉ch->s.heap.get? b=some o->H b=none->h'.get? b=some o)
  (slot:∀b o,b≠X.env.locals->b∈X.fs->b∉ch->s.heap.get? b=some o->H b=none->∃y,h'.get? b=some { o with slots:=y }) (free:∀b o,b∉ch->s.heap.get? b=some o->H b=none->H' b=none)
  (there:∀b o,b∉ch->s.heap.get? b=some o->∃o',h'.get? b=some o')
  (KS:∀b xs,H b=some (.tup xs)->H' b=some (.tup xs)) (Iu:∀b o u,H b=some (.IB o u)->H' b=some (.IB o u)) (KI:∀b ps,H b=some (.MP ps)->∃more,H' b=some (.MP (ps++more)))
  (ns:∀m,s.heap.Ns X.env.locals m->h'.Ns X.env.locals m) (AY:CI X.prog X.w H' h') (hg:AllBare g') :
  Inv X ZB O H' { s with heap:=h',gens:=g',drawn:=d',toks:=t' }:=by
 have B:∀b o,X.s₀.heap.get? b=some o->b≠X.env.locals:=λb o e=>D6 (E9 (BH e) I.ok.above);have t:∀b o,X.s₀.heap.get? b=some o->b∉X.ex->b∉ch:=λb o e hx g=>by
  rcases(IF b g).1 with z|z
  .exact hx z
  .exact absurd (E9 (BH e) z) (Kn _)
 have a:∀x c,X.env.cells.lookup x=some c->∀v,s.heap.IsCell c v->h'.IsCell c v:=λx c e v AG=>by
  obtain⟨o,ho,hd⟩:=AG;have j:c∉ch:=λz=>(IF c z).2.2.1 x c e rfl
  by_cases D:c∈X.fs
  .obtain⟨y,q⟩:=slot c o (I.Lv x c e) D j ho (I.IC x c e);exact⟨_,q,hd⟩
  .exact⟨o,keep c o (I.Lv x c e) D j ho (I.IC x c e),hd⟩
 refine⟨I.ok,I.os,hg,⟨λb o e n g hx=>?_,λb o e n g hx=>?_,λb o e n hx=>?_,λb o e hx=>?_,λb xs e=>KS b xs (I.base.KS b xs e),λb o xs e=>Iu b o xs (I.base.Iu b o xs e),λb ps e=>?_⟩,?_,λx c e=>?_,?_,λx c e=>?_,λp C=>?_,AY,I.len⟩
 .exact keep b o (B b o e) g (t b o e hx) (I.base.keep b o e n g hx) (I.base.free b o e n hx)
 .obtain⟨y,f⟩:=I.base.slot b o e n g hx;obtain⟨E,h⟩:=slot b _ (B b o e) g (t b o e hx) f (I.base.free b o e n hx);exact⟨E,h⟩
 .obtain⟨o',f⟩:=I.base.there b o e hx;exact free b o' (t b o e hx) f (I.base.free b o e n hx)
 .obtain⟨o',f⟩:=I.base.there b o e hx;exact there b o' (t b o e hx) f
 .obtain⟨G,f⟩:=I.base.KI b ps e;obtain⟨F,h⟩:=KI b _ f;exact⟨G++F,by rw[h,Array.append_assoc]⟩
 .obtain⟨m,J,K⟩:=I.loc;refine⟨m,ns m J,λi x v f h L=>?_⟩;obtain⟨u,r,l⟩:=K i x v f h L;refine⟨u,r,?_⟩;rcases l with l|⟨k,c,e,z⟩
  .exact .inl l
  .exact .inr ⟨k,c,e,a x c e _ z⟩
 .obtain⟨v,z⟩:=I.cell x c e;exact⟨v,a x c e v z⟩
 .obtain⟨m,⟨o,_,_,ho,_⟩,_⟩:=I.loc;exact free _ o (λz=>(IF _ z).2.1 rfl) ho I.free
 .obtain⟨v,o,ho,hd⟩:=I.cell x c e;exact free c o (λz=>(IF c z).2.2.1 x c e rfl) ho (I.IC x c e)
 .obtain⟨e,n,ne,A,d⟩:=I.pin p C;have j:p.1∉ch:=λz=>(IF p.1 z).2.2.2 p C rfl;exact⟨keep p.1 p.2 ne A j e n,free p.1 p.2 j e n,ne,A,d⟩
theorem Inv.un(I:Inv X ZB O H s)(u:Un X.fs [] H H' s.heap h')(AY:CI X.prog X.w H' h'):Inv X ZB O H' { s with heap:=h',toks:=t' }:=by
 obtain⟨m,⟨o,es,i,ho,r⟩,_⟩:=id I.loc;obtain⟨g,f⟩:=u.any ho I.free (by simp);exact I.step (g':=s.gens) (d':=s.drawn) (ch:=[]) (λ_ z=>nomatch z) (λb o _ a _ e n=>u.keep b o e n a (by simp)) (λb o _ a _ e n=>u.slot b o e n a (by simp)) (λb o _ e n=>u.free b o e n (by simp)) (λb o _ e=>u.there b o e (by simp)) u.KS u.Iu u.KI (λh d=>by
  obtain⟨o',Pc,X0,Ff,c⟩:=d;rw[ho]at Ff;cases Ff;exact⟨_,Pc,X0,f,c⟩) AY I.bare
theorem Inv.call{g':Array GenState}{d':Drawn}(I:Inv X ZB O H s)(u:Un (Hd X.stack) ch H H' s.heap h')(AY:CI X.prog X.w H' h')(h:AllBare g')
  (IF:∀b∈ch,(b∈X.ex∨X.s₀.heap.objs.size<=b)/\b≠X.env.locals/\(∀x c,X.env.cells.lookup x=some c->c≠b)/\∀p∈X.pn++ZB,p.1≠b) :
  Inv X ZB O H' { s with heap:=h',gens:=g',drawn:=d',toks:=t' }:=by
 obtain⟨m,⟨o,es,l,ho,r⟩,_⟩:=id I.loc;obtain⟨j,d⟩:=u.any ho I.free λz=>(IF _ z).2.1 rfl;exact I.step (ch:=ch) IF (λb o d i a e n=>u.keep b o e n (λz=>(List.mem_cons.mp (I.WC b z)).elim d i) a) (λb o _ _ a e n=>u.any e n a) (λb o a e n=>u.free b o e n a) (λb o a e=>u.there b o e a) u.KS u.Iu u.KI (λk g=>by
  obtain⟨o',Pc,X0,Ff,f⟩:=g;rw[ho]at Ff;cases Ff;exact⟨_,Pc,X0,d,f⟩) AY h
theorem Inv.turned(I:Inv X ZB O H s)(k:∀b o,b≠it->s.heap.get? b=some o->h'.get? b=some o)(g:H it=none)(d:it≠X.env.locals)
  (h1:it∈X.ex∨X.s₀.heap.objs.size<=it) (h2:∀x c,X.env.cells.lookup x=some c->c≠it) (j:∀p∈X.pn++ZB,p.1≠it):Inv X ZB O H { s with heap:=h',toks:=t' }:=by
 have f:∀b u,H b=some u->b≠it:=λb u e z=>by rw[z,g]at e;cases e
 refine I.step (g':=s.gens) (d':=s.drawn) (ch:=[it]) (λb i=>?_) (λb o _ _ a e _=>k b o (λz=>a (by simp[z])) e) (λb o _ _ a e _=>⟨o.slots,k b o (λz=>a (by simp[z])) e⟩) (λ_ _ _ _ n=>n)
  (λb o a e=>⟨o,k b o (λz=>a (by simp[z])) e⟩) (λ_ _ e=>e) (λ_ _ _ e=>e) (λb ps e=>⟨#[],by rw[e];simp⟩) (λm h=>?_) (λb u e=>?_) I.bare
 .have e:b=it:=by simpa using i
  subst e;exact⟨h1,d,h2,j⟩
 .obtain⟨o,es,l,ho,r⟩:=h;exact⟨o,es,l,k _ o (CC d) ho,r⟩
 .refine(I.AY b u e).Kr (λc v a q=>k c v ?_ q) (λ_ q=>q) λ_ _ q=>q;rcases a with z|z
  .rw[z];exact f b u e
  .exact f c _ z
theorem Inv.tok(I:Inv X ZB O H s)(t:Nat):Inv X ZB O H { s with toks:=t }:=I.un (h':=s.heap) (t':=t) Un.refl I.AY
theorem Inv.kept(I:Inv X ZB O H s)(k:∀b u,s.heap.get? b=some u->h'.get? b=some u):Inv X ZB O H { s with heap:=h',toks:=t' }:=I.un (Un.kept k) (I.AY.kept k)
theorem Inv.laid(I:Inv X ZB O H s)(k:∀b u,s.heap.get? b=some u->h'.get? b=some u)(c:s.heap.objs.size<=a)(new:DA X.prog X.w (upd H a o) h' a o):
  Inv X ZB O (upd H a o) { s with heap:=h',toks:=t' }:=I.un (Un.laid k c (I.AY.fresh c)) (I.AY.laid k c new)
theorem Inv.write{x e:Addr}(I:Inv X ZB O H s)(a:O4 (H x))(c:e=x∨H e=some (.own x))(k:∀b u,b≠e->s.heap.get? b=some u->h'.get? b=some u)(Ji:∃u,h'.get? e=some u)
  (new:DA X.prog X.w (upd H x o) h' x o):Inv X ZB O (upd H x o) { s with heap:=h',toks:=t' }:=I.un (Un.write a c k Ji) (I.AY.write a c k Ji new)
theorem Inv.kQ(I:Inv X ZB O H s)(h:∀p∈lL,s.heap.get? p.1=some p.2/\H p.1=none/\p.1≠X.env.locals/\p.1∉X.fs/\∀v,p.2.data≠.cell v):Inv X lL O H s:=
 ⟨I.ok,I.os,I.bare,I.base,I.loc,I.cell,I.free,I.IC,λp a=>(List.mem_append.mp a).elim (λz=>I.pin p (G8 _ z)) (h p),I.AY,I.len⟩
theorem ij(c:N.Nodup)(a:N[i]?=some x)(b:N[j]?=some x):i=j:=by
 obtain⟨h1,e⟩:=List.getElem?_eq_some_iff.mp a;obtain⟨h2,d⟩:=List.getElem?_eq_some_iff.mp b;exact(nR c).mp (e.trans d.symm)
theorem dQ{Q:Unit->Shared->Prop}(I:Inv X ZB O H s)(hN:X.N.Nodup)(hi:X.N[i]?=some x)(hx:Loc X.env.scope x)(r:RelV v u)
  (h:∀s',Inv X ZB (O.set i (some v)) H s'->(∃a,Heap.SameBut a s.heap s'.heap/\(a=X.env.locals∨X.env.cells.lookup x=some a))->Q () s') (hf:X.fn x=true∨X.env.scope.names.lookup x=some .local:=by first|exact .inl rfl|exact .inr rfl|assumption):wpAny M A (storeName X.env x u) Q E s:=by
 obtain⟨m,T,Z⟩:=id I.loc;have W:(X.env.scope.kind == .class || (X.env.scope.kind == .module && X.env.locals != X.env.globals))=false:=by rw[I.ok.kind];rfl
 have hiσ:i<O.length:=by rw[I.len];exact(List.getElem?_eq_some_iff.mp hi).1
 have Lv:=I.Lv;have g:∀{a:Addr}{h':Heap},(∃o,s.heap.get? a=some o/\H a=none)->Heap.SameBut a s.heap h'->CI X.prog X.w H h':=λ{a h'}ha f b ob e=>by
  obtain⟨_,_,fo⟩:=ha;refine(I.AY b ob e).Kr (λc F t q=>(f.2 c ?_).trans q) (λ_ q=>q) λ_ _ q=>q;rintro rfl;rcases t with rfl|t
  .rw[fo]at e;cases e
  .rw[fo]at t;cases t
 rcases hx with hk|hk
 .refine wpAny_storeName_local hk T (λh' Ku f=>?_) W;obtain⟨oL,_,_,S,_⟩:=id T;refine h _ ⟨I.ok,I.os,I.bare,⟨λb o e n D hx=>?_,λb o e n D hx=>?_,I.base.free,λb o e hx=>?_,I.base.KS,I.base.Iu,I.base.KI⟩,⟨_,Ku,λj y J l B U=>?_⟩,λy c e=>?_,I.free,I.IC,λp R=>?_,g ⟨oL,S,I.free⟩ f,by simpa using I.len⟩ ⟨_,f,.inl rfl⟩
  .exact(f.2 b (D6 (E9 (BH e) I.ok.above))).trans (I.base.keep b o e n D hx)
  .obtain⟨L,l⟩:=I.base.slot b o e n D hx;exact⟨L,(f.2 b (D6 (E9 (BH e) I.ok.above))).trans l⟩
  .obtain⟨o',l⟩:=I.base.there b o e hx;exact⟨o',(f.2 b (D6 (E9 (BH e) I.ok.above))).trans l⟩
  .by_cases C:j=i
   .subst C;rw[hi]at l;cases l;rw[DP hiσ]at B;cases B;exact⟨u,r,.inl ⟨hk,by simp⟩⟩
   .rw[DH (CC C)]at B;obtain⟨K,σ,q⟩:=Z j y J l B U;refine⟨K,σ,?_⟩;rcases q with⟨k,e⟩|⟨k,c,e,z⟩
    .refine .inl ⟨k,?_⟩;have:y≠x:=λe=>C (ij hN l (e▸hi));simp[this,e]
    .exact .inr ⟨k,c,e,z.sameBut f (Lv y c e)⟩
  .obtain⟨F,z⟩:=I.cell y c e;exact⟨F,z.sameBut f (Lv y c e)⟩
  .obtain⟨e,n,ne,P,d⟩:=I.pin p R;exact⟨(f.2 p.1 ne).trans e,n,ne,P,d⟩
 .have V:X.fn x=true:=by
   rcases hf with z|z
   .exact z
   .rw[z]at hk;cases hk
  obtain⟨c,t⟩:=I.ok.has x (.inl hk);obtain⟨F,z⟩:=I.cell x c t;refine wpAny_storeName_cell I.ok.kind hk t z (λh' L6 f=>?_);obtain⟨Y,e9,yx⟩:=id z;refine h { s with heap:=h' } ⟨I.ok,I.os,I.bare,⟨λb o e n D hx=>?_,λb o e n D hx=>?_,I.base.free,λb o e hx=>?_,I.base.KS,I.base.Iu,I.base.KI⟩,⟨m,T.sameBut f (CC (Lv x c t)),λj y J l B U=>?_⟩,λy G e=>?_,I.free,I.IC,λp R=>?_,g ⟨Y,e9,I.IC x c t⟩ f,by simpa using I.len⟩ ⟨c,f,.inr t⟩
  .exact(f.2 b (D6 (E9 (BH e) (I.ok.O1 x c V t)))).trans (I.base.keep b o e n D hx)
  .obtain⟨L,l⟩:=I.base.slot b o e n D hx;exact⟨L,(f.2 b (D6 (E9 (BH e) (I.ok.O1 x c V t)))).trans l⟩
  .obtain⟨o',l⟩:=I.base.there b o e hx;exact⟨o',(f.2 b (D6 (E9 (BH e) (I.ok.O1 x c V t)))).trans l⟩
  .by_cases C:j=i
   .subst C;rw[hi]at l;cases l;rw[DP hiσ]at B;cases B;exact⟨u,r,.inr ⟨.inl hk,c,t,L6⟩⟩
   .rw[DH (CC C)]at B;obtain⟨K,σ,q⟩:=Z j y J l B U;refine⟨K,σ,?_⟩;rcases q with q|⟨k,G,e,z'⟩
    .exact .inl q
    .refine .inr ⟨k,G,e,z'.sameBut f ?_⟩;rintro rfl;exact C (ij hN l (I.ok.inj _ _ _ e t▸hi))
  .by_cases RW:G=c
   .subst RW;exact⟨_,L6⟩
   .obtain⟨w2,z2⟩:=I.cell y G e;exact⟨w2,z2.sameBut f RW⟩
  .obtain⟨e,n,ne,P,d⟩:=I.pin p R;refine⟨(f.2 p.1 ?_).trans e,n,ne,P,d⟩;intro q;rw[q,e9]at e;have q':Y=p.2:=BY e;exact d F (by rw[<- q'];exact yx)
theorem Zv{Q:Unit->Shared->Prop}(I:Inv X ZB O H s)(b:X.N.Nodup)(hi:X.N[i]?=some x)(hx:Loc X.env.scope x)(r:RelV v u)
  (h:∀s',Inv X ZB (O.set i (some v)) H s'->Q () s') (a:X.fn x=true∨X.env.scope.names.lookup x=some .local:=by first|exact .inl rfl|exact .inr rfl|assumption):wpAny M A (storeName X.env x u) Q E s:=
 dQ I b hi hx r (λs' I' _=>h s' I') a
theorem Inv.wo(I:Inv X ZB O H s)(ho:s'.os=s.os)(u:Un (Hd X.stack) ch H H' s.heap s'.heap)(AY:CI X.prog X.w H' s'.heap)(a:AllBare s'.gens)
  (IF:∀b∈ch,(b∈X.ex∨X.s₀.heap.objs.size<=b)/\b≠X.env.locals/\(∀x c,X.env.cells.lookup x=some c->c≠b)/\∀p∈X.pn++ZB,p.1≠b):Inv X ZB O H' s':=by
 obtain⟨h',g',d',t',o'⟩:=s';have e:o'=s.os:=ho;subst e;exact I.call (g':=g') (t':=t') (d':=d') u AY a IF
end
abbrev XK:=Value->Option Addr->Hp->Prop
abbrev St:=List (Option V)
variable{O:St}
abbrev VK:=V->Hp->Prop
abbrev TE:=St->Hp->VK->Prop
variable{ta tb tc te:TE}
abbrev TT:=St->Hp->(Bool->Hp->Prop)->Prop
abbrev TA:=St->Hp->(List V->Hp->Prop)->Prop
structure Ends where
 nx:St->Hp->Prop
 rt:VK
 bk:St->Hp->Prop:=λ_ _=>False
 ct:St->Hp->Prop:=λ_ _=>False
abbrev TS:=Ends->St->Hp->Prop
def EP(X:Cx)(ZB:ZHb)(O:St)(Q:VK)(u:Value)(s':Shared):Prop:=∃v H',Inv X ZB O H' s'/\RelV v u/\Q v H'
def TP(X:Cx)(ZB:ZHb)(O:St)(Q:Bool->Hp->Prop)(b:Bool)(s':Shared):Prop:=∃H',Inv X ZB O H' s'/\Q b H'
def AP(X:Cx)(ZB:ZHb)(O:St)(Q:List V->Hp->Prop)(us:List Value)(s':Shared):Prop:=∃vs H',Inv X ZB O H' s'/\Vals vs us/\Q vs H'
def SP(X:Cx)(ZB:ZHb)(D:Ends)(f:Flow)(s':Shared):Prop:=
 match f with
 | .next=>∃ σ' H',Inv X ZB σ' H' s'/\D.nx σ' H'
 | .brk=>∃ σ' H',Inv X ZB σ' H' s'/\D.bk σ' H'
 | .cont=>∃ σ' H',Inv X ZB σ' H' s'/\D.ct σ' H'
 | .ret u=>∃v σ' H',Inv X ZB σ' H' s'/\RelV v u/\D.rt v H'
def PE(X:Cx)(e:Expr)(t:TE):Prop:=
 ∀(ZB:ZHb)(s:Shared)(O:St)(H:Hp)(Q:VK),Inv X ZB O H s->t O H Q->wpAny (model X.prog X.w) X.A (eval e X.env) (EP X ZB O Q) X.xe s
def PT(X:Cx)(e:Expr)(t:TT):Prop:=
 ∀(ZB:ZHb)(s:Shared)(O:St)(H:Hp)(Q:Bool->Hp->Prop),Inv X ZB O H s->t O H Q->wpAny (model X.prog X.w) X.A (isTrue e X.env (eval e X.env)) (TP X ZB O Q) X.xe s
def PW(X:Cx)(e:Expr)(t:TT):Prop:=
 ∀(a:Sem Value)(ZB:ZHb)(s:Shared)(O:St)(H:Hp)(Q:Bool->Hp->Prop),Inv X ZB O H s->t O H Q->wpAny (model X.prog X.w) X.A (isTrue e X.env a) (TP X ZB O Q) X.xe s
theorem PW.pt{t:TT}(h:PW X e t):PT X e t:=h _
def PA(X:Cx)(es:List Expr)(t:TA):Prop:=
 ∀(pos:Pos)(ZB:ZHb)(s:Shared)(O:St)(H:Hp)(Q:List V->Hp->Prop),Inv X ZB O H s->t O H Q->wpAny (model X.prog X.w) X.A (spliced (backTo pos (starEach es X.env))) (AP X ZB O Q) X.xe s
def PS(X:Cx)(st:Stmt)(t:TS):Prop:=
 ∀(ZB:ZHb)(s:Shared)(O:St)(H:Hp)(D:Ends),Inv X ZB O H s->t D O H->wpAny (model X.prog X.w) X.A (exec st X.env) (SP X ZB D) X.xe s
def Ek(X:Cx)(st:List Stmt)(t:TS):Prop:=
 ∀(ZB:ZHb)(s:Shared)(O:St)(H:Hp)(D:Ends),Inv X ZB O H s->t D O H->wpAny (model X.prog X.w) X.A (execs st X.env) (SP X ZB D) X.xe s
theorem AO{t:Sem α}{Q Q':α->Shared->Prop}(h:wpAny M A t Q E s)(b:∀a s,Q a s->Q' a s):wpAny M A t Q' E s:=qr h b λ_ _ x=>x
section
def Au(i:Nat):TE:=λO H Q=>∃v,O[i]?=some (some v)/\Q v H
def tC(v:V):TE:=λ_ H Q=>Q v H
def Gl(X:Cx)(x:Str):Prop:=X.env.kindOf x=some .globalImplicit
theorem Zi(I:Inv X ZB O H s)(b:Gl X x)(a:X.mg x=some u)(h:Q u s)
  (hd:(x == ("__debug__":Str))=false:=by decide):wpAny (model X.prog X.w) X.A (eval (.Name x pos) X.env) Q E s:=
 ZGO I.ok.kind b (Calls.loadGlobal_global (by rw[I.ok.glob];exact I.mod.glob.keeps I.bk) a h) hd
theorem Li(I:Inv X ZB O H s)(d:Gl X x)(c:X.mg x=none)(a:bootBuiltins x=some u)(h:Q u s)
  (b:x ≠"__name__" := by decide) (hd:(x == ("__debug__":Str))=false:=by decide):wpAny (model X.prog X.w) X.A (eval (.Name x pos) X.env) Q E s:=by
 obtain⟨e,h1,h2⟩:=I.mod.blt;exact ZGO I.ok.kind d (Calls.loadGlobal_builtin (by rw[I.ok.glob];exact I.mod.glob.keeps I.bk) c (by rw[I.ok.blt];exact h1.keeps I.bk) ((h2 x b).trans a) h) hd
variable{a b:Expr}
def PC(X:Cx)(op:CmpOp)(a b:Expr)(t:TE):Prop:=
 ∀(ZB:ZHb)(s:Shared)(O:St)(H:Hp)(Q:VK),Inv X ZB O H s->t O H Q->
  wpAny (model X.prog X.w) X.A (eval a X.env) (λv d=>wpAny (model X.prog X.w) X.A (eval b X.env) (λu c=>wpAny (model X.prog X.w) X.A (compareOp op v u) (EP X ZB O Q) X.xe c) X.xe d) X.xe s
theorem ZDD(b:Expr)(h:op≠.In)(h2:op≠.NotIn):behindInMarks op b=false:=by
 have c:(op == CmpOp.In)=false:=by cases op <;> first|rfl|exact absurd rfl h
 have a:(op == CmpOp.NotIn)=false:=by cases op <;> first|rfl|exact absurd rfl h2
 cases b <;> simp[behindInMarks,c,a]
def tB(t:TE):TT:=λO H Q=>t O H λx H1=>∃c,x=.bl c/\Q c H1
theorem lx{t:TE}(h:PC X op a b t)(h1:behindInMarks op b=false:=by first|exact ZDD _ (by decide) (by decide)|rfl):PT X (.Compare a [op] [b] pos) (tB t):=by
 intro ZB s O H Q I hw;refine wpAny_isTrue_Compare1 (AO (h ZB s O H _ I hw) λv i h1=>AO h1 λu s2 h2=>AO h2 λc g⟨x,H1,I1,e,f⟩=>?_) h1;obtain⟨d,rfl,q⟩:=f;cases e;exact qK ⟨H1,I1,q⟩
variable{tA Ja:TT}
def Z5(t u:TT):TT:=λO H Q=>t O H λc H1=>if c=true then u O H1 Q else Q false H1
def Y1(t u:TT):TT:=λO H Q=>t O H λc H1=>if c=true then Q true H1 else u O H1 Q
def aH(t:TT):TT:=λO H Q=>t O H λc H1=>Q (!c) H1
def Yp(ta tb:TE):TE:=λO H Q=>ta O H λx H1=>∃c,x=.bl c/\if c=true then tb O H1 Q else Q (.bl false) H1
def XT(ta tb:TE):TE:=λO H Q=>ta O H λx H1=>∃c,x=.bl c/\if c=true then Q (.bl true) H1 else tb O H1 Q
def Xj(ta:TE):TE:=λO H Q=>ta O H λx H1=>∃c,x=.bl c/\Q (.bl (!c)) H1
def SN(t:TT)(ta tb:TE):TE:=λO H Q=>t O H λc H1=>if c=true then ta O H1 Q else tb O H1 Q
end
def AW(K:ZHa)(H:Hp)(a:Addr)(xs:List V):Prop:=
 Rd H a (.lst xs)∨
  ∃(o:Obj)(A5:Array Value)(n:Nat),K.lookup a=some o/\o.cls=.type "list" /\ o.dict=none/\o.data=.seq A5 n/\A5.size<=sizeLine/\Vals xs A5.toList
def B7(K:ZHa)(H:Hp)(a:Addr)(xs:List V):Prop:=
 Rd H a (.tup xs)∨
  ∃(o:Obj)(A5:Array Value)(n:Nat),K.lookup a=some o/\o.cls=.type "tuple" /\ o.data=.seq A5 n/\A5.size<=sizeLine/\Vals xs A5.toList
noncomputable def zf:Value->Option V
 | .none=>some .AE
 | .bool b=>some (.bl b)
 | .int i _=>some (.int i)
 | .str x _=>some (.str x)
 | .bytes b _=>some (.Gg b)
 | .float b _=>some (.Pb b)
 | .ref a=>some (.ref a)
 | .type n=>some (.ty n)
 |_=>none
theorem RelV.abs{x:V}(r:RelV x u):zf u=some x:=by
 cases x with
 |AE=>cases r;rfl
 |bl _=>cases r;rfl
 |int _=>obtain⟨t,rfl⟩:=r;rfl
 |str _=>obtain⟨t,rfl⟩:=r;rfl
 |Gg _=>obtain⟨t,rfl⟩:=r;rfl
 |Pb _=>obtain⟨t,rfl⟩:=r;rfl
 |ref _=>cases r;rfl
 |ty _=>cases r;rfl
theorem RelV.inj{x y:V}{u:Value}(r:RelV x u)(q:RelV y u):x=y:=BY (r.abs.symm.trans q.abs)
theorem Vals.inj:∀{xs ys:List V}{us:List Value},Vals xs us->Vals ys us->xs=ys
 |_,_,_,.nil,.nil=>rfl
 |_,_,_,.cons r t,.cons r' t'=>by rw[r.inj r',Vals.inj t t']
section
variable{xs ys:List V}
theorem AW.of{K:ZHa}(h:H a=some (.lst xs)):AW K H a xs:=.inl (.inl h)
theorem B7.of{K:ZHa}(h:H a=some (.tup xs)):B7 K H a xs:=.inl (.inl h)
theorem Inv.list(I:Inv X ZB O H s)(h:AW X.K H a xs):∃A5:List Value,Vals xs A5/\PlainL s.heap a A5.toArray/\xs.length<=sizeLine:=by
 rcases h with h|⟨o,A5,n,hk,hc,hd,hs,hz,r⟩
 .obtain⟨z,A5,n,r,e⟩:=h.ok I.AY;exact⟨A5,r,⟨_,n,e,rfl,rfl,rfl⟩,z⟩
 .refine⟨A5.toList,r,⟨o,n,I.Fn a o hk,hc,hd,by simpa using hs⟩,?_⟩
  have e:=r.length;simp only[bB]at e;omega
theorem Inv.tuple(I:Inv X ZB O H s)(h:B7 X.K H a xs):∃A5:List Value,Vals xs A5/\IsTup s.heap a A5.toArray/\xs.length<=sizeLine:=by
 rcases h with h|⟨o,A5,n,hk,hc,hs,hz,r⟩
 .obtain⟨z,A5,r,p⟩:=h.ok I.AY;exact⟨A5,r,p.1,z⟩
 .refine⟨A5.toList,r,⟨o,I.Fn a o hk,hc,n,by simpa using hs⟩,?_⟩
  have e:=r.length;simp only[bB]at e;omega
theorem Inv.dw(I:Inv X ZB O H s)(h:AW X.K H a xs)(h':AW X.K H a ys):xs=ys:=by
 obtain⟨A5,r,⟨o,n,e,_,_,d⟩,_⟩:=I.list h;obtain⟨its',c,⟨o',f,b,_,_,d'⟩,_⟩:=I.list h';rw[e]at b;cases b;rw[d]at d';injection d' with d1 _
 have:A5=its':=by simpa using rP Array.toList d1
 subst this;exact r.inj c
theorem Inv.Q6(I:Inv X ZB O H s)(h:B7 X.K H a xs)(h':B7 X.K H a ys):xs=ys:=by
 obtain⟨A5,r,⟨o,e,_,n,d⟩,_⟩:=I.tuple h;obtain⟨its',c,⟨o',b,_,f,d'⟩,_⟩:=I.tuple h';rw[e]at b;cases b;rw[d]at d';injection d' with d1 _
 have:A5=its':=by simpa using rP Array.toList d1
 subst this;exact r.inj c
end
noncomputable abbrev Cx.IJ(X:Cx)(E:Value->Shared->Prop):Cx:={ X with xe:=E }
noncomputable abbrev Cx.Qb(X:Cx):Cx:=X.IJ λ_ _=>False
theorem Cx.Ok.IJ(ok:X.Ok)(E:Value->Shared->Prop):(X.IJ E).Ok:=
 ⟨ok.mod,ok.kind,ok.glob,ok.blt,ok.above,ok.inj,ok.has,ok.O1,ok.hd,ok.frames,ok.Tf,ok.SF,ok.bs,ok.JS,ok.Q3,ok.Ob,ok.Gd,ok.MO⟩
theorem Cx.Ok.Jl(ok:(X.IJ E).Ok):X.Ok:=
 ⟨ok.mod,ok.kind,ok.glob,ok.blt,ok.above,ok.inj,ok.has,ok.O1,ok.hd,ok.frames,ok.Tf,ok.SF,ok.bs,ok.JS,ok.Q3,ok.Ob,ok.Gd,ok.MO⟩
section
theorem Inv.IJ(I:Inv X ZB O H s)(E:Value->Shared->Prop):Inv (X.IJ E) ZB O H s:=⟨I.ok.IJ E,I.os,I.bare,I.base,I.loc,I.cell,I.free,I.IC,I.pin,I.AY,I.len⟩
theorem Inv.Jl(I:Inv (X.IJ E) ZB O H s):Inv X ZB O H s:=⟨I.ok.Jl,I.os,I.bare,I.base,I.loc,I.cell,I.free,I.IC,I.pin,I.AY,I.len⟩
theorem SP.Jl{D:Ends}{f:Flow}(h:SP (X.IJ E) ZB D f s'):SP X ZB D f s':=by
 cases f with
 |next=>obtain⟨σ',H',I,q⟩:=h;exact⟨σ',H',I.Jl,q⟩
 |brk=>obtain⟨σ',H',I,q⟩:=h;exact⟨σ',H',I.Jl,q⟩
 |cont=>obtain⟨σ',H',I,q⟩:=h;exact⟨σ',H',I.Jl,q⟩
 |ret u=>obtain⟨v,σ',H',I,r,q⟩:=h;exact⟨v,σ',H',I.Jl,r,q⟩
theorem Ek.Qb{st:List Stmt}{t:TS}(h:Ek X.Qb st t):Ek X st t:=λZB s O H D I hw=>
 qr (h ZB s O H D (I.IJ _) hw) (λ_ _ q=>q.Jl) λ_ _ z=>False.elim z
variable{st:Stmt}{rest:List Stmt}{t u:TS}
def aJ:TS:=λD O H=>D.nx O H
def Q4(t u:TS):TS:=λD O H=>t { D with nx:=u D } O H
theorem wR(h1:PS X st t)(h2:Ek X rest u):Ek X (st::rest) (Q4 t u):=by
 intro ZB s O H D I h;refine wpAny_execs_cons (AO (h1 ZB s O H { D with nx:=u D } I h) λf a q=>?_)
 cases f with
 |next=>
  obtain⟨σ',H',I',q⟩:=q;exact h2 ZB a σ' H' D I' q
 |ret v=>exact q
 |brk=>exact q
 |cont=>exact q
theorem ZFp(h1:PS X st t):Ek X [st] t:=by
 intro ZB s O H D I h;refine wpAny_execs_cons (AO (h1 ZB s O H D I h) λf a q=>?_);cases f with
 |next=>exact yB q
 |ret v=>exact q
 |brk=>exact q
 |cont=>exact q
theorem Inv.quiet(I:Inv X ZB O H s):interactive X.env=false:=by simp[interactive,I.ok.kind]
def IW(te:TE):TS:=λD O H=>te O H λ_ H1=>D.nx O H1
def IA(te:TE):TS:=λD O H=>te O H D.rt
def ZI:TS:=λD _ H=>D.rt .AE H
def Ze(c:TT)(t u:TS):TS:=λD O H=>c O H λb H1=>if b=true then t D O H1 else u D O H1
def lg:TS:=λ_ _ _=>False
end
abbrev TG:=V->St->Hp->(St->Hp->Prop)->Prop
abbrev HV:=List V->St->Hp->(St->Hp->Prop)->Prop
def PG(X:Cx)(a:Expr)(t:TG):Prop:=
 ∀(ZB:ZHb)(s:Shared)(O:St)(H:Hp)(v:V)(u:Value)(Q:St->Hp->Prop),Inv X ZB O H s->RelV v u->t v O H Q->
  wpAny (model X.prog X.w) X.A (assign a X.env u) (λ_ s'=>∃ σ' H',Inv X ZB σ' H' s'/\Q σ' H') X.xe s
def Nq(X:Cx)(ts:List Expr)(t:HV):Prop:=
 ∀(ZB:ZHb)(s:Shared)(O:St)(H:Hp)(vs:List V)(us:List Value)(Q:St->Hp->Prop),Inv X ZB O H s->Vals vs us->t vs O H Q->
  wpAny (model X.prog X.w) X.A (assignInOrder ((assignEach ts X.env).map (·.2)) us) (λ_ s'=>∃ σ' H',Inv X ZB σ' H' s'/\Q σ' H') X.xe s
abbrev Mx:=V->V->V->Hp->(Hp->Prop)->Prop
def RJ(X:Cx)(t:Mx):Prop:=
 ∀(ZB:ZHb)(s:Shared)(O:St)(H:Hp)(o i v:V)(a b u:Value)(Q:Hp->Prop),Inv X ZB O H s->RelV o a->RelV i b->RelV v u->t o i v H Q->
  wpAny (model X.prog X.w) X.A (setItem a b u) (λ_ s'=>∃H',Inv X ZB O H' s'/\Q H') X.xe s
abbrev K5:=V->V->Hp->VK->Prop
def NR(X:Cx)(op:Operator)(t:K5):Prop:=
 ∀(ZB:ZHb)(s:Shared)(O:St)(H:Hp)(x y:V)(v u:Value)(Q:VK),Inv X ZB O H s->RelV x v->RelV y u->t x y H Q->
  wpAny (model X.prog X.w) X.A (inplaceOp op v u) (EP X ZB O Q) X.xe s
def C7(i:Nat):TG:=λv O H Q=>Q (O.set i (some v)) H
theorem YW(b:X.N.Nodup)(hi:X.N[i]?=some x)(hx:Loc X.env.scope x)(a:X.fn x=true∨X.env.scope.names.lookup x=some .local:=by first|exact .inl rfl|exact .inr rfl|assumption):PG X (.Name x pos) (C7 i):=by
 intro ZB s O H v u Q I r h;exact wpAny_assign_Name (Zv I b hi hx r (λs' I'=>⟨_,H,I',h⟩) a)
def M8:HV:=λvs O H Q=>vs=[]/\Q O H
def Fh(t:TG)(u:HV):HV:=λvs O H Q=>∃v r,vs=v::r/\t v O H λσ' H'=>u r σ' H' Q
theorem cC:Nq X [] M8:=by
 intro ZB s O H vs us Q I r h;obtain⟨e,h⟩:=h;subst e;cases r;exact assignInOrder_nil ⟨O,H,I,h⟩
theorem lG{t:TG}{u:HV}(h1:PG X e t)(h2:Nq X es u)
  (c:(assignEach (e::es) X.env).map (·.2)=assign e X.env::(assignEach es X.env).map (·.2):=by rfl):Nq X (e::es) (Fh t u):=by
 intro ZB s O H vs us Q I r h;obtain⟨v,f,d,h⟩:=h;subst d;cases r with
 |cons r rr=>
  rw[c];refine assignInOrder_cons (AO (h1 ZB s O H _ _ _ I r h) λ_ a ZA=>?_);obtain⟨σ1,H1,I1,b⟩:=ZA;exact h2 ZB a σ1 H1 _ _ Q I1 rr b
def Jm(K:ZHa)(n:Nat)(t:HV):TG:=λv O H Q=>∃a xs,v=.ref a/\B7 K H a xs/\xs.length=n/\t xs O H Q
theorem jD{k:Nat}{t:HV}(j:X.calm=true)(h:Nq X es t)
  (g:(assignEach es X.env).length=n:=by rfl) (Hm:(assignEach es X.env).findIdx? (·.1)=none:=by rfl):PG X (.Tuple es k pos) (Jm X.K n t):=by
 intro ZB s O H v u Q I r hw;obtain⟨a,xs,l,f,i,hw⟩:=hw;subst l;cases r;obtain⟨A5,c,d,p⟩:=I.tuple f;refine assign_Tuple_tuple (I.ok.hd j) d (by simp[g,<- i,c.length]) Hm λh' hx=>?_;have m:Inv X ZB O H { s with heap:=h' }:=I.kept (t':=s.toks) λb o e=>hx b o (D6 (BH e)) e
 exact h ZB _ O H xs _ Q m (by simpa using c) hw
def Vz(to ti:TE)(t:Mx):TG:=λv O H Q=>to O H λo H1=>ti O H1 λi H2=>t o i v H2 λH3=>Q O H3
def Ei(te:TE)(g:TG):TS:=λD O H=>te O H λx H1=>g x O H1 D.nx
def U2(i:Nat)(te:TE)(ti:K5):TS:=λD O H=>∃x,O[i]?=some (some x)/\te O H λy H1=>ti x y H1 λz H2=>D.nx (O.set i (some z)) H2
def ZR(to ti te:TE)(Sf:V->V->Hp->VK->Prop)(Lb:K5)(RU:Mx):TS:=λD O H=>to O H λo H1=>ti O H1 λi H2=>Sf o i H2 λx H3=>te O H3 λy H4=>Lb x y H4 λz H5=>RU o i z H5 λH6=>D.nx O H6
def fc(X:Cx)(t:V->V->Hp->VK->Prop):Prop:=
 ∀(ZB:ZHb)(s:Shared)(O:St)(H:Hp)(o i:V)(a b:Value)(Q:VK),Inv X ZB O H s->RelV o a->RelV i b->t o i H Q->
  wpAny (model X.prog X.w) X.A (getItem a b) (EP X ZB O Q) X.xe s
theorem ZCi{o i:Expr}{to ti:TE}{Sf:V->V->Hp->VK->Prop}{Lb:K5}{RU:Mx}{op:Operator}(ho:PE X o to)(hi:PE X i ti)(G:fc X Sf)(J:PE X e te)(F:NR X op Lb)(E:RJ X RU)
  (K:∀a b new,augStore i a b new=(do holding [new,a,b] (setItem a b new);release [new,a,b] [];pure .next):=by intros;rfl):PS X (.AugAssign (.Subscript o i JN) op e pos) (ZR to ti te Sf Lb RU):=by
 intro ZB s O H D I h;refine wpAny_AugAssign_SubscriptAny (AO (ho ZB s O H _ I h) λa r⟨f,H1,I1,j,C⟩=>?_) K;refine AO (hi ZB r O H1 _ I1 C) λb s2 Lp=>?_;obtain⟨d,H2,I2,g,B⟩:=Lp;refine AO (G ZB s2 O H2 f d a b _ I2 j g B) λc q PL=>?_;obtain⟨m,H3,I3,w,A⟩:=PL;refine AO (J ZB q O H3 _ I3 A) λv s4 ZA=>?_;obtain⟨l,H4,I4,u,z⟩:=ZA;refine AO (F ZB s4 O H4 m l c v _ I4 w u z) λnew p n=>?_;obtain⟨k,H5,I5,t,y⟩:=n;exact AO (E ZB p O H5 f d k a b new _ I5 j g t y) λ_ L CF=>by obtain⟨H6,I6,x⟩:=CF;exact⟨O,H6,I6,x⟩
def KR(f:Int->Int->Int):K5:=λx y H Q=>∃i j,x=.int i/\y=.int j/\Q (.int (f i j)) H
theorem RQ:NR X .Add (KR λi j=>i+j):=by
 intro ZB s O H x y v u Q I b a h;obtain⟨i,j,d,c,q⟩:=h;subst d;subst c;obtain⟨t,rfl⟩:=b;obtain⟨t',rfl⟩:=a;exact iadd_int ⟨.int _,H,I.tok _,⟨_,rfl⟩,q⟩
theorem Zf:NR X .Sub (KR λi j=>i - j):=by
 intro ZB s O H x y v u Q I b a h;obtain⟨i,j,d,c,q⟩:=h;subst d;subst c;obtain⟨t,rfl⟩:=b;obtain⟨t',rfl⟩:=a;exact isub_int ⟨.int _,H,I.tok _,⟨_,rfl⟩,q⟩
def SH(c:TT)(tb:TS):TS:=λD O H=>∃W:Nat->St->Hp->Prop,(∃m,W m O H)/\∀m O H,W m O H->
 c O H λb H1=>if b=true then ∃N:St->Hp->Prop,(∀ σ' H',N σ' H'->∃a,a < m/\W a σ' H')/\tb { D with nx:=N,ct:=N,bk:=D.nx } O H1 else D.nx O H1
structure It where
 go:Nat->Hp->Prop
 Ep:Nat->Hp->V->Hp->Prop
 stop:Nat->Hp->Prop
def Ey(X:Cx)(ZB:ZHb)(H:Hp)(b:Addr):Prop:=
 H b=none/\b≠X.env.locals/\b∉X.fs/\(b∈X.ex∨X.s₀.heap.objs.size<=b)/\(∀x c,X.env.cells.lookup x=some c->c≠b)/\∀p∈X.pn++ZB,p.1≠b
theorem Inv.LN(I:Inv X ZB O H s)(a:s.heap.objs.size<=b)(f:H' b=none):Ey X ZB H' b:=by
 refine⟨f,MW (E9 I.lt a),I.ql a,.inr (Eb I.sz a),λx c e z=>?_,λp d z=>?_⟩
 .obtain⟨v,q⟩:=I.cell x c e;exact absurd (E9 q.lt (by rw[z];exact a)) (Kn _)
 .exact absurd (E9 (BH (I.pin p d).1) (by rw[z];exact a)) (Kn _)
structure Turn (P:Program) (w:World) (K:ZHa) (tg:Expr) (J:It) (fp:List Addr) (it:Addr) (tn:Nat->Heap->Prop):Prop where
 mem:it∈fp
 obj:∀i h,tn i h->∀b∈fp,∃o,h.get? b=some o/\∀v,o.data≠.cell v
 keep:∀i h h',tn i h->(∀b∈fp,∀o,h.get? b=some o->h'.get? b=some o)->tn i h'
 item:∀(X:Cx),X.prog=P->X.w=w->X.K=K->X.calm=true->∀(i:Nat)(ZB:ZHb)(s:Shared)(O:St)(H:Hp)(E:Value->Shared->Prop),Inv X ZB O H s->(∀b∈fp,Ey X ZB H b)->tn i s.heap->J.go i H->
  wpAny (model P w) X.A (pyNext (.ref it)) (λr s1=>∃u,r=some u/\
   wpAny (model P w) X.A (letOwnedTupleGo tg (.ref it) u) (λ_ s2=>∃x H',Inv X ZB O H' s2/\RelV x u/\J.Ep i H x H'/\tn (i+1) s2.heap/\∀b∈fp,H' b=none) E s1) E s
 done:∀(X:Cx),X.prog=P->X.w=w->X.K=K->X.calm=true->∀(i:Nat)(ZB:ZHb)(s:Shared)(O:St)(H:Hp)(E:Value->Shared->Prop),Inv X ZB O H s->(∀b∈fp,Ey X ZB H b)->tn i s.heap->J.stop i H->
  wpAny (model P w) X.A (pyNext (.ref it)) (λr s1=>r=none/\Inv X ZB O H s1) E s
 self:∀(A:Around)(i:Nat)(s:Shared)(Q:Value->Shared->Prop)(E:Value->Shared->Prop),tn i s.heap->Q (.ref it) s->wpAny (model P w) A (pyIter (.ref it)) Q E s
abbrev TI:=St->Hp->(It->Hp->Prop)->Prop
def i4(X:Cx)(ZB:ZHb)(O:St)(tg:Expr)(R:It->Hp->Prop)(UH:Value)(s2:Shared):Prop:=
 ∃(it:Addr)(fp:List Addr)(tn:Nat->Heap->Prop)(J:It)(H':Hp),UH=.ref it/\Inv X ZB O H' s2/\Turn X.prog X.w X.K tg J fp it tn/\tn 0 s2.heap/\(∀b∈fp,Ey X ZB H' b)/\R J H'
def PI(X:Cx)(tg iter:Expr)(wi:TI):Prop:=
 ∀(ZB:ZHb)(s:Shared)(O:St)(H:Hp)(R:It->Hp->Prop),Inv X ZB O H s->wi O H R->
  wpAny (model X.prog X.w) X.A (eval iter X.env) (λv a=>wpAny (model X.prog X.w) X.A (pyIter v) (i4 X ZB O tg R) X.xe a) X.xe s
theorem Rl{o:Obj}{n:String}{vs:Array Value}{Q:Unit->Shared->Prop}(ho:s.heap.get? it=some o)(c:o.cls=.type n)(hd:o.data=.fields vs)
  (b:["enumerate","zip","dict_itemiterator","dict_reverseitemiterator","odict_iterator","itertools.zip_longest","itertools.pairwise"].contains n=false) (a:Q () s):wpAny M A (letOwnedTupleGo tg (.ref it) u) Q E s:=by
 unfold letOwnedTupleGo;cases tg <;> first
  |exact qC a
  | (cases u <;> first
    |exact qC a
    | (
      refine p5 (wpAny_load ho ?_);rw[c,hd];show wpAny M A (if(["enumerate","zip","dict_itemiterator","dict_reverseitemiterator","odict_iterator","itertools.zip_longest","itertools.pairwise"].contains n && vs[0]? == some (rawInt _))=true then _ else _) Q E s
      rw[pL (by intro h;rw[b,Bool.false_and]at h;cases h)];exact qC a))
noncomputable def i5(K:ZHa)(a:Addr):It:=
 ⟨λi H=>∃xs x,AW K H a xs/\xs[i]?=some x,λi H x H'=>H'=H/\∀xs,AW K H a xs->xs[i]?=some x,λi H=>∃xs,AW K H a xs/\xs.length<=i⟩
noncomputable def vn(K:ZHa)(a:Addr):It:=
 ⟨λi H=>∃xs x,B7 K H a xs/\xs[i]?=some x,λi H x H'=>H'=H/\∀xs,B7 K H a xs->xs[i]?=some x,λi H=>∃xs,B7 K H a xs/\xs.length<=i⟩
noncomputable def Lm(lo:Int)(n:Nat):It:=⟨λi _=>i<n,λi H x H'=>H'=H/\x=.int (lo+i),λi _=>n<=i⟩
theorem NG{P:Program}{K:ZHa}(a it:Addr):Turn P w K tg (i5 K a) [it] it (λi h=>h.IsListIter it a i) where
 mem:=by simp
 obj:=λi h st b f=>by
  have e:b=it:=by simpa using f
  subst e;obtain⟨o,e,c,d⟩:=st;exact⟨o,e,λv z=>by rw[d]at z;cases z⟩
 keep:=λi h h' st k=>st.at λo e=>k it (by simp) o e
 item:=by
  intro X n hw q B i ZB s O H E I j st m;subst n hw q;obtain⟨xs,x,g,hx⟩:=m;obtain⟨A5,l,p,F⟩:=I.list g;obtain⟨u,J,D⟩:=l.get hx;obtain⟨f0,A,L,y,t,r⟩:=j it (by simp);refine wpAny_pyNext_list_item st p.isList (x:=u) (by simpa using J) λh' Df C=>?_
  have N:Inv X ZB O H { s with heap:=h' }:=I.turned (t':=s.toks) (λb o f e=>(C.2 b f).trans e) f0 A y t r
  obtain⟨o,e,c,d⟩:=id Df;exact⟨u,rfl,Rl (s:={ s with heap:=h' }) e c d (by decide) ⟨x,H,N,D,⟨rfl,λys G=>by rw[I.dw G g];exact hx⟩,Df,λb f=>(j b f).1⟩⟩
 done:=by
  intro X n hw q B i ZB s O H E I j st m;subst n hw q;obtain⟨xs,g,hx⟩:=m;obtain⟨A5,l,p,F⟩:=I.list g;obtain⟨f0,A,L,y,t,r⟩:=j it (by simp);have σ:=l.length;exact wpAny_pyNext_list_end (I.ok.hd B) st p.isList (by simp;omega) λh' M=>⟨rfl,I.turned (t':=s.toks) (λb o f e=>M b o f e) f0 A y t r⟩
 self:=λ_ _ _ _ _ st h=>wpAny_pyIter_listiter st h
theorem QX{P:Program}{K:ZHa}(a it:Addr):Turn P w K tg (vn K a) [it] it (λi h=>h.IsTupleIter it a i) where
 mem:=by simp
 obj:=λi h st b f=>by
  have e:b=it:=by simpa using f
  subst e;obtain⟨o,e,c,d⟩:=st;exact⟨o,e,λv z=>by rw[d]at z;cases z⟩
 keep:=λi h h' st k=>st.at λo e=>k it (by simp) o e
 item:=by
  intro X n hw q B i ZB s O H E I j st m;subst n hw q;obtain⟨xs,x,g,hx⟩:=m;obtain⟨A5,l,p,F⟩:=I.tuple g;obtain⟨u,J,D⟩:=l.get hx;obtain⟨f0,A,L,y,t,r⟩:=j it (by simp);refine wpAny_pyNext_tuple_item st (show s.heap.IsTuple a A5.toArray from p) (x:=u) (by simpa using J) λh' Df C=>?_
  have N:Inv X ZB O H { s with heap:=h' }:=I.turned (t':=s.toks) (λb o f e=>(C.2 b f).trans e) f0 A y t r
  obtain⟨o,e,c,d⟩:=id Df;exact⟨u,rfl,Rl (s:={ s with heap:=h' }) e c d (by decide) ⟨x,H,N,D,⟨rfl,λys G=>by rw[I.Q6 G g];exact hx⟩,Df,λb f=>(j b f).1⟩⟩
 done:=by
  intro X n hw q B i ZB s O H E I j st m;subst n hw q;obtain⟨xs,g,hx⟩:=m;obtain⟨A5,l,p,F⟩:=I.tuple g;obtain⟨f0,A,L,y,t,r⟩:=j it (by simp);have σ:=l.length;exact wpAny_pyNext_tuple_end (I.ok.hd B) st (show s.heap.IsTuple a A5.toArray from p) (by simp;omega) λh' M=>⟨rfl,I.turned (t':=s.toks) (λb o f e=>M b o f e) f0 A y t r⟩
 self:=λ_ _ _ _ _ st h=>wpAny_pyIter_tupleiter st h
theorem ZGK{P:Program}{K:ZHa}(it:Addr)(lo:Int)(n:Nat):Turn P w K tg (Lm lo n) [it] it (λi h=>IsRangeIter h it (lo+(i:Nat) * 1) ((n:Int) - (i:Nat)) 1) where
 mem:=by simp
 obj:=λi h st b a=>by
  have e:b=it:=by simpa using a
  subst e;exact⟨_,st,λv z=>by
   have r:Data.fields _=Data.cell v:=z;cases r⟩
 keep:=λi h h' st k=>k it (by simp) _ st
 item:=by
  intro X g hw j f i ZB s O H E I c st d;subst g hw j;obtain⟨f0,q,x,p,m,l⟩:=c it (by simp);have W:=Walks.range (prog:=X.prog) (w:=X.w) (I.ok.hd f) it lo 1 n;refine W.item i s _ _ d st λv h' tk u Df kk=>?_;obtain⟨t,rfl⟩:=u;have A:Inv X ZB O H { s with heap:=h',toks:=tk }:=I.turned (λb o a e=>kk b o (by simpa using a) e) f0 q p m l
  refine⟨_,rfl,Rl (s:={ s with heap:=h',toks:=tk }) (n:="range_iterator") Df rfl rfl (by decide) ⟨.int (lo+i),H,A,⟨t,?_⟩,⟨rfl,rfl⟩,Df,λb a=>(c b a).1⟩⟩
  rw[Int.mul_one]
 done:=by
  intro X g hw j f i ZB s O H E I c st d;subst g hw j;obtain⟨f0,q,x,p,m,l⟩:=c it (by simp);exact wpAny_pyNext_range_end (I.ok.hd f) st (by have:n<=i:=d;omega) λh' y=>⟨rfl,I.turned (t':=s.toks) (λb o a e=>y b o a e) f0 q p m l⟩
 self:=λ_ _ _ _ _ st h=>wpAny_pyIter_rangeiter st h
def YZ(K:ZHa)(tl:TE):TI:=λO H R=>tl O H λx H1=>∃a,x=.ref a/\(∃xs,AW K H1 a xs)/\R (i5 K a) H1
theorem eL{R:It->Hp->Prop}{lo hi:Int}{t u v:Tok}(I:Inv X ZB O H s)(h1:-(2 ^ 62)<=lo)(h2:lo<2 ^ 62)(f:-(2 ^ 62)<=hi)(d:hi<2 ^ 62)
  (q:R (Lm lo (hi - lo).toNat) H):wpAny (model X.prog X.w) X.A (pyIter (.ref s.heap.objs.size)) (i4 X ZB O tg R) E { s with heap:=s.heap.push { cls:=.type "range", data:=.fields #[.int lo t,.int hi u,.int 1 v] },toks:=tk }:=by
 refine wpAny_pyIter_range (IsRange.new ..) (small_one h1 h2 f d) ?_;have a:Inv X ZB O H { s with heap:=s.heap.push { cls:=.type "range", data:=.fields #[.int lo t,.int hi u,.int 1 v] },toks:=tk }:=I.kept λb o e=>CG _ e
 refine⟨(s.heap.push { cls:=.type "range", data:=.fields #[.int lo t,.int hi u,.int 1 v] }).objs.size,[(s.heap.push { cls:=.type "range", data:=.fields #[.int lo t,.int hi u,.int 1 v] }).objs.size],_,_,H,rfl,
  a.kept (t':=tk) λb o e=>CG _ e,ZGK _ lo (hi - lo).toNat,?_,λb c=>?_,q⟩
 .have h:lo+((0:Nat):Int) * 1=lo:=by simp
  have g:(((hi - lo).toNat:Nat):Int) - ((0:Nat):Int)=Builtin.Range.rangeSize lo hi 1:=by rw[rangeSize_one];split <;> omega
  show IsRangeIter _ _ (lo+((0:Nat):Int) * 1) ((((hi - lo).toNat:Nat):Int) - ((0:Nat):Int)) 1;rw[h,g];exact Co _ rfl
 .have e:b=(s.heap.push { cls:=.type "range", data:=.fields #[.int lo t,.int hi u,.int 1 v] }).objs.size:=by simpa using c
  subst e;exact a.LN (As _) (a.AY.fresh (As _))
def Yi(ta:TA):TI:=λO H R=>ta O H λvs H1=>∃j:Int,vs=[.int j]/\-(2 ^ 62)<=j/\j<2 ^ 62/\R (Lm 0 j.toNat) H1
def YO(ta:TA):TI:=λO H R=>ta O H λvs H1=>∃i j:Int,vs=[.int i,.int j]/\(-(2 ^ 62)<=i/\i<2 ^ 62/\-(2 ^ 62)<=j/\j<2 ^ 62)/\R (Lm i (j - i).toNat) H1
def SE(wi:TI)(g:TG)(tb:TS):TS:=λD O H=>wi O H λJ H1=>∃W:Nat->Nat->St->Hp->Prop,(∃m,W 0 m O H1)/\∀i m O H,W i m O H->
 (J.stop i H/\D.nx O H)∨(J.go i H/\∃N:St->Hp->Prop,(∀ σ' H',N σ' H'->∃a,a < m/\W (i+1) a σ' H')/\∀x H',J.Ep i H x H'->g x O H' λσ2 H2=>tb { D with nx:=N,ct:=N,bk:=D.nx } σ2 H2)
noncomputable def OO(fp:List Addr)(h:Heap):ZHb:=fp.filterMap λb=>(h.get? b).map λo=>(b,o)
theorem Sq{o:Obj}(a:b∈fp)(e:h.get? b=some o):(b,o)∈OO fp h:=List.mem_filterMap.mpr ⟨b,a,by rw[e];rfl⟩
theorem qQ{p:Addr×Obj}(a:p∈OO fp h):p.1∈fp/\h.get? p.1=some p.2:=by
 obtain⟨b,c,e⟩:=List.mem_filterMap.mp a;cases q:h.get? b with
 |none=>rw[q]at e;cases e
 |some o=>
  rw[q]at e;have d:(b,o)=p:=BY e;subst d;exact⟨c,q⟩
theorem Inv.pinned(I:Inv X ZB O H s)(g:∀b∈fp,Ey X ZB H b)(ho:∀b∈fp,∃o,s.heap.get? b=some o/\∀v,o.data≠.cell v):Inv X (ZB++OO fp s.heap) O H s:=
 I.kQ λp f=>(List.mem_append.mp f).elim (λz=>I.pin p (Er _ z)) λz=>by
  obtain⟨a,e⟩:=qQ z;obtain⟨f0,i,h,_⟩:=g p.1 a;obtain⟨o,c,d⟩:=ho p.1 a;rw[e]at c;cases c;exact⟨e,f0,i,h,d⟩
theorem Inv.O3{pl:ZHb}(I:Inv X (ZB++pl) O H s):Inv X ZB O H s:=I.kQ λp a=>I.pin p (Er _ (G8 _ a))
theorem ZFK{lo:Int}{g:TG}{tb:TS}{D:Ends}(Pv:Nat->St->Hp->Prop)(f:Pv 0 O H)
  (d:∀i O H,i<n->Pv i O H->g (.int (lo+i)) O H λσ2 H2=>tb { D with nx:=Pv (i+1),ct:=Pv (i+1),bk:=D.nx } σ2 H2) (hd:∀ O H,Pv n O H->D.nx O H) :
  ∃W:Nat->Nat->St->Hp->Prop,(∃m,W 0 m O H)/\∀i m O H,W i m O H->
   ((Lm lo n).stop i H/\D.nx O H)∨((Lm lo n).go i H/\∃N:St->Hp->Prop,(∀ σ' H',N σ' H'->∃b,b < m/\W (i+1) b σ' H')/\∀x H',(Lm lo n).Ep i H x H'->g x O H' λσ2 H2=>tb { D with nx:=N,ct:=N,bk:=D.nx } σ2 H2):=by
 refine⟨λi m O H=>m=n - i/\i<=n/\Pv i O H,⟨n,by simp,Cg _,f⟩,?_⟩;rintro i m O H⟨rfl,hi,p⟩
 by_cases a:i<n
 .refine .inr ⟨a,Pv (i+1),λσ' H' c=>⟨n - (i+1),by omega,rfl,a,c⟩,λx H' y=>?_⟩;obtain⟨e,y⟩:=y;subst e y;exact d i O _ a p
 .have e:i=n:=by omega
  subst e;exact .inl ⟨As _,hd O H p⟩
abbrev R2:=V->V->Hp->VK->Prop
def BU(X:Cx)(f:Value->Value->Sem Value)(r:R2):Prop:=
 ∀(ZB:ZHb)(s:Shared)(O:St)(H:Hp)(x y:V)(v u:Value)(Q:VK),Inv X ZB O H s->RelV x v->RelV y u->r x y H Q->
  wpAny (model X.prog X.w) X.A (f v u) (EP X ZB O Q) X.xe s
def TK(X:Cx)(f:Value->Sem Value)(r:V->Hp->VK->Prop):Prop:=
 ∀(ZB:ZHb)(s:Shared)(O:St)(H:Hp)(x:V)(v:Value)(Q:VK),Inv X ZB O H s->RelV x v->r x H Q->
  wpAny (model X.prog X.w) X.A (f v) (EP X ZB O Q) X.xe s
def Du(X:Cx)(f:Value)(r:List V->Hp->VK->Prop):Prop:=
 ∀(ZB:ZHb)(s:Shared)(O:St)(H:Hp)(xs:List V)(us:List Value)(Q:VK),Inv X ZB O H s->Vals xs us->r xs H Q->
  wpAny (model X.prog X.w) X.A (call f us) (EP X ZB O Q) X.xe s
def BZ(r:R2)(ta tb:TE):TE:=λO H Q=>ta O H λx H1=>tb O H1 λy H2=>r x y H2 Q
def UB(r:V->Hp->VK->Prop)(ta:TE):TE:=λO H Q=>ta O H λx H1=>r x H1 Q
def rI(C:Int->Int->Prop)(g:Int->Int->V):R2:=λx y H Q=>∃i j,x=.int i/\y=.int j/\C i j/\Q (g i j) H
def GR(g:Int->Int->V):R2:=λx y H Q=>∃i j,x=.int i/\y=.int j/\Q (g i j) H
def rU(g:Int->V):V->Hp->VK->Prop:=λx H Q=>∃i,x=.int i/\Q (g i) H
section
variable{a b c:Expr}
theorem aX(n:PE X a ta)(m:PE X b tb){R:V->V->Hp->Prop}(I:Inv X ZB O H s)
  (h:ta O H λx H1=>tb O H1 λy H2=>R x y H2)
  (l:∀v u s2 x y H2,Inv X ZB O H2 s2->RelV x v->RelV y u->R x y H2->wpAny (model X.prog X.w) X.A (f v u) Q X.xe s2) :
  wpAny (model X.prog X.w) X.A (eval a X.env) (λv d=>wpAny (model X.prog X.w) X.A (eval b X.env) (λu c=>wpAny (model X.prog X.w) X.A (f v u) Q X.xe c) X.xe d) X.xe s:=by
 refine AO (n ZB s O H _ I h) λv e Lp=>?_;obtain⟨x,H1,I1,i,k⟩:=Lp;refine AO (m ZB e O H1 _ I1 k) λu s2 PL=>?_;obtain⟨y,H2,I2,g,j⟩:=PL;exact l v u s2 x y H2 I2 i g j
theorem So{C:Int->Int->Prop}{g:Int->Int->Int}
  (a:∀(i j:Int)(t u:Tok)(s:Shared)(Q:Value->Shared->Prop)(E:Value->Shared->Prop),C i j->Q (.int (g i j) s.toks) { s with toks:=s.toks+1 }->wpAny (model X.prog X.w) X.A (f (.int i t) (.int j u)) Q E s) :
  BU X f (rI C λi j=>.int (g i j)):=by
 intro ZB s O H x y v u Q I c b h;obtain⟨i,j,rfl,rfl,d,q⟩:=h;obtain⟨t,rfl⟩:=c;obtain⟨t',rfl⟩:=b;exact a i j t t' s _ _ d ⟨.int (g i j),H,I.tok _,⟨_,rfl⟩,q⟩
theorem fO{g:Int->Int->Int}
  (a:∀(i j:Int)(t u:Tok)(s:Shared)(Q:Value->Shared->Prop)(E:Value->Shared->Prop),Q (.int (g i j) s.toks) { s with toks:=s.toks+1 }->wpAny (model X.prog X.w) X.A (f (.int i t) (.int j u)) Q E s) :
  BU X f (GR λi j=>.int (g i j)):=by
 intro ZB s O H x y v u Q I c b h;obtain⟨i,j,rfl,rfl,q⟩:=h;obtain⟨t,rfl⟩:=c;obtain⟨t',rfl⟩:=b;exact a i j t t' s _ _ ⟨.int (g i j),H,I.tok _,⟨_,rfl⟩,q⟩
theorem RD{g:Int->Int->Bool}
  (a:∀(i j:Int)(t u:Tok)(s:Shared)(Q:Value->Shared->Prop)(E:Value->Shared->Prop),Q (.bool (g i j)) s->wpAny (model X.prog X.w) X.A (f (.int i t) (.int j u)) Q E s) :
  BU X f (GR λi j=>.bl (g i j)):=by
 intro ZB s O H x y v u Q I c b h;obtain⟨i,j,rfl,rfl,q⟩:=h;obtain⟨t,rfl⟩:=c;obtain⟨t',rfl⟩:=b;exact a i j t t' s _ _ ⟨.bl (g i j),H,I,rfl,q⟩
def pV(i j:Int):Prop:=0<=j/\j<=1000000/\i.natAbs<2 ^ 64
theorem Eu:BU X (binaryOp .Add) (GR λi j=>.int (i+j)):=fO λ_ _ _ _ _ _ _ q=>add_int q
theorem JM:BU X (binaryOp .Sub) (GR λi j=>.int (i - j)):=fO λ_ _ _ _ _ _ _ q=>sub_int q
theorem Iv:BU X (binaryOp .Mod) (rI (λ_ j=>0<j) λi j=>.int (i % j)):=So λi j _ _ _ _ _ a q=>by
 have h1:(0:Int)<j:=a;exact mod_int' (by omega) (by rw[Int.fmod_eq_emod_of_nonneg i (by omega)];exact q)
theorem Np:BU X (binaryOp .Pow) (rI pV λi j=>.int (i ^ j.toNat)):=So λ_ _ _ _ _ _ _ a q=>pow_int_small a.1 a.2.1 a.2.2 q
theorem zu{f:Value->Sem Value}{g:Int->Int}
  (a:∀(i:Int)(t:Tok)(s:Shared)(Q:Value->Shared->Prop)(E:Value->Shared->Prop),Q (.int (g i) s.toks) { s with toks:=s.toks+1 }->wpAny (model X.prog X.w) X.A (f (.int i t)) Q E s) :
  TK X f (rU λi=>.int (g i)):=by
 intro ZB s O H x v Q I b h;obtain⟨i,rfl,q⟩:=h;obtain⟨t,rfl⟩:=b;exact a i t s _ _ ⟨.int (g i),H,I.tok _,⟨_,rfl⟩,q⟩
theorem Vh:TK X (unaryOp .USub) (rU λi=>.int (-i)):=zu λ_ _ _ _ _ q=>neg_int q
end
noncomputable def Wu:V->V->Bool
 | .AE,.AE=>true | .AE,.int _=>true | .int _,.AE=>true | .AE,.bl _=>true | .bl _,.AE=>true | .AE,.str _=>true | .str _,.AE=>true
 | .int _,.int _=>true | .bl _,.bl _=>true | .str _,.str _=>true | .Gg _,.Gg _=>true
 | .int _,.str _=>true | .str _,.int _=>true | .bl _,.str _=>true | .str _,.bl _=>true
 |_,_=>false
def jj:R2:=λx y H Q=>Wu x y=true/\Q (.bl (decide (x=y))) H
def gu:R2:=λx y H Q=>Wu x y=true/\Q (.bl (!decide (x=y))) H
theorem dA{i j:Int}:decide (V.int i=V.int j)=(i == j):=by
 rw[Kg];simp
theorem jg{i j:Bool}:decide (V.bl i=V.bl j)=(i == j):=by
 rw[Kg];simp
theorem la{i j:Str}:decide (V.str i=V.str j)=(i == j):=by
 rw[Kg];simp
theorem bq{i j:Array UInt8}:decide (V.Gg i=V.Gg j)=(i.toList == j.toList):=by
 rw[Kg];cases i;cases j;simp
section
variable{a b c:Expr}
theorem C1{Q:VK}{k a:Bool}(I:Inv X ZB O H s)(q:Q (.bl k) H)(e:k=a):EP X ZB O Q (.bool a) s:=by
 subst e;exact⟨.bl k,H,I,rfl,q⟩
theorem DF:BU X (compareOp .Eq) jj:=by
 intro ZB s O H x y v u Q I c a h;obtain⟨b,q⟩:=h;cases x with
 |AE=>
  cases c;cases y with
  |AE=>cases a;exact PySem.EqNone.eq_none_none (C1 I q (by simp))
  |bl j=>cases a;exact PySem.EqNone.eq_none_bool (C1 I q (by simp))
  |int j=>obtain⟨t',rfl⟩:=a;exact PySem.EqNone.eq_none_int (C1 I q (by simp))
  |str j=>obtain⟨t',rfl⟩:=a;exact PySem.EqNone.eq_none_str (C1 I q (by simp))
  |_=>exact absurd (show false=true from b) Dj
 |bl i=>
  cases c;cases y with
  |AE=>cases a;exact PySem.EqNone.eq_bool_none (C1 I q (by simp))
  |bl j=>cases a;exact eq_bool (C1 I q jg)
  |str j=>obtain⟨t',rfl⟩:=a;exact PySem.EqMixed.eq_bool_str (C1 I q (by simp))
  |_=>exact absurd (show false=true from b) Dj
 |int i=>
  obtain⟨t,rfl⟩:=c;cases y with
  |AE=>cases a;exact PySem.EqNone.eq_int_none (C1 I q (by simp))
  |int j=>obtain⟨t',rfl⟩:=a;exact eq_int (C1 I q dA)
  |str j=>obtain⟨t',rfl⟩:=a;exact PySem.EqMixed.eq_int_str (C1 I q (by simp))
  |_=>exact absurd (show false=true from b) Dj
 |str i=>
  obtain⟨t,rfl⟩:=c;cases y with
  |AE=>cases a;exact PySem.EqNone.eq_str_none (C1 I q (by simp))
  |bl j=>cases a;exact PySem.EqMixed.eq_str_bool (C1 I q (by simp))
  |int j=>obtain⟨t',rfl⟩:=a;exact PySem.EqMixed.eq_str_int (C1 I q (by simp))
  |str j=>obtain⟨t',rfl⟩:=a;exact eq_str (C1 I q la)
  |_=>exact absurd (show false=true from b) Dj
 |Gg i=>
  obtain⟨t,rfl⟩:=c;cases y with
  |Gg j=>obtain⟨t',rfl⟩:=a;exact PySem.W.eq_bytes (C1 I q bq)
  |_=>exact absurd (show false=true from b) Dj
 |_=>cases y <;> exact absurd (show false=true from b) Dj
theorem Up:BU X (compareOp .NotEq) gu:=by
 intro ZB s O H x y v u Q I c a h;obtain⟨b,q⟩:=h;cases x with
 |AE=>
  cases c;cases y with
  |AE=>cases a;exact PySem.EqNone.ne_none_none (C1 I q (by simp))
  |bl j=>cases a;exact PySem.EqNone.ne_none_bool (C1 I q (by simp))
  |int j=>obtain⟨t',rfl⟩:=a;exact PySem.EqNone.ne_none_int (C1 I q (by simp))
  |str j=>obtain⟨t',rfl⟩:=a;exact PySem.EqNone.ne_none_str (C1 I q (by simp))
  |_=>exact absurd (show false=true from b) Dj
 |bl i=>
  cases c;cases y with
  |AE=>cases a;exact PySem.EqNone.ne_bool_none (C1 I q (by simp))
  |bl j=>cases a;exact ne_bool (C1 I q (rP not jg))
  |str j=>obtain⟨t',rfl⟩:=a;exact PySem.EqMixed.ne_bool_str (C1 I q (by simp))
  |_=>exact absurd (show false=true from b) Dj
 |int i=>
  obtain⟨t,rfl⟩:=c;cases y with
  |AE=>cases a;exact PySem.EqNone.ne_int_none (C1 I q (by simp))
  |int j=>obtain⟨t',rfl⟩:=a;exact ne_int (C1 I q (rP not dA))
  |str j=>obtain⟨t',rfl⟩:=a;exact PySem.EqMixed.ne_int_str (C1 I q (by simp))
  |_=>exact absurd (show false=true from b) Dj
 |str i=>
  obtain⟨t,rfl⟩:=c;cases y with
  |AE=>cases a;exact PySem.EqNone.ne_str_none (C1 I q (by simp))
  |bl j=>cases a;exact PySem.EqMixed.ne_str_bool (C1 I q (by simp))
  |int j=>obtain⟨t',rfl⟩:=a;exact PySem.EqMixed.ne_str_int (C1 I q (by simp))
  |str j=>obtain⟨t',rfl⟩:=a;exact ne_str (C1 I q (rP not la))
  |_=>exact absurd (show false=true from b) Dj
 |Gg i=>
  obtain⟨t,rfl⟩:=c;cases y with
  |Gg j=>obtain⟨t',rfl⟩:=a;exact PySem.W.ne_bytes (C1 I q (rP not bq))
  |_=>exact absurd (show false=true from b) Dj
 |_=>cases y <;> exact absurd (show false=true from b) Dj
theorem MM:BU X (compareOp .Lt) (GR λi j=>.bl (decide (i<j))):=RD λ_ _ _ _ _ _ _ q=>lt_int q
theorem LC:BU X (compareOp .LtE) (GR λi j=>.bl (decide (i<=j))):=RD λ_ _ _ _ _ _ _ q=>le_int q
theorem NB:BU X (compareOp .Gt) (GR λi j=>.bl (decide (j<i))):=RD λ_ _ _ _ _ _ _ q=>gt_int q
theorem Ri:BU X (compareOp .GtE) (GR λi j=>.bl (decide (j<=i))):=RD λ_ _ _ _ _ _ _ q=>ge_int q
theorem p7:BU X (compareOp .In) (λx y H Q=>∃i j,x=.str i/\y=.str j/\Q (.bl (!(Builtin.Str.occurrences j i 0 j.length 1).isEmpty)) H):=by
 intro ZB s O H x y v u Q I b a h;obtain⟨i,j,rfl,rfl,q⟩:=h;obtain⟨t,rfl⟩:=b;obtain⟨t',rfl⟩:=a;exact in_str (C1 I q rfl)
theorem xS:BU X (compareOp .Is) (λx y H Q=>y=.AE/\Q (.bl (decide (x=.AE))) H):=by
 intro ZB s O H x y v u Q I a b h;obtain⟨rfl,q⟩:=h;cases b;refine is_none_gen (C1 I q ?_);cases x <;> first
  | (cases a;rfl)
  | (obtain⟨t,rfl⟩:=a;rfl)
theorem TC:BU X (compareOp .IsNot) (λx y H Q=>y=.AE/\Q (.bl (!decide (x=.AE))) H):=by
 intro ZB s O H x y v u Q I a b h;obtain⟨rfl,q⟩:=h;cases b;refine isnot_none_gen (C1 I q ?_);cases x <;> first
  | (cases a;rfl)
  | (obtain⟨t,rfl⟩:=a;rfl)
theorem ke(b:Expr)(h:op≠.In:=by decide)(h2:op≠.NotIn:=by decide):behindInMarks op b=false:=by
 have c:(op == CmpOp.In)=false:=by cases op <;> first|rfl|exact absurd rfl h
 have a:(op == CmpOp.NotIn)=false:=by cases op <;> first|rfl|exact absurd rfl h2
 cases b <;> simp[behindInMarks,c,a]
def LV(t:TE):TT:=λO H Q=>t O H λx H'=>∃k,x=.bl k/\Q k H'
theorem xv{r:R2}(ho:BU X (compareOp op) r)(p:PE X a ta)(o:PE X b tb)(n:behindInMarks op b=false):PT X (.Compare a [op] [b] pos) (LV (BZ r ta tb)):=by
 intro ZB s O H Q I h;refine wpAny_isTrue_Compare1 (AO (p ZB s O H _ I h) λv d⟨x,H1,I1,i,m⟩=>AO (o ZB d O H1 _ I1 m) λu s2⟨y,H2,I2,g,l⟩=>
  AO (ho ZB s2 O H2 x y v u _ I2 i g l) λc q⟨z,H3,I3,f,k,e,j⟩=>?_) n
 subst e;cases f;exact qK ⟨H3,I3,j⟩
def ON(r b:R2)(ta tb tc:TE):TE:=λO H Q=>ta O H λx H1=>tb O H1 λy H2=>r x y H2 λz H3=>∃k,z=.bl k/\
 (if k=true then tc O H3 λa H4=>b y a H4 Q else Q (.bl false) H3)
theorem wt{FU:CmpOp}{r g:R2}(ho:BU X (compareOp op) r)(Ff:BU X (compareOp FU) g)(J:PE X a ta)(G:PE X b tb)(F:PE X c tc)
  (E:lastMarks [op,FU] [b,c]=false:=by with_unfolding_all rfl):PT X (.Compare a [op,FU] [b,c] pos) (LV (ON r g ta tb tc)):=by
 intro ZB s O H Q I h;refine isTrue_chain (AO (J ZB s O H _ I h) λv n⟨x,H1,I1,t,C⟩=>test_link (AO (G ZB n O H1 _ I1 C) λu s2⟨y,H2,I2,f,B⟩=>
  AO (ho ZB s2 O H2 x y v u _ I2 t f B) λd m⟨z,H3,I3,q,k,e,i⟩=>?_)) E
 subst e;cases q;refine qK ?_;cases k with
 |false=>
  obtain⟨P,L,D⟩:=i;cases L;exact ite_ff ⟨H3,I3,D⟩
 |true=>
  refine ite_tt (test_last (AO (F ZB m O H3 _ I3 i) λl s4⟨j,H4,I4,p,A⟩=>AO (Ff ZB s4 O H4 y j u l _ I4 f p A) λd' N ZC3=>?_));obtain⟨M,H5,I5,o,σ,K,w⟩:=ZC3;subst K;cases o;exact qK ⟨H5,I5,w⟩
theorem Iz:(sizeLine:Nat)<2 ^ 63:=by rw[sizeLine_eq];decide
theorem bb:BU X (binaryOp .Add) (λx y H Q=>∃i j,x=.str i/\y=.str j/\i.length+j.length<=sizeLine/\Q (.str (i++j)) H):=by
 intro ZB s O H x y v u Q I b a h;obtain⟨i,j,rfl,rfl,c,q⟩:=h;obtain⟨t,rfl⟩:=b;obtain⟨t',rfl⟩:=a;exact add_str (λt' tk=>⟨.str (i++j),H,I.tok _,⟨_,rfl⟩,q⟩) c
theorem vals1{x:V}(r:Vals [x] us):∃u,us=[u]/\RelV x u:=by
 cases r with
 |cons b a=>cases a;exact⟨_,rfl,b⟩
theorem vals2{x:V}(r:Vals [x,y] us):∃u a,us=[u,a]/\RelV x u/\RelV y a:=by
 cases r with
 |cons e d=>
  cases d with
  |cons c b=>cases b;exact⟨_,_,rfl,e,c⟩
theorem ZEO(b:X.calm=true):Du X (.builtin "max") (λxs H Q=>∃i j,xs=[.int i,.int j]/\Q (.int (if j > i then j else i)) H):=by
 intro ZB s O H xs us Q I r h;obtain⟨i,j,rfl,q⟩:=h;obtain⟨u,c,rfl,⟨t,rfl⟩,⟨t',rfl⟩⟩:=vals2 r;refine max_two_ints (I.ok.hd b) λh' tk k=>⟨_,H,I.kept k,?_,q⟩
 by_cases a:j > i
 .rw[pT a,pT a];exact⟨_,rfl⟩
 .rw[pL a,pL a];exact⟨_,rfl⟩
end
structure La (h:Heap) (x dx C:Addr) (mA:ZHc):Prop where
 obj:h.get? x=some (PySem.W.instObj C dx)
 ns:h.Ns1 dx mA
 ne:dx≠x
theorem tX(n:h.Ns1 dx mA):∃b,h.get? dx=some b/\∀name,PySem.W.lookIn name b=some (mA name):=by
 obtain⟨o,es,i,ho,hd,hk,_,f⟩:=n;refine⟨o,ho,λname=>?_⟩;have e:=f name;unfold nsFind findBy at e;rw[<- Array.find?_toList]at e;unfold PySem.W.lookIn;rw[hd];dsimp only;split
 .rename_i y q;rw[q]at e;exact rP some e
 .rename_i q;rw[q]at e;have a:es.toList.any (·.refKey)=false:=by
   rw[ZGU];intro y d;obtain⟨z,t,c⟩:=hk y (Array.mem_toList_iff.mp d);simp[DictEntry.refKey,c]
  have g:¬ es.toList.any (·.refKey)=true:=by rw[a];exact Dj
  rw[pL g];exact rP some e
theorem La.look{x:Addr}(I:La h x dx C mA):∃a,PySem.W.InstAt h x (PySem.W.instObj C dx) C (some a)/\∀name,PySem.W.lookIn name a=some (mA name):=
 let ⟨a,ho,hl⟩:=tX I.ns
 ⟨a,⟨I.obj,rfl,rfl,ho⟩,hl⟩
section
variable{K:ZHa}{x f:Addr}{v:Value}
theorem get_map{a:Bool}(X:K.In s.heap)(I:La s.heap x dx C mA)(d:PySem.W.plainGet K C name=true)(hh:PySem.W.hasDictIn K C=true)
  (e:PySem.W.findIn K (.ref C) name=some none) (b:mA name=some v) (JX:PySem.W.handedIn v=true) (h:Q v { s with toks:=s.toks+1 }) :
  wpAny (model prog w) A (getAttr (.ref x) name a) Q E s:=by
 obtain⟨f,J,c⟩:=I.look;exact PySem.W.get_value X J (o9 d).1 (PySem.W.findObj_own hh e rfl (by rw[c,b])) JX h
theorem ZEI{Q:Value×List Value->Shared->Prop}(X:K.In s.heap)(I:La s.heap x dx C mA)(a:PySem.W.plainGet K C name=true)
  (g:PySem.W.findIn K (.ref C) name=some (some (.ref f))) (d:PySem.W.isFn K (.ref f)=true) (c:mA name=none) (h:Q (.ref f,[.ref x]) s) :
  wpAny (model prog w) A (getMethod (.ref x) name pl) Q E s:=by
 obtain⟨b,J,e⟩:=I.look;exact PySem.W.method_fn X J (o9 a).1 (o9 a).2 g (beq_iff_eq.mp d) (by show(PySem.W.lookIn name b).map (·.isSome)=some false;rw[e,c];rfl) h
theorem ot{Q:Unit->Shared->Prop}(X:K.In s.heap)(I:La s.heap x dx C mA)
  (g:PySem.W.findIn K (.ref C) "__setattr__"=some (some (.builtin "object.__setattr__"))) (i:PySem.W.plainOver K C=true) (f:PySem.W.takerIn K C name=some none) (hh:PySem.W.hasDictIn K C=true)
  (hw:PySem.Within mA ns) (hsz:ns.length<=sizeLine)
  (h:∀h',La h' x dx C (λy=>if y=name then some v else mA y)->Heap.SameBut dx s.heap h'->Q () { s with heap:=h',toks:=s.toks+2 }) :
  wpAny (model prog w) A (setAttr (.ref x) name v) Q E s:=by
 obtain⟨n,J,p⟩:=I.look;refine PySem.W.set_plain X J g (PySem.W.osa_open (s:={ s with toks:=s.toks+1 }) (r:=none) X J i f λb=>?_)
 obtain⟨cd,j,m⟩:=PySem.W.any_some hh;have hx:s.heap.get? x=some ⟨.ref C,some dx,.plain,#[]⟩:=I.obj;refine p5 (qC (p5 (p5 (wpAny_loadPart hx (p5 (PySem.W.Looks.here (s:={ s with toks:=s.toks+1 }) (PySem.W.looks_clsIn X j) ?_))))))
 rw[m];refine qC (a:=some dx) (p5 (qC (p5 ?_)));refine wpAny_nsSet1 (s:={ s with toks:=s.toks+1 }) I.ns λh' FN DD=>?_
 obtain⟨o,k,l,c,d,e⟩:=FN.count (PySem.Within.cons name v hw);refine p5 (wpAny_lookBehind c (by rw[d];exact pastItsLine_dict (Eb e (by rw[CH];omega))) ?_);exact qC (h _ ⟨(DD.2 _ (CC I.ne)).trans I.obj,FN,I.ne⟩ DD)
theorem yR{R:Result->Shared->Prop}{vs:List Value}(X:K.In s.heap)(a:PySem.W.makesIn K C=true)
  (hi:PySem.W.findIn K (.ref C) "__init__"=some (some (.ref f))) (b:PySem.W.typeIn K (.ref f)=some (.type "function"))
  (h:codeAny (model prog w) (A.under (.builtin "type.__call__" ⟨.ref C::vs,kw⟩)) (.call (.ref f) ⟨.ref (s.heap.objs.size+1)::vs,kw⟩) (PySem.W.InitBack (s.heap.objs.size+1) R)
   { s with heap:=(s.heap.push PySem.W.emptyDict).push (PySem.W.instObj C s.heap.objs.size) }) :
  codeAny (model prog w) A (.call (.ref C) ⟨vs,kw⟩) R s:=by
 obtain⟨hh,g,d,t,os⟩:=s;exact PySem.W.make_core (PySem.W.makes_of X a) (PySem.W.looks_findIn X hi) (λself=>PySem.W.bind_fn X self b) (.inl rfl) h
end
noncomputable def Dn(f:Str)(v:V):List (Str×V)->List (Str×V)
 | []=>[(f,v)]
 | (g,x)::r=>if g=f then(g,v)::r else(g,x)::Dn f v r
theorem l6(f g:Str)(v:V):∀fs:List (Str×V),(Dn f v fs).lookup g=if g=f then some v else fs.lookup g
 | []=>by
  show List.lookup g [(f,v)]=_
  by_cases h:g=f
  .have a:(g == f)=true:=beq_iff_eq.mpr h;simp only[List.lookup,a,pT h]
  .have a:(g == f)=false:=beq_eq_false_iff_ne.mpr h;simp only[List.lookup,a,pL h]
 | (k,x)::r=>by
  have b:=l6 f g v r;rw[show Dn f v ((k,x)::r)=(if k=f then(k,v)::r else(k,x)::Dn f v r)from rfl]
  by_cases hk:k=f
  .rw[pT hk]
   by_cases h:g=k
   .have a:(g == k)=true:=beq_iff_eq.mpr h;simp only[List.lookup,a,pT (h.trans hk)]
   .have a:(g == k)=false:=beq_eq_false_iff_ne.mpr h;simp only[List.lookup,a,pL (λe:g=f=>h (e.trans hk.symm))]
  .rw[pL hk]
   by_cases h:g=k
   .have a:(g == k)=true:=beq_iff_eq.mpr h;simp only[List.lookup,a,pL (λe:g=f=>hk (h.symm.trans e))]
   .have a:(g == k)=false:=beq_eq_false_iff_ne.mpr h;simp only[List.lookup,a];exact b
theorem YQ(f:Str)(v:V):∀fs:List (Str×V),f∈(Dn f v fs).map (·.1)/\∀g,g∈fs.map (·.1)->g∈(Dn f v fs).map (·.1)
 | []=>⟨by simp[Dn],λg h=>by simp at h⟩
 | (k,x)::r=>by
  obtain⟨i1,i2⟩:=YQ f v r;rw[show Dn f v ((k,x)::r)=(if k=f then(k,v)::r else(k,x)::Dn f v r)from rfl]
  by_cases hk:k=f
  .rw[pT hk];subst hk;exact⟨by simp,λg h=>by simpa using h⟩
  .rw[pL hk];refine⟨?_,λg h=>?_⟩
   .rw[Ae];exact DS _ i1
   .rw[Ae]at h ⊢;rcases List.mem_cons.mp h with e|e
    .exact List.mem_cons.mpr (.inl e)
    .exact DS _ (i2 g e)
theorem jQ(f:Str)(v:V):∀fs:List (Str×V),(Dn f v fs).length<=fs.length+1
 | []=>by simp[Dn]
 | (k,x)::r=>by
  have a:=jQ f v r;rw[show Dn f v ((k,x)::r)=(if k=f then(k,v)::r else(k,x)::Dn f v r)from rfl]
  by_cases hk:k=f
  .rw[pT hk,CH,CH];omega
  .rw[pL hk,CH,CH];omega
theorem FL.some_of{o:Option Value}(r:FL (some v) o):∃u,o=some u/\RelV v u:=by
 cases o with
 |none=>exact(show False from r).elim
 |some u=>exact⟨u,rfl,r⟩
theorem FL.none_of{o:Option Value}(r:FL none o):o=none:=by
 cases o with
 |none=>rfl
 |some u=>exact(show False from r).elim
theorem ZCU(r:RelV v u):PySem.W.handedIn u=true:=by
 cases v with
 |AE=>cases(show u=Value.none from r);rfl
 |bl b=>cases(show u=Value.bool b from r);rfl
 |int i=>obtain⟨t,e⟩:=(show ∃t,u=Value.int i t from r);cases e;rfl
 |str x=>obtain⟨t,e⟩:=(show ∃t,u=Value.str x t from r);cases e;rfl
 |Gg b=>obtain⟨t,e⟩:=(show ∃t,u=Value.bytes b t from r);cases e;rfl
 |Pb b=>obtain⟨t,e⟩:=(show ∃t,u=Value.float b t from r);cases e;rfl
 |ref a=>cases(show u=Value.ref a from r);rfl
 |ty n=>cases(show u=Value.type n from r);rfl
section
variable{P:Program}{fs Nc:List (Str×V)}
theorem X8(AY:CI P w H h)(e:H a=some (.ins C dx fs)):∃mA,La h a dx C mA/\(∀f,FL (fs.lookup f) (mA f))/\PySem.Within mA (fs.map (·.1))/\fs.length<=1000/\H dx=some (.own a):=by
 obtain⟨d,z,ne,ob,mA,n,r,q⟩:=(show DA P w H h a (.ins C dx fs)from AY a _ e);exact⟨mA,⟨ob,n,ne⟩,r,q,z,d⟩
end
structure Bo (K:ZHa) (C:Addr):Prop where
 pg:PySem.W.plainGet K C Str.empty=true
 hd:PySem.W.hasDictIn K C=true
 po:PySem.W.plainOver K C=true
 sa:PySem.W.findIn K (.ref C) "__setattr__"=some (some (.builtin "object.__setattr__"))
theorem Bo.get{K:ZHa}{C:Addr}(c:Bo K C)(f:Str):PySem.W.plainGet K C f=true:=c.pg
def BQ(K:ZHa)(C:Addr)(f:Str):Prop:=PySem.W.findIn K (.ref C) f=some none
theorem BQ.vY{K:ZHa}{f:Str}(n:BQ K C f):PySem.W.takerIn K C f=some none:=by
 unfold PySem.W.takerIn;rw[show PySem.W.findIn K (.ref C) f=some none from n];rfl
structure Ga (K:ZHa) (C:Addr) (f:Str) (v:V) (u:Value):Prop where
 at_:PySem.W.findIn K (.ref C) f=some (some u)
 rel:RelV v u
 get:PySem.W.specialIn K u "__get__"=some none
 cp:PySem.W.copiedNames.contains f=false
structure Meth (K:ZHa) (C:Addr) (m:Str) (f:Addr):Prop where
 at_:PySem.W.findIn K (.ref C) m=some (some (.ref f))
 fn:PySem.W.isFn K (.ref f)=true
 kp:PySem.W.keepIn K (.ref f)=true
section
variable{fs:List (Str×V)}{f:Str}
theorem iy{b:Bool}(I:Inv X ZB O H s)(e:H a=some (.ins C dx fs))(c:Bo X.K C)(n:BQ X.K C f)(l:fs.lookup f=some v)
  (h:∀u s',Inv X ZB O H s'->RelV v u->Q u s'):wpAny (model X.prog X.w) A (getAttr (.ref a) f b) Q E s:=by
 obtain⟨mA,σ,r,_,_,_⟩:=X8 I.AY e;obtain⟨u,g,d⟩:=FL.some_of (v:=v) (o:=mA f) (by rw[<- l];exact r f);exact get_map I.Fn σ (c.get f) c.hd n g (ZCU d) (h u _ (I.tok _) d)
theorem k9{g:Addr}{Q:Value×List Value->Shared->Prop}(I:Inv X ZB O H s)(e:H a=some (.ins C dx fs))(c:Bo X.K C)(k:Meth X.K C m g)(l:fs.lookup m=none)
  (h:Q (.ref g,[.ref a]) s):wpAny (model X.prog X.w) A (getMethod (.ref a) m pl) Q E s:=by
 obtain⟨mA,σ,r,_,_,_⟩:=X8 I.AY e;have b:mA m=none:=FL.none_of (by rw[<- l];exact r m);exact ZEI I.Fn σ (c.get m) k.at_ k.fn b h
theorem d9{Q:Unit->Shared->Prop}(I:Inv X ZB O H s)(e:H a=some (.ins C dx fs))(c:Bo X.K C)(n:BQ X.K C f)(m:fs.length<1000)(i:RelV y u)
  (h:∀s',Inv X ZB O (upd H a (.ins C dx (Dn f y fs))) s'->Q () s'):wpAny (model X.prog X.w) A (setAttr (.ref a) f u) Q E s:=by
 obtain⟨mA,σ,r,wi,_,ho⟩:=X8 I.AY e;have j:(fs.map (·.1)).length<=sizeLine:=by rw[AD,sizeLine_eq];omega
 refine ot I.Fn σ c.sa c.po n.vY c.hd wi j λh' O' d=>h _ ?_;have hd:∃o,h'.get? dx=some o:=let ⟨o,_,_,e',_⟩:=O'.ns;⟨o,e'⟩;refine I.write (x:=a) (e:=dx) (by rw[e];exact True.intro) (.inr ho) (λb q l z=>(d.2 b l).trans z) hd ?_;refine⟨by rw[An σ.ne];exact ho,?_,σ.ne,O'.obj,_,O'.ns,λg=>?_,λg k=>?_⟩
 .have:=jQ f y fs;omega
 .show FL ((Dn f y fs).lookup g) (if g=f then some u else mA g)
  rw[l6]
  by_cases q:g=f
  .rw[pT q,pT q];exact i
  .rw[pL q,pL q];exact r g
 .by_cases q:g=f
  .rw[q];exact(YQ f y fs).1
  .refine(YQ f y fs).2 g (wi g λz=>k ?_);show(if g=f then some u else mA g)=none
   rw[pL q];exact z
theorem Inv.made(I:Inv X ZB O H s):Inv X ZB O (upd (upd H s.heap.objs.size (.own (s.heap.objs.size+1))) (s.heap.objs.size+1) (.ins C s.heap.objs.size []))
  { s with heap:=(s.heap.push PySem.W.emptyDict).push (PySem.W.instObj C s.heap.objs.size) }:=by
 have c:(s.heap.push PySem.W.emptyDict).get? s.heap.objs.size=some PySem.W.emptyDict:=Co s.heap rfl;have h:((s.heap.push PySem.W.emptyDict).push (PySem.W.instObj C s.heap.objs.size)).get? (s.heap.objs.size+1)=some (PySem.W.instObj C s.heap.objs.size):=by
  have:=Co (s.heap.push PySem.W.emptyDict) (o:=PySem.W.instObj C s.heap.objs.size) rfl
  rwa [Kh]at this
 have g:(s.heap.push PySem.W.emptyDict).Ns s.heap.objs.size (λ_=>none):=⟨PySem.W.emptyDict,#[],_,c,rfl,(λe f=>absurd f (by simp)),λ_=>rfl⟩;have i:=I.laid (a:=s.heap.objs.size) (o:=.own (s.heap.objs.size+1)) (h':=s.heap.push PySem.W.emptyDict) (t':=s.toks) (λb u q=>CG _ q) (As _) ⟨_,c⟩;refine i.laid (a:=s.heap.objs.size+1) (o:=.ins C s.heap.objs.size []) (t':=s.toks) (λb u q=>CG _ q) (ng (Kh _ _)) ?_;have ne:s.heap.objs.size≠s.heap.objs.size+1:=D6 (V0 _);refine⟨by rw[An ne,BC],Cg _,ne,h,λ_=>none,(Heap.Ns1.of_empty g).at λo q=>CG _ q,λ_=>True.intro,λy d=>absurd rfl d⟩
theorem ZB1{env:Env}(b:attributeBase e f env (eval e env)=eval e env)
  (h:wpAny (model prog w) A (eval e env) (λo a=>wpAny (model prog w) A (getAttr o f true) Q E a) E s):wpAny (model prog w) A (eval (.Attribute e f pos) env) Q E s:=
 Attribute_any_ h (by rw[arm_eval_Attribute,b])
end
def JL(K:ZHa)(ta:TE)(f:Str):TE:=λO H Q=>ta O H λx H1=>∃a C dx fs v,x=.ref a/\H1 a=some (.ins C dx fs)/\Bo K C/\BQ K C f/\fs.lookup f=some v/\Q v H1
def TX(K:ZHa)(ta tv:TE)(f:Str):TS:=λD O H=>tv O H λy H1=>ta O H1 λx H2=>∃a C dx fs,x=.ref a/\H2 a=some (.ins C dx fs)/\Bo K C/\BQ K C f/\fs.length<1000/\
 D.nx O (upd H2 a (.ins C dx (Dn f y fs)))
def hJ(X:Cx)(op:Operator)(a:V->V->Hp->VK->Prop):Prop:=
 ∀(ZB:ZHb)(s:Shared)(O:St)(H:Hp)(x y:V)(u v:Value)(Q:VK),Inv X ZB O H s->RelV x u->RelV y v->a x y H Q->wpAny (model X.prog X.w) X.A (inplaceOp op u v) (EP X ZB O Q) X.xe s
def OX(K:ZHa)(ta tv:TE)(b:V->V->Hp->VK->Prop)(f:Str):TS:=λD O H=>ta O H λx H1=>∃a C dx fs v,x=.ref a/\H1 a=some (.ins C dx fs)/\Bo K C/\BQ K C f/\fs.lookup f=some v/\
 tv O H1 λy H2=>b v y H2 λz H3=>∃KO Nc,H3 a=some (.ins C KO Nc)/\Nc.length<1000/\D.nx O (upd H3 a (.ins C KO (Dn f z Nc)))
structure Bx (k:Nat) (A:Around):Prop where
 hd:A.handled=none
 dp:A.depth+3 * k+5<recursionLimit
 un:A.units+16 * k+200<cLine
theorem Bx.mono{k:Nat}(r:Bx k A)(h:j<=k):Bx j A:=⟨r.hd,by have:=r.dp;omega,by have:=r.un;omega⟩
theorem Bx.deeper{k:Nat}(r:Bx (k+1) A)(env:Env):Bx k (A.deeper env):=
 ⟨r.hd,by have:=r.dp;show A.depth+1+3 * k+5<_;omega,by have:=r.un;show A.units+3+16 * k+200<_;omega⟩
theorem ZBC:(A.under (.builtin "type.__call__" ⟨.ref C::us,kw⟩)).depth=A.depth+1:=by
 first|rfl|simp[Around.under,Code.weight,Code.isCreation,Code.isGuard,Code.isCaller,Code.frames,Code.isFrame,guardIds]
theorem wC:(A.under (.builtin "type.__call__" ⟨.ref C::us,kw⟩)).units=A.units+1:=by
 first|rfl|simp[Around.under,Code.cUnits,Code.frames,Code.isFrame]
theorem Bx.make{k:Nat}(r:Bx (k+1) A)(C:Addr)(us:List Value)(kw:List (Str×Value)):Bx k (A.under (.builtin "type.__call__" ⟨.ref C::us,kw⟩)):=
 ⟨r.hd,by have:=r.dp;rw[ZBC];omega,by have:=r.un;rw[wC];omega⟩
theorem Bx.depth{k:Nat}(r:Bx k A):A.depth<recursionLimit:=by have:=r.dp;omega
theorem Bx.units{k:Nat}(r:Bx k A):A.units+64<cLine:=by have:=r.un;omega
theorem Bx.Tj{k:Nat}(r:Bx k A):A.units<cLine:=by have:=r.un;omega
def BE:TA:=λ_ H Q=>Q [] H
def Ah(ta:TE)(tr:TA):TA:=λO H Q=>ta O H λx H1=>tr O H1 λxs H2=>Q (x::xs) H2
section
variable{t:TA}
theorem u4(j:PE X e te)(i:PA X es t)(g:starEach (e::es) X.env=(false,eval e X.env)::starEach es X.env:=by rfl):PA X (e::es) (Ah te t):=by
 intro pos ZB s O H Q I h;rw[g];show wpAny _ _ (spliced ((false,eval e X.env)::backTo pos (starEach es X.env))) _ _ s;refine Calls.spliced_cons (AO (j ZB s O H _ I h) λu a Lp=>?_);obtain⟨x,H1,I1,c,f⟩:=Lp;exact AO (i pos ZB a O H1 _ I1 f) λus s2 AG=>by obtain⟨xs,H2,I2,b,d⟩:=AG;exact⟨x::xs,H2,I2,.cons c b,d⟩
def Ro(t:TA):TE:=λO H Q=>t O H λxs H1=>xs.length<=sizeLine/\∀p,H1 p=none->Q (.ref p) (upd H1 p (.tup xs))
def Yl(t:TA):TE:=λO H Q=>t O H λxs H1=>xs.length<=sizeLine/\∀p,H1 p=none->Q (.ref p) (upd H1 p (.lst xs))
theorem yH{x1}(h:PA X es t):PE X (.Tuple es x1 pos) (Ro t):=by
 intro ZB s O H Q I d;refine wpAny_Tuple_spliced (AO (h pos ZB s O H _ I d) λus a⟨xs,H1,I1,r,z,q⟩=>⟨by rw[<- r.length];exact z,?_⟩);have f:H1 a.heap.objs.size=none:=I1.AY.fresh (As _);refine⟨.ref a.heap.objs.size,upd H1 a.heap.objs.size (.tup xs),I1.laid (t':=a.toks) (λb u e=>CG _ e) (As _) ?_,rfl,q _ f⟩;exact⟨z,us,r,⟨_,Co _ rfl,rfl,_,rfl⟩,λg c=>by rw[Co _ rfl]at c;cases c;rfl⟩
theorem uW(h:PA X es t):PE X (.List es pos) (Yl t):=by
 intro ZB s O H Q I c;refine wpAny_List_spliced (AO (h pos ZB s O H _ I c) λus a⟨xs,H1,I1,r,z,q⟩=>⟨by rw[<- r.length];exact z,?_⟩);have d:H1 a.heap.objs.size=none:=I1.AY.fresh (As _);refine⟨.ref a.heap.objs.size,upd H1 a.heap.objs.size (.lst xs),I1.laid (t':=a.toks) (λb u e=>CG _ e) (As _) ?_,rfl,q _ d⟩;exact⟨z,us,0,r,Co _ rfl⟩
end
abbrev Sp:=List V->Hp->VK->XK->Prop
abbrev Gx:=List Env->Hp->Shared->XK->Value->Shared->Prop
variable{CX:Gx}
structure M6 (P:Program) (w:World) (K:ZHa) (mg:ZHc) (ZS:Heap) (A:Around) (outer:List Env) (s:Shared) (H:Hp):Prop where
 frames:A.frames=some outer
 mod:Mod K mg ZS
 bs:∀b o,ZS.get? b=some o->s.heap.get? b=some o/\H b=none
 JS:ZS.objs.size<=s.heap.objs.size
 Gd:s.heap.FunFrames ZS outer
 MO:∀b∈Hd outer,H b=none
 AY:CI P w H s.heap
 bare:AllBare s.gens
def CE(outer:List Env)(P:Program)(w:World)(H:Hp)(s:Shared)(Q:VK)(u:Value)(s':Shared):Prop:=
 ∃v H',s'.os=s.os/\AllBare s'.gens/\Un (Hd outer) [] H H' s.heap s'.heap/\CI P w H' s'.heap/\RelV v u/\Q v H'
def CR(CX:Gx)(outer:List Env)(P:Program)(w:World)(H:Hp)(s:Shared)(Q:VK)(E:XK)(r:Result)(s':Shared):Prop:=
 match r with
 | .ok (.ret u)=>CE outer P w H s Q u s'
 | .ok _=>False
 | .error e=>CX outer H s E e s'
structure Ds (P:Program) (w:World) (K:ZHa) (mg:ZHc) (ZS:Heap) (CX:Gx) (k:Nat) (f:Addr) (fd:FuncData) (ps:List Str) (sp:Sp):Prop where
 len:∀vs H Q E,sp vs H Q E->vs.length=ps.length
 run:∀(A:Around)(outer:List Env)(s:Shared)(H:Hp)(args:Args)(us:List Value)(vs:List V)(Q:VK)(E:XK),Bx k A->M6 P w K mg ZS A outer s H->BindsTo s fd args (ps.zip us)->Vals vs us->sp vs H Q E->
  codeAny (model P w) A (.call (.ref f) args) (CR CX outer P w H s Q E) s
theorem Ds.mono{P:Program}{K:ZHa}{k:Nat}{f:Addr}{sp:Sp}(F:Ds P w K mg ZS CX j f fd ps sp)(h:j<=k):
  Ds P w K mg ZS CX k f fd ps sp:=⟨F.len,λA outer s H args us vs Q E a=>F.run A outer s H args us vs Q E (a.mono h)⟩
theorem M6.make{P:Program}{K:ZHa}(e:M6 P w K mg ZS A outer s H)(C:Addr)(us:List Value)(kw:List (Str×Value)):
  M6 P w K mg ZS (A.under (.builtin "type.__call__" ⟨.ref C::us,kw⟩)) outer s H:=⟨by first|exact e.frames|(simpa[Around.under,Code.envs,Code.isFrame,pushEnvs]using e.frames),e.mod,e.bs,e.JS,e.Gd,e.MO,e.AY,e.bare⟩
theorem Inv.gF(I:Inv X ZB O H s):M6 X.prog X.w X.K X.mg X.base X.A X.stack s H:=
 ⟨I.ok.frames,I.ok.mod,I.bs,Eb I.ok.JS I.sz,I.stack,I.fS,I.AY,I.bare⟩
theorem Inv.after{Q:VK}(I:Inv X ZB O H s)(h:CE X.stack X.prog X.w H s Q u s'):EP X ZB O Q u s':=by
 obtain⟨v,H',os,bare,un,AY,r,q⟩:=h;obtain⟨hh,g,d,t,a⟩:=s';obtain rfl:a=s.os:=os;exact⟨v,H',I.call (h':=hh) (g':=g) (d':=d) (t':=t) (ch:=[]) un AY bare (λb z=>absurd z (by simp)),r,q⟩
def DK(sp:Sp)(Dr:List V)(E:XK)(t:TA):TE:=λO H Q=>t O H λvs H1=>sp (vs++Dr) H1 Q E
def Ir(C:Addr)(m:Str)(sp:Sp)(Dr:List V)(E:XK)(ta:TE)(t:TA):TE:=λO H Q=>ta O H λx H1=>∃a dx fs,x=.ref a/\H1 a=some (.ins C dx fs)/\fs.lookup m=none/\
 t O H1 λvs H2=>sp (x::(vs++Dr)) H2 Q E
def Yx(C:Addr)(sp:Sp)(Dr:List V)(E:XK)(t:TA):TE:=λO H Q=>t O H λvs H1=>∀x dx,H1 x=none->H1 dx=none->dx≠x->
 sp (.ref x::(vs++Dr)) (upd (upd H1 dx (.own x)) x (.ins C dx [])) (λv H2=>v=.AE/\Q (.ref x) H2) E
def Binds(K:ZHa)(fd:FuncData)(ps:List Str)(ds:List Value):Prop:=
 ∀(s:Shared)(us:List Value),K.In s.heap->(us++ds).length=ps.length->BindsTo s fd ⟨us,[]⟩ (ps.zip (us++ds))
theorem Binds.all{K:ZHa}(h:∀us:List Value,us.length=ps.length->bindArgs fd ⟨us,[]⟩=pure (ps.zip us)):Binds K fd ps []:=λs us _ a=>by
 rw[CB]at a ⊢;exact .of_eq (h us a)
def Passes(CX:Gx)(X:Cx)(E:XK):Prop:=∀(ZB:ZHb)(O:St)(H:Hp)(s:Shared)(e:Value)(s':Shared),Inv X ZB O H s->CX X.stack H s E e s'->X.xe e s'
section
variable{k:Nat}{f:Addr}{sp:Sp}{E:XK}{p apos:Pos}{o:Expr}{t:TA}
theorem XQ{Q:VK}(F:Ds X.prog X.w X.K X.mg X.base CX k f fd ps sp)(c:Bx k X.A)(g:Binds X.K fd ps ds)(hd:Vals Dr ds)(hx:Passes CX X E)
  (I:Inv X ZB O H s) (r:Vals vs us) (h:sp (vs++Dr) H Q E):wpAny (model X.prog X.w) X.A (call (.ref f) us) (EP X ZB O Q) X.xe s:=by
 have b:Vals (vs++Dr) (us++ds):=r.append hd;have d:(us++ds).length=ps.length:=by rw[<- b.length];exact F.len _ _ _ _ h
 refine wpAny_call (ZA4 (F.run X.A X.stack s H ⟨us,[]⟩ (us++ds) (vs++Dr) Q E c I.gF (g s us I.Fn d) b h) λr s' a=>?_);cases r with
 |error e=>exact hx ZB O H s e s' I a
 |ok i=>
  cases i with
  |ret u=>exact I.after a
  |next=>exact False.elim a
  |brk=>exact False.elim a
  |cont=>exact False.elim a
theorem ZG1(F:Ds X.prog X.w X.K X.mg X.base CX k f fd ps sp)(a:Bx k X.A)(c:Gl X x)(b:X.mg x=some (.ref f))(hk:PySem.W.keepIn X.K (.ref f)=true)(d:Binds X.K fd ps ds)(hd:Vals Dr ds)(hx:Passes CX X E)
  (g:PA X (e::es) t) (DJ:(x == ("__debug__":Str))=false:=by decide) (he:starEach (e::es) X.env=(false,eval e X.env)::starEach es X.env:=by rfl) (Cd:(backTo pos (starEach es X.env)).any (·.1)=false:=by rfl) :
  PE X (.Call (.Name x p) (e::es) [] pos) (DK sp Dr E t):=by
 intro ZB s O H Q I h;refine sG (Zi I c b ?_ DJ);refine o8 (h₀:=X.base) I.ok.mod.Ou hk (AO (g pos ZB s O H _ I h) λus i⟨vs,H1,I1,r,q⟩=>⟨I1.Fn,?_⟩) he Cd;exact XQ F a d hd hx I1 r q
theorem uo(n:PE X o ta)(c:Bo X.K C)(b:Meth X.K C m f)(F:Ds X.prog X.w X.K X.mg X.base CX k f fd ps sp)(j:Bx k X.A)(p:Binds X.K fd ps ds)(hd:Vals Dr ds)(hx:Passes CX X E)(v:PA X (e::es) t)
  (Hm:starEach (e::es) X.env=(false,eval e X.env)::starEach es X.env:=by rfl) (Cd:(backTo pos (starEach es X.env)).any (·.1)=false:=by rfl)
  (ht:eval (.Call (.Attribute o m apos) (e::es) [] pos) X.env=(do
   let ov <- eval o X.env
   standAt apos.atName
   let (f,first) <- holding [ov] (getMethod ov m pl)
   callWith pos f first (backTo pos (starEach (e::es) X.env)) (backToKw pos (keywordEach [] X.env))):=by rfl) :
  PE X (.Call (.Attribute o m apos) (e::es) [] pos) (Ir C m sp Dr E ta t):=by
 intro ZB s O H Q I h;refine ZGy (pl:=pl) (AO (n ZB s O H _ I h) λu d⟨x,H1,I1,g,a,dx,fs,ex,ea,l,q⟩=>?_) ht;subst ex;obtain rfl:u=Value.ref a:=g;refine k9 I1 ea c b l ?_;refine o8 (first:=[.ref a]) (h₀:=X.base) I.ok.mod.Ou b.kp (AO (v pos ZB d O H1 _ I1 q) λus s2⟨vs,H2,I2,r,i⟩=>⟨I2.Fn,?_⟩) Hm Cd
 exact XQ (us:=.ref a::us) (vs:=.ref a::vs) F j p hd hx I2 (.cons rfl r) i
theorem ZEM(i:PE X o ta)(c:Bo X.K C)(b:Meth X.K C m f)(F:Ds X.prog X.w X.K X.mg X.base CX k f fd ps sp)(g:Bx k X.A)(j:Binds X.K fd ps ds)(hd:Vals Dr ds)(hx:Passes CX X E)
  (e:eval (.Call (.Attribute o m apos) [] [] pos) X.env=(do
   let ov <- eval o X.env
   standAt apos.atName
   let (f,first) <- holding [ov] (getMethod ov m pl)
   callWith pos f first (backTo pos (starEach [] X.env)) (backToKw pos (keywordEach [] X.env))):=by rfl) :
  PE X (.Call (.Attribute o m apos) [] [] pos) (Ir C m sp Dr E ta BE):=by
 intro ZB s O H Q I h;refine ZGy (pl:=pl) (AO (i ZB s O H _ I h) λu n⟨x,H1,I1,d,a,dx,fs,ex,ea,l,q⟩=>?_) e;subst ex;obtain rfl:u=Value.ref a:=d;refine k9 I1 ea c b l ?_;exact PySem.W.callWith_K0 (first:=[.ref a]) I1.Fn b.kp (XQ (us:=[.ref a]) (vs:=[.ref a]) F g j hd hx I1 (.cons rfl .nil) q)
structure Mk (K:ZHa) (C f:Addr):Prop where
 makes:PySem.W.makesIn K C=true
 init:PySem.W.findIn K (.ref C) "__init__"=some (some (.ref f))
 fn:PySem.W.isFn K (.ref f)=true
 kp:PySem.W.keepIn K (.ref C)=true
theorem ZAf{Q:VK}(M:Mk X.K C f)(F:Ds X.prog X.w X.K X.mg X.base CX k f fd ps sp)(i:Bx (k+1) X.A)(l:Binds X.K fd ps ds)(hd:Vals Dr ds)
  (hx:Passes CX X E) (I:Inv X ZB O H s) (r:Vals vs us)
  (h:∀x dx,H x=none->H dx=none->dx≠x->sp (.ref x::(vs++Dr)) (upd (upd H dx (.own x)) x (.ins C dx [])) (λv H2=>v=.AE/\Q (.ref x) H2) E) :
  wpAny (model X.prog X.w) X.A (call (.ref C) us) (EP X ZB O Q) X.xe s:=by
 have c:=h (s.heap.objs.size+1) s.heap.objs.size (I.AY.fresh (O0 _)) (I.AY.fresh (As _)) (D6 (V0 _));have a:=Inv.made (C:=C) I;have b:Vals (V.ref (s.heap.objs.size+1)::(vs++Dr)) (Value.ref (s.heap.objs.size+1)::(us++ds)):=.cons rfl (r.append hd);have j:(Value.ref (s.heap.objs.size+1)::us++ds).length=ps.length:=by
  have e:=b.length;rw[F.len _ _ _ _ c]at e;exact e.symm
 refine wpAny_call (yR (f:=f) I.Fn M.makes M.init (beq_iff_eq.mp M.fn) (ZA4 (F.run _ X.stack _ _ ⟨Value.ref (s.heap.objs.size+1)::us,[]⟩ (Value.ref (s.heap.objs.size+1)::(us++ds)) _ _ E (i.make C us [])
  (a.gF.make C us []) (l _ (Value.ref (s.heap.objs.size+1)::us) a.Fn j) b c) λr s' HH=>?_))
 cases r with
 |error e=>exact hx ZB O _ _ e s' a HH
 |ok m=>
  cases m with
  |ret u=>
   obtain⟨v,H',I3,d,n,g⟩:=a.after HH;subst n;exact⟨d,⟨V.ref (s.heap.objs.size+1),H',I3,rfl,g⟩⟩
  |next=>exact False.elim HH
  |brk=>exact False.elim HH
  |cont=>exact False.elim HH
theorem ZDw(M:Mk X.K C f)(F:Ds X.prog X.w X.K X.mg X.base CX k f fd ps sp)(a:Bx (k+1) X.A)(c:Gl X x)(b:X.mg x=some (.ref C))(d:Binds X.K fd ps ds)(hd:Vals Dr ds)(hx:Passes CX X E)
  (g:PA X (e::es) t) (DJ:(x == ("__debug__":Str))=false:=by decide) (he:starEach (e::es) X.env=(false,eval e X.env)::starEach es X.env:=by rfl) (Cd:(backTo pos (starEach es X.env)).any (·.1)=false:=by rfl) :
  PE X (.Call (.Name x p) (e::es) [] pos) (Yx C sp Dr E t):=by
 intro ZB s O H Q I h;refine sG (Zi I c b ?_ DJ);refine o8 (h₀:=X.base) I.ok.mod.Ou M.kp (AO (g pos ZB s O H _ I h) λus i⟨vs,H1,I1,r,q⟩=>⟨I1.Fn,?_⟩) he Cd;exact ZAf M F a d hd hx I1 r q
variable{kws:List Keyword}{tk:TA}{nm:Option Str}{g:List Value->List Value->List Value}{gV:List V->List V->List V}
end
structure B3 (N P:List Str) (sc:Scope):Prop where
 kind:sc.kind=.function
 co:sc.isCoroutine=false
 gen:sc.isGenerator=false
 nd:N.Nodup
 pre:N.take P.length=P
 par:∀x∈P,sc.names.lookup x=some .local∨sc.names.lookup x=some .cell
 ZDt:∀y∈sc.names,y.2≠.free
theorem k4{a:Str->Option NameKind}{x:Str}:∀{binds:List (Str×Value)}{m:ZHc},(∀v,(x,v)∉binds)->bindL a binds m x=m x
 | [],_,_=>rfl
 | (n,v)::r,m,h=>by
  unfold bindL;rw[k4 λw hw=>h w (DS _ hw)];split
  .have:x≠n:=by rintro rfl;exact h v Es
   simp[this]
  .rfl
theorem n6{a:Str->Option NameKind}{x:Str}:∀{binds:List (Str×Value)}{m:ZHc},(∀v,(x,v)∉binds)->bindC a binds m x=m x
 | [],_,_=>rfl
 | (n,v)::r,m,h=>by
  unfold bindC;rw[n6 λw hw=>h w (DS _ hw)];split
  .rfl
  .have:x≠n:=by rintro rfl;exact h v Es
   simp[this]
theorem df{a:Str->Option NameKind}{x:Str}{v:Value}:∀{P:List Str}{vs:List Value}{i:Nat}{m:ZHc},P.Nodup->P[i]?=some x->vs[i]?=some v->a x=some .local->
  bindL a (P.zip vs) m x=some v
 | [],_,_,_,_,h,_,_=>by simp at h
 |_::_,[],_,_,_,_,h,_=>by simp at h
 |p::P,w::vs,0,m,nd,h1,h2,hk=>by
  simp at h1 h2;subst h1;subst h2;show bindL a ((p,w)::P.zip vs) m p=_;unfold bindL;rw[k4 λv b=>(List.nodup_cons.mp nd).1 (nZ b).1,pT hk];simp
 |p::P,w::vs,i+1,m,nd,h1,h2,hk=>by
  show bindL a ((p,w)::P.zip vs) m x=_;unfold bindL;exact df (i:=i) (List.nodup_cons.mp nd).2 (by simpa using h1) (by simpa using h2) hk
theorem lB{a:Str->Option NameKind}{x:Str}{v:Value}:∀{P:List Str}{vs:List Value}{i:Nat}{m:ZHc},P.Nodup->P[i]?=some x->vs[i]?=some v->a x≠some .local->
  bindC a (P.zip vs) m x=some v
 | [],_,_,_,_,h,_,_=>by simp at h
 |_::_,[],_,_,_,_,h,_=>by simp at h
 |p::P,w::vs,0,m,nd,h1,h2,hk=>by
  simp at h1 h2;subst h1;subst h2;show bindC a ((p,w)::P.zip vs) m p=_;unfold bindC;rw[n6 λv b=>(List.nodup_cons.mp nd).1 (nZ b).1,pL hk];simp
 |p::P,w::vs,i+1,m,nd,h1,h2,hk=>by
  show bindC a ((p,w)::P.zip vs) m x=_;unfold bindC;exact lB (i:=i) (List.nodup_cons.mp nd).2 (by simpa using h1) (by simpa using h2) hk
noncomputable def start(N:List Str)(vs:List V):St:=vs.map some++List.replicate (N.length - vs.length) none
noncomputable def Lx(CX:Gx)(P:Program)(w:World)(K:ZHa)(mg:ZHc)(ZS:Heap)(N:List Str)(qual:Str)(scope:Scope)(f:Addr)(cd:Value)(A:Around)(outer:List Env)(s:Shared)(H:Hp)(E:XK):Cx where
 prog:=P
 w:=w
 K:=K
 mg:=mg
 base:=ZS
 A:=A.deeper (envOfC qual scope s.heap.objs.size f cd)
 N:=N
 s₀:=s
 H₀:=H
 env:=envOfC qual scope s.heap.objs.size f cd
 outer:=outer
 stack:=envOfC qual scope s.heap.objs.size f cd::outer
 ex:=[]
 calm:=true
 fn:=λ_=>true
 pn:=[]
 xe:=λe s'=>wpAny (model P w) (A.deeper (envOfC qual scope s.heap.objs.size f cd)) (leaving (envOfC qual scope s.heap.objs.size f cd) e) (λ_ QZ=>CX outer H s E e QZ) (λa QZ=>CX outer H s E a QZ) s'
theorem gY(h:sc.names.lookup x=some .cell):∃c,(cellsFrom n sc.names []).lookup x=some c:=by
 have q:=ZGx sc.names n [] (.inl h);exact Option.isSome_iff_exists.mp q
theorem pD{P:Program}{K:ZHa}{f:Addr}{l:Shared}{E:XK}
  (S:B3 N ps scope) (hd:A.handled=none) (e0:M6 P w K mg ZS A outer s H) (C:vs.length=ps.length) (r:Vals vs us)
  (x:InCallC s s.heap.objs.size (bindL (envOfC qual scope s.heap.objs.size f cd).kindOf (ps.zip us) λ_=>none) (cellsFrom (s.heap.objs.size+1) scope.names []) (bindC (envOfC qual scope s.heap.objs.size f cd).kindOf (ps.zip us) λ_=>none) l) :
  Inv (Lx CX P w K mg ZS N qual scope f cd A outer s H E) [] (start N vs) H l:=by
 have F:ps.length<=N.length:=by have:=rP List.length S.pre;rw[DR]at this;omega
 obtain⟨h1,tk,rfl,hk⟩:=x.done;have j:∀b:Addr,b∉(Lx CX P w K mg ZS N qual scope f cd A outer s H E).ex:=λb z=>absurd (show b∈([]:List Addr)from z) (by simp);refine⟨⟨e0.mod,S.kind,rfl,rfl,As _,λy z c h1 h2=>?_,λy d=>?_,λy c _ h=>?_,λ_=>hd,Around.frames_deeper e0.frames,.inr ⟨rfl,rfl⟩,λb z=>absurd z (j b),e0.bs,e0.JS,λb _ _=>j b,λb z=>absurd z (j b),e0.Gd,e0.MO⟩,
  rfl,e0.bare,Un.kept hk,⟨_,x.toInCall.ns,λi y v h1 h2 D=>?_⟩,λy c h=>⟨_,x.cell y c h⟩,e0.AY.fresh (As _),λy c h=>?_,λp g=>absurd (show p∈([]:ZHb)from g) (by simp),e0.AY.kept hk,?_⟩
 .exact name_of_addr x.apart (MX h1) (MX h2)
 .have d:scope.names.lookup y=some .cell∨scope.names.lookup y=some .free:=d;rcases d with d|d
  .exact gY d
  .exact absurd rfl (S.ZDt _ (MX d))
 .exact bO (x.above y c (MX h))
 .have hi:i<vs.length:=by
   unfold start at h2
   by_cases hi:i<vs.length
   .exact hi
   .rw[E8 (by simpa using hi)]at h2
    rw[nP]at h2;split at h2 <;> cases h2
  have B:vs[i]?=some v:=by
   unfold start at h2;rw[DO (by simpa using hi),Aj]at h2
   cases e:vs[i]? with
   |none=>rw[e]at h2;cases h2
   |some a=>rw[e]at h2;cases h2;rfl
  obtain⟨u,m,t⟩:=r.get B;have g:ps[i]?=some y:=by
   rw[<- S.pre,List.getElem?_take_of_lt (by omega)];exact h1
  have o:ps.Nodup:=by rw[<- S.pre];exact S.nd.sublist (ZGj _ _)
  refine⟨u,t,?_⟩;rcases S.par y (Bi g)with k|k
  .exact .inl ⟨k,df o g m k⟩
  .obtain⟨c,e⟩:=gY (n:=s.heap.objs.size+1) k;refine .inr ⟨.inl k,c,e,?_⟩;have q:=x.cell y c e;rw[lB o g m (by show scope.names.lookup y≠_;rw[k];decide)]at q;exact q
 .exact e0.AY.fresh (bO (x.above y c (MX h)))
 .unfold start;show _=N.length;rw[Bt,AD,ZGg];omega
theorem ZAG{P:Program}{K:ZHa}{k:Nat}{f:Addr}{a:Arguments}{body:List Stmt}{p kV g m Ac ct F:Value}{z D:Option Addr}
  {Ju:Array (Option Value)}{sp:Sp}(G:K.lookup f=some ⟨F,D,.func (PySem.W.fnOf name qual a body scope p kV g m z Ac ct),Ju⟩) (Hn:PySem.W.codeIn K Ac qual=true) (S:B3 N ps scope)
  (len:∀vs H Q E,sp vs H Q E->vs.length=ps.length)
  (Oj:∀(A:Around)(outer:List Env)(s:Shared)(H:Hp)(vs:List V)(Q:VK)(E:XK),Bx k (A.deeper (envOfC qual scope s.heap.objs.size f Ac))->sp vs H Q E->
   ∃t,Ek (Lx CX P w K mg ZS N qual scope f Ac A outer s H E) body t/\t { nx:=λ_ H'=>Q .AE H',rt:=Q } (start N vs) H) :
  Ds P w K mg ZS CX (k+1) f (PySem.W.fnOf name qual a body scope p kV g m z Ac ct) ps sp:=by
 refine⟨len,λA outer s H args us vs Q E j e0 U r HP=>?_⟩;have R:=len _ _ _ _ HP;have B:K.In s.heap:=e0.mod.Ou.keeps λb o e=>(e0.bs b o e).1;have i:s.heap.NoLimit:=e0.mod.nolimit.keeps λb o e=>(e0.bs b o e).1;have C:∀y∈ps.zip us,scope.names.lookup y.1=some .local∨(scope.names.lookup y.1=some .cell/\((cellsFrom (s.heap.objs.size+1) scope.names []).lookup y.1).isSome=true):=λ⟨n,v⟩L=>by
  rcases S.par n (nZ L).1 with q|q
  .exact .inl q
  .exact .inr ⟨q,ZGx _ _ _ (.inl q)⟩
 refine codeAny_call_function j.depth (B _ _ G) rfl S.co S.gen rfl (PySem.W.codeRec_of B Hn) (U _ _ _ _ ?_);refine wpAny_newFunctionEnv_cells S.kind C λenv T l x=>?_;subst T;refine⟨i.keeps x.toInCall.keep,codeAny_func ?_⟩;obtain⟨t,M,σ⟩:=Oj A outer s H vs Q E (j.deeper _) HP;have I:Inv (Lx CX P w K mg ZS N qual scope f Ac A outer s H E) [] (start N vs) H l:=pD S j.hd e0 R r x;refine qr (M [] l (start N vs) H _ I σ) (λX s' c=>?_) λe s' c=>c;have d:∀{σ':St}{H':Hp}{v:V}{u:Value},Inv (Lx CX P w K mg ZS N qual scope f Ac A outer s H E) [] σ' H' s'->RelV v u->Q v H'->CE outer P w H s Q u s':=
  λ{σ' H' v u}J h q=>⟨v,H',J.os,J.bare,J.base,J.AY,h,q⟩
 cases X with
 |ret u=>
  obtain⟨v,σ',H',J,h,q⟩:=c;exact d J h q
 |next=>
  obtain⟨σ',H',J,q⟩:=c;exact d (v:=V.AE) (u:=Value.none) J rfl q
 |brk=>
  obtain⟨_,_,_,q⟩:=c;exact False.elim q
 |cont=>
  obtain⟨_,_,_,q⟩:=c;exact False.elim q
section
variable{p:Pos}{t:TA}{id T:String}{r:List V->Hp->VK->Prop}
def FP(r:List V->Hp->VK->Prop)(t:TA):TE:=λO H Q=>t O H λvs H1=>r vs H1 Q
end
end L2
namespace HT
section
open PySem.SeqAt
open PySem.AutoSeq1 (wpAny_loadPart')
open PySem.MeetsSeq PySem.MeetsSeq2 PySem.MeetsSeq3
end
section
variable{prog:Program}{w:World}{A:Around}{E:Value->Shared->Prop}{s:Shared}
noncomputable def DV(n d:Nat):Option Int->Nat
 |none=>d
 |some v=>if v<0 then(v+(n:Int)).toNat else min v.toNat n
theorem VD(n d:Nat):DV n d none=d:=rfl
theorem ZX(n d k:Nat):DV n d (some (k:Int))=min k n:=by
 show(if(k:Int)<0 then((k:Int)+(n:Int)).toNat else min (k:Int).toNat n)=min k n
 rw[pL (by omega),Gz]
end
end HT
namespace L2
variable{X:Cx}{pos:Pos}{α:Type}{j n t':Nat}{i:Int}{ZB:ZHb}{O:St}{H:Hp}{s:Shared}{p:Addr}{xs ys:List V}{A5 its':List Value}{A:Around}{x y:V}{u v:Value}{T:String}
abbrev TO:=St->Hp->(Option Int->Hp->Prop)->Prop
def PO(X:Cx)(e:Option Expr)(t:TO):Prop:=
 ∀(ZB:ZHb)(s:Shared)(O:St)(H:Hp)(Q:Option Int->Hp->Prop),Inv X ZB O H s->t O H Q->
  wpAny (model X.prog X.w) X.A (evalPart e X.env) (λu s'=>∃o H',Inv X ZB O H' s'/\IsPart u o/\Q o H') X.xe s
def ZK:TO:=λ_ H Q=>Q none H
def XU(t:TE):TO:=λO H Q=>t O H λx H1=>∃i,x=.int i/\Q (some i) H1
section
variable{e:Expr}{te:TE}{lo hi:Option Expr}{tl th:TO}{p2:Pos}
def TU(X:Cx)(r:V->Option Int->Option Int->Hp->VK->Prop):Prop:=
 ∀(ZB:ZHb)(s:Shared)(O:St)(H:Hp)(x:V)(v b a:Value)(lo hi:Option Int)(c:Addr)(Q:VK),Inv X ZB O H s->RelV x v->s.heap.IsSliceOf c b a .none->IsPart b lo->IsPart a hi->r x lo hi H Q->
  ∃T id,typeLookup (.type T) "__getitem__"=pure (some (.builtin id))/\s.TypeIs v T/\wpAny (model X.prog X.w) X.A (getItem v (.ref c)) (EP X ZB O Q) X.xe s
def aw(r:V->Option Int->Option Int->Hp->VK->Prop)(te:TE)(tl th:TO):TE:=λO H Q=>te O H λx H1=>tl O H1 λl H2=>th O H2 λu H3=>r x l u H3 Q
def Lg(xs:List V)(lo hi:Option Int):List V:=(xs.drop (HT.DV xs.length 0 lo)).take (HT.DV xs.length xs.length hi - HT.DV xs.length 0 lo)
theorem ZB4(xs:List V)(lo hi:Option Int):(Lg xs lo hi).length<=xs.length:=by
 unfold Lg;rw[DR,Uw];omega
end
noncomputable def G4(n:Nat)(i:Int):Option Nat:=if 0<=i then(if i<n then some i.toNat else none)else if -(n:Int)<=i then some (i+n).toNat else none
def C8(xs:List α)(i:Int):Option α:=(G4 xs.length i).bind λj=>xs[j]?
theorem d7(h:G4 n i=some j):seqIndex? i n=some j/\j<n/\-(n:Int)<=i/\i<n:=by
 unfold G4 at h
 by_cases a:0<=i
 .rw[pT a]at h
  by_cases h1:i<n
  .rw[pT h1]at h;have e:i.toNat=j:=BY h;exact⟨by rw[seqIndex_of a h1,e],by omega,by omega,h1⟩
  .rw[pL h1]at h;cases h
 .rw[pL a]at h
  by_cases h1:-(n:Int)<=i
  .rw[pT h1]at h;have e:(i+n).toNat=j:=BY h;exact⟨by rw[seqIndex_neg (by omega) h1,e],by omega,h1,by omega⟩
  .rw[pL h1]at h;cases h
theorem Vn{xs:List α}{v:α}(h:C8 xs i=some v):∃j,seqIndex? i xs.length=some j/\xs[j]?=some v/\j<xs.length/\-(xs.length:Int)<=i/\i<xs.length:=by
 unfold C8 at h;cases e:G4 xs.length i with
 |none=>rw[e]at h;cases h
 |some j=>
  rw[e]at h;obtain⟨h1,h2,b,a⟩:=d7 e;exact⟨j,h1,h,h2,b,a⟩
theorem EU{xs:List α}{v:α}(h:xs[j]?=some v):C8 xs (j:Int)=some v:=by
 have a:j<xs.length:=(List.getElem?_eq_some_iff.mp h).1;have e:G4 xs.length (j:Int)=some j:=by
  unfold G4;rw[pT (by omega),pT (by omega)];simp
 unfold C8;rw[e];exact h
def VP(b:Expr):Prop:=∀o i,subscripted b false o i=operate [o,i] (getItem o i)
def D2(X:Cx)(r:R2):Prop:=
 ∀(value a:Expr)(ZB:ZHb)(s:Shared)(O:St)(H:Hp)(x y:V)(v u:Value)(Q:VK),Inv X ZB O H s->RelV x v->RelV y u->r x y H Q->
  subscripted a false v u=operate [v,u] (getItem v u)->wpAny (model X.prog X.w) X.A (subscriptTail value a v u) (EP X ZB O Q) X.xe s
def Gn(X:Cx)(id:String)(r:V->List V->Hp->VK->Prop):Prop:=
 ∀(ZB:ZHb)(s:Shared)(O:St)(H:Hp)(x:V)(xs:List V)(v:Value)(us:List Value)(Q:VK),Inv X ZB O H s->RelV x v->Vals xs us->r x xs H Q->
  wpAny (model X.prog X.w) X.A (call (.builtin id) (v::us)) (EP X ZB O Q) X.xe s
section
variable{a b:Expr}{ta tb:TE}
def M4(K:ZHa):R2:=λx y H Q=>∃p xs i v,x=.ref p/\y=.int i/\AW K H p xs/\C8 xs i=some v/\Q v H
def D1(K:ZHa):R2:=λx y H Q=>∃p xs i v,x=.ref p/\y=.int i/\B7 K H p xs/\C8 xs i=some v/\Q v H
def yr:R2:=λx y H Q=>∃z i c,x=.str z/\y=.int i/\z.length<=sizeLine/\C8 z.cps.toList i=some c/\Q (.str ⟨#[c]⟩) H
theorem D3:D2 X (M4 X.K):=by
 intro value b ZB s O H x y v u Q I k g h d;obtain⟨p,xs,i,z,rfl,rfl,l,n,q⟩:=h;cases k;obtain⟨t,rfl⟩:=g;obtain⟨A5,r,pl,B⟩:=I.list l;obtain⟨j,h1,h2,D,A,o⟩:=Vn n;obtain⟨w,f,GD⟩:=r.get h2;have m:=r.length;have C:=Iz;have a:EP X ZB O Q w s:=⟨z,H,I,GD,q⟩
 by_cases e:0<=i
 .have c:i.toNat=j:=by
   rw[seqIndex_of e o]at h1;exact BY h1
  exact item_listR pl.isList e (by omega) (by rw[c];simpa using f) a d
 .have c:(i+(A5.toArray.size:Int)).toNat=j:=by
   rw[seqIndex_neg (by omega) A]at h1;rw[Cq,<- m];exact BY h1
  exact subscriptTail_builtinR (x:=w) pl.isList.typeIs slot_list_getitem.lookup
   (wpAny_getItem_list_neg (Q:=λr s'=>r=w/\EP X ZB O Q r s') pl.isList (by omega) (by rw[Cq] <;> omega) (by omega) (by rw[c];simpa using f) ⟨rfl,a⟩) d
theorem Ay:D2 X (D1 X.K):=by
 intro value a ZB s O H x y v u Q I d c h e;obtain⟨p,xs,i,z,rfl,rfl,f,k,q⟩:=h;cases d;obtain⟨t,rfl⟩:=c;obtain⟨A5,r,pl,m⟩:=I.tuple f;obtain⟨j,h1,h2,B,A,o⟩:=Vn k;obtain⟨w,l,GD⟩:=r.get h2;have g:=r.length;have n:=Iz;have b:EP X ZB O Q w s:=⟨z,H,I,GD,q⟩;exact subscriptTail_builtinR (x:=w) pl.typeIs slot_tuple_getitem.lookup
  (getItem_tuple (j:=j) (Q:=λr s'=>r=w/\EP X ZB O Q r s') pl (by omega) (by omega) (by rw[Cq,<- g];exact h1) (by simpa using l) ⟨rfl,b⟩) e
theorem tV:D2 X yr:=by
 intro value a ZB s O H x y v u Q I d b h e;obtain⟨z,i,c,rfl,rfl,o,g,q⟩:=h;obtain⟨t,rfl⟩:=d;obtain⟨t',rfl⟩:=b;obtain⟨j,h1,h2,r,l,k⟩:=Vn g;have f:z.cps.toList.length=z.length:=by simp[Str.length]
 rw[f]at h1 l k;have p:=Iz;exact tail_any (typeIs_str s z t) slot_str_getitem.lookup (getItem_str (c:=c) (by
  have n:decide (i < -(2 ^ 63:Int))=false:=qD (by omega);have m:decide (i>=2 ^ 63)=false:=qD (by omega);rw[n,m,Bool.or_false]) (by rw[h1];simpa using h2) ⟨.str ⟨#[c]⟩,H,I.tok _,⟨_,rfl⟩,q⟩) e
theorem uc(A5:List Value)(n j:Nat)(u:Value):Obj.mapSeq (·.setIfInBounds j u) { cls:=.type "list", data:=.seq A5.toArray n }={ cls:=.type "list", data:=.seq (A5.set j u).toArray n }:=by
 simp[Obj.mapSeq]
theorem Inv.lst(I:Inv X ZB O H s)(h:H p=some (.lst xs)):
  ∃(A5:List Value)(n:Nat),Vals xs A5/\s.heap.get? p=some { cls:=.type "list", data:=.seq A5.toArray n }/\xs.length<=sizeLine:=by
 obtain⟨z,A5,n,r,e⟩:=I.AY p _ h;exact⟨A5,n,r,e,z⟩
theorem Inv.ZGN{a:Nat}{f:Obj->Obj}(I:Inv X ZB O H s)(h:H p=some (.lst xs))
  (ho:s.heap.get? p=some { cls:=.type "list", data:=.seq A5.toArray n }) (hf:f { cls:=.type "list", data:=.seq A5.toArray n }={ cls:=.type "list", data:=.seq its'.toArray a }) (r:Vals ys its') (hz:ys.length<=sizeLine) (t:Nat) :
  Inv X ZB O (upd H p (.lst ys)) { s with heap:=s.heap.update p f,toks:=t }:=by
 have e:(s.heap.update p f).get? p=some { cls:=.type "list", data:=.seq its'.toArray a }:=by
  rw[Nx f ho (by rw[hf] <;> rfl),hf]
 refine I.write (x:=p) (e:=p) (by rw[h];trivial) (.inl rfl) (λb u c q=>(Jg _ _ (CC c)).trans q) ⟨_,e⟩ ?_;exact⟨hz,its',a,r,e⟩
def Tp:V->V->V->Hp->(Hp->Prop)->Prop:=λo i v H Q=>∃p xs k j,o=.ref p/\i=.int k/\H p=some (.lst xs)/\G4 xs.length k=some j/\Q (upd H p (.lst (xs.set j v)))
theorem set_list:RJ X Tp:=by
 intro ZB s O H o i v y z u Q I l m g h;obtain⟨p,xs,k,j,rfl,rfl,b,x,q⟩:=h;cases l;obtain⟨t,rfl⟩:=m;obtain⟨A5,n,r,ho,w⟩:=I.lst b;obtain⟨h1,h2,d,c⟩:=d7 x;have a:=r.length;have A:=Iz;have f:Inv X ZB O (upd H p (.lst (xs.set j v))) { s with heap:=s.heap.update p (Obj.mapSeq (·.setIfInBounds j u)) }:=
  I.ZGN b ho (uc A5 n j u) (r.set g j) (by rw[MT];exact w) s.toks
 by_cases e:0<=k
 .have hk:k.toNat=j:=by
   rw[seqIndex_of e c]at h1;exact BY h1
  exact PySem.W.ki_setAt ho e (by omega) (by rw[Cq,<- a];exact c) (by rw[hk];exact⟨_,f,q⟩)
 .have hk:(k+(A5.toArray.size:Int)).toNat=j:=by
   rw[seqIndex_neg (by omega) d]at h1;rw[Cq,<- a];exact BY h1
  exact PySem.W.ki_setBack ho (by omega) (by rw[Cq,<- a];exact d) (by omega) (by rw[hk];exact⟨_,f,q⟩)
theorem oa(lo hi:Option Int)(n:Nat):(sliceBounds lo hi none n).1=((HT.DV n 0 lo:Nat):Int)/\(sliceBounds lo hi none n).2.1=((HT.DV n n hi:Nat):Int)/\(sliceBounds lo hi none n).2.2=1:=by
 refine⟨?_,?_,rfl⟩
 .cases lo with
  |none=>simp[sliceBounds,HT.DV]
  |some i=>
   simp only[sliceBounds,HT.DV,ZGq,show(1:Int) > 0 by decide,ZAH]
   by_cases h:i<0
   .simp only[h,ZAH] <;> omega
   .simp only[h,if_false] <;> omega
 .cases hi with
  |none=>simp[sliceBounds,HT.DV]
  |some i=>
   simp only[sliceBounds,HT.DV,ZGq,show(1:Int) > 0 by decide,ZAH]
   by_cases h:i<0
   .simp only[h,ZAH] <;> omega
   .simp only[h,if_false] <;> omega
theorem rF(A5:List Value)(lo hi:Option Int):slicePick A5.toArray lo hi none=((A5.drop (HT.DV A5.length 0 lo)).take (HT.DV A5.length A5.length hi - HT.DV A5.length 0 lo)).toArray:=by
 obtain⟨h1,h2,a⟩:=oa lo hi A5.toArray.size;unfold slicePick;rw[h1,h2,a];simp only[sliceRange_one,pick_run,Cq] <;> rfl
def jh(K:ZHa):V->Option Int->Option Int->Hp->VK->Prop:=λx lo hi H Q=>∃a xs,x=.ref a/\AW K H a xs/\∀p,H p=none->Q (.ref p) (upd H p (.lst (Lg xs lo hi)))
theorem OY:TU X (jh X.K):=by
 intro ZB s O H x v k j lo hi l Q I e i pl f h;obtain⟨a,xs,rfl,hx,q⟩:=h;cases e;obtain⟨A5,r,d,g⟩:=I.list hx;have c:=r.length;refine⟨"list", _,slot_list_getitem.lookup,d.isList.typeIs,?_⟩;refine wpAny_getItem_list_slice d.isList i pl f .none (by simp) ?_ (by rw[Cq] <;> omega)
 rw[rF,<- c];refine⟨.ref s.heap.objs.size,_,I.laid (t':=s.toks) (o:=.lst (Lg xs lo hi)) (λb ob q=>CG _ q) (As _) ?_,rfl,q _ (I.AY.fresh (As _))⟩;exact⟨Eb (ZB4 xs lo hi) g,_,0,(r.drop (HT.DV xs.length 0 lo)).take (HT.DV xs.length xs.length hi - HT.DV xs.length 0 lo),Co _ rfl⟩
noncomputable def DM:V->Bool
 | .AE=>true
 | .bl _=>true
 | .int _=>true
 | .str _=>true
 |_=>false
noncomputable def E6:V->V->Bool
 | .AE,.AE=>true
 | .bl a,.bl b=>a == b
 | .bl a,.int b=>(if a then 1 else 0) == b
 | .int a,.bl b=>a == (if b then 1 else 0)
 | .int a,.int b=>a == b
 | .str a,.str b=>a == b
 |_,_=>false
theorem Sl(d:RelV y u)(c:RelV x v)(f:DM y=true)(e:DM x=true):SeqAt.EqAt A s u v (E6 y x):=by
 cases y with
 |AE=>
  cases d;cases x with
  |AE=>cases c;exact SeqAt.EqAt.same _
  |bl b=>cases c;exact SeqAt.EqAt.none_bool b
  |int b=>obtain⟨t,rfl⟩:=c;exact SeqAt.EqAt.none_int b t
  |str b=>obtain⟨t,rfl⟩:=c;exact SeqAt.EqAt.none_str b t
  |_=>exact absurd (show false=true from e) Dj
 |bl a=>
  cases d;cases x with
  |AE=>cases c;exact SeqAt.EqAt.bool_none a
  |bl b=>cases c;exact SeqAt.EqAt.bool_bool a b
  |int b=>obtain⟨t,rfl⟩:=c;exact SeqAt.EqAt.bool_int a b t
  |str b=>obtain⟨t,rfl⟩:=c;exact SeqAt.EqAt.bool_str a b t
  |_=>exact absurd (show false=true from e) Dj
 |int a=>
  obtain⟨t',rfl⟩:=d;cases x with
  |AE=>cases c;exact SeqAt.EqAt.int_none a t'
  |bl b=>cases c;exact SeqAt.EqAt.int_bool a t' b
  |int b=>obtain⟨t,rfl⟩:=c;exact SeqAt.EqAt.int_int a t' b t
  |str b=>obtain⟨t,rfl⟩:=c;exact SeqAt.EqAt.int_str a t' b t
  |_=>exact absurd (show false=true from e) Dj
 |str a=>
  obtain⟨t',rfl⟩:=d;cases x with
  |AE=>cases c;exact SeqAt.EqAt.str_none a t'
  |bl b=>cases c;exact SeqAt.EqAt.str_bool a t' b
  |int b=>obtain⟨t,rfl⟩:=c;exact SeqAt.EqAt.str_int a t' b t
  |str b=>obtain⟨t,rfl⟩:=c;exact SeqAt.EqAt.str_str a t' b t
  |_=>exact absurd (show false=true from e) Dj
 |_=>exact absurd (show false=true from f) Dj
def Dv(x:V)(u:Value):Bool:=match u with
 | .none=>E6 .AE x
 | .bool b=>E6 (.bl b) x
 | .int i _=>E6 (.int i) x
 | .str z _=>E6 (.str z) x
 |_=>false
theorem XM(r:RelV y u)(f:DM y=true):Dv x u=E6 y x:=by
 cases y with
 |AE=>cases r;rfl
 |bl b=>cases r;rfl
 |int i=>obtain⟨t,rfl⟩:=r;rfl
 |str z=>obtain⟨t,rfl⟩:=r;rfl
 |_=>exact absurd (show false=true from f) Dj
theorem QK{x:V}:∀{xs:List V}{us:List Value},Vals xs us->xs.all DM=true->us.any (Dv x)=xs.any λy=>E6 y x
 |_,_,.nil,_=>rfl
 |y::xs,u::us,.cons r t,f=>by
  rw[Qj,GX]at f;rw[MR,MR,XM r f.1,QK t f.2]
theorem JW{A:Around}{s:Shared}{x:V}{v:Value}(b:RelV x v)(c:DM x=true):∀{xs:List V}{us:List Value},Vals xs us->xs.all DM=true->∀u∈us,SeqAt.EqAt A s u v (Dv x u)
 |_,_,.nil,_=>λu a=>by cases a
 |y::xs,u::us,.cons r t,f=>λd a=>by
  rw[Qj,GX]at f;rcases List.mem_cons.mp a with rfl|a
  .rw[XM r f.1];exact Sl r b f.1 c
  .exact JW b c t f.2 d a
def Ks(x:V)(xs:List V):Bool:=xs.any λy=>E6 y x
def J7(K:ZHa)(neg:Bool):R2:=λx y H Q=>∃p xs,y=.ref p/\(AW K H p xs∨B7 K H p xs)/\DM x=true/\xs.all DM=true/\Q (.bl (if neg then !Ks x xs else Ks x xs)) H
theorem LQ:BU X (compareOp .In) (J7 X.K false):=by
 intro ZB s O H x y v u Q I b d h;obtain⟨p,xs,rfl,a,c,fs,q⟩:=h;cases d;rcases a with a|a
 .obtain⟨A5,r,pl,e⟩:=I.list a;refine SeqAt.in_listAt (Dv x) pl.isList (λw hw=>JW b c r fs w (by simpa using hw)) ⟨.bl _,H,I,rfl,?_⟩
  rw[show A5.toArray.any (Dv x)=A5.any (Dv x) by simp,QK r fs];exact q
 .obtain⟨A5,r,pl,e⟩:=I.tuple a;refine SeqAt.in_tupleAt (Dv x) pl (λw hw=>JW b c r fs w (by simpa using hw)) ⟨.bl _,H,I,rfl,?_⟩
  rw[show A5.toArray.any (Dv x)=A5.any (Dv x) by simp,QK r fs];exact q
theorem Na:BU X (compareOp .NotIn) (J7 X.K true):=by
 intro ZB s O H x y v u Q I b d h;obtain⟨p,xs,rfl,a,c,fs,q⟩:=h;cases d;rcases a with a|a
 .obtain⟨A5,r,pl,e⟩:=I.list a;refine SeqAt.notIn_listAt (Dv x) pl.isList (λw hw=>JW b c r fs w (by simpa using hw)) ⟨.bl _,H,I,rfl,?_⟩
  rw[show A5.toArray.any (Dv x)=A5.any (Dv x) by simp,QK r fs];exact q
 .obtain⟨A5,r,pl,e⟩:=I.tuple a;refine SeqAt.notIn_tupleAt (Dv x) pl (λw hw=>JW b c r fs w (by simpa using hw)) ⟨.bl _,H,I,rfl,?_⟩
  rw[show A5.toArray.any (Dv x)=A5.any (Dv x) by simp,QK r fs];exact q
theorem Tx:Du X (.builtin "len") (λxs H Q=>∃p ys,xs=[.ref p]/\(AW X.K H p ys∨B7 X.K H p ys)/\Q (.int ys.length) H):=by
 intro ZB s O H xs us Q I r h;obtain⟨p,ys,rfl,b,q⟩:=h;obtain⟨u,rfl,d⟩:=vals1 r;cases d;have f:=Iz;rcases b with b|b
 .obtain⟨A5,c,pl,e⟩:=I.list b;have a:=c.length;exact Calls.call_len_list pl.isList (by simp only[Cq] <;> omega) ⟨.int ys.length,H,I.tok _,⟨s.toks+1,by rw[Cq,a]⟩,q⟩
 .obtain⟨A5,c,pl,e⟩:=I.tuple b;have a:=c.length;exact len_tuple pl (by simp only[Cq] <;> omega) ⟨.int ys.length,H,I.tok _,⟨s.toks+1,by rw[Cq,a]⟩,q⟩
theorem k8:Du X (.builtin "len") (λxs H Q=>∃z,xs=[.str z]/\z.length<=sizeLine/\Q (.int z.length) H):=by
 intro ZB s O H xs us Q I r h;obtain⟨z,rfl,a,q⟩:=h;obtain⟨u,rfl,t,rfl⟩:=vals1 r;have b:=Iz;exact len_str (by omega) ⟨.int z.length,H,I.tok _,⟨_,rfl⟩,q⟩
theorem Zl:Du X (.type "list") (λxs H Q=>∃p ys,xs=[.ref p]/\(AW X.K H p ys∨B7 X.K H p ys)/\∀l,H l=none->Q (.ref l) (upd H l (.lst ys))):=by
 intro ZB s O H xs us Q I r h;obtain⟨p,ys,rfl,f,q⟩:=h;obtain⟨u,rfl,k⟩:=vals1 r;cases k;have i:∀(A5:List Value),Vals ys A5->ys.length<=sizeLine->∀(h':Heap)(c:Nat),(∀b o',s.heap.get? b=some o'->h'.get? b=some o')->
   h'.get? s.heap.objs.size=some { cls:=.type "list", dict:=none,data:=.seq A5.toArray c,slots:=#[] }->EP X ZB O Q (.ref s.heap.objs.size) { s with heap:=h' }:=λA5 a d h' c kp e=>
  ⟨.ref s.heap.objs.size,_,I.laid (t':=s.toks) kp (As _) (show DA X.prog X.w _ h' _ (.lst ys)from⟨d,A5,c,a,e⟩),rfl,q _ (I.AY.fresh (As _))⟩
 rcases f with f|f
 .obtain⟨A5,a,pl,d⟩:=I.list f;have g:=a.length;obtain⟨o,ho,j,n,hd⟩:=pl.isList;exact call_list_seq p (.inl rfl) ho j hd (λh' c kp e=>i A5 a d h' c kp e) (by simp only[Cq] <;> omega)
 .obtain⟨A5,a,pl,d⟩:=I.tuple f;have g:=a.length;obtain⟨o,ho,j,n,hd⟩:=pl;exact call_list_seq p (.inr rfl) ho j hd (λh' c kp e=>i A5 a d h' c kp e) (by simp only[Cq] <;> omega)
theorem Mh:Du X (.type "tuple") (λxs H Q=>∃p ys,xs=[.ref p]/\((AW X.K H p ys/\∀l,H l=none->Q (.ref l) (upd H l (.tup ys)))∨(B7 X.K H p ys/\Q (.ref p) H))):=by
 intro ZB s O H xs us Q I r h;obtain⟨p,ys,rfl,h⟩:=h;obtain⟨u,rfl,j⟩:=vals1 r;cases j;rcases h with⟨c,q⟩|⟨c,q⟩
 .obtain⟨A5,a,pl,d⟩:=I.list c;have f:=a.length;refine call_tuple_list pl.isList (λh' kp=>?_) (by simp only[Cq] <;> omega)
  have i:Inv X ZB O H { s with heap:=h' }:=I.kept (t':=s.toks) kp
  have k:Inv X ZB O (upd H h'.objs.size (.tup ys)) { s with heap:=h'.push { cls:=.type "tuple", data:=.seq A5.toArray } }:=
   i.laid (t':=s.toks) (λb o e=>CG _ e) (As _) (show DA X.prog X.w _ _ _ (.tup ys)from⟨d,A5,a,⟨IsTup.new _ _,λm g=>by rw[Co _ rfl]at g;cases g;rfl⟩⟩)
  exact⟨.ref h'.objs.size,_,k,rfl,q _ (i.AY.fresh (As _))⟩
 .obtain⟨A5,a,pl,d⟩:=I.tuple c;exact call_tuple_same pl ⟨.ref p,H,I,rfl,q⟩
def Wv(K:ZHa)(T:String)(x:V)(H:Hp):Prop:=match x with
 | .str _=>T="str"
 | .int _=>T="int"
 | .ref p=>(T="list" /\ ∃xs,AW K H p xs)∨(T="tuple" /\ ∃o,K.lookup p=some o/\o.cls=.type "tuple" /\ o.dict=none)∨
   (T="dict" /\ ((∃A7,H p=some (.dK A7))∨∃A7,H p=some (.dT A7)))∨(T="set" /\ ∃S n,H p=some (.set S n))∨(T="tuple" /\ ∃xs,H p=some (.tup xs))
 |_=>False
theorem l5(I:Inv X ZB O H s)(r:RelV x v)(ty:Wv X.K T x H):
  s.TypeIs v T/\∀a,v=.ref a->∃ob,s.heap.get? a=some ob/\ob.dict=none:=by
 cases x with
 |str z=>
  obtain⟨t,rfl⟩:=r;cases(show T="str" from ty);exact⟨typeIs_str s z t,λ_ e=>nomatch e⟩
 |int i=>
  obtain⟨t,rfl⟩:=r;cases(show T="int" from ty);exact⟨typeIs_int s i t,λ_ e=>nomatch e⟩
 |ref p=>
  cases r;rcases ty with⟨rfl,xs,d⟩|⟨rfl,o,hk,f,hd⟩|⟨rfl,hk⟩|⟨rfl,S,n,hk⟩|⟨rfl,xs,hk⟩
  .obtain⟨A5,_,pl,_⟩:=I.list d;refine⟨pl.isList.typeIs,λa e=>?_⟩;cases e;obtain⟨o,n,e,c,hd,_⟩:=pl;exact⟨o,e,hd⟩
  .refine⟨⟨o,I.Fn p o hk,f⟩,λa e=>?_⟩;cases e;exact⟨o,I.Fn _ o hk,hd⟩
  .have z:∃o,s.heap.get? p=some o/\o.ExactDict:=by
    rcases hk with⟨A7,hk⟩|⟨A7,hk⟩
    .obtain⟨_,_,_,_,o,_,_,e,ex,_⟩:=I.AY p _ hk;exact⟨o,e,ex⟩
    .obtain⟨_,_,_,_,o,_,_,e,ex,_⟩:=I.AY p _ hk;exact⟨o,e,ex⟩
   obtain⟨o,e,ex⟩:=z;refine⟨⟨o,e,ex.1⟩,λa b=>?_⟩;cases b;exact⟨o,e,ex.2.1⟩
  .obtain⟨o,_,_,_,e,ex,_⟩:=I.AY p _ hk;refine⟨⟨o,e,ex.1⟩,λa b=>?_⟩;cases b;exact⟨o,e,ex.2.1⟩
  .obtain⟨_,A5,_,⟨o,e,c,_⟩,g⟩:=I.AY p _ hk;refine⟨⟨o,e,c⟩,λa b=>?_⟩;cases b;exact⟨o,e,g o e⟩
 |_=>exact False.elim ty
def Xl(K:ZHa)(T:String)(r:V->List V->Hp->VK->Prop)(to:TE):TE:=λO H Q=>to O H λx H1=>Wv K T x H1/\r x [] H1 Q
def Fy(K:ZHa)(T:String)(r:V->List V->Hp->VK->Prop)(to:TE)(t:TA):TE:=λO H Q=>to O H λx H1=>Wv K T x H1/\t O H1 λxs H2=>r x xs H2 Q
variable{o e:Expr}{es:List Expr}{to:TE}{t:TA}{name:Str}{apos D9:Pos}{id:String}{r:V->List V->Hp->VK->Prop}
end
def Ph(X:Cx)(id:String)(r:V->List V->Hp->VK->Prop):Prop:=
 ∀(ZB:ZHb)(s:Shared)(O:St)(H:Hp)(x:V)(xs:List V)(v:Value)(us:List Value)(Q:VK),Inv X ZB O H s->RelV x v->Vals xs us->r x xs H Q->
  wpAny (model X.prog X.w) X.A (call (.builtin id) (v::us)) (EP X ZB O Q) X.xe s
theorem Vals.one:∀{x:V}{us:List Value},Vals [x] us->∃u,us=[u]/\RelV x u:=λr=>vals1 r
theorem Vals.two:∀{x y:V}{us:List Value},Vals [x,y] us->∃u v,us=[u,v]/\RelV x u/\RelV y v:=λr=>vals2 r
theorem Vals.zero:∀{us:List Value},Vals [] us->us=[]
 |_,.nil=>rfl
theorem Vals.eraseIdx:∀{xs:List V}{us:List Value}(i:Nat),Vals xs us->Vals (xs.eraseIdx i) (us.eraseIdx i)
 |_,_,_,.nil=>.nil
 |_,_,0,.cons _ t=>t
 |_,_,i+1,.cons r t=>.cons r (Vals.eraseIdx i t)
theorem cw{α:Type}:∀(l:List α)(i:Nat),(l.eraseIdx i).length<=l.length
 | [],_=>As _
 |_::_,0=>O0 _
 |_::r,i+1=>Nat.succ_le_succ (cw r i)
section
variable{l b:Addr}{zs:List V}
theorem Inv.UZ{f:Array Value->Array Value}(I:Inv X ZB O H s)(c:H l=some (.lst xs))
  (e:s.heap.get? l=some { cls:=.type "list", data:=.seq A5.toArray n }) (hf:f A5.toArray=its'.toArray) (hv:Vals ys its') (hz:ys.length<=sizeLine) :
  Inv X ZB O (upd H l (.lst ys)) { s with heap:=s.heap.update l (Obj.mapSeq f),toks:=t' }:=by
 have q:=PySem.IsL.update e f;rw[hf]at q;refine I.write (x:=l) (e:=l) (by rw[c];exact trivial) (.inl rfl) (λd u b a=>(Jg s.heap (Obj.mapSeq f) (CC b)).trans a) ⟨_,q⟩ ?_;exact⟨hz,its',_,hv,q⟩
theorem Inv.jA(I:Inv X ZB O H s)(b:Vals ys A5)(a:ys.length<=sizeLine):
  Inv X ZB O (upd H s.heap.objs.size (.lst ys)) { s with heap:=s.heap.push { cls:=.type "list", data:=.seq A5.toArray },toks:=t' }:=
 I.laid (λ_ _ q=>CG _ q) (As _) ⟨a,A5,0,b,Co _ rfl⟩
theorem Inv.fresh(I:Inv X ZB O H s):H s.heap.objs.size=none:=I.AY.fresh (As _)
theorem Inv.Md(I:Inv X ZB O H s)(a:H l=some (.lst xs)):xs.length<=sizeLine/\∃(A5:List Value)(n:Nat),Vals xs A5/\xs.length=A5.length/\s.heap.get? l=some { cls:=.type "list", data:=.seq A5.toArray n }:=by
 obtain⟨z,A5,n,r,e⟩:=I.AY l _ a;exact⟨z,A5,n,r,r.length,e⟩
def Tb:V->List V->Hp->VK->Prop:=λx vs H Q=>∃l xs y,x=.ref l/\vs=[y]/\H l=some (.lst xs)/\xs.length<sizeLine/\Q .AE (upd H l (.lst (xs++[y])))
theorem mh:Ph X "list.append" Tb:=by
 intro ZB s O H x vs v us Q I b c h;obtain⟨l,xs,y,rfl,rfl,a,f,q⟩:=h;cases b;obtain⟨u,rfl,d⟩:=c.one;obtain⟨z,A5,n,r,g,e⟩:=I.Md a;refine x8 F.slot_list_append ⟨_,e,rfl⟩ F.entry_list_append (F.args_list_append_2 _ _) (PySem.list_append l A5.toArray n u (by rw[Cq];omega)) ⟨e,?_⟩;refine⟨.AE,_,I.UZ (its':=A5++[u]) a e (by simp) (r.append (.cons d .nil)) ?_,rfl,q⟩;rw[Bt,Ij];omega
def WN:V->List V->Hp->VK->Prop:=λx vs H Q=>∃l xs i k y,x=.ref l/\vs=[.int i]/\H l=some (.lst xs)/\-(2 ^ 63)<=i/\i<2 ^ 63/\seqIndex? i xs.length=some k/\xs[k]?=some y/\Q y (upd H l (.lst (xs.eraseIdx k)))
theorem ZER:Ph X "list.pop" WN:=by
 intro ZB s O H x vs v us Q I b c h;obtain⟨l,xs,i,k,y,rfl,rfl,a,h1,h2,hk,f,q⟩:=h;cases b;obtain⟨u,rfl,d⟩:=c.one;obtain⟨t,rfl⟩:=d;obtain⟨z,A5,n,r,g,e⟩:=I.Md a;obtain⟨w,hw,GD⟩:=r.get f;refine x8 F.slot_list_pop ⟨_,e,rfl⟩ F.entry_list_pop (F.args_list_pop_2 _ _)
  (MeetsSeq.list_pop_at l A5.toArray n i t k w (fitsIndex_both h1 h2) (by rw[Cq,<- g];exact hk) (by rw[<- nA];exact hw) (by rw[Cq];omega)) ⟨e,?_⟩
 refine⟨y,_,I.UZ (its':=A5.eraseIdx k) a e ?_ (r.eraseIdx k) ?_,GD,q⟩
 .show A5.toArray.eraseIdxIfInBounds k=(A5.eraseIdx k).toArray;rw[List.eraseIdxIfInBounds_toArray]
 .have:=cw xs k;omega
def Yq:V->List V->Hp->VK->Prop:=λx vs H Q=>∃l xs,x=.ref l/\vs=[]/\H l=some (.lst xs)/\Q .AE (upd H l (.lst []))
theorem vw:Ph X "list.clear" Yq:=by
 intro ZB s O H x vs v us Q I b c h;obtain⟨l,xs,rfl,rfl,a,q⟩:=h;cases b;have d:=c.zero;subst d;obtain⟨z,A5,n,r,f,e⟩:=I.Md a;refine x8 F.slot_list_clear ⟨_,e,rfl⟩ F.entry_list_clear (F.args_list_clear_1 _) (AutoSeq1.list_clear_list_0 l A5.toArray n (by rw[Cq];omega)) ⟨e,?_⟩;exact⟨.AE,_,I.UZ (its':=[]) (ys:=[]) a e rfl .nil (Cg _),rfl,q⟩
def mZ:R2:=λx y H Q=>∃l b xs zs,x=.ref l/\y=.ref b/\H l=some (.lst xs)/\H b=some (.lst zs)/\xs.length+zs.length<=sizeLine/\∀p,H p=none->Q (.ref p) (upd H p (.lst (xs++zs)))
theorem W5:BU X (binaryOp .Add) mZ:=by
 intro ZB s O H x y v u Q I c a h;obtain⟨l,b,xs,zs,rfl,rfl,f,g,m,q⟩:=h;cases c;cases a;obtain⟨z,A5,n,r,o,e⟩:=I.Md f;obtain⟨j,Bq,k,d,EH,i⟩:=I.Md g;refine PySem.P.add_list e i ?_ (by rw[Cq,Cq];omega);have ea:A5.toArray++Bq.toArray=(A5++Bq).toArray:=by simp
 rw[ea];exact⟨.ref _,_,I.jA (t':=s.toks) (r.append d) (by rw[Bt];omega),rfl,q _ I.fresh⟩
variable{prog:Program}{w:World}{E:Value->Shared->Prop}
set_option maxRecDepth 100000 in
end
end L2
namespace ic
open PySem.W PySem.Calls
variable{h:Heap}{l:OpenLaw}{n:Nat}{prog q:Program}
theorem ue{P:Params}:∀(ns:List Int)(vs:List Value),WellAll P h vs (ns.map WData.int)->IntsAre vs ns:=by
 intro ns
 induction ns with
 |nil=>
  intro vs w;rw[GY]at w;cases w;exact .nil
 |cons n ns c=>
  intro vs w;rw[Ae]at w;cases w with
  |cons a b=>
   cases a;exact .cons _ _ (c _ b)
theorem yo(m:l.most=some n){P:Params}{args:List WData}{vals:List Value}
  (K0:l.row.toRowW.claim.pre args=true) (Vq:WellAll P h vals args) :
  ∃a vs ns,vals=[Value.ref a]/\args=[WData.list (ns.map WData.int)]/\h.get? a=some { cls:=.type "list", data:=.seq vs.toArray }/\IntsAre vs ns/\ns.length<=n:=by
 have g:WShape.hasAll [] args [.list .int]=true:=(pre_splitW K0).1;have f:l.pre.holds [] { args:=args }=true:=(pre_splitW K0).2;obtain⟨d,r,rfl,h1,h2⟩:=hasAllW_cons g;obtain rfl:=hasAllW_nil h2;obtain⟨xs,rfl,o⟩:=hasW_list h1;obtain⟨ns,rfl⟩:=items_int o;have b:ns.length<=n:=by
  unfold OpenLaw.pre at f;have e:(WTm.not (.lt (.lit (.int (n:Int))) (.len (.arg 0)))).holds [] { args:=[.list (ns.map .int)] }=true:=by
   have e:=(holds_andW f).1;rw[m]at e;exact e
  have c:=condW_of e (w_not (w_lt w_lit (w_len_list (w_arg rfl))));rw[AD]at c;refine ni λq=>?_;have k:(n:Int)<((ns.length:Nat):Int):=by omega
  first
   | (rw[pf k]at c;exact absurd c (by decide))
   | (simp at c;omega)
 cases Vq with
 |cons j i=>
  cases i;cases j with
  |list ho K7=>exact⟨_,_,ns,rfl,rfl,ho,ue ns _ K7,b⟩
theorem ZEf(l:OpenLaw)(args:List WData):l.row.toRowW.claim.post args (.bool true) args=true:=
 postW_of (r:=l.row.toRowW) (X:=(true == true))
  (show WShape.has [] (.bool true) .bool=true by first|rfl|decide|simp[WShape.has,WShape.arms,WShape.armsAll])
  (show(WTm.eq .res (.lit (.bool true))).value [] { args:=args,res:=some (.bool true),after:=args }=some (.bool (true == true))from w_eq_bool (w_res rfl) w_lit) rfl
theorem uV{loose:List Str}{XP:(ZHc)->Heap->Prop}{YP:World->Heap->Prop}{d:DefRec}
  (s:l.most=some n) (Ol:d.params.defaults=[])
  (call:∀(w:World)(s₀ b:Shared)(mg j:ZHc)(h:Addr)(o:Obj)(i cd e:Value)(a:Addr)(vs:List Value)(ns:List Int),
   Ground q loose [] XP w s₀ mg j b.heap->YP w b.heap->
   b.heap.get? h=some o->o.data=.func (docDef d.name d.params d.body d.scope i cd e)->b.heap.CodeRec cd d.name->mg d.name=some (.ref h)->
   b.heap.get? a=some { cls:=.type "list", data:=.seq vs.toArray }->IntsAre vs ns->ns.length<=n->b.gens=#[]->
   codeAny (model l.prog w) callerA (.call (.ref h) ⟨[.ref a],[]⟩) (λr s'=>r=.ok (.ret (.bool true))/\OldK b.heap s'.heap/\s'.os=b.os/\AllBare s'.gens) b) :
  WalkO q loose XP YP l.row.toRowW d [] (λf vs=>PySem.call f vs):=by
 intro w s₀ b mg j G Y h o i cd e z kV ho hd Hn k PM v args vals as K0 ZHX m Vq u;obtain rfl:z=.none:=Dflts.none k Ol;obtain rfl:kV=.none:=Dflts.noKw k;obtain⟨a,vs,ns,rfl,rfl,Vd,c,g⟩:=yo s K0 Vq;refine enter_call (ZA4 (call w s₀ b mg j h o i cd e a vs ns G Y ho (fd_plain hd) Hn PM Vd c g v) λr s' p=>?_);obtain⟨rfl,h2,y,x⟩:=p;exact⟨.inl ⟨.bool true,.bool true,[],rfl,λ_=>rfl,.bool true,ZEf l _,λ_=>⟨List.Pairwise.nil,λ_ t=>(nomatch t)⟩⟩,h2,y,x⟩
end ic
namespace L2
variable{w:World}{mg:ZHc}{fd:FuncData}{qual x:Str}{sp:Sp}{loose ps:List Str}{X:Cx}{f:Addr}{A B:Prop}
theorem bU:∀{vs:List Value}{ns:List Int},IntsAre vs ns->Vals (ns.map V.int) vs
 |_,_,.nil=>.nil
 |_,_,.cons n t h=>.cons ⟨t,rfl⟩ (bU h)
def Vi(H:Hp):Prop:=∀b,H b=none∨∃o xs,H b=some (.IB o (.lst xs))
theorem wK{P:Program}{K:ZHa}{t:ZHc}{CX:Gx}{k:Nat}{A a:Addr}{c:Shared}{vs:List Value}{ns:List Int}
  (KX:K.In c.heap) (Ml:c.heap.Ns mainGlobals mg) (f:c.heap.Ns builtinsNs t) (y:∀x:Str,x ≠"__name__" -> t x=bootBuiltins x) (Q:c.heap.NoLimit) (R:c.gens=#[])
  (l:c.heap.get? a=some { cls:=.type "list", data:=.seq vs.toArray }) (hi:IntsAre vs ns) (hl:ns.length<=sizeLine) (hr:Bx k callerA)
  (F:∀ZS:Heap,K.In ZS->ZS.Ns mainGlobals mg->Ds P w K mg ZS CX k A fd [x] sp) (tP:∀(s:Shared)(u:Value),BindsTo s fd ⟨[u],[]⟩ [(x,u)])
  (HP:∀H:Hp,Vi H->AW K H a (ns.map V.int)->sp [.ref a] H (λv _=>v=.bl true) λ_ _ _=>False)
  (Vu:∀H e s',CX [] H c (λ_ _ _=>False) e s'->False) :
  codeAny (model P w) callerA (.call (.ref A) ⟨[.ref a],[]⟩) (λr s'=>r=.ok (.ret (.bool true))/\OldK c.heap s'.heap/\s'.os=c.os/\AllBare s'.gens) c:=by
 have C:=bU hi;have M:=hi.length
 -- from an abstract heap in ZH3 nothing but HF cP may be tracked
 have g:∀H:Hp,Vi H->AW K H a (ns.map V.int)->CI P w H c.heap->(∀b,H b≠none->b=a)->(H a≠none->K.lookup a=none)->
   codeAny (model P w) callerA (.call (.ref A) ⟨[.ref a],[]⟩) (λr s'=>r=.ok (.ret (.bool true))/\OldK c.heap s'.heap/\s'.os=c.os/\AllBare s'.gens) c:=by
  intro H D S AY E U;have J:∀{b:Addr}{o:Obj},c.heap.get? b=some o->H b=none->(J2 c.heap H).get? b=some o:=λe n=>tj e n;have Y:∀{b:Addr}{o:Obj}{es:Array DictEntry}{j:Nat},c.heap.get? b=some o->o.data=.dict es j->H b=none:=λ{b o es j}e d=>by
   cases q:H b with
   |none=>rfl
   |some u=>
    have B:b=a:=E b (by rw[q];simp);subst B;rw[l]at e;cases e;have d':Data.seq vs.toArray _=Data.dict es j:=d;cases d'
  have p:∀{b:Addr}{m:ZHc},c.heap.Ns b m->(J2 c.heap H).Ns b m:=λ{b m}AG=>by obtain⟨o,es,j,e,d,r⟩:=AG;exact⟨o,es,j,J e (Y e d),d,r⟩
  have G:K.In (J2 c.heap H):=λb o e=>J (KX b o e) (by
   cases q:H b with
   |none=>rfl
   |some u=>
    have B:b=a:=E b (by rw[q];simp);subst B;rw[U (by rw[q];simp)]at e;cases e)
  have T:Mod K mg (J2 c.heap H):=⟨G,p Ml,⟨t,p f,y⟩,let ⟨mc,h1,h2⟩:=Q;⟨mc,p h1,h2⟩⟩;have e0:M6 P w K mg (J2 c.heap H) callerA [] c H:=⟨rfl,T,λb o e=>zb e,ng (ZDO _ _),trivial,λb f=>absurd (show b∈([]:List Addr)from f) (by simp),AY,.of_eq R⟩;refine ZA4 ((F _ G (p Ml)).run callerA [] c H ⟨[.ref a],[]⟩ [.ref a] [.ref a] _ _ hr e0 (tP c (.ref a)) (.cons rfl .nil) (HP H D S)) λr s' h=>?_;cases r with
  |error e=>exact(Vu H e s' h).elim
  |ok W=>
   cases W with
   |next=>exact False.elim h
   |brk=>exact False.elim h
   |cont=>exact False.elim h
   |ret u=>
    obtain⟨v,H',os,bare,un,ZFz,N,q⟩:=h;have σ:v=.bl true:=q;subst σ;obtain rfl:u=Value.bool true:=N;refine⟨rfl,OldK.of_keep λb o e=>?_,os,bare⟩;cases q:H b with
    |none=>exact un.keep b o e q (by intro z;exact absurd (show b∈([]:List Addr)from z) (by simp)) (by simp)
    |some u=>
     rcases D b with z|⟨ob,xs,z⟩
     .rw[q]at z;cases z
     .have L:=un.Iu b ob _ z;obtain⟨I,_⟩:=AY b _ z;obtain⟨X,_⟩:=ZFz b _ L;rw[e]at I;cases I;exact X
 cases hk:K.lookup a with
 |some o=>
  -- HF cP is one of HF ZH7 own objects
  have e:=KX a o hk;rw[l]at e;cases e;refine g (λ_=>none) (λ_=>.inl rfl) (.inr ⟨_,vs.toArray,_,hk,rfl,rfl,rfl,by rw[Cq,M];exact hl,by simpa using C⟩) (λb u z=>by have i:(none:Option HO)=some u:=z;cases i) (λb z=>absurd rfl z) λz=>absurd rfl z
 |none=>
  refine g (λb=>if b=a then some (.IB { cls:=.type "list", data:=.seq vs.toArray } (.lst (ns.map V.int)))else none) (λb=>?_) (.inl (.inr ⟨{ cls:=.type "list", data:=.seq vs.toArray },pT rfl⟩)) (λb u z=>?_) (λb z=>?_) λ_=>hk
  .by_cases f:b=a
   .exact .inr ⟨_,_,pT f⟩
   .exact .inl (pL f)
  .by_cases f:b=a
   .have i:=(pT f).symm.trans z;cases i;subst f;exact⟨l,by rw[AD];exact hl,vs,_,C,l⟩
   .have i:=(pL f).symm.trans z;cases i
  .by_cases f:b=a
   .exact f
   .exact absurd (pL f) z
theorem vB{l:PySem.W.OpenLaw}{n k:Nat}{q:Program}{XP:(ZHc)->Heap->Prop}{YP:World->Heap->Prop}{d:DefRec}{K:Params->ZHa}{CX:World->Gx}{sp:World->Sp}
  (t:l.most=some n) (FN:n<=sizeLine) (Ol:d.params.defaults=[]) (r:Bx k callerA)
  (A:∀(w:World)(h:Heap),YP w h->(K w.params).In h)
  (F:∀(w:World)(mg:ZHc)(j:Addr)(h:Heap),(K w.params).In h->h.Ns mainGlobals mg->mg d.name=some (.ref j)->
   ∃fd:FuncData,(∀(s:Shared)(u:Value),BindsTo s fd ⟨[u],[]⟩ [(x,u)])/\
    ∀ZS:Heap,(K w.params).In ZS->ZS.Ns mainGlobals mg->Ds l.prog w (K w.params) mg ZS (CX w) k j fd [x] (sp w))
  (HP:∀(w:World)(H:Hp)(a:Addr)(ns:List Int),ns.length<=n->Vi H->AW (K w.params) H a (ns.map V.int)->sp w [.ref a] H (λv _=>v=.bl true) λ_ _ _=>False)
  (Vu:∀(w:World)(H:Hp)(s:Shared)(e:Value)(s':Shared),CX w [] H s (λ_ _ _=>False) e s'->False) :
  PySem.W.WalkO q loose XP YP l.row.toRowW d [] (λf vs=>PySem.call f vs):=by
 refine ic.uV t Ol λw s₀ p mg J j o I cd E a vs ns G Y ho hd Hn PM Vd i c y=>?_;have m:=A w _ Y;obtain⟨fd,z,D⟩:=F w mg j _ m G.T.g PM;exact wK m G.T.g G.T.b G.T.builtins G.T.nolimit y Vd i (Eb c FN) r D z (λH C B=>HP w H a ns c C B) λH e s'=>Vu w H p e s'
noncomputable def Q2(s:Stmt):Arguments:=match s with
 | .FunctionDef _ a _ _ _ _ _ _ _ _=>a
 |_=>{ posonlyargs:=[],args:=[],vararg:=none,kwonlyargs:=[],kw_defaults:=[],kwarg:=none,defaults:=[] }
noncomputable def MF(s:Stmt):List Stmt:=match s with
 | .FunctionDef _ _ b _ _ _ _ _ _ _=>b
 |_=>[]
noncomputable def Aa(s:Stmt):Scope:=match s with
 | .FunctionDef _ _ _ _ _ _ sc _ _ _=>sc
 |_=>{ kind:=.function,names:=[],isGenerator:=false,isCoroutine:=false }
abbrev GU:Gx:=λ_ _ _ _ _ _=>False
abbrev E0:XK:=λ_ _ _=>False
theorem Sa:Passes GU X E0:=λ_ _ _ _ _ _ _ h=>h.elim
structure AM (K:ZHa) (x qual:Str) (st:Stmt) (f:Addr) (fd:FuncData):Prop where
 ex:∃(oc:Value)(od:Option Addr)(kV doc pm:Value)(an:Option Addr)(Ac ct:Value)(Ju:Array (Option Value)),
  fd=PySem.W.fnOf x qual (Q2 st) (MF st) (Aa st) .none kV doc pm an Ac ct/\K.lookup f=some ⟨oc,od,.func fd,Ju⟩/\PySem.W.codeIn K Ac qual=true
 kp:PySem.W.keepIn K (.ref f)=true
section
variable{P:Program}{K:ZHa}{ZS:Heap}
theorem AM.ok{st:Stmt}{N:List Str}{k:Nat}(F:AM K x qual st f fd)(S:B3 N ps (Aa st))(len:∀vs H Q E,sp vs H Q E->vs.length=ps.length)
  (Oj:∀(Ac:Value)(A:Around)(outer:List Env)(s:Shared)(H:Hp)(vs:List V)(Q:VK)(E:XK),Bx k (A.deeper (envOfC qual (Aa st) s.heap.objs.size f Ac))->sp vs H Q E->
   ∃t,Ek (Lx GU P w K mg ZS N qual (Aa st) f Ac A outer s H E).Qb (MF st) t/\t { nx:=λ_ H'=>Q .AE H',rt:=Q } (start N vs) H):Ds P w K mg ZS GU (k+1) f fd ps sp:=by
 obtain⟨g,e,kV,c,d,i,Ac,ct,Ju,rfl,a,Hn⟩:=F.ex;refine ZAG a Hn S len λA outer s H vs Q E b HP=>?_;obtain⟨t,h,q⟩:=Oj Ac A outer s H vs Q E b HP;exact⟨t,h.Qb,q⟩
theorem AM.binds{st:Stmt}(F:AM K x qual st f fd)
  (h:∀(kV a b:Value)(c:Option Addr)(Ac ct:Value)(us:List Value),us.length=ps.length->bindArgs (PySem.W.fnOf x qual (Q2 st) (MF st) (Aa st) .none kV a b c Ac ct) ⟨us,[]⟩=pure (ps.zip us)):Binds K fd ps []:=by
 obtain⟨e,d,kV,a,b,c,Ac,ct,Ju,rfl,g,Hn⟩:=F.ex;exact .all (h kV a b c Ac ct)
theorem ZFf{st:Stmt}{g:Value}{e d:Option Addr}{Ju:Array (Option Value)}{kV a b Ac ct:Value}(l:K.lookup f=some ⟨g,e,.func (PySem.W.fnOf x qual (Q2 st) (MF st) (Aa st) .none kV a b d Ac ct),Ju⟩)
  (c:PySem.W.codeIn K Ac qual=true) (k:PySem.W.keepIn K (.ref f)=true):AM K x qual st f (PySem.W.fnOf x qual (Q2 st) (MF st) (Aa st) .none kV a b d Ac ct):=⟨⟨g,e,kV,a,b,d,Ac,ct,Ju,rfl,l,c⟩,k⟩
end
theorem EO{A:Around}{k:Nat}(a:Bx k A):A.units+1<cLine:=Ko (Nat.add_le_add_left (by decide:1<=64) _) a.units
theorem XF(h:B):if false=true then A else B:=by
 rw[pL Dj];exact h
theorem ZAF(h:A):if true=true then A else B:=by
 rw[pT rfl];exact h
theorem BV{c:Prop}[Decidable c](h1:c->A)(h2:¬ c->B):if c then A else B:=by
 by_cases h:c
 .rw[pT h];exact h1 h
 .rw[pL h];exact h2 h
def AU(H H':Hp):Prop:=∀b o,H b=some o->H' b=some o
theorem AU.refl(H:Hp):AU H H:=λ_ _ h=>h
theorem AU.trans{H H1 H2:Hp}(a:AU H H1)(b:AU H1 H2):AU H H2:=λc o h=>b c o (a c o h)
end L2
set_option maxHeartbeats 4000000
namespace L2
variable{α κ:Type}{A7:List (List Key×V)}{o:Option V}{u:Value}{v y:V}{w:World}{H H' H1 H2 H4:Hp}{xs:List (List Key×Addr×Value)}{C a acc b it n:Addr}{h h' h1:Heap}{X Y:Cx}{ZB:ZHb}{ws O:St}{s s2 s4:Shared}{A:Around}{E Q:Value->Shared->Prop}{i j n0 t' tk:Nat}{prog:Program}{env:Env}{c e elt tg value:Expr}{Fs pos px py:Pos}{td te tv:TE}{outer scope:Scope}{cl closure:List (Str×Addr)}{qual x z:Str}{ce:Option Str}{es ifs:List Expr}{R:Result->Shared->Prop}{js:List Nat}{tt:TT}{J:It}{tn:Nat->Heap->Prop}{wi:TI}{CW:It->St->Hp->Addr->VK->Prop}{N:List Str}{ys:List V}{A5:List Value}
section
variable[DecidableEq κ]
noncomputable def EA(A7:List (κ×V))(k:κ):Option V:=(A7.find? λa=>decide (a.1=k)).map (·.2)
def putK(A7:List (κ×V))(k:κ)(v:V):List (κ×V):=
 if(A7.any λa=>decide (a.1=k))=true then A7.map (λa=>if a.1=k then(a.1,v)else a)else A7++[(k,v)]
theorem O5{p:κ×V}{r:List (κ×V)}{k:κ}(e:p.1=k):EA (p::r) k=some p.2:=by simp[EA,Ql,e]
theorem P6{p:κ×V}{r:List (κ×V)}{k:κ}(e:¬ p.1=k):EA (p::r) k=EA r k:=by simp[EA,Ql,e]
theorem Tc(k:κ):∀A7:List (κ×V),(A7.any λa=>decide (a.1=k))=(EA A7 k).isSome
 | []=>rfl
 |p::r=>by
  rw[MR]
  by_cases e:p.1=k
  .simp only[O5 e,pf e,Bool.true_or,ZGr]
  .rw[P6 e,qD e,Bool.false_or];exact Tc k r
theorem Z0(A7:List (κ×V))(k:κ)(v:V):(putK A7 k v).length<=A7.length+1:=by
 unfold putK;split
 .rw[AD];omega
 .rw[Bt,CH,Qn];omega
theorem Mi{A7:List (κ×V)}{k:κ}(v:V)(h:EA A7 k=none):putK A7 k v=A7++[(k,v)]:=by
 unfold putK;rw[Tc,h];exact pL (by decide)
theorem FL.QN{u:Option Value}(r:FL o u):o.isSome=u.isSome:=by
 cases o with
 |none=>cases u with
  |none=>rfl
  |some _=>exact(show False from r).elim
 |some _=>cases u with
  |none=>exact(show False from r).elim
  |some _=>rfl
theorem KV.val{A7:List (κ×V)}{vs:List (κ×Value)}(r:KV A7 vs)(k:κ):FL (EA A7 k) (valueAt vs k):=by
 unfold KV at r
 induction r with
 |nil=>exact True.intro
 |@cons p q ps a h t d=>
  obtain⟨h1,h2⟩:=h
  by_cases e:p.1=k
  .have c:q.1=k:=h1.symm.trans e;have b:valueAt (q::a) k=some q.2:=by simp[valueAt,Ql,c]
   rw[O5 e,b];exact h2
  .have c:¬ q.1=k:=λz=>e (h1.trans z);have b:valueAt (q::a) k=valueAt a k:=by simp[valueAt,Ql,c]
   rw[P6 e,b];exact d
theorem KV.any{A7:List (κ×V)}{vs:List (κ×Value)}(r:KV A7 vs)(k:κ):(A7.any λa=>decide (a.1=k))=vs.any λa=>decide (a.1=k):=by
 unfold KV at r
 induction r with
 |nil=>rfl
 |cons h t b=>rw[MR,MR,b,h.1]
theorem KV.Zo{A7:List (κ×V)}{vs:List (κ×Value)}(r:KV A7 vs)(k:κ)(b:RelV y u):
  KV (A7.map λa=>if a.1=k then(a.1,y)else a) (vs.map λa=>if a.1=k then(a.1,u)else a):=by
 unfold KV at r ⊢
 induction r with
 |nil=>exact .nil
 |@cons p q ps d h t c=>
  rw[Ae,Ae];refine .cons ?_ c;obtain⟨h1,h2⟩:=h
  by_cases e:p.1=k
  .rw[pT e,pT (h1.symm.trans e)];exact⟨h1,b⟩
  .rw[pL e,pL (λz=>e (h1.trans z))];exact⟨h1,h2⟩
theorem KV.put{A7:List (κ×V)}{vs:List (κ×Value)}(r:KV A7 vs)(k:κ)(a:RelV y u):KV (putK A7 k y) (stored vs k u):=by
 unfold putK stored;rw[r.any k]
 by_cases e:(vs.any λb=>decide (b.1=k))=true
 .rw[pT e,pT e];exact r.Zo k a
 .rw[pL e,pL e];exact Paired.snoc r ⟨rfl,a⟩
theorem KV.keys{A7:List (κ×V)}{vs:List (κ×Value)}(r:KV A7 vs):A7.map (·.1)=vs.map (·.1):=by
 unfold KV at r
 induction r with
 |nil=>rfl
 |cons h t a=>rw[Ae,Ae,a,h.1]
theorem KV.length{A7:List (κ×V)}{vs:List (κ×Value)}(r:KV A7 vs):A7.length=vs.length:=nv r
end
theorem MY{P:Program}{k:Key}(r:RelV (kV k) u):(Dk P w).is k u=true:=by
 cases k with
 |inl i=>obtain⟨t,e⟩:=(show ∃t,u=Value.int i t from r);subst e;exact tS P w i t
 |inr x=>obtain⟨t,e⟩:=(show ∃t,u=Value.str x t from r);subst e;exact ZDd P w x t
theorem j6{P:Program}{w:World}:∀{ks:List Key}{us:List Value},Vals (ks.map kV) us->ItemsAre (Dk P w) ks us
 | [],_,r=>by rw[GY]at r;cases r;exact .nil
 |k::ks,_,r=>by
  rw[Ae]at r;cases r with
  |cons h t=>exact .cons (MY h) (j6 t)
abbrev KT(H:Hp):List (List Key×V)->List (List Key×Addr×Value)->Prop:=Paired λp q=>p.1=q.1/\H q.2.1=some (.tup (p.1.map kV))/\RelV p.2 q.2.2
theorem KT.val(r:KT H A7 xs)(k:List Key):FL (EA A7 k) ((atKey xs k).map (·.2)):=by
 induction r with
 |nil=>exact True.intro
 |@cons p q ps a h t d=>
  obtain⟨h1,_,h2⟩:=h
  by_cases e:p.1=k
  .have c:q.1=k:=h1.symm.trans e;have b:atKey (q::a) k=some q.2:=by simp[atKey,Ql,c]
   rw[O5 e,b];exact h2
  .have c:¬ q.1=k:=λz=>e (h1.trans z);have b:atKey (q::a) k=atKey a k:=by simp[atKey,Ql,c]
   rw[P6 e,b];exact d
theorem KT.Zo(r:KT H A7 xs)(k:List Key)(b:RelV y u):
  KT H (A7.map λa=>if a.1=k then(a.1,y)else a) (xs.map (putAt k u)):=by
 induction r with
 |nil=>exact .nil
 |@cons p q ps f h t c=>
  rw[Ae,Ae];refine .cons ?_ c;obtain⟨h1,h2,d⟩:=h;unfold putAt
  by_cases e:p.1=k
  .rw[pT e,pT (h1.symm.trans e)];exact⟨h1,h2,b⟩
  .rw[pL e,pL (λz=>e (h1.trans z))];exact⟨h1,h2,d⟩
theorem KT.put(r:KT H A7 xs)(k:List Key)(d:H b=some (.tup (k.map kV)))(a:RelV y u):
  KT H (putK A7 k y) (storedH xs k b u):=by
 have e:(A7.any λc=>decide (c.1=k))=(atKey xs k).isSome:=by
  rw[Tc,(r.val k).QN,bQ]
 unfold putK storedH;rw[e]
 by_cases q:(atKey xs k).isSome=true
 .rw[pT q,pT q];exact r.Zo k a
 .rw[pL q,pL q];exact Paired.snoc r ⟨rfl,d,a⟩
theorem KT.keeps(r:KT H A7 xs)(a:∀b ys,H b=some (.tup ys)->H' b=some (.tup ys)):KT H' A7 xs:=
 Paired.Zb r λ_ _ z=>⟨z.1,a _ _ z.2.1,z.2.2⟩
section
variable{P:Program}
theorem ie{u:HO}(ok:CI P w H h)(e:Rd H a u):DA P w H h a u:=e.ok ok
theorem NT{A7:List (Key×V)}(ok:CI P w H h)(e:Rd H a (.dK A7)):A7.length<=sizeLine/\(a == sysModules)=false/\∃vs,KV A7 vs/\h.DictOf (Dk P w) a vs:=
 show DA P w H h a (.dK A7)from ie ok e
theorem kN{A7:List (Key×V)}(ok:CI P w H h)(e:H a=some (.dK A7)):A7.length<=sizeLine/\(a == sysModules)=false/\∃vs,KV A7 vs/\h.DictOf (Dk P w) a vs:=NT ok (.inl e)
theorem Ox{ks:List Key}(ok:CI P w H h)(e:H a=some (.tup (ks.map kV))):(tupleKind (Dk P w)).is h ks a:=by
 obtain⟨_,A5,r,⟨o,h1,h2,n,b⟩,_⟩:=(show DA P w H h a (.tup (ks.map kV))from ok a _ e);exact⟨o,A5.toArray,n,h1,h2,b,by simpa using j6 r⟩
theorem Oy(ok:CI P w H h)(e:Rd H a (.dT A7)):A7.length<=sizeLine/\(a == sysModules)=false/\
  ∃xs,KT H A7 xs/\h.DictOfH (tupleKind (Dk P w)) a xs:=by
 obtain⟨z,y,xs,r,o,es,i,h1,h2,g,f,d⟩:=(show DA P w H h a (.dT A7)from ie ok e);refine⟨z,y,xs,r,o,es,i,h1,h2,g,f,λx hx=>?_,d⟩;have all:∀{l:List (List Key×V)}{m:List (List Key×Addr×Value)},KT H l m->∀x∈m,(tupleKind (Dk P w)).is h x.1 x.2.1:=by
  intro l m q
  induction q with
  |nil=>intro x hx;exact nomatch hx
  |@cons p q ps j b t c=>
   intro x hx;rcases List.mem_cons.mp hx with e|hx
   .subst e;exact Ox ok (by rw[<- b.1];exact b.2.1)
   .exact c x hx
 exact all r x hx
theorem vN(ok:CI P w H h)(e:H a=some (.dT A7)):A7.length<=sizeLine/\(a == sysModules)=false/\
  ∃xs,KT H A7 xs/\h.DictOfH (tupleKind (Dk P w)) a xs:=Oy ok (.inl e)
end
def Ee(H:Hp)(a:Addr)(y:V)(r:Option V):Prop:=
 (∃A7 k,Rd H a (.dK A7)/\y=kV k/\r=EA A7 k)∨∃A7 k b,Rd H a (.dT A7)/\y=.ref b/\H b=some (.tup (k.map kV))/\r=EA A7 k
def Kc(H:Hp)(a:Addr)(y v:V)(H':Hp):Prop:=
 (∃A7 k,H a=some (.dK A7)/\y=kV k/\A7.length<sizeLine/\H'=upd H a (.dK (putK A7 k v)))∨
 ∃A7 k b,H a=some (.dT A7)/\y=.ref b/\H b=some (.tup (k.map kV))/\A7.length<sizeLine/\H'=upd H a (.dT (putK A7 k v))
theorem Ee.k{A7:List (Key×V)}{k:Key}(e:H a=some (.dK A7)):Ee H a (kV k) (EA A7 k):=.inl ⟨A7,k,.inl e,rfl,rfl⟩
theorem Ee.t{k:List Key}(e:H a=some (.dT A7))(c:H b=some (.tup (k.map kV))):Ee H a (.ref b) (EA A7 k):=.inr ⟨A7,k,b,.inl e,rfl,c,rfl⟩
theorem Kc.k{A7:List (Key×V)}{k:Key}(e:H a=some (.dK A7))(b:A7.length<sizeLine):Kc H a (kV k) v (upd H a (.dK (putK A7 k v))):=.inl ⟨A7,k,e,rfl,b,rfl⟩
theorem Kc.t{k:List Key}(e:H a=some (.dT A7))(d:H b=some (.tup (k.map kV)))(c:A7.length<sizeLine):
  Kc H a (.ref b) v (upd H a (.dT (putK A7 k v))):=.inr ⟨A7,k,b,e,rfl,d,c,rfl⟩
section
variable{r:Value}
theorem Inv.big(I:Inv X ZB O H s):sysModules<s.heap.objs.size:=by
 have h:mainGlobals<s.heap.objs.size:=(I.mod.glob.keeps I.bk).lt;exact Nat.lt_trans (by decide) h
theorem se(i:A.units+1<cLine)(I:Inv X ZB O H s)(g:Ee H a y (some v))(f:RelV y u)(h:∀c s',Inv X ZB O H s'->RelV v c->Q c s'):
  wpAny (model X.prog X.w) A (getItem (.ref a) u) Q E s:=by
 rcases g with⟨A7,k,e,d,l⟩|⟨A7,k,b,e,d,m,l⟩
 .subst d;obtain⟨z,hd,vs,rel,dd⟩:=NT I.AY e;obtain⟨c,hw,GD⟩:=FL.some_of (v:=v) (o:=valueAt vs k) (by rw[l];exact rel.val k);exact wpAny_getItem_of (MY f) dd.mapOf hw (h c _ (I.tok _) GD)
 .subst d;cases(show u=Value.ref b from f);obtain⟨z,hd,xs,rel,dd⟩:=Oy I.AY e;obtain⟨c,hw,GD⟩:=FL.some_of (v:=v) (o:=(atKey xs k).map (·.2)) (by rw[l];exact rel.val k)
  obtain⟨p,j,T8⟩:=Option.map_eq_some_iff.mp hw;refine wpAny_getItem_heap (xC i) (Ox I.AY m) dd j ?_;rw[T8];exact h c _ (I.tok _) GD
theorem ZCx(f:A.units+1<cLine)(I:Inv X ZB O H s)(g:Ee H a y o)(d:RelV y u)(h:∀s',Inv X ZB O H s'->Q (.bool o.isSome) s'):
  wpAny (model X.prog X.w) A (compareOp .In u (.ref a)) Q E s:=by
 rcases g with⟨A7,k,e,c,l⟩|⟨A7,k,b,e,c,i,l⟩
 .subst c;obtain⟨z,hd,vs,rel,dd⟩:=NT I.AY e;refine wpAny_in_of (MY d) hd dd.mapOf ?_;rw[<- (rel.val k).QN,<- l];exact h _ (I.tok _)
 .subst c;cases(show u=Value.ref b from d);obtain⟨z,hd,xs,rel,dd⟩:=Oy I.AY e;refine wpAny_in_heap (xC f) (Ox I.AY i) hd dd ?_;have q:=(rel.val k).QN;rw[bQ]at q;rw[<- q,<- l];exact h _ (I.tok _)
theorem ZA9(f:A.units+1<cLine)(I:Inv X ZB O H s)(g:Ee H a y o)(d:RelV y u)(h:∀s',Inv X ZB O H s'->Q (.bool (!o.isSome)) s'):
  wpAny (model X.prog X.w) A (compareOp .NotIn u (.ref a)) Q E s:=by
 rcases g with⟨A7,k,e,c,l⟩|⟨A7,k,b,e,c,i,l⟩
 .subst c;obtain⟨z,hd,vs,rel,dd⟩:=NT I.AY e;refine wpAny_notIn_of (MY d) hd dd.mapOf ?_;rw[<- (rel.val k).QN,<- l];exact h _ (I.tok _)
 .subst c;cases(show u=Value.ref b from d);obtain⟨z,hd,xs,rel,dd⟩:=Oy I.AY e;refine wpAny_notIn_heap (xC f) (Ox I.AY i) hd dd ?_;have q:=(rel.val k).QN;rw[bQ]at q;rw[<- q,<- l];exact h _ (I.tok _)
theorem Yb{ob:HO}(I:Inv X ZB O H s)(c:O4 (H a))(d:Heap.SameBut a s.heap h')(f:∃q,h'.get? a=some q)(new:DA X.prog X.w (upd H a ob) h' a ob):
  Inv X ZB O (upd H a ob) { s with heap:=h',toks:=t' }:=
 I.write (x:=a) (e:=a) c (.inl rfl) (λb q g z=>(d.2 b g).trans z) f new
theorem kj{P:Program}{A7:List (Key×V)}{vs:List (Key×Value)}(z:A7.length<=sizeLine)(hd:(a == sysModules)=false)(rel:KV A7 vs)(dd:h'.DictOf (Dk P w) a vs):
  DA P w H' h' a (.dK A7):=⟨z,hd,vs,rel,dd⟩
theorem qx{Q:Unit->Shared->Prop}(B:A.units+1<cLine)(I:Inv X ZB O H s)(g:Kc H a y v H')(o:RelV y u)(p:RelV v r)(h:∀s',Inv X ZB O H' s'->Q () s'):
  wpAny (model X.prog X.w) A (setItem (.ref a) u r) Q E s:=by
 rcases g with⟨A7,k,e,m,l,n⟩|⟨A7,k,b,e,m,x,l,n⟩
 .subst m n;obtain⟨z,hd,vs,rel,dd⟩:=kN I.AY e;have f:vs.length<=sizeLine:=by rw[<- rel.length];exact z
  have j:(putK A7 k v).length<=sizeLine:=by have:=Z0 A7 k v;omega
  refine wpAny_setItem_pairs (hsz:=f) (MY o) dd λh' Lj i=>h _ ?_;have C:∃q,h'.get? a=some q:=let ⟨q,_,_,d,_⟩:=Lj;⟨q,d⟩;exact Yb I (by rw[e];exact True.intro) i C (kj j hd (rel.put k p) Lj)
 .subst m n;cases(show u=Value.ref b from o);obtain⟨z,hd,xs,rel,dd⟩:=vN I.AY e;have f:xs.length<=sizeLine:=by rw[<- nv rel];exact z
  have j:(putK A7 k v).length<=sizeLine:=by have:=Z0 A7 k v;omega
  refine wpAny_setItem_heap (hsz:=f) (xC B) (Ox I.AY x) dd λh' Lj i=>h _ ?_;obtain⟨q,es,J,d,h2,G,F,_,D⟩:=Lj;refine Yb I (by rw[e];exact True.intro) i ⟨q,d⟩ ⟨j,hd,_,(rel.put k x p).keeps λc ys t=>?_,q,es,J,d,h2,G,F,D⟩;rw[An (ZDm t e (λz=>nomatch z))];exact t
variable{A7:List (Key×V)}{k:Key}
end
def Z1(i:Expr):Prop:=∀a b,subscripted i false a b=operate [a,b] (getItem a b)
theorem sD{a:Expr}{T id:String}
  (l:typeLookup (.type T) "__getitem__"=pure (some (.builtin id))) (k:Z1 a)
  (h:wpAny (model prog w) A (eval value env) (λo f=>wpAny (model prog w) A (eval a env) (λi c=>c.TypeIs o T/\wpAny (model prog w) A (getItem o i) Q E c) E f) E s) :
  wpAny (model prog w) A (eval (.Subscript value a pos) env) Q E s:=by
 refine Subscript_ (qr h (λo f j=>qr j (λi c d=>?_) λ_ _ x=>x) λ_ _ x=>x);obtain⟨hT,d⟩:=d;unfold subscriptTail;refine p5 ?_;rw[getitemInPython_of_ne hT.not_modules];refine p5 (wpAny_specialOf hT l ?_);have b:wpAny (model prog w) A (subscripted a false o i) (λr e=>wpAny (model prog w) A (letTemporaryGo value o r >>= λ_=>pure r) Q E e) E c:=by
  rw[k o i];exact wpAny_operating (qr d (λr e g=>p5 (wpAny_letTemporaryGo (qC g))) λ_ _ x=>x)
 first
  |exact qC (p5 b)
  |exact p5 (qC (p5 b))
  |exact p5 b
theorem ZFU(I:Inv X ZB O H s)(g:Ee H a y o):s.TypeIs (.ref a) "dict" := by
 rcases g with⟨A7,k,e,_,_⟩|⟨A7,k,b,e,_,_,_⟩
 .obtain⟨_,_,vs,_,dd⟩:=NT I.AY e;exact dd.typeIs
 .obtain⟨_,_,xs,_,dd⟩:=Oy I.AY e;exact dd.typeIs
def S6(td ty:TE):TE:=λO H Q=>td O H λx H1=>ty O H1 λy H2=>∃a v,x=.ref a/\Ee H2 a y (some v)/\Q v H2
def Sd(ty td:TE):TE:=λO H Q=>ty O H λy H1=>td O H1 λx H2=>∃a o,x=.ref a/\Ee H2 a y o/\Q (.bl o.isSome) H2
def Tn(ty td:TE):TE:=λO H Q=>ty O H λy H1=>td O H1 λx H2=>∃a o,x=.ref a/\Ee H2 a y o/\Q (.bl (!o.isSome)) H2
def UJ(td ty tv:TE):TS:=λD O H=>tv O H λv H1=>td O H1 λx H2=>ty O H2 λy H3=>∃a H4,x=.ref a/\Kc H3 a y v H4/\D.nx O H4
section
variable{o i:Expr}{pos' JN:Pos}{ty:TE}
theorem oX(k:X.A.units+1<cLine)(hi:PE X i ty)(ho:PE X o td):PC X .In i o (Sd ty td):=by
 intro ZB s O H Q I h;refine AO (hi ZB s O H _ I h) λm b⟨y,H1,I1,c,f⟩=>AO (ho ZB b O H1 _ I1 f) λu s2⟨x,H2,I2,d,a,j,ex,g,e⟩=>?_;subst ex;obtain rfl:u=Value.ref a:=d;exact ZCx k I2 g c λl I3=>⟨.bl j.isSome,H2,I3,rfl,e⟩
theorem ZFk(k:X.A.units+1<cLine)(hi:PE X i ty)(ho:PE X o td):PC X .NotIn i o (Tn ty td):=by
 intro ZB s O H Q I h;refine AO (hi ZB s O H _ I h) λm b⟨y,H1,I1,c,f⟩=>AO (ho ZB b O H1 _ I1 f) λu s2⟨x,H2,I2,d,a,j,ex,g,e⟩=>?_;subst ex;obtain rfl:u=Value.ref a:=d;exact ZA9 k I2 g c λl I3=>⟨.bl (!j.isSome),H2,I3,rfl,e⟩
end
theorem iK{P:Program}(h:Heap)(a:sysModules<h.objs.size):DA P w H (h.push { cls:=.type "dict", data:=.dict #[] }) h.objs.size (.dK []):=
 ⟨Cg _,beq_eq_false_iff_ne.mpr (CC (D6 a)),[],.nil,Heap.DictOf.new h⟩
theorem ZDY{P:Program}(h:Heap)(a:sysModules<h.objs.size):DA P w H (h.push { cls:=.type "dict", data:=.dict #[] }) h.objs.size (.dT []):=
 ⟨Cg _,beq_eq_false_iff_ne.mpr (CC (D6 a)),[],.nil,_,#[],0,Co _ rfl,⟨rfl,rfl,rfl⟩,rfl,rfl,HA⟩
def Ww:TE:=λ_ H Q=>∀p,H p=none->Q (.ref p) (upd H p (.dK []))
def ZC:TE:=λ_ H Q=>∀p,H p=none->Q (.ref p) (upd H p (.dT []))
def Xt:List (TE×TE)->St->Hp->(List (V×V)->Hp->Prop)->Prop
 | [],_,H,Q=>Q [] H
 | (tk,tv)::r,O,H,Q=>tk O H λx H1=>tv O H1 λy H2=>Xt r O H2 λps H3=>Q ((x,y)::ps) H3
abbrev VV:List (V×V)->List (Value×Value)->Prop:=Paired λp q=>RelV p.1 q.1/\RelV p.2 q.2
def Jx(X:Cx)(pos:Pos)(keys:List (Option Expr))(values:List Expr)(FX:List (TE×TE)):Prop:=
 ∀(ZB:ZHb)(s:Shared)(O:St)(H:Hp)(Q:List (V×V)->Hp->Prop),Inv X ZB O H s->Xt FX O H Q->
  wpAny (model X.prog X.w) X.A (evalPairs (pairTrees keys values X.env pos)) (λvs s'=>∃ps H',Inv X ZB O H' s'/\VV ps vs/\Q ps H') X.xe s
theorem ZBt:Jx X pos [] [] []:=λZB s O H Q I h=>pairTrees_nil_walk ⟨[],H,I,.nil,h⟩
theorem yh{k v:Expr}{ks:List (Option Expr)}{vs:List Expr}{tk:TE}{FX:List (TE×TE)}(hk:PE X k tk)(g:PE X v tv)(i:Jx X pos ks vs FX):
  Jx X pos (some k::ks) (v::vs) ((tk,tv)::FX):=λZB s O H Q I h=>
 pairTrees_cons_walk (AO (hk ZB s O H _ I h) λu a⟨x,H1,I1,c,f⟩=>AO (g ZB a O H1 _ I1 f) λj s2⟨y,H2,I2,b,e⟩=>
  AO (i ZB s2 O H2 _ I2 e) λws l⟨ps,H3,I3,rel,d⟩=>⟨(x,y)::ps,H3,I3,.cons ⟨c,b⟩ rel,d⟩)
def KP(A7 more:List (Key×V)):List (Key×V):=more.foldl (λacc a=>putK acc a.1 a.2) A7
theorem KV.merge:∀{more:List (Key×V)}{a:List (Key×Value)}{A7:List (Key×V)}{vs:List (Key×Value)},KV more a->KV A7 vs->KV (KP A7 more) (merged vs a):=by
 intro more a A7 vs r;unfold KV at r
 induction r generalizing A7 vs with
 |nil=>intro q;exact q
 |@cons p q ps d h t c=>
  intro b;have e:KV (putK A7 p.1 p.2) (stored vs q.1 q.2):=by
   have:=b.put p.1 h.2;rw[<- h.1];exact this
  exact c e
theorem iF:∀(more A7:List (Key×V)),(KP A7 more).length<=A7.length+more.length
 | [],A7=>by show A7.length<=A7.length+0;omega
 |p::r,A7=>by
  have h1:=iF r (putK A7 p.1 p.2);have h2:=Z0 A7 p.1 p.2;show(KP (putK A7 p.1 p.2) r).length<=_;rw[CH];omega
theorem jO{P:Program}{w:World}:∀{A7:List (Key×V)}{ws:List (Value×Value)},VV (A7.map λe=>(kV e.1,e.2)) ws->∃d,Carries (Dk P w) ws d/\KV A7 d
 | [],_,r=>by rw[GY]at r;cases r;exact⟨[],True.intro,.nil⟩
 |p::A7,_,r=>by
  rw[Ae]at r;cases r with
  |@cons a b as bs h t=>
   obtain⟨d,c,q⟩:=jO (P:=P) (w:=w) t;obtain⟨g,f⟩:=b;exact⟨(p.1,f)::d,⟨MY h.1,rfl,c⟩,.cons ⟨rfl,h.2⟩ q⟩
def aQ(FX:List (TE×TE)):TE:=λO H Q=>∀p,H p=none->Xt FX O (upd H p (.dK [])) λps H2=>H2 p=some (.dK [])/\∃A7:List (Key×V),ps=A7.map (λa=>(kV a.1,a.2))/\A7.length<=15/\Q (.ref p) (upd H2 p (.dK (KP [] A7)))
theorem ZAe{β:Type}{l:List α}{f:α->β->Sem (ForInStep β)}(g:β->α->β)(h:∀x∈l,∀c,f x c=pure (.yield (g c x))):∀c,forIn l c f=pure (l.foldl g c):=by
 induction l with
 |nil=>intro c;rfl
 |cons x l a=>
  intro c;rw[bI,h x Es,pure_bind];exact a (λy b=>h y (DS _ b)) (g c x)
noncomputable def MH(cells:List (Str×Addr))(cs:List (Str×Addr))(x:Str×NameKind):List (Str×Addr):=
 if x.2=.free then(x.1,(cells.lookup x.1).getD 0)::cs else cs
def Bj(cells:List (Str×Addr))(names:List (Str×NameKind)):List (Str×Addr):=names.foldl (MH cells) []
theorem ZCL(h:∀x∈scope.names,x.2=.free->(env.cells.lookup x.1).isSome=true):closureFor scope env=pure (Bj env.cells scope.names):=by
 simp only[closureFor];rw[ZAe (MH env.cells) (λx hx c=>by
  obtain⟨n,k⟩:=x;unfold MH
  by_cases hk:k=NameKind.free
  .subst hk;have q:=h _ hx rfl;obtain⟨a,e⟩:=Option.isSome_iff_exists.mp q;have b:env.cells.lookup n=some a:=e;have d:cellOf env n=pure a:=by unfold cellOf;rw[b]
   simp[d,b]
  .have:(k == NameKind.free)=false:=by simpa using hk
   simp[this,hk])]
 rfl
theorem cq{cells:List (Str×Addr)}:∀(names:List (Str×NameKind))(acc:List (Str×Addr)),(∀y∈names,y.2=.free->(cells.lookup y.1).isSome=true)->
  (∀x c,acc.lookup x=some c->cells.lookup x=some c)->∀x c,(names.foldl (MH cells) acc).lookup x=some c->cells.lookup x=some c
 | [],acc,_,ha,x,c,e=>ha x c e
 | (n,k)::r,acc,hs,ha,x,c,e=>by
  rw[List.foldl_cons]at e;refine cq r _ (λy d=>hs y (DS _ d)) (λx c e=>?_) x c e;unfold MH at e
  by_cases hk:k=NameKind.free
  .rw[pT hk]at e;have q:=hs _ Es hk;obtain⟨a,q⟩:=Option.isSome_iff_exists.mp q;have b:cells.lookup n=some a:=q;rw[Ht]at e
   by_cases hx:x=n
   .subst hx;simp only[rB,b,Option.getD_some]at e;rw[b,<- e]
   .have f:(x == n)=false:=by simpa using hx
    rw[f]at e;exact ha x c e
  .rw[pL hk]at e;exact ha x c e
theorem Yz{cells:List (Str×Addr)}{x:Str}:∀(names:List (Str×NameKind))(acc:List (Str×Addr)),((acc.lookup x).isSome=true∨(x,NameKind.free)∈names)->
  ((names.foldl (MH cells) acc).lookup x).isSome=true
 | [],acc,h=>by
  rcases h with h|h
  .exact h
  .cases h
 | (n,k)::r,acc,h=>by
  rw[List.foldl_cons];refine Yz r _ ?_;unfold MH;rcases h with h|h
  .refine .inl ?_;split
   .rw[Ht];split
    .rfl
    .exact h
   .exact h
  .rcases List.mem_cons.mp h with e|h
   .cases e;refine .inl ?_;rw[pT rfl,Ht];simp
   .exact .inr h
theorem U6{env:Env}:∀(names:List (Str×NameKind))(x:Str),
  (names.map λ(n,k)=>if(k == NameKind.free && env.scope.kind == .function && env.kindOf n == some .cell)then(n,NameKind.cell)else(n,k)).lookup x =
   (names.lookup x).map λk=>if(k == NameKind.free && env.scope.kind == .function && env.kindOf x == some .cell)then NameKind.cell else k
 | [],x=>rfl
 | (n,k)::r,x=>by
  have c:=U6 (env:=env) r x;rw[Ae]
  by_cases a:(k == NameKind.free && env.scope.kind == .function && env.kindOf n == some .cell)=true
  .show List.lookup x ((if(k == NameKind.free && env.scope.kind == .function && env.kindOf n == some .cell)=true then(n,NameKind.cell)else(n,k))::_)=_
   rw[pT a,Ht,Ht]
   by_cases hx:x=n
   .subst hx;simp only[rB,bR];rw[pT a]
   .have b:(x == n)=false:=by simpa using hx
    rw[b];exact c
  .show List.lookup x ((if(k == NameKind.free && env.scope.kind == .function && env.kindOf n == some .cell)=true then(n,NameKind.cell)else(n,k))::_)=_
   rw[pL a,Ht,Ht]
   by_cases hx:x=n
   .subst hx;simp only[rB,bR];rw[pL a]
   .have b:(x == n)=false:=by simpa using hx
    rw[b];exact c
noncomputable abbrev FO(X:Cx)(N:List Str)(scope:Scope)(cl:List (Str×Addr))(C:Addr)(s:Shared)(H:Hp)(fp:List Addr):Cx:=
 { X with N:=N,s₀:=s,H₀:=H,env:=compEnvC scope cl C X.env,outer:=X.stack,ex:=fp,fn:=λ_=>false,pn:=[],xe:=λ_ _=>False }
noncomputable def Bc(js:List Nat)(O:St):St:=js.map λj=>(O[j]?).join
structure Cv (N:List Str) (outer scope:Scope) (x:Str) (AN:List Str) (js:List Nat):Prop where
 kind:scope.kind=.function
 LX:∀y∈scope.names,y.2≠.cell
 loc:∀y∈scope.names,y.2=.local->scope.names.lookup y.1=some .local
 IY:scope.names.lookup x=some .local
 at':js.map (λj=>N[j]?)=AN.map some
 cell:∀y∈AN,outer.names.lookup y=some .cell
 free:∀y∈AN,scope.names.lookup y=some .free
 all:∀y∈scope.names,y.2=.free->outer.names.lookup y.1=some .cell
 nd:(AN++[x]).Nodup
def HS(X:Cx)(ifs:List Expr)(t:TT):Prop:=
 ∀(ZB:ZHb)(s:Shared)(O:St)(H:Hp)(Q:Bool->Hp->Prop),Inv X ZB O H s->t O H Q->
  wpAny (model X.prog X.w) X.A (forIn ifs true λc r=>if r=true then do let ok <- isTrue c X.env (eval c X.env);pure (ForInStep.yield ok)else pure (ForInStep.yield r)) (TP X ZB O Q) X.xe s
def Q8:TT:=λ_ H Q=>Q true H
theorem ZEw{t:TT}(d:PT X c t):HS X [c] t:=λZB s O H Q I h=>by
 rw[bI];refine p5 ?_;rw[pT rfl];refine p5 (AO (d ZB s O H Q I h) λb a q=>qC ?_);show wpAny _ _ (forIn [] b _) _ _ a;rw[Uv];exact qC q
def M5(J:It)(js:List Nat)(tt:TT)(te:TE)(O:St)(H1:Hp)(acc:Addr)(Q:VK):Prop:=
 ∃W:Nat->Nat->Hp->Prop,(∃m,W 0 m (upd H1 acc (.lst [])))/\∀i m H2,W i m H2->
  (J.stop i H2/\Q (.ref acc) H2)∨(J.go i H2/\∀x H3,J.Ep i H2 x H3->tt (Bc js O++[some x]) H3 λb H4=>
   if b=true then te (Bc js O++[some x]) H4 λy H5=>∃ys,H5 acc=some (.lst ys)/\ys.length<sizeLine/\∃a,a < m/\W (i+1) a (upd H5 acc (.lst (ys++[y])))
   else ∃a,a < m/\W (i+1) a H4)
def JY(wi:TI)(js:List Nat)(tt:TT)(te:TE):TE:=λO H Q=>wi O H λJ H1=>∀acc,H1 acc=none->M5 J js tt te O H1 acc Q
theorem ZCm(l:List α)(a b:α):(l++[a]).set l.length b=l++[b]:=by
 induction l with
 |nil=>rfl
 |cons x l c=>simp[c]
noncomputable def Ie:Option Str->Addr->List (Str×Addr)
 |none,_=>[]
 |some x,n=>[(x,n)]
noncomputable def RV:Option Str->Heap->Heap
 |none,h=>h
 |some _,h=>h.push { cls:=.type "cell", data:=.cell none }
structure FI (N:List Str) (outer scope:Scope) (ce:Option Str) (zs AN:List Str) (js:List Nat):Prop where
 kind:scope.kind=.function
 loc:∀y∈scope.names,y.2=.local->scope.names.lookup y.1=some .local
 one:∀y∈scope.names,y.2=.cell->ce=some y.1
 sub:∀x,ce=some x->x∈zs
 cf:∀(n:Nat)(cl:List (Str×Addr)),cellsFrom n scope.names cl=Ie ce n++cl
 pc:∀h:Heap,pushCells h scope.names=RV ce h
 at':js.map (λj=>N[j]?)=AN.map some
 cell:∀y∈AN,outer.names.lookup y=some .cell
 free:∀y∈AN,scope.names.lookup y=some .free
 all:∀y∈scope.names,y.2=.free->outer.names.lookup y.1=some .cell
 nd:(AN++zs).Nodup
abbrev Fg(X:Cx)(N:List Str)(scope:Scope)(ce:Option Str)(cl:List (Str×Addr))(C:Addr)(s:Shared)(H:Hp)(fp:List Addr):Cx:=
 { X with N:=N,s₀:=s,H₀:=H,env:=compEnvC scope (Ie ce (C+1)++cl) C X.env,outer:=X.stack,ex:=fp,fn:=λy=>ce == some y,pn:=[],xe:=λ_ _=>False }
theorem ZAN{M:Model}{a:Addr}{b:Option Addr}{c:Value}{outer:Env}{Q:Env->Shared->Prop}
  (cf:∀(n:Nat)(cl:List (Str×Addr)),cellsFrom n scope.names cl=Ie ce n++cl) (pc:∀h:Heap,pushCells h scope.names=RV ce h)
  (d:Q (newEnv scope s.heap.objs.size a (Ie ce (s.heap.objs.size+1)++closure) qual b c (some outer) builtinsNs) { s with heap:=RV ce (s.heap.push { cls:=.type "dict", data:=.dict #[] }) }) :
  wpAny M A (newFunctionEnv scope a closure [] qual b c (some outer)) Q E s:=by
 simp only[newFunctionEnv,ZGr,ZAH];refine p5 (wpAny_alloc ?_);refine p5 (wpAny_layCells _ (λname kind cells=>by cases e:kind == NameKind.cell <;> simp[e]) _ _ _ _ ?_)
 rw[cf,pc];rw[show({ s with heap:=s.heap.push { cls:=.type "dict", data:=.dict #[] } }:Shared).heap.objs.size=s.heap.objs.size+1 from Kh ..]
 refine p5 ?_;rw[Uv];exact qC (qC d)
theorem ZEC{y:Str}{c:Addr}(h:(Ie ce n++cl).lookup y=some c):(ce=some y/\c=n)∨(ce≠some y/\cl.lookup y=some c):=by
 cases ce with
 |none=>exact .inr ⟨λz=>(by cases z),h⟩
 |some x=>
  have h:((x,n)::cl).lookup y=some c:=h;rw[Ht]at h
  by_cases e:y=x
  .subst e;simp only[rB]at h;exact .inl ⟨rfl,(BY h).symm⟩
  .have a:(y == x)=false:=by simpa using e
   rw[a]at h;exact .inr ⟨λz=>e (BY z).symm,h⟩
theorem gL{y:Str}(h:ce≠some y):(Ie ce n++cl).lookup y=cl.lookup y:=by
 cases ce with
 |none=>rfl
 |some x=>
  show((x,n)::cl).lookup y=_;have a:(y == x)=false:=beq_eq_false_iff_ne.mpr λz=>h (by rw[z]);rw[Ht,a]
theorem rh:(Ie (some x) n++cl).lookup x=some n:=by
 show((x,n)::cl).lookup x=_;rw[Ht,rB]
theorem ZFn{iter:Expr}{it acc:Value}(I:Nat->Shared->Prop)
  (a:∀n s,I n s->wpAny (model prog w) A (pyNext it) (λr d=>match r with
   |none=>R (.ok .next) d
   |some v=>wpAny (model prog w) A (letOwnedTupleGo tg it v) (λ_ s2=>wpAny (model prog w) A (assign tg env v) (λ_ i=>
     wpAny (model prog w) A (forIn ifs true λc r=>if r=true then do let ok <- isTrue c env (eval c env);pure (ForInStep.yield ok)else pure (ForInStep.yield r)) (λok s4=>if ok=true then
      wpAny (model prog w) A (eval elt env) (λx g=>wpAny (model prog w) A (call (.builtin "list.append") [acc,x]) (λ_ f=>∃m,m<n/\I m f) (notedBy (model prog w) A env λe s'=>R (.error e) s') g) (notedBy (model prog w) A env λe s'=>R (.error e) s') s4
      else ∃m,m<n/\I m s4) (notedBy (model prog w) A env λe s'=>R (.error e) s') i)
     (notedBy (model prog w) A env λe s'=>R (.error e) s') s2) (notedBy (model prog w) A env λe s'=>R (.error e) s') d) (notedBy (model prog w) A env λe s'=>R (.error e) s') s)
  (n:Nat) (h:I n s):codeAny (model prog w) A (.compLoop (.ListComp elt [⟨tg,iter,ifs,0⟩] scope pos) 0 it acc env) R s:=by
 refine codeAny_loop rfl I (λn s q=>(show wpAny _ A ((compTurn (.ListComp elt [⟨tg,iter,ifs,0⟩] scope pos) 0 it acc env).onRaise (λx=>do noteFrame x env;theTreesLotGoes x)) _ _ s from wpAny_noted ?_)) n h
 rw[compTurn_list];refine p5 (wpAny_standAt (p5 (qr (a n s q) (λr d j=>?_) λ_ _ z=>z)));cases r with
 |none=>exact qC j
 |some v=>
  refine p5 (qr j (λ_ s2 p=>p5 (qr p (λ_ i o=>p5 (qr o (λok s4 b=>?_) λ_ _ z=>z)) λ_ _ z=>z)) λ_ _ z=>z);cases ok with
  |false=>
   rw[pL (by decide)]at b;exact p5 (qC (qC ⟨rfl,b⟩))
  |true=>
   rw[pT rfl]at b;exact p5 (p5 (qr b (λx g l=>p5 (qr l (λ_ f k=>qC (qC ⟨rfl,k⟩)) λ_ _ z=>z)) λ_ _ z=>z))
abbrev ak(tt:TT)(te:TE)(acc:Addr)(W:Nat->Nat->Hp->Prop)(i m:Nat)(O:St)(H:Hp):Prop:=
 tt O H λb H4=>if b=true then te O H4 λy H5=>∃ys,H5 acc=some (.lst ys)/\ys.length<sizeLine/\∃m',m' < m/\W (i+1) m' (upd H5 acc (.lst (ys++[y])))
  else ∃m',m' < m/\W (i+1) m' H4
def Pa(g:TG)(n:Nat)(J:It)(js:List Nat)(tt:TT)(te:TE)(O:St)(H1:Hp)(acc:Addr)(Q:VK):Prop:=
 ∃W:Nat->Nat->Hp->Prop,(∃m,W 0 m (upd H1 acc (.lst [])))/\∀i m H2,W i m H2->
  (J.stop i H2/\Q (.ref acc) H2)∨(J.go i H2/\∀x H3,J.Ep i H2 x H3->∀ws,ws.length=n->g x (Bc js O++ws) H3 λσ8 H8=>∃us,us.length=n/\σ8=Bc js O++us/\ak tt te acc W i m σ8 H8)
def gD(CW:It->St->Hp->Addr->VK->Prop)(wi:TI):TE:=λO H Q=>wi O H λJ H1=>∀acc,H1 acc=none->CW J O H1 acc Q
section
variable{iter:Expr}{zs AN:List Str}{fp:List Addr}{g:TG}
theorem ZEd(h:scope.names.lookup x=some .cell):(relabel scope env).names.lookup x=some .cell:=by
 refine(U6 (env:=env) scope.names x).trans ?_;rw[h];simp
theorem pK{n:Nat}(h:(List.replicate n (none:Option V))[i]?=some (some v)):False:=by
 rw[nP]at h
 by_cases c:i<n
 .rw[pT c]at h;cases h
 .rw[pL c]at h;cases h
theorem oS(S:FI X.N X.env.scope scope ce zs AN js)(I3:Inv X ZB O H2 s2)(F:∀b∈fp,Ey X ZB H2 b)(R:∀b∈fp,b<s2.heap.objs.size)
  {m:ZHc}(Ml:h1.Ns s2.heap.objs.size m) (A:∀b o,s2.heap.get? b=some o->h1.get? b=some o) (E:∀x,ce=some x->h1.IsCell (s2.heap.objs.size+1) none) :
  Inv (Fg X (AN++zs) scope ce (Bj X.env.cells scope.names) s2.heap.objs.size s2 H2 fp) [] (Bc js O++List.replicate zs.length none) H2 { s2 with heap:=h1,toks:=t' }:=by
 have U:∀y∈scope.names,y.2=.free->(X.env.cells.lookup y.1).isSome=true:=λy g hk=>by
  obtain⟨c,e⟩:=I3.ok.has y.1 (.inl (S.all y g hk));rw[e];rfl
 have P:∀y c,(Bj X.env.cells scope.names).lookup y=some c->X.env.cells.lookup y=some c:=cq scope.names [] U (λ_ _ e=>by cases e);have L:∀y k,(relabel scope X.env).names.lookup y=some k->k=.cell∨k=.free->scope.names.lookup y=some .free∨ce=some y:=λy k e hk=>by
  have t:=(U6 (env:=X.env) scope.names y).symm.trans e;cases q:scope.names.lookup y with
  |none=>rw[q]at t;cases t
  |some W=>
   rw[q]at t;cases W with
   |free=>exact .inl rfl
   |cell=>exact .inr (S.one _ (MX q) rfl)
   |_=>simp at t;rcases hk with rfl|rfl <;> cases t
 have n:js.length=AN.length:=by have:=rP List.length S.at';simpa using this
 have σ:∀y c,X.env.cells.lookup y=some c->c<s2.heap.objs.size:=λy c e=>by
  obtain⟨v,o,ho,_⟩:=I3.cell y c e;exact BH ho
 have f:∀c v,s2.heap.IsCell c v->h1.IsCell c v:=λc v AG=>by obtain⟨o,ho,hd⟩:=AG;exact⟨o,A c o ho,hd⟩
 have B:∀y c,(Ie ce (s2.heap.objs.size+1)++Bj X.env.cells scope.names).lookup y=some c->(ce=some y/\c=s2.heap.objs.size+1)∨(ce≠some y/\X.env.cells.lookup y=some c):=λy c e=>(ZEC e).imp id λz=>⟨z.1,P y c z.2⟩;have T:∀y∈AN,ce≠some y:=λy g z=>(List.nodup_append.mp S.nd).2.2 y g y (S.sub y z) rfl;refine⟨⟨I3.ok.mod,S.kind,I3.ok.glob,I3.ok.blt,As _,λy z c K D=>?_,λy g=>?_,λy c J e=>?_,I3.ok.hd,I3.ok.frames,.inl rfl,λb s=>⟨D6 (R b s),λy c e=>?_⟩,
  λb o e=>I3.bs b o e,Eb I3.ok.JS I3.sz,λb o e s=>?_,λb s Y=>?_,I3.stack,I3.fS⟩,rfl,I3.bare,Un.kept A,⟨m,Ml,λi y v K D e3=>?_⟩,λy c e=>?_,I3.AY.fresh (As _),λy c e=>?_,λp Z=>(by cases Z),I3.AY.kept A,?_⟩
 .rcases B y c K with⟨a1,rfl⟩|⟨_,E4⟩
  .rcases B z _ D with⟨a2,_⟩|⟨_,EC⟩
   .exact BY (a1.symm.trans a2)
   .exact absurd (σ z _ EC) (ZGn (O0 _))
  .rcases B z c D with⟨_,rfl⟩|⟨_,EC⟩
   .exact absurd (σ y _ E4) (ZGn (O0 _))
   .exact I3.ok.inj y z c E4 EC
 .have J:scope.names.lookup y=some .free∨ce=some y:=g.elim (λg=>L y _ g (.inl rfl)) λg=>L y _ g (.inr rfl);show ∃c,List.lookup y (Ie ce (s2.heap.objs.size+1)++Bj X.env.cells scope.names)=some c
  by_cases ex:ce=some y
  .rw[ex];exact⟨_,rh⟩
  .rw[gL ex];exact Option.isSome_iff_exists.mp (Yz scope.names [] (.inr (MX (J.resolve_right ex))))
 .rcases B y c e with⟨_,rfl⟩|⟨V,_⟩
  .exact O0 _
  .exact absurd (eq_of_beq J) V
 .rcases B y c e with⟨_,rfl⟩|⟨_,E4⟩
  .exact MW (nj (R b s))
  .exact(F b s).2.2.2.2.1 y c E4
 .rcases(F b s).2.2.2.1 with z|z
  .exact I3.ok.Q3 b o e z
  .exact absurd (E9 (E9 (BH e) I3.ok.JS) z) (Kn _)
 .rcases List.mem_cons.mp (I3.WC b Y)with z|z
  .exact(F b s).2.1 z
  .exact(F b s).2.2.1 z
 .have E:(Bc js O).length=AN.length:=by unfold Bc;rw[AD,n]
  have hi:i<AN.length:=by
   by_cases hi:i<AN.length
   .exact hi
   .have d:(Bc js O++List.replicate zs.length none)[i]?=some (some v):=D;rw[E8 (by rw[E];omega),E]at d;exact(pK d).elim
  have G:AN[i]?=some y:=by
   have G:(AN++zs)[i]?=some y:=K
   rwa [DO hi]at G
  have d:(Bc js O)[i]?=some (some v):=by
   have d:(Bc js O++List.replicate zs.length none)[i]?=some (some v):=D
   rwa [DO (by rw[E];exact hi)]at d
  have C:y∈AN:=Bi G;unfold Bc at d;rw[Aj]at d;cases I:js[i]? with
  |none=>rw[I]at d;cases d
  |some j=>
   rw[I]at d;have hN:X.N[j]?=some y:=by
    have q:=rP (λl=>l[i]?) S.at';simp only[Aj,I,G,bR]at q;exact BY q
   have hσ:O[j]?=some (some v):=by
    simp only[bR,Option.some.injEq]at d;cases q:O[j]? with
    |none=>rw[q]at d;cases d
    |some w=>rw[q]at d;simp at d;rw[d]
   obtain⟨m0,hn0,H⟩:=I3.loc;obtain⟨u,r,l⟩:=H j y v hN hσ (.inr (.inl (S.cell y C)));refine⟨u,r,?_⟩;rcases l with⟨k,_⟩|⟨_,c,e,z⟩
   .have M:X.env.scope.names.lookup y=some .local:=k;rw[S.cell y C]at M;cases M
   .have ao:X.env.kindOf y=some .cell:=S.cell y C;have hk:(relabel scope X.env).names.lookup y=some .cell:=by
     refine(U6 (env:=X.env) scope.names y).trans ?_;rw[S.free y C];simp[I3.ok.kind,ao]
    obtain⟨c',t⟩:=Option.isSome_iff_exists.mp (Yz (cells:=X.env.cells) scope.names [] (.inr (MX (S.free y C))));have Q:=P y c' t;rw[e]at Q;cases Q;exact .inr ⟨.inl hk,c,(gL (T y C)).trans t,f c _ z⟩
 .rcases B y c e with⟨a,rfl⟩|⟨_,E4⟩
  .exact⟨none,E _ a⟩
  .obtain⟨v,z⟩:=I3.cell y c E4;exact⟨v,f c v z⟩
 .rcases B y c e with⟨_,rfl⟩|⟨_,E4⟩
  .exact I3.AY.fresh (O0 _)
  .exact I3.IC y c E4
 .show(Bc js O++List.replicate zs.length none).length=(AN++zs).length;unfold Bc;simp[n]
theorem yd(j:Y.prog=X.prog)(hw:Y.w=X.w)(hK:Y.K=X.K)(hA:Y.A=X.A)(B:Y.xe=λ_ _=>False)(V:Y.calm=true)
  (hg:PG Y tg g) (D0:HS Y ifs tt) (Cz:PE Y elt te)
  (T:Turn X.prog X.w X.K tg J fp it tn) (t:∀b∈fp,Y.Ok->Ey Y [] (λ_=>none) b)
  (W:Nat->Nat->Hp->Prop) (Q:VK)
  (h:∀i m H2,W i m H2->(J.stop i H2/\Q (.ref acc) H2)∨(J.go i H2/\∀x H3,J.Ep i H2 x H3->∀ws,ws.length=n0->g x (Bc js O++ws) H3 λσ8 H8=>∃us,us.length=n0/\σ8=Bc js O++us/\ak tt te acc W i m σ8 H8))
  (I4:Inv Y [] (Bc js O++ws) H4 s4) (U9:tn 0 s4.heap) (xn:∀b∈fp,H4 b=none) (P:Nat) (w4:W 0 P H4)
  (C:ws.length=n0) (hR:∀H' s' ws,Inv Y [] (Bc js O++ws) H' s'->Q (.ref acc) H'->R (.ok .next) s') :
  codeAny (model X.prog X.w) X.A (.compLoop (.ListComp elt [⟨tg,iter,ifs,0⟩] scope pos) 0 (.ref it) (.ref acc) Y.env) R s4:=by
 have AY:=I4.ok;have I:∀{H':Hp},(∀b∈fp,H' b=none)->∀b∈fp,Ey Y [] H' b:=λhn b c=>⟨hn b c,(t b c AY).2⟩;rw[<- j,<- hw,<- hA];have k:∀{Z:Value->Shared->Prop}v s,Y.xe v s->Z v s:=λv s z=>by rw[B]at z;exact z.elim
 refine ZFn (λn s'=>∃i ws H',ws.length=n0/\Inv Y [] (Bc js O++ws) H' s'/\tn i s'.heap/\(∀b∈fp,H' b=none)/\W i n H') ?_ P ⟨0,ws,H4,C,I4,U9,xn,w4⟩;rintro n σ⟨i,S,H5,zq,I5,ND,UU,w5⟩;rcases h i n H5 w5 with⟨stop,q⟩|⟨go,step⟩
 .have d:=T.done Y j hw hK V i [] σ _ H5 (λ_ _=>False) I5 (I UU) ND stop;rw[<- j,<- hw]at d;refine qr d (λr N⟨E,I6⟩=>?_) λ_ _ z=>z.elim;subst E;exact hR H5 N S I6 q
 .have d:=T.item Y j hw hK V i [] σ _ H5 (λ_ _=>False) I5 (I UU) ND go;rw[<- j,<- hw]at d;refine qr d (λr N⟨u,E,h6⟩=>?_) λ_ _ z=>z.elim;subst E;refine qr h6 (λ_ M⟨v,H7,I7,r7,y7,Vb,G⟩=>?_) λ_ _ z=>z.elim;have L:=I7.pinned (I G) (T.obj _ _ Vb);refine qr (hg _ M _ H7 v u _ L r7 (step v H7 y7 S zq)) (λ_ s8⟨σ8,H8,I8,us,MJ,e8,D⟩=>?_) k;subst e8;have a:∀{σa:St}{Ha:Hp}{sa:Shared},Inv Y ([]++OO fp M.heap) σa Ha sa->tn (i+1) sa.heap/\(∀b∈fp,Ha b=none):=λ{σa Ha sa}Ia=>by
   refine⟨T.keep _ _ _ Vb λb c o e=>(Ia.pin (b,o) (Er _ (Er _ (Sq c e)))).1,λb c=>?_⟩;obtain⟨o,e,d⟩:=T.obj _ _ Vb b c;exact(Ia.pin (b,o) (Er _ (Er _ (Sq c e)))).2.1
  refine qr (D0 _ s8 _ H8 _ I8 D) (λb s9⟨H9,I9,p⟩=>?_) k;cases b with
  |false=>
   have zX:∃f,f < n/\W (i+1) f H9:=p;obtain⟨f,F,w9⟩:=zX;rw[pL (by decide)];exact⟨f,F,i+1,_,H9,MJ,I9.O3,(a I9).1,(a I9).2,w9⟩
  |true=>
   rw[pT rfl];rw[pT rfl]at p;refine qr (Cz _ s9 _ H9 _ I9 p) (λyv t6⟨y,U,I10,l,ys,B8,hz,f,F,zx⟩=>?_) k;refine qr (mh (X:=Y) _ t6 _ U (.ref acc) [y] (.ref acc) [yv] (λ_ dP=>dP=upd U acc (.lst (ys++[y]))) I10 rfl (.cons l .nil) ⟨acc,ys,y,rfl,rfl,B8,hz,rfl⟩)
    (λ_ s11⟨_,dP,Xk,_,H⟩=>?_) k
   subst H;exact⟨f,F,i+1,_,_,MJ,Xk.O3,(a Xk).1,(a Xk).2,zx⟩
theorem kG{RR:Value->Addr->Result->Shared->Prop}(σ:X.calm=true)(S:FI X.N X.env.scope scope ce zs AN js)
  (M:∀C s H,PG (Fg X (AN++zs) scope ce (Bj X.env.cells scope.names) C s H fp) tg g)
  (D0:∀C s H,HS (Fg X (AN++zs) scope ce (Bj X.env.cells scope.names) C s H fp) ifs tt) (Cz:∀C s H,PE (Fg X (AN++zs) scope ce (Bj X.env.cells scope.names) C s H fp) elt te)
  (T:Turn X.prog X.w X.K tg J fp it tn) (I2:Inv X ZB O H2 s2) (Jo:tn 0 s2.heap) (u:∀b∈fp,Ey X ZB H2 b) (Q:VK) (P:∀acc,H2 acc=none->Pa g zs.length J js tt te O H2 acc Q)
  (k:∀acc C H' s' m,Inv X ZB O H' s'->Ey X ZB H' C->s'.heap.Ns C m->Q (.ref acc) H'->RR (.ref acc) C (.ok .next) s') :
  wpAny (model X.prog X.w) X.A (newList []) (λacc a=>wpAny (model X.prog X.w) X.A (newFunctionEnv scope X.env.globals (Bj X.env.cells scope.names) [] X.env.qual none .none (some X.env)) (λn s4=>
   codeAny (model X.prog X.w) X.A (.compStart (.ListComp elt [⟨tg,iter,ifs,0⟩] scope pos) 0 (.ref it) acc { n with scope:=relabel scope X.env }) (RR acc n.locals) s4) E a) E s2:=by
 refine xg (ZAN S.cf S.pc ?_);have j:Inv X ZB O (upd H2 s2.heap.objs.size (.lst [])) { s2 with heap:=s2.heap.push { cls:=.type "list", data:=.seq ([]:List Value).toArray } }:=I2.jA (t':=s2.toks) .nil (Cg _)
 have z:∀b∈fp,b<s2.heap.objs.size:=λb c=>by
  obtain⟨o,e,_⟩:=T.obj _ _ Jo b c;exact BH e
 have hsz:(s2.heap.push { cls:=.type "list", data:=.seq ([]:List Value).toArray }).objs.size=s2.heap.objs.size+1:=Kh ..;have f:∀b∈fp,Ey X ZB (upd H2 s2.heap.objs.size (.lst [])) b:=λb c=>⟨by rw[An (D6 (z b c))];exact(u b c).1,(u b c).2⟩;generalize F:({ s2 with heap:=s2.heap.push { cls:=.type "list", data:=.seq ([]:List Value).toArray } }:Shared)=a at j ⊢
 have t:a.heap=s2.heap.push { cls:=.type "list", data:=.seq ([]:List Value).toArray }:=by rw[<- F]
 have D:∀b∈fp,b<a.heap.objs.size:=λb c=>by rw[t,hsz];exact nj (z b c)
 generalize r:RV ce (a.heap.push { cls:=.type "dict", data:=.dict #[] })=h1;have v:∀b o,(a.heap.push { cls:=.type "dict", data:=.dict #[] }).get? b=some o->h1.get? b=some o:=λb o e=>by
  rw[<- r];cases ce with
  |none=>exact e
  |some _=>exact CG _ e
 have i:∀b o,a.heap.get? b=some o->h1.get? b=some o:=λb o e=>v b o (CG _ e);have l:∀b o,s2.heap.get? b=some o->h1.get? b=some o:=λb o e=>i b o (by rw[t];exact CG _ e);have R:h1.Ns a.heap.objs.size (λ_=>none):=(Heap.Ns.new a.heap (.type "dict")).keeps v;have U:∀x,ce=some x->h1.IsCell (a.heap.objs.size+1) none:=λx hx=>by
  subst hx;rw[<- r];have e:(a.heap.push { cls:=.type "dict", data:=.dict #[] }).objs.size=a.heap.objs.size+1:=Kh ..;exact⟨_,by rw[<- e];exact Co _ rfl,rfl⟩
 have V:=oS S j f D R i U (t':=a.toks);have y:tn 0 h1:=T.keep _ _ _ Jo λb _ o e=>l b o e;obtain⟨W,⟨G,B⟩,h⟩:=P s2.heap.objs.size (I2.AY.fresh (As _));have d:codeAny (model X.prog X.w) X.A (.compLoop (.ListComp elt [⟨tg,iter,ifs,0⟩] scope pos) 0 (.ref it) (.ref s2.heap.objs.size) (compEnvC scope (Ie ce (a.heap.objs.size+1)++Bj X.env.cells scope.names) a.heap.objs.size X.env))
   (RR (.ref s2.heap.objs.size) a.heap.objs.size) { a with heap:=h1 }:=by
  refine yd (X:=X) (Y:=Fg X (AN++zs) scope ce (Bj X.env.cells scope.names) a.heap.objs.size a (upd H2 s2.heap.objs.size (.lst [])) fp) (acc:=s2.heap.objs.size) (Q:=Q) rfl rfl rfl rfl rfl σ (M _ _ _) (D0 _ _ _) (Cz _ _ _) T (λb c ok=>⟨rfl,(ok.SF b c).1,ok.Ob b c,.inl c,(ok.SF b c).2,λp I=>by cases I⟩) W h V y (λb c=>(f b c).1) G B (ZGg ..) λH' s' w I' q=>?_;obtain⟨m,L,_⟩:=I'.loc;exact k _ _ H' s' m (j.wo (ch:=fp) I'.os I'.base I'.AY I'.bare λb c=>⟨(f b c).2.2.2.1,(f b c).2.1,(f b c).2.2.2.2.1,(f b c).2.2.2.2.2⟩) (j.LN (As _) I'.free) L q
 exact codeAny_compStart_list d (T.self X.A 0 _ _ _ y d)
theorem m9(S:FI X.N X.env.scope scope ce zs AN js)(I:Inv X ZB O H s):closureFor scope X.env=pure (Bj X.env.cells scope.names):=ZCL λy a hk=>by
 obtain⟨c,e⟩:=I.ok.has y.1 (.inl (S.all y a hk));rw[e];rfl
theorem WZ(l:∀J O H1 acc Q,CW J O H1 acc Q->Pa g zs.length J js tt te O H1 acc Q)(i:X.calm=true)(S:FI X.N X.env.scope scope ce zs AN js)(hi:PI X tg iter wi)
  (f:∀fp C s H,PG (Fg X (AN++zs) scope ce (Bj X.env.cells scope.names) C s H fp) tg g)
  (D0:∀fp C s H,HS (Fg X (AN++zs) scope ce (Bj X.env.cells scope.names) C s H fp) ifs tt) (Cz:∀fp C s H,PE (Fg X (AN++zs) scope ce (Bj X.env.cells scope.names) C s H fp) elt te)
  (c:∀v,foldedSetIterable iter X.env v=pure v):PE X (.ListComp elt [⟨tg,iter,ifs,0⟩] scope pos) (gD CW wi):=by
 intro ZB s O H Q I h;rw[eval_ListComp];refine zC (use:=none) rfl c (m9 S I) S.kind S.loc (AO (hi ZB s O H _ I h) λv p h1=>AO h1 λUH s2 h2=>?_);obtain⟨it,fp,tn,J,H2,e,I2,T,Jo,n,hw⟩:=h2;subst e;refine kG (RR:=λacc C=>compPost (model X.prog X.w) X.A X.xe none (EP X ZB O Q) acc C) i S (f fp) (D0 fp) (Cz fp) T I2 Jo n Q (λacc k=>l _ _ _ _ _ (hw acc k)) λacc C H' s' m I' a d q=>⟨m,d,λh' Xf=>?_⟩;exact⟨.ref acc,H',I'.turned (t':=s'.toks) (λb o j e=>(Xf.2 b j).trans e) a.1 a.2.1 a.2.2.2.1 a.2.2.2.2.1 a.2.2.2.2.2,rfl,q⟩
theorem mf(x:∀J O H1 acc Q,CW J O H1 acc Q->Pa g zs.length J js tt te O H1 acc Q){y:Str}(B:X.N.Nodup)(Cm:X.N[i]?=some y)(j:Loc X.env.scope y)(t:X.calm=true)(S:FI X.N X.env.scope scope ce zs AN js)(hi:PI X tg iter wi)
  (p:∀fp C s H,PG (Fg X (AN++zs) scope ce (Bj X.env.cells scope.names) C s H fp) tg g)
  (D0:∀fp C s H,HS (Fg X (AN++zs) scope ce (Bj X.env.cells scope.names) C s H fp) ifs tt) (Cz:∀fp C s H,PE (Fg X (AN++zs) scope ce (Bj X.env.cells scope.names) C s H fp) elt te)
  (Jc:swapsWith (.ListComp elt [⟨tg,iter,ifs,0⟩] scope pos) (some (.Name y py)) Fs.line X.env=pure true)
  (r:X.fn y=true∨X.env.scope.names.lookup y=some .local)
  (k:∀v,foldedSetIterable iter X.env v=pure v):PS X (.Assign [.Name y py] (.ListComp elt [⟨tg,iter,ifs,0⟩] scope pos) Fs) (Ei (gD CW wi) (C7 i)):=by
 intro ZB s O H D I h;rw[exec_Assign_Name_used _ _ _ _ Jc];refine p5 (wpAny_standAt (p5 ?_));show wpAny _ X.A (do let _ <- comprehension (.ListComp elt [⟨tg,iter,ifs,0⟩] scope pos) scope X.env _ (newList []) false (eval iter X.env) (some (assign (.Name y py) X.env))) _ _ s
 refine p5 (qr (zC (use:=some (assign (.Name y py) X.env)) (Q:=λ_ s'=>SP X ZB D .next s') rfl k (m9 S I) S.kind S.loc
  (AO (hi ZB s O H _ I h) λv G h1=>AO h1 λUH s2 h2=>?_)) (λ_ s' l=>qC (qC l)) λ_ _ e=>e)
 obtain⟨it,fp,tn,J,H2,e,I2,T,Jo,E,hw⟩:=h2;subst e;refine kG (RR:=λacc C=>compPost (model X.prog X.w) X.A X.xe (some (assign (.Name y py) X.env)) (λ_ s'=>SP X ZB D .next s') acc C) t S (p fp) (D0 fp) (Cz fp) T I2 Jo E _ (λacc d=>x _ _ _ _ _ (hw acc d)) λacc C H' s' m I' c n q=>?_;show wpAny _ X.A (assign (.Name y py) X.env (.ref acc)) _ _ s';refine wpAny_assign_Name (dQ (v:=.ref acc) I' B Cm j rfl (λQZ I''⟨a,f,d⟩=>?_) r);have F:C≠a:=by
  rcases d with z|z
  .rw[z];exact c.2.1
  .exact(c.2.2.2.2.1 y a z).symm
 refine⟨m,n.sameBut f F,λh' Xf=>?_⟩;exact⟨_,H',I''.turned (t':=QZ.toks) (λb o u e=>(Xf.2 b u).trans e) c.1 c.2.1 c.2.2.2.1 c.2.2.2.2.1 c.2.2.2.2.2,q⟩
theorem bo{n:Nat}{cl:List (Str×Addr)}:∀{names:List (Str×NameKind)},(∀y∈names,y.2≠.cell)->cellsFrom n names cl=cl
 | [],_=>rfl
 | (x,k)::r,h=>by
  have hk:(k == NameKind.cell)=false:=beq_eq_false_iff_ne.mpr (h _ Es);rw[cellsFrom,hk];exact bo λy a=>h y (DS _ a)
theorem gx{a:Heap}:∀{names:List (Str×NameKind)},(∀y∈names,y.2≠.cell)->pushCells a names=a
 | [],_=>rfl
 | (x,k)::r,h=>by
  have hk:(k == NameKind.cell)=false:=beq_eq_false_iff_ne.mpr (h _ Es);rw[pushCells,hk];exact gx λy b=>h y (DS _ b)
theorem FI.iC(kind:scope.kind=.function)(LX:∀y∈scope.names,y.2≠.cell)(loc:∀y∈scope.names,y.2=.local->scope.names.lookup y.1=some .local)
  (at':js.map (λj=>N[j]?)=AN.map some) (cell:∀y∈AN,outer.names.lookup y=some .cell) (free:∀y∈AN,scope.names.lookup y=some .free)
  (all:∀y∈scope.names,y.2=.free->outer.names.lookup y.1=some .cell) (nd:(AN++zs).Nodup):FI N outer scope none zs AN js:=
 ⟨kind,loc,λy a e=>absurd e (LX y a),λx e=>(by cases e),λn cl=>bo LX,λh=>gx LX,at',cell,free,all,nd⟩
theorem FI.len(S:FI N outer scope ce zs AN js)(O:St):(Bc js O).length=AN.length:=by
 unfold Bc;rw[AD];have:=rP List.length S.at';simpa using this
theorem Z3(S:FI N outer scope ce [x] AN js)(J:It)(O:St)(H1:Hp)(acc:Addr)(Q:VK)(h:M5 J js tt te O H1 acc Q):Pa (C7 AN.length) 1 J js tt te O H1 acc Q:=by
 obtain⟨W,a,h⟩:=h;refine⟨W,a,λi m H2 w=>(h i m H2 w).imp id λz=>⟨z.1,λx H3 y ws hw=>?_⟩⟩
 match ws,hw with
 | [w],_=>
  have e:(Bc js O++[w]).set AN.length (some x)=Bc js O++[some x]:=by rw[<- S.len O];exact ZCm _ _ _
  exact⟨[some x],rfl,e,by rw[e];exact z.2 x H3 y⟩
theorem Xn(S:FI X.N X.env.scope scope ce [x] AN js)(hx:scope.names.lookup x=some .local∨(ce=some x/\scope.names.lookup x=some .cell)):
  PG (Fg X (AN++[x]) scope ce cl C s H fp) (.Name x px) (C7 AN.length):=
 YW S.nd (by simp) (hx.imp (λh=>vg h) λh=>ZEd h.2) (hx.symm.imp (λh=>by show(ce == some x)=true;rw[h.1];exact rB _) λh=>vg h)
inductive JD:List Str->List Expr->Prop
 |nil:JD [] []
 |cons {x:Str}{zs:List Str}{p:Pos}{es:List Expr}:JD zs es->JD (x::zs) (.Name x p::es)
def MZ(i:Nat):Nat->HV
 | 0=>M8
 |n+1=>Fh (C7 i) (MZ (i+1) n)
theorem gw{Q:St->Hp->Prop}{H:Hp}:∀{us:List V}{l ws:St},ws.length=us.length->Q (l++us.map some) H->MZ l.length us.length us (l++ws) H Q
 | [],l,ws,h,q=>by
  rw[List.length_eq_zero_iff.mp h];exact⟨rfl,q⟩
 |u::us,l,w::ws,h,q=>by
  refine⟨u,us,rfl,?_⟩;show MZ (l.length+1) us.length us ((l++w::ws).set l.length (some u)) H Q;have e:(l++w::ws).set l.length (some u)=(l++[some u])++ws:=by
   rw[List.set_append_right _ _ (As _),V3];simp
  have a:l.length+1=(l++[some u]).length:=by simp
  rw[e,a];refine gw (l:=l++[some u]) (by simpa using h) ?_
  rw[BX];exact q
theorem lR{X:Cx}(a:X.N.Nodup):∀{zs:List Str}{es:List Expr}{i:Nat},JD zs es->(∀(j:Nat)x,zs[j]?=some x->X.N[i+j]?=some x/\Loc X.env.scope x/\X.env.scope.names.lookup x=some .local)->Nq X es (MZ i zs.length)
 |_,_,_,.nil,_=>cC
 |_,_,i,.cons (x:=x) (zs:=zs) r,h=>by
  obtain⟨h1,h2,c⟩:=h 0 _ rfl;refine lG (YW a h1 h2 (.inr c)) (lR a r λj y b=>?_);have:=h (j+1) y b
  rwa [show i+(j+1)=i+1+j by omega]at this
def Th(K:ZHa)(n:Nat)(J:It)(js:List Nat)(tt:TT)(te:TE)(O:St)(H1:Hp)(acc:Addr)(Q:VK):Prop:=
 ∃W:Nat->Nat->Hp->Prop,(∃m,W 0 m (upd H1 acc (.lst [])))/\∀i m H2,W i m H2->
  (J.stop i H2/\Q (.ref acc) H2)∨(J.go i H2/\∀x H3,J.Ep i H2 x H3->∃a us,x=.ref a/\B7 K H3 a us/\us.length=n/\ak tt te acc W i m (Bc js O++us.map some) H3)
theorem iZ{K:ZHa}(S:FI N outer scope ce zs AN js)(J:It)(O:St)(H1:Hp)(acc:Addr)(Q:VK)(h:Th K zs.length J js tt te O H1 acc Q):Pa (Jm K zs.length (MZ AN.length zs.length)) zs.length J js tt te O H1 acc Q:=by
 obtain⟨W,d,h⟩:=h;refine⟨W,d,λi m H2 w=>(h i m H2 w).imp id λz=>⟨z.1,λx H3 y ws hw=>?_⟩⟩;obtain⟨a,us,e,c,b,q⟩:=z.2 x H3 y;refine⟨a,us,e,c,b,?_⟩;rw[<- b,<- S.len O];exact gw (by rw[hw,b]) ⟨us.map some,AD ..,rfl,q⟩
theorem jr{tp:Pos}(c:X.calm=true)(S:FI X.N X.env.scope scope ce zs AN js)(IY:∀x∈zs,scope.names.lookup x=some .local)(JV:JD zs es)(J9:∀e,(assignEach es e).length=zs.length)(FN:∀e,(assignEach es e).findIdx? (·.1)=none):
  PG (Fg X (AN++zs) scope ce cl C s H fp) (.Tuple es tk tp) (Jm X.K zs.length (MZ AN.length zs.length)):=
 jD (X:=Fg X (AN++zs) scope ce cl C s H fp) c (lR S.nd (i:=AN.length) JV λj y b=>by
  have a:=Bi b;exact⟨by show(AN++zs)[AN.length+j]?=_;rw[E8 (by omega),Nat.add_sub_cancel_left];exact b,.inl (vg (IY y a)),vg (IY y a)⟩) (J9 _) (FN _)
theorem Cv.G(S:Cv N outer scope x AN js):FI N outer scope none [x] AN js:=.iC S.kind S.LX S.loc S.at' S.cell S.free S.all S.nd
theorem wD(b:X.calm=true)(S:Cv X.N X.env.scope scope x AN js)(hi:PI X (.Name x px) iter wi)
  (D0:∀fp C s H,HS (FO X (AN++[x]) scope (Bj X.env.cells scope.names) C s H fp) ifs tt) (Cz:∀fp C s H,PE (FO X (AN++[x]) scope (Bj X.env.cells scope.names) C s H fp) elt te)
  (a:∀v,foldedSetIterable iter X.env v=pure v:=by intro _;rfl):PE X (.ListComp elt [⟨.Name x px,iter,ifs,0⟩] scope pos) (JY wi js tt te):=
 WZ (CW:=λJ O H1 acc Q=>M5 J js tt te O H1 acc Q) (Z3 S.G) b S.G hi (λ_ _ _ _=>Xn S.G (.inl S.IY)) D0 Cz a
theorem zp{y:Str}(c:X.N.Nodup)(Cm:X.N[i]?=some y)(a:Loc X.env.scope y)(b:X.calm=true)(S:Cv X.N X.env.scope scope x AN js)(hi:PI X (.Name x px) iter wi)
  (D0:∀fp C s H,HS (FO X (AN++[x]) scope (Bj X.env.cells scope.names) C s H fp) ifs tt) (Cz:∀fp C s H,PE (FO X (AN++[x]) scope (Bj X.env.cells scope.names) C s H fp) elt te)
  (Jc:swapsWith (.ListComp elt [⟨.Name x px,iter,ifs,0⟩] scope pos) (some (.Name y py)) Fs.line X.env=pure true:=by rfl)
  (hf:X.fn y=true∨X.env.scope.names.lookup y=some .local:=by first|exact .inl rfl|exact .inr rfl|assumption)
  (hs:∀v,foldedSetIterable iter X.env v=pure v:=by intro _;rfl):PS X (.Assign [.Name y py] (.ListComp elt [⟨.Name x px,iter,ifs,0⟩] scope pos) Fs) (Ei (JY wi js tt te) (C7 i)):=
 mf (CW:=λJ O H1 acc Q=>M5 J js tt te O H1 acc Q) (Z3 S.G) c Cm a b S.G hi (λ_ _ _ _=>Xn S.G (.inl S.IY)) D0 Cz Jc hf hs
end
def GS(K:ZHa)(tp:Bool)(H:Hp)(a:Addr)(xs:List V):Prop:=match tp with
 |false=>AW K H a xs
 |true=>B7 K H a xs
theorem GS.or{K:ZHa}{tp:Bool}{xs:List V}(h:GS K tp H a xs):AW K H a xs∨B7 K H a xs:=by
 cases tp
 .exact .inl h
 .exact .inr h
noncomputable def Ss(K:ZHa)(tp:Bool)(a:Addr)(xs:List V):It:=
 ⟨λi H=>GS K tp H a xs/\i<xs.length,λi H x H'=>H'=H/\xs[i]?=some x,λi H=>GS K tp H a xs/\xs.length<=i⟩
theorem ZEV{P:Program}{K:ZHa}(a it:Addr)(xs:List V):Turn P w K tg (Ss K false a xs) [it] it (λi h=>h.IsListIter it a i) where
 mem:=by simp
 obj:=(NG (P:=P) (w:=w) (K:=K) (tg:=tg) a it).obj
 keep:=(NG (P:=P) (w:=w) (K:=K) (tg:=tg) a it).keep
 item:=by
  intro X f hw g d i ZB s O H E I c st b;obtain⟨j,hi⟩:=b;refine AO ((NG (P:=P) (w:=w) (K:=K) (tg:=tg) a it).item X f hw g d i ZB s O H E I c st ⟨xs,xs[i],j,by simp[hi]⟩) λr m AG=>by obtain⟨u,e,h⟩:=AG;exact⟨u,e,AO h λ_ s2 CF=>by obtain⟨x,H',I',k,y,Df,l⟩:=CF;exact⟨x,H',I',k,⟨y.1,y.2 xs j⟩,Df,l⟩⟩
 done:=by
  intro X f hw g d i ZB s O H E I c st b;exact(NG (P:=P) (w:=w) (K:=K) (tg:=tg) a it).done X f hw g d i ZB s O H E I c st ⟨xs,b.1,b.2⟩
 self:=(NG (P:=P) (w:=w) (K:=K) (tg:=tg) a it).self
theorem wx{P:Program}{K:ZHa}(a it:Addr)(xs:List V):Turn P w K tg (Ss K true a xs) [it] it (λi h=>h.IsTupleIter it a i) where
 mem:=by simp
 obj:=(QX (P:=P) (w:=w) (K:=K) (tg:=tg) a it).obj
 keep:=(QX (P:=P) (w:=w) (K:=K) (tg:=tg) a it).keep
 item:=by
  intro X f hw g d i ZB s O H E I c st b;obtain⟨j,hi⟩:=b;refine AO ((QX (P:=P) (w:=w) (K:=K) (tg:=tg) a it).item X f hw g d i ZB s O H E I c st ⟨xs,xs[i],j,by simp[hi]⟩) λr m AG=>by obtain⟨u,e,h⟩:=AG;exact⟨u,e,AO h λ_ s2 CF=>by obtain⟨x,H',I',k,y,Df,l⟩:=CF;exact⟨x,H',I',k,⟨y.1,y.2 xs j⟩,Df,l⟩⟩
 done:=by
  intro X f hw g d i ZB s O H E I c st b;exact(QX (P:=P) (w:=w) (K:=K) (tg:=tg) a it).done X f hw g d i ZB s O H E I c st ⟨xs,b.1,b.2⟩
 self:=(QX (P:=P) (w:=w) (K:=K) (tg:=tg) a it).self
def R9(K:ZHa)(tl:TE):TI:=λO H R=>tl O H λx H1=>∃tp a xs,x=.ref a/\GS K tp H1 a xs/\R (Ss K tp a xs) H1
noncomputable def YD(z:Str):It:=⟨λi _=>i<z.cps.size,λi H x H'=>H'=H/\∃c,z.cps[i]?=some c/\x=.str ⟨#[c]⟩,λi _=>i=z.cps.size⟩
theorem cg{P:Program}{K:ZHa}{t:Tok}{ty:String}
  (C:["enumerate","zip","dict_itemiterator","dict_reverseitemiterator","odict_iterator","itertools.zip_longest","itertools.pairwise"].contains ty=false)
  (W:∀A:Around,A.handled=none->Walks P w A it [it] [it] z.cps.size (SignAt z) (λi h=>h.IsStrIter it ty z t i))
  (self:∀(A:Around)(i:Nat)(s:Shared)(Q:Value->Shared->Prop)(E:Value->Shared->Prop),s.heap.IsStrIter it ty z t i->Q (.ref it) s->wpAny (model P w) A (pyIter (.ref it)) Q E s) :
  Turn P w K tg (YD z) [it] it (λi h=>h.IsStrIter it ty z t i) where
 mem:=by simp
 obj:=λi h st b a=>by
  have e:b=it:=by simpa using a
  subst e;obtain⟨o,e,c,d⟩:=st;exact⟨o,e,λv z=>by rw[d]at z;cases z⟩
 keep:=λi h h' st k=>let ⟨o,e,r⟩:=st;⟨o,k it (by simp) o e,r⟩
 item:=by
  intro X m hw n l i ZB s O H E I f st j;subst m hw n;obtain⟨f0,y,D,x,q,p⟩:=f it (by simp);refine(W X.A (I.ok.hd l)).item i s _ _ j st λv h' tk⟨c,u,RW,B⟩Df kp=>?_;subst B;have F:Inv X ZB O H { s with heap:=h',toks:=tk }:=I.turned (t':=tk) (λb o a e=>kp b o (by simpa using a) e) f0 y x q p
  obtain⟨o,e,cl,d⟩:=id Df;exact⟨_,rfl,Rl (s:={ s with heap:=h',toks:=tk }) e cl d C ⟨.str ⟨#[c]⟩,H,F,⟨u,rfl⟩,⟨rfl,c,RW,rfl⟩,Df,λb a=>(f b a).1⟩⟩
 done:=by
  intro X m hw n l i ZB s O H E I f st j;subst m hw n;obtain⟨f0,y,D,x,q,p⟩:=f it (by simp);have g:i=z.cps.size:=j;subst g;exact(W X.A (I.ok.hd l)).done s _ _ st λh' tk kp=>⟨rfl,I.turned (t':=tk) (λb o a e=>kp b o (by simpa using a) e) f0 y x q p⟩
 self:=self
def l9(tl:TE):TI:=λO H R=>tl O H λx H1=>∃z,x=.str z/\R (YD z) H1
theorem E7{p:Addr}(h:H p=none)(o:HO):AU H (upd H p o):=λb u q=>by rw[An (Di q h)];exact q
theorem vm{Q:VK}(xs:List V)(f:V->Bool)(g:V->V)(B8:H1 acc=none)(z:xs.length<=sizeLine)
  (n:∀i H,AU H1 H->i<xs.length->J.go i H) (Hm:∀H,AU H1 H->J.stop xs.length H) (p:∀i H x H',J.Ep i H x H'->H'=H/\xs[i]?=some x)
  (r:∀(i:Nat)(x:V)(H':Hp)(Q':Bool->Hp->Prop),xs[i]?=some x->AU H1 H'->(∀Hf,AU H' Hf->Q' (f x) Hf)->tt (Bc js O++[some x]) H' Q')
  (s:∀(i:Nat)(x:V)(H':Hp)(Q':VK),xs[i]?=some x->f x=true->AU H1 H'->(∀Hf,AU H' Hf->Q' (g x) Hf)->te (Bc js O++[some x]) H' Q')
  (hd:∀H',AU H1 H'->H' acc=some (.lst ((xs.filter f).map g))->Q (.ref acc) H'):M5 J js tt te O H1 acc Q:=by
 refine⟨λi m H=>m=xs.length - i/\i<=xs.length/\AU H1 H/\H acc=some (.lst (((xs.take i).filter f).map g)),⟨xs.length,by simp,Cg _,E7 B8 _,BC⟩,?_⟩;rintro i m H2⟨rfl,hi,a,j⟩
 by_cases h:i<xs.length
 .refine .inr ⟨n i H2 a h,λx H3 y=>?_⟩;obtain⟨e,hx⟩:=p i H2 x H3 y;subst e;have v:(xs.take (i+1))=xs.take i++[x]:=by
   have u:xs[i]=x:=by
    rw[AX h]at hx;exact BY hx
   rw[Qs h,u]
  have l:List.filter f (xs.take (i+1))=(xs.take i).filter f++(if f x=true then[x]else[]):=by
   rw[v,Uu];congr 1
   by_cases c:f x=true <;> simp[c]
  refine r i x _ _ hx a λH4 s4=>?_
  by_cases c:f x=true
  .rw[pT c];refine s i x H4 _ hx c (a.trans s4) λH5 k=>?_;have d:(((xs.take i).filter f).map g).length<sizeLine:=by
    rw[AD];have:=Ux f (xs.take i);rw[DR]at this;omega
   refine⟨_,k _ _ (s4 _ _ j),d,xs.length - (i+1),by omega,rfl,h,λb o q=>?_,?_⟩
   .have t:b≠acc:=by rintro rfl;rw[B8]at q;cases q
    rw[An t];exact k _ _ (s4 _ _ (a b o q))
   .rw[BC,l,pT c,C0];rfl
  .have w:f x=false:=by simpa using c
   rw[w];rw[pL (by decide)];refine⟨xs.length - (i+1),by omega,rfl,h,a.trans s4,?_⟩;rw[l,pL c,CB];exact s4 _ _ j
 .have e:i=xs.length:=by omega
  subst e;refine .inl ⟨Hm H2 a,hd H2 a ?_⟩;rw[FR]at j;exact j
noncomputable def Gr(z:Str):List V:=z.cps.toList.map λc=>.str ⟨#[c]⟩
theorem Vv(z:Str):(Gr z).length=z.cps.size:=by unfold Gr;simp
theorem sZ{Q:VK}(f:V->Bool)(g:V->V)(B8:H1 acc=none)(a:z.cps.size<=sizeLine)
  (b:∀(i:Nat)(x:V)(H':Hp)(Q':Bool->Hp->Prop),(Gr z)[i]?=some x->AU H1 H'->(∀Hf,AU H' Hf->Q' (f x) Hf)->tt (Bc js O++[some x]) H' Q')
  (d:∀(i:Nat)(x:V)(H':Hp)(Q':VK),(Gr z)[i]?=some x->f x=true->AU H1 H'->(∀Hf,AU H' Hf->Q' (g x) Hf)->te (Bc js O++[some x]) H' Q')
  (hd:∀H',AU H1 H'->H' acc=some (.lst (((Gr z).filter f).map g))->Q (.ref acc) H'):M5 (YD z) js tt te O H1 acc Q:=by
 refine vm (Gr z) f g B8 (by rw[Vv];exact a) (λi H s hi=>?_) (λH s=>?_) (λi H x H' y=>?_) b d hd
 .rw[Vv]at hi;exact hi
 .show(Gr z).length=z.cps.size;exact Vv z
 .obtain⟨e,c,h,hx⟩:=y;refine⟨e,?_⟩;subst hx;unfold Gr;rw[Aj,nA,h];rfl
def HX(xs ys:List V):Bool:=xs.length == ys.length && (List.range xs.length).all λj=>E6 (xs.getD j .AE) (ys.getD j .AE)
theorem O2{xs:List V}{x:V}(h:xs[j]?=some x):xs.getD j .AE=x:=by rw[DN,h];rfl
theorem lC{xs:List V}{x:V}(h:xs.all DM=true)(e:xs[j]?=some x):DM x=true:=List.all_eq_true.mp h x (Bi e)
theorem Qy{xs:List V}{Bq:List Value}(d:Vals xs A5)(c:Vals ys Bq)(k:xs.all DM=true)(i:ys.all DM=true):
  ∀j(h1:j<A5.toArray.size)(h2:j<Bq.toArray.size),SeqAt.EqAt A s A5.toArray[j] Bq.toArray[j] (E6 (xs.getD j .AE) (ys.getD j .AE)):=λj h1 h2=>by
 have l1:=d.length;have l2:=c.length;have o:j<A5.length:=by simpa using h1
 have n:j<Bq.length:=by simpa using h2
 have b:xs[j]?=some (xs[j]'(by omega)):=AX _;have a:ys[j]?=some (ys[j]'(by omega)):=AX _;obtain⟨u,f,h⟩:=d.get b;obtain⟨v,e,g⟩:=c.get a;rw[AX o]at f;rw[AX n]at e;have m:A5[j]=u:=BY f;have l:Bq[j]=v:=BY e;rw[O2 b,O2 a];have q:=Sl (A:=A) (s:=s) h g (lC k b) (lC i a);rw[<- m,<- l]at q
 simpa using q
def OA(K:ZHa)(neg:Bool):R2:=λx y H Q=>∃p q xs ys,x=.ref p/\y=.ref q/\((AW K H p xs/\AW K H q ys)∨(B7 K H p xs/\B7 K H q ys))/\xs.all DM=true/\ys.all DM=true/\
 Q (.bl (if neg then !HX xs ys else HX xs ys)) H
theorem Nv{xs:List V}(h:xs.length≠ys.length):HX xs ys=false:=by
 unfold HX;have:(xs.length == ys.length)=false:=by simpa using h
 rw[this,Bool.false_and]
theorem NM{xs:List V}(h:xs.length=ys.length):HX xs ys=(List.range xs.length).all λj=>E6 (xs.getD j .AE) (ys.getD j .AE):=by
 unfold HX;have:(xs.length == ys.length)=true:=by simpa using h
 rw[this,nC]
theorem oT(f:X.A.units<cLine):BU X (compareOp .Eq) (OA X.K false):=by
 intro ZB s O H x y v u Q I r o h;obtain⟨p,q,xs,ys,rfl,rfl,t,l,k,w⟩:=h;cases r;cases o;have b:Q (.bl (HX xs ys)) H:=w;rcases t with⟨i,g⟩|⟨i,g⟩
 .obtain⟨A5,d,p1,n⟩:=I.list i;obtain⟨Bq,c,p2,m⟩:=I.list g;have l1:=d.length;have l2:=c.length
  by_cases a:xs.length=ys.length
  .refine SeqAt.eq_listAt (e:=λj=>E6 (xs.getD j .AE) (ys.getD j .AE)) p1.isList p2.isList (by simp;omega) f (Qy d c l k) ⟨.bl _,H,I,rfl,?_⟩;rw[NM a]at b;simp only[Cq,<- l1];exact b
  .rw[Nv a]at b;exact SeqAt.eq_list_lengthsAt p1.isList p2.isList (by simp;omega) f ⟨.bl false,H,I,rfl,b⟩
 .obtain⟨A5,d,p1,n⟩:=I.tuple i;obtain⟨Bq,c,p2,m⟩:=I.tuple g;have l1:=d.length;have l2:=c.length;refine SeqAt.eq_tupleAt (e:=λj=>E6 (xs.getD j .AE) (ys.getD j .AE)) p1 p2 f (Qy d c l k) ⟨.bl _,H,I,rfl,?_⟩;simp only[Cq,<- l1,<- l2]
  by_cases a:xs.length=ys.length
  .rw[NM a]at b;have:(xs.length == ys.length)=true:=by simpa using a
   rw[this,nB,<- a,nq];exact b
  .rw[Nv a]at b;have:(xs.length == ys.length)=false:=by simpa using a
   rw[this,bC];exact b
theorem aq(f:X.A.units<cLine):BU X (compareOp .NotEq) (OA X.K true):=by
 intro ZB s O H x y v u Q I r o h;obtain⟨p,q,xs,ys,rfl,rfl,t,l,k,w⟩:=h;cases r;cases o;have b:Q (.bl (!HX xs ys)) H:=w;rcases t with⟨i,g⟩|⟨i,g⟩
 .obtain⟨A5,d,p1,n⟩:=I.list i;obtain⟨Bq,c,p2,m⟩:=I.list g;have l1:=d.length;have l2:=c.length
  by_cases a:xs.length=ys.length
  .refine SeqAt.RcNeAt.lists (e:=λj=>E6 (xs.getD j .AE) (ys.getD j .AE)) p1.isList p2.isList (by simp;omega) f (Qy d c l k) _ _ _ _ ⟨.bl _,H,I,rfl,?_⟩;rw[NM a]at b;simp only[Cq,<- l1];exact b
  .rw[Nv a]at b;exact SeqAt.RcNeAt.lists_lengths p1.isList p2.isList (by simp;omega) f _ _ _ _ ⟨.bl true,H,I,rfl,b⟩
 .obtain⟨A5,d,p1,n⟩:=I.tuple i;obtain⟨Bq,c,p2,m⟩:=I.tuple g;have l1:=d.length;have l2:=c.length;refine SeqAt.RcNeAt.tuples (e:=λj=>E6 (xs.getD j .AE) (ys.getD j .AE)) p1 p2 f (Qy d c l k) _ _ _ _ ⟨.bl _,H,I,rfl,?_⟩;simp only[Cq,<- l1,<- l2]
  by_cases a:xs.length=ys.length
  .rw[NM a]at b;have:(xs.length == ys.length)=true:=by simpa using a
   rw[this,nB,<- a,nq];exact b
  .rw[Nv a]at b;have:(xs.length == ys.length)=false:=by simpa using a
   rw[this,bC];exact b
theorem ZE6{bs:List Bool}(r:Vals (bs.map V.bl) A5){v:Value}(e:A5[i]?=some v):v=.bool (bs.getD i false):=by
 have c:=r.length;rw[AD]at c;have hi:i<A5.length:=(List.getElem?_eq_some_iff.mp e).1;have d:(bs.map V.bl)[i]?=some (.bl (bs[i]'(by omega))):=by rw[Aj,AX (by omega)];rfl
 obtain⟨u,a,b⟩:=r.get d;rw[e]at a;cases a;cases b;rw[DN,AX (by omega)];rfl
theorem range_all(bs:List Bool):(List.range bs.length).all (λi=>bs.getD i false)=bs.all id:=by
 rw[Kg,Hq,Hq];constructor
 .intro h x hx;obtain⟨i,hi,rfl⟩:=List.mem_iff_getElem.mp hx;have:=h i (List.mem_range.mpr hi);rw[DN,AX hi]at this;exact this
 .intro h i hi;rw[DN,AX (List.mem_range.mp hi)];exact h _ (Hs _)
theorem kU(j:X.calm=true):Du X (.builtin "all") (λxs H Q=>∃(p:Addr)(bs:List Bool),xs=[.ref p]/\AW X.K H p (bs.map V.bl)/\Q (.bl (bs.all id)) H):=by
 intro ZB s O H xs us Q I r h;obtain⟨p,bs,rfl,g,q⟩:=h;obtain⟨u,rfl,d⟩:=vals1 r;cases d;obtain⟨A5,a,pl,m⟩:=I.list g;have c:=a.length;rw[AD]at c;refine call_all_walk (xK pl.isList ?_);obtain⟨o,n,ho,_⟩:=id pl;have l:p≠s.heap.objs.size:=D6 (BH ho);refine⟨s.heap.objs.size,_,_,_,_,_,λi=>bs.getD i false,rfl,Walks.list (by rw[Around.in1_handled];exact I.ok.hd j) _ p l A5.toArray,⟨⟨_,Co _ rfl,rfl,rfl⟩,pl.isList.push _⟩,λi v s' Q' E' f EG=>?_,λh' tk kp=>?_⟩
 .have k:v=.bool (bs.getD i false):=ZE6 a (by simpa using f)
  rw[k];exact qK EG
 .refine⟨.bl _,H,I.kept (t':=tk) λb ob e=>kp b ob (by simpa using D6 (BH e)) (CG _ e),rfl,?_⟩
  rw[Cq,<- c,range_all];exact q
def Rq:V->List V->Hp->VK->Prop:=λx vs H Q=>∃(l:Addr)(xs:List V)(j:Int)(y:V),x=.ref l/\vs=[.int j,y]/\H l=some (.lst xs)/\0<=j/\j<=xs.length/\xs.length<sizeLine/\Q .AE (upd H l (.lst (xs.take j.toNat++y::xs.drop j.toNat)))
theorem tY:Ph X "list.insert" Rq:=by
 intro ZB s O H x vs v us Q I f g h;obtain⟨l,xs,j,y,rfl,rfl,c,Qx,o,A,q⟩:=h;cases f;obtain⟨w,b,rfl,i,d⟩:=g.two;obtain⟨t,rfl⟩:=i;obtain⟨z,A5,n,r,m,e⟩:=I.Md c;have h2:j<2 ^ 63:=by
  have B:(xs.length:Int)<=(sizeLine:Int):=Int.ofNat_le.mpr z;have C:((sizeLine:Nat):Int)<2 ^ 63:=by exact_mod_cast Iz
  omega
 have a:(!Builtin.List.listFitsIndex j)=true->False:=by
  have h1:Builtin.List.listFitsIndex j=true:=by
   unfold Builtin.List.listFitsIndex;rw[GX];exact⟨pf (by omega),pf h2⟩
  rw[h1];exact λh=>nomatch h
 have u:A5.toArray.size<=sizeLine:=Eb (ng (List.size_toArray.trans m.symm)) z;refine x8 bS ⟨_,e,rfl⟩ PySem.F.entry_list_insert (PySem.F.args_list_insert_3 _ _ _) (PySem.AutoSeq1.list_insert_list_int_val_1 l A5.toArray n j t b a u) ⟨e,?_⟩;refine⟨.AE,_,I.UZ (its':=A5.take j.toNat++b::A5.drop j.toNat) c e ?_ ((r.take _).append (.cons d (r.drop _))) ?_,rfl,q⟩
 .have p:¬ (j<0):=by omega
  have k:min j.toNat A5.toArray.size=j.toNat:=by simp;omega
  simp only[p,if_false,k];apply Array.toList_inj.mp;simp;exact Jh (by simp)
 .rw[Bt,CH,DR,Uw];omega
def OL(x:V)(xs:List V):Nat:=xs.countP λy=>E6 y x
theorem ZT{x:V}:∀{xs:List V}{us:List Value},Vals xs us->xs.all DM=true->us.countP (Dv x)=OL x xs
 |_,_,.nil,_=>rfl
 |y::xs,u::us,.cons r t,h=>by
  have h1:DM y=true/\xs.all DM=true:=by simpa[Qj]using h
  unfold OL;rw[nJ,nJ,XM r h1.1,ZT t h1.2];rfl
def wQ(K:ZHa):V->List V->Hp->VK->Prop:=λx vs H Q=>∃l xs y,x=.ref l/\vs=[y]/\AW K H l xs/\DM y=true/\xs.all DM=true/\Q (.int (OL y xs)) H
theorem ZC5:Ph X "list.count" (wQ X.K):=by
 intro ZB s O H x vs v us Q I e f h;obtain⟨l,xs,y,rfl,rfl,i,j,fs,q⟩:=h;cases e;obtain⟨u,rfl,g⟩:=f.one;obtain⟨A5,r,pl,k⟩:=I.list i;obtain⟨⟨c,d,m,b⟩,n,ho,a,hd,FQ⟩:=id pl;simp only at a hd FQ;subst a;subst hd;subst FQ;refine x8 F.slot_list_count ⟨_,ho,rfl⟩ F.entry_list_count (F.args_list_count_2 _ _) (SeqAt.list_countAt l A5.toArray n none b u (Dv y)) ⟨ho,λz L7=>JW g j r fs z (by simpa using L7),?_⟩
 refine⟨.int _,H,I.tok _,⟨_,rfl⟩,?_⟩;rw[ZGk,ZT r fs];exact q
def pR:V->Option Int->Option Int->Hp->VK->Prop:=λx lo hi H Q=>∃z,x=.str z/\z.length<=sizeLine/\Q (.str (Txt.slice z lo hi)) H
theorem part_of{v:Value}{o:Option Int}(p:IsPart v o):∃l:Option (Int×Tok),v=partValue l/\l.map (·.1)=o:=by
 cases p with
 |none=>exact⟨none,rfl,rfl⟩
 |int i t=>exact⟨some (i,t),rfl,rfl⟩
theorem jv:TU X pR:=by
 intro ZB s O H x v i g lo hi j Q I a e pl b h;obtain⟨z,rfl,c,q⟩:=h;obtain⟨t,rfl⟩:=a;obtain⟨l,rfl,f⟩:=part_of pl;obtain⟨u,rfl,d⟩:=part_of b;subst f;subst d;refine⟨"str", _,F.slot_str_getitem.lookup,typeIs_str _ _ _,wpAny_getItem_str_slice (l:=l) (u:=u) (st:=none) e rfl (post_val_or_str ⟨Eb (Txt.slice_le z _ _) c,λt' k=>?_⟩)⟩;exact⟨.str _,H,I.tok k,⟨t',rfl⟩,q⟩
end L2
set_option exponentiation.threshold 5000
namespace L2
variable{f p:Addr}{H:Hp}
def AA(P:Program)(w:World)(K:ZHa)(mg:ZHc)(ZS:Heap)(x:Str)(k:Nat)(ps:List Str)(sp:Sp):Prop:=
 ∃f fd,Ds P w K mg ZS GU k f fd ps sp/\Binds K fd ps []/\PySem.W.keepIn K (.ref f)=true/\mg x=some (.ref f)
section
variable{P:Program}{w:World}{K:ZHa}{mg:ZHc}{ZS:Heap}{x qual:Str}{k:Nat}{ps:List Str}{sp:Sp}{st:Stmt}{fd:FuncData}
theorem AA.mk(F:AM K x qual st f fd)(b:Binds K fd ps [])(m:mg x=some (.ref f))(h:Ds P w K mg ZS GU k f fd ps sp):AA P w K mg ZS x k ps sp:=⟨f,fd,h,b,F.kp,m⟩
variable{X:Cx}{j:Nat}{p pos:Pos}{e:Expr}{es:List Expr}{t:TA}
def Yo(K:ZHa):List V->Hp->VK->Prop:=λxs H Q=>∃(p:Addr)(ys:List V),xs=[.ref p]/\(AW K H p ys∨B7 K H p ys)/\Q (.int ys.length) H
theorem Fd:Du X (.builtin "len") (Yo X.K):=Tx
theorem O6:Gn X "list.append" Tb:=mh
theorem ZO:Gn X "list.insert" Rq:=tY
def jC(i j:Int):Prop:=i.natAbs<2 ^ 1000/\j.natAbs<2 ^ 1000
theorem fM{n:Nat}(h:n<2 ^ 1000):n.log2<1000:=by
 rcases Nat.eq_zero_or_pos n with e|e
 .subst e;exact(show(0:Nat).log2<1000 by decide)
 .exact(Nat.log2_lt (MW e)).mpr h
theorem bits_le{i:Int}(h:i.natAbs<2 ^ 1000):Builtin.Int.intBits i<=2 ^ 20:=by
 unfold Builtin.Int.intBits;split
 .exact Cg _
 .have:=fM h;have e:(2:Nat) ^ 20=1048576:=by decide
  omega
theorem KA:BU X (binaryOp .Mult) (rI jC λi j=>.int (i * j)):=So λ_ _ _ _ _ _ _ a q=>mul_int q (.of_bits (bits_le a.1) (bits_le a.2))
theorem Yt:BU X (binaryOp .FloorDiv) (rI (λ_ j=>0<j/\j.natAbs<2 ^ 1000) λi j=>.int (i / j)):=So λi j _ _ _ _ _ a q=>by
 have h1:(0:Int)<j:=a.1;have h2:=fM a.2;exact floordiv_int (by omega) (by rw[Int.fdiv_eq_ediv_of_nonneg i (by omega)];exact q) (.inl (PyProof.noPylong_of_log2 (by omega)))
theorem tq{body rest:List Stmt}{t u:TS}(e:body=st::rest)(h:PS X st t)(h2:Ek X rest u):Ek X body (Q4 t u):=by rw[e];exact wR h h2
def W8(t:TS):TS:=λD O H=>∃J:St->Hp->Prop,t { D with nx:=J } O H/\∀ σ' H',J σ' H'->D.nx σ' H'
end
def Gm(p:Addr)(H H':Hp):Prop:=∀b o,b≠p->H b=some o->H' b=some o
theorem Gm.trans{H1 H2:Hp}(a:Gm p H H1)(b:Gm p H1 H2):Gm p H H2:=λc o d e=>b c o d (a c o d e)
theorem Gm.of{H':Hp}(a:AU H H'):Gm p H H':=λc o _ e=>a c o e
theorem Gm.upd{o:HO}:Gm p H (upd H p o):=λc u a e=>by rw[An a];exact e
end L2
set_option maxHeartbeats 8000000
namespace L2
variable{ss:List Str}
noncomputable def rM(P:Program)(w:World)(a:Addr)(f:Str->Bool)(n:Nat):HO:=.ext λh=>h.SetOf (strKind P w) a f n
section
variable{X:Cx}
theorem uv{A5:List Value}(r:Vals (ss.map V.str) A5){i:Nat}{v:Value}(e:A5[i]?=some v):∃(h:i<ss.length)(t:Tok),v=.str ss[i] t:=by
 have d:=r.length;rw[AD]at d;have hi:i<A5.length:=(List.getElem?_eq_some_iff.mp e).1;have b:i<ss.length:=by omega
 have f:(ss.map V.str)[i]?=some (.str ss[i]):=by rw[Aj,AX b];rfl
 obtain⟨u,a,c⟩:=r.get f;rw[e]at a;cases a;obtain⟨t,q⟩:=c;exact⟨b,t,q⟩
end
end L2
set_option maxHeartbeats 4000000
namespace L2
variable{X:Cx}{a c e l o tg:Expr}{es ifs:List Expr}{body rest:List Stmt}{ta te to:TE}{tb:TS}{tc tt:TT}{p pos pos' px:Pos}{name x y:Str}{FU op:CmpOp}{r:List V->Hp->VK->Prop}{i j n:Nat}{ps ss:List Str}{sp:Sp}{T:String}{wi:TI}{g:TG}{w:World}{I f:Addr}
structure QE (X:Cx) (e:Expr) (t:TE):Prop where h:PE X e t
structure QT (X:Cx) (e:Expr) (t:TT):Prop where h:PT X e t
structure QW (X:Cx) (e:Expr) (t:TT):Prop where h:PW X e t
structure QA (X:Cx) (es:List Expr) (t:TA):Prop where h:PA X es t
structure QS (X:Cx) (st:Stmt) (t:TS):Prop where h:PS X st t
structure Jb (X:Cx) (st:List Stmt) (t:TS):Prop where h:Ek X st t
structure QG (X:Cx) (tg:Expr) (t:TG):Prop where h:PG X tg t
structure UN (X:Cx) (ts:List Expr) (t:HV):Prop where h:Nq X ts t
structure QI (X:Cx) (tg iter:Expr) (wi:TI):Prop where h:PI X tg iter wi
structure MG (X:Cx) (ifs:List Expr) (t:TT):Prop where h:HS X ifs t
structure QO (X:Cx) (e:Option Expr) (t:TO):Prop where h:PO X e t
section
variable{b:Expr}{rest:List Expr}{tb tc:TE}{tA Ja:TT}{t:TA}{p2 apos D9:Pos}
theorem qv(i:Nat)(j:X.N[i]?=some x:=by rfl)(hv:UW X.env.scope x:=by first|exact Or.inl rfl|exact Or.inr (Or.inl rfl)|exact Or.inr (Or.inr rfl))(hd:(x == ("__debug__":Str))=false:=by decide)
  (Hn:(x == ("__classdict__":Str))=false:=by decide):QE X (.Name x pos) (Au i):=⟨by
 intro ZB s O H Q I h;obtain⟨v,e,h⟩:=h;obtain⟨m,d,g⟩:=I.loc;obtain⟨u,r,l⟩:=g i x v j e hv;have a:EP X ZB O Q u s:=⟨v,H,I,r,h⟩;rcases l with⟨hk,f⟩|⟨hk,c,b,R7⟩
 .exact wpAny_Name (wpAny_loadName_local I.ok.kind hk d f a) hd
 .rcases hk with hk|hk
  .exact wpAny_Name (wpAny_loadName_cell I.ok.kind hk b R7 a) hd
  .exact wpAny_Name (wpAny_loadName_free I.ok.kind hk b R7 a Hn) hd⟩
theorem A8{i j pos}:QE X (.Constant (.int i) j pos) (tC (.int i)):=⟨λ_ _ _ H _ I h=>wpAny_Constant_int ⟨.int i,H,I.tok _,⟨_,rfl⟩,h⟩⟩
theorem FG{b j pos}:QE X (.Constant (.bool b) j pos) (tC (.bl b)):=⟨λ_ _ _ H _ I h=>Constant_bool ⟨.bl b,H,I,rfl,h⟩⟩
theorem JO{j pos}:QE X (.Constant .none j pos) (tC .AE):=⟨λ_ _ _ H _ I h=>Constant_none ⟨.AE,H,I,rfl,h⟩⟩
theorem BI{x j pos}:QE X (.Constant (.str x) j pos) (tC (.str x)):=⟨λ_ _ _ H _ I h=>Calls.Constant_str ⟨.str x,H,I.tok _,⟨_,rfl⟩,h⟩⟩
theorem J4{v:V}{u:Value}(b:Gl X x)(a:X.mg x=some u)(r:RelV v u)(hd:(x == ("__debug__":Str))=false:=by decide):QE X (.Name x pos) (tC v):=⟨λ_ _ _ H _ I h=>Zi I b a ⟨v,H,I,r,h⟩ hd⟩
theorem B5{op:Operator}{r:R2}(ho:BU X (binaryOp op) r)(d:QE X a ta)(c:QE X b tb):QE X (.BinOp a op b pos) (BZ r ta tb):=⟨by
 have d:=d.h;have c:=c.h;intro ZB s O H Q I h;exact wpAny_BinOp (aX d c I h λv u s2 x y H2 I2 f e q=>ho ZB s2 O H2 x y v u Q I2 f e q)⟩
theorem VR{op:UnaryOp}{r:V->Hp->VK->Prop}(ho:TK X (unaryOp op) r)(b:QE X a ta):QE X (.UnaryOp op a pos) (UB r ta):=⟨by
 have b:=b.h;intro ZB s O H Q I h;exact UnaryOp_ (AO (b ZB s O H _ I h) λv c AG=>by obtain⟨x,H1,I1,d,e⟩:=AG;exact ho ZB c O H1 x v Q I1 d e)⟩
theorem ZG9{r:R2}(ho:BU X (compareOp op) r)(d:QE X a ta)(c:QE X b tb)(g:behindInMarks op b=false):QE X (.Compare a [op] [b] pos) (BZ r ta tb):=⟨by
 have d:=d.h;have c:=c.h;intro ZB s O H Q I h;exact wpAny_Compare1 (aX d c I h λv u s2 x y H2 I2 f e q=>ho ZB s2 O H2 x y v u Q I2 f e q) g⟩
theorem dO{r:R2}(ho:BU X (compareOp op) r)(e:QE X a ta)(d:QE X b tb)(c:behindInMarks op b=false):QT X (.Compare a [op] [b] pos) (LV (BZ r ta tb)):=⟨xv ho e.h d.h c⟩
theorem ZEp{r l:R2}(ho:BU X (compareOp op) r)(Ff:BU X (compareOp FU) l)(i:QE X a ta)(g:QE X b tb)(f:QE X c tc)
  (E:lastMarks [op,FU] [b,c]=false:=by with_unfolding_all rfl):QE X (.Compare a [op,FU] [b,c] pos) (ON r l ta tb tc):=⟨by
 have i:=i.h;have g:=g.h;have f:=f.h;intro ZB s O H Q I h;refine Compare_chain (AO (i ZB s O H _ I h) λv q⟨x,H1,I1,A,D⟩=>chain_link (AO (g ZB q O H1 _ I1 D) λu s2⟨y,H2,I2,j,C⟩=>
  AO (ho ZB s2 O H2 x y v u _ I2 A j C) λd p⟨z,H3,I3,w,k,e,m⟩=>?_)) E
 subst e;cases w;refine qK ?_;cases k with
 |false=>exact ite_ff ⟨.bl false,H3,I3,rfl,m⟩
 |true=>exact ite_tt (chain_last (AO (f ZB p O H3 _ I3 m) λo s4⟨n,H4,I4,t,B⟩=>Ff ZB s4 O H4 y n u o Q I4 j t B))⟩
theorem bc{r d:R2}(ho:BU X (compareOp op) r)(Ff:BU X (compareOp FU) d)(i:QE X a ta)(g:QE X b tb)(f:QE X c tc)
  (e:lastMarks [op,FU] [b,c]=false:=by with_unfolding_all rfl):QT X (.Compare a [op,FU] [b,c] pos) (LV (ON r d ta tb tc)):=⟨wt ho Ff i.h g.h f.h e⟩
theorem OH{op}(h:QE X a ta):QE X (.BoolOp op [a] pos) ta:=⟨by have h:=h.h;exact λZB s O H Q I hw=>BoolOp_one (h ZB s O H Q I hw)⟩
theorem YF(f:QE X a ta)(e:QE X (.BoolOp .And (b::rest) pos) tb):QE X (.BoolOp .And (a::b::rest) pos) (Yp ta tb):=⟨by
 have f:=f.h;have e:=e.h;intro ZB s O H Q I h;refine BoolOp_and (AO (f ZB s O H _ I h) λv g Dm=>?_);obtain⟨x,H1,I1,i,d⟩:=Dm;obtain⟨c,rfl,d⟩:=d;cases i;refine qK ?_;cases c with
 |true=>exact e ZB g O H1 Q I1 d
 |false=>exact⟨.bl false,H1,I1,rfl,d⟩⟩
theorem mJ(f:QE X a ta)(e:QE X (.BoolOp .Or (b::rest) pos) tb):QE X (.BoolOp .Or (a::b::rest) pos) (XT ta tb):=⟨by
 have f:=f.h;have e:=e.h;intro ZB s O H Q I h;refine BoolOp_or (AO (f ZB s O H _ I h) λv g Dm=>?_);obtain⟨x,H1,I1,i,d⟩:=Dm;obtain⟨c,rfl,d⟩:=d;cases i;refine qK ?_;cases c with
 |false=>exact e ZB g O H1 Q I1 d
 |true=>exact⟨.bl true,H1,I1,rfl,d⟩⟩
theorem gm(d:QE X a ta):QE X (.UnaryOp .Not a pos) (Xj ta):=⟨by
 have d:=d.h;intro ZB s O H Q I h;refine UnaryOp_ (AO (d ZB s O H _ I h) λv f Dm=>?_);obtain⟨x,H1,I1,e,b⟩:=Dm;obtain⟨c,rfl,b⟩:=b;cases e;exact not_of (qK ⟨.bl (!c),H1,I1,rfl,b⟩)⟩
theorem Sw(b:QT X a tA):QW X (.BoolOp .And [a] pos) tA:=⟨by
 have b:=b.h;intro d ZB s O H Q I h;refine isTrue_and (AO (b ZB s O H Q I h) λc f e=>?_);cases c with
 |true=>exact isTrue_and_nil e
 |false=>exact e⟩
theorem Ky(b:QT X a tA):QW X (.BoolOp .Or [a] pos) tA:=⟨by
 have b:=b.h;intro d ZB s O H Q I h;refine isTrue_or (AO (b ZB s O H Q I h) λc f e=>?_);cases c with
 |false=>exact isTrue_or_nil e
 |true=>exact e⟩
theorem RH(e:QT X a tA)(d:QW X (.BoolOp .And (b::rest) pos) Ja):QW X (.BoolOp .And (a::b::rest) pos) (Z5 tA Ja):=⟨by
 have e:=e.h;have d:=d.h;intro g ZB s O H Q I h;refine isTrue_and (AO (e ZB s O H _ I h) λc i Dm=>?_);obtain⟨H1,I1,f⟩:=Dm;cases c with
 |true=>exact d g ZB i O H1 Q I1 f
 |false=>exact⟨H1,I1,f⟩⟩
theorem Lu(e:QT X a tA)(d:QW X (.BoolOp .Or (b::rest) pos) Ja):QW X (.BoolOp .Or (a::b::rest) pos) (Y1 tA Ja):=⟨by
 have e:=e.h;have d:=d.h;intro g ZB s O H Q I h;refine isTrue_or (AO (e ZB s O H _ I h) λc i Dm=>?_);obtain⟨H1,I1,f⟩:=Dm;cases c with
 |true=>exact⟨H1,I1,f⟩
 |false=>exact d g ZB i O H1 Q I1 f⟩
theorem QW.pt{t:TT}(h:QW X e t):QT X e t:=⟨h.h.pt⟩
theorem VE(b:QT X a tA):QT X (.UnaryOp .Not a pos) (aH tA):=⟨by
 have b:=b.h;intro ZB s O H Q I h;exact isTrue_not (b ZB s O H (λc H1=>Q (!c) H1) I h)⟩
theorem J1(h:QE X e te)(f:∀a,isTrue e X.env a=(do let v <- a;standAt e.pos;holding [v] (truthy v)):=by intro _;rfl):QT X e (tB te):=⟨by
 have h:=h.h;intro ZB s O H Q I hw;refine isTrue_plain (AO (h ZB s O H _ I hw) λv g⟨x,H1,I1,b,c⟩=>?_) (f _);obtain⟨d,rfl,q⟩:=c;cases b;exact qK ⟨H1,I1,q⟩⟩
theorem Zy(e:QT X c tA)(g:QE X a ta)(f:QE X b tb):QE X (.IfExp c a b pos) (SN tA ta tb):=⟨by
 have e:=e.h;have g:=g.h;have f:=f.h;intro ZB s O H Q I h;refine wpAny_IfExp (AO (e ZB s O H _ I h) λd i Dm=>?_);obtain⟨H1,I1,j⟩:=Dm;cases d with
 |true=>exact g ZB i O H1 Q I1 j
 |false=>exact f ZB i O H1 Q I1 j⟩
theorem A6:QA X [] BE:=⟨λ_ _ _ _ H Q I h=>Calls.spliced_nil ⟨[],H,I,.nil,h⟩⟩
theorem A0(c:QE X e te)(b:QA X es t)(a:starEach (e::es) X.env=(false,eval e X.env)::starEach es X.env:=by rfl):QA X (e::es) (Ah te t):=⟨u4 c.h b.h a⟩
theorem DZ{x1}(h:QA X es t):QE X (.Tuple es x1 pos) (Ro t):=⟨yH h.h⟩
theorem GG(h:QA X es t):QE X (.List es pos) (Yl t):=⟨uW h.h⟩
theorem L4:QO X none ZK:=⟨by
 intro ZB s O H Q I h;rw[evalPart_none];exact qC ⟨none,H,I,.none,h⟩⟩
theorem Lk(h:QE X e te):QO X (some e) (XU te):=⟨by
 have h:=h.h;intro ZB s O H Q I hw;rw[evalPart_some];refine AO (h ZB s O H _ I hw) λu c ZF=>?_;obtain⟨x,H1,I1,a,b⟩:=ZF;obtain⟨i,rfl,q⟩:=b;obtain⟨t,rfl⟩:=a;exact⟨some i,H1,I1,.int i t,q⟩⟩
theorem MI{r:V->Option Int->Option Int->Hp->VK->Prop}{lo hi:Option Expr}{tl th:TO}(y:TU X r)(i:QE X e te)(g:QO X lo tl)(f:QO X hi th):QE X (.Subscript e (.Slice lo hi none p2) pos) (aw r te tl th):=⟨by
 have i:=i.h;have g:=g.h;have f:=f.h;intro ZB s O H Q I h;refine Subscript_ (AO (i ZB s O H _ I h) λv j Dm=>?_);obtain⟨x,H1,I1,k,o⟩:=Dm;refine wpAny_Slice (AO (g ZB j O H1 _ I1 o) λd s2⟨l,H2,I2,pl,n⟩=>AO (f ZB s2 O H2 _ I2 n) λc a Lp=>?_);obtain⟨u,H3,I3,p,m⟩:=Lp;rw[evalPart_none];refine qC ?_;have B:Inv X ZB O H3 { a with heap:=a.heap.push { cls:=.type "slice", data:=.fields #[d,c,.none] } }:=I3.kept (t':=a.toks) λb ob q=>CG _ q
 obtain⟨T,id,hT,t,z⟩:=y ZB { a with heap:=a.heap.push { cls:=.type "slice", data:=.fields #[d,c,.none] } } O H3 x v d c l u a.heap.objs.size Q B k (Heap.IsSliceOf.new ..) pl p m
 show wpAny (model X.prog X.w) X.A (subscriptTail e (.Slice lo hi none p2) v (.ref a.heap.objs.size)) (EP X ZB O Q) X.xe { a with heap:=a.heap.push { cls:=.type "slice", data:=.fields #[d,c,.none] } }
 exact tail_any (ops:=[.ref a.heap.objs.size,v]) t hT z (by with_unfolding_all rfl)⟩
theorem u0{r:R2}(i:D2 X r)(d:QE X a ta)(c:QE X b tb)(g:VP b):QE X (.Subscript a b pos) (BZ r ta tb):=⟨by
 have d:=d.h;have c:=c.h;intro ZB s O H Q I h;exact Subscript_ (aX d c I h λv u s2 x y H2 I2 f e q=>i a b ZB s2 O H2 x y v u Q I2 f e q (g _ _))⟩
theorem ZBi{k:Nat}(h:AA X.prog X.w X.K X.mg X.base x k ps sp)(c:Bx j X.A)(hk:k<=j)(a:QA X (e::es) t)(d:Gl X x:=by rfl)(DJ:(x == ("__debug__":Str))=false:=by decide)
  (he:starEach (e::es) X.env=(false,eval e X.env)::starEach es X.env:=by rfl) (Cd:(backTo pos (starEach es X.env)).any (·.1)=false:=by rfl):QE X (.Call (.Name x p) (e::es) [] pos) (DK sp [] E0 t):=⟨by
 have a:=a.h;obtain⟨f,fd,F,b,kp,m⟩:=h;exact ZG1 (F.mono hk) c d m kp b .nil Sa a DJ he Cd⟩
theorem um{id:String}(k:Du X (.builtin id) r)(j:Gl X x)(i:X.mg x=none)(f:bootBuiltins x=some (.builtin id))(a:QA X (e::es) t)(g:x ≠"__name__" := by decide)(DJ:(x == ("__debug__":Str))=false:=by decide)
  (he:starEach (e::es) X.env=(false,eval e X.env)::starEach es X.env:=by rfl) (Cd:(backTo pos (starEach es X.env)).any (·.1)=false:=by rfl):QE X (.Call (.Name x p) (e::es) [] pos) (FP r t):=⟨by
 have a:=a.h;intro ZB s O H Q I h;refine sG (Li I j i f ?_ g DJ);exact PyProof.Rows.callWith_builtin1 (AO (a pos ZB s O H _ I h) λus b AG=>by obtain⟨vs,H1,I1,c,d⟩:=AG;exact k ZB b O H1 vs us Q I1 c d) he Cd⟩
theorem vV(k:Du X (.type T) r)(j:Gl X x)(i:X.mg x=none)(f:bootBuiltins x=some (.type T))(a:QA X (e::es) t)(g:x ≠"__name__" := by decide)(DJ:(x == ("__debug__":Str))=false:=by decide)
  (he:starEach (e::es) X.env=(false,eval e X.env)::starEach es X.env:=by rfl) (Cd:(backTo pos (starEach es X.env)).any (·.1)=false:=by rfl):QE X (.Call (.Name x p) (e::es) [] pos) (FP r t):=⟨by
 have a:=a.h;intro ZB s O H Q I h;refine sG (Li I j i f ?_ g DJ);exact V4 (AO (a pos ZB s O H _ I h) λus b AG=>by obtain⟨vs,H1,I1,c,d⟩:=AG;exact k ZB b O H1 vs us Q I1 c d) he Cd⟩
theorem rG{id:String}{r:V->List V->Hp->VK->Prop}(d:PlainAttrs T)(slot:Slot T name id)(Lz:typeOf (.builtin id)=pure (.type "method_descriptor"))(e:Gn X id r)(ho:QE X o to)
  (M0:attributeBase o name X.env (eval o X.env)=eval o X.env:=by rfl) (Ls:(apos.endLine == D9.line)=true:=by rfl):QE X (.Call (.Attribute o name apos) [] [] D9) (Xl X.K T r to):=⟨by
 have ho:=ho.h;intro ZB s O H Q I h;refine wpAny_Call_method0_late M0 Ls (AO (ho ZB s O H _ I h) λv b ZF=>?_);obtain⟨x,H1,I1,a,ty,c⟩:=ZF;obtain⟨h1,h2⟩:=l5 I1 a ty;exact⟨T,id,d,slot,Lz,h1,h2,ZGP rfl (PySem.evalArgs_none (e ZB b O H1 x [] v [] Q I1 a .nil c))⟩⟩
theorem FH{id:String}{r:V->List V->Hp->VK->Prop}(k:PlainAttrs T)(slot:Slot T name id)(Lz:typeOf (.builtin id)=pure (.type "method_descriptor"))(l:Gn X id r)(ho:QE X o to)(a:QA X (e::es) t)
  (M0:attributeBase o name X.env (eval o X.env)=eval o X.env:=by rfl)
  (WE:((backTo D9 (starEach (e::es) X.env)).all (λx=>!x.1) && (backToKw D9 (keywordEach [] X.env)).all (λx=>x.1.isSome)
   && decide ((e::es).length+([]:List Keyword).length+(if([]:List Keyword).isEmpty then 0 else 1)<30))=true:=by rfl)
  (Ls:(apos.endLine == D9.line)=true:=by rfl) (hs:starEach (e::es) X.env=(false,eval e X.env)::starEach es X.env:=by rfl) (VO:(backTo D9 (starEach es X.env)).any (·.1)=false:=by rfl) :
  QE X (.Call (.Attribute o name apos) (e::es) [] D9) (Fy X.K T r to t):=⟨by
 have ho:=ho.h;have a:=a.h;intro ZB s O H Q I h;refine wpAny_Call_method_late M0 WE Ls rfl (AO (ho ZB s O H _ I h) λv d g=>?_);obtain⟨x,H1,I1,b,ty,j⟩:=g;obtain⟨h1,h2⟩:=l5 I1 b ty;refine⟨T,id,k,slot,Lz,h1,h2,?_⟩;have c:=a D9 ZB d O H1 _ I1 j;rw[hs]at c ⊢;refine ZGP (by show(false || (backTo D9 (starEach es X.env)).any (·.1))=false;rw[VO] <;> rfl) (Calls.evalArgs_plain ?_)
 exact AO c λus s2 AG=>by obtain⟨vs,H2,I2,f,i⟩:=AG;exact l ZB s2 O H2 x vs v us Q I2 b f i⟩
variable{elt iter:Expr}{scope:Scope}{AN:List Str}{js:List Nat}
theorem CS{tl:TE}(f:QE X l tl):QI X tg l (R9 X.K tl):=⟨by
 have f:=f.h;intro ZB s O H R I h;refine AO (f ZB s O H _ I h) λv c⟨x,H1,I1,j,k⟩=>?_;obtain⟨tp,a,xs,e,g,q⟩:=k;subst e;cases j;have d:∀b∈[c.heap.objs.size],Ey X ZB H1 b:=λb n=>by
  have e:b=c.heap.objs.size:=by simpa using n
  subst e;exact I1.LN (As _) (I1.AY.fresh (As _))
 cases tp with
 |false=>
  obtain⟨A5,i,p,m⟩:=I1.list g;refine xK p.isList ?_;exact⟨c.heap.objs.size,[c.heap.objs.size],_,_,H1,rfl,I1.kept (t':=c.toks) λb o e=>CG _ e,ZEV a _ xs,⟨_,Co _ rfl,rfl,rfl⟩,d,q⟩
 |true=>
  obtain⟨A5,i,p,m⟩:=I1.tuple g;refine yP (show c.heap.IsTuple a A5.toArray from p) ?_;exact⟨c.heap.objs.size,[c.heap.objs.size],_,_,H1,rfl,I1.kept (t':=c.toks) λb o e=>CG _ e,wx a _ xs,⟨_,Co _ rfl,rfl,rfl⟩,d,q⟩⟩
theorem zV{tl:TE}(d:QE X l tl):QI X tg l (l9 tl):=⟨by
 have d:=d.h;intro ZB s O H R I h;refine AO (d ZB s O H _ I h) λv a⟨x,H1,I1,i,j⟩=>?_;obtain⟨z,e,q⟩:=j;subst e;obtain⟨t,rfl⟩:=i;have c:∀b∈[a.heap.objs.size],Ey X ZB H1 b:=λb k=>by
  have e:b=a.heap.objs.size:=by simpa using k
  subst e;exact I1.LN (As _) (I1.AY.fresh (As _))
 have kp:∀(ob:Obj),Inv X ZB O H1 { a with heap:=a.heap.push ob }:=λob=>I1.kept (t':=a.toks) λb o e=>CG _ e
 cases g:z.cps.all (· < 128)
 .refine wpAny_pyIter_wide g ?_;exact⟨a.heap.objs.size,[a.heap.objs.size],_,_,H1,rfl,kp _,cg (t:=t) (by decide) (λA' f=>Walks.strWide f _ z t) (λ_ _ _ _ _ st h=>wpAny_pyIter_striter_wide st h),⟨_,Co _ rfl,rfl,rfl⟩,c,q⟩
 .refine wpAny_pyIter_ascii g ?_;exact⟨a.heap.objs.size,[a.heap.objs.size],_,_,H1,rfl,kp _,cg (t:=t) (by decide) (λA' f=>Walks.strAscii f _ z t) (λ_ _ _ _ _ st h=>wpAny_pyIter_striter_ascii st h),⟨_,Co _ rfl,rfl,rfl⟩,c,q⟩⟩
theorem L9{ta:TA}(k:Gl X "range")(i:X.mg "range"=none)(c:QA X [a] ta)(g:starEach [a] X.env=[(false,eval a X.env)]:=by rfl):QI X tg (.Call (.Name "range" p) [a] [] pos) (Yi ta):=⟨by
 have c:=c.h;intro ZB s O H R I h;refine Call_ (Li I k i boot_range (V4 (AO (c pos ZB s O H _ I h) λus l⟨vs,H1,I1,d,b⟩=>?_) g rfl));obtain⟨j,e,b,f,q⟩:=b;subst e;cases d with
 |cons r rr=>
  cases rr;obtain⟨t,rfl⟩:=r;exact call_range_1 (eL I1 (by omega) (by omega) b f (by simpa using q))⟩
theorem ES:MG X [] Q8:=⟨λZB s O H Q I h=>by
 rw[Uv];exact qC ⟨H,I,h⟩⟩
theorem MN{t:TT}(a:QT X c t):MG X [c] t:=⟨ZEw a.h⟩
theorem FK(b:X.calm=true)(S:Cv X.N X.env.scope scope x AN js)(hi:QI X (.Name x px) iter wi)
  (D0:∀fp C s H,MG (FO X (AN++[x]) scope (Bj X.env.cells scope.names) C s H fp) ifs tt) (Cz:∀fp C s H,QE (FO X (AN++[x]) scope (Bj X.env.cells scope.names) C s H fp) elt te)
  (a:∀v,foldedSetIterable iter X.env v=pure v:=by intro _;rfl):QE X (.ListComp elt [⟨.Name x px,iter,ifs,0⟩] scope pos) (JY wi js tt te):=⟨wD b S hi.h (λfp C s H=>(D0 fp C s H).h) (λfp C s H=>(Cz fp C s H).h) a⟩
theorem UY{py Fs:Pos}(c:X.N.Nodup)(Cm:X.N[i]?=some y)(a:Loc X.env.scope y)(b:X.calm=true)(S:Cv X.N X.env.scope scope x AN js)(hi:QI X (.Name x px) iter wi)
  (D0:∀fp C s H,MG (FO X (AN++[x]) scope (Bj X.env.cells scope.names) C s H fp) ifs tt) (Cz:∀fp C s H,QE (FO X (AN++[x]) scope (Bj X.env.cells scope.names) C s H fp) elt te)
  (Jc:swapsWith (.ListComp elt [⟨.Name x px,iter,ifs,0⟩] scope pos) (some (.Name y py)) Fs.line X.env=pure true:=by rfl)
  (hf:X.fn y=true∨X.env.scope.names.lookup y=some .local:=by first|exact .inl rfl|exact .inr rfl|assumption)
  (hs:∀v,foldedSetIterable iter X.env v=pure v:=by intro _;rfl):QS X (.Assign [.Name y py] (.ListComp elt [⟨.Name x px,iter,ifs,0⟩] scope pos) Fs) (Ei (JY wi js tt te) (C7 i)):=
 ⟨zp c Cm a b S hi.h (λfp C s H=>(D0 fp C s H).h) (λfp C s H=>(Cz fp C s H).h) Jc hf hs⟩
theorem vK(b:X.N.Nodup)(hi:X.N[i]?=some x)(hx:Loc X.env.scope x)(a:X.fn x=true∨X.env.scope.names.lookup x=some .local:=by first|exact .inl rfl|exact .inr rfl|assumption):QG X (.Name x pos) (C7 i):=⟨YW b hi hx a⟩
theorem Pq:UN X [] M8:=⟨cC⟩
theorem Fw{t:TG}{u:HV}(h1:QG X e t)(h2:UN X es u)
  (a:(assignEach (e::es) X.env).map (·.2)=assign e X.env::(assignEach es X.env).map (·.2):=by rfl):UN X (e::es) (Fh t u):=⟨lG h1.h h2.h a⟩
theorem PU{k:Nat}{t:HV}(b:X.calm=true)(h:UN X es t)(a:(assignEach es X.env).length=n:=by rfl)(Hm:(assignEach es X.env).findIdx? (·.1)=none:=by rfl):QG X (.Tuple es k pos) (Jm X.K n t):=⟨jD b h.h a Hm⟩
theorem V8{i:Expr}{ti:TE}{t:Mx}(ho:QE X o to)(hi:QE X i ti)(l:RJ X t)
  (m:∀v,assign (.Subscript o i pos) X.env v=(do
   let a <- holding [v] (eval o X.env)
   let b <- holding [v,a] (eval i X.env)
   standAt pos
   holding [v,a,b] (setItem a b v)
   release [v,a,b] []):=by intro _;rfl):QG X (.Subscript o i pos) (Vz to ti t):=⟨by
 have ho:=ho.h;have hi:=hi.h;intro ZB s O H v u Q I r h;rw[m];refine p5 (wH (AO (ho ZB s O H _ I h) λa d n=>?_));obtain⟨x,H1,I1,f,k⟩:=n;refine p5 (wH (AO (hi ZB d O H1 _ I1 k) λb s2 Oo=>?_));obtain⟨y,H2,I2,e,j⟩:=Oo;refine p5 (wpAny_standAt (p5 (wH (AO (l ZB s2 O H2 x y v a b u _ I2 f e r j) λ_ p c=>?_))));obtain⟨H3,I3,g⟩:=c;exact wpAny_release ⟨O,H3,I3,g⟩⟩
end
section
variable{st:Stmt}{t u:TS}
theorem BG:Jb X [] aJ:=⟨λ_ _ O H _ I h=>yB ⟨O,H,I,h⟩⟩
theorem AF(e:body=st::rest)(h:QS X st t)(h2:Jb X rest u):Jb X body (Q4 t u):=⟨tq e h.h h2.h⟩
theorem AJ(e:body=[st])(h:QS X st t):Jb X body t:=⟨by have h:=h.h;rw[e];exact ZFp h⟩
theorem J0:QS X st lg:=⟨λ_ _ _ _ _ _ h=>h.elim⟩
theorem CD(a:QE X e te)(c:swapsWith e none pos.line X.env=pure false:=by rfl):QS X (.Expr e pos) (IW te):=⟨by
 have a:=a.h;intro ZB s O H D I h;exact wpAny_Expr_any (AO (a ZB s O H _ I h) λv d AG=>by obtain⟨x,H1,I1,f,b⟩:=AG;exact⟨O,H1,I1,b⟩) I.quiet c⟩
theorem Ao(a:QE X e te):QS X (.Return (some e) pos) (IA te):=⟨by
 have a:=a.h;intro ZB s O H D I h;exact wpAny_Return_some (AO (a ZB s O H _ I h) λv d AG=>by obtain⟨x,H1,I1,b,c⟩:=AG;exact⟨x,O,H1,I1,b,c⟩)⟩
theorem ZAv:QS X (.Return none pos) ZI:=⟨λ_ _ O H _ I h=>wpAny_Return_none ⟨.AE,O,H,I,rfl,h⟩⟩
theorem BF{a b:List Stmt}(e:QT X c tc)(g:Jb X a t)(f:Jb X b u):QS X (.If c a b pos) (Ze tc t u):=⟨by
 have e:=e.h;have g:=g.h;have f:=f.h;intro ZB s O H D I h;refine wpAny_If (AO (e ZB s O H _ I h) λd i Dm=>?_);obtain⟨H1,I1,j⟩:=Dm;cases d with
 |true=>exact g ZB i O H1 D I1 j
 |false=>exact f ZB i O H1 D I1 j⟩
theorem Od(b:QE X e te)(a:QG X tg g)(i:swapsWithSole [tg] e pos.line X.env=pure false:=by rfl)(hw:swappedStores [tg] e X.env=pure none:=by rfl)
  (h1:(assignEach [tg] X.env).map (·.2)=[assign tg X.env]:=by rfl):QS X (.Assign [tg] e pos) (Ei te g):=⟨by
 have b:=b.h;have a:=a.h;intro ZB s O H D I h;refine wpAny_Assign_stores (AO (b ZB s O H _ I h) λv c⟨x,H1,I1,d,f⟩=>?_) i hw;rw[h1];exact AO (a ZB c O H1 x v _ I1 d f) λ_ s2 q=>q⟩
theorem xQ(f:X.N.Nodup)(hi:X.N[i]?=some x)(hx:Loc X.env.scope x)(a:QE X e te)(d:swapsWith e (some (.Name x pos')) pos.line X.env=pure false:=by rfl)(hf:X.fn x=true∨X.env.scope.names.lookup x=some .local:=by first|exact .inl rfl|exact .inr rfl|assumption):
  QS X (.Assign [.Name x pos'] e pos) (Ei te (C7 i)):=⟨by
 have a:=a.h;intro ZB s O H D I h;refine wpAny_Assign_Name (AO (a ZB s O H _ I h) λv g⟨y,H1,I1,b,c⟩=>?_) d;exact Zv I1 f hi hx b (λs2 I2=>⟨_,H1,I2,c⟩) hf⟩
theorem TB(o:PassesOwn (model X.prog X.w) X.A X.env X.xe)(l:QT X c tc)(m:Jb X body tb):QS X (.While c body [] pos) (SH tc tb):=⟨by
 have l:=l.h;have m:=m.h;intro ZB s O H D I h;obtain⟨W,⟨x,t⟩,a⟩:=h;refine wpAny_While (codeAny_whileLoop (λn s'=>∃ σ' H',Inv X ZB σ' H' s'/\W n σ' H') ?_ x ⟨O,H,I,t⟩);rintro n u⟨σ1,H1,I1,r⟩;refine sV o (AO (l ZB u σ1 H1 _ I1 (a n σ1 H1 r)) λb s2 q=>?_);obtain⟨H2,I2,e⟩:=q;cases b with
 |true=>
  obtain⟨N,p,e⟩:=e;rw[pT rfl];refine sV o (AO (m ZB s2 σ1 H2 _ I2 e) λf y d=>?_);cases f with
  |next=>
   obtain⟨σ3,H3,I3,i⟩:=d;obtain⟨j,k,g⟩:=p σ3 H3 i;exact⟨j,k,σ3,H3,I3,g⟩
  |cont=>
   obtain⟨σ3,H3,I3,i⟩:=d;obtain⟨j,k,g⟩:=p σ3 H3 i;exact⟨j,k,σ3,H3,I3,g⟩
  |brk=>exact d
  |ret v=>exact d
 |false=>
  rw[pL Dj];exact yB ⟨σ1,H2,I2,e⟩⟩
theorem EN{iter:Expr}(p:PassesOwn (model X.prog X.w) X.A X.env X.xe)(F:X.calm=true)(hi:QI X tg iter wi)(y:QG X tg g)(a:Jb X body tb)
  (hs:∀x,foldedSetIterable iter X.env x=pure x:=by intro _;rfl):QS X (.For tg iter body [] pos) (SE wi g tb):=⟨by
 have hi:=hi.h;have y:=y.h;have a:=a.h;intro ZB s O H D I h;refine wpAny_For (AO (hi ZB s O H _ I h) λv s1 h1=>AO h1 λUH s2 h2=>?_) hs;obtain⟨it,fp,tn,J,H2,e,I2,T,Jo,G,W,⟨m0,S⟩,k⟩:=h2;subst e
 -- ZFA stays true of HF ZHK objects through HF loop
 have z:∀{H':Hp},(∀b∈fp,H' b=none)->∀b∈fp,Ey X ZB H' b:=λhn b a=>⟨hn b a,(G b a).2⟩;refine codeAny_forLoop_any (λn s'=>∃i σ' H',Inv X ZB σ' H' s'/\tn i s'.heap/\(∀b∈fp,H' b=none)/\W i n σ' H') ?_ m0 ⟨0,O,H2,I2,Jo,λb a=>(G b a).1,S⟩;rintro n C⟨i,σ3,H3,I3,K,E,R⟩;rcases k i n σ3 H3 R with⟨stop,qn⟩|⟨go,N,hN,step⟩
 .refine sV p (AO (T.done X rfl rfl rfl F i ZB C σ3 H3 X.xe I3 (z E) K stop) λr s4 Oo=>?_);obtain⟨t,I4⟩:=Oo;subst t;exact yB ⟨σ3,H3,I4,qn⟩
 .refine sV p (AO (T.item X rfl rfl rfl F i ZB C σ3 H3 X.xe I3 (z E) K go) λr s4 oz=>?_);obtain⟨u,t,h4⟩:=oz;subst t;refine sV p (AO h4 λ_ B L=>?_);obtain⟨x,H5,I5,Z,M,ND,UU⟩:=L;have V:=I5.pinned (z UU) (T.obj _ _ ND);refine sV p (AO (y _ B σ3 H5 x u _ V Z (step x H5 M)) λ_ U σ=>?_);obtain⟨σ6,H6,I6,q6⟩:=σ;refine sV p (AO (a _ U σ6 H6 _ I6 q6) λf q j=>?_);have c:∀{σ7:St}{H7:Hp},Inv X (ZB++OO fp B.heap) σ7 H7 q->N σ7 H7->∃m,m<n/\∃i σ' H',Inv X ZB σ' H' q/\tn i q.heap/\(∀b∈fp,H' b=none)/\W i m σ' H':=λ{σ7 H7}I7 l=>by
   obtain⟨m',hm,Q⟩:=hN σ7 H7 l;refine⟨m',hm,i+1,σ7,H7,I7.O3,T.keep _ _ _ ND λb a o e=>(I7.pin (b,o) (Er _ (Er _ (Sq a e)))).1,λb a=>?_,Q⟩;obtain⟨o,e,d⟩:=T.obj _ _ ND b a;exact(I7.pin (b,o) (Er _ (Er _ (Sq a e)))).2.1
  cases f with
  |next=>obtain⟨σ7,H7,I7,l⟩:=j;exact c I7 l
  |cont=>obtain⟨σ7,H7,I7,l⟩:=j;exact c I7 l
  |brk=>obtain⟨σ7,H7,I7,j⟩:=j;exact⟨σ7,H7,I7.O3,j⟩
  |ret v=>obtain⟨P,σ7,H7,I7,Y,j⟩:=j;exact⟨P,σ7,H7,I7.O3,Y,j⟩⟩
theorem Ck(h:QS X st t):QS X st (W8 t):=⟨by
 have h:=h.h;intro ZB s O H D I hw;obtain⟨J,h1,h2⟩:=hw;refine AO (h ZB s O H _ I h1) λf s' q=>?_;cases f with
 |next=>obtain⟨σ',H',I',q⟩:=q;exact⟨σ',H',I',h2 σ' H' q⟩
 |ret v=>exact q
 |brk=>exact q
 |cont=>exact q⟩
end
theorem AM.B2{P:Program}{K:ZHa}{mg:ZHc}{ZS:Heap}{qual:Str}{st:Stmt}{fd:FuncData}{N:List Str}{k:Nat}(F:AM K x qual st f fd)(S:B3 N ps (Aa st))(len:∀vs H Q E,sp vs H Q E->vs.length=ps.length)
  (Oj:∀(Ac:Value)(A:Around)(outer:List Env)(s:Shared)(H:Hp)(vs:List V)(Q:VK)(E:XK),Bx k (A.deeper (envOfC qual (Aa st) s.heap.objs.size f Ac))->sp vs H Q E->
   ∃t,Jb (Lx GU P w K mg ZS N qual (Aa st) f Ac A outer s H E).Qb (MF st) t/\t { nx:=λ_ H'=>Q .AE H',rt:=Q } (start N vs) H):Ds P w K mg ZS GU (k+1) f fd ps sp:=
 F.ok S len λAc A outer s H vs Q E a h=>let ⟨t,q,r⟩:=Oj Ac A outer s H vs Q E a h;⟨t,q.h,r⟩
section
variable{b:Expr}{tb:TE}{t:TA}
theorem CU{id:String}(c:Du X (.builtin id) r)(a:X.mg x=none)(d:QA X (e::es) t)(b:Gl X x:=by rfl)(hv:bootBuiltins x=some (.builtin id):=by decide +kernel)(hn:x ≠"__name__" := by decide)(DJ:(x == ("__debug__":Str))=false:=by decide)
  (he:starEach (e::es) X.env=(false,eval e X.env)::starEach es X.env:=by rfl) (Cd:(backTo pos (starEach es X.env)).any (·.1)=false:=by rfl):QE X (.Call (.Name x p) (e::es) [] pos) (FP r t):=um c b a hv d hn DJ he Cd
theorem Ib(c:Du X (.type T) r)(a:X.mg x=none)(d:QA X (e::es) t)(b:Gl X x:=by rfl)(hv:bootBuiltins x=some (.type T):=by decide +kernel)(hn:x ≠"__name__" := by decide)(DJ:(x == ("__debug__":Str))=false:=by decide)
  (he:starEach (e::es) X.env=(false,eval e X.env)::starEach es X.env:=by rfl) (Cd:(backTo pos (starEach es X.env)).any (·.1)=false:=by rfl):QE X (.Call (.Name x p) (e::es) [] pos) (FP r t):=vV c b a hv d hn DJ he Cd
theorem Ab{r:R2}(d:D2 X r)(f:QE X a ta)(e:QE X b tb)(c:VP b:=by exact λ_ _=>rfl):QE X (.Subscript a b pos) (BZ r ta tb):=u0 d f e c
theorem Ad{k:Nat}(h:AA X.prog X.w X.K X.mg X.base x k ps sp)(a:Bx j X.A)(b:QA X (e::es) t)(hk:k<=j:=by decide)(hg:Gl X x:=by rfl)(DJ:(x == ("__debug__":Str))=false:=by decide)
  (he:starEach (e::es) X.env=(false,eval e X.env)::starEach es X.env:=by rfl) (Cd:(backTo pos (starEach es X.env)).any (·.1)=false:=by rfl):QE X (.Call (.Name x p) (e::es) [] pos) (DK sp [] E0 t):=ZBi h a hk b hg DJ he Cd
theorem GZ{r:R2}(ho:BU X (compareOp op) r)(e:QE X a ta)(d:QE X b tb)(c:behindInMarks op b=false:=by first|exact ke _|with_unfolding_all rfl):QE X (.Compare a [op] [b] pos) (BZ r ta tb):=ZG9 ho e d c
theorem Az{r:R2}(ho:BU X (compareOp op) r)(e:QE X a ta)(d:QE X b tb)(c:behindInMarks op b=false:=by first|exact ke _|with_unfolding_all rfl):QT X (.Compare a [op] [b] pos) (LV (BZ r ta tb)):=dO ho e d c
theorem Aq(i:Nat)(b:X.N.Nodup)(a:QE X e te)(hi:X.N[i]?=some x:=by rfl)(hx:Loc X.env.scope x:=by first|exact Or.inl rfl|exact Or.inr rfl)(hs:swapsWith e (some (.Name x pos')) pos.line X.env=pure false:=by rfl)(hf:X.fn x=true∨X.env.scope.names.lookup x=some .local:=by first|exact .inl rfl|exact .inr rfl|assumption):
  QS X (.Assign [.Name x pos'] e pos) (Ei te (C7 i)):=xQ b hi hx a hs hf
theorem CV(i:Nat)(a:X.N.Nodup)(hi:X.N[i]?=some x:=by rfl)(hx:Loc X.env.scope x:=by first|exact Or.inl rfl|exact Or.inr rfl)(hf:X.fn x=true∨X.env.scope.names.lookup x=some .local:=by first|exact .inl rfl|exact .inr rfl|assumption):QG X (.Name x pos) (C7 i):=vK a hi hx hf
end
section
variable{ZB:ZHb}{O:St}{H:Hp}{s:Shared}{a:Addr}{A7:List (Str×Addr)}
theorem me{t:Tok}:Dv (.str x) (.str y t)=(y == x):=rfl
theorem fB(x:Str):∀(ss:List Str)(m:Nat)(b:m<ss.length),m<ss.idxOf x->ss[m]≠x
 | [],_,b,_=>absurd b (Nat.not_lt_zero _)
 |a::r,m,b,h=>by
  rw[nT]at h
  by_cases e:a=x
  .have:(a == x)=true:=by simpa using e
   rw[this]at h;exact absurd h (Nat.not_lt_zero _)
  .have c:(a == x)=false:=by simpa using e
   rw[c]at h;cases m with
   |zero=>exact e
   |succ k=>
    have h':k+1<r.idxOf x+1:=h;exact fB x r k (by simpa using b) (by omega)
theorem W9(h:x∈ss):∃a:ss.idxOf x<ss.length,ss[ss.idxOf x]=x/\∀m(b:m<ss.length),m<ss.idxOf x->ss[m]≠x:=by
 have a:ss.idxOf x<ss.length:=List.idxOf_lt_length_iff.mpr h;exact⟨a,Hr a,λm b Ag=>fB x ss m b Ag⟩
def jm(K:ZHa):V->List V->Hp->VK->Prop:=λx vs H Q=>∃(l:Addr)(ss:List Str)(y:Str),x=.ref l/\vs=[.str y]/\AW K H l (ss.map V.str)/\y∈ss/\Q (.int (ss.idxOf y:Nat)) H
theorem fK:Gn X "list.index" (jm X.K):=by
 intro ZB s O H x vs v us Q I j k h;obtain⟨l,ss,y,rfl,rfl,A,p,q⟩:=h;cases j;obtain⟨u,rfl,o⟩:=k.one;obtain⟨A5,r,pl,b⟩:=I.list A;obtain⟨⟨c,d,L,i⟩,n,ho,f,hd,FQ⟩:=id pl;simp only at f hd FQ;subst f;subst hd;subst FQ;have B:=r.length;rw[AD]at B;obtain⟨G,SO,C⟩:=W9 p;have at':∀(m:Nat)(a:m<A5.toArray.size),∃t,A5.toArray[m]=.str (ss[m]'(by simp at a;omega)) t:=λm a=>by
  have D:m<A5.length:=by simpa using a
  obtain⟨h2,t,e⟩:=uv r (AX D);exact⟨t,by simpa using e⟩
 have g:ss.idxOf y<A5.toArray.size:=by simp;omega
 refine x8 V6 ⟨_,ho,rfl⟩ ZGs (PySem.F.args_list_index_2 _ _) (SeqAt.list_indexAt l A5.toArray n none i u (Dv (.str y)) (ss.idxOf y) g ?_ ?_ (λm a Ag=>?_)) ⟨ho,λz L7=>JW o rfl r (by
   rw[Hq];intro w hw;obtain⟨E,_,rfl⟩:=List.mem_map.mp hw;rfl) z (by simpa using L7),?_⟩
 .have h1:ss.length<=sizeLine:=by rw[AD]at b;exact b
  have h2:=Iz;have J:((sizeLine:Nat):Int)<2 ^ 63:=by exact_mod_cast h2
  omega
 .obtain⟨t,e⟩:=at' _ g;rw[e,me];simpa using SO
 .obtain⟨t,e⟩:=at' _ a;rw[e,me];have:=C m (by simp at a;omega) Ag
  simpa using this
 .exact⟨.int _,H,I.tok _,⟨_,rfl⟩,q⟩
def SQ(t u:TE):TE:=λO H Q=>t O H Q∨u O H Q
theorem ZF1{t u:TE}(h:QE X e t)(h2:QE X e u):QE X e (SQ t u):=⟨λZB s O H Q I q=>q.elim (h.h ZB s O H Q I) (h2.h ZB s O H Q I)⟩
variable{prog:Program}{A:Around}{R:Result->Shared->Prop}{fp wr:List Addr}{G:Array GenState->Array GenState->Prop}{P:Nat->Value->Prop}{St:Nat->Shared->Prop}
variable{E:Value->Shared->Prop}
variable{l:Addr}{items:Array Value}
end
end L2
namespace L2
variable{X:Cx}{ZB:ZHb}{O:St}{H:Hp}{s:Shared}{h':Heap}{k1 n t':Nat}{fp:List Addr}{I a:Addr}{e o:Expr}{w:World}{es:List Expr}{p1 pos:Pos}{prog:Program}{A:Around}{E:Value->Shared->Prop}
theorem Inv.mV(I:Inv X ZB O H s)(d:∀b∈fp,Ey X ZB H b)(k:∀b o,b∉fp->s.heap.get? b=some o->h'.get? b=some o):
  Inv X ZB O H { s with heap:=h',toks:=t' }:=by
 have f:∀b u,H b=some u->b∉fp:=λb u e z=>by rw[(d b z).1]at e;cases e
 refine I.step (g':=s.gens) (d':=s.drawn) (ch:=fp) (λb h=>?_) (λb o _ _ a e _=>k b o a e) (λb o _ _ a e _=>⟨o.slots,k b o a e⟩) (λ_ _ _ _ n=>n)
  (λb o a e=>⟨o,k b o a e⟩) (λ_ _ e=>e) (λ_ _ _ e=>e) (λb ps e=>⟨#[],by rw[e];simp⟩) (λm g=>?_) (λb u e=>?_) I.bare
 .obtain⟨_,h1,_,l,j,i⟩:=d b h;exact⟨l,h1,j,i⟩
 .obtain⟨o,es,p,ho,r⟩:=g;exact⟨o,es,p,k _ o (λz=>(d _ z).2.1 rfl) ho,r⟩
 .refine(I.AY b u e).Kr (λc v a q=>k c v ?_ q) (λ_ q=>q) λ_ _ q=>q;rcases a with z|z
  .rw[z];exact f b u e
  .exact f c _ z
theorem Inv.ma{o:HO}(I:Inv X ZB O H s)(h:∀b∈fp,Ey X ZB H b)(k:∀b o,b∉fp->s.heap.get? b=some o->h'.get? b=some o)
  (i:s.heap.objs.size<=a) (new:DA X.prog X.w (upd H a o) h' a o):Inv X ZB O (upd H a o) { s with heap:=h',toks:=t' }:=by
 have l:H a=none:=I.AY.fresh i;have j:∀b u,H b=some u->b∉fp:=λb u e z=>by rw[(h b z).1]at e;cases e
 have ne:∀b u,H b=some u->b≠a:=λb u e=>Di e l;have g:∀b u,s.heap.get? b=some u->b≠a:=λb u e=>D6 (E9 (BH e) i);refine I.step (g':=s.gens) (d':=s.drawn) (ch:=fp) (λb f=>?_) (λb o _ _ d e _=>k b o d e) (λb o _ _ d e _=>⟨o.slots,k b o d e⟩) (λb o _ e n=>by rw[An (g b o e)];exact n)
  (λb o d e=>⟨o,k b o d e⟩) (λb _ e=>by rw[An (ne b _ e)];exact e) (λb _ _ e=>by rw[An (ne b _ e)];exact e) (λb ps e=>⟨#[],by rw[An (ne b _ e),e];simp⟩) (λm p=>?_) (λb u e=>?_) I.bare
 .obtain⟨_,h1,_,y,x,t⟩:=h b f;exact⟨y,h1,x,t⟩
 .obtain⟨o,es,A,ho,r⟩:=p;exact⟨o,es,A,k _ o (λz=>(h _ z).2.1 rfl) ho,r⟩
 .by_cases f:b=a
  .subst f;rw[BC]at e;cases e;exact new
  .rw[An f]at e;refine(I.AY b u e).Kr (λc v d q=>k c v ?_ q) (λc q=>by rw[An (ne c _ q)];exact q) λc _ q=>by rw[An (ne c _ q)];exact q
   rcases d with z|z
   .rw[z];exact j b u e
   .exact j c _ z
noncomputable def fR(K:ZHa)(a:Addr)(xs:List V):It:=
 ⟨λi H=>AW K H a xs/\i<xs.length,λi H x H'=>∃p y,xs[i]?=some y/\x=.ref p/\H p=none/\H'=upd H p (.tup [.int i,y]),λi H=>AW K H a xs/\xs.length<=i⟩
theorem ZBd{P:Program}{K:ZHa}(a e it:Addr)(xs:List V)(F:e≠it):
  Turn P w K (.Tuple es k1 p1) (fR K a xs) [e,it] e (λi h=>(∃c,IsEnum h e it i c)/\h.IsListIter it a i) where
 mem:=by simp
 obj:=λi h st b g=>by
  obtain⟨⟨c,h1⟩,o,h2,_,d⟩:=st;rcases List.mem_cons.mp g with z|z
  .subst z;exact⟨_,h1,λv z=>by cases z⟩
  .have:b=it:=by simpa using z
   subst this;exact⟨o,h2,λv z=>by rw[d]at z;cases z⟩
 keep:=λi h h' st k=>⟨let ⟨c,h1⟩:=st.1;⟨c,k e (by simp) _ h1⟩,st.2.at λo q=>k it (by simp) o q⟩
 item:=by
  intro X A hw B D i ZB s O H E I l st y;subst A hw B;obtain⟨r,hi⟩:=y;obtain⟨⟨c,j⟩,f⟩:=st;obtain⟨A5,m,p,N⟩:=I.list r;obtain⟨u,σ,M⟩:=m.get (AX hi);refine wpAny_pyNext_enum_item j f p.isList (x:=u) (by simpa using σ) F λh1 Ji Nj n XG t=>⟨_,rfl,?_⟩
  refine wpAny_letOwnedTupleGo_enum Ji λh2 L DD=>?_;have J:e<s.heap.objs.size:=BH j;have G:h2.get? s.heap.objs.size=some { cls:=.type "tuple", data:=.seq #[.int i s.toks,u] }:=(DD.2 _ (MW J)).trans n;have kp:∀b o,b∉[e,it]->s.heap.get? b=some o->h2.get? b=some o:=λb o g q=>by
   have C:b≠e/\b≠it:=by simpa using g
   exact(DD.2 b C.1).trans (t b o C.1 C.2 q)
  refine⟨.ref s.heap.objs.size,_,I.ma (t':=s.toks+1) (a:=s.heap.objs.size) (o:=.tup [.int i,xs[i]]) l kp (As _) ?_,rfl,⟨_,_,AX hi,rfl,I.AY.fresh (As _),rfl⟩,⟨⟨_,L⟩,Nj.at λo q=>(DD.2 it (CC F)).trans q⟩,λb g=>?_⟩
  .exact⟨(by show 2<=sizeLine;decide),[.int i s.toks,u],.cons ⟨_,rfl⟩ (.cons M .nil),⟨_,G,rfl,_,rfl⟩,λob q=>by rw[G]at q;cases q;rfl⟩
  .have R:b<s.heap.objs.size:=by
    rcases List.mem_cons.mp g with z|z
    .rw[z];exact J
    .have:b=it:=by simpa using z
     obtain⟨o,q,_⟩:=f;rw[this];exact BH q
   rw[An (D6 R)];exact(l b g).1
 done:=by
  intro X A hw B D i ZB s O H E I l st y;subst A hw B;obtain⟨r,hx⟩:=y;obtain⟨⟨c,j⟩,f⟩:=st;obtain⟨A5,m,p,N⟩:=I.list r;have S:=m.length;exact wpAny_pyNext_enum_end (I.ok.hd D) j f p.isList (by simp;omega) λh' Q=>⟨rfl,I.mV (t':=s.toks) l λb o g q=>Q b o (λz=>g (by simp[z])) q⟩
 self:=λ_ _ _ _ _ st h=>let ⟨⟨_,j⟩,_⟩:=st;wpAny_pyIter_enum j h
def Vf(K:ZHa)(t:TA):TI:=λO H R=>t O H λvs H1=>∃a xs,vs=[.ref a]/\AW K H1 a xs/\R (fR K a xs) H1
theorem bf{p:Pos}{l:Expr}{t:TA}(r:Gl X "enumerate")(o:X.mg "enumerate"=none)(e:QA X [l] t)(m:starEach [l] X.env=[(false,eval l X.env)]:=by rfl):
  QI X (.Tuple es k1 p1) (.Call (.Name "enumerate" p) [l] [] pos) (Vf X.K t):=⟨by
 have e:=e.h;intro ZB s O H R I h;refine sG (Li I r o (show bootBuiltins "enumerate"=some (.type "enumerate") by decide +kernel) ?_ (by decide) (by decide));refine V4 (AO (e pos ZB s O H _ I h) λus c⟨vs,H1,I1,j,k⟩=>?_) m rfl;obtain⟨a,xs,rfl,n,q⟩:=k;obtain⟨u,rfl,i⟩:=vals1 j;cases i;obtain⟨A5,x,p,y⟩:=I1.list n;refine call_enumerate_list p.isList λh' f d hsz kp=>?_;refine wpAny_pyIter_enum f ?_;have w:c.heap.objs.size+1≠c.heap.objs.size:=Nat.succ_ne_self _;refine⟨c.heap.objs.size+1,[c.heap.objs.size+1,c.heap.objs.size],_,_,H1,rfl,I1.kept (t':=c.toks) kp,ZBd a _ _ xs w,⟨⟨_,f⟩,d⟩,λb v=>?_,q⟩;have g:c.heap.objs.size<=b:=by
  rcases List.mem_cons.mp v with z|z
  .rw[z];exact O0 _
  .have:b=c.heap.objs.size:=by simpa using z
   rw[this];exact As _
 exact I1.LN g (I1.AY.fresh g)⟩
open AutoSeq1 (wpAny_loadPart')
theorem Vx{l:List (Int×Value)}(h:ElemsOf (PySem.strKind prog w) l):∃ts,StrsAre (l.map (·.2)) ts/\∀k,k∈ts↔∃e∈l,(PySem.strKind prog w).is k e.2=true:=by
 induction l with
 |nil=>exact⟨[],.nil,λk=>by simp⟩
 |cons e r b=>
  obtain⟨ts,h1,h2⟩:=b h.tail;obtain⟨⟨k,hk,_⟩,_⟩:=h.head;obtain⟨tk,c⟩:=Value.isStrOf_shape hk;refine⟨k::ts,?_,λa=>?_⟩
  .rw[Ae,c];exact .cons k tk h1
  .rw[G9,h2 a];constructor
   .rintro(rfl|⟨x,hx,q⟩)
    .exact⟨e,Es,hk⟩
    .exact⟨x,DS _ hx,q⟩
   .rintro⟨x,hx,q⟩;rcases List.mem_cons.mp hx with rfl|hx
    .exact .inl ((PySem.strKind prog w).inj x.2 a k q hk)
    .exact .inr ⟨x,hx,q⟩
section
variable{R:Result->Shared->Prop}{wr:List Addr}{G:Array GenState->Array GenState->Prop}{P:Nat->Value->Prop}{St:Nat->Shared->Prop}{ss:List Str}
theorem Inv.drew(I:Inv X ZB O H s)(d:Drawn):Inv X ZB O H { s with drawn:=d }:=
 I.step (h':=s.heap) (g':=s.gens) (t':=s.toks) (d':=d) (ch:=[]) (λ_ z=>nomatch z) (λb o _ _ _ e _=>e) (λb o _ _ _ e _=>⟨o.slots,e⟩) (λ_ _ _ _ n=>n) (λb o _ e=>⟨o,e⟩) (λ_ _ e=>e) (λ_ _ _ e=>e) (λb ps e=>⟨#[],by rw[e];simp⟩) (λm a=>a) I.AY I.bare
end
theorem SR:∀{ss:List Int}{us:List Value},Vals (ss.map V.int) us->IntsAre us ss
 | [],_,.nil=>.nil
 |x::r,_,.cons ⟨t,e⟩ h=>by rw[e];exact .cons x t (SR h)
end L2
namespace HT
open AutoSeq1 (wpAny_loadPart')
variable{E Q:Value->Shared->Prop}{it tu:Addr}{i:Nat}
section
variable{prog:Program}{w:World}{A:Around}{s:Shared}
theorem ZE0{vals:Array Value}{v:Value}(hi:s.heap.IsTupleIter it tu i)(c:s.heap.IsTuple tu vals)(b:vals[i]?=some v)
  (q:∀h',h'.IsTupleIter it tu (i+1)->Heap.SameBut it s.heap h'->Q v { s with heap:=h' }):wpAny (model prog w) A (Builtin.SmallTypes.nextOf (.ref it)) Q E s:=by
 obtain⟨o,ho,d,hd⟩:=id hi;obtain⟨e,Xh,_,k,a⟩:=c;unfold Builtin.SmallTypes.nextOf;refine p5 (tE (name:=Str.ofString "__next__") hi.typeIs bD (xl bD hi.typeIs ZGR ?_ (ZGQ _)));show wpAny _ _ (field (.ref it) 0 >>= _) _ _ s;refine p5 (sH ho hd (x:=.ref tu) rfl ?_);show wpAny _ _ (if(Value.ref tu == Value.none)=true then _ else _) _ _ s;rw[pL (show ¬ ((Value.ref tu == Value.none)=true)from Dj)]
 show wpAny _ _ (field (.ref it) 1 >>= _) _ _ s;refine p5 (sH ho hd (x:=.int i 0) rfl ?_);show wpAny _ _ (seqItems? (.ref tu) >>= _) _ _ s;refine p5 (sC Xh a ?_);simp only[Gz,b];refine p5 (wpAny_setField ho hd (by simp) (qC ⟨v,rfl,qC (q _ ?_ (Heap.SameBut.update ..))⟩));exact⟨_,Nx _ ho (Obj.isFreed_of_fields (Obj.data_mapFields hd _)),(Obj.cls_mapFields ..).trans d,by rw[Obj.data_mapFields hd];simp[rawInt]⟩
theorem ZCk{vals:Array Value}(hh:A.handled=none)(hi:s.heap.IsTupleIter it tu i)(d:s.heap.IsTuple tu vals)(c:vals[i]?=none)
  (q:∀h' e,Heap.ExtBut it s.heap h'->(∃o,h'.get? e=some o/\o.cls=.type "StopIteration")->E (.ref e) { s with heap:=h' }):wpAny (model prog w) A (Builtin.SmallTypes.nextOf (.ref it)) Q E s:=by
 obtain⟨o,ho,g,hd⟩:=id hi;obtain⟨f,Xh,_,k,b⟩:=d;unfold Builtin.SmallTypes.nextOf;refine p5 (tE (name:=Str.ofString "__next__") hi.typeIs bD (xl bD hi.typeIs ZGR ?_ (ZGQ _)));show wpAny _ _ (field (.ref it) 0 >>= _) _ _ s;refine p5 (sH ho hd (x:=.ref tu) rfl ?_);show wpAny _ _ (if(Value.ref tu == Value.none)=true then _ else _) _ _ s;rw[pL (show ¬ ((Value.ref tu == Value.none)=true)from Dj)]
 show wpAny _ _ (field (.ref it) 1 >>= _) _ _ s;refine p5 (sH ho hd (x:=.int i 0) rfl ?_);show wpAny _ _ (seqItems? (.ref tu) >>= _) _ _ s;refine p5 (sC Xh b ?_);simp only[Gz,c];refine p5 (ZA1 (p5 (wpAny_setField ho hd (by simp) ?_)));show wpAny _ _ (newExc (.type "StopIteration") [] >>= _) _ _ _;refine p5 ?_;simp only[newExc,newTuple];refine p5 (xg ?_ (by size_fits));refine p5 (m:=firstArgMember _ _) (wpAny_of_eq (a:=Value.none) (by first|rfl|(simp only[firstArgMember];rfl)) ?_);refine xg ?_ (by size_fits)
 simp only[raiseNew];refine p5 (wpAny_handled ?_);first|rw[show A.in1.handled=none from hh]|rw[hh]
 refine p5 (qC (wpAny_throw ?_));exact q _ _ (((Heap.SameBut.update ..).extBut.push _).push _) ⟨_,Co _ rfl,rfl⟩
end
end HT
namespace MA
noncomputable def Qh:Nat->Nat->List Nat
 | 0,n=>[97+n]
 |k+1,n=>if n<26 then[97+n]else(97+n % 26)::Qh k (n / 26)
theorem LL:∀(k:Nat){n:Nat},n<26->Qh k n=[97+n]
 | 0,_,_=>rfl
 |_+1,_,h=>pT h
theorem eZ:∀(k j n:Nat),n<=k->n<=j->Qh k n=Qh j n
 | 0,j,n,h,_=>by rw[LL 0 (Ko h (by decide)),LL j (Ko h (by decide))]
 |k+1,0,n,_,h=>by rw[LL (k+1) (Ko h (by decide)),LL 0 (Ko h (by decide))]
 |k+1,j+1,n,h1,h2=>by
  by_cases c:n<26
  .rw[LL _ c,LL _ c]
  .have d:n / 26<n:=Nat.div_lt_self (E9 (by decide) (ni c)) (by decide);show(if n<26 then _ else _)=(if n<26 then _ else _)
   rw[pL c,pL c,eZ k j (n / 26) (nh (E9 d h1)) (nh (E9 d h2))]
def lets(n:Nat):List Nat:=Qh n n
noncomputable def vals:List Nat->Nat
 | []=>0
 |c::r=>(c - 97)+26 * vals r
theorem N8{n:Nat}(h:n<26):lets n=[97+n]:=LL n h
theorem P4{n:Nat}(h:¬ n<26):lets n=(97+n % 26)::lets (n / 26):=by
 cases n with
 |zero=>exact absurd (by decide) h
 |succ k=>
  have d:(k+1) / 26<k+1:=Nat.div_lt_self (Qv k) (by decide);show(if k+1<26 then _ else _)=_
  rw[pL h,eZ k ((k+1) / 26) ((k+1) / 26) (nh d) (As _)];rfl
theorem jM:∀n,vals (lets n)=n:=by
 intro n
 induction n using Nat.strongRecOn with
 |_ n a=>
  by_cases h:n<26
  .rw[N8 h];simp[vals]
  .rw[P4 h];have:=a (n / 26) (by omega);simp only[vals,this];omega
theorem ZCu{a b:Nat}(h:lets a=lets b):a=b:=by rw[<- jM a,h,jM]
theorem W4(n:Nat):1<=(lets n).length:=by
 by_cases h:n<26
 .rw[N8 h];simp
 .rw[P4 h];simp
theorem RS:∀(k n:Nat),n<26 ^ (k+1)->(lets n).length<=k+1
 | 0,n,h=>by rw[N8 (by simpa using h)];simp
 |k+1,n,h=>by
  by_cases h1:n<26
  .rw[N8 h1];simp
  .rw[P4 h1];have:=RS k (n / 26) (by rw[Nat.pow_succ]at h;exact Nat.div_lt_of_lt_mul (by rw[Nat.mul_comm];exact h));simp only[CH];omega
theorem ZDK:∀n,∀c∈lets n,97<=c/\c<=122:=by
 intro n
 induction n using Nat.strongRecOn with
 |_ n b=>
  by_cases h:n<26
  .rw[N8 h];intro c a;simp at a;omega
  .rw[P4 h];intro c a;rcases List.mem_cons.mp a with e|e
   .omega
   .exact b (n / 26) (by omega) c e
theorem jf{α:Type}[DecidableEq α]:∀(k:Nat)(f:Nat->α)(l:List α),(∀i j,i<k->j<k->f i=f j->i=j)->(∀i,i<k->f i∈l)->k<=l.length
 | 0,_,_,_,_=>Cg _
 |k+1,f,l,hi,hm=>by
  have h1:=hm k (V0 k);have:=jf k f (l.erase (f k)) (λi j a b e=>hi i j (by omega) (by omega) e) (λi a=>by
   have c:f i≠f k:=λe=>by have:=hi i k (by omega) (by omega) e;omega
   exact(nX c).mpr (hm i (by omega)))
  rw[nU h1]at this;have d:=nW h1;omega
end MA
namespace Lw
open L2
variable{a l p:Addr}{H H' H2:Hp}{xs:List V}{o:HO}{α:Type}{n:Nat}{i j r:Int}{ns:List Str}{x z:Str}
def Bf(H:Hp)(p:Addr):Prop:=∃a b:Int,H p=some (.lst [.int a,.int b])/\0<=a/\a<10 ^ 256/\0<=b/\b<2147483647
structure C5 (p:Addr) (H H':Hp):Prop where
 AZ:Bf H' p
 same:Gm p H H'
theorem C5.trans{H1:Hp}(a:C5 p H H1)(b:C5 p H1 H2):C5 p H H2:=⟨b.AZ,a.same.trans b.same⟩
theorem C5.of(h:Bf H p)(s:AU H H'):C5 p H H':=by
 obtain⟨a,b,e,r⟩:=h;exact⟨⟨a,b,s _ _ e,r⟩,Gm.of s⟩
theorem C5.Om{K:ZHa}(s:C5 p H H')(h:AW K H a xs)(Bd:a≠p):AW K H' a xs:=by
 rcases h with(h|⟨o,h⟩)|h
 .exact .inl (.inl (s.same _ _ Bd h))
 .exact .inl (.inr ⟨o,s.same _ _ Bd h⟩)
 .exact .inr h
theorem C5.at'(s:C5 p H H')(h:H a=some o)(Bd:a≠p):H' a=some o:=s.same _ _ Bd h
theorem Mw{a:Int}(c:-(10 ^ 20)<a)(h1:a<10 ^ 20):a.natAbs<2 ^ 1000:=by
 have b:a.natAbs<10 ^ 20:=by omega
 exact Nat.lt_trans b (by decide +kernel)
def Pj(K:ZHa):Sp:=λvs H Q _=>∃(a:Addr)(ns:List Int)(k:Int),vs=[.ref a,.int k]/\AW K H a (ns.map V.int)/\0<=k/\k<=1000/\∀p H',H p=none->AU H H'->Bf H' p->Q (.ref p) H'
def K8:Sp:=λvs H Q _=>∃(p:Addr)(m:Int),vs=[.ref p,.int m]/\Bf H p/\0<m/\m<10 ^ 18/\∀r H',0<=r->r<m->C5 p H H'->Q (.int r) H'
noncomputable def Dg(l:List Nat):Str:=⟨l.toArray⟩
def d5:Sp:=λvs H Q _=>∃r:Int,vs=[.int r]/\0<=r/\r<26 ^ 8/\∀H',AU H H'->Q (.str (Dg (MA.lets r.toNat))) H'
theorem NV{xs:List α}{k:Int}{v:α}(b:0<=k)(h:xs[k.toNat]?=some v):C8 xs k=some v:=by
 have a:k=((k.toNat:Nat):Int):=by omega
 have q:=EU h;rw[<- a]at q;exact q
noncomputable abbrev Nd:Str:="abcdefghijklmnopqrstuvwxyz"
theorem ZF7:∀j,j<26->Nd.cps.toList[j]?=some (97+j):=by decide +kernel
theorem gZ{k:Int}(a:0<=k)(h1:k<26):C8 Nd.cps.toList k=some (97+k.toNat):=NV a (ZF7 _ (by omega))
theorem eK(l:List Nat)(c:Nat):Dg l++(⟨#[c]⟩:Str)=Dg (l++[c]):=by
 show(⟨l.toArray++#[c]⟩:Str)=⟨(l++[c]).toArray⟩;simp
theorem U7(l:List Nat):(Dg l).length=l.length:=by simp[Dg,Str.length]
theorem kO{l:List Nat}:(V.str (Dg l)=V.str (Str.ofString ""))↔l=[]:=by
 constructor
 .intro h;injection h with h
  have h2:=rP (λx=>x.cps.toList) h;have e:(Str.ofString "").cps.toList=[]:=by decide +kernel
  rw[e]at h2
  simpa[Dg]using h2
 .rintro rfl;rfl
theorem small(h:n<=100000):n<=sizeLine:=Eb h (by decide +kernel)
theorem l7{k:Nat}{pre:List Nat}(h:pre++MA.lets k=MA.lets n):(0<k / 26->(pre++[97+k % 26])++MA.lets (k / 26)=MA.lets n)/\(k / 26=0->pre++[97+k % 26]=MA.lets n):=by
 constructor
 .intro h1;rw[MA.P4 (by omega)]at h;rw[<- h,BX];rfl
 .intro h1;have h2:k<26:=by omega
  rw[MA.N8 h2]at h;rw[<- h,Nat.mod_eq_of_lt h2]
def Nm(x:Str):Prop:=1<=x.length/\x.length<=8/\∀c∈x.cps.toList,97<=c/\c<=122
instance (x:Str):Decidable (Nm x):=by unfold Nm;exact inferInstance
theorem IQ(x:Str):x.length=x.cps.toList.length:=by simp[Str.length]
theorem X5(h:n<26 ^ 8):Nm (Dg (MA.lets n)):=by
 refine⟨by rw[U7];exact MA.W4 n,by rw[U7];exact MA.RS 7 n h,λc a=>MA.ZDK n c (by simpa[Dg]using a)⟩
noncomputable def menu:List Str:=["put","take","none","ahead","all","over","next","a","ab","abc","abcdefgh","b","step"]
theorem uD:∀x∈menu,Nm x:=by decide +kernel
noncomputable def RN:List V:=[.str "put",.str "take",.str "none",.str "ahead",.str "all",.str "over",.str "next",.str "a",.str "ab",.str "abc",.str "abcdefgh",.str "b",.str "step"]
theorem ZFj(a:0<=i)(h1:i<13):∃x,C8 RN i=some (.str x)/\Nm x:=by
 have b:menu.length=13:=rfl;have hi:i.toNat<menu.length:=by omega
 have e:RN=menu.map V.str:=rfl;refine⟨menu[i.toNat],NV a ?_,uD _ (Hs hi)⟩;rw[e,Aj,AX hi];rfl
theorem bY(a:0<=i)(h1:i<ns.length):∃x,C8 (ns.map V.str) i=some (.str x)/\x∈ns/\ns[i.toNat]?=some x:=by
 have hi:i.toNat<ns.length:=by omega
 exact⟨ns[i.toNat],NV a (by rw[Aj,AX hi];rfl),Hs hi,AX hi⟩
theorem L3(ns:List Str):(ns.map V.str).all DM=true:=by
 rw[Hq];intro x hx;obtain⟨y,_,rfl⟩:=List.mem_map.mp hx;rfl
theorem W6(x:Str)(ns:List Str):Ks (.str x) (ns.map V.str)=decide (x∈ns):=by
 unfold Ks;rw[Kg,ZGV,sP];constructor
 .rintro⟨v,b,h⟩;obtain⟨y,a,rfl⟩:=List.mem_map.mp b;have h':(y == x)=true:=h;have:y=x:=by simpa using h'
  rw[<- this];exact a
 .intro h;exact⟨.str x,List.mem_map.mpr ⟨x,h,rfl⟩,by show(x == x)=true;simp⟩
theorem ig(xs:List V):HX xs []=decide (xs=[]):=by
 cases xs with
 |nil=>rfl
 |cons x r=>rw[Nv (by simp)];simp
theorem sx(z:Str){a b:Nat}{lo hi:Option Int}(HW:a<=b)(c:b<=z.length)(e:Builtin.Str.strSliceIndices lo hi 1 z.length=Builtin.Str.strSliceIndices (some (a:Int)) (some (b:Int)) 1 z.length):
  (Txt.slice z lo hi).cps.toList=(z.cps.toList.drop a).take (b - a):=by
 have q:=StrLaws.sliced_plain z HW c;rw[<- e]at q;unfold Txt.slice;split
 .rename_i h;have d:(Builtin.Str.strSliceIndices lo hi 1 z.length).length=z.length:=by simpa using h
  rw[e,StrLaws.strSliceIndices_plain HW c,AD,Kl]at d;have h1:a=0:=by omega
  have h2:b=z.length:=by omega
  subst h1;subst h2;rw[Qk,Qt,IQ,FR]
 .rw[<- q]
theorem ZCn(h:0<=j):max (0:Int) (min j (n:Int))=max 0 (min ((min j.toNat n:Nat):Int) (n:Int)):=by
 have e:((min j.toNat n:Nat):Int)=min j n:=by
  rcases bP j.toNat n with c|c
  .rw[MV c,nH h,Int.min_eq_left (by have:=Int.ofNat_le.mpr c;rw[nH h]at this;exact this)]
  .rw[V2 c,Int.min_eq_right (by have:=Int.ofNat_le.mpr c;rw[nH h]at this;exact this)]
 rw[e,Int.min_assoc,Int.min_self]
theorem wI(z:Str)(h:0<=j):(Txt.slice z none (some j)).cps.toList=z.cps.toList.take j.toNat:=by
 have e:=sx z (a:=0) (b:=min j.toNat z.length) (lo:=none) (hi:=some j) (Cg _) (Nat.min_le_right _ _) (by
  have h1:¬ j<0:=by omega
  have h2:¬ (((min j.toNat z.length:Nat):Int)<0):=Int.not_lt.mpr (ZGS _);have c:max (0:Int) (min j (z.length:Int))=max 0 (min ((min j.toNat z.length:Nat):Int) (z.length:Int)):=ZCn h;simp only[Builtin.Str.strSliceIndices,h1,h2,if_false,c];rfl)
 rw[e,Qk,Qt];rcases bP j.toNat z.length with h1|h1
 .rw[MV h1]
 .rw[V2 h1,IQ,FR,Jh (by rw[<- IQ];exact h1)]
theorem d8(h:1<=j)(d:j<=8)(b:1<=z.length)(a:∀c∈z.cps.toList,97<=c/\c<=122):Nm (Txt.slice z none (some j)):=by
 have e:=wI z (j:=j) (by omega);refine⟨?_,?_,λc L6=>a c ?_⟩
 .rw[IQ,e,DR,<- IQ];omega
 .rw[IQ,e,DR];omega
 .rw[e]at L6;exact Qq L6
theorem md(x y:Str):(x++y).cps.toList=x.cps.toList++y.cps.toList:=by
 show(x.cps++y.cps).toList=_;simp
theorem lZ(x y:Str):(x++y).length=x.length+y.length:=by rw[IQ,md,Bt,<- IQ,<- IQ]
def lS(K:ZHa):Sp:=λvs H Q _=>∃(p q:Addr)(ns:List Str),vs=[.ref p,.ref q]/\Bf H p/\H q=some (.lst (ns.map V.str))/\q≠p/\(∀x∈ns,Nm x)/\ns.length<=1000/\∀x H',Nm x->x∉ns->C5 p H H'->Q (.str x) H'
theorem qz{k:Nat}(h:∀j,j<k->Dg (MA.lets j)∈ns):k<=ns.length:=
 MA.jf k (λj=>Dg (MA.lets j)) ns (λi j _ _ e=>MA.ZCu (by
  have:=rP (λx=>x.cps.toList) e
  simpa[Dg]using this)) h
theorem wu:1000<26 ^ 8:=by decide +kernel
theorem yu:(1000:Int)<26 ^ 8:=by decide +kernel
theorem ZCK:(26:Int) ^ (8:Int).toNat - 26<26 ^ 8:=by decide +kernel
theorem ZFy:(26:Int)<26 ^ 8:=by decide +kernel
theorem rN:(0:Int)<26 ^ (8:Int).toNat - 26:=by decide +kernel
theorem vR:(26:Int) ^ (8:Int).toNat - 26<10 ^ 18:=by decide +kernel
theorem mT(a:0<=r)(h:r<26 ^ 8):r.toNat<26 ^ 8:=by omega
theorem C5.upd(s:C5 p H H2)(h:H l=none)(Bd:l≠p):C5 p H (upd H2 l o):=by
 obtain⟨a,b,e,r⟩:=s.AZ;refine⟨⟨a,b,by rw[An (CC Bd)];exact e,r⟩,λc u d q=>?_⟩;rw[An (Di q h)];exact s.same c u d q
theorem Bf.ne(h:Bf H p)(a:H l=none):l≠p:=by
 obtain⟨_,_,e,_⟩:=h;exact(Di e a).symm
theorem AU.none(s:AU H H2)(h:H2 l=none):H l=none:=by
 cases q:H l with
 |none=>rfl
 |some o=>rw[s l o q]at h;cases h
def Zn:Sp:=λvs H Q _=>∃(p:Addr)(m:Int),vs=[.ref p,.int m]/\Bf H p/\0<=m/\m<=100/\
 ∀l H'(ns:List Str),H l=none->C5 p H H'->H' l=some (.lst (ns.map V.str))->(ns.length:Int)=m->(∀x∈ns,Nm x)->ns.Nodup->Q (.ref l) H'
theorem PN{l:List α}{x:α}(h:l.Nodup)(hx:x∉l):(l++[x]).Nodup:=by
 rw[Cp];exact⟨h,by simp,λa d b c=>by
  have:b=x:=by simpa using c
  subst this;rintro rfl;exact hx d⟩
noncomputable def UO(c:Nat):Bool:=!(Builtin.Str.occurrences Nd ⟨#[c]⟩ 0 Nd.length 1).isEmpty
def isNm(x:Str):Bool:=decide ((1:Int)<=x.length) && (decide ((x.length:Int)<=8) && x.cps.toList.all UO)
def ZJ:Sp:=λvs H Q _=>∃x:Str,vs=[.str x]/\x.length<=1000/\∀H',AU H H'->Q (.bl (isNm x)) H'
theorem tF(l:List α):l.filter (λ_=>true)=l:=List.filter_eq_self.mpr λ_ _=>rfl
noncomputable def cZ:V->V
 | .str y=>.bl (!(Builtin.Str.occurrences Nd y 0 Nd.length 1).isEmpty)
 |_=>.bl false
theorem u6(x:Str):((Gr x).filter (λ_=>true)).map cZ=(x.cps.toList.map UO).map V.bl:=by
 unfold Gr;rw[tF,Bu,Bu];rfl
theorem signs_get{i:Nat}{v:V}(h:(Gr x)[i]?=some v):∃c,v=.str ⟨#[c]⟩:=by
 unfold Gr at h;rw[Aj]at h;cases q:x.cps.toList[i]? with
 |none=>rw[q]at h;cases h
 |some c=>rw[q]at h;simp at h;exact⟨c,h.symm⟩
theorem all_map{α:Type}(f:α->Bool)(l:List α):(l.map f).all id=l.all f:=by rw[nI];rfl
theorem oK(xs:List Str):HX (xs.map V.str) (xs.map V.str)=true:=by
 rw[NM rfl,Hq];intro j a;have b:j<xs.length:=by simpa using a
 have e:(xs.map V.str)[j]?=some (.str xs[j]):=by rw[Aj,AX b];rfl
 rw[O2 e];show(xs[j] == xs[j])=true;simp
def OQ(K:ZHa):Sp:=λvs H Q _=>∃(a:Addr)(ns:List Int),vs=[.ref a]/\AW K H a (ns.map V.int)/\ns.length<=63/\∀H',Q (.bl true) H'
noncomputable def EZ(tp:Bool)(xs:List V):HO:=match tp with
 |false=>.lst xs
 |true=>.tup xs
theorem EZ.sq{K:ZHa}{tp:Bool}(h:H a=some (EZ tp xs)):GS K tp H a xs:=by
 cases tp
 .exact AW.of h
 .exact B7.of h
theorem C9{c A B:Prop}[Decidable c](h:¬ c)(b:B):if c then A else B:=by rw[pL h];exact b
theorem ZFh:∀j,j<26->UO (97+j)=true:=by decide +kernel
theorem va(h:Nm x):isNm x=true:=by
 obtain⟨h1,h2,f⟩:=h;unfold isNm;rw[pf (by omega),pf (by omega),nC,nC,Hq];intro c d;obtain⟨a,b⟩:=f c d;have:=ZFh (c - 97) (by omega);have e:97+(c - 97)=c:=by omega
 rw[e]at this;exact this
end Lw
namespace Fz
open L2 Lw
variable{F F' H H':Hp}{v:V}{Bs vs:List V}{i i0 j n:Nat}{a l:Addr}{r:List V->Hp->VK->Prop}{O τ:L2.St}{o:HO}{ta tc te:TE}{tb u:TS}{b neg tp:Bool}{f:Int->Int->Int}{g:TG}{c tt:TT}{wi:TI}{A:List Addr}{Q:VK}{X:XK}
inductive PV where
 |AE|bl (b:Bool)|int (i:Int)|str (x:Str)|lst (xs:List PV)|tup (xs:List PV)
 |BD (ks:List Key) (xs:List PV)|obj (C:Addr) (ns:List Str) (xs:List PV)|exc (C:Addr) (ns:List Str) (xs:List PV)|con (a:Addr) (xs:List PV)
variable{p:PV}{ps xs:List PV}
noncomputable def Uo(a C:Addr)(dx:Option Addr):HO:=.ext λh=>∃ob vs,h.get? a=some ob/\ob.cls=.ref C/\ob.dict=dx/\ob.data=.fields vs
mutual
inductive Rep (F:Hp):V->PV->Prop where
 |AE:Rep F .AE .AE
 |bl (b:Bool):Rep F (.bl b) (.bl b)
 |int (i:Int):Rep F (.int i) (.int i)
 |str (x:Str):Rep F (.str x) (.str x)
 |lst {a:Addr}{vs:List V}{xs:List PV}:F a=some (.lst vs)->AR F vs xs->Rep F (.ref a) (.lst xs)
 |tup {a:Addr}{vs:List V}{xs:List PV}:F a=some (.tup vs)->AR F vs xs->Rep F (.ref a) (.tup xs)
 |BD {a:Addr}{ks:List Key}{vs:List V}{xs:List PV}:F a=some (.dK (ks.zip vs))->ks.length=vs.length->AR F vs xs->Rep F (.ref a) (.BD ks xs)
 |obj {a C dx:Addr}{ns:List Str}{vs:List V}{xs:List PV}:F a=some (.ins C dx (ns.zip vs))->F dx=some (.own a)->ns.length=vs.length->AR F vs xs->Rep F (.ref a) (.obj C ns xs)
 |con {a:Addr}{xs:List PV}:Rep F (.ref a) (.con a xs)
 |WW {a C:Addr}:F a=some (Uo a C none)->Rep F (.ref a) (.exc C [] [])
 |exc {a C dx:Addr}{ns:List Str}{vs:List V}{xs:List PV}:F a=some (Uo a C (some dx))->F dx=some (.xd (ns.zip vs))->ns.length=vs.length->AR F vs xs->Rep F (.ref a) (.exc C ns xs)
inductive AR (F:Hp):List V->List PV->Prop where
 |nil:AR F [] []
 |cons {v:V}{p:PV}{vs:List V}{ps:List PV}:Rep F v p->AR F vs ps->AR F (v::vs) (p::ps)
end
theorem Rep.mono(s:AU F F')(r:Rep F v p):Rep F' v p:=
 Rep.rec (motive_1:=λv p _=>Rep F' v p) (motive_2:=λvs ps _=>AR F' vs ps) .AE .bl .int .str (λh _ i=>.lst (s _ _ h) i) (λh _ i=>.tup (s _ _ h) i) (λh e _ i=>.BD (s _ _ h) e i) (λh h2 e _ i=>.obj (s _ _ h) (s _ _ h2) e i) .con (λh=>.WW (s _ _ h)) (λh h2 e _ i=>.exc (s _ _ h) (s _ _ h2) e i) .nil (λ_ _ i k=>.cons i k) r
def ZC8(F:Hp)(v:V):PV->Prop
 | .AE=>v=.AE
 | .bl b=>v=.bl b
 | .int i=>v=.int i
 | .str x=>v=.str x
 | .lst xs=>∃a vs,v=.ref a/\F a=some (.lst vs)/\AR F vs xs
 | .tup xs=>∃a vs,v=.ref a/\F a=some (.tup vs)/\AR F vs xs
 | .BD ks xs=>∃a vs,v=.ref a/\F a=some (.dK (ks.zip vs))/\ks.length=vs.length/\AR F vs xs
 | .obj C ns xs=>∃a dx vs,v=.ref a/\F a=some (.ins C dx (ns.zip vs))/\F dx=some (.own a)/\ns.length=vs.length/\AR F vs xs
 | .con a _=>v=.ref a
 | .exc C ns xs=>(∃a,v=.ref a/\F a=some (Uo a C none)/\ns=[]/\xs=[])∨∃a dx vs,v=.ref a/\F a=some (Uo a C (some dx))/\F dx=some (.xd (ns.zip vs))/\ns.length=vs.length/\AR F vs xs
theorem Rep.inv(r:Rep F v p):ZC8 F v p:=by
 cases r with
 |lst h r=>exact⟨_,_,rfl,h,r⟩
 |tup h r=>exact⟨_,_,rfl,h,r⟩
 |BD h l r=>exact⟨_,_,rfl,h,l,r⟩
 |obj h h2 l r=>exact⟨_,_,_,rfl,h,h2,l,r⟩
 |WW h=>exact .inl ⟨_,rfl,h,rfl,rfl⟩
 |exc h h2 l r=>exact .inr ⟨_,_,_,rfl,h,h2,l,r⟩
 |_=>exact rfl
theorem AR.inv(r:AR F vs (p::ps)):∃v ws,vs=v::ws/\Rep F v p/\AR F ws ps:=by
 cases r with
 |cons r t=>exact⟨_,_,rfl,r,t⟩
theorem AR.DI(r:AR F vs []):vs=[]:=by
 cases r;rfl
theorem AR.mono(s:AU F F')(r:AR F vs ps):AR F' vs ps:=by
 induction ps generalizing vs with
 |nil=>cases r.DI;exact .nil
 |cons p ps c=>obtain⟨v,ws,rfl,a,b⟩:=r.inv;exact .cons (a.mono s) (c b)
theorem AR.length{F:Hp}{vs:List V}{ps:List PV}(r:AR F vs ps):vs.length=ps.length:=by
 induction ps generalizing vs with
 |nil=>cases r.DI;rfl
 |cons p ps c=>obtain⟨v,ws,rfl,a,b⟩:=r.inv;exact rP (· + 1) (c b)
theorem AR.get{F:Hp}{vs:List V}{ps:List PV}{i:Nat}{p:PV}(r:AR F vs ps)(e:ps[i]?=some p):∃v,vs[i]?=some v/\Rep F v p:=by
 induction ps generalizing vs i with
 |nil=>cases e
 |cons q ps c=>
  obtain⟨v,ws,rfl,a,b⟩:=r.inv;cases i with
  |zero=>cases e;exact⟨_,rfl,a⟩
  |succ i=>exact c (vs:=ws) (i:=i) b e
theorem AR.get'(r:AR F vs ps)(e:vs[i]?=some v):∃p,ps[i]?=some p/\Rep F v p:=by
 induction ps generalizing vs i with
 |nil=>cases r.DI;cases e
 |cons q ps c=>
  obtain⟨u,ws,rfl,a,b⟩:=r.inv;cases i with
  |zero=>cases e;exact⟨_,rfl,a⟩
  |succ i=>exact c (vs:=ws) (i:=i) b e
theorem AR.append{ws:List V}{c:List PV}(r:AR F vs ps)(s:AR F ws c):AR F (vs++ws) (ps++c):=by
 induction ps generalizing vs with
 |nil=>cases r.DI;exact s
 |cons p ps d=>obtain⟨v,us,rfl,a,b⟩:=r.inv;exact .cons a (d b)
theorem AR.take(n:Nat)(r:AR F vs ps):AR F (vs.take n) (ps.take n):=by
 induction ps generalizing vs n with
 |nil=>cases r.DI;rw[List.take_nil,List.take_nil];exact .nil
 |cons p ps c=>
  obtain⟨v,us,rfl,a,b⟩:=r.inv;cases n with
  |zero=>exact .nil
  |succ n=>exact .cons a (c n b)
theorem AR.drop(n:Nat)(r:AR F vs ps):AR F (vs.drop n) (ps.drop n):=by
 induction ps generalizing vs n with
 |nil=>cases r.DI;rw[List.drop_nil,List.drop_nil];exact .nil
 |cons p ps c=>
  cases n with
  |zero=>exact r
  |succ n=>obtain⟨v,us,rfl,a,b⟩:=r.inv;exact c n b
theorem AR.one(r:Rep F v p):AR F [v] [p]:=.cons r .nil
noncomputable def flat:PV->Bool
 | .lst _=>false
 | .tup _=>false
 | .BD _ _=>false
 | .obj _ _ _=>false
 | .exc _ _ _=>false
 | .con _ _=>false
 |_=>true
noncomputable def enc:PV->V
 | .bl b=>.bl b
 | .int i=>.int i
 | .str x=>.str x
 |_=>.AE
theorem Rep.enc(h:flat p=true)(r:Rep F v p):v=enc p:=by
 cases r <;> first|rfl|cases h
theorem qy(h:flat p=true):Rep F (enc p) p:=by
 cases p with
 |AE=>exact .AE
 |bl b=>exact .bl b
 |int i=>exact .int i
 |str x=>exact .str x
 |lst xs=>cases h
 |tup xs=>cases h
 |BD ks xs=>cases h
 |obj C ns xs=>cases h
 |exc C ns xs=>cases h
 |con a xs=>cases h
theorem AR.enc(h:ps.all flat=true)(r:AR F vs ps):vs=ps.map enc:=by
 induction ps generalizing vs with
 |nil=>exact r.DI
 |cons p ps c=>
  obtain⟨v,us,rfl,a,b⟩:=r.inv;rw[Qj,GX]at h;rw[Ae,<- Rep.enc h.1 a,<- c h.2 b]
theorem mC(h:ps.all flat=true):AR F (ps.map enc) ps:=by
 induction ps with
 |nil=>exact .nil
 |cons p r a=>
  rw[Qj,GX]at h;exact .cons (qy h.1) (a h.2)
theorem RK(h:flat p=true):DM (Fz.enc p)=true:=by cases p <;> first|rfl|cases h
theorem mM(ns:List Str):(ns.map PV.str).all flat=true:=by
 rw[Hq];intro x hx;obtain⟨y,_,rfl⟩:=List.mem_map.mp hx;rfl
theorem ZAZ(ns:List Int):(ns.map PV.int).all flat=true:=by
 rw[Hq];intro x hx;obtain⟨y,_,rfl⟩:=List.mem_map.mp hx;rfl
theorem yj(ns:List Bool):(ns.map PV.bl).all flat=true:=by
 rw[Hq];intro x hx;obtain⟨y,_,rfl⟩:=List.mem_map.mp hx;rfl
theorem Ys(ns:List Str):(ns.map PV.str).map Fz.enc=ns.map V.str:=by rw[Bu];rfl
theorem oN(ns:List Bool):(ns.map PV.bl).map Fz.enc=ns.map V.bl:=by rw[Bu];rfl
theorem ZB5(ns:List Int):(ns.map PV.int).map Fz.enc=ns.map V.int:=by rw[Bu];rfl
theorem AR.strs{ns:List Str}(r:AR F vs (ns.map PV.str)):vs=ns.map V.str:=(r.enc (mM ns)).trans (Ys ns)
theorem ZBk(ns:List Str):AR F (ns.map V.str) (ns.map PV.str):=by rw[<- Ys];exact mC (mM ns)
theorem AR.Xo{ns:List Bool}(r:AR F vs (ns.map PV.bl)):vs=ns.map V.bl:=(r.enc (yj ns)).trans (oN ns)
theorem AR.ints{ns:List Int}(r:AR F vs (ns.map PV.int)):vs=ns.map V.int:=(r.enc (ZAZ ns)).trans (ZB5 ns)
inductive NK where
 |lst|BD (ks:List Key)|obj (C dx:Addr) (ns:List Str)|J6 (ks:List (List Key))
noncomputable def NK.ho:NK->List V->HO
 | .lst,vs=>.lst vs
 | .BD ks,vs=>.dK (ks.zip vs)
 | .obj C dx ns,vs=>.ins C dx (ns.zip vs)
 | .J6 ks,vs=>.dT (ks.zip vs)
noncomputable def NK.more:NK->List Addr
 | .obj _ dx _=>[dx]
 |_=>[]
def NK.side(k:NK)(a:Addr)(H:Hp):Prop:=match k with
 | .obj _ dx _=>H dx=some (.own a)
 |_=>True
def NK.fit(k:NK)(n:Nat):Prop:=match k with
 | .BD ks=>ks.length=n
 | .obj _ _ ns=>ns.length=n
 | .J6 ks=>ks.length=n
 |_=>True
inductive OV where
 |fz (p:PV)
 |tp (xs:List OV)
 |nd (k:NK) (a:Addr) (xs:List OV)
variable{ts:List OV}
mutual
def OV.addrs:OV->List Addr
 | .fz _=>[]
 | .tp xs=>OV.Al xs
 | .nd k a xs=>a::(k.more++OV.Al xs)
def OV.Al:List OV->List Addr
 | []=>[]
 |x::r=>x.addrs++OV.Al r
end
mutual
def OV.pv:OV->PV
 | .fz p=>p
 | .tp xs=>.tup (OV.Cs xs)
 | .nd .lst _ xs=>.lst (OV.Cs xs)
 | .nd (.BD ks) _ xs=>.BD ks (OV.Cs xs)
 | .nd (.obj C _ ns) _ xs=>.obj C ns (OV.Cs xs)
 | .nd (.J6 _) a _=>.con a []
def OV.Cs:List OV->List PV
 | []=>[]
 |x::r=>x.pv::OV.Cs r
end
mutual
inductive B0 (F H:Hp):V->OV->Prop where
 |fz {v:V}{p:PV}:Rep F v p->B0 F H v (.fz p)
 |tp {a:Addr}{vs:List V}{xs:List OV}:F a=some (.tup vs)->BP F H vs xs->B0 F H (.ref a) (.tp xs)
 |nd {k:NK}{a:Addr}{vs:List V}{xs:List OV}:H a=some (k.ho vs)->k.side a H->k.fit vs.length->BP F H vs xs->B0 F H (.ref a) (.nd k a xs)
inductive BP (F H:Hp):List V->List OV->Prop where
 |nil:BP F H [] []
 |cons {v:V}{t:OV}{vs:List V}{ts:List OV}:B0 F H v t->BP F H vs ts->BP F H (v::vs) (t::ts)
end
def ZB3(F H:Hp)(v:V):OV->Prop
 | .fz p=>Rep F v p
 | .tp xs=>∃a vs,v=.ref a/\F a=some (.tup vs)/\BP F H vs xs
 | .nd k a xs=>∃vs,v=.ref a/\H a=some (k.ho vs)/\k.side a H/\k.fit vs.length/\BP F H vs xs
theorem B0.inv{t:OV}(r:B0 F H v t):ZB3 F H v t:=by
 cases r with
 |fz r=>exact r
 |tp h r=>exact⟨_,_,rfl,h,r⟩
 |nd h a b r=>exact⟨_,rfl,h,a,b,r⟩
theorem BP.inv{t:OV}(r:BP F H vs (t::ts)):∃v ws,vs=v::ws/\B0 F H v t/\BP F H ws ts:=by
 cases r with
 |cons r t=>exact⟨_,_,rfl,r,t⟩
theorem BP.DI(r:BP F H vs []):vs=[]:=by
 cases r;rfl
theorem OV.DE{k:NK}{xs:List OV}:(OV.nd k a xs).addrs=a::(k.more++OV.Al xs):=by rw[OV.addrs]
theorem OV.Gs{xs:List OV}:(OV.tp xs).addrs=OV.Al xs:=by rw[OV.addrs]
theorem OV.Hc:(OV.fz p).addrs=[]:=by rw[OV.addrs]
theorem OV.DW{x:OV}{r:List OV}:OV.Al (x::r)=x.addrs++OV.Al r:=by rw[OV.Al]
theorem OV.G6:OV.Al []=[]:=by rw[OV.Al]
theorem NK.fP{k:NK}(h:k.side a H)(s:∀b∈k.more,∀o,H b=some o->H' b=some o):k.side a H':=by
 cases k with
 |obj C dx ns=>exact s dx (by simp[NK.more]) _ h
 |_=>trivial
theorem B0.mono(f:AU F F'){t:OV}(r:B0 F H v t):(∀a∈t.addrs,∀o,H a=some o->H' a=some o)->B0 F' H' v t:=
 B0.rec (motive_1:=λv t _=>(∀a∈t.addrs,∀o,H a=some o->H' a=some o)->B0 F' H' v t) (motive_2:=λvs ts _=>(∀a∈OV.Al ts,∀o,H a=some o->H' a=some o)->BP F' H' vs ts)
  (λr _=>.fz (r.mono f))
  (λh _ i s=>.tp (f _ _ h) (i (by rw[OV.Gs]at s;exact s)))
  (λh d g _ i s=>by
   rw[OV.DE]at s;exact .nd (s _ Es _ h) (NK.fP d λb e=>s b (DS _ (G8 _ e))) g (i λa c=>s a (DS _ (Er _ c))))
  (λ_=>.nil)
  (λ_ _ i k s=>by
   rw[OV.DW]at s;exact .cons (i λa c=>s a (G8 _ c)) (k λa c=>s a (Er _ c)))
  r
theorem BP.mono(f:AU F F')(r:BP F H vs ts)(s:∀a∈OV.Al ts,∀o,H a=some o->H' a=some o):BP F' H' vs ts:=by
 induction ts generalizing vs with
 |nil=>cases r.DI;exact .nil
 |cons p ps d=>
  obtain⟨v,ws,rfl,a,b⟩:=r.inv;rw[OV.DW]at s;exact .cons (a.mono f λa c=>s a (G8 _ c)) (d b λa c=>s a (Er _ c))
theorem B0.there{t:OV}(r:B0 F H v t):∀a∈t.addrs,H a≠none:=
 B0.rec (motive_1:=λv t _=>∀a∈t.addrs,H a≠none) (motive_2:=λvs ts _=>∀a∈OV.Al ts,H a≠none)
  (λ_ a c=>by rw[OV.Hc]at c;cases c)
  (λ_ _ i a c=>i a (by rw[OV.Gs]at c;exact c))
  (λ{k b vs xs}h d f _ i a c=>by
   rw[OV.DE,G9,MU]at c;rcases c with rfl|c|c
   .rw[h];exact λz=>by cases z
   .cases k with
    |obj C dx ns=>
     have e:a=dx:=List.mem_singleton.mp c;rw[e,show H dx=some (.own b)from d];exact λz=>by cases z
    |_=>cases c
   .exact i a c)
  (λa c=>by rw[OV.G6]at c;cases c)
  (λ_ _ i k a c=>by
   rw[OV.DW,MU]at c;exact c.elim (i a) (k a))
  r
theorem BP.there(r:BP F H vs ts):∀a∈OV.Al ts,H a≠none:=by
 induction ts generalizing vs with
 |nil=>intro a c;rw[OV.G6]at c;cases c
 |cons p ps d=>
  obtain⟨v,ws,rfl,x,b⟩:=r.inv;intro a c;rw[OV.DW,MU]at c;exact c.elim (x.there a) (d b a)
theorem BP.length{F H:Hp}{vs:List V}{ts:List OV}(r:BP F H vs ts):vs.length=ts.length:=by
 induction ts generalizing vs with
 |nil=>cases r.DI;rfl
 |cons p ps c=>obtain⟨v,ws,rfl,a,b⟩:=r.inv;exact rP (· + 1) (c b)
inductive Slot where
 |any|is (p:PV)|own (xs:List PV)|AZ|sq (tp:Bool) (xs:List PV)|raw (P:Hp->V->Prop)|ow (lt:Bool) (t:OV)
variable{ss:List Slot}{s:Slot}{Rt nx:List Slot->Prop}
structure Ent0 where
 A:List Addr
 F0:Hp
 H0:Hp
 B:List Addr
variable{E:Ent0}
noncomputable abbrev E3(A:List Addr)(F H:Hp):Ent0:=⟨A,F,H,[]⟩
def Ok(E:Ent0)(F H:Hp):Slot->Option (Option V)->Prop
 | .any,_=>True
 | .is p,o=>∃v,o=some (some v)/\Rep F v p
 | .own xs,o=>∃l vs,o=some (some (.ref l))/\F l=none/\E.H0 l=none/\H l=some (.lst vs)/\AR F vs xs
 | .AZ,o=>∃l,o=some (some (.ref l))/\F l=none/\(E.H0 l=none∨l∈E.A)/\Bf H l
 | .sq true xs,o=>∃v,o=some (some v)/\Rep F v (.tup xs)
 | .sq false xs,o=>∃l vs,o=some (some (.ref l))/\(l∉E.A/\l∉E.B)/\E.H0 l=some (.lst vs)/\AR F vs xs
 | .raw P,o=>∃v,o=some (some v)/\P F v/\∀F F',AU F F'->P F v->P F' v
 | .ow lt t,o=>∃v,o=some (some v)/\B0 F H v t/\t.addrs.Nodup/\∀a∈t.addrs,F a=none/\(E.H0 a=none∨(lt=true/\a∈E.B))
def BJ:Slot->Option (Option V)->Addr->Prop
 | .own _,o,l=>o=some (some (.ref l))
 | .AZ,o,l=>o=some (some (.ref l))
 | .ow _ t,_,l=>l∈t.addrs
 |_,_,_=>False
structure Fin (E:Ent0) (F H:Hp):Prop where
 fh:AU F H
 f0:AU E.F0 F
 keep:∀a o,(a∉E.A/\a∉E.B)->E.H0 a=some o->H a=some o
 fresh:∀a o,F a=some o->E.F0 a=some o∨E.H0 a=none
 Hz:∀a,a∈E.A->Bf H a
 Qd:∀a,a∈E.A->F a=none
 a0:∀a,a∈E.A->E.H0 a≠none
 bF:∀a,a∈E.B->F a=none
 bH:∀a,a∈E.B->H a≠none
 b0:∀a,a∈E.B->E.H0 a≠none/\a∉E.A
structure Sg (E:Ent0) (ss:List Slot) (O:L2.St) (F H:Hp):Prop extends Fin E F H where
 len:ss.length=O.length
 ok:∀(i:Nat)s,ss[i]?=some s->Ok E F H s O[i]?
 CN:∀(i j:Nat)s u l,i≠j->ss[i]?=some s->ss[j]?=some u->BJ s O[i]? l->¬ BJ u O[j]? l
structure Ex where
 C:Addr
 ns:List Str
 xs:List PV
def Ex.at(x:Ex)(F:Hp)(C:Value)(dx:Option Addr):Prop:=
 C=.ref x.C/\((x.ns=[]/\x.xs=[]/\dx=none)∨∃a vs,dx=some a/\F a=some (.xd (x.ns.zip vs))/\x.ns.length=vs.length/\AR F vs x.xs)
class Xw where
 e:L2.St->XK
 J:List Slot->Prop
 D:Ex->Prop
structure Ent [Xw] extends Ent0 where
 hx:∀(ss:List Slot)(O:L2.St)(F H:Hp)(x:Ex)(C:Value)(dx:Option Addr),Xw.J ss->Sg toEnt0 ss O F H->Xw.D x->x.at F C dx->Xw.e O C dx H
instance [Xw]:CoeOut Ent Ent0:=⟨Ent.toEnt0⟩
noncomputable instance iw:Xw:=⟨λ_=>E0,λ_=>True,λ_=>False⟩
def C6(ss:List Slot)(O:L2.St)(a:Addr):Prop:=∀i:Nat,ss[i]?=some .AZ->O[i]?≠some (some (.ref a))
structure Mv (E:Ent0) (ss:List Slot) (O:L2.St) (F H F' H':Hp):Prop where
 st:Sg E ss O F' H'
 ff:AU F F'
 hh:∀a o,C6 ss O a->H a=some o->H' a=some o
 nn:∀a o,F' a=some o->F a=some o∨H a=none
theorem Sg.Ic(S:Sg E ss O F H)(h:H l=none):C6 ss O l:=λi hi e=>by
 obtain⟨c,b,_,_,_,_,a,_⟩:=S.ok i _ hi;rw[e]at b;cases b;rw[h]at a;cases a
theorem Mv.none(m:Mv E ss O F H F' H')(h:H' a=none):H a=none:=by
 cases e:H a with
 |none=>rfl
 |some o=>rw[m.hh a o (m.st.Ic h) e]at h;cases h
theorem Mv.refl(S:Sg E ss O F H):Mv E ss O F H F H:=⟨S,AU.refl _,λ_ _ _ e=>e,λ_ _ e=>.inl e⟩
theorem Mv.trans{F1 H1 F2 H2:Hp}(a:Mv E ss O F H F1 H1)(b:Mv E ss O F1 H1 F2 H2):Mv E ss O F H F2 H2:=
 ⟨b.st,a.ff.trans b.ff,λc o n e=>b.hh c o n (a.hh c o n e),λc o e=>(b.nn c o e).elim (λe=>a.nn c o e) λe=>.inr (a.none e)⟩
theorem Sg.DU(S:Sg E ss O F H){p:Addr}(h:H p=none):E.H0 p=none:=by
 cases e:E.H0 p with
 |none=>rfl
 |some o=>
  by_cases q:p∈E.A
  .obtain⟨_,_,b,_⟩:=S.Hz p q;rw[h]at b;cases b
  .by_cases a:p∈E.B
   .exact absurd h (S.bH p a)
   .rw[S.keep p o ⟨q,a⟩ e]at h;cases h
theorem Sg.CA(S:Sg E ss O F H){p:Addr}(h:H p=none):F p=none:=AU.none S.fh h
theorem Bf.keep(h:Bf H l)(k:∀o,H l=some o->H' l=some o):Bf H' l:=by
 obtain⟨a,b,e,r⟩:=h;exact⟨a,b,k _ e,r⟩
theorem Sg.cn(S:Sg E ss O F H)(h:F l=some o):C6 ss O l:=λi hi e=>by
 obtain⟨c,b,a,_⟩:=S.ok i _ hi;rw[e]at b;cases b;rw[h]at a;cases a
theorem Sg.gW(S:Sg E ss O F H)(b:l∉E.A)(h:E.H0 l=some o):C6 ss O l:=λi hi e=>by
 obtain⟨c,a,_,q,_⟩:=S.ok i _ hi;rw[e]at a;cases a;rcases q with q|q
 .rw[h]at q;cases q
 .exact b q
theorem Sg.yX(S:Sg E ss O F H)(h:l∈E.B):C6 ss O l:=λi hi e=>by
 obtain⟨d,a,_,q,_⟩:=S.ok i _ hi;rw[e]at a;cases a;obtain⟨c,b⟩:=S.b0 l h;rcases q with q|q
 .exact c q
 .exact b q
theorem Sg.EL(S:Sg E ss O F H)(h:ss[i]?=some s)(m:BJ s O[i]? l):H l≠none:=by
 have k:=S.ok i s h;cases s with
 |own xs=>obtain⟨c,vs,a,_,_,b,_⟩:=k;rw[show O[i]?=some (some (.ref l))from m]at a;cases a;rw[b];simp
 |AZ=>obtain⟨c,a,_,_,_,_,b,_⟩:=k;rw[show O[i]?=some (some (.ref l))from m]at a;cases a;rw[b];simp
 |ow lt t=>obtain⟨v,_,r,_⟩:=k;exact r.there l m
 |_=>cases m
theorem Sg.ra(S:Sg E ss O F H)(h:ss[i]?=some s)(m:BJ s O[i]? l):F l=none:=by
 have k:=S.ok i s h;cases s with
 |own xs=>obtain⟨c,vs,a,b,_⟩:=k;rw[show O[i]?=some (some (.ref l))from m]at a;cases a;exact b
 |AZ=>obtain⟨c,a,b,_⟩:=k;rw[show O[i]?=some (some (.ref l))from m]at a;cases a;exact b
 |ow lt t=>obtain⟨v,_,r,_,q⟩:=k;exact(q l m).1
 |_=>cases m
theorem Sg.ID(S:Sg E ss O F H)(h:ss[i]?=some s)(a:H l=none):¬ BJ s O[i]? l:=λm=>S.EL h m a
theorem Sg.NH(S:Sg E ss O F H)(h:ss[i]?=some s)(m:BJ s O[i]? l)(np:s≠.AZ):C6 ss O l:=λj a b=>
 S.CN i j s _ l (by rintro rfl;rw[h]at a;exact np (BY a)) h a m b
theorem Ok.go(S:Sg E ss O F H)(hi:ss[i]?=some s)(ff:AU F F')(hk:∀a o,BJ s O[i]? a->H a=some o->H' a=some o)(CA:∀a,H a≠none->F a=none->F' a=none)(np:s≠.AZ):Ok E F' H' s O[i]?:=by
 have k:=S.ok i s hi;cases s with
 |any=>trivial
 |is p=>obtain⟨v,e,r⟩:=k;exact⟨v,e,r.mono ff⟩
 |own xs=>
  obtain⟨l,vs,e,d,c,f,r⟩:=k;exact⟨l,vs,e,CA l (by rw[f];simp) d,c,hk l _ e f,r.mono ff⟩
 |AZ=>exact absurd rfl np
 |sq tp xs=>
  cases tp with
  |true=>obtain⟨v,e,r⟩:=k;exact⟨v,e,r.mono ff⟩
  |false=>obtain⟨l,vs,e,d,c,r⟩:=k;exact⟨l,vs,e,d,c,r.mono ff⟩
 |raw P=>obtain⟨v,e,r,st⟩:=k;exact⟨v,e,st _ _ ff r,st⟩
 |ow lt t=>
  obtain⟨v,e,r,nd,q⟩:=k;exact⟨v,e,r.mono ff λa b o=>hk a o b,nd,λa b=>⟨CA a (r.there a b) (q a b).1,(q a b).2⟩⟩
theorem Sg.step(S:Sg E ss O F H)(ff:AU F F')(fh:AU F' H')(hk:∀a o,C6 ss O a->H a=some o->H' a=some o)(d:∀a o,F' a=some o->F a=some o∨H a=none)
  (g:∀(i:Nat)l,ss[i]?=some .AZ->O[i]?=some (some (.ref l))->Bf H' l):Mv E ss O F H F' H':=by
 have CA:∀a,H a≠none->F a=none->F' a=none:=λa h1 h2=>by
  cases e:F' a with
  |none=>rfl
  |some o=>
   rcases d a o e with q|q
   .rw[h2]at q;cases q
   .exact absurd q h1
 have h:∀a,Bf H a->C6 ss O a->Bf H' a:=λa p n=>Bf.keep p λo e=>hk a o n e;refine⟨⟨⟨fh,S.f0.trans ff,λa o b e=>?_,λa o e=>?_,λa b=>?_,λa b=>?_,S.a0,λa c=>CA a (S.bH a c) (S.bF a c),λa c=>?_,S.b0⟩,S.len,λi s hi=>?_,S.CN⟩,ff,hk,d⟩
 .exact hk a o (S.gW b.1 e) (S.keep a o b e)
 .rcases d a o e with q|q
  .exact S.fresh a o q
  .exact .inr (S.DU q)
 .by_cases q:∃i:Nat,ss[i]?=some .AZ/\O[i]?=some (some (.ref a))
  .obtain⟨i,k,j⟩:=q;exact g i a k j
  .exact h a (S.Hz a b) λi h1 h2=>q ⟨i,h1,h2⟩
 .refine CA a ?_ (S.Qd a b);obtain⟨_,_,f,_⟩:=S.Hz a b;rw[f];simp
 .obtain⟨o,e⟩:=Option.ne_none_iff_exists'.mp (S.bH a c);rw[hk a o (S.yX c) e];simp
 .by_cases np:s=.AZ
  .subst np;obtain⟨l,e,f,u,t⟩:=S.ok i _ hi;have v:=t;obtain⟨_,_,r,_⟩:=v;exact⟨l,e,CA l (by rw[r];simp) f,u,g i l hi e⟩
  .exact Ok.go S hi ff (λa o m=>hk a o (S.NH hi m np)) CA np
theorem Sg.Ez(S:Sg E ss O F H)(hi:ss[i]?=some .AZ)(e:O[i]?=some (some (.ref l))):Bf H l:=by
 obtain⟨b,a,_,_,p⟩:=S.ok i _ hi;rw[e]at a;cases a;exact p
theorem Sg.alloc(S:Sg E ss O F H){p:Addr}(h:H p=none)(o:HO):Mv E ss O F H (upd F p o) (upd H p o):=by
 refine S.step (E7 (S.CA h) _) (λa u e=>?_) (λa u _ e=>E7 h o a u e) (λa u e=>?_) λi l hi e=>Bf.keep (S.Ez hi e) λu e=>E7 h o l u e
 .by_cases q:a=p
  .subst q;rw[BC]at e ⊢;exact e
  .rw[An q]at e ⊢;exact S.fh a u e
 .by_cases q:a=p
  .subst q;exact .inr h
  .rw[An q]at e;exact .inl e
theorem Sg.make(S:Sg E ss O F H){p:Addr}(h:H p=none)(o:HO):Mv E ss O F H F (upd H p o):=
 S.step (AU.refl _) (S.fh.trans (E7 h o)) (λa u _ e=>E7 h o a u e) (λa u e=>.inl e) λi l hi e=>Bf.keep (S.Ez hi e) λu e=>E7 h o l u e
theorem Sg.grow(S:Sg E ss O F H)(s:AU H H'):Mv E ss O F H F H':=
 S.step (AU.refl _) (S.fh.trans s) (λa u _ e=>s a u e) (λa u e=>.inl e) λi l hi e=>Bf.keep (S.Ez hi e) λu e=>s l u e
theorem Sg.setG(S:Sg E ss O F H)(AY:Ok E F H s (some (some v)))(e:∀l,BJ s (some (some v)) l->∀(i:Nat)u,i≠j->ss[i]?=some u->¬ BJ u O[i]? l):Sg E (ss.set j s) (O.set j (some v)) F H:=by
 refine⟨S.toFin,by rw[MT,MT];exact S.len,λi u hi=>?_,λi k u w l Ru hi hk c b=>?_⟩
 .by_cases q:i=j
  .subst q;have a:i<ss.length:=by have:=(List.getElem?_eq_some_iff.mp hi).1;simpa using this
   rw[DP a]at hi;cases hi;rw[DP (by rw[<- S.len];exact a)];exact AY
  .rw[DH (CC q)]at hi ⊢;exact S.ok i u hi
 .by_cases q:i=j
  .subst q;have a:i<ss.length:=by have:=(List.getElem?_eq_some_iff.mp hi).1;simpa using this
   rw[DP a]at hi;rw[DP (by rw[<- S.len];exact a)]at c;cases hi;rw[DH Ru]at hk b;exact e l c k w (CC Ru) hk b
  .rw[DH (CC q)]at hi c
   by_cases d:k=j
   .subst d;have a:k<ss.length:=by have:=(List.getElem?_eq_some_iff.mp hk).1;simpa using this
    rw[DP a]at hk;cases hk;rw[DP (by rw[<- S.len];exact a)]at b;exact e l b i u Ru hi c
   .rw[DH (CC d)]at hk b;exact S.CN i k u w l Ru hi hk c b
theorem Sg.EM(S:Sg E ss O F H)(r:Rep F v p):Sg E (ss.set j (.is p)) (O.set j (some v)) F H:=S.setG ⟨v,rfl,r⟩ λ_ h=>by cases h
def Sv(ss:List Slot)(O:L2.St)(F H:Hp)(v:V):Bool->List PV->Prop
 |true,xs=>Rep F v (.tup xs)
 |false,xs=>∃l vs,v=.ref l/\C6 ss O l/\H l=some (.lst vs)/\AR F vs xs
def Fv(E:Ent0)(F:Hp)(v:V):Bool->List PV->Prop
 |true,xs=>Rep F v (.tup xs)
 |false,xs=>∃l vs,v=.ref l/\(F l=some (.lst vs)∨((l∉E.A/\l∉E.B)/\E.H0 l=some (.lst vs)))/\AR F vs xs
structure Wp [Xw] (ss:List Slot) (t:TE) (k:PV->Prop):Prop where
 go:∀(E:Ent)(O:L2.St)(F H:Hp)(Q:VK),Sg E ss O F H->(∀v p F' H',Mv E ss O F H F' H'->Rep F' v p->k p->Q v H')->t O H Q
structure Wn [Xw] (ss:List Slot) (t:TE) (k:List PV->Prop):Prop where
 go:∀(E:Ent)(O:L2.St)(F H:Hp)(Q:VK),Sg E ss O F H->(∀l vs xs F' H',Mv E ss O F H F' H'->F' l=none->H l=none->H' l=some (.lst vs)->AR F' vs xs->k xs->Q (.ref l) H')->t O H Q
structure Wq [Xw] (ss:List Slot) (t:TE) (k:Bool->List PV->Prop):Prop where
 go:∀(E:Ent)(O:L2.St)(F H:Hp)(Q:VK),Sg E ss O F H->(∀v tp xs F' H',Mv E ss O F H F' H'->Sv ss O F' H' v tp xs->k tp xs->Q v H')->t O H Q
structure Wz [Xw] (ss:List Slot) (t:TE) (k:Bool->List PV->Prop):Prop where
 go:∀(E:Ent)(O:L2.St)(F H:Hp)(Q:VK),Sg E ss O F H->(∀v tp xs F' H',Mv E ss O F H F' H'->Fv E F' v tp xs->k tp xs->Q v H')->t O H Q
structure Wt [Xw] (ss:List Slot) (t:TT) (k:Bool->Prop):Prop where
 go:∀(E:Ent)(O:L2.St)(F H:Hp)(Q:Bool->Hp->Prop),Sg E ss O F H->(∀b F' H',Mv E ss O F H F' H'->k b->Q b H')->t O H Q
def Av(ss:List Slot)(O:L2.St)(F H:Hp)(v:V):Slot->Prop
 | .is p=>Rep F v p
 | .sq tp xs=>Sv ss O F H v tp xs
 | .raw P=>P F v/\∀F F',AU F F'->P F v->P F' v
 |_=>False
inductive GF (ss:List Slot) (O:L2.St) (F H:Hp):List V->List Slot->Prop where
 |nil:GF ss O F H [] []
 |cons {v:V}{s:Slot}{vs:List V}{l:List Slot}:Av ss O F H v s->GF ss O F H vs l->GF ss O F H (v::vs) (s::l)
structure Wa [Xw] (ss:List Slot) (t:TA) (k:List Slot->Prop):Prop where
 go:∀(E:Ent)(O:L2.St)(F H:Hp)(Q:List V->Hp->Prop),Sg E ss O F H->(∀vs l F' H',Mv E ss O F H F' H'->GF ss O F' H' vs l->k l->Q vs H')->t O H Q
inductive Ap where
 |is (k:PV->Prop)|new (k:List PV->Prop)|AZ|ow (k:OV->Prop)|mt (k:PV->OV->Prop)|pP (k:PV->OV->OV->Prop)
noncomputable def OV.val:OV->V
 | .nd _ a _=>.ref a
 |_=>.AE
def Ap.ok(R:Ap)(E:Ent0)(F' H':Hp)(v:V):Prop:=match R with
 | .is k=>∃p,Rep F' v p/\k p
 | .new k=>∃l vs xs,v=.ref l/\F' l=none/\E.H0 l=none/\H' l=some (.lst vs)/\AR F' vs xs/\k xs
 | .AZ=>∃l,v=.ref l/\F' l=none/\E.H0 l=none/\Bf H' l
 | .ow k=>∃t,B0 F' H' v t/\t.addrs.Nodup/\(∀a∈t.addrs,F' a=none/\E.H0 a=none)/\k t
 | .mt k=>∃p t,Rep F' v p/\B0 F' H' t.val t/\t.addrs.Nodup/\(∀a∈t.addrs,F' a=none/\(E.H0 a=none∨a∈E.B))/\k p t
 | .pP k=>∃p t u,Rep F' v p/\B0 F' H' t.val t/\B0 F' H' u.val u/\(t.addrs++u.addrs).Nodup/\(∀a∈t.addrs++u.addrs,F' a=none/\(E.H0 a=none∨a∈E.B))/\k p t u
structure Ws [Xw] (ss:List Slot) (t:TS) (nx:List Slot->Prop) (R:Ap):Prop where
 go:∀(E:Ent)(D:Ends)(O:L2.St)(F H:Hp),Sg E ss O F H->(∀A9 σ' F' H',nx A9->Sg E A9 σ' F' H'->AU F F'->D.nx σ' H')->(∀v F' H',Fin E F' H'->R.ok E F' H' v->D.rt v H')->t D O H
section
variable[Xw]
variable{K:ZHa}{tb:TE}{k:PV->Prop}{R:Ap}
theorem Sv.mv(h:Sv ss O F H v tp xs)(m:Mv E ss O F H F' H'):Sv ss O F' H' v tp xs:=by
 cases tp with
 |true=>exact Rep.mono m.ff h
 |false=>
  obtain⟨l,vs,e,n,r,q⟩:=h;exact⟨l,vs,e,n,m.hh l _ n r,q.mono m.ff⟩
theorem Sv.seq(S:Sg E ss O F H)(h:Sv ss O F H v tp xs):∃l vs,v=.ref l/\H l=some (EZ tp vs)/\AR F vs xs:=by
 cases tp with
 |true=>cases h with|tup e r=>exact⟨_,_,rfl,S.fh _ _ e,r⟩
 |false=>obtain⟨l,vs,e,_,r,q⟩:=h;exact⟨l,vs,e,r,q⟩
theorem Fv.sv(S:Sg E ss O F H)(h:Fv E F v tp xs):Sv ss O F H v tp xs:=by
 cases tp with
 |true=>exact h
 |false=>
  obtain⟨l,vs,e,h1|⟨a,h1⟩,r⟩:=h
  .exact⟨l,vs,e,S.cn h1,S.fh _ _ h1,r⟩
  .exact⟨l,vs,e,S.gW a.1 h1,S.keep _ _ a h1,r⟩
theorem Wp.mono{a:PV->Prop}(h:Wp ss te k)(i:∀p,k p->a p):Wp ss te a:=⟨λE O F H Q S q=>h.go E O F H Q S λv p F' H' m r kk=>q v p F' H' m r (i p kk)⟩
theorem A4(h:ss[i]?=some (.is p))(hk:k p):Wp ss (Au i) k:=⟨λE O F H Q S q=>by
 obtain⟨v,a,r⟩:=S.ok i _ h;exact⟨v,a,q v p F H (.refl S) r hk⟩⟩
theorem Af{i:Int}(hk:k (.int i)):Wp ss (tC (.int i)) k:=⟨λE O F H Q S q=>q _ _ F H (.refl S) (.int i) hk⟩
theorem EV{x:Str}(hk:k (.str x)):Wp ss (tC (.str x)) k:=⟨λE O F H Q S q=>q _ _ F H (.refl S) (.str x) hk⟩
theorem LO(hk:k (.bl b)):Wp ss (tC (.bl b)) k:=⟨λE O F H Q S q=>q _ _ F H (.refl S) (.bl b) hk⟩
theorem GW(hk:k .AE):Wp ss (tC .AE) k:=⟨λE O F H Q S q=>q _ _ F H (.refl S) .AE hk⟩
theorem Ba(h:Wn ss te (λxs=>k (.lst xs))):Wp ss te k:=⟨λE O F H Q S q=>h.go E O F H Q S λl vs xs F' H' m b d DT r kk=>by
 have S':=m.st;have z:Mv E ss O F H (upd F' l (.lst vs)) H':=by
  have A:∀a,H' a≠none->a≠l->F' a=none->upd F' l (.lst vs) a=none:=λa _ h1 h2=>by rw[An h1];exact h2
  refine⟨⟨⟨λa u e=>?_,S'.f0.trans (E7 b _),S'.keep,λa u e=>?_,S'.Hz,λa y=>?_,S'.a0,λa x=>?_,S'.bH,S'.b0⟩,S'.len,λi s hi=>?_,S'.CN⟩,m.ff.trans (E7 b _),m.hh,λa u e=>?_⟩
  .by_cases q:a=l
   .subst q;rw[BC]at e;rw[<- e];exact DT
   .rw[An q]at e;exact S'.fh a u e
  .by_cases q:a=l
   .subst q;exact .inr (S.DU d)
   .rw[An q]at e;exact S'.fresh a u e
  .by_cases q:a=l
   .subst q;obtain⟨_,_,e,_⟩:=S.Hz _ y;rw[d]at e;cases e
   .rw[An q];exact S'.Qd a y
  .by_cases q:a=l
   .subst q;exact absurd d (S.bH _ x)
   .rw[An q];exact S'.bF a x
  .have w:∀a,BJ s O[i]? a->a≠l:=by
    rintro a m rfl;exact S.ID hi d m
   have kk:=S'.ok i s hi;cases s with
   |any=>trivial
   |is p=>obtain⟨v,e,r⟩:=kk;exact⟨v,e,r.mono (E7 b _)⟩
   |own ys=>
    obtain⟨c,ws,e,g,f,n,r⟩:=kk;exact⟨c,ws,e,by rw[An (w c e)];exact g,f,n,r.mono (E7 b _)⟩
   |AZ=>
    obtain⟨c,e,g,f,n⟩:=kk;exact⟨c,e,by rw[An (w c e)];exact g,f,n⟩
   |sq tp ys=>
    cases tp with
    |true=>obtain⟨v,e,r⟩:=kk;exact⟨v,e,r.mono (E7 b _)⟩
    |false=>obtain⟨c,ws,e,g,f,r⟩:=kk;exact⟨c,ws,e,g,f,r.mono (E7 b _)⟩
   |raw P=>obtain⟨v,e,r,st⟩:=kk;exact⟨v,e,st _ _ (E7 b _) r,st⟩
   |ow lt t=>
    obtain⟨v,e,r,nd,q⟩:=kk;exact⟨v,e,r.mono (E7 b _) λa _ o h=>h,nd,λa j=>⟨by rw[An (w a j)];exact(q a j).1,(q a j).2⟩⟩
  .by_cases q:a=l
   .subst q;exact .inr d
   .rw[An q]at e;exact m.nn a u e
 exact q _ _ _ _ z (.lst BC (r.mono (E7 b _))) kk⟩
theorem Bk{k:Bool->List PV->Prop}(h:Wp ss te (λp=>∃xs,(p=.lst xs/\k false xs)∨(p=.tup xs/\k true xs))):Wq ss te k:=⟨λE O F H Q S q=>h.go E O F H Q S λv p F' H' m r AG=>by
 obtain⟨xs,h⟩:=AG;rcases h with⟨rfl,kk⟩|⟨rfl,kk⟩
 .cases r with|lst h r=>exact q _ false xs F' H' m ⟨_,_,rfl,m.st.cn h,m.st.fh _ _ h,r⟩ kk
 .exact q v true xs F' H' m r kk⟩
theorem DG{k:Bool->List PV->Prop}(h:ss[i]?=some (.is (.lst xs)))(hk:k false xs):Wq ss (Au i) k:=Bk (A4 h ⟨xs,.inl ⟨rfl,hk⟩⟩)
theorem BO{k:Bool->List PV->Prop}(h:ss[i]?=some (.is (.tup xs)))(hk:k true xs):Wq ss (Au i) k:=Bk (A4 h ⟨xs,.inr ⟨rfl,hk⟩⟩)
theorem Xy{k:Bool->List PV->Prop}(h:ss[i]?=some (.own xs))(hk:k false xs):Wq ss (Au i) k:=⟨λE O F H Q S q=>by
 obtain⟨l,vs,e,c,b,a,r⟩:=S.ok i _ h;exact⟨_,e,q _ false xs F H (.refl S) ⟨l,vs,rfl,S.NH h e (by simp),a,r⟩ hk⟩⟩
theorem Sr{k:Bool->List PV->Prop}(h:ss[i]?=some (.sq tp xs))(hk:k tp xs):Wz ss (Au i) k:=⟨λE O F H Q S q=>by
 have kk:=S.ok i _ h;cases tp with
 |true=>obtain⟨v,e,r⟩:=kk;exact⟨_,e,q _ true xs F H (.refl S) r hk⟩
 |false=>
  obtain⟨l,vs,e,a,b,r⟩:=kk;exact⟨_,e,q _ false xs F H (.refl S) ⟨l,vs,rfl,.inr ⟨a,b⟩,r⟩ hk⟩⟩
theorem CY{k:Bool->List PV->Prop}(h:Wp ss te (λp=>∃xs,(p=.lst xs/\k false xs)∨(p=.tup xs/\k true xs))):Wz ss te k:=⟨λE O F H Q S q=>h.go E O F H Q S λv p F' H' m r AG=>by
 obtain⟨xs,h⟩:=AG;rcases h with⟨rfl,kk⟩|⟨rfl,kk⟩
 .cases r with|lst h r=>exact q _ false xs F' H' m ⟨_,_,rfl,.inl h,r⟩ kk
 .exact q _ true xs F' H' m r kk⟩
theorem Y9{k:Bool->List PV->Prop}(h:Wz ss te k):Wq ss te k:=⟨λE O F H Q S q=>h.go E O F H Q S λv tp xs F' H' m f kk=>q v tp xs F' H' m (f.sv m.st) kk⟩
theorem Fq{k:Bool->List PV->Prop}(h:ss[i]?=some (.sq tp xs))(hk:k tp xs):Wq ss (Au i) k:=Y9 (Sr h hk)
theorem iW{C:Int->Int->Prop}(h:Wp ss ta λx=>∃i,x=.int i/\Wp ss tb λy=>∃j,y=.int j/\C i j/\k (.int (f i j))):Wp ss (BZ (rI C λi j=>.int (f i j)) ta tb) k:=⟨λE O F H Q S q=>
 h.go E O F H _ S λv p F1 H1 a d AG=>by
  obtain⟨i,l,h2⟩:=AG;subst l;cases d.inv;exact h2.go E O F1 H1 _ a.st λm p2 F2 H2 e b CF=>by
   obtain⟨j,g,c,kk⟩:=CF;subst g;cases b.inv;exact⟨i,j,rfl,rfl,c,q _ _ F2 H2 (a.trans e) (.int _) kk⟩⟩
theorem HN(h:Wp ss ta λx=>∃i,x=.int i/\Wp ss tb λy=>∃j,y=.int j/\k (.int (f i j))):Wp ss (BZ (GR λi j=>.int (f i j)) ta tb) k:=⟨λE O F H Q S q=>
 h.go E O F H _ S λv p F1 H1 a c AG=>by
  obtain⟨i,g,h2⟩:=AG;subst g;cases c.inv;exact h2.go E O F1 H1 _ a.st λl p2 F2 H2 d b CF=>by
   obtain⟨j,e,kk⟩:=CF;subst e;cases b.inv;exact⟨i,j,rfl,rfl,q _ _ F2 H2 (a.trans d) (.int _) kk⟩⟩
theorem ME{f:Int->Int->Bool}(h:Wp ss ta λx=>∃i,x=.int i/\Wp ss tb λy=>∃j,y=.int j/\k (.bl (f i j))):Wp ss (BZ (GR λi j=>.bl (f i j)) ta tb) k:=⟨λE O F H Q S q=>
 h.go E O F H _ S λv p F1 H1 a c AG=>by
  obtain⟨i,g,h2⟩:=AG;subst g;cases c.inv;exact h2.go E O F1 H1 _ a.st λl p2 F2 H2 d b CF=>by
   obtain⟨j,e,kk⟩:=CF;subst e;cases b.inv;exact⟨i,j,rfl,rfl,q _ _ F2 H2 (a.trans d) (.bl _) kk⟩⟩
theorem mi{f:Int->Int}(h:Wp ss ta λx=>∃i,x=.int i/\k (.int (f i))):Wp ss (UB (rU λi=>.int (f i)) ta) k:=⟨λE O F H Q S q=>
 h.go E O F H _ S λv p F1 H1 b a AG=>by
  obtain⟨i,c,kk⟩:=AG;subst c;cases a.inv;exact⟨i,rfl,q _ _ F1 H1 b (.int _) kk⟩⟩
noncomputable def alike:PV->PV->Bool
 | .int i,.int j=>decide (i=j)
 | .str i,.str j=>decide (i=j)
 | .bl i,.bl j=>decide (i=j)
 | .AE,.AE=>true
 |_,_=>false
def N9(p q:PV):Bool:=flat p && flat q && Wu (Fz.enc p) (Fz.enc q)
theorem fi{q:PV}(h:N9 p q=true):decide (Fz.enc p=Fz.enc q)=alike p q:=by
 unfold N9 at h;rw[GX,GX]at h;obtain⟨⟨h1,h2⟩,a⟩:=h;cases p <;> first|exact Bool.noConfusion h1|skip
 all_goals cases q <;> first|exact Bool.noConfusion h2|exact Bool.noConfusion a|rfl|exact decide_eq_decide.mpr ⟨λe=>by injection e,rP _⟩
theorem Eh(h:Wp ss ta λx=>Wp ss tb λy=>N9 x y=true/\k (.bl (alike x y))):Wp ss (BZ jj ta tb) k:=⟨λE O F H Q S q=>
 h.go E O F H _ S λv p F1 H1 a c h2=>h2.go E O F1 H1 _ a.st λf p2 F2 H2 d b AG=>by
  obtain⟨sc,kk⟩:=AG;have e:=sc;unfold N9 at sc;rw[GX,GX]at sc;rw[c.enc sc.1.1,b.enc sc.1.2];refine⟨sc.2,?_⟩;rw[fi e];exact q _ _ F2 H2 (a.trans d) (.bl _) kk⟩
theorem Pd(h:Wp ss ta λx=>Wp ss tb λy=>N9 x y=true/\k (.bl (!alike x y))):Wp ss (BZ gu ta tb) k:=⟨λE O F H Q S q=>
 h.go E O F H _ S λv p F1 H1 a c h2=>h2.go E O F1 H1 _ a.st λf p2 F2 H2 d b AG=>by
  obtain⟨sc,kk⟩:=AG;have e:=sc;unfold N9 at sc;rw[GX,GX]at sc;rw[c.enc sc.1.1,b.enc sc.1.2];refine⟨sc.2,?_⟩;rw[fi e];exact q _ _ F2 H2 (a.trans d) (.bl _) kk⟩
theorem WU(h:Wp ss ta λx=>∃c,x=.bl c/\if c=true then Wp ss tb k else k (.bl false)):Wp ss (Yp ta tb) k:=⟨λE O F H Q S q=>
 h.go E O F H _ S λv p F1 H1 a d AG=>by
  obtain⟨c,e,h2⟩:=AG;subst e;cases d.inv;refine⟨c,rfl,?_⟩;cases c with
  |true=>rw[pT rfl]at h2 ⊢;exact h2.go E O F1 H1 _ a.st λg p2 F2 H2 f b kk=>q _ _ F2 H2 (a.trans f) b kk
  |false=>rw[pL (by decide)]at h2 ⊢;exact q _ _ F1 H1 a (.bl _) h2⟩
theorem UX(h:Wp ss ta λx=>∃c,x=.bl c/\if c=true then k (.bl true)else Wp ss tb k):Wp ss (XT ta tb) k:=⟨λE O F H Q S q=>
 h.go E O F H _ S λv p F1 H1 a d AG=>by
  obtain⟨c,e,h2⟩:=AG;subst e;cases d.inv;refine⟨c,rfl,?_⟩;cases c with
  |true=>rw[pT rfl]at h2 ⊢;exact q _ _ F1 H1 a (.bl _) h2
  |false=>rw[pL (by decide)]at h2 ⊢;exact h2.go E O F1 H1 _ a.st λg p2 F2 H2 f b kk=>q _ _ F2 H2 (a.trans f) b kk⟩
theorem TV(h:Wp ss ta λx=>∃c,x=.bl c/\k (.bl (!c))):Wp ss (Xj ta) k:=⟨λE O F H Q S q=>
 h.go E O F H _ S λv p F1 H1 b a AG=>by obtain⟨c,e,kk⟩:=AG;subst e;cases a.inv;exact⟨c,rfl,q _ _ F1 H1 b (.bl _) kk⟩⟩
theorem Yc{t:TT}(h:Wt ss t λc=>if c=true then Wp ss ta k else Wp ss tb k):Wp ss (SN t ta tb) k:=⟨λE O F H Q S q=>
 h.go E O F H _ S λc F1 H1 a h2=>by
  show if c=true then _ else _
  cases c with
  |true=>rw[pT rfl]at h2 ⊢;exact h2.go E O F1 H1 _ a.st λe p2 F2 H2 d b kk=>q _ _ F2 H2 (a.trans d) b kk
  |false=>rw[pL (by decide)]at h2 ⊢;exact h2.go E O F1 H1 _ a.st λe p2 F2 H2 d b kk=>q _ _ F2 H2 (a.trans d) b kk⟩
theorem fV{f g:Int->Int->Bool}(h:Wp ss ta λx=>∃i,x=.int i/\Wp ss tb λy=>∃j,y=.int j/\if f i j=true then Wp ss tc (λz=>∃l,z=.int l/\k (.bl (g j l)))else k (.bl false)):
  Wp ss (ON (GR λi j=>.bl (f i j)) (GR λi j=>.bl (g i j)) ta tb tc) k:=⟨λE O F H Q S q=>
 h.go E O F H _ S λv p F1 H1 d n AG=>by
  obtain⟨i,t,h2⟩:=AG;subst t;cases n.inv;exact h2.go E O F1 H1 _ d.st λw p2 F2 H2 b m CF=>by
   obtain⟨j,s,a⟩:=CF;subst s;cases m.inv;refine⟨i,j,rfl,rfl,f i j,rfl,?_⟩;cases c:f i j with
   |true=>
    rw[c,pT rfl]at a;rw[pT rfl];exact a.go E O F2 H2 _ b.st λu A F3 H3 o e XB=>by
     obtain⟨l,r,kk⟩:=XB;subst r;cases e.inv;exact⟨j,l,rfl,rfl,q _ _ F3 H3 (d.trans (b.trans o)) (.bl _) kk⟩
   |false=>
    rw[c,pL (by decide)]at a;rw[pL (by decide)];exact q _ _ F2 H2 (d.trans b) (.bl _) a⟩
theorem BW{k:Bool->Prop}(h:Wp ss te λx=>∃c,x=.bl c/\k c):Wt ss (LV te) k:=⟨λE O F H Q S q=>
 h.go E O F H _ S λv p F1 H1 b a AG=>by obtain⟨c,e,kk⟩:=AG;subst e;cases a.inv;exact⟨c,rfl,q _ F1 H1 b kk⟩⟩
theorem Fx{k:Bool->Prop}(h:Wp ss te λx=>∃c,x=.bl c/\k c):Wt ss (tB te) k:=⟨λE O F H Q S q=>
 h.go E O F H _ S λv p F1 H1 b a AG=>by obtain⟨c,e,kk⟩:=AG;subst e;cases a.inv;exact⟨c,rfl,q _ F1 H1 b kk⟩⟩
theorem Ew{k:Bool->Prop}(h:k true):Wt ss Q8 k:=⟨λE O F H Q S q=>q _ F H (.refl S) h⟩
theorem mK{t:TT}{k:Bool->Prop}(h:Wt ss t λc=>k (!c)):Wt ss (aH t) k:=⟨λE O F H Q S q=>h.go E O F H _ S λc F1 H1 a kk=>q _ F1 H1 a kk⟩
theorem Zz{t u:TT}{k:Bool->Prop}(h:Wt ss t λc=>if c=true then Wt ss u k else k false):Wt ss (Z5 t u) k:=⟨λE O F H Q S q=>
 h.go E O F H _ S λc F1 H1 a h2=>by
  show if c=true then _ else _
  cases c with
  |true=>rw[pT rfl]at h2 ⊢;exact h2.go E O F1 H1 _ a.st λd F2 H2 b kk=>q _ F2 H2 (a.trans b) kk
  |false=>rw[pL (by decide)]at h2 ⊢;exact q _ F1 H1 a h2⟩
theorem Le{t u:TT}{k:Bool->Prop}(h:Wt ss t λc=>if c=true then k true else Wt ss u k):Wt ss (Y1 t u) k:=⟨λE O F H Q S q=>
 h.go E O F H _ S λc F1 H1 a h2=>by
  show if c=true then _ else _
  cases c with
  |true=>rw[pT rfl]at h2 ⊢;exact q _ F1 H1 a h2
  |false=>rw[pL (by decide)]at h2 ⊢;exact h2.go E O F1 H1 _ a.st λd F2 H2 b kk=>q _ F2 H2 (a.trans b) kk⟩
end
structure We [Xw] (ss:List Slot) (t:TA) (k:List PV->Prop):Prop where
 go:∀(E:Ent)(O:L2.St)(F H:Hp)(Q:List V->Hp->Prop),Sg E ss O F H->(∀vs ps F' H',Mv E ss O F H F' H'->AR F' vs ps->k ps->Q vs H')->t O H Q
structure Wo [Xw] (ss:List Slot) (t:TO) (k:Option Int->Prop):Prop where
 go:∀(E:Ent)(O:L2.St)(F H:Hp)(Q:Option Int->Hp->Prop),Sg E ss O F H->(∀o F' H',Mv E ss O F H F' H'->k o->Q o H')->t O H Q
section
variable[Xw]
variable{K:ZHa}{tb:TE}{k:PV->Prop}{R:Ap}
theorem EX{k:List PV->Prop}(h:k []):We ss BE k:=⟨λE O F H Q S q=>q _ _ F H (.refl S) .nil h⟩
theorem Ce{k:List PV->Prop}{t:TA}(h:Wp ss te λp=>We ss t λps=>k (p::ps)):We ss (Ah te t) k:=⟨λE O F H Q S q=>
 h.go E O F H _ S λv p F1 H1 b d h2=>h2.go E O F1 H1 _ b.st λvs ps F2 H2 a c kk=>q _ _ F2 H2 (b.trans a) (.cons (d.mono a.ff) c) kk⟩
theorem Ax{k:List Slot->Prop}(h:k []):Wa ss BE k:=⟨λE O F H Q S q=>q _ _ F H (.refl S) .nil h⟩
theorem AS{k:List Slot->Prop}{t:TA}(h:Wp ss te λp=>Wa ss t λl=>k (.is p::l)):Wa ss (Ah te t) k:=⟨λE O F H Q S q=>
 h.go E O F H _ S λv p F1 H1 b d h2=>h2.go E O F1 H1 _ b.st λvs l F2 H2 a c kk=>q _ _ F2 H2 (b.trans a) (.cons (s:=.is p) (d.mono a.ff) c) kk⟩
theorem Fb{k:List Slot->Prop}{t:TA}(h:Wq ss te λtp xs=>Wa ss t λl=>k (.sq tp xs::l)):Wa ss (Ah te t) k:=⟨λE O F H Q S q=>
 h.go E O F H _ S λv tp xs F1 H1 b d h2=>h2.go E O F1 H1 _ b.st λvs l F2 H2 a c kk=>q _ _ F2 H2 (b.trans a) (.cons (s:=.sq tp xs) (d.mv a) c) kk⟩
theorem Rr{k:Option Int->Prop}(h:k none):Wo ss ZK k:=⟨λE O F H Q S q=>q _ F H (.refl S) h⟩
theorem Ui{k:Option Int->Prop}(h:Wp ss te λp=>∃i,p=.int i/\k (some i)):Wo ss (XU te) k:=⟨λE O F H Q S q=>
 h.go E O F H _ S λv p F1 H1 b a AG=>by obtain⟨i,e,kk⟩:=AG;subst e;cases a.inv;exact⟨i,rfl,q _ F1 H1 b kk⟩⟩
theorem HK(h:n<=99999):n<sizeLine:=E9 (Nat.lt_succ_of_le h) (small (As 100000))
theorem G7{t:TA}(h:We ss t λps=>ps.length<=100000/\k (.tup ps)):Wp ss (Ro t) k:=⟨λE O F H Q S q=>
 h.go E O F H _ S λvs ps F1 H1 d b AG=>by obtain⟨e,kk⟩:=AG;exact⟨small (by rw[b.length];exact e),λa f=>by
  have c:=d.st.alloc f (.tup vs);exact q _ _ _ _ (d.trans c) (.tup BC (b.mono c.ff)) kk⟩⟩
theorem LR{t:TA}{k:List PV->Prop}(h:We ss t λps=>ps.length<=100000/\k ps):Wn ss (Yl t) k:=⟨λE O F H Q S q=>
 h.go E O F H _ S λvs ps F1 H1 b d AG=>by obtain⟨g,kk⟩:=AG;exact⟨small (by rw[d.length];exact g),λa c=>by
  have f:=b.st.make c (.lst vs);refine q a vs ps F1 _ (b.trans f) (b.st.CA c) ?_ BC d kk;cases e:H a with
  |none=>rfl
  |some o=>rw[b.hh a o (b.st.Ic c) e]at c;cases c⟩⟩
theorem J8(h:Wq ss te λ_ xs=>k (.int xs.length)):Wp ss (FP (Yo K) (Ah te BE)) k:=⟨λE O F H Q S q=>
 h.go E O F H _ S λv tp xs F1 H1 a sv kk=>by
  obtain⟨l,vs,rfl,b,r⟩:=sv.seq a.st;refine⟨l,vs,rfl,(EZ.sq (K:=K) b).or,?_⟩;rw[r.length];exact q _ _ F1 H1 a (.int _) kk⟩
theorem AR.C8{i:Int}(r:AR F vs xs)(h:L2.C8 xs i=some p):∃u,L2.C8 vs i=some u/\Rep F u p:=by
 unfold L2.C8 at h ⊢;rw[r.length];cases e:G4 xs.length i with
 |none=>rw[e]at h;cases h
 |some j=>
  rw[e]at h;exact r.get h
theorem Hb(h:Wq ss ta λtp xs=>tp=false/\Wp ss tb λy=>∃i p,y=.int i/\L2.C8 xs i=some p/\k p):Wp ss (BZ (M4 K) ta tb) k:=⟨λE O F H Q S q=>
 h.go E O F H _ S λv tp xs F1 H1 b sv⟨m,h2⟩=>h2.go E O F1 H1 _ b.st λn p2 F2 H2 a d⟨i,p,e,j,kk⟩=>by
  subst e;cases d.inv;subst m;obtain⟨l,vs,rfl,g,r⟩:=(sv.mv a).seq a.st;obtain⟨u,f,c⟩:=r.C8 j;exact⟨l,vs,i,u,rfl,rfl,AW.of g,f,q _ _ F2 H2 (b.trans a) c kk⟩⟩
theorem BK(h:Wq ss ta λtp xs=>tp=true/\Wp ss tb λy=>∃i p,y=.int i/\L2.C8 xs i=some p/\k p):Wp ss (BZ (D1 K) ta tb) k:=⟨λE O F H Q S q=>
 h.go E O F H _ S λv tp xs F1 H1 b sv⟨m,h2⟩=>h2.go E O F1 H1 _ b.st λn p2 F2 H2 a d⟨i,p,e,j,kk⟩=>by
  subst e;cases d.inv;subst m;obtain⟨l,vs,rfl,g,r⟩:=(sv.mv a).seq a.st;obtain⟨u,f,c⟩:=r.C8 j;exact⟨l,vs,i,u,rfl,rfl,B7.of g,f,q _ _ F2 H2 (b.trans a) c kk⟩⟩
theorem eJ(h:Wp ss ta λp=>∃x,p=.str x/\Wq ss tb λ_ ys=>∃ns:List Str,ys=ns.map PV.str/\k (.bl (if neg then !decide (x∈ns)else decide (x∈ns)))):Wp ss (BZ (J7 K neg) ta tb) k:=⟨λE O F H Q S q=>
 h.go E O F H _ S λv p F1 H1 b d AG=>by
  obtain⟨x,e,h2⟩:=AG;subst e;cases d.inv;exact h2.go E O F1 H1 _ b.st λg tp ys F2 H2 a sv CF=>by
   obtain⟨ns,f,kk⟩:=CF;subst f;obtain⟨l,vs,rfl,c,r⟩:=sv.seq a.st;rw[r.strs]at c;refine⟨l,_,rfl,(EZ.sq (K:=K) c).or,rfl,L3 ns,?_⟩;rw[W6];exact q _ _ F2 H2 (b.trans a) (.bl _) kk⟩
theorem T2{k:List PV->Prop}(e:r=λxs H Q=>∃p ys,xs=[.ref p]/\(AW K H p ys∨B7 K H p ys)/\∀l,H l=none->Q (.ref l) (upd H l (.lst ys)))(h:Wq ss te λ_ xs=>k xs):Wn ss (FP r (Ah te BE)) k:=⟨λE O F H Q S q=>
 h.go E O F H _ S λv tp xs F1 H1 b sv kk=>by
  subst e;obtain⟨l,vs,rfl,f,r⟩:=sv.seq b.st;refine⟨l,vs,rfl,(EZ.sq (K:=K) f).or,λa c=>?_⟩;have d:=b.st.make c (.lst vs);exact q a vs xs F1 _ (b.trans d) (b.st.CA c) (b.none c) BC r kk⟩
theorem NJ(f:r=λxs H Q=>∃p ys,xs=[.ref p]/\((AW K H p ys/\∀l,H l=none->Q (.ref l) (upd H l (.tup ys)))∨(B7 K H p ys/\Q (.ref p) H)))(h:Wq ss te λ_ xs=>k (.tup xs)):Wp ss (FP r (Ah te BE)) k:=⟨λE O F H Q S q=>
 h.go E O F H _ S λv tp xs F1 H1 b sv kk=>by
  subst f;cases tp with
  |false=>
   obtain⟨l,vs,rfl,g,r⟩:=sv.seq b.st;refine⟨l,vs,rfl,.inl ⟨AW.of g,λa i=>?_⟩⟩;have c:=b.st.alloc i (.tup vs);exact q _ _ _ _ (b.trans c) (.tup BC (r.mono c.ff)) kk
  |true=>
   have d:Rep F1 v (.tup xs):=sv;cases d with
   |tup e r=>exact⟨_,_,rfl,.inr ⟨B7.of (b.st.fh _ _ e),q _ _ F1 H1 b (.tup e r) kk⟩⟩⟩
theorem Qz{k:List PV->Prop}(h:Wq ss ta λtp xs=>tp=false/\Wq ss tb λCQ ys=>CQ=false/\xs.length+ys.length<=100000/\k (xs++ys)):Wn ss (BZ mZ ta tb) k:=⟨λE O F H Q S q=>
 h.go E O F H _ S λv tp xs F1 H1 c sv⟨m,h2⟩=>h2.go E O F1 H1 _ c.st λo CQ ys F2 H2 b n⟨e,i,kk⟩=>by
  subst m;subst e;obtain⟨l,vs,rfl,j,r⟩:=(sv.mv b).seq b.st;obtain⟨l2,Fl,rfl,EH,f⟩:=n.seq b.st;refine⟨l,l2,vs,Fl,rfl,rfl,j,EH,small (by rw[r.length,f.length];exact i),λa d=>?_⟩;have g:=b.st.make d (.lst (vs++Fl));exact q a _ _ F2 _ (c.trans (b.trans g)) (b.st.CA d) ((c.trans b).none d) BC (r.append f) kk⟩
def El{α:Type}(xs:List α)(lo hi:Option Int):List α:=(xs.drop (HT.DV xs.length 0 lo)).take (HT.DV xs.length xs.length hi - HT.DV xs.length 0 lo)
theorem AR.cut(r:AR F vs xs)(lo hi:Option Int):AR F (Lg vs lo hi) (El xs lo hi):=by
 unfold Lg El;rw[r.length];exact(r.drop _).take _
theorem QJ{k:List PV->Prop}{tl th:TO}(h:Wq ss te λtp xs=>tp=false/\Wo ss tl λlo=>Wo ss th λhi=>k (El xs lo hi)):Wn ss (aw (jh K) te tl th) k:=⟨λE O F H Q S q=>
 h.go E O F H _ S λv tp xs F1 H1 d sv⟨j,h2⟩=>h2.go E O F1 H1 _ d.st λlo F2 H2 c i=>i.go E O F2 H2 _ c.st λhi F3 H3 b kk=>by
  subst j;obtain⟨l,vs,rfl,g,r⟩:=(sv.mv (c.trans b)).seq b.st;refine⟨l,vs,rfl,AW.of g,λa e=>?_⟩;have f:=b.st.make e (.lst (Lg vs lo hi));exact q a _ _ F3 _ (d.trans (c.trans (b.trans f))) (b.st.CA e) ((d.trans (c.trans b)).none e) BC (r.cut lo hi) kk⟩
theorem ZCV(xs ys:List Str):HX (xs.map V.str) (ys.map V.str)=decide (xs=ys):=by
 by_cases h:xs=ys
 .subst h;rw[oK,pf rfl]
 .rw[qD h]
  by_cases a:xs.length=ys.length
  .rw[NM (by simpa using a)]
   cases c:(List.range (xs.map V.str).length).all λj=>E6 ((xs.map V.str).getD j .AE) ((ys.map V.str).getD j .AE)with
   |false=>rfl
   |true=>
    exfalso;apply h;apply nL a;intro j h1 h2;have q:=List.all_eq_true.mp c j (List.mem_range.mpr (by simpa using h1))
    have e:(xs.map V.str)[j]?=some (.str xs[j]):=by rw[Aj,AX h1];rfl
    have d:(ys.map V.str)[j]?=some (.str ys[j]):=by rw[Aj,AX h2];rfl
    rw[O2 e,O2 d]at q;have b:(xs[j] == ys[j])=true:=q
    simpa using b
  .rw[Nv (by simpa using a)]
theorem iP(h:Wq ss ta λtp xs=>∃ns:List Str,xs=ns.map PV.str/\Wq ss tb λCQ ys=>CQ=tp/\∃a:List Str,ys=a.map PV.str/\k (.bl (if neg then !decide (ns=a)else decide (ns=a)))):Wp ss (BZ (OA K neg) ta tb) k:=⟨λE O F H Q S q=>
 h.go E O F H _ S λv tp xs F1 H1 c sv⟨ns,i,h2⟩=>h2.go E O F1 H1 _ c.st λm CQ ys F2 H2 b j⟨f,a,g,kk⟩=>by
  subst i;subst g;subst f;obtain⟨l,vs,rfl,d,r⟩:=(sv.mv b).seq b.st;obtain⟨l2,Fl,rfl,EH,e⟩:=j.seq b.st;rw[r.strs]at d;rw[e.strs]at EH;refine⟨l,l2,ns.map V.str,a.map V.str,rfl,rfl,?_,L3 _,L3 _,?_⟩
  .cases CQ
   .exact .inl ⟨AW.of d,AW.of EH⟩
   .exact .inr ⟨B7.of d,B7.of EH⟩
  .rw[ZCV];cases neg
   .exact q _ _ F2 H2 (c.trans b) (.bl _) kk
   .exact q _ _ F2 H2 (c.trans b) (.bl _) kk⟩
theorem kF(c:r=λxs H Q=>∃(p:Addr)(bs:List Bool),xs=[.ref p]/\AW K H p (bs.map V.bl)/\Q (.bl (bs.all id)) H)(h:Wq ss te λtp xs=>tp=false/\∃bs:List Bool,xs=bs.map PV.bl/\k (.bl (bs.all id))):Wp ss (FP r (Ah te BE)) k:=⟨λE O F H Q S q=>
 h.go E O F H _ S λv tp xs F1 H1 a sv AG=>by
  obtain⟨d,bs,e,kk⟩:=AG;subst c;subst e;subst d;obtain⟨l,vs,rfl,b,r⟩:=sv.seq a.st;rw[r.Xo]at b;exact⟨l,bs,rfl,AW.of b,q _ _ F1 H1 a (.bl _) kk⟩⟩
theorem zQ(e:r=λxs H Q=>∃i j,xs=[.int i,.int j]/\Q (.int (if j > i then j else i)) H)(h:Wp ss ta λx=>∃i,x=.int i/\Wp ss tb λy=>∃j,y=.int j/\k (.int (if j > i then j else i))):Wp ss (FP r (Ah ta (Ah tb BE))) k:=⟨λE O F H Q S q=>
 h.go E O F H _ S λv p F1 H1 a c AG=>by
  obtain⟨i,g,h2⟩:=AG;subst e;subst g;cases c.inv;exact h2.go E O F1 H1 _ a.st λl p2 F2 H2 d b CF=>by
   obtain⟨j,f,kk⟩:=CF;subst f;cases b.inv;exact⟨i,j,rfl,q _ _ F2 H2 (a.trans d) (.int _) kk⟩⟩
end
structure Src (E:Ent0) (F1:Hp) (J:It) (xs:List PV):Prop where
 go:∀(ss:List Slot)(O:L2.St)(F H:Hp)(i:Nat),AU F1 F->Sg E ss O F H->i<xs.length->J.go i H
 stop:∀(ss:List Slot)(O:L2.St)(F H:Hp),AU F1 F->Sg E ss O F H->J.stop xs.length H
 Ep:∀(ss:List Slot)(O:L2.St)(F H:Hp)(i:Nat)(x:V)(H':Hp),AU F1 F->Sg E ss O F H->i<xs.length->J.Ep i H x H'->∃p F',xs[i]?=some p/\Mv E ss O F H F' H'/\Rep F' x p
structure Wi [Xw] (ss:List Slot) (wi:TI) (k:List PV->Prop):Prop where
 go:∀(E:Ent)(O:L2.St)(F H:Hp)(R:It->Hp->Prop),Sg E ss O F H->(∀J xs F' H',Mv E ss O F H F' H'->Src E F' J xs->k xs->R J H')->wi O H R
structure Wg [Xw] (ss:List Slot) (g:TG) (p:PV) (k:List Slot->Prop):Prop where
 go:∀(E:Ent)(O:L2.St)(F H:Hp)(v:V)(Q:L2.St->Hp->Prop),Sg E ss O F H->Rep F v p->(∀A9 σ',k A9->Sg E A9 σ' F H->Q σ' H)->g v O H Q
section
variable[Xw]
variable{K:ZHa}{tb:TE}{k:PV->Prop}{R:Ap}
theorem fk(h:∀(ss:List Slot)(O:L2.St)(F H:Hp),AU F' F->Sg E ss O F H->H l=some (EZ tp vs))(r:AR F' vs xs):Src E F' (Ss K tp l vs) xs where
 go:=λss O F H i s S hi=>⟨EZ.sq (h ss O F H s S),by rw[r.length];exact hi⟩
 stop:=λss O F H s S=>⟨EZ.sq (h ss O F H s S),by rw[r.length];exact As _⟩
 Ep:=λss O F H i x H' s S hi y=>by
  obtain⟨e,hx⟩:=y;subst e;obtain⟨p,b,a⟩:=r.get' hx;exact⟨p,F,b,.refl S,a.mono s⟩
theorem DL{k:List PV->Prop}(h:Wz ss te λ_ xs=>k xs):Wi ss (R9 K te) k:=⟨λE O F H R S q=>
 h.go E O F H _ S λv tp xs F1 H1 a f kk=>by
  cases tp with
  |true=>
   have c:Rep F1 v (.tup xs):=f;cases c with
   |tup e r=>exact⟨true,_,_,rfl,B7.of (a.st.fh _ _ e),q _ _ F1 H1 a (fk (tp:=true) (λss O F H s S=>S.fh _ _ (s _ _ e)) r) kk⟩
  |false=>
   obtain⟨l,vs,rfl,h1,r⟩:=f;have b:∀(ss:List Slot)(O:L2.St)(F H:Hp),AU F1 F->Sg E ss O F H->H l=some (.lst vs):=λss O F H s S=>by
    rcases h1 with h1|⟨hA,h1⟩
    .exact S.fh _ _ (s _ _ h1)
    .exact S.keep _ _ hA h1
   exact⟨false,l,vs,rfl,AW.of (b ss O F1 H1 (AU.refl _) a.st),q _ _ F1 H1 a (fk (tp:=false) b r) kk⟩⟩
noncomputable def Ka(n:Nat):List PV:=(List.range n).map λi:Nat=>PV.int (i:Int)
theorem Hw(n:Nat):(Ka n).length=n:=by simp[Ka]
theorem Rv(h:(Ka n)[i]?=some p):i<n/\p=.int (i:Int):=by
 have hi:i<n:=by have:=(List.getElem?_eq_some_iff.mp h).1;rwa [Hw]at this
 unfold Ka at h;rw[Aj,Kk hi]at h;exact⟨hi,(BY h).symm⟩
theorem c7{k:List PV->Prop}(h:Wp ss te λp=>∃j:Int,p=.int j/\j<=1000000/\-1000000<=j/\k (Ka j.toNat)):Wi ss (Yi (Ah te BE)) k:=⟨λE O F H R S q=>
 h.go E O F H _ S λv p F1 H1 a r AG=>by
  obtain⟨j,e,h1,h2,kk⟩:=AG;subst e;cases r.inv;refine⟨j,rfl,by omega,by omega,q _ (Ka j.toNat) F1 H1 a ⟨λss O F H i s S hi=>?_,λss O F H s S=>?_,λss O F H i x H' s S hi y=>?_⟩ kk⟩
  .rw[Hw]at hi;exact hi
  .show _<=_;rw[Hw];exact As _
  .obtain⟨e,hx⟩:=y;subst e;subst hx;rw[Hw]at hi;refine⟨.int (i:Int),F,?_,.refl S,?_⟩
   .unfold Ka;rw[Aj,Kk hi];rfl
   .rw[Int.zero_add];exact .int _⟩
theorem Fp{k:List Slot->Prop}(h:k (ss.set j (.is p))):Wg ss (C7 j) p k:=⟨λE O F H v Q S r q=>q _ _ h (S.EM r)⟩
theorem lN{k:List Slot->Prop}(h:∃a b,p=.tup [a,b]/\k ((ss.set i (.is a)).set j (.is b))):Wg ss (Jm K 2 (Fh (C7 i) (Fh (C7 j) M8))) p k:=⟨λE O F H v Q S r q=>by
 obtain⟨a,b,rfl,kk⟩:=h;obtain⟨_,_,rfl,e,r⟩:=r.inv;obtain⟨_,_,rfl,d,r⟩:=r.inv;obtain⟨_,_,rfl,c,r⟩:=r.inv;obtain rfl:=r.DI;exact⟨_,_,rfl,B7.of (S.fh _ _ e),rfl,_,_,rfl,_,_,rfl,rfl,q _ _ kk ((S.EM d).EM c)⟩⟩
theorem yV{l:Nat}{k:List Slot->Prop}(h:∃a b c,p=.tup [a,b,c]/\k (((ss.set i (.is a)).set j (.is b)).set l (.is c))):Wg ss (Jm K 3 (Fh (C7 i) (Fh (C7 j) (Fh (C7 l) M8)))) p k:=⟨λE O F H v Q S r q=>by
 obtain⟨a,b,c,rfl,kk⟩:=h;obtain⟨_,_,rfl,e,r⟩:=r.inv;obtain⟨_,_,rfl,g,r⟩:=r.inv;obtain⟨_,_,rfl,f,r⟩:=r.inv;obtain⟨_,_,rfl,d,r⟩:=r.inv;obtain rfl:=r.DI;exact⟨_,_,rfl,B7.of (S.fh _ _ e),rfl,_,_,rfl,_,_,rfl,_,_,rfl,rfl,q _ _ kk (((S.EM g).EM f).EM d)⟩⟩
theorem AQ{t:TS}(h:Ws ss t (λA9=>Ws A9 u nx R) R):Ws ss (Q4 t u) nx R:=⟨λE D O F H S c a=>
 h.go E { D with nx:=u D } O F H S (λA9 σ' F' H' w S' s=>w.go E D σ' F' H' S' (λBh σ2 F2 H2 b S2 s2=>c Bh σ2 F2 H2 b S2 (s.trans s2)) a) a⟩
theorem ET{t:TS}(h:Ws ss t nx R):Ws ss (W8 t) nx R:=⟨λE D O F H S b a=>⟨D.nx,h.go E { D with nx:=D.nx } O F H S b a,λ_ _ q=>q⟩⟩
theorem Ws.mono{t:TS}(h:Ws ss t nx R)(i:∀s,nx s->Rt s):Ws ss t Rt R:=⟨λE D O F H S b a=>h.go E D O F H S (λA9 σ' F' H' n=>b A9 σ' F' H' (i _ n)) a⟩
theorem M9{t:TS}(J:List Slot->Prop)(h:Ws ss t J R)(h2:∀A9,J A9->Ws A9 u nx R):Ws ss (Q4 t u) nx R:=AQ (h.mono h2)
theorem EE(h:Wp ss te λp=>nx (ss.set i (.is p))):Ws ss (Ei te (C7 i)) nx R:=⟨λE D O F H S b c=>
 h.go E O F H _ S λv p F1 H1 a r kk=>b _ _ F1 H1 kk (a.st.EM r) a.ff⟩
theorem cQ(h:Wp ss te λp=>Wg ss g p nx):Ws ss (Ei te g) nx R:=⟨λE D O F H S b c=>
 h.go E O F H _ S λv p F1 H1 a r kk=>kk.go E O F1 H1 v _ a.st r λA9 σ' n S'=>b _ _ F1 H1 n S' a.ff⟩
theorem Gj(h:Wn ss te λxs=>nx (ss.set i (.own xs))):Ws ss (Ei te (C7 i)) nx R:=⟨λE D O F H S f m=>
 h.go E O F H _ S λl vs xs F1 H1 a g b Lf r kk=>f _ _ F1 H1 kk (a.st.setG ⟨l,vs,rfl,g,S.DU b,Lf,r⟩ λk e j u _ d c=>by cases e;exact S.ID d b c) a.ff⟩
theorem D4(h:Wp ss te k):Ws ss (IA te) nx (.is k):=⟨λE D O F H S c b=>
 h.go E O F H _ S λv p F1 H1 a r kk=>b v F1 H1 a.st.toFin ⟨p,r,kk⟩⟩
theorem JH{k:List PV->Prop}(h:Wn ss te k):Ws ss (IA te) nx (.new k):=⟨λE D O F H S e b=>
 h.go E O F H _ S λl vs xs F1 H1 a d c Lf r kk=>b _ F1 H1 a.st.toFin ⟨l,vs,xs,rfl,d,S.DU c,Lf,r,kk⟩⟩
theorem ir{k:List PV->Prop}(h:ss[i]?=some (.own xs))(kk:k xs):Ws ss (IA (Au i)) nx (.new k):=⟨λE D O F H S f a=>by
 obtain⟨l,vs,e,d,c,b,r⟩:=S.ok i _ h;exact⟨_,e,a _ F H S.toFin ⟨l,vs,xs,rfl,d,c,b,r,kk⟩⟩⟩
theorem Bl{t:TS}(h:Wt ss c λb=>if b=true then Ws ss t nx R else Ws ss u nx R):Ws ss (Ze c t u) nx R:=⟨λE D O F H S e d=>
 h.go E O F H _ S λb F1 H1 a w=>by
  show if b=true then _ else _
  cases b with
  |true=>rw[pT rfl]at w ⊢;exact w.go E D O F1 H1 a.st (λBh σ2 F2 H2 n S2 s2=>e Bh σ2 F2 H2 n S2 (a.ff.trans s2)) d
  |false=>rw[pL (by decide)]at w ⊢;exact w.go E D O F1 H1 a.st (λBh σ2 F2 H2 n S2 s2=>e Bh σ2 F2 H2 n S2 (a.ff.trans s2)) d⟩
theorem BN(h:nx ss):Ws ss aJ nx R:=⟨λE D O F H S a b=>a ss O F H h S (AU.refl _)⟩
theorem Fj(h:Wp ss te λ_=>nx ss):Ws ss (IW te) nx R:=⟨λE D O F H S b c=>
 h.go E O F H _ S λv p F1 H1 a r kk=>b ss O F1 H1 kk a.st a.ff⟩
theorem Sg.drop(S:Sg E ss O F H)(i:Nat):Sg E (ss.set i .any) O F H:=by
 have b:∀(j:Nat)u,(ss.set i .any)[j]?=some u->u=.any∨ss[j]?=some u:=λj u a=>by
  by_cases q:j=i
  .subst q;have e:j<ss.length:=by have:=(List.getElem?_eq_some_iff.mp a).1;simpa using this
   rw[DP e]at a;exact .inl (BY a).symm
  .rw[DH (CC q)]at a;exact .inr a
 refine⟨S.toFin,by rw[MT];exact S.len,λj u a=>?_,λj k u w l Ra a hk d c=>?_⟩
 .rcases b j u a with rfl|h
  .trivial
  .exact S.ok j u h
 .rcases b j u a with rfl|h
  .cases d
  .rcases b k w hk with rfl|h2
   .cases c
   .exact S.CN j k u w l Ra h h2 d c
theorem UR(e:O[i]?=some (some v)):O.set i (some v)=O:=by
 apply List.ext_getElem?;intro j
 by_cases q:j=i
 .subst q;rw[DP (List.getElem?_eq_some_iff.mp e).1,e]
 .rw[DH (CC q)]
theorem Sg.MD(S:Sg E ss O F H)(k:F a=none)(c:E.H0 a=none∨a∈E.B)(g:∀(i:Nat)s,ss[i]?=some s->¬ BJ s O[i]? a):Sg E ss O F (upd H a o):=by
 have f:∀b u,b≠a->H b=some u->upd H a o b=some u:=λb u h e=>by rw[An h];exact e
 refine⟨⟨λb u e=>?_,S.f0,λb u d e=>?_,S.fresh,λb d=>?_,S.Qd,S.a0,S.bF,λb j=>?_,S.b0⟩,S.len,λi s hi=>?_,S.CN⟩
 .exact f b u (Di e k) (S.fh b u e)
 .refine f b u ?_ (S.keep b u d e);rintro rfl;rcases c with c|c
  .rw[c]at e;cases e
  .exact d.2 c
 .refine Bf.keep (S.Hz b d) λu e=>f b u ?_ e;rintro rfl;rcases c with c|c
  .exact S.a0 _ d c
  .exact(S.b0 _ c).2 d
 .by_cases q:b=a
  .subst q;rw[BC];simp
  .rw[An q];exact S.bH b j
 .by_cases np:s=.AZ
  .subst np;obtain⟨l,e,r,p,n⟩:=S.ok i _ hi;exact⟨l,e,r,p,Bf.keep n λu h=>f l u (by rintro rfl;exact g i _ hi e) h⟩
  .exact Ok.go S hi (AU.refl _) (λb u m h=>f b u (by rintro rfl;exact g i _ hi m) h) (λ_ _ h=>h) np
theorem Sg.put(S:Sg E ss O F H){ys:List PV}(hi:ss[i]?=some (.own xs))(e:O[i]?=some (some (.ref l)))(f:F l=none)(d:E.H0 l=none)(r:AR F Bs ys):Sg E (ss.set i (.own ys)) O F (upd H l (.lst Bs)):=by
 have a:∀(j:Nat)s,(ss.set i .any)[j]?=some s->¬ BJ s O[j]? l:=λj s b c=>by
  by_cases q:j=i
  .subst q;have n:j<ss.length:=(List.getElem?_eq_some_iff.mp hi).1;rw[DP n]at b;cases b;cases c
  .rw[DH (CC q)]at b;exact S.CN j i s _ l q b hi c e
 have m:=(S.drop i).MD (o:=.lst Bs) f (.inl d) a;have S3:=m.setG (j:=i) (s:=.own ys) (v:=.ref l) ⟨l,Bs,rfl,f,d,BC,r⟩ λp k j u b h g=>by cases k;exact a j u h g
 rw[UR e,Uy]at S3;exact S3
theorem SX(hi:ss[i]?=some (.own xs))(h:Wp ss te λp=>xs.length<=99999/\nx (ss.set i (.own (xs++[p])))):Ws ss (IW (Fy K "list" Tb (Au i) (Ah te BE))) nx R:=⟨λE D O F H S g m=>by
 obtain⟨l,vs,e,o,n,j,r⟩:=S.ok i _ hi;refine⟨_,e,.inl ⟨rfl,_,AW.of j⟩,h.go E O F H _ S λv p F1 H1 a d⟨f,kk⟩=>?_⟩;obtain⟨k,Bs,c,FC,Cy,Oz,b⟩:=a.st.ok i _ hi;rw[e]at c;cases c;refine⟨l,Bs,v,rfl,rfl,Oz,HK (by rw[b.length];exact f),?_⟩;exact g _ O F1 _ kk (a.st.put hi e FC Cy (b.append (.one d))) a.ff⟩
theorem dZ(hi:ss[i]?=some (.own xs))(h:Wp ss ta λa=>∃j:Int,a=.int j/\0<=j/\j<=xs.length/\Wp ss te λp=>xs.length<=99999/\nx (ss.set i (.own (xs.take j.toNat++p::xs.drop j.toNat)))):
  Ws ss (IW (Fy K "list" Rq (Au i) (Ah ta (Ah te BE)))) nx R:=⟨λE D O F H S o w=>by
 obtain⟨l,vs,e,y,x,s,r⟩:=S.ok i _ hi;refine⟨_,e,.inl ⟨rfl,_,AW.of s⟩,h.go E O F H _ S λt p1 F1 H1 d Mj⟨j,q,m,k,h2⟩=>?_⟩;subst q;cases Mj.inv;refine h2.go E O F1 H1 _ d.st λv p F2 H2 c g⟨n,kk⟩=>?_;obtain⟨u,Bs,f,FC,Cy,Oz,b⟩:=c.st.ok i _ hi;rw[e]at f;cases f;refine⟨l,Bs,j,v,rfl,rfl,Oz,m,by rw[b.length];exact k,HK (by rw[b.length];exact n),?_⟩;exact o _ O F2 _ kk (c.st.put hi e FC Cy ((b.take _).append (.cons g (b.drop _)))) (d.ff.trans c.ff)⟩
noncomputable def CL(F H:Hp)(as:List Addr):Hp:=λa=>if a∈as then H a else F a
theorem Sg.lay(S:Sg E ss O F H)(as:List Addr)(g:∀a∈as,F a=none/\E.H0 a=none/\H a≠none)(x:∀a∈as,∀(i:Nat)s,ss[i]?=some s->¬ BJ s O[i]? a):Sg E ss O (CL F H as) H/\AU F (CL F H as):=by
 have y:∀a,a∈as->CL F H as a=H a:=λa h=>pT h;have j:∀a,a∉as->CL F H as a=F a:=λa h=>pL h;have ff:AU F (CL F H as):=λa o e=>by
  by_cases q:a∈as
  .rw[(g a q).1]at e;cases e
  .rw[j a q];exact e
 have f:∀a,a∉as->F a=none->CL F H as a=none:=λa q h=>by rw[j a q];exact h
 refine⟨⟨⟨λa o e=>?_,S.f0.trans ff,S.keep,λa o e=>?_,S.Hz,λa w=>?_,S.a0,λa u=>?_,S.bH,S.b0⟩,S.len,λi s hi=>?_,S.CN⟩,ff⟩
 .by_cases q:a∈as
  .rw[y a q]at e;exact e
  .rw[j a q]at e;exact S.fh a o e
 .by_cases q:a∈as
  .exact .inr (g a q).2.1
  .rw[j a q]at e;exact S.fresh a o e
 .exact f a (λq=>S.a0 a w (g a q).2.1) (S.Qd a w)
 .exact f a (λq=>(S.b0 a u).1 (g a q).2.1) (S.bF a u)
 .have l:∀a,BJ s O[i]? a->a∉as:=λa m q=>x a q i s hi m;have kk:=S.ok i s hi;cases s with
  |any=>trivial
  |is p=>obtain⟨v,e,r⟩:=kk;exact⟨v,e,r.mono ff⟩
  |own ys=>
   obtain⟨b,ws,q,d,c,k,r⟩:=kk;exact⟨b,ws,q,f b (l b q) d,c,k,r.mono ff⟩
  |AZ=>
   obtain⟨b,q,d,c,k⟩:=kk;exact⟨b,q,f b (l b q) d,c,k⟩
  |sq tp ys=>
   cases tp with
   |true=>obtain⟨v,e,r⟩:=kk;exact⟨v,e,r.mono ff⟩
   |false=>obtain⟨b,ws,q,d,c,r⟩:=kk;exact⟨b,ws,q,d,c,r.mono ff⟩
  |raw P=>obtain⟨v,e,r,st⟩:=kk;exact⟨v,e,st _ _ ff r,st⟩
  |ow lt t=>
   obtain⟨v,e,r,nd,q⟩:=kk;exact⟨v,e,r.mono ff λa _ o h=>h,nd,λa n=>⟨f a (l a n) (q a n).1,(q a n).2⟩⟩
theorem Jk{t:TS}(i:Nat)(hi:ss[i]?=some (.own xs))(h:Ws (ss.set i (.is (.lst xs))) t nx R):Ws ss t nx R:=⟨λE D O F H S k g=>by
 obtain⟨l,vs,e,u,o,f,r⟩:=S.ok i _ hi;have one:∀a,a∈[l]->a=l:=λa h=>by simpa using h
 obtain⟨S1,d⟩:=(S.drop i).lay [l] (λa h=>by rw[one a h,f];exact⟨u,o,by simp⟩) λa h j s b m=>by
  rw[one a h]at m
  by_cases q:j=i
  .subst q;rw[DP (List.getElem?_eq_some_iff.mp hi).1]at b;cases b;cases m
  .rw[DH (CC q)]at b;exact S.CN j i s _ l q b hi m e
 have c:=S1.EM (j:=i) (v:=.ref l) (p:=.lst xs) (.lst (by unfold CL;rw[pT (by simp)];exact f) (r.mono d));rw[UR e,Uy]at c;exact h.go E D O _ H c (λBh σ2 F2 H2 n c s2=>k Bh σ2 F2 H2 n c (d.trans s2)) g⟩
theorem FF{tb:TS}(I:List PV->Nat->List Slot->Prop)(h:Wi ss wi λxs=>I xs 0 ss/\(∀(i:Nat)p A9,xs[i]?=some p->I xs i A9->Wg A9 g p λBh=>Ws Bh tb (I xs (i+1)) R)/\∀A9,I xs xs.length A9->nx A9):Ws ss (SE wi g tb) nx R:=⟨λE D O F H S v t=>
 h.go E O F H _ S λJ xs F1 H1 k d AG=>by
  obtain⟨i0,s,hd⟩:=AG;refine⟨λi m σ' H'=>m=xs.length - i/\i<=xs.length/\∃A9 F',I xs i A9/\Sg E A9 σ' F' H'/\AU F1 F',⟨_,rfl,Cg _,ss,F1,i0,k.st,AU.refl _⟩,?_⟩;rintro i m σ' H'⟨rfl,hi,A9,F',l,S',s'⟩
  by_cases f:i<xs.length
  .refine .inr ⟨d.go A9 σ' F' H' i s' S' f,λσ2 H2=>∃Bh F2,I xs (i+1) Bh/\Sg E Bh σ2 F2 H2/\AU F1 F2,λσ2 H2 CF=>by obtain⟨Bh,F2,a,b,c⟩:=CF;exact⟨_,by omega,rfl,f,Bh,F2,a,b,c⟩,λx H3 y=>?_⟩;obtain⟨p,F3,u,j,q⟩:=d.Ep A9 σ' F' H' i x H3 s' S' f y;refine(s i p A9 u l).go E σ' F3 H3 x _ j.st q λn σ4 w S4=>?_;exact w.go E _ σ4 F3 H3 S4 (λLh σ5 F5 H5 r S5 o=>⟨Lh,F5,r,S5,(s'.trans j.ff).trans o⟩) t
  .have e:i=xs.length:=by omega
   subst e;exact .inl ⟨d.stop A9 σ' F' H' s' S',v A9 σ' F' H' (hd A9 l) S' (k.ff.trans s')⟩⟩
theorem ZDR{tb:TS}(I:Nat->List Slot->Prop)(e:Nat)(o:I e ss)(h:∀m A9,I m A9->Wt A9 c λb=>if b=true then Ws A9 tb (λBh=>∃a,a < m/\I a Bh) R else nx A9):Ws ss (SH c tb) nx R:=⟨λE D O F H S k j=>by
 refine⟨λm σ' H'=>∃A9 F',I m A9/\Sg E A9 σ' F' H'/\AU F F',⟨e,ss,F,o,S,AU.refl _⟩,?_⟩;rintro m σ' H'⟨A9,F',n,S',s'⟩;refine(h m A9 n).go E σ' F' H' _ S' λb F1 H1 d w=>?_;cases b with
 |true=>
  rw[pT rfl]at w;refine⟨λσ2 H2=>∃Bh F2,(∃a,a < m/\I a Bh)/\Sg E Bh σ2 F2 H2/\AU F F2,λσ2 H2 AG=>by obtain⟨Bh,F2,⟨a,l,i⟩,b,c⟩:=AG;exact⟨a,l,Bh,F2,i,b,c⟩,?_⟩;exact w.go E _ σ' F1 H1 d.st (λLh σ5 F5 H5 g S5 f=>⟨Lh,F5,g,S5,(s'.trans d.ff).trans f⟩) j
 |false=>
  rw[pL (by decide)]at w;exact k A9 σ' F1 H1 w d.st (s'.trans d.ff)⟩
end
noncomputable def CM(js:List Nat)(ss:List Slot):List Slot:=js.map λj=>(ss[j]?).getD .any
def OS(js:List Nat)(ss:List Slot):Bool:=js.all λj=>match ss[j]? with
 |some .AZ=>false
 |_=>true
section
variable[Xw]
variable{K:ZHa}{js:List Nat}
theorem gA(h:js[i]?=some j)(e:(CM js ss)[i]?=some s):s=(ss[j]?).getD .any:=by
 unfold CM at e;rw[Aj,h]at e;exact(BY e).symm
theorem Sg.AN(S:Sg E ss O F H)(nd:js.Nodup)(r:AR F vs ps):Sg E (CM js ss++ps.map .is) (Bc js O++vs.map some) F H:=by
 have d:(CM js ss).length=js.length:=by simp[CM]
 have f:(Bc js O).length=js.length:=by simp[Bc]
 have k:∀(i:Nat)(hi:i<js.length),(CM js ss++ps.map .is)[i]?=some ((ss[js[i]]?).getD .any)/\(Bc js O++vs.map some)[i]?=some ((O[js[i]]?).join):=λi hi=>by
  rw[DO (by rw[d];exact hi),DO (by rw[f];exact hi)];unfold CM Bc;rw[Aj,Aj,AX hi];exact⟨rfl,rfl⟩
 have c:∀(i:Nat)s,js.length<=i->(CM js ss++ps.map .is)[i]?=some s->∃p v,s=.is p/\(Bc js O++vs.map some)[i]?=some (some v)/\Rep F v p:=λi s hi e=>by
  rw[E8 (by rw[d];exact hi),d,Aj]at e;rw[E8 (by rw[f];exact hi),f,Aj];cases q:ps[i - js.length]? with
  |none=>rw[q]at e;cases e
  |some p=>
   rw[q]at e;obtain⟨v,h,g⟩:=r.get q;rw[h];exact⟨p,v,(BY e).symm,rfl,g⟩
 have G:∀(s:Slot)(m:Nat)(l:Addr),BJ s (some (O[m]?).join) l->BJ s O[m]? l:=λs m l o=>by
  have w:∀l,some (O[m]?).join=some (some (V.ref l))->O[m]?=some (some (.ref l)):=λl e=>by
   cases q:O[m]? with
   |none=>rw[q]at e;cases e
   |some o=>rw[q]at e;cases o with
    |none=>cases e
    |some v=>simpa using e
  cases s with
  |own xs=>exact w l o
  |AZ=>exact w l o
  |ow lt t=>exact o
  |_=>exact o
 have n:∀(i:Nat)s l,(CM js ss++ps.map .is)[i]?=some s->BJ s (Bc js O++vs.map some)[i]? l->∃hi:i<js.length,ss[js[i]]?=some s/\BJ s O[js[i]]? l:=λi s l e m=>by
  by_cases hi:i<js.length
  .rw[(k i hi).2]at m;refine⟨hi,?_,G s _ l m⟩;rw[(k i hi).1]at e;cases q:ss[js[i]]? with
   |none=>rw[q]at e;cases e;cases m
   |some u=>rw[q]at e;exact e
  .obtain⟨p,v,rfl,_⟩:=c i s (by omega) e;cases m
 refine⟨S.toFin,?_,λi s e=>?_,λi j s u l GC hi D C B=>?_⟩
 .rw[Bt,Bt,d,f,AD,AD,r.length]
 .by_cases hi:i<js.length
  .obtain⟨a,b⟩:=k i hi;rw[a]at e;rw[b];cases q:ss[js[i]]? with
   |none=>rw[q]at e;cases e;trivial
   |some u=>
    rw[q]at e;have I:u=s:=BY e;subst I;have kk:=S.ok _ _ q;cases u with
    |any=>trivial
    |is p=>obtain⟨v,e,r⟩:=kk;rw[e];exact⟨v,rfl,r⟩
    |own xs=>obtain⟨l,vs,e,r⟩:=kk;rw[e];exact⟨l,vs,rfl,r⟩
    |AZ=>obtain⟨l,e,r⟩:=kk;rw[e];exact⟨l,rfl,r⟩
    |sq tp xs=>
     cases tp with
     |true=>obtain⟨v,e,r⟩:=kk;rw[e];exact⟨v,rfl,r⟩
     |false=>obtain⟨l,vs,e,r⟩:=kk;rw[e];exact⟨l,vs,rfl,r⟩
    |raw P=>obtain⟨v,e,r⟩:=kk;rw[e];exact⟨v,rfl,r⟩
    |ow lt t=>obtain⟨v,e,r⟩:=kk;rw[e];exact⟨v,rfl,r⟩
  .obtain⟨p,v,rfl,h,g⟩:=c i s (by omega) e;rw[h];exact⟨v,rfl,g⟩
 .obtain⟨K,y,A⟩:=n i s l hi C;obtain⟨J,x,z⟩:=n j u l D B;refine S.CN js[i] js[j] s u l (λe=>GC ?_) y x A z;exact(nR nd).mp e
theorem Mv.out(S:Sg E ss O F H)(np:OS js ss=true)(m:Mv E (CM js ss++ps.map .is) τ F H F' H'):Mv E ss O F H F' H':=by
 have nn:∀a,C6 (CM js ss++ps.map .is) τ a:=λa i hi _=>by
  by_cases h:i<(CM js ss).length
  .rw[DO h]at hi;have b:i<js.length:=by simpa[CM]using h
   have q:=gA (AX b) hi;have z:=List.all_eq_true.mp np js[i] (Hs b);cases w:ss[js[i]]? with
   |none=>rw[w]at q;cases q
   |some u=>rw[w]at q z;cases q;cases z
  .rw[E8 (by omega),Aj]at hi;cases w:ps[i - (CM js ss).length]? with
   |none=>rw[w]at hi;cases hi
   |some p=>rw[w]at hi;cases hi
 have hk:∀a o,H a=some o->H' a=some o:=λa o e=>m.hh a o (nn a) e;exact S.step m.ff m.st.fh (λa o _ e=>hk a o e) m.nn λi l hi e=>Bf.keep (S.Ez hi e) λo e=>hk l o e
theorem iA{k:List PV->Prop}(f:PV->Bool)(g:PV->PV)
  (h:Wi ss wi λxs=>xs.length<=100000/\(∀x∈xs,Wt (CM js ss++[.is x]) tt λb=>b=f x)/\(∀x∈xs,f x=true->Wp (CM js ss++[.is x]) te λp=>p=g x)/\k ((xs.filter f).map g))
  (nd:js.Nodup:=by decide) (np:OS js ss=true:=by rfl):Wn ss (JY wi js tt te) k:=⟨λE O F H Q S q=>
 h.go E O F H _ S λJ xs F1 H1 d C⟨hz,U,V,kk⟩acc B8=>by
  have P:C6 ss O acc:=d.st.Ic B8;have IP:=d.st.DU B8;have IG:∀(i:Nat)s,ss[i]?=some s->¬ BJ s O[i]? acc:=λi s hi=>d.st.ID hi B8;refine⟨λi m H2=>m=xs.length - i/\i<=xs.length/\∃F2 vs,Mv E ss O F1 H1 F2 H2/\F2 acc=none/\H2 acc=some (.lst vs)/\AR F2 vs (((xs.take i).filter f).map g),⟨_,rfl,Cg _,F1,[],d.st.make B8 _,d.st.CA B8,BC,.nil⟩,?_⟩;rintro i m H2⟨rfl,hi,F2,vs,c,K,z,t⟩
  by_cases r:i<xs.length
  .refine .inr ⟨C.go ss O F2 H2 i c.ff c.st r,λx H3 y=>?_⟩;obtain⟨p,F3,G,u,I⟩:=C.Ep ss O F2 H2 i x H3 c.ff c.st r y;have N:p∈xs:=Bi G;have QY:(xs.take (i+1))=xs.take i++[p]:=by
    have Y:xs[i]=p:=by rw[AX r]at G;exact BY G
    rw[Qs r,Y]
   have L:List.filter f (xs.take (i+1))=(xs.take i).filter f++(if f p=true then[p]else[]):=by
    rw[QY,Uu];congr 1
    by_cases j:f p=true <;> simp[j]
   have M:∀{F4:Hp},(∀a o,F4 a=some o->F2 a=some o∨H2 a=none)->F4 acc=none:=λ{F4}n=>by
    cases e:F4 acc with
    |none=>rfl
    |some o=>
     rcases n acc o e with w|w
     .rw[K]at w;cases w
     .rw[z]at w;cases w
   have S3:=u.st.AN (js:=js) nd (.one I);refine(U p N).go E _ F3 H3 _ S3 λb F4 H4 D W=>?_;have l:=u.trans (D.out (ps:=[p]) u.st np);show if b=true then _ else _
   rw[W]
   by_cases j:f p=true
   .rw[pT j];have Z:=l.st.AN (js:=js) nd (.one (I.mono (D.out (ps:=[p]) u.st np).ff));refine(V p N j).go E _ F4 H4 _ Z λw pw F5 H5 R JF X=>?_;have T:=D.out (ps:=[p]) u.st np;have Ld:=R.out (ps:=[p]) l.st np;have B:=l.trans Ld;have LS:=B.hh acc _ P z;have σ:=M B.nn;have v:vs.length<=99999:=by
     rw[t.length,AD];have:=Ux f (xs.take i);rw[DR]at this;omega
    refine⟨vs,LS,HK v,xs.length - (i+1),by omega,rfl,r,F5,vs++[w],?_,σ,BC,?_⟩
    .have A:=c.trans B;refine⟨A.st.MD σ (.inl IP) IG,A.ff,λa o n e=>?_,A.nn⟩;rw[An (Di e B8)];exact A.hh a o n e
    .rw[L,pT j,C0];rw[X]at JF;exact(t.mono B.ff).append (.one JF)
   .have QD:f p=false:=by simpa using j
    rw[QD,pL (by decide)];refine⟨xs.length - (i+1),by omega,rfl,r,F4,vs,c.trans l,M l.nn,l.hh acc _ P z,?_⟩;rw[L,pL j,CB];exact t.mono l.ff
  .have e:i=xs.length:=by omega
   subst e;refine .inl ⟨C.stop ss O F2 H2 c.ff c.st,q acc vs _ F2 H2 (d.trans c) K (d.none B8) z ?_ kk⟩;rw[FR]at t;exact t⟩
end
abbrev Pre:=List Slot->Ap->Prop
def AL(pre:Pre):Sp:=λvs H Q _=>∃(ss:List Slot)(R:Ap)(F:Hp)(A:List Addr),pre ss R/\Sg (E3 A F H) ss (vs.map some) F H/\∀v F' H',Fin (E3 A F H) F' H'->R.ok (E3 A F H) F' H' v->Q v H'
section
variable[Xw]
variable{pre:Pre}{t:TA}{k:PV->Prop}
theorem GF.at{l:List Slot}(h:GF ss O F H vs l):∀{i:Nat}{s:Slot},l[i]?=some s->∃v,vs[i]?=some v/\Av ss O F H v s:=by
 induction h with
 |nil=>intro i s e;simp at e
 |cons a _ b=>
  intro i s e;cases i with
  |zero=>simp at e;subst e;exact⟨_,rfl,a⟩
  |succ i=>exact b (by simpa using e)
theorem GF.len{l:List Slot}(h:GF ss O F H vs l):l.length=vs.length:=by
 induction h with
 |nil=>rfl
 |cons a _ b=>rw[CH,CH,b]
theorem Av.ok(S:Sg E ss O F H)(a:Av ss O F H v s)(b:∀l,C6 ss O l->l∉A):Ok (E3 A F H) F H s (some (some v))/\∀o l,¬ BJ s o l:=by
 cases s with
 |is p=>exact⟨⟨v,rfl,a⟩,λ_ _ z=>z⟩
 |sq tp xs=>
  cases tp with
  |true=>exact⟨⟨v,rfl,a⟩,λ_ _ z=>z⟩
  |false=>obtain⟨l,vs,rfl,n,h,r⟩:=a;exact⟨⟨l,vs,rfl,⟨b l n,Ak⟩,h,r⟩,λ_ _ z=>z⟩
 |raw P=>exact⟨⟨v,rfl,a⟩,λ_ _ z=>z⟩
 |any=>exact a.elim
 |own xs=>exact a.elim
 |AZ=>exact a.elim
 |ow lt t=>exact a.elim
theorem Sg.OP(S:Sg E ss O F H){l:List Slot}(a:GF ss O F H vs l):Sg (E3 [] F H) l (vs.map some) F H:=by
 have nn:∀{p:Prop}(a:Addr),a∈([]:List Addr)->p:=λa h=>absurd h Ak;refine⟨⟨S.fh,AU.refl _,λ_ _ _ e=>e,λ_ _ e=>.inl e,λa h=>nn a h,λa h=>nn a h,λa h=>nn a h,λa h=>nn a h,λa h=>nn a h,λa h=>nn a h⟩,by rw[AD];exact a.len,λi s hi=>?_,λi j s u l GC hi f c d=>?_⟩
 .obtain⟨v,b,q⟩:=a.at hi;rw[Aj,b];exact(q.ok S λ_ _ h=>absurd h Ak).1
 .obtain⟨v,b,q⟩:=a.at hi;exact(q.ok S (A:=[]) λ_ _ h=>absurd h Ak).2 _ _ c
theorem Sg.X7(S:Sg E ss O F H){p:Addr}(hi:ss[i0]?=some .AZ)(e:O[i0]?=some (some (.ref p))){l:List Slot}(a:GF ss O F H vs l):Sg (E3 [p] F H) (.AZ::l) ((V.ref p::vs).map some) F H:=by
 obtain⟨w,g,fp,_,b⟩:=S.ok i0 _ hi;rw[e]at g;cases g;have f:∀l,C6 ss O l->l∉[p]:=λl n h=>by
  have:l=p:=by simpa using h
  subst this;exact n i0 hi e
 have one:∀a,a∈[p]->a=p:=λa h=>by simpa using h
 have nn:∀{p:Prop}(a:Addr),a∈([]:List Addr)->p:=λa h=>absurd h Ak;refine⟨⟨S.fh,AU.refl _,λ_ _ _ e=>e,λ_ _ e=>.inl e,λa h=>(one a h)▸b,λa h=>(one a h)▸fp,λa h=>?_,λa h=>nn a h,λa h=>nn a h,λa h=>nn a h⟩,by rw[AD,CH,CH];rw[a.len],λi s hi=>?_,λi j s u c GC hi t r k=>?_⟩
 .rw[one a h];obtain⟨_,_,q,_⟩:=b;show H p≠none;rw[q];simp
 .cases i with
  |zero=>simp at hi;subst hi;exact⟨p,rfl,fp,.inr (by simp),b⟩
  |succ i=>
   obtain⟨v,d,q⟩:=a.at (i:=i) (s:=s) (by simpa using hi)
   have:((V.ref p::vs).map some)[i+1]?=some (some v):=by rw[Ae,ZGb,Aj,d];rfl
   rw[this];exact(q.ok S f).1
 .have z:∀(i:Nat)s o c,(Slot.AZ::l)[i]?=some s->BJ s o c->i=0:=λi s o c h m=>by
   cases i with
   |zero=>rfl
   |succ i=>
    obtain⟨v,d,q⟩:=a.at (i:=i) (s:=s) (by simpa using h)
    exact((q.ok S f).2 _ _ m).elim
  exact absurd ((z i s _ _ hi r).trans (z j u _ _ t k).symm) GC
theorem Sg.back(S:Sg E ss O F H)(d:∀a,a∈A->∃i:Nat,ss[i]?=some .AZ/\O[i]?=some (some (.ref a)))(f:Fin (E3 A F H) F' H'):Mv E ss O F H F' H':=by
 refine S.step f.f0 f.fh (λa o n e=>f.keep a o ⟨λh=>?_,Ak⟩ e) f.fresh λi l hi e=>?_
 .obtain⟨i,c,b⟩:=d a h;exact n i c b
 .by_cases q:l∈A
  .exact f.Hz l q
  .exact Bf.keep (S.Ez hi e) λo e=>f.keep l o ⟨q,Ak⟩ e
theorem wp_call(h:Wa ss t λl=>∃b,pre l (.is b)/\∀p,b p->k p):Wp ss (DK (AL pre) [] E0 t) k:=⟨λE O F H Q S q=>
 h.go E O F H _ S λvs l F1 H1 c a⟨b,d,kk⟩=>by
  rw[CB];refine⟨l,.is b,F1,[],d,c.st.OP a,λv F' H' f⟨p,r,kp⟩=>?_⟩;exact q v p F' H' (c.trans (c.st.back (λ_ h=>absurd h Ak) f)) r (kk p kp)⟩
theorem K9{k:List PV->Prop}(h:Wa ss t λl=>∃c,pre l (.new c)/\∀xs,c xs->k xs):Wn ss (DK (AL pre) [] E0 t) k:=⟨λE O F H Q S q=>
 h.go E O F H _ S λvs l F1 H1 b a⟨c,g,kk⟩=>by
  rw[CB];refine⟨l,.new c,F1,[],g,b.st.OP a,λv F' H' f⟨l,vs,xs,e,j,i,DT,r,d⟩=>?_⟩;subst e;exact q l vs xs F' H' (b.trans (b.st.back (λ_ h=>absurd h Ak) f)) j (b.none i) DT r (kk xs d)⟩
theorem oY(hi:ss[i]?=some .AZ)(h:Wa ss t λl=>∃b,pre (.AZ::l) (.is b)/\∀p,b p->k p):Wp ss (DK (AL pre) [] E0 (Ah (Au i) t)) k:=⟨λE O F H Q S q=>by
 obtain⟨p,e,_⟩:=S.ok i _ hi;refine⟨_,e,h.go E O F H _ S λvs l F1 H1 c a⟨b,d,kk⟩=>?_⟩;show AL pre ((V.ref p::vs)++[]) H1 Q E0;rw[CB];refine⟨.AZ::l,.is b,F1,[p],d,c.st.X7 hi e a,λv F' H' f⟨pv,r,kp⟩=>?_⟩;exact q v pv F' H' (c.trans (c.st.back (A:=[p]) (λa h=>⟨i,hi,(show a=p from by simpa using h)▸e⟩) f)) r (kk pv kp)⟩
theorem uN{k:List PV->Prop}(hi:ss[i]?=some .AZ)(h:Wa ss t λl=>∃c,pre (.AZ::l) (.new c)/\∀xs,c xs->k xs):Wn ss (DK (AL pre) [] E0 (Ah (Au i) t)) k:=⟨λE O F H Q S q=>by
 obtain⟨p,e,_⟩:=S.ok i _ hi;refine⟨_,e,h.go E O F H _ S λvs l F1 H1 b a⟨c,g,kk⟩=>?_⟩;show AL pre ((V.ref p::vs)++[]) H1 Q E0;rw[CB];refine⟨.AZ::l,.new c,F1,[p],g,b.st.X7 hi e a,λv F' H' f⟨l,vs,xs,n,m,j,DT,r,d⟩=>?_⟩;subst n;exact q l vs xs F' H' (b.trans (b.st.back (A:=[p]) (λa h=>⟨i,hi,(show a=p from by simpa using h)▸e⟩) f)) m (b.none j) DT r (kk xs d)⟩
theorem Sg.grown(S:Sg E ss O F H)(n:Nat):Sg E (ss++List.replicate n .any) (O++List.replicate n none) F H:=by
 have k:∀(i:Nat)s,(ss++List.replicate n .any)[i]?=some s->s≠.any->ss[i]?=some s/\(O++List.replicate n none)[i]?=O[i]?:=λi s e o=>by
  by_cases h:i<ss.length
  .rw[DO h]at e;rw[DO (by rw[<- S.len];exact h)];exact⟨e,rfl⟩
  .rw[E8 (by omega),nP]at e;split at e
   .exact absurd (BY e).symm o
   .cases e
 refine⟨S.toFin,by simp[S.len],λi s e=>?_,λi j s u l GC hi p g f=>?_⟩
 .cases s with
  |any=>trivial
  |_=>obtain⟨a,b⟩:=k i _ e (by simp);rw[b];exact S.ok i _ a
 .have ns:s≠.any:=by rintro rfl;cases g
  have m:u≠.any:=by rintro rfl;cases f
  obtain⟨a,b⟩:=k i s hi ns;obtain⟨c,d⟩:=k j u p m;rw[b]at g;rw[d]at f;exact S.CN i j s u l GC a c g f
end
section
variable{pre:Pre}{t:TA}{k:PV->Prop}
noncomputable def PZ(E:Ent0):Ent:=⟨E,λ_ _ _ _ _ _ _ _ _ d=>d.elim⟩
theorem Bm{N:List Str}{t:TS}(h:AL pre vs H Q X)(c:∀ss R,pre ss R->ss.length=n)
  (hw:∀ss R,pre ss R->Ws (ss++List.replicate (N.length - n) .any) t (λ_=>∃k,R=.is k/\k .AE) R):t { nx:=λ_ H'=>Q .AE H',rt:=Q } (L2.start N vs) H:=by
 obtain⟨ss,R,F,A,a,S,q⟩:=h;have e:vs.length=n:=by have:=S.len;rw[AD]at this;rw[<- this];exact c ss R a
 unfold L2.start;rw[e];refine(hw ss R a).go (PZ (E3 A F H)) _ _ F H (S.grown _) (λA9 σ' F' H'⟨k,e,b⟩S' _=>?_) λv F' H' f ok=>q v F' H' f ok;subst e;exact q .AE F' H' S'.toFin ⟨.AE,.AE,b⟩
theorem Bn(b:∀ss R,pre ss R->ss.length=n)(h:AL pre vs H Q X):vs.length=n:=by
 obtain⟨ss,R,F,A,a,S,q⟩:=h;have:=S.len;rw[AD]at this;rw[<- this];exact b ss R a
end
end Fz
namespace Lw
open L2
theorem G2:∀{as bs:List Str},as.Nodup->(∀x∈as,x∈bs)->as.length<=bs.length
 | [],_,_,_=>Cg _
 |a::as,bs,nd,h=>by
  obtain⟨h1,h2⟩:=List.nodup_cons.mp nd;have b:=h a Es;have q:=G2 (bs:=bs.erase a) h2 λx hx=>(nX (λe:x=a=>h1 (by rw[<- e];exact hx))).mpr (h x (DS _ hx));have e:=nU b;have p:=nW b;simp only[CH];omega
structure Ent where
 a:Addr
 ns:List Str
 t:Addr
 r:Str
 g:Nat
 ss:List Str
end Lw
namespace Lw
open L2
noncomputable def JC(i g:Nat):Nat:=if i<g then g+1 else g
noncomputable def Po(p g:Nat):Nat:=if p<g then g - 1 else g
noncomputable def Mu(r:Str)(g i:Nat):Bool:=if decide (V.str r=V.str "all")=true then true else if decide (V.str r=V.str "ahead")=true then decide ((g:Int)<=(i:Int))else false
theorem W9{a:List Str}(nd:a.Nodup){g:Nat}{x:Str}(h:a[g]?=some x):a.idxOf x=g:=by
 obtain⟨f,e⟩:=List.getElem?_eq_some_iff.mp h;have hx:x∈a:=Bi h;have b:a.idxOf x<a.length:=List.idxOf_lt_length_iff.mpr hx;have i:a[a.idxOf x]=x:=Hr b;have d:=List.pairwise_iff_getElem.mp nd;rcases Nat.lt_trichotomy (a.idxOf x) g with c|c|c
 .exact absurd (i.trans e.symm) (d _ _ b f c)
 .exact c
 .exact absurd (e.trans i.symm) (d _ _ f b c)
end Lw
namespace L2
section
variable{X:Cx}{ZB:ZHb}{O:St}{H2:Hp}{s2:Shared}{elt iter:Expr}{x z:Str}{px pz tp pos:Pos}{tk:Nat}{scope:Scope}{AN:List Str}{js:List Nat}{te:TE}{J:It}{fp:List Addr}{it:Addr}
 {tn:Nat->Heap->Prop}
end
end L2
namespace Fz
open L2 Lw
variable{E:Ent0}{ss:List Slot}{O:L2.St}{F F' H H':Hp}{js:List Nat}{ta tb te:TE}{nx:List Slot->Prop}{R:Ap}{i:Nat}{wi:TI}{α:Type}{xs:List PV}
section
variable[Xw]
variable{K:ZHa}{k:PV->Prop}
theorem Sg.l0(S:Sg E ss O F H){p:Addr}(hi:ss[i]?=some .AZ)(e:O[i]?=some (some (.ref p)))(s:C5 p H H'):Mv E ss O F H F H':=by
 obtain⟨g,b,fp,_,f⟩:=S.ok i _ hi;rw[e]at b;cases b;refine S.step (AU.refl _) (λa o q=>s.same a o (Di q fp) (S.fh a o q)) (λa o n q=>s.same a o (λz=>?_) q) (λa o q=>.inl q) λj l c d=>?_
 .rw[z]at n;exact n i hi e
 .by_cases z:l=p
  .rw[z];exact s.AZ
  .exact Bf.keep (S.Ez c d) λo q=>s.same l o z q
theorem ZFr(hi:ss[i]?=some .AZ)(h:Wp ss te λx=>∃m,x=.int m/\0<m/\m<10 ^ 18/\∀r:Int,0<=r->r<m->k (.int r)):Wp ss (DK K8 [] E0 (Ah (Au i) (Ah te BE))) k:=⟨λE O F H Q S q=>by
 obtain⟨p,e,_⟩:=S.ok i _ hi;refine⟨_,e,h.go E O F H _ S λv x F1 H1 a r⟨m,f,d,JE,kk⟩=>?_⟩;subst f;cases r.inv;exact⟨p,m,rfl,a.st.Ez hi e,d,JE,λr H2 c b s=>q _ _ F1 H2 (a.trans (a.st.l0 hi e s)) (.int r) (kk r c b)⟩⟩
def KC(K:ZHa)(ns:List Int):Hp->V->Prop:=λF v=>∃a,v=.ref a/\AW K F a (ns.map V.int)
theorem Uj(K:ZHa)(ns:List Int):∀(v:V)(F F':Hp),AU F F'->KC K ns F v->KC K ns F' v:=λv F F' s AG=>by obtain⟨a,e,h⟩:=AG;exact⟨a,e,by
 rcases h with(h|⟨o,h⟩)|h
 .exact .inl (.inl (s _ _ h))
 .exact .inl (.inr ⟨o,s _ _ h⟩)
 .exact .inr h⟩
theorem bz{j:Nat}{ns:List Int}(hi:ss[i]?=some (.raw (KC K ns)))(h:Wp ss te λx=>∃m,x=.int m/\0<=m/\m<=1000/\nx (ss.set j .AZ)):Ws ss (Ei (DK (Pj K) [] E0 (Ah (Au i) (Ah te BE))) (C7 j)) nx R:=⟨λE D O F H S t A=>by
 obtain⟨v,e,⟨a,w,B⟩,st⟩:=S.ok i _ hi;subst w;refine⟨_,e,h.go E O F H _ S λv x F1 H1 c r⟨m,y,o,JE,kk⟩=>?_⟩;subst y;cases r.inv;obtain⟨z,f,Hi,_⟩:=c.st.ok i _ hi;rw[e]at f;cases f;obtain⟨C,ea,HH⟩:=Uj K ns _ F1 H1 c.st.fh Hi;cases ea;refine⟨a,ns,m,rfl,HH,o,JE,λp H2 d s g=>?_⟩;have n:=c.st.grow s;exact t _ _ F1 H2 kk (n.st.setG ⟨p,rfl,c.st.CA d,.inl (c.st.DU d),g⟩ λl e b u _ q k=>by cases e;exact c.st.ID q d k) c.ff⟩
end
section
variable{K:ZHa}
theorem zw{N:List Str}{vs:List V}{Q:VK}{X:XK}{t:TS}(h:OQ K vs H Q X)(hw:∀ns:List Int,ns.length<=63->Ws (.raw (KC K ns)::List.replicate (N.length - 1) .any) t (λ_=>False) (.is λp=>p=.bl true)):t { nx:=λ_ H'=>Q .AE H',rt:=Q } (L2.start N vs) H:=by
 obtain⟨a,ns,rfl,c,d,q⟩:=h;have S:Sg (E3 [] H H) [.raw (KC K ns)] [some (.ref a)] H H:=by
  have nn:∀{p:Prop}(a:Addr),a∈([]:List Addr)->p:=λa h=>absurd h Ak;refine⟨⟨AU.refl _,AU.refl _,λ_ _ _ e=>e,λ_ _ e=>.inl e,λa h=>nn a h,λa h=>nn a h,λa h=>nn a h,λa h=>nn a h,λa h=>nn a h,λa h=>nn a h⟩,rfl,λi s hi=>?_,λi j s u l GC hi g b=>?_⟩
  .cases i with
   |zero=>cases hi;exact⟨_,rfl,⟨a,rfl,c⟩,Uj K ns _⟩
   |succ i=>simp at hi
  .cases i with
   |zero=>cases hi;cases b
   |succ i=>simp at hi
 refine(hw ns d).go (PZ (E3 [] H H)) _ _ H H (S.grown _) (λ_ _ _ _ h=>h.elim) λv F' H' f ok=>?_;obtain⟨p,r,rfl⟩:=ok;cases r.inv;exact q H'
end
section
variable[Xw]
variable{K:ZHa}{k:PV->Prop}
theorem Wi.mono{k a:List PV->Prop}(h:Wi ss wi k)(i:∀xs,k xs->a xs):Wi ss wi a:=⟨λE O F H R S q=>h.go E O F H R S λJ xs F' H' m s kk=>q J xs F' H' m s (i xs kk)⟩
theorem Eg{tt:TT}{k:List PV->Prop}(c:α->PV)(f:α->Bool)(g:α->PV)
  (h:Wi ss wi λxs=>∃ns:List α,xs=ns.map c/\ns.length<=100000/\(∀x∈ns,Wt (CM js ss++[.is (c x)]) tt λb=>b=f x)/\(∀x∈ns,f x=true->Wp (CM js ss++[.is (c x)]) te λp=>p=g x)/\k ((ns.filter f).map g))
  (inj:∀x y,c x=c y->x=y) (nd:js.Nodup:=by decide) (np:OS js ss=true:=by rfl):Wn ss (JY wi js tt te) k:=by
 by_cases hα:Nonempty α
 .obtain⟨x0⟩:=hα;have inv:∀p:PV,∃x:α,∀y,c y=p->y=x:=λp=>by
   by_cases q:∃y,c y=p
   .obtain⟨y,a⟩:=q;exact⟨y,λz i=>inj _ _ (i.trans a.symm)⟩
   .exact⟨x0,λy a=>absurd ⟨y,a⟩ q⟩
  let d:PV->α:=λp=>Classical.choose (inv p)
  have hd:∀x,d (c x)=x:=λx=>(nD (inv (c x)) x rfl).symm;refine iA (λp=>f (d p)) (λp=>g (d p)) (h.mono λxs⟨ns,e,i,h1,h2,kk⟩=>?_) nd np;subst e;refine⟨by rw[AD];exact i,λx hx=>?_,λx hx j=>?_,?_⟩
  .obtain⟨y,a,rfl⟩:=List.mem_map.mp hx;rw[hd];exact h1 y a
  .obtain⟨y,a,rfl⟩:=List.mem_map.mp hx;rw[hd]at j ⊢;exact h2 y a j
  .have e:((ns.map c).filter λp=>f (d p)).map (λp=>g (d p))=(ns.filter f).map g:=by
    rw[List.filter_map,Bu]
    congr 1
    .funext x;show g (d (c x))=g x;rw[hd]
    .congr 1;funext x;show f (d (c x))=f x;rw[hd]
   rw[e];exact kk
 .refine iA (λ_=>true) (λp=>p) (h.mono λxs⟨ns,e,i,h1,h2,kk⟩=>?_) nd np;have l:ns=[]:=by
   cases ns with
   |nil=>rfl
   |cons x r=>exact absurd ⟨x⟩ hα
  subst l;subst e;exact⟨by simp,λx hx=>absurd hx (by simp),λx hx=>absurd hx (by simp),kk⟩
theorem str_inj:∀x y:Str,PV.str x=PV.str y->x=y:=λ_ _ e=>by injection e
theorem VA(h:Wp ss ta λp=>∃x,p=.str x/\Wq ss tb λ_ ys=>∃ns:List Str,ys=ns.map PV.str/\k (.bl (decide (x∈ns)))):Wp ss (BZ (J7 K false) ta tb) k:=eJ h
theorem T6(h:Wp ss ta λp=>∃x,p=.str x/\Wq ss tb λ_ ys=>∃ns:List Str,ys=ns.map PV.str/\k (.bl (!decide (x∈ns)))):Wp ss (BZ (J7 K true) ta tb) k:=eJ h
theorem mE(h:Wq ss ta λtp xs=>∃ns:List Str,xs=ns.map PV.str/\Wq ss tb λCQ ys=>CQ=tp/\∃a:List Str,ys=a.map PV.str/\k (.bl (decide (ns=a)))):Wp ss (BZ (OA K false) ta tb) k:=iP h
theorem kh(h:Wq ss ta λtp xs=>∃ns:List Str,xs=ns.map PV.str/\Wq ss tb λCQ ys=>CQ=tp/\∃a:List Str,ys=a.map PV.str/\k (.bl (!decide (ns=a)))):Wp ss (BZ (OA K true) ta tb) k:=iP h
theorem RX{β:Type}(c:α->β)(xs:List α)(lo hi:Option Int):El (xs.map c) lo hi=(El xs lo hi).map c:=by
 unfold El;rw[AD,Qp,Km]
theorem oV(xs:List α)(g:Nat):El xs none (some (g:Int))=xs.take g:=by
 unfold El;rw[HT.ZX,HT.VD,Qk,Qt];rcases bP g xs.length with h|h
 .rw[MV h]
 .rw[V2 h,FR,Jh h]
theorem lY(xs:List α)(g:Nat):El xs (some (g:Int)) none=xs.drop g:=by
 unfold El;rw[HT.ZX,HT.VD];rcases bP g xs.length with h|h
 .rw[MV h,Jh (by rw[Uw];omega)]
 .rw[V2 h,List.drop_length,List.drop_of_length_le h];simp
variable{ys:List PV}
theorem YK(h:Wq ss ta λtp xs=>tp=false/\∃ns:List Str,xs=ns.map PV.str/\Wp ss tb λp=>∃x,p=.str x/\x∈ns/\k (.int (ns.idxOf x:Nat))):Wp ss (Fy K "list" (jm K) ta (Ah tb BE)) k:=⟨λE O F H Q S q=>
 h.go E O F H _ S λv tp xs F1 H1 b sv⟨g,ns,e,h2⟩=>by
  subst e;subst g;obtain⟨l,vs,rfl,f,r⟩:=sv.seq b.st;refine⟨.inl ⟨rfl,_,AW.of f⟩,h2.go E O F1 H1 _ b.st λm p2 F2 H2 a c⟨x,i,hx,kk⟩=>?_⟩;subst i;cases c.inv;obtain⟨n,Bs,j,DT,d⟩:=(sv.mv a).seq a.st;cases j;rw[d.strs]at DT;exact⟨l,ns,x,rfl,rfl,AW.of DT,hx,q _ _ F2 H2 (b.trans a) (.int _) kk⟩⟩
noncomputable def Kt(xs:List PV):List PV:=(List.range xs.length).map λi:Nat=>.tup [.int (i:Int),xs.getD i .AE]
theorem T1(xs:List PV):(Kt xs).length=xs.length:=by simp[Kt]
theorem mY{x:PV}(h:xs[i]?=some x):(Kt xs)[i]?=some (.tup [.int (i:Int),x]):=by
 have hi:i<xs.length:=(List.getElem?_eq_some_iff.mp h).1;unfold Kt;rw[Aj,Kk hi];show some (PV.tup [PV.int (i:Int),xs.getD i PV.AE])=_;rw[DN,h];rfl
theorem i8{p:PV}(h:(Kt xs)[i]?=some p):∃x,xs[i]?=some x/\p=.tup [.int (i:Int),x]:=by
 have hi:i<xs.length:=by have:=(List.getElem?_eq_some_iff.mp h).1;rwa [T1]at this
 have e:=AX hi;refine⟨xs[i],e,?_⟩;rw[mY e]at h;exact(BY h).symm
end
theorem HG{c A B:Prop}[Decidable c](h:c)(a:A):if c then A else B:=by rw[pT h];exact a
end Fz
namespace L2
theorem ZC4{X:Cx}{tg:Expr}{a b:Expr}{ta:TA}{p pos:Pos}(u:Gl X "range")(o:X.mg "range"=none)(d:QA X [a,b] ta)(n:starEach [a,b] X.env=[(false,eval a X.env),(false,eval b X.env)]:=by rfl)(DD:starEach [b] X.env=[(false,eval b X.env)]:=by rfl):QI X tg (.Call (.Name "range" p) [a,b] [] pos) (YO ta):=⟨by
 have d:=d.h;intro ZB s O H R I h;refine Call_ (Li I u o boot_range (V4 (AO (d pos ZB s O H _ I h) λus v⟨vs,H1,I1,f,c⟩=>?_) (by rw[n,DD]) (by rw[DD];rfl)));obtain⟨i,j,e,⟨c,m,l,k⟩,q⟩:=c;subst e;cases f with
 |cons r rr=>
  cases rr with
  |cons g rr=>
   cases rr;obtain⟨t,rfl⟩:=r;obtain⟨t',rfl⟩:=g;exact call_range_2 (eL I1 c m l k q)⟩
end L2
namespace Fz
open L2 Lw
variable{ss:List Slot}{O:L2.St}
section
variable[Xw]
variable{E:Ent0}{F H F' H':Hp}{K:ZHa}{js:List Nat}{ta tb tc te:TE}{k:PV->Prop}{nx:List Slot->Prop}{R:Ap}{xs ys:List PV}
noncomputable def MC(i:Int)(n:Nat):List PV:=(List.range n).map λj:Nat=>PV.int (i+(j:Int))
theorem TL(i:Int)(n:Nat):(MC i n).length=n:=by simp[MC]
theorem uK{i:Int}{n j:Nat}{p:PV}(h:(MC i n)[j]?=some p):j<n/\p=.int (i+(j:Int)):=by
 have a:j<n:=by have:=(List.getElem?_eq_some_iff.mp h).1;rwa [TL]at this
 unfold MC at h;rw[Aj,Kk a]at h;exact⟨a,(BY h).symm⟩
theorem ZBs{k:List PV->Prop}(h:Wp ss ta λp=>∃i:Int,p=.int i/\Wp ss tb λp=>∃j:Int,p=.int j/\(i<=1000000/\-1000000<=i/\j<=1000000/\-1000000<=j)/\k (MC i (j - i).toNat)):Wi ss (YO (Ah ta (Ah tb BE))) k:=⟨λE O F H R S q=>
 h.go E O F H _ S λv p F1 H1 b r AG=>by
  obtain⟨i,e,h2⟩:=AG;subst e;cases r.inv;exact h2.go E O F1 H1 _ b.st λg p2 F2 H2 d c CF=>by
   obtain⟨j,f,l,kk⟩:=CF;subst f;cases c.inv;refine⟨i,j,rfl,by omega,q _ (MC i (j - i).toNat) F2 H2 (b.trans d) ⟨λss O F H n s S a=>?_,λss O F H s S=>?_,λss O F H n x H' s S a y=>?_⟩ kk⟩
   .rw[TL]at a;exact a
   .show _<=_;rw[TL];exact As _
   .obtain⟨e,hx⟩:=y;subst e;subst hx;rw[TL]at a;refine⟨.int (i+(n:Int)),F,?_,.refl S,.int _⟩;unfold MC;rw[Aj,Kk a];rfl⟩
theorem fu:∀(ps:List PV){vs:List V},GF ss O F H vs (ps.map Slot.is)->AR F vs ps
 | [],_,h=>by cases h;exact .nil
 |p::ps,_,h=>by
  rw[Ae]at h;cases h with
  |cons a t=>exact .cons a (fu ps t)
theorem oR:∀{ps:List PV}{vs:List V},AR F vs ps->GF ss O F H vs (ps.map Slot.is):=by
 intro ps vs r
 induction ps generalizing vs with
 |nil=>cases r.DI;exact .nil
 |cons p ps c=>obtain⟨v,ws,rfl,a,b⟩:=r.inv;exact .cons (s:=.is _) a (c b)
theorem yQ{pre:Pre}{t:TA}{i:Nat}{ns:List Int}(hi:ss[i]?=some (.raw (KC K ns)))(h:Wp ss te λx=>∃m,x=.int m/\0<=m/\m<=1000/\Wa ss t λl=>∃(ps:List PV)(C:PV->Prop),l=ps.map Slot.is/\pre (.AZ::l) (.is C)/\∀p,C p->k p):
  Wp ss (DK (AL pre) [] E0 (Ah (DK (Pj K) [] E0 (Ah (Au i) (Ah te BE))) t)) k:=⟨λE O F H Q S q=>by
 obtain⟨v,e,⟨a,ev,hq⟩,st⟩:=S.ok i _ hi;subst ev;refine⟨_,e,h.go E O F H _ S λv x F1 H1 c r⟨m,em,m0,JE,hw⟩=>?_⟩;subst em;cases r.inv;obtain⟨v',e',Hi,_⟩:=c.st.ok i _ hi;rw[e]at e';cases e';obtain⟨a',ea,HH⟩:=Uj K ns _ F1 H1 c.st.fh Hi;cases ea;refine⟨a,ns,m,rfl,HH,m0,JE,λp H2 G s U=>?_⟩;have W:=c.st.grow s;refine hw.go E O F1 H2 _ W.st λvs l F3 H3 A av⟨ps,C,el,K0,kk⟩=>?_;show AL pre ((V.ref p::vs)++[]) H3 Q E0;rw[CB];have J:=c.trans (W.trans A);have L:∀(j:Nat)s,ss[j]?=some s->¬ BJ s O[j]? p:=λj s b=>c.st.ID b G;have np:C6 ss O p:=λj b=>L j _ b;have N:Bf H3 p:=Bf.keep U λo P=>A.hh p o np P;have sR:F3 p=none:=by
  cases z:F3 p with
  |none=>rfl
  |some o=>
   rcases A.nn p o z with w|w
   .rw[c.st.CA G]at w;cases w
   .obtain⟨_,_,T,_⟩:=U;rw[w]at T;cases T
 have S':Sg E (ss++[.AZ]) (O++[some (.ref p)]) F3 H3:=by
  have S3:=A.st;have M:∀(j:Nat)s,(ss++[Slot.AZ])[j]?=some s->(ss[j]?=some s/\(O++[some (V.ref p)])[j]?=O[j]?)∨(s=.AZ/\(O++[some (V.ref p)])[j]?=some (some (.ref p))/\j=ss.length):=λj s b=>by
   by_cases Ag:j<ss.length
   .rw[DO Ag]at b;rw[DO (by rw[<- S3.len];exact Ag)];exact .inl ⟨b,rfl⟩
   .rw[E8 (by omega)]at b;have Qx:j - ss.length=0:=by
     have:=(List.getElem?_eq_some_iff.mp b).1
     simpa using this
    rw[Qx]at b;refine .inr ⟨by simpa using b.symm,?_,by omega⟩
    rw[E8 (by rw[<- S3.len];omega),<- S3.len,Qx];rfl
  refine⟨S3.toFin,by simp[S3.len],λj s b=>?_,λj D s u l X b LY y g=>?_⟩
  .rcases M j s b with⟨I,d⟩|⟨rfl,d,_⟩
   .rw[d];exact S3.ok j s I
   .rw[d];exact⟨p,rfl,sR,.inl (c.st.DU G),N⟩
  .rcases M j s b with⟨I,d⟩|⟨rfl,d,a3⟩
   .rcases M D u LY with⟨R,B⟩|⟨rfl,B,_⟩
    .rw[d]at y;rw[B]at g;exact S3.CN j D s u l X I R y g
    .rw[d]at y;rw[B]at g;cases g;exact L j s I y
   .rcases M D u LY with⟨R,B⟩|⟨rfl,B,b3⟩
    .rw[d]at y;cases y;rw[B]at g;exact L D u R g
    .exact absurd (a3.trans b3.symm) X
 have x9:(ss++[Slot.AZ])[ss.length]?=some .AZ:=by rw[E8 (As _)];simp
 have zG:(O++[some (V.ref p)])[ss.length]?=some (some (.ref p)):=by rw[A.st.len,E8 (As _)];simp
 have xF:GF (ss++[Slot.AZ]) (O++[some (V.ref p)]) F3 H3 vs l:=by
  subst el;exact oR (fu ps av)
 refine⟨.AZ::l,.is C,F3,[p],K0,S'.X7 x9 zG xF,λv F' H' f⟨pv,r,kp⟩=>?_⟩;have Y:∀a,a≠p->a∉[p]:=λa h z=>h (by simpa using z)
 have σ:H p=none:=c.none G;have mv:Mv E ss O F H F' H':=by
  refine S.step (J.ff.trans f.f0) f.fh (λa o n e=>f.keep a o ⟨Y a (Di e σ),Ak⟩ (J.hh a o n e)) (λa o e=>?_) λj l b Z=>?_
  .rcases f.fresh a o e with w|w
   .exact J.nn a o w
   .exact .inr (J.none w)
  .exact Bf.keep (A.st.Ez b Z) λo P=>f.keep l o ⟨Y l (by rintro rfl;exact L j _ b Z),Ak⟩ P
 exact q v pv F' H' mv r (kk pv kp)⟩
end
end Fz
namespace L2
section
variable{X:Cx}{ZB:ZHb}{O:St}{H:Hp}{s:Shared}
theorem mD:Gn X "list.pop" WN:=ZER
end
end L2
namespace Fz
open L2 Lw
variable{E:Ent0}{ss:List Slot}{O:L2.St}{F F' F0 F1 H H' H0:Hp}{js m p:List Nat}{ta tb tc te ti:TE}{nx:List Slot->Prop}{R:Ap}{Sz ps xs ys:List PV}{n u x y:OV}{i j:Nat}{Bs vs ws:List V}{A:Around}{A5 Bq:List Value}{CQ tp:Bool}{a b:Addr}{q:PV}{v:V}{tr:TA}{us:List OV}{pre:Pre}
section
variable[Xw]
variable{K:ZHa}{k:PV->Prop}
theorem kH{n:Nat}(h:j<n):G4 n (j:Int)=some j:=by
 unfold G4;simp;omega
theorem AR.set:∀{xs:List PV}(j:Nat){v:V}{p:PV},AR F vs xs->Rep F v p->AR F (vs.set j v) (xs.set j p):=by
 intro xs
 induction vs generalizing xs with
 |nil=>intro j v p h r;cases h;exact .nil
 |cons a vs c=>
  intro j v p h r;cases h with
  |cons b t=>
   cases j with
   |zero=>exact .cons r t
   |succ j=>exact .cons b (c j t r)
end
mutual
def CZ:PV->PV->Bool
 | .lst xs,.lst ys=>D8 xs ys
 | .tup xs,.tup ys=>D8 xs ys
 | .tup xs,.con _ ys=>D8 xs ys
 | .con _ xs,.tup ys=>D8 xs ys
 | .con _ xs,.con _ ys=>D8 xs ys
 | .AE,.AE=>true
 | .bl a,.bl b=>a == b
 | .bl a,.int b=>(if a then 1 else 0) == b
 | .int a,.bl b=>a == (if b then 1 else 0)
 | .int a,.int b=>a == b
 | .str a,.str b=>a == b
 |_,_=>false
def D8:List PV->List PV->Bool
 | [],[]=>true
 |x::r,y::t=>CZ x y && D8 r t
 |_,_=>false
end
theorem US(x y:PV)(r t:List PV):D8 (x::r) (y::t)=(CZ x y && D8 r t):=by rw[D8]
theorem XY:∀(xs ys:List PV),xs.length≠ys.length->D8 xs ys=false
 | [],[],h=>absurd rfl h
 | [],_::_,_=>by rw[D8];all_goals simp
 |_::_,[],_=>by rw[D8];all_goals simp
 |x::r,y::t,h=>by rw[US,XY r t (by simpa using h),bC]
theorem VZ:∀(xs ys:List PV),xs.length=ys.length->D8 xs ys=(List.range xs.length).all λj=>CZ (xs.getD j .AE) (ys.getD j .AE)
 | [],[],_=>by rw[D8];rfl
 |x::r,y::t,h=>by
  rw[US,VZ r t (by simpa using h),CH,bK,Qj,nI]
  rfl
def dat(K:ZHa):Nat->PV->Prop
 |_,.AE=>True
 |_,.bl _=>True
 |_,.int _=>True
 |_,.str _=>True
 |d+1,.lst xs=>∀x∈xs,dat K d x
 |d+1,.tup xs=>∀x∈xs,dat K d x
 |d+1,.con a xs=>(∀x∈xs,dat K d x)/\xs.all flat=true/\∀H,B7 K H a (xs.map Fz.enc)
 |_,_=>False
inductive Gb (K:ZHa) (H:Hp):V->PV->Bool->Addr->List V->List PV->Prop where
 |lst {a:Addr}{vs:List V}{xs:List PV}:AW K H a vs->AR H vs xs->Gb K H (.ref a) (.lst xs) false a vs xs
 |tup {a:Addr}{vs:List V}{xs:List PV}:B7 K H a vs->AR H vs xs->Gb K H (.ref a) (.tup xs) true a vs xs
 |con {a:Addr}{vs:List V}{xs:List PV}:B7 K H a vs->AR H vs xs->Gb K H (.ref a) (.con a xs) true a vs xs
theorem GP{K:ZHa}:∀{d:Nat}{x:V}{p:PV},dat K d p->Rep H x p->(flat p=true/\x=Fz.enc p)∨∃d' tp a vs xs,d=d'+1/\Gb K H x p tp a vs xs/\∀y∈xs,dat K d' y:=by
 intro d x p h r;cases r with
 |AE=>exact .inl ⟨rfl,rfl⟩
 |bl b=>exact .inl ⟨rfl,rfl⟩
 |int b=>exact .inl ⟨rfl,rfl⟩
 |str b=>exact .inl ⟨rfl,rfl⟩
 |lst e r=>cases d with
  |zero=>exact h.elim
  |succ d=>exact .inr ⟨d,_,_,_,_,rfl,.lst (AW.of e) r,h⟩
 |tup e r=>cases d with
  |zero=>exact h.elim
  |succ d=>exact .inr ⟨d,_,_,_,_,rfl,.tup (B7.of e) r,h⟩
 |con=>cases d with
  |zero=>exact h.elim
  |succ d=>obtain⟨h1,h2,c⟩:=h;exact .inr ⟨d,_,_,_,_,rfl,.con (c H) (mC h2),h1⟩
 |BD _ _ _=>cases d <;> exact h.elim
 |obj _ _ _ _=>cases d <;> exact h.elim
 |WW _=>cases d <;> exact h.elim
 |exc _ _ _ _=>cases d <;> exact h.elim
section
variable{X:Cx}{ZB:ZHb}{s:Shared}
theorem xP(d:Vals vs A5)(c:Vals ws Bq)(f:AR H vs xs)(e:AR H ws ys)
  (h:∀(x y:V)(p q:PV)(u v:Value),p∈xs->q∈ys->Rep H x p->Rep H y q->RelV x u->RelV y v->SeqAt.EqAt A s u v (CZ p q)) :
  ∀j(h1:j<A5.toArray.size)(h2:j<Bq.toArray.size),SeqAt.EqAt A s A5.toArray[j] Bq.toArray[j] ((λj=>CZ (xs.getD j .AE) (ys.getD j .AE)) j):=λj h1 h2=>by
 have l1:=d.length;have l2:=c.length;have D:=f.length;have C:=e.length;have B:j<A5.length:=by simpa using h1
 have z:j<Bq.length:=by simpa using h2
 have b:j<xs.length:=by omega
 have a:j<ys.length:=by omega
 obtain⟨x,hx,m⟩:=f.get (i:=j) (p:=xs[j]) (AX b);obtain⟨y,r,l⟩:=e.get (i:=j) (p:=ys[j]) (AX a);obtain⟨u,k,o⟩:=d.get hx;obtain⟨v,g,n⟩:=c.get r;rw[AX B]at k;rw[AX z]at g;have w:A5[j]=u:=BY k;have t:Bq[j]=v:=BY g;have q:=h x y _ _ u v (Hs b) (Hs a) m l o n;rw[<- w,<- t]at q;show SeqAt.EqAt A s _ _ (CZ (xs.getD j .AE) (ys.getD j .AE));rw[DN,AX b,DN,AX a]
 simpa using q
theorem Td{p:PV}{x:V}(h:Gb X.K H x p tp a vs xs)(f:flat q=true):CZ p q=false/\CZ q p=false:=by
 cases h <;> cases q <;> first|exact Bool.noConfusion f|exact⟨rfl,rfl⟩
theorem WR{p:PV}{x y:V}(h:Gb X.K H x p tp a vs xs)(h2:Gb X.K H y q CQ b ws ys):CZ p q=(if tp=CQ then D8 xs ys else false):=by
 cases h <;> cases h2 <;> rfl
theorem Sm{p:PV}(h:flat p=true)(h2:flat q=true):CZ p q=E6 (Fz.enc p) (Fz.enc q):=by
 cases p <;> cases q <;> first|exact Bool.noConfusion h|exact Bool.noConfusion h2|rfl
theorem ZBA{p:PV}{u v:Value}(h:flat p=true)(h2:flat q=true)(b:RelV (Fz.enc p) u)(a:RelV (Fz.enc q) v):SeqAt.RcAt A s u v (CZ p q)/\SeqAt.RcNeAt A s u v (!CZ p q):=by
 cases p <;> first|exact Bool.noConfusion h|skip
 all_goals cases q <;> first|exact Bool.noConfusion h2|skip
 .cases b;cases a;exact⟨.none_none,.none_none⟩
 .cases b;cases a;exact⟨.none_bool _,.none_bool _⟩
 .cases b;obtain⟨t,rfl⟩:=a;exact⟨.none_int _ _,.none_int _ _⟩
 .cases b;obtain⟨t,rfl⟩:=a;exact⟨.none_str _ _,.none_str _ _⟩
 .cases b;cases a;exact⟨.bool_none _,.bool_none _⟩
 .cases b;cases a;exact⟨.bool_bool _ _,.bool_bool _ _⟩
 .cases b;obtain⟨t,rfl⟩:=a;exact⟨.bool_int _ _ _,.bool_int _ _ _⟩
 .cases b;obtain⟨t,rfl⟩:=a;exact⟨.bool_str _ _ _,.bool_str _ _ _⟩
 .obtain⟨t,rfl⟩:=b;cases a;exact⟨.int_none _ _,.int_none _ _⟩
 .obtain⟨t,rfl⟩:=b;cases a;exact⟨.int_bool _ _ _,.int_bool _ _ _⟩
 .obtain⟨t,rfl⟩:=b;obtain⟨t2,rfl⟩:=a;exact⟨.int_int _ _ _ _,.int_int _ _ _ _⟩
 .obtain⟨t,rfl⟩:=b;obtain⟨t2,rfl⟩:=a;exact⟨.int_str _ _ _ _,.int_str _ _ _ _⟩
 .obtain⟨t,rfl⟩:=b;cases a;exact⟨.str_none _ _,.str_none _ _⟩
 .obtain⟨t,rfl⟩:=b;cases a;exact⟨.str_bool _ _ _,.str_bool _ _ _⟩
 .obtain⟨t,rfl⟩:=b;obtain⟨t2,rfl⟩:=a;exact⟨.str_int _ _ _ _,.str_int _ _ _ _⟩
 .obtain⟨t,rfl⟩:=b;obtain⟨t2,rfl⟩:=a;exact⟨.str_str _ _ _ _,.str_str _ _ _ _⟩
def Ud(h:Heap)(tp:Bool)(a:Addr)(A5:Array Value):Prop:=if tp then IsTup h a A5 else h.IsList a A5
theorem Gb.Gw(I:Inv X ZB O H s){x:V}{p:PV}(h:Gb X.K H x p tp a vs xs):∃A5:List Value,x=.ref a/\Vals vs A5/\Ud s.heap tp a A5.toArray/\AR H vs xs:=by
 cases h with
 |lst h r=>obtain⟨A5,b,p1,_⟩:=I.list h;exact⟨A5,rfl,b,p1.isList,r⟩
 |tup h r=>obtain⟨A5,b,p1,_⟩:=I.tuple h;exact⟨A5,rfl,b,p1,r⟩
 |con h r=>obtain⟨A5,b,p1,_⟩:=I.tuple h;exact⟨A5,rfl,b,p1,r⟩
theorem Uh{A5:Array Value}{v:Value}(h:Ud s.heap tp a A5)(f:flat q=true)(c:RelV (Fz.enc q) v)(b:A.units<cLine):
  (SeqAt.EqAt A s (.ref a) v false/\SeqAt.EqAt A s v (.ref a) false)/\(SeqAt.RcAt A s (.ref a) v false/\SeqAt.RcAt A s v (.ref a) false)/\(SeqAt.RcNeAt A s (.ref a) v true/\SeqAt.RcNeAt A s v (.ref a) true):=by
 cases tp with
 |false=>
  have h':s.heap.IsList a A5:=h;cases q <;> first|exact Bool.noConfusion f|skip
  .cases c;exact⟨⟨.list_none h' b,.none_list h' b⟩,⟨.list_none h' b,.none_list h' b⟩,⟨.list_none h' b,.none_list h' b⟩⟩
  .cases c;exact⟨⟨.list_bool _ h' b,.bool_list _ h' b⟩,⟨.list_bool _ h' b,.bool_list _ h' b⟩,⟨.list_bool _ h' b,.bool_list _ h' b⟩⟩
  .obtain⟨t,rfl⟩:=c;exact⟨⟨.list_int _ _ h' b,.int_list _ _ h' b⟩,⟨.list_int _ _ h' b,.int_list _ _ h' b⟩,⟨.list_int _ _ h' b,.int_list _ _ h' b⟩⟩
  .obtain⟨t,rfl⟩:=c;exact⟨⟨.list_str _ _ h' b,.str_list _ _ h' b⟩,⟨.list_str _ _ h' b,.str_list _ _ h' b⟩,⟨.list_str _ _ h' b,.str_list _ _ h' b⟩⟩
 |true=>
  have h':IsTup s.heap a A5:=h;cases q <;> first|exact Bool.noConfusion f|skip
  .cases c;exact⟨⟨.tuple_none h' b,.none_tuple h' b⟩,⟨.tuple_none h' b,.none_tuple h' b⟩,⟨.tuple_none h' b,.none_tuple h' b⟩⟩
  .cases c;exact⟨⟨.tuple_bool _ h' b,.bool_tuple _ h' b⟩,⟨.tuple_bool _ h' b,.bool_tuple _ h' b⟩,⟨.tuple_bool _ h' b,.bool_tuple _ h' b⟩⟩
  .obtain⟨t,rfl⟩:=c;exact⟨⟨.tuple_int _ _ h' b,.int_tuple _ _ h' b⟩,⟨.tuple_int _ _ h' b,.int_tuple _ _ h' b⟩,⟨.tuple_int _ _ h' b,.int_tuple _ _ h' b⟩⟩
  .obtain⟨t,rfl⟩:=c;exact⟨⟨.tuple_str _ _ h' b,.str_tuple _ _ h' b⟩,⟨.tuple_str _ _ h' b,.str_tuple _ _ h' b⟩,⟨.tuple_str _ _ h' b,.str_tuple _ _ h' b⟩⟩
theorem Gb.inj(I:Inv X ZB O H s){x y:V}{p q:PV}{tp CQ:Bool}{a:Addr}{vs ws:List V}{xs ys:List PV}(h:Gb X.K H x p tp a vs xs)(h2:Gb X.K H y q CQ a ws ys):tp=CQ/\vs=ws:=by
 have b:∀{vs ws:List V},AW X.K H a vs->B7 X.K H a ws->False:=λ{vs ws}h1 h2=>by
  obtain⟨A5,_,p1,_⟩:=I.list h1;obtain⟨Bq,_,p2,_⟩:=I.tuple h2;obtain⟨o,n,e,c,_⟩:=p1;obtain⟨g,d,f,_⟩:=p2;rw[e]at d;cases d;rw[c]at f;exact absurd f (by decide)
 cases h with
 |lst h r=>cases h2 with
  |lst h2 _=>exact⟨rfl,I.dw h h2⟩
  |tup h2 _=>exact(b h h2).elim
  |con h2 _=>exact(b h h2).elim
 |tup h r=>cases h2 with
  |lst h2 _=>exact(b h2 h).elim
  |tup h2 _=>exact⟨rfl,I.Q6 h h2⟩
  |con h2 _=>exact⟨rfl,I.Q6 h h2⟩
 |con h r=>cases h2 with
  |lst h2 _=>exact(b h2 h).elim
  |tup h2 _=>exact⟨rfl,I.Q6 h h2⟩
  |con h2 _=>exact⟨rfl,I.Q6 h h2⟩
theorem dX{p:PV}(h:flat p=true):E6 (Fz.enc p) (Fz.enc p)=true:=by cases p <;> first|exact Bool.noConfusion h|exact rB _|rfl
theorem vC(i:∀(x:V)(p q:PV),Rep H x p->Rep H x q->dat X.K d p->dat X.K d q->CZ p q=true)(g:AR H vs xs)(c:AR H vs ys)(h1:∀x∈xs,dat X.K d x)(h2:∀y∈ys,dat X.K d y):D8 xs ys=true:=by
 induction xs generalizing vs ys with
 |nil=>
  cases g.DI;cases ys with
  |nil=>rfl
  |cons y t=>obtain⟨v,ws,e,_⟩:=c.inv;cases e
 |cons x xs f=>
  obtain⟨v,ws,rfl,a,b⟩:=g.inv;cases ys with
  |nil=>have e:=c.DI;cases e
  |cons y t=>
   obtain⟨l,h,e,k,j⟩:=c.inv;cases e;rw[US,i _ _ _ a k (h1 _ Es) (h2 _ Es),f b j (λx hx=>h1 x (DS _ hx)) (λx hx=>h2 x (DS _ hx))];rfl
theorem yY(I:Inv X ZB O H s):∀(d:Nat)(x:V)(p q:PV),Rep H x p->Rep H x q->dat X.K d p->dat X.K d q->CZ p q=true:=λd=>by
 induction d with
 |zero=>
  intro x p q l h h1 h2;rcases GP h1 l with⟨j,k⟩|⟨d',_,_,_,_,e,_⟩
  .rcases GP h2 h with⟨c,g⟩|⟨d',_,_,_,_,e,_⟩
   .rw[Sm j c,<- k,g];exact dX c
   .cases e
  .cases e
 |succ d t=>
  intro x p q l h h1 h2;rcases GP h1 l with⟨j,k⟩|⟨y,tp,a,vs,xs,e,i,k1⟩
  .rcases GP h2 h with⟨c,g⟩|⟨w,CQ,b,ws,ys,e,f,m⟩
   .rw[Sm j c,<- k,g];exact dX c
   .obtain⟨_,ex,_⟩:=f.Gw I;subst ex;cases p <;> first|(cases j;done)|(cases k;done)
  .cases e;rcases GP h2 h with⟨c,g⟩|⟨w,CQ,b,ws,ys,e,f,m⟩
   .obtain⟨_,ex,_⟩:=i.Gw I;subst ex;cases q <;> first|(cases c;done)|(cases g;done)
   .cases e;obtain⟨_,ex,_,_,r⟩:=i.Gw I;obtain⟨_,n,_,_,o⟩:=f.Gw I;rw[ex]at n;cases n;obtain⟨v,u⟩:=i.inj I f;subst u;rw[WR i f,pT v];exact vC t r o k1 m
theorem qh(b:Vals vs A5)(a:Vals ws Bq)(d:AR H vs xs)(c:AR H ws ys):A5.toArray.size=xs.length/\Bq.toArray.size=ys.length:=by
 have l1:=b.length;have l2:=a.length;have f:=d.length;have e:=c.length;simp only[Cq];omega
theorem cY(h1:Ud s.heap tp a A5.toArray)(h2:Ud s.heap CQ b Bq.toArray)(m:Vals vs A5)(l:Vals ws Bq)(o:AR H vs xs)(n:AR H ws ys)(c:A.units<cLine)
  (h:∀(x y:V)(p q:PV)(u v:Value),p∈xs->q∈ys->Rep H x p->Rep H y q->RelV x u->RelV y v->SeqAt.EqAt A.in1 s u v (CZ p q)) :
  SeqAt.RcAt A s (.ref a) (.ref b) (if tp=CQ then D8 xs ys else false)/\SeqAt.RcNeAt A s (.ref a) (.ref b) (!(if tp=CQ then D8 xs ys else false)):=by
 obtain⟨i,k⟩:=qh m l o n;have it:=xP (A:=A.in1) m l o n h;cases tp with
 |false=>cases CQ with
  |false=>
   rw[pT rfl];have g:s.heap.IsList a A5.toArray:=h1;have f:s.heap.IsList b Bq.toArray:=h2
   by_cases d:xs.length=ys.length
   .rw[VZ xs ys d,<- i];exact⟨.lists g f (by omega) c it,.lists g f (by omega) c it⟩
   .rw[XY xs ys d];have t:(A5.toArray.size != Bq.toArray.size)=true:=by simp only[bne_iff_ne,ne_eq];omega
    exact⟨.lists_lengths g f t c,.lists_lengths g f t c⟩
  |true=>rw[pL (by decide)];exact⟨.list_tuple h1 h2 c,.list_tuple h1 h2 c⟩
 |true=>cases CQ with
  |false=>rw[pL (by decide)];exact⟨.tuple_list h1 h2 c,.tuple_list h1 h2 c⟩
  |true=>
   rw[pT rfl];have g:IsTup s.heap a A5.toArray:=h1;have f:IsTup s.heap b Bq.toArray:=h2;have e:((List.range (min A5.toArray.size Bq.toArray.size)).all (λj=>CZ (xs.getD j .AE) (ys.getD j .AE)) && A5.toArray.size == Bq.toArray.size)=D8 xs ys:=by
    by_cases d:xs.length=ys.length
    .rw[VZ xs ys d,i,k,<- d,nq,rB,nB]
    .rw[XY xs ys d,i,k,show(xs.length == ys.length)=false from by simpa using d,bC]
   have k1:=SeqAt.RcAt.tuples (A:=A) (e:=λj=>CZ (xs.getD j .AE) (ys.getD j .AE)) g f c it;have r:=SeqAt.RcNeAt.tuples (A:=A) (e:=λj=>CZ (xs.getD j .AE) (ys.getD j .AE)) g f c it;rw[e]at k1 r;exact⟨k1,r⟩
theorem vD(I:Inv X ZB O H s):∀(d:Nat)(x y:V)(p q:PV),Rep H x p->Rep H y q->dat X.K d p->dat X.K d q->∀(A:Around)(u v:Value),RelV x u->RelV y v->A.units+d<cLine->SeqAt.EqAt A s u v (CZ p q):=λd=>by
 induction d with
 |zero=>
  intro x y p q k h h1 h2 A u v f c J;rcases GP h1 k with⟨i,o⟩|⟨_,_,_,_,_,e,_⟩
  .rcases GP h2 h with⟨g,m⟩|⟨_,_,_,_,_,e,_⟩
   .subst o;subst m;rw[Sm i g];exact Sl f c (RK i) (RK g)
   .cases e
  .cases e
 |succ d G=>
  intro x y p q k h h1 h2 A u v f c J;rcases GP h1 k with⟨i,o⟩|⟨σ,tp,a,vs,xs,e,n,k1⟩
  .rcases GP h2 h with⟨g,m⟩|⟨N,CQ,b,ws,ys,e,l,t⟩
   .subst o;subst m;rw[Sm i g];exact Sl f c (RK i) (RK g)
   .obtain⟨A5,r,_,j,_⟩:=l.Gw I;subst o;subst r;cases(show v=Value.ref b from c);rw[(Td l i).2];exact(Uh j i f (by omega)).1.2
  .cases e;rcases GP h2 h with⟨g,m⟩|⟨N,CQ,b,ws,ys,e,l,t⟩
   .obtain⟨A5,ex,_,j,_⟩:=n.Gw I;subst m;subst ex;cases(show u=Value.ref a from f);rw[(Td n g).1];exact(Uh j g c (by omega)).1.1
   .cases e;obtain⟨A5,ex,D,F,B⟩:=n.Gw I;obtain⟨Bq,r,C,E,z⟩:=l.Gw I;subst ex;subst r;cases(show u=Value.ref a from f);cases(show v=Value.ref b from c)
    by_cases w:a=b
    .subst w;rw[yY I (d+1) _ p q k h h1 h2];exact .same _
    .rw[WR n l];refine SeqAt.EqAt.of_refs w (cY F E D C B z (by omega) λx y p q u v M L k h f c=>?_).1;exact G x y p q k h (k1 p M) (t q L) A.in1 u v f c (by show A.units+1+d<cLine;omega)
theorem hE(I:Inv X ZB O H s)(d:Nat)(x y:V)(p q:PV)(m:Rep H x p)(i:Rep H y q)(h1:dat X.K d p)(h2:dat X.K d q)(A:Around)(u v:Value)(f:RelV x u)(c:RelV y v)(N:A.units+d<cLine):SeqAt.RcAt A s u v (CZ p q)/\SeqAt.RcNeAt A s u v (!CZ p q):=by
 rcases GP h1 m with⟨n,t⟩|⟨w,tp,a,vs,xs,e,k,k1⟩
 .rcases GP h2 i with⟨l,h⟩|⟨M,CQ,b,ws,ys,e,g,r⟩
  .subst t;subst h;exact ZBA n l f c
  .obtain⟨A5,o,_,j,_⟩:=g.Gw I;subst t;subst o;cases(show v=Value.ref b from c);rw[(Td g n).2];have z:=Uh (A:=A) j n f (by omega);exact⟨z.2.1.2,z.2.2.2⟩
 .rcases GP h2 i with⟨l,h⟩|⟨M,CQ,b,ws,ys,h,g,r⟩
  .obtain⟨A5,ex,_,j,_⟩:=k.Gw I;subst h;subst ex;cases(show u=Value.ref a from f);rw[(Td k l).1];have z:=Uh (A:=A) j l c (by omega);exact⟨z.2.1.1,z.2.2.1⟩
  .subst e;cases h;obtain⟨A5,ex,E,G,C⟩:=k.Gw I;obtain⟨Bq,o,D,F,B⟩:=g.Gw I;subst ex;subst o;cases(show u=Value.ref a from f);cases(show v=Value.ref b from c);rw[WR k g];exact cY G F E D C B (by omega) λx y p q u v L J m i f c=>vD I w x y p q m i (k1 p L) (r q J) A.in1 u v f c (by show A.units+1+w<cLine;omega)
def Uk(K:ZHa)(neg:Bool):R2:=λx y H Q=>∃p q,Rep H x p/\Rep H y q/\dat K 40 p/\dat K 40 q/\Q (.bl (if neg then !CZ p q else CZ p q)) H
theorem yt(i:X.A.units+64<cLine):BU X (compareOp .Eq) (Uk X.K false):=by
 intro ZB s O H x y v u Q I b a h;obtain⟨p,q,d,c,g,f,e⟩:=h;exact(hE I 40 x y p q d c g f X.A _ _ b a (by omega)).1 _ _ _ _ ⟨.bl (CZ p q),H,I,rfl,e⟩
theorem ZEZ(i:X.A.units+64<cLine):BU X (compareOp .NotEq) (Uk X.K true):=by
 intro ZB s O H x y v u Q I b a h;obtain⟨p,q,d,c,g,f,e⟩:=h;exact(hE I 40 x y p q d c g f X.A _ _ b a (by omega)).2 _ _ _ _ ⟨.bl (!CZ p q),H,I,rfl,e⟩
end
section
variable[Xw]
variable{K:ZHa}{k:PV->Prop}
theorem iT(h:Wp ss ta λp=>Wp ss tb λq=>dat K 40 p/\dat K 40 q/\k (.bl (CZ p q))):Wp ss (BZ (Uk K false) ta tb) k:=⟨λE O F H Q S q=>
 h.go E O F H _ S λv p F1 H1 b d h2=>h2.go E O F1 H1 _ b.st λg p2 F2 H2 a c⟨f,e,kk⟩=>
  ⟨p,p2,(d.mono a.ff).mono a.st.fh,c.mono a.st.fh,f,e,q _ _ F2 H2 (b.trans a) (.bl _) kk⟩⟩
theorem fZ(h:Wp ss ta λp=>Wp ss tb λq=>dat K 40 p/\dat K 40 q/\k (.bl (!CZ p q))):Wp ss (BZ (Uk K true) ta tb) k:=⟨λE O F H Q S q=>
 h.go E O F H _ S λv p F1 H1 b d h2=>h2.go E O F1 H1 _ b.st λg p2 F2 H2 a c⟨f,e,kk⟩=>
  ⟨p,p2,(d.mono a.ff).mono a.st.fh,c.mono a.st.fh,f,e,q _ _ F2 H2 (b.trans a) (.bl _) kk⟩⟩
end
noncomputable def OV.at(t:OV):List Nat->Option OV
 | []=>some t
 |j::p=>match t with
  | .nd _ _ xs=>(xs[j]?).bind λx=>OV.at x p
  | .tp xs=>(xs[j]?).bind λx=>OV.at x p
  | .fz _=>none
noncomputable def OV.put(t:OV)(l:List Nat)(n:OV):OV:=match l with
 | []=>n
 |j::p=>match t with
  | .nd k a xs=>match xs[j]? with
   |some x=>.nd k a (xs.set j (OV.put x p n))
   |none=>.nd k a xs
  | .tp xs=>match xs[j]? with
   |some x=>.tp (xs.set j (OV.put x p n))
   |none=>.tp xs
  | .fz q=>.fz q
theorem OV.JR{t:OV}:t.at []=some t:=by rw[OV.at]
theorem OV.Kq{k:NK}{xs:List OV}:(OV.nd k a xs).at (j::p)=(xs[j]?).bind λx=>x.at p:=by rw[OV.at]
theorem OV.My{xs:List OV}:(OV.tp xs).at (j::p)=(xs[j]?).bind λx=>x.at p:=by rw[OV.at]
theorem OV.EF{t:OV}:t.put [] n=n:=by rw[OV.put]
theorem OV.JU{k:NK}{xs:List OV}(h:xs[j]?=some x):(OV.nd k a xs).put (j::p) n=.nd k a (xs.set j (x.put p n)):=by rw[OV.put,h]
theorem OV.Q0{xs:List OV}(h:xs[j]?=some x):(OV.tp xs).put (j::p) n=.tp (xs.set j (x.put p n)):=by rw[OV.put,h]
theorem OV.OU{u w:OV}:∀{p:List Nat}{t:OV}{j:Nat},t.at p=some u->u.at [j]=some w->t.at (p++[j])=some w
 | [],t,j,h,h2=>by rw[OV.JR]at h;cases h;exact h2
 |i::p,.nd k a xs,j,h,h2=>by
  rw[OV.Kq]at h;rw[Ny,OV.Kq];cases e:xs[i]? with
  |none=>rw[e]at h;cases h
  |some x=>rw[e]at h;exact OV.OU (t:=x) h h2
 |i::p,.tp xs,j,h,h2=>by
  rw[OV.My]at h;rw[Ny,OV.My];cases e:xs[i]? with
  |none=>rw[e]at h;cases h
  |some x=>rw[e]at h;exact OV.OU (t:=x) h h2
 |i::p,.fz q,j,h,h2=>by rw[OV.at]at h;cases h
theorem JQ:∀{xs:List OV}{j:Nat}{x:OV},xs[j]?=some x->∃l r,OV.Al xs=l++x.addrs++r/\∀y:OV,OV.Al (xs.set j y)=l++y.addrs++r
 |x::xs,0,z,h=>by
  simp at h;subst h;exact⟨[],OV.Al xs,by rw[OV.DW];rfl,λy=>by rw[nc,OV.DW];rfl⟩
 |x::xs,j+1,z,h=>by
  obtain⟨l,r,b,a⟩:=JQ (xs:=xs) (j:=j) (x:=z) (by simpa using h)
  refine⟨x.addrs++l,r,by rw[OV.DW,b];simp[BX],λy=>by rw[Qr,OV.DW,a];simp[BX]⟩
theorem OV.split{u:OV}:∀{p:List Nat}{t:OV},t.at p=some u->∃l r,t.addrs=l++u.addrs++r/\∀n:OV,(t.put p n).addrs=l++n.addrs++r
 | [],t,h=>by rw[OV.JR]at h;cases h;exact⟨[],[],by simp,λn=>by rw[OV.EF];simp⟩
 |j::p,.nd k a xs,h=>by
  rw[OV.Kq]at h;cases e:xs[j]? with
  |none=>rw[e]at h;cases h
  |some x=>
   rw[e]at h;obtain⟨l,r,g,f⟩:=JQ e;obtain⟨l2,b,d,c⟩:=OV.split (t:=x) h;refine⟨a::(k.more++(l++l2)),b++r,by rw[OV.DE,g,d];simp[BX],λn=>by rw[OV.JU e,OV.DE,f,c];simp[BX]⟩
 |j::p,.tp xs,h=>by
  rw[OV.My]at h;cases e:xs[j]? with
  |none=>rw[e]at h;cases h
  |some x=>
   rw[e]at h;obtain⟨l,r,g,f⟩:=JQ e;obtain⟨l2,b,d,c⟩:=OV.split (t:=x) h;refine⟨l++l2,b++r,by rw[OV.Gs,g,d];simp[BX],λn=>by rw[OV.Q0 e,OV.Gs,f,c];simp[BX]⟩
 |j::p,.fz q,h=>by rw[OV.at]at h;cases h
theorem BP.get{F H:Hp}{vs:List V}{ts:List OV}{j:Nat}{t:OV}(r:BP F H vs ts)(e:ts[j]?=some t):∃v,vs[j]?=some v/\B0 F H v t:=by
 induction ts generalizing vs j with
 |nil=>cases e
 |cons q ps c=>
  obtain⟨v,ws,rfl,a,b⟩:=r.inv;cases j with
  |zero=>cases e;exact⟨_,rfl,a⟩
  |succ j=>exact c (vs:=ws) (j:=j) b e
theorem BP.append{xs ys:List OV}(r:BP F H vs xs)(s:BP F H ws ys):BP F H (vs++ws) (xs++ys):=by
 induction xs generalizing vs with
 |nil=>cases r.DI;exact s
 |cons p ps c=>obtain⟨v,us,rfl,a,b⟩:=r.inv;exact .cons a (c b)
theorem BP.one{t:OV}(r:B0 F H v t):BP F H [v] [t]:=.cons r .nil
theorem Uc(r:AR F vs xs):BP F H vs (xs.map .fz):=by
 induction xs generalizing vs with
 |nil=>cases r.DI;exact .nil
 |cons p ps c=>obtain⟨v,us,rfl,a,b⟩:=r.inv;exact .cons (.fz a) (c b)
theorem BP.OR(r:BP F H vs (xs.map .fz)):AR F vs xs:=by
 induction xs generalizing vs with
 |nil=>cases r.DI;exact .nil
 |cons p ps c=>obtain⟨v,us,rfl,a,b⟩:=r.inv;exact .cons a.inv (c b)
theorem Nw:∀(xs:List PV),OV.Al (xs.map .fz)=[]
 | []=>by rw[GY,OV.Al]
 |x::r=>by rw[Ae,OV.DW,OV.Hc,Nw r];rfl
theorem BP.set{xs:List OV}(j:Nat){t:OV}(r:BP F H vs xs)(q:B0 F H v t):BP F H (vs.set j v) (xs.set j t):=by
 induction xs generalizing vs j with
 |nil=>cases r.DI;exact .nil
 |cons p ps c=>
  obtain⟨u,us,rfl,a,b⟩:=r.inv;cases j with
  |zero=>exact .cons q b
  |succ j=>exact .cons a (c j b)
theorem BP.swap{xs:List OV}(r:BP F H vs xs)(h:xs[j]?=some x)(e:vs[j]?=some v)(hk:∀l r,OV.Al xs=l++x.addrs++r->(∀z:OV,OV.Al (xs.set j z)=l++z.addrs++r)->∀b∈l++r,∀o,H b=some o->H' b=some o)(f:B0 F H' v y):BP F H' vs (xs.set j y):=by
 induction xs generalizing vs j with
 |nil=>cases h
 |cons p ps k=>
  obtain⟨u,us,rfl,a,b⟩:=r.inv;cases j with
  |zero=>
   cases h;cases e;refine .cons f (b.mono (AU.refl _) λc d o=>hk [] (OV.Al ps) (by rw[OV.DW];rfl) (λz=>by rw[nc,OV.DW];rfl) c d o)
  |succ j=>
   rw[Qr];obtain⟨l,q,n,m⟩:=JQ (xs:=ps) (j:=j) h;refine .cons (a.mono (AU.refl _) λc d o=>hk (p.addrs++l) q (by rw[OV.DW,n,BX,BX,BX]) (λz=>by rw[Qr,OV.DW,m,BX,BX,BX]) c (G8 _ (G8 _ d)) o) (k (vs:=us) (j:=j) b h e λi g FC Cy c d o=>?_);refine hk (p.addrs++i) g (by rw[OV.DW,FC,BX,BX,BX]) (λz=>by rw[Qr,OV.DW,Cy,BX,BX,BX]) c ?_ o;rcases List.mem_append.mp d with hz|hz
   .exact G8 _ (Er _ hz)
   .exact Er _ hz
theorem B0.at{F H:Hp}{u:OV}:∀{p:List Nat}{t:OV}{v:V},B0 F H v t->t.at p=some u->∃w,B0 F H w u/\∀(H':Hp)(n:OV),B0 F H' w n->(∀l r,t.addrs=l++u.addrs++r->(∀n:OV,(t.put p n).addrs=l++n.addrs++r)->∀b∈l++r,∀o,H b=some o->H' b=some o)->B0 F H' v (t.put p n)
 | [],t,v,h,e=>by rw[OV.JR]at e;cases e;exact⟨v,h,λH' n r _=>by rw[OV.EF];exact r⟩
 |j::p,.fz q,v,h,e=>by rw[OV.at]at e;cases e
 |j::p,.nd k a xs,_,.nd h sd ft r,e=>by
  rw[OV.Kq]at e;cases ex:xs[j]? with
  |none=>rw[ex]at e;cases e
  |some x=>
   rw[ex]at e;obtain⟨I,WV,B⟩:=r.get ex;obtain⟨w,d,go⟩:=B0.at (t:=x) B e;refine⟨w,d,λH' n A hk=>?_⟩;obtain⟨l2,y,G,E⟩:=OV.split e;have i:∀l r,OV.Al xs=l++x.addrs++r->(∀z:OV,OV.Al (xs.set j z)=l++z.addrs++r)->∀b,b∈(a::(k.more++(l++l2)))++(y++r)->∀o,H b=some o->H' b=some o:=λl r s m b c o=>
    hk (a::(k.more++(l++l2))) (y++r) (by rw[OV.DE,s,G];simp[BX]) (λn=>by rw[OV.JU ex,OV.DE,m,E];simp[BX]) b c o
   obtain⟨l,q,s,m⟩:=JQ ex;rw[OV.JU ex];refine .nd (i l q s m a (by simp) _ h) (NK.fP sd λb c=>i l q s m b (by simp[c])) ft ?_;refine r.swap ex WV (λg f FC Cy b c o=>i g f FC Cy b (by rcases List.mem_append.mp c with hz|hz <;> simp[hz]) o) ?_
   refine go H' n A λg f D C b c o=>?_;refine hk (a::(k.more++(l++g))) (f++q) (by rw[OV.DE,s,D];simp[BX]) (λn=>by rw[OV.JU ex,OV.DE,m,C];simp[BX]) b (by rcases List.mem_append.mp c with hz|hz <;> simp[hz]) o
 |j::p,.tp xs,_,.tp h r,e=>by
  rw[OV.My]at e;cases ex:xs[j]? with
  |none=>rw[ex]at e;cases e
  |some x=>
   rw[ex]at e;obtain⟨I,WV,B⟩:=r.get ex;obtain⟨w,d,go⟩:=B0.at (t:=x) B e;refine⟨w,d,λH' n A hk=>?_⟩;obtain⟨l2,y,G,E⟩:=OV.split e;obtain⟨l,q,s,m⟩:=JQ ex;rw[OV.Q0 ex];refine .tp h (r.swap ex WV (λg f FC Cy b c o=>?_) (go H' n A λg f D C b c o=>?_))
   .exact hk (g++l2) (y++f) (by rw[OV.Gs,FC,G];simp[BX]) (λn=>by rw[OV.Q0 ex,OV.Gs,Cy,E];simp[BX]) b (by rcases List.mem_append.mp c with hz|hz <;> simp[hz]) o
   .exact hk (l++g) (f++q) (by rw[OV.Gs,s,D];simp[BX]) (λn=>by rw[OV.Q0 ex,OV.Gs,m,C];simp[BX]) b (by rcases List.mem_append.mp c with hz|hz <;> simp[hz]) o
theorem UL{l u r n:List Addr}(h:(l++u++r).Nodup)(g:n.Nodup)(hd:∀b∈n,b∈u∨b∉l++u++r):(l++n++r).Nodup:=by
 rw[Cp]at h ⊢;obtain⟨h1,h2,f⟩:=h;rw[Cp]at h1 ⊢;obtain⟨j,k,i⟩:=h1;refine⟨⟨j,g,λa c b d e=>?_⟩,h2,λa c b d e=>?_⟩
 .subst e;rcases hd a d with z|z
  .exact i a c a z rfl
  .exact z (by simp[c])
 .subst e;rcases List.mem_append.mp c with c|c
  .exact f a (by simp[c]) a d rfl
  .rcases hd a c with z|z
   .exact f a (by simp[z]) a d rfl
   .exact z (by simp[d])
theorem Sg.T3(S:Sg E ss O F H){t:OV}{k:NK}{xs:List OV}{ho:HO}{lt:Bool}(hi:ss[i]?=some (.ow lt t))(B6:t.at p=some (.nd k a xs))(K:B0 F (upd H a ho) (.ref a) n)(nd:n.addrs.Nodup)
  (C:∀b∈n.addrs,b∈(OV.nd k a xs).addrs∨(F b=none/\E.H0 b=none/\∀(j:Nat)s,ss[j]?=some s->¬ BJ s O[j]? b)):Sg E (ss.set i (.ow lt (t.put p n))) O F (upd H a ho):=by
 obtain⟨v,e,r,WY,q⟩:=S.ok i _ hi;obtain⟨l,rr,g,B⟩:=OV.split B6;have f:a∈(OV.nd k a xs).addrs:=by rw[OV.DE];simp
 have u:∀b∈(OV.nd k a xs).addrs,b∈t.addrs:=λb c=>by rw[g];simp[c]
 have U:∀b∈n.addrs,b∈(OV.nd k a xs).addrs∨b∉t.addrs:=λb c=>(C b c).imp id λz m=>z.2.2 i _ hi m;obtain⟨w,x,go⟩:=r.at B6;have M:w=.ref a:=by cases x;rfl
 subst M;have h:∀(j:Nat)s,(ss.set i .any)[j]?=some s->∀b,b∈t.addrs->¬ BJ s O[j]? b:=λj s d b c m=>by
  by_cases z:j=i
  .subst z;rw[DP (List.getElem?_eq_some_iff.mp hi).1]at d;cases d;cases m
  .rw[DH (CC z)]at d;exact S.CN j i s _ b z d hi m c
 have T:=(S.drop i).MD (o:=ho) (q a (u a f)).1 ((q a (u a f)).2.imp id λz=>z.2) λj s d=>h j s d a (u a f);have D:=WY;rw[g,Cp,Cp]at D;obtain⟨⟨_,_,σ⟩,_,N⟩:=D;have R:∀b,b∈l++rr->b≠a:=λb c z=>by
  subst z;rcases List.mem_append.mp c with c|c
  .exact σ b c b f rfl
  .exact N b (by simp[f]) b c rfl
 have J:B0 F (upd H a ho) v (t.put p n):=go _ n K λW V L X b c o I=>by
  rw[An ?_];exact I;rintro rfl;have A:=WY;rw[L,Cp,Cp]at A;obtain⟨⟨_,_,Q⟩,_,P⟩:=A;rcases List.mem_append.mp c with c|c
  .exact Q b c b f rfl
  .exact P b (by simp[f]) b c rfl
 have G:∀b∈(t.put p n).addrs,b∈t.addrs∨(F b=none/\E.H0 b=none/\∀(j:Nat)s,ss[j]?=some s->¬ BJ s O[j]? b):=λb c=>by
  rw[B]at c;rcases List.mem_append.mp c with c|c
  .rcases List.mem_append.mp c with c|c
   .exact .inl (by rw[g];simp[c])
   .exact(C b c).imp (u b) id
  .exact .inl (by rw[g];simp[c])
 have S3:=T.setG (j:=i) (s:=.ow lt (t.put p n)) (v:=v) ⟨v,rfl,J,by rw[B];exact UL (g▸WY) nd λb c=>(U b c).imp id (by rw[g];exact id),λb c=>(G b c).elim (q b) λz=>⟨z.1,.inl z.2.1⟩⟩ λb c j s d y m=>by
  rcases G b c with z|z
  .exact h j s y b z m
  .rw[DH (CC d)]at y;exact z.2.2 j s y m
 rw[UR e,Uy]at S3;exact S3
structure Wl [Xw] (ss:List Slot) (i:Nat) (t:OV) (te:TE) (k:List Nat->OV->Prop):Prop where
 hi:∃lt,ss[i]?=some (.ow lt t)
 go:∀(E:Ent)(O:L2.St)(F H:Hp)(Q:VK),Sg E ss O F H->(∀v p u F' H',Mv E ss O F H F' H'->B0 F' H' v u->t.at p=some u->k p u->Q v H')->te O H Q
noncomputable def E2:List Nat->List Slot->List Slot
 | [],ss=>ss
 |i::m,ss=>E2 m (ss.set i .any)
structure Wx [Xw] (ss:List Slot) (te:TE) (k:List Nat->OV->Prop):Prop where
 go:∀(E:Ent)(O:L2.St)(F H:Hp)(Q:VK),Sg E ss O F H->(∀v m u F' H',Mv E ss O F H F' H'->B0 F' H' v u->u.addrs.Nodup->(∀a∈u.addrs,F' a=none/\E.H0 a=none/\((∃i∈m,∃s,s≠Slot.AZ/\ss[i]?=some s/\BJ s O[i]? a)∨H a=none))->k m u->Q v H')->te O H Q
structure N5 [Xw] (ss:List Slot) (te:TA) (k:List Nat->List OV->Prop):Prop where
 go:∀(E:Ent)(O:L2.St)(F H:Hp)(Q:List V->Hp->Prop),Sg E ss O F H->(∀vs m us F' H',Mv E ss O F H F' H'->BP F' H' vs us->(OV.Al us).Nodup->(∀a∈OV.Al us,F' a=none/\E.H0 a=none/\((∃i∈m,∃s,s≠Slot.AZ/\ss[i]?=some s/\BJ s O[i]? a)∨H a=none))->k m us->Q vs H')->te O H Q
section
variable[Xw]
variable{K:ZHa}{k:PV->Prop}{t:OV}
theorem OV.Ih(h:t.at p=some u):∀a∈u.addrs,a∈t.addrs:=λa b=>by
 obtain⟨l,r,e,_⟩:=OV.split h;rw[e];simp[b]
theorem B0.mv(r:B0 F H v u)(S:Sg E ss O F H)(hi:∃lt,ss[i]?=some (.ow lt t))(h:t.at p=some u)(m:Mv E ss O F H F' H'):B0 F' H' v u:=
 r.mono m.ff λa b o e=>m.hh a o (S.NH hi.choose_spec (OV.Ih h a b) (by simp)) e
theorem Bv{lt:Bool}{k:List Nat->OV->Prop}(hi:ss[i]?=some (.ow lt t))(hk:k [] t):Wl ss i t (Au i) k:=⟨⟨lt,hi⟩,λE O F H Q S q=>by
 obtain⟨v,e,r,_,_⟩:=S.ok i _ hi;exact⟨v,e,q v [] t F H (.refl S) r OV.JR hk⟩⟩
theorem Q7{k:List Nat->OV->Prop}(h:Wl ss i t ta λp u=>∃a xs,u=.nd .lst a xs/\Wp ss tb λq=>∃(j:Int)(n:Nat)(w:OV),q=.int j/\G4 xs.length j=some n/\xs[n]?=some w/\k (p++[n]) w):Wl ss i t (BZ (M4 K) ta tb) k:=⟨h.hi,λE O F H Q S q=>
 h.go E O F H _ S λv p u F1 H1 b l h1⟨a,xs,r,h2⟩=>h2.go E O F1 H1 _ b.st λs p2 F2 H2 c g⟨j,n,w,e,m,hw,kk⟩=>by
  subst e;cases g.inv;have f:=l.mv b.st h.hi h1 c;subst r;obtain⟨_,rfl,o,y,z,rr⟩:=f.inv;obtain⟨x,hx,d⟩:=rr.get hw;refine⟨a,_,j,x,rfl,rfl,AW.of o,?_,q x (p++[n]) w F2 H2 (b.trans c) d (OV.OU h1 (by rw[OV.Kq,hw];exact OV.JR)) kk⟩;unfold L2.C8;rw[rr.length,m];exact hx⟩
theorem Py{k:List Nat->OV->Prop}(h:Wl ss i t ta λp u=>∃xs,u=.tp xs/\Wp ss tb λq=>∃(j:Int)(n:Nat)(w:OV),q=.int j/\G4 xs.length j=some n/\xs[n]?=some w/\k (p++[n]) w):Wl ss i t (BZ (D1 K) ta tb) k:=⟨h.hi,λE O F H Q S q=>
 h.go E O F H _ S λv p u F1 H1 b g h1⟨xs,o,h2⟩=>h2.go E O F1 H1 _ b.st λr p2 F2 H2 a f⟨j,n,w,e,l,hw,kk⟩=>by
  subst e;cases f.inv;have d:=g.mv b.st h.hi h1 a;subst o;obtain⟨_,_,rfl,m,rr⟩:=d.inv;obtain⟨x,hx,c⟩:=rr.get hw;refine⟨_,_,j,x,rfl,rfl,B7.of (a.st.fh _ _ m),?_,q x (p++[n]) w F2 H2 (b.trans a) c (OV.OU h1 (by rw[OV.My,hw];exact OV.JR)) kk⟩;unfold L2.C8;rw[rr.length,l];exact hx⟩
theorem KL(h:Wl ss i t te λ_ u=>∃p,u=.fz p/\k p):Wp ss te k:=⟨λE O F H Q S q=>
 h.go E O F H _ S λv p u F1 H1 b a h1 AG=>by obtain⟨p,c,kk⟩:=AG;subst c;cases a with|fz r=>exact q v p F1 H1 b r kk⟩
theorem NP{k:Bool->List PV->Prop}(h:Wl ss i t te λ_ u=>∃a ps,u=.nd .lst a (ps.map .fz)/\k false ps):Wq ss te k:=⟨λE O F H Q S q=>
 h.go E O F H _ S λv p u F1 H1 b c h1 AG=>by
  obtain⟨a,ps,e,kk⟩:=AG;subst e;have np:C6 ss O a:=b.st.NH h.hi.choose_spec (OV.Ih h1 a (by rw[OV.DE];simp)) (by simp);obtain⟨_,rfl,d,f,g,rr⟩:=c.inv;exact q _ false ps F1 H1 b ⟨a,_,rfl,np,d,rr.OR⟩ kk⟩
theorem Dy{k:List Nat->OV->Prop}(h:Wp ss te λp=>k [] (.fz p)):Wx ss te k:=⟨λE O F H Q S q=>
 h.go E O F H _ S λv p F1 H1 c r kk=>q v [] (.fz p) F1 H1 c (.fz r) (by rw[OV.Hc];exact HA) (λa b=>by rw[OV.Hc]at b;cases b) kk⟩
theorem TR(a:Addr)(xs:List PV):(OV.nd .lst a (xs.map .fz)).addrs=[a]:=by rw[OV.DE,Nw];rfl
theorem Tv{k:List Nat->OV->Prop}(h:Wn ss te λxs=>∀l,k [] (.nd .lst l (xs.map .fz))):Wx ss te k:=⟨λE O F H Q S q=>
 h.go E O F H _ S λl vs xs F1 H1 d f b Lf r kk=>q _ [] _ F1 H1 d (.nd (k:=.lst) Lf trivial trivial (Uc r)) (by rw[TR];simp) (λa c=>by
  rw[TR]at c;have e:a=l:=by simpa using c
  subst e;exact⟨f,S.DU b,.inr b⟩) (kk l)⟩
theorem ZAR{k:List Nat->OV->Prop}(hi:ss[i]?=some (.own xs))(h:∀l,k [i] (.nd .lst l (xs.map .fz))):Wx ss (Au i) k:=⟨λE O F H Q S q=>by
 obtain⟨l,vs,e,f,d,c,r⟩:=S.ok i _ hi;refine⟨_,e,q _ [i] _ F H (.refl S) (.nd (k:=.lst) c trivial trivial (Uc r)) (by rw[TR];simp) (λa b=>?_) (h l)⟩;rw[TR]at b;have ea:a=l:=by simpa using b
 subst ea;exact⟨f,d,.inl ⟨i,by simp,_,by simp,hi,e⟩⟩⟩
theorem Oc{k:List Nat->List OV->Prop}(h:k [] []):N5 ss BE k:=⟨λE O F H Q S q=>q _ [] [] F H (.refl S) .nil (by rw[OV.G6];exact HA) (λa b=>by rw[OV.G6]at b;cases b) h⟩
theorem ZD5{k:List Nat->OV->Prop}(hi:ss[i]?=some (.ow false t))(h:k [i] t):Wx ss (Au i) k:=⟨λE O F H Q S q=>by
 obtain⟨v,e,r,nd,c⟩:=S.ok i _ hi;refine⟨_,e,q v [i] t F H (.refl S) r nd (λa b=>⟨(c a b).1,?_,.inl ⟨i,by simp,_,by simp,hi,b⟩⟩) h⟩;exact(c a b).2.elim id λz=>by cases z.1⟩
theorem Wx.ZDr(S:Sg E ss O F H)(h:(∃i∈m,∃s,s≠Slot.AZ/\ss[i]?=some s/\BJ s O[i]? a)∨H a=none):C6 ss O a:=by
 rcases h with⟨j,_,s,c,b,o⟩|z
 .exact S.NH b o c
 .exact S.Ic z
theorem Mv.bx(m:Mv E ss O F H F' H')(h:F a=Option.none)(h2:H a≠Option.none):F' a=Option.none:=by
 cases e:F' a with
 |none=>rfl
 |some o=>
  rcases m.nn a o e with z|z
  .rw[h]at z;cases z
  .exact absurd z h2
theorem FW{k:List Nat->List OV->Prop}(h:Wx ss te λm u=>N5 ss tr λd us=>(∀i∈m,i∉d)/\k (m++d) (u::us)):N5 ss (Ah te tr) k:=⟨λE O F H Q S q=>
 h.go E O F H _ S λv m u F1 H1 n l HM r h2=>h2.go E O F1 H1 _ n.st λvs y us F2 H2 d A Ed x AG=>by
  obtain⟨dj,kk⟩:=AG;have np:∀a∈u.addrs,C6 ss O a:=λa c=>Wx.ZDr S (r a c).2.2;refine q (v::vs) (m++y) (u::us) F2 H2 (n.trans d) (.cons (l.mono d.ff λa c o e=>d.hh a o (np a c) e) A) ?_ (λa c=>?_) kk
  .rw[OV.DW,Cp];refine⟨HM,Ed,λa c b D e=>?_⟩;subst e;rcases(x a D).2.2 with⟨B,LY,s2,T8,DD,t⟩|z
   .rcases(r a c).2.2 with⟨j,g,s,G,C,o⟩|z
    .exact S.CN j B s s2 a (by rintro rfl;exact dj j g LY) C DD o t
    .exact S.EL DD t z
   .exact l.there a c z
  .rw[OV.DW]at c;rcases List.mem_append.mp c with c|c
   .obtain⟨f,p,w⟩:=r a c;exact⟨d.bx f (l.there a c),p,w.imp (λCF=>by obtain⟨j,g,z⟩:=CF;exact⟨j,by simp[g],z⟩) id⟩
   .obtain⟨f,p,w⟩:=x a c;exact⟨f,p,w.imp (λXB=>by obtain⟨j,g,z⟩:=XB;exact⟨j,by simp[g],z⟩) n.none⟩⟩
theorem SI{k:List Nat->OV->Prop}(h:N5 ss tr λm us=>us.length<=100000/\k m (.tp us)):Wx ss (Ro tr) k:=⟨λE O F H Q S q=>
 h.go E O F H _ S λvs m us F1 H1 i c HM n AG=>by obtain⟨j,kk⟩:=AG;exact⟨small (by rw[c.length];exact j),λp d=>by
  have g:=i.st.alloc d (.tup vs);refine q _ m (.tp us) _ _ (i.trans g) (.tp BC (c.mono g.ff λa b o e=>by rw[An (by rintro rfl;exact c.there _ b d)];exact e)) (by rw[OV.Gs];exact HM) (λa b=>?_) kk;rw[OV.Gs]at b;obtain⟨f,l,w⟩:=n a b;exact⟨by rw[An (by rintro rfl;exact c.there _ b d)];exact f,l,w⟩⟩⟩
theorem QQ{j:Nat}{s:Slot}:∀{m:List Nat}{ss:List Slot},(E2 m ss)[j]?=some s->s=.any∨(ss[j]?=some s/\j∉m)
 | [],ss,h=>.inr ⟨h,by simp⟩
 |i::m,ss,h=>by
  rcases QQ (m:=m) (ss:=ss.set i .any) h with e|⟨e,hm⟩
  .exact .inl e
  .by_cases q:j=i
   .subst q;have a:j<ss.length:=by have:=(List.getElem?_eq_some_iff.mp e).1;simpa using this
    rw[DP a]at e;exact .inl (BY e).symm
   .rw[DH (CC q)]at e;exact .inr ⟨e,by simp[q,hm]⟩
theorem Sg.E2{E:Ent0}{O:L2.St}{F H:Hp}:∀(m:List Nat){ss:List Slot},Sg E ss O F H->Sg E (Fz.E2 m ss) O F H
 | [],_,S=>S
 |i::m,_,S=>Sg.E2 m (S.drop i)
theorem Sg.ja(S0:Sg E ss O F0 H0)(S:Sg E ss O F H)(r:B0 F H v u)(nd:u.addrs.Nodup)(c:∀a∈u.addrs,F a=none/\E.H0 a=none/\((∃i∈m,∃s,s≠Slot.AZ/\ss[i]?=some s/\BJ s O[i]? a)∨H0 a=none)):
  Sg E ((Fz.E2 m ss).set j (.ow false u)) (O.set j (some v)) F H:=by
 refine(S.E2 m).setG ⟨v,rfl,r,nd,λa b=>⟨(c a b).1,.inl (c a b).2.1⟩⟩ λa b i s GC f o=>?_;rcases QQ f with e|⟨HI,hm⟩
 .subst e;cases o
 .rcases(c a b).2.2 with⟨i2,EK,s2,_,DD,d⟩|z
  .exact S.CN i i2 s s2 a (by rintro rfl;exact hm EK) HI DD o d
  .exact S0.EL HI o z
theorem KH(h:Wx ss te λm u=>nx ((Fz.E2 m ss).set j (.ow false u))):Ws ss (Ei te (C7 j)) nx R:=⟨λE D O F H S c d=>
 h.go E O F H _ S λv m u F1 H1 a r nd b kk=>c _ _ F1 H1 kk (Sg.ja S a.st r nd b) a.ff⟩
theorem B0.rep(ff:AU F F1):∀{v:V}{t:OV},B0 F H v t->(∀a∈t.addrs,∀o,H a=some o->F1 a=some o)->Rep F1 v t.pv:=by
 intro v t r h;exact B0.rec (motive_1:=λv t _=>(∀a∈t.addrs,∀o,H a=some o->F1 a=some o)->Rep F1 v t.pv) (motive_2:=λvs ts _=>(∀a∈OV.Al ts,∀o,H a=some o->F1 a=some o)->AR F1 vs (OV.Cs ts))
  (λ{v p}r _=>by rw[OV.pv];exact r.mono ff)
  (λ{a vs xs}e _ c h=>by rw[OV.pv];exact .tup (ff _ _ e) (c (by rw[OV.Gs]at h;exact h)))
  (λ{k a vs xs}e i g _ c h=>by
   rw[OV.DE]at h;have f:=c λa b=>h a (by simp[b]);have d:=h a (by simp) _ e;cases k with
   |lst=>rw[OV.pv];exact .lst d f
   |BD ks=>rw[OV.pv];exact .BD d g f
   |obj C dx ns=>rw[OV.pv];exact .obj d (h dx (by simp[NK.more]) _ i) g f
   |J6 ks=>rw[OV.pv];exact .con)
  (λ_=>by rw[OV.Cs];exact .nil)
  (λ_ _ P9 Kw h=>by
   rw[OV.DW]at h;rw[OV.Cs];exact .cons (P9 λa b=>h a (by simp[b])) (Kw λa b=>h a (by simp[b])))
  r h
theorem Yu{t':TS}(i:Nat)(hi:ss[i]?=some (.ow false t))(h:Ws (ss.set i (.is t.pv)) t' nx R):Ws ss t' nx R:=⟨λE D O F H S l k=>by
 obtain⟨v,e,r,nd,f⟩:=S.ok i _ hi;obtain⟨S1,g⟩:=(S.drop i).lay t.addrs (λa b=>⟨(f a b).1,(f a b).2.elim id (λz=>by cases z.1),r.there a b⟩) λa b j s c m=>by
  by_cases q:j=i
  .subst q;rw[DP (List.getElem?_eq_some_iff.mp hi).1]at c;cases c;cases m
  .rw[DH (CC q)]at c;exact S.CN j i s _ a q c hi m b
 have d:=S1.EM (j:=i) (v:=v) (p:=t.pv) (r.rep g λa b o ho=>by unfold CL;rw[pT b];exact ho);rw[UR e,Uy]at d;exact h.go E D O _ H d (λBh σ2 F2 H2 n d s2=>l Bh σ2 F2 H2 n d (g.trans s2)) k⟩
variable{lt:Bool}
theorem Nf:(OV.nd .lst a us).addrs=a::OV.Al us:=by rw[OV.DE];rfl
theorem K2:∀(us ws:List OV),OV.Al (us++ws)=OV.Al us++OV.Al ws
 | [],ws=>by rw[Et,OV.G6,Et]
 |u::us,ws=>by rw[Ny,OV.DW,OV.DW,K2 us ws,BX]
theorem LD(u:OV):OV.Al [u]=u.addrs:=by rw[OV.DW,OV.G6,CB]
theorem Sg.Xq{us':List OV}(S0:Sg E ss O F0 H0)(S:Sg E ss O F H)(hi:ss[i]?=some (.ow lt t))(B6:t.at p=some (.nd .lst a us))
  (d:∀a∈u.addrs,F a=none/\E.H0 a=none/\((∃i∈m,∃s,s≠Slot.AZ/\ss[i]?=some s/\BJ s O[i]? a)∨H0 a=none)) (Ec:i∉m)
  (G:BP F H Bs us') (Q9:(OV.Al us').Nodup) (II:∀b∈OV.Al us',b∈OV.Al us∨b∈u.addrs):Sg E ((Fz.E2 m ss).set i (.ow lt (t.put p (.nd .lst a us')))) O F (upd H a (.lst Bs)):=by
 have L:(Fz.E2 m ss)[i]?=some (.ow lt t):=by
  have n:∀(m:List Nat)(ss:List Slot),ss[i]?=some (.ow lt t)->i∉m->(Fz.E2 m ss)[i]?=some (.ow lt t):=by
   intro m
   induction m with
   |nil=>intro ss h _;exact h
   |cons j m D=>
    intro ss h f;refine D _ ?_ λz=>f (by simp[z]);rw[DH (by rintro rfl;exact f (by simp))];exact h
  exact n m ss hi Ec
 obtain⟨v,e,r,nd,q⟩:=S.ok i _ hi;have B:∀b,b∈a::OV.Al us->b∈t.addrs:=λb c=>OV.Ih B6 b (by rw[Nf];exact c);have K:∀b∈u.addrs,b∉t.addrs:=λb c z=>by
  rcases(d b c).2.2 with⟨j,I,s,_,g,o⟩|w
  .exact S.CN j i s _ b (by rintro rfl;exact Ec I) g hi o z
  .exact S0.EL hi z w
 have A:(OV.nd .lst a us).addrs.Nodup:=by
  obtain⟨l,rr,J,_⟩:=OV.split B6;rw[J,Cp,Cp]at nd;exact nd.1.2.1
 rw[Nf]at A;have x:∀b∈OV.Al us',b≠a:=λb c z=>by
  subst z;rcases II b c with w|w
  .exact(List.nodup_cons.mp A).1 w
  .exact K b w (B b (by simp))
 refine(S.E2 m).T3 L B6 (.nd (k:=.lst) BC trivial trivial (G.mono (AU.refl _) λb c o ho=>by rw[An (x b c)];exact ho)) (by rw[Nf];exact List.nodup_cons.mpr ⟨λz=>x a z rfl,Q9⟩) λb c=>?_;rw[Nf]at c ⊢;rcases List.mem_cons.mp c with w|w
 .exact .inl (by simp[w])
 .rcases II b w with z|z
  .exact .inl (by simp[z])
  .refine .inr ⟨(d b z).1,(d b z).2.1,λj s g o=>?_⟩;rcases QQ g with y|⟨HI,f⟩
   .subst y;cases o
   .rcases(d b z).2.2 with⟨i2,EK,s2,_,DD,C⟩|y
    .exact S.CN j i2 s s2 b (by rintro rfl;exact f EK) HI DD o C
    .exact S0.EL HI o y
theorem ZFZ(h:Wl ss i t ta λp u=>∃lt a us,ss[i]?=some (.ow lt t)/\u=.nd .lst a us/\us.length<=99999/\Wx ss te λm w=>i∉m/\nx ((E2 m ss).set i (.ow lt (t.put p (.nd .lst a (us++[w])))))):Ws ss (IW (Fy K "list" Tb ta (Ah te BE))) nx R:=⟨λE D O F H S T hr=>
 h.go E O F H _ S λv p u F1 H1 c N h1⟨lt,a,us,hi,X,σ,hw⟩=>by
  subst X;cases N with
  |@nd k a' vs _ r I W rr=>
   refine .inl ⟨rfl,_,AW.of r⟩ |> λg=>⟨g,hw.go E O F1 H1 _ c.st λB m w F2 H2 d M Ed z⟨Ec,kk⟩=>?_⟩;have L:=(B0.nd (k:=.lst) r I W rr).mv c.st h.hi h1 d;cases L with
   |@nd _ _ C _ J G V n=>
    refine⟨a,C,B,rfl,rfl,J,HK (by rw[n.length];exact σ),?_⟩;refine T _ O F2 _ kk (Sg.Xq (u:=w) c.st d.st hi h1 z Ec (n.append (.one M)) ?_ λb q=>?_) (c.ff.trans d.ff)
    .rw[K2,LD,Cp];obtain⟨Z,e0,r0,Cu,g⟩:=d.st.ok i _ hi;have A:(OV.nd .lst a us).addrs.Nodup:=by
      obtain⟨l,rr,Y,_⟩:=OV.split h1;rw[Y,Cp,Cp]at Cu;exact Cu.1.2.1
     rw[Nf]at A;refine⟨(List.nodup_cons.mp A).2,Ed,λx hx y P e=>?_⟩;subst e;have f:x∈t.addrs:=OV.Ih h1 x (by rw[Nf];simp[hx]);rcases(z x P).2.2 with⟨j,U,s,_,Q,o⟩|w
     .exact c.st.CN j i s _ x (by rintro rfl;exact Ec U) Q hi o f
     .exact c.st.EL hi f w
    .rw[K2,LD]at q;exact List.mem_append.mp q⟩
theorem Ry{k:OV->Prop}(h:Wx ss te λ_ u=>k u):Ws ss (IA te) nx (.ow k):=⟨λE D O F H S f e=>
 h.go E O F H _ S λv m u F1 H1 d r nd b kk=>e v F1 H1 d.st.toFin ⟨u,r,nd,λa c=>⟨(b a c).1,(b a c).2.1⟩,kk⟩⟩
theorem P7{ta:TA}{k:List Nat->OV->Prop}(h:Wa ss ta λl=>∃c,pre l (.ow c)/\∀u,c u->k [] u):Wx ss (DK (AL pre) [] E0 ta) k:=⟨λE O F H Q S q=>
 h.go E O F H _ S λvs l F1 H1 b a⟨c,i,kk⟩=>by
  rw[CB];refine⟨l,.ow c,F1,[],i,b.st.OP a,λv F' H' f⟨u,r,nd,d,g⟩=>?_⟩;exact q v [] u F' H' (b.trans (b.st.back (λ_ h=>absurd h Ak) f)) r nd (λa e=>⟨(d a e).1,S.DU (b.none (d a e).2),.inr (b.none (d a e).2)⟩) (kk u g)⟩
end
def ptr(a:Addr):Hp->V->Prop:=λ_ v=>v=.ref a
section
variable[Xw]
variable{K:ZHa}{k:PV->Prop}{t:OV}{lt:Bool}
theorem Sg.W3(S:Sg E ss O F H)(hi:ss[i]?=some (.ow lt t))(B6:t.at p=some (.nd .lst a (ps.map .fz)))(e:AR F Bs Sz):Sg E (ss.set i (.ow lt (t.put p (.nd .lst a (Sz.map .fz))))) O F (upd H a (.lst Bs)):=
 Sg.Xq (m:=[]) (u:=.fz .AE) S S hi B6 (λa d=>by rw[OV.Hc]at d;cases d) (by simp) (Uc e) (by rw[Nw];exact HA) λb c=>by rw[Nw]at c;cases c
theorem Sg.Px(S:Sg E ss O F H)(hi:ss[i]?=some (.ow lt t))(B6:t.at p=some (.nd .lst a (ps.map .fz))):∃vs,H a=some (.lst vs)/\AR F vs ps:=by
 obtain⟨v,e,r,_,_⟩:=S.ok i _ hi;obtain⟨w,b,_⟩:=r.at B6;obtain⟨_,rfl,c,_,_,rr⟩:=b.inv;exact⟨_,c,rr.OR⟩
theorem zt{k:List Nat->OV->Prop}{nk:NK}(f:ss[j]?=some (.raw (ptr a)))(hi:ss[i]?=some (.ow lt t))(B6:t.at p=some (.nd nk a us))(hk:k p (.nd nk a us)):Wl ss i t (Au j) k:=⟨⟨lt,hi⟩,λE O F H Q S q=>by
 obtain⟨v,e,c,_⟩:=S.ok j _ f;obtain⟨h,l,d,_,_⟩:=S.ok i _ hi;obtain⟨w,b,_⟩:=d.at B6;have g:w=.ref a:=by cases b;rfl
 subst g;cases(show v=.ref a from c);exact⟨_,e,q _ p _ F H (.refl S) b B6 hk⟩⟩
theorem ZBL(h:Wp ss te λq=>Wl ss i t ta λp u=>∃(lt:Bool)(a:Addr)(ps:List PV),ss[i]?=some (.ow lt t)/\u=.nd .lst a (ps.map .fz)/\Wp ss ti λk=>∃n:Nat,k=.int n/\n<ps.length/\nx (ss.set i (.ow lt (t.put p (.nd .lst a ((ps.set n q).map .fz)))))):Ws ss (Ei te (Vz ta ti Tp)) nx R:=⟨λE D O F H S m z=>
 h.go E O F H _ S λv q F1 H1 d f h2=>h2.go E O F1 H1 _ d.st λe p u F2 H2 c j B6⟨lt,a,ps,hi,s,o⟩=>by
  subst s;have r:e=.ref a:=by cases j;rfl
  subst r;refine o.go E O F2 H2 _ c.st λx y F3 H3 b g⟨n,w,Ku,kk⟩=>?_;subst w;cases g;obtain⟨vs,l,rr⟩:=b.st.Px hi B6;refine⟨a,vs,_,n,rfl,rfl,l,kH (by rw[rr.length];exact Ku),?_⟩;exact m _ O F3 _ kk (b.st.W3 hi B6 (rr.set n (f.mono (c.ff.trans b.ff)))) (d.ff.trans (c.ff.trans b.ff))⟩
theorem hZ(h:Wl ss i t ta λp u=>∃(lt:Bool)(a:Addr)(ps:List PV),ss[i]?=some (.ow lt t)/\u=.nd .lst a (ps.map .fz)/\Wp ss tb λq=>∃n:Nat,q=.int n/\n<=ps.length/\Wp ss te λd=>ps.length<=99999/\nx (ss.set i (.ow lt (t.put p (.nd .lst a ((ps.take n++d::ps.drop n).map .fz)))))):
  Ws ss (IW (Fy K "list" Rq ta (Ah tb (Ah te BE)))) nx R:=⟨λE D O F H S o B=>
 h.go E O F H _ S λv p u F1 H1 c l B6⟨lt,a,ps,hi,w,h2⟩=>by
  subst w;have s:v=.ref a:=by cases l;rfl
  subst s;obtain⟨Gu,XJ,_⟩:=c.st.Px hi B6;refine⟨.inl ⟨rfl,_,AW.of XJ⟩,h2.go E O F1 H1 _ c.st λy d F2 H2 f k⟨n,x,Ku,r⟩=>?_⟩;subst x;cases k;refine r.go E O F2 H2 _ f.st λg z F3 H3 b j⟨A,kk⟩=>?_;obtain⟨vs,m,rr⟩:=b.st.Px hi B6;have e:=rr.length;refine⟨a,vs,n,g,rfl,rfl,m,by omega,by omega,HK (by omega),?_⟩;rw[Gz];exact o _ O F3 _ kk (b.st.W3 hi B6 ((rr.take n).append (.cons j (rr.drop n)))) (c.ff.trans (f.ff.trans b.ff))⟩
theorem ZAW{m n:Nat}(h:m<n):seqIndex? (m:Int) n=some m:=by
 unfold seqIndex?;simp;omega
theorem AR.erase:∀{vs:List V}{xs:List PV}(n:Nat),AR F vs xs->AR F (vs.eraseIdx n) (xs.eraseIdx n):=by
 intro vs xs n r
 induction xs generalizing vs n with
 |nil=>cases r.DI;exact .nil
 |cons p ps c=>
  obtain⟨v,ws,rfl,a,b⟩:=r.inv;cases n with
  |zero=>exact b
  |succ n=>exact .cons a (c n b)
end
def Cw:List Slot->L2.St->List Addr
 | .own _::ss,some (.ref l)::O=>l::Cw ss O
 | .ow _ t::ss,_::O=>t.addrs++Cw ss O
 |_::ss,_::O=>Cw ss O
 |_,_=>[]
theorem bj:∀{ss:List Slot}{O:L2.St}{a:Addr},a∈Cw ss O->∃(i:Nat)(s:Slot),ss[i]?=some s/\s≠.AZ/\BJ s O[i]? a
 | [],O,a,h=>absurd h Ak
 |s::ss,[],a,h=>by cases s <;> exact absurd h Ak
 |s::ss,o::O,a,h=>by
  have b:a∈Cw ss O->∃(i:Nat)(s':Slot),(s::ss)[i]?=some s'/\s'≠.AZ/\BJ s' (o::O)[i]? a:=λh=>by
   obtain⟨i,s',h1,h2,c⟩:=bj h;exact⟨i+1,s',by simpa using h1,h2,by simpa using c⟩
  cases s with
  |own xs=>
   cases o with
   |none=>exact b h
   |some v=>
    cases v with
    |ref l=>
     have h:a∈l::Cw ss O:=h;rcases List.mem_cons.mp h with e|h
     .subst e;exact⟨0,_,rfl,by simp,rfl⟩
     .exact b h
    |_=>exact b h
  |ow lt t=>
   have h:a∈t.addrs++Cw ss O:=h;rcases List.mem_append.mp h with h|h
   .exact⟨0,_,rfl,by simp,h⟩
   .exact b h
  |_=>exact b h
theorem Tz:∀{ss:List Slot}{O:L2.St}{i:Nat}{s:Slot}{a:Addr},ss.length=O.length->ss[i]?=some s->s≠.AZ->BJ s O[i]? a->a∈Cw ss O
 | [],O,i,s,a,_,h,_,_=>by simp at h
 |s0::ss,[],i,s,a,hl,_,_,_=>by simp at hl
 |s0::ss,o::O,0,s,a,hl,h,hp,ho=>by
  simp at h;subst h;cases s0 with
  |own xs=>
   have e:o=some (.ref a):=by have:some o=some (some (V.ref a)):=ho;exact BY this
   subst e;exact Es
  |ow lt t=>exact G8 _ ho
  |AZ=>exact absurd rfl hp
  |_=>cases ho
 |s0::ss,o::O,i+1,s,a,hl,h,hp,ho=>by
  have q:=Tz (ss:=ss) (O:=O) (i:=i) (a:=a) (by simpa using hl) (by simpa using h) hp (by simpa using ho)
  cases s0 with
  |own xs=>cases o with
   |none=>exact q
   |some v=>cases v with
    |ref l=>exact DS _ q
    |_=>exact q
  |ow lt t=>exact Er _ q
  |_=>exact q
theorem B0.oA{t:OV}(r:B0 F H v t):∀a∈t.addrs,∀vs,H a≠some (.tup vs):=
 B0.rec (motive_1:=λ_ t _=>∀a∈t.addrs,∀vs,H a≠some (.tup vs)) (motive_2:=λ_ ts _=>∀a∈OV.Al ts,∀vs,H a≠some (.tup vs))
  (λ_ a c _=>by rw[OV.Hc]at c;cases c)
  (λ_ _ i a c vs=>by rw[OV.Gs]at c;exact i a c vs)
  (λ{k}{b}{_}{_}h f _ _ i a c vs=>by
   rw[OV.DE,G9,MU]at c;rcases c with rfl|c|c
   .rw[h];cases k <;> (intro z;cases z)
   .cases k with
    |obj C dx ns=>
     have e:a=dx:=List.mem_singleton.mp c;subst e;have d:H a=some (.own b):=f;rw[d];intro z;cases z
    |_=>exact absurd c Ak
   .exact i a c vs)
  (λa c _=>by rw[OV.G6]at c;cases c)
  (λ_ _ i k a c ws=>by
   rw[OV.DW,MU]at c;rcases c with c|c
   .exact i a c ws
   .exact k a c ws)
  r
mutual
def Dx:PV->Bool
 | .lst _=>false
 | .BD _ _=>false
 | .obj _ _ _=>false
 | .exc _ _ _=>false
 | .tup xs=>Gf xs
 |_=>true
def Gf:List PV->Bool
 | []=>true
 |x::r=>Dx x && Gf r
end
noncomputable def FT(F:Hp)(as:List Addr):Hp:=λa=>if a∈as then none else F a
theorem Rep.sub{as:List Addr}(h:∀a∈as,∀vs,F a≠some (.tup vs)):∀{v:V}{p:PV},Rep F v p->Dx p=true->Rep (FT F as) v p:=by
 intro v p r d;exact Rep.rec (motive_1:=λv p _=>Dx p=true->Rep (FT F as) v p) (motive_2:=λvs ps _=>Gf ps=true->AR (FT F as) vs ps)
  (λ_=>.AE) (λb _=>.bl b) (λi _=>.int i) (λx _=>.str x)
  (λ_ _ _ z=>by simp[Dx]at z)
  (λ{a vs xs}e _ c z=>.tup (by unfold FT;rw[pL (λq=>h a q vs e)];exact e) (c (by simpa[Dx]using z)))
  (λ_ _ _ _ z=>by simp[Dx]at z)
  (λ_ _ _ _ _ z=>by simp[Dx]at z)
  (λ_=>.con)
  (λ_ z=>by simp[Dx]at z)
  (λ_ _ _ _ _ z=>by simp[Dx]at z)
  (λ_=>.nil)
  (λ_ _ P9 Kw z=>by
   rw[Gf,GX]at z;exact .cons (P9 z.1) (Kw z.2))
  r d
theorem AR.sub{as:List Addr}(h:∀a∈as,∀vs,F a≠some (.tup vs))(r:AR F vs ps)(z:Gf ps=true):AR (FT F as) vs ps:=by
 induction ps generalizing vs with
 |nil=>cases r.DI;exact .nil
 |cons p ps c=>
  obtain⟨v,ws,rfl,a,b⟩:=r.inv;have z:=(GX _ _).mp z;exact .cons (a.sub h z.1) (c b z.2)
structure Wb [Xw] (ss:List Slot) (ta:TA) (k:List PV->Prop):Prop where
 go:∀(E:Ent)(O:L2.St)(F H:Hp)(Q:List V->Hp->Prop),Sg E ss O F H->(∀vs ps F' H',Mv E ss O F H F' H'->AR (CL F' H' (Cw ss O)) vs ps->k ps->Q vs H')->ta O H Q
theorem Sg.as(S:Sg E ss O F H)(h:a∈Cw ss O):F a=none/\H a≠none/\(∀vs,H a≠some (.tup vs))/\C6 ss O a:=by
 obtain⟨i,s,b,c,ho⟩:=bj h;refine⟨S.ra b ho,S.EL b ho,?_,S.NH b ho c⟩;have k:=S.ok i s b;cases s with
 |own xs=>obtain⟨l,vs,e,_,_,d,_⟩:=k;rw[show O[i]?=some (some (.ref a))from ho]at e;cases e;rw[d];simp
 |ow lt t=>obtain⟨v,_,r,_⟩:=k;exact r.oA a ho
 |AZ=>exact absurd rfl c
 |_=>cases ho
theorem Sg.HZ(S:Sg E ss O F H):AU F (CL F H (Cw ss O))/\AU (CL F H (Cw ss O)) H:=by
 refine⟨λa o e=>?_,λa o e=>?_⟩
 .unfold CL;rw[pL (λq=>by rw[(S.as q).1]at e;cases e)];exact e
 .unfold CL at e;split at e
  .exact e
  .exact S.fh a o e
theorem Sg.lend(S:Sg E ss O F H)(r:AR (CL F H (Cw ss O)) vs ps):Sg (E3 [] (CL F H (Cw ss O)) H) (ps.map .is) (vs.map some) (CL F H (Cw ss O)) H:=by
 have nn:∀{p:Prop}(a:Addr),a∈([]:List Addr)->p:=λa h=>absurd h Ak;refine⟨⟨S.HZ.2,AU.refl _,λ_ _ _ e=>e,λ_ _ e=>.inl e,λa h=>nn a h,λa h=>nn a h,λa h=>nn a h,λa h=>nn a h,λa h=>nn a h,λa h=>nn a h⟩,by rw[AD,AD,r.length],λi s hi=>?_,λi j s u l GC hi g c f=>?_⟩
 .rw[Aj]at hi;cases e:ps[i]? with
  |none=>rw[e]at hi;cases hi
  |some p=>
   rw[e]at hi;obtain⟨v,d,b⟩:=r.get e;have es:Slot.is p=s:=BY hi;subst es;rw[Aj,d];exact⟨v,rfl,b⟩
 .rw[Aj]at hi;cases e:ps[i]? with
  |none=>rw[e]at hi;cases hi
  |some p=>rw[e]at hi;have es:Slot.is p=s:=BY hi;subst es;cases c
theorem Sg.Sh(S:Sg E ss O F H)(f:Fin (E3 [] (CL F H (Cw ss O)) H) F' H'):Mv E ss O F H (FT F' (Cw ss O)) H'/\∀a∈Cw ss O,∀vs,F' a≠some (.tup vs):=by
 have kp:∀a o,H a=some o->H' a=some o:=λa o e=>f.keep a o ⟨Ak,Ak⟩ e;refine⟨S.step (λa o e=>?_) (λa o e=>?_) (λa o _ e=>kp a o e) (λa o e=>?_) (λi l hi e=>Bf.keep (S.Ez hi e) λo e=>kp l o e),λa c vs e=>?_⟩
 .unfold FT;rw[pL (λq=>by rw[(S.as q).1]at e;cases e)];exact f.f0 a o (S.HZ.1 a o e)
 .unfold FT at e;split at e
  .cases e
  .exact f.fh a o e
 .unfold FT at e;split at e
  .cases e
  .rename_i q;rcases f.fresh a o e with z|z
   .left
    have b:CL F H (Cw ss O) a=some o:=z;unfold CL at b;rw[pL q]at b;exact b
   .exact .inr z
 .obtain⟨o,ho⟩:=Option.ne_none_iff_exists'.mp (S.as c).2.1;have z:F' a=some o:=f.f0 a o (by show CL F H (Cw ss O) a=some o;unfold CL;rw[pT c];exact ho);rw[z]at e;cases e;exact(S.as c).2.2.1 vs ho
section
variable[Xw]
variable{K:ZHa}{k:PV->Prop}{t:OV}{lt:Bool}
theorem X9{k:List PV->Prop}(h:k []):Wb ss BE k:=⟨λE O F H Q S q=>q _ _ F H (.refl S) .nil h⟩
theorem jY{k:List PV->Prop}(h:Wp ss te λp=>Wb ss tr λps=>k (p::ps)):Wb ss (Ah te tr) k:=⟨λE O F H Q S q=>
 h.go E O F H _ S λv p F1 H1 b d h2=>h2.go E O F1 H1 _ b.st λvs ps F2 H2 a c kk=>q _ _ F2 H2 (b.trans a) (.cons ((d.mono a.ff).mono a.st.HZ.1) c) kk⟩
theorem Sj(h:Wx ss te λm u=>m=[]/\k u.pv):Wp ss te k:=⟨λE O F H Q S q=>
 h.go E O F H _ S λv m u F1 H1 c r nd d AG=>by
  obtain⟨l,kk⟩:=AG;subst l;have g:∀a∈u.addrs,H a=none:=λa b=>by
   rcases(d a b).2.2 with⟨i,hi,_⟩|z
   .cases hi
   .exact z
  obtain⟨S1,f⟩:=c.st.lay u.addrs (λa b=>⟨(d a b).1,(d a b).2.1,r.there a b⟩) λa b i s j o=>S.EL j o (g a b);refine q v u.pv _ H1 ⟨S1,c.ff.trans f,c.hh,λa o e=>?_⟩ (r.rep f λa b o ho=>by unfold CL;rw[pT b];exact ho) kk;unfold CL at e;split at e
  .rename_i z;exact .inr (g a z)
  .exact c.nn a o e⟩
end
theorem R6:∀{xs:List PV},(∀x∈xs,CZ x x=true)->D8 xs xs=true
 | [],_=>by rw[D8]
 |x::r,h=>by rw[US,h x (by simp),R6 (xs:=r) λy a=>h y (by simp[a])];rfl
theorem gG{K:ZHa}:∀(d:Nat){p:PV},dat K d p->CZ p p=true:=by
 intro d
 induction d with
 |zero=>intro p h;cases p <;> first|exact h.elim|rfl|exact rB _
 |succ d b=>
  intro p h;cases p with
  |lst xs=>show D8 xs xs=true;exact R6 λx hx=>b (h x hx)
  |tup xs=>show D8 xs xs=true;exact R6 λx hx=>b (h x hx)
  |con a xs=>show D8 xs xs=true;exact R6 λx hx=>b (h.1 x hx)
  |_=>first|exact h.elim|rfl|exact rB _
theorem ZL:∀(xs:List PV),OV.Cs (xs.map .fz)=xs
 | []=>by rw[GY,OV.Cs]
 |x::r=>by rw[Ae,OV.Cs,OV.pv,ZL r]
end Fz
namespace L2
variable{M:Model}{A:Around}{E xe:Value->Shared->Prop}{s:Shared}{ZS h:Heap}{env:Env}{outer:List Env}{C S ea f fI:Addr}{dd dx tb:Option Addr}{w:World}{mg:ZHc}{N ps sn:List Str}{n name par qual x:Str}{scope:Scope}{cd v:Value}{H:Hp}{X:Cx}{E':St->XK}{D9 PR np p pos:Pos}{e e0:Expr}{es:List Expr}{ab pE:Bool}{prog:Program}{ZH9 ZB:ZHb}{O:St}{j kk:Nat}{fd:FuncData}{body jH:List Stmt}{b0:Stmt}{iQ:(St->XK)->TS}{th:TS}{sp:Sp}
section
variable{K:ZHa}{x t:Addr}
section
open PySem.Builtin PySem.Builtin.ObjectAttr
end
end
end L2
namespace Fz
open L2 Lw
variable{xs:List PV}
structure Ga (K:ZHa) (a:Addr) (xs:List PV):Prop where
 Pb:xs.all flat=true
 sq:∀H,B7 K H a (xs.map Fz.enc)
 ob:∃o:Obj,K.lookup a=some o/\o.cls=.type "tuple"
theorem Ga.of{K:ZHa}{a:Addr}{vs:List V}(h:∀H,B7 K H a vs)(e:xs.map Fz.enc=vs)(f:xs.all flat=true):Ga K a xs:=by
 subst e;refine⟨f,h,?_⟩;rcases h (λ_=>none)with h|⟨o,A5,n,h1,h2,_⟩
 .rcases h with h|⟨_,h⟩
  .cases h
  .cases h
 .exact⟨o,h1,h2⟩
section
variable[Xw]
variable{E:Ent0}{ss:List Slot}{O:L2.St}{F H F' H':Hp}{K:ZHa}{ta tb tc te:TE}{k:PV->Prop}{v:V}{tp:Bool}{nx:List Slot->Prop}{R:Ap}
variable{F1:Hp}{js:List Nat}{ti:TE}
noncomputable def bX:Option Str->PV
 |none=>.AE
 |some x=>.str x
end
end Fz
namespace Fz
open L2 Lw
variable{E:Ent0}{ss:List Slot}{O:L2.St}{F F' H H':Hp}{te:TE}{nx:List Slot->Prop}{R:Ap}{pre:Ub}
@[reducible] noncomputable def ZHY (X:XK) (D:Ex->Prop):Xw:=⟨λ_=>X,λ_=>True,D⟩
@[reducible] noncomputable def xwT (E:Ent0) (J:List Slot->Prop) (D:Ex->Prop):Xw:=⟨λO C dx H=>∃ss F x,J ss/\Sg E ss O F H/\D x/\x.at F C dx,J,D⟩
end Fz
namespace Fz
open L2 Lw
variable{l ss:List Slot}{ta tb te:TE}{a a0:Addr}{N ns:List Str}{F F' H H':Hp}{t' u:OV}{pre:Pre}{X:XK}{i j n:Nat}{O:L2.St}{E:Ent0}{vs:List V}{nk:NK}{us:List OV}{Q:VK}
theorem vW(bs:List Bool):(bs.map V.bl).all DM=true:=by
 rw[Hq];intro x hx;obtain⟨y,_,rfl⟩:=List.mem_map.mp hx;rfl
section
variable[Xw]
variable{K:ZHa}{k:PV->Prop}
theorem Sn{neg:Bool}(c:Ga K a (ns.map .str))(h:Wp ss ta λp=>∃x,p=.str x/\k (.bl (if neg then !decide (x∈ns)else decide (x∈ns)))):Wp ss (BZ (J7 K neg) ta (tC (.ref a))) k:=⟨λE O F H Q S q=>
 h.go E O F H _ S λv p F1 H1 d b AG=>by
  obtain⟨x,e,kk⟩:=AG;subst e;cases b.inv;have sq:=c.sq H1;rw[Ys]at sq;refine⟨a,ns.map V.str,rfl,.inr sq,rfl,L3 ns,?_⟩;rw[W6];exact q _ _ F1 H1 d (.bl _) kk⟩
end
noncomputable def Mc:PV->Bool
 | .AE=>true
 |_=>false
theorem Rep.Mc{v:V}{p:PV}(r:Rep F v p):decide (v=.AE)=Mc p:=by
 cases r <;> rfl
section
variable[Xw]
variable{k:PV->Prop}
theorem ux(h:Wp ss ta λp=>Wp ss tb λq=>q=.AE/\k (.bl (Mc p))):Wp ss (BZ (λx y H Q=>y=.AE/\Q (.bl (decide (x=.AE))) H) ta tb) k:=⟨λE O F H Q S q=>
 h.go E O F H _ S λv p F1 H1 a c h2=>h2.go E O F1 H1 _ a.st λf p2 F2 H2 d b AG=>by
  obtain⟨e,kk⟩:=AG;subst e;cases b.inv;refine⟨rfl,?_⟩;rw[c.Mc];exact q _ _ F2 H2 (a.trans d) (.bl _) kk⟩
theorem LG(h:Wp ss ta λp=>Wp ss tb λq=>q=.AE/\k (.bl (!Mc p))):Wp ss (BZ (λx y H Q=>y=.AE/\Q (.bl (!decide (x=.AE))) H) ta tb) k:=⟨λE O F H Q S q=>
 h.go E O F H _ S λv p F1 H1 a c h2=>h2.go E O F1 H1 _ a.st λf p2 F2 H2 d b AG=>by
  obtain⟨e,kk⟩:=AG;subst e;cases b.inv;refine⟨rfl,?_⟩;rw[c.Mc];exact q _ _ F2 H2 (a.trans d) (.bl _) kk⟩
variable{K:ZHa}{t u:TE}{pre:Ub}{tA:TA}
theorem tG(h:Wp ss t k):Wp ss (SQ t u) k:=⟨λE O F H Q S q=>.inl (h.go E O F H Q S q)⟩
theorem ZD8(h:Wp ss u k):Wp ss (SQ t u) k:=⟨λE O F H Q S q=>.inr (h.go E O F H Q S q)⟩
theorem uI(h:Wp ss te λp=>∃x,p=.str x/\x.length<=1000/\k (.bl (isNm x))):Wp ss (DK ZJ [] E0 (Ah te BE)) k:=⟨λE O F H Q S q=>
 h.go E O F H _ S λv p F1 H1 a r AG=>by
  obtain⟨x,e,hx,kk⟩:=AG;subst e;cases r.inv;exact⟨x,rfl,hx,λH3 s=>q _ _ F1 H3 (a.trans (a.st.grow s)) (.bl _) kk⟩⟩
end
def fj(K:ZHa):List V->Hp->VK->Prop:=λxs H Q=>∃p ys,xs=[.ref p]/\(AW K H p ys∨B7 K H p ys)/\∀l,H l=none->Q (.ref l) (upd H l (.lst ys))
theorem ZFb{X:Cx}:Du X (.type "list") (fj X.K):=Zl
noncomputable def Fo(xs ys:List PV):List PV:=List.zipWith (λx y=>.tup [x,y]) xs ys
theorem Pe(xs ys:List PV):(Fo xs ys).length=min xs.length ys.length:=by unfold Fo;rw[ZGh]
theorem ji{xs ys:List PV}{x y:PV}(h:xs[i]?=some x)(h2:ys[i]?=some y):(Fo xs ys)[i]?=some (.tup [x,y]):=by
 unfold Fo;rw[List.getElem?_zipWith,h,h2]
def BM(pre:Pre):Sp:=λvs H Q _=>∃(ss:List Slot)(R:Ap)(F:Hp)(A B:List Addr),pre ss R/\Sg ⟨A,F,H,B⟩ ss (vs.map some) F H/\∀v F' H',Fin ⟨A,F,H,B⟩ F' H'->R.ok ⟨A,F,H,B⟩ F' H' v->Q v H'
inductive JA (F:Hp):List V->List Slot->Prop where
 |nil:JA F [] []
 |cons {v:V}{p:PV}{vs:List V}{l:List Slot}:Rep F v p->JA F vs l->JA F (v::vs) (.is p::l)
inductive Iw (O:L2.St) (F:Hp) (i:Nat) (t:OV):List V->List Slot->Prop where
 |here {v:V}{vs:List V}{l:List Slot}:O[i]?=some (some v)->JA F vs l->Iw O F i t (v::vs) (.ow true t::l)
 |there {v:V}{p:PV}{vs:List V}{l:List Slot}:Rep F v p->Iw O F i t vs l->Iw O F i t (v::vs) (.is p::l)
theorem JA.len:∀{vs:List V}{l:List Slot},JA F vs l->l.length=vs.length:=by
 intro vs l h
 induction h with
 |nil=>rfl
 |cons _ _ a=>rw[CH,CH,a]
theorem Iw.len{t:OV}:∀{vs:List V}{l:List Slot},Iw O F i t vs l->l.length=vs.length:=by
 intro vs l h
 induction h with
 |here _ r=>rw[CH,CH,r.len]
 |there _ _ a=>rw[CH,CH,a]
theorem JA.at:∀{vs:List V}{l:List Slot},JA F vs l->∀{n:Nat}{s:Slot},l[n]?=some s->∃v p,vs[n]?=some v/\s=.is p/\Rep F v p:=by
 intro vs l h
 induction h with
 |nil=>intro n s e;rw[List.getElem?_nil]at e;cases e
 |cons r _ a=>
  intro n s e;cases n with
  |zero=>cases(show some _=some s from e);exact⟨_,_,rfl,rfl,r⟩
  |succ n=>exact a (n:=n) e
theorem Iw.at{t:OV}:∀{vs:List V}{l:List Slot},Iw O F i t vs l->∃m:Nat,∀{n:Nat}{s:Slot},l[n]?=some s->(n=m/\s=.ow true t/\∃v,vs[n]?=some v/\O[i]?=some (some v))∨∃v p,vs[n]?=some v/\s=.is p/\Rep F v p:=by
 intro vs l h
 induction h with
 |here e r=>
  refine⟨0,λ{n s}h=>?_⟩;cases n with
  |zero=>cases(show some _=some s from h);exact .inl ⟨rfl,rfl,_,rfl,e⟩
  |succ n=>exact .inr (r.at (n:=n) h)
 |there r _ b=>
  obtain⟨m,c⟩:=b;refine⟨m+1,λ{n s}q=>?_⟩;cases n with
  |zero=>cases(show some _=some s from q);exact .inr ⟨_,_,rfl,rfl,r⟩
  |succ n=>
   rcases c (n:=n) (s:=s) q with⟨e,es,a⟩|a
   .exact .inl ⟨rP Nat.succ e,es,a⟩
   .exact .inr a
structure Pl (E:Ent0) (ss:List Slot) (O:L2.St) (i:Nat) (lt:Bool) (t t':OV) (F H F' H':Hp):Prop where
 st:Sg E (ss.set i (.ow lt t')) O F' H'
 ff:AU F F'
 hh:∀a o,C6 ss O a->a∉t.addrs->H a=some o->H' a=some o
 nn:∀a o,F' a=some o->F a=some o∨H a=none
structure NO [Xw] (ss:List Slot) (ta:TA) (k:List Slot->Prop):Prop where
 go:∀(E:Ent)(O:L2.St)(F H:Hp)(Q:List V->Hp->Prop),Sg E ss O F H->(∀vs l F' H',Mv E ss O F H F' H'->JA F' vs l->k l->Q vs H')->ta O H Q
structure UC [Xw] (ss:List Slot) (i:Nat) (t:OV) (ta:TA) (k:List Slot->Prop):Prop where
 go:∀(E:Ent)(O:L2.St)(F H:Hp)(Q:List V->Hp->Prop),Sg E ss O F H->(∀vs l F' H',Mv E ss O F H F' H'->Iw O F' i t vs l->k l->Q vs H')->ta O H Q
structure Wm [Xw] (ss:List Slot) (i:Nat) (lt:Bool) (t:OV) (te:TE) (k:PV->OV->Prop):Prop where
 go:∀(E:Ent)(O:L2.St)(F H:Hp)(Q:VK),Sg E ss O F H->(∀v p t' F' H',Pl E ss O i lt t t' F H F' H'->Rep F' v p->k p t'->Q v H')->te O H Q
structure gB [Xw] (ss:List Slot) (i:Nat) (lt:Bool) (t:OV) (c:TT) (k:Bool->OV->Prop):Prop where
 go:∀(E:Ent)(O:L2.St)(F H:Hp)(Q:Bool->Hp->Prop),Sg E ss O F H->(∀b t' F' H',Pl E ss O i lt t t' F H F' H'->k b t'->Q b H')->c O H Q
theorem Sg.SV{lt:Bool}{t:OV}(S:Sg E ss O F H)(hi:ss[i]?=some (.ow lt t))(a:Iw O F i t vs l):Sg ⟨[],F,H,t.addrs⟩ l (vs.map some) F H:=by
 obtain⟨w,e0,c,Cu,k⟩:=S.ok i _ hi;have nn:∀{p:Prop}(a:Addr),a∈([]:List Addr)->p:=λa h=>absurd h Ak;obtain⟨m,g⟩:=a.at;refine⟨⟨S.fh,AU.refl _,λ_ _ _ e=>e,λ_ _ e=>.inl e,λa h=>nn a h,λa h=>nn a h,λa h=>nn a h,λa h=>(k a h).1,λa h=>c.there a h,λa h=>⟨c.there a h,Ak⟩⟩,by rw[AD];exact a.len,λn s f=>?_,λn j s u b x f A z y=>?_⟩
 .rcases g f with⟨_,rfl,v,d,q⟩|⟨v,p,d,rfl,r⟩
  .rw[Aj,d];rw[e0]at q;cases q;exact⟨w,rfl,c,Cu,λa o=>⟨(k a o).1,.inr ⟨rfl,o⟩⟩⟩
  .rw[Aj,d];exact⟨v,rfl,r⟩
 .rcases g f with⟨C,rfl,_⟩|⟨_,_,_,rfl,_⟩
  .rcases g A with⟨B,rfl,_⟩|⟨_,_,_,rfl,_⟩
   .exact x (C.trans B.symm)
   .cases y
  .cases z
theorem Sg.Sk{lt:Bool}{ED:NK}{us':List OV}(S:Sg E ss O F H)(hi:ss[i]?=some (.ow lt (.nd nk a0 us)))(f:Fin ⟨[],F,H,(OV.nd nk a0 us).addrs⟩ F' H')(r:B0 F' H' (.ref a0) (.nd ED a0 us'))(nd:(OV.nd ED a0 us').addrs.Nodup)(q:∀a∈(OV.nd ED a0 us').addrs,F' a=none/\(H a=none∨a∈(OV.nd nk a0 us).addrs)):
  Pl E ss O i lt (.nd nk a0 us) (.nd ED a0 us') F H F' H':=by
 obtain⟨L,e0,M,Cu,x⟩:=S.ok i _ hi;have Q:L=.ref a0:=by cases M;rfl
 subst Q;have J:i<ss.length:=(List.getElem?_eq_some_iff.mp hi).1;have kp:∀a o,a∉(OV.nd nk a0 us).addrs->H a=some o->H' a=some o:=λa o n e=>f.keep a o ⟨Ak,n⟩ e;have CA:∀a,H a≠none->F a=none->F' a=none:=λa h1 h2=>by
  cases e:F' a with
  |none=>rfl
  |some o=>
   rcases f.fresh a o e with z|z
   .rw[show F a=some o from z]at h2;cases h2
   .exact absurd z h1
 have K:∀a,a∈E.A->a∉(OV.nd nk a0 us).addrs:=λa h m=>by
  rcases(x a m).2 with z|⟨_,z⟩
  .exact S.a0 a h z
  .exact(S.b0 a z).2 h
 have d:∀(j:Nat)s,j≠i->ss[j]?=some s->∀a,BJ s O[j]? a->a∉(OV.nd nk a0 us).addrs:=λj s g v a ho m=>S.CN j i s _ a g v hi ho m;refine⟨⟨⟨f.fh,S.f0.trans f.f0,λa o h e=>?_,λa o e=>?_,λa h=>?_,λa h=>?_,S.a0,λa w=>?_,λa w=>?_,S.b0⟩,by rw[MT];exact S.len,λj s g=>?_,λj k s u b Ra g hk B y=>?_⟩,f.f0,λa o _ n e=>kp a o n e,λa o e=>f.fresh a o e⟩
 .refine kp a o (λm=>?_) (S.keep a o h e);rcases(x a m).2 with z|⟨_,z⟩
  .rw[e]at z;cases z
  .exact h.2 z
 .rcases f.fresh a o e with z|z
  .exact S.fresh a o z
  .exact .inr (S.DU z)
 .exact Bf.keep (S.Hz a h) λo e=>kp a o (K a h) e
 .obtain⟨_,_,t,_⟩:=S.Hz a h;exact CA a (by rw[t];simp) (S.Qd a h)
 .exact CA a (S.bH a w) (S.bF a w)
 .by_cases m:a∈(OV.nd nk a0 us).addrs
  .exact f.bH a m
  .intro z;cases e:H a with
   |none=>exact S.bH a w e
   |some o=>rw[kp a o m e]at z;cases z
 .by_cases c:j=i
  .subst c;rw[DP J]at g;cases g;refine⟨.ref a0,e0,r,nd,λa D=>⟨(q a D).1,?_⟩⟩;rcases(q a D).2 with z|z
   .exact .inl (S.DU z)
   .exact(x a z).2
  .rw[DH (CC c)]at g
   by_cases np:s=.AZ
   .subst np;obtain⟨l,e,P,σ,pt⟩:=S.ok j _ g;obtain⟨_,_,t,_⟩:=id pt;exact⟨l,e,CA l (by rw[t];simp) P,σ,Bf.keep pt λo z=>kp l o (d j _ c g l e) z⟩
   .exact Ok.go S g f.f0 (λa o ho e=>kp a o (d j s c g a ho) e) CA np
 .have at_:∀(n:Nat)s,(ss.set i (.ow lt (.nd ED a0 us')))[n]?=some s->(n=i/\s=.ow lt (.nd ED a0 us'))∨(n≠i/\ss[n]?=some s):=λn s p=>by
   by_cases c:n=i
   .subst c;rw[DP J]at p;exact .inl ⟨rfl,(BY p).symm⟩
   .rw[DH (CC c)]at p;exact .inr ⟨c,p⟩
  have I:∀(n:Nat)s,n≠i->ss[n]?=some s->BJ s O[n]? b->b∉(OV.nd ED a0 us').addrs:=λn s p v ho m=>by
   rcases(q b m).2 with z|z
   .exact S.EL v ho z
   .exact d n s p v b ho z
  rcases at_ j s g with⟨t,rfl⟩|⟨N,h1⟩
  .rcases at_ k u hk with⟨G,rfl⟩|⟨C,h2⟩
   .exact Ra (t.trans G.symm)
   .exact I k u C h2 y B
  .rcases at_ k u hk with⟨G,rfl⟩|⟨C,h2⟩
   .exact I j s N h1 B y
   .exact S.CN j k s u b Ra h1 h2 B y
section
variable[Xw]
variable{ta:TA}{lt:Bool}{t:OV}{nx:List Slot->Prop}{R:Ap}
theorem GA{k:List Slot->Prop}(h:k []):NO ss BE k:=⟨λE O F H Q S q=>q [] [] F H (Mv.refl S) .nil h⟩
theorem Jz{k:List Slot->Prop}(h:Wp ss te λp=>NO ss ta λl=>k (.is p::l)):NO ss (Ah te ta) k:=⟨λE O F H Q S q=>
 h.go E O F H _ S λv p F1 H1 c r h2=>h2.go E O F1 H1 _ c.st λvs l F2 H2 b a kk=>q _ _ F2 H2 (c.trans b) (.cons (r.mono b.ff) a) kk⟩
theorem MK{k:List Slot->Prop}(hi:ss[i]?=some (.ow lt t))(h:NO ss ta λl=>k (.ow true t::l)):UC ss i t (Ah (Au i) ta) k:=⟨λE O F H Q S q=>by
 obtain⟨c,e0,_⟩:=S.ok i _ hi;exact⟨_,e0,h.go E O F H _ S λvs l F2 H2 b a kk=>q _ _ F2 H2 b (.here e0 a) kk⟩⟩
theorem Dz{k:List Slot->Prop}(h:Wp ss te λp=>UC ss i t ta λl=>k (.is p::l)):UC ss i t (Ah te ta) k:=⟨λE O F H Q S q=>
 h.go E O F H _ S λv p F1 H1 c r h2=>h2.go E O F1 H1 _ c.st λvs l F2 H2 b a kk=>q _ _ F2 H2 (c.trans b) (.there (r.mono b.ff) a) kk⟩
theorem Mv.dH{F1 H1 F2 H2:Hp}(hi:ss[i]?=some (.ow lt t))(a:Mv E ss O F H F1 H1)(b:Pl E ss O i lt t t' F1 H1 F2 H2):Pl E ss O i lt t t' F H F2 H2:=
 ⟨b.st,a.ff.trans b.ff,λc o n z e=>b.hh c o n z (a.hh c o n e),λc o e=>(b.nn c o e).elim (λe=>a.nn c o e) λe=>.inr (a.none e)⟩
theorem LJ{k:PV->OV->Prop}(hi:ss[i]?=some (.ow lt (.nd nk a0 us)))(h:UC ss i (.nd nk a0 us) ta λl=>∃b,pre l (.mt b)/\∀p t',b p t'->∃ED us',t'=.nd ED a0 us'/\k p t'):Wm ss i lt (.nd nk a0 us) (DK (BM pre) [] E0 ta) k:=⟨λE O F H Q S q=>
 h.go E O F H _ S λvs l F1 H1 c a⟨b,j,kk⟩=>by
  rw[CB];refine⟨l,.mt b,F1,[],(OV.nd nk a0 us).addrs,j,c.st.SV hi a,λv F' H' f⟨p,t',r,d,nd,e,kp⟩=>?_⟩;obtain⟨ED,us',rfl,g⟩:=kk p t' kp;exact q v p _ F' H' (c.dH hi (c.st.Sk hi f d nd e)) r g⟩
theorem yp{k:Bool->OV->Prop}(h:Wm ss i lt t te λp t'=>∃c,p=.bl c/\k c t'):gB ss i lt t (LV te) k:=⟨λE O F H Q S q=>
 h.go E O F H _ S λv p t' F1 H1 a r AG=>by
  obtain⟨c,e,kk⟩:=AG;subst e;cases r.inv;exact⟨c,rfl,q c t' F1 H1 a kk⟩⟩
theorem OC(h:Wm ss i lt t te λ_ t'=>nx (ss.set i (.ow lt t'))):Ws ss (IW te) nx R:=⟨λE D O F H S b c=>
 h.go E O F H _ S λv p t' F1 H1 a r kk=>b _ O F1 H1 kk a.st a.ff⟩
theorem OZ(h:Wm ss i lt t te λp t'=>nx ((ss.set i (.ow lt t')).set j (.is p))):Ws ss (Ei te (C7 j)) nx R:=⟨λE D O F H S b c=>
 h.go E O F H _ S λv p t' F1 H1 a r kk=>b _ _ F1 H1 kk (a.st.EM r) a.ff⟩
theorem Lc{k:PV->OV->Prop}(hi:ss[i]?=some (.ow lt (.nd nk a0 us)))(h:Wp ss te λp=>k p (.nd nk a0 us)):Ws ss (IA te) nx (.mt k):=⟨λE D O F H S l g=>
 h.go E O F H _ S λv p F1 H1 d r kk=>by
  obtain⟨f,e0,b,Cu,c⟩:=d.st.ok i _ hi;have j:f=.ref a0:=by cases b;rfl
  subst j;exact g v F1 H1 d.st.toFin ⟨p,.nd nk a0 us,r,b,Cu,λa e=>⟨(c a e).1,(c a e).2.imp id λz=>z.2⟩,kk⟩⟩
end
theorem RZ{t:TS}(h:BM pre vs H Q X)(b:∀ss R,pre ss R->ss.length=n)
  (hw:∀ss R,pre ss R->Ws (ss++List.replicate (N.length - n) .any) t (λ_=>False) R):t { nx:=λ_ H'=>Q .AE H',rt:=Q } (L2.start N vs) H:=by
 obtain⟨ss,R,F,A,B,a,S,q⟩:=h;have e:vs.length=n:=by have:=S.len;rw[AD]at this;rw[<- this];exact b ss R a
 unfold L2.start;rw[e];exact(hw ss R a).go (PZ ⟨A,F,H,B⟩) _ _ F H (S.grown _) (λA9 σ' F' H' z S' _=>z.elim) λv F' H' f ok=>q v F' H' f ok
theorem IU(b:∀ss R,pre ss R->ss.length=n)(h:BM pre vs H Q X):vs.length=n:=by
 obtain⟨ss,R,F,A,B,a,S,q⟩:=h;have:=S.len;rw[AD]at this;rw[<- this];exact b ss R a
end Fz
namespace L2
section
variable{X:Cx}{o i value:Expr}{td ty tv:TE}{pos pos':Pos}
theorem Jp(j:X.A.units+1<cLine)(ho:QE X o td)(hi:QE X i ty)(k:Z1 i):QE X (.Subscript o i pos) (S6 td ty):=⟨by
 have ho:=ho.h;have hi:=hi.h;intro ZB s O H Q I h;refine sD PySem.F.slot_dict_getitem.lookup k (AO (ho ZB s O H _ I h) λu b⟨x,H1,I1,d,f⟩=>AO (hi ZB b O H1 _ I1 f) λn s2⟨y,H2,I2,c,a,v,ex,g,e⟩=>?_);subst ex;obtain rfl:u=Value.ref a:=d;exact⟨ZFU I2 g,se j I2 g c λl m I3 GD=>⟨v,H2,I3,GD,e⟩⟩⟩
theorem Ow(m:X.A.units+1<cLine)(ho:QE X o td)(hi:QE X i ty)(b:QE X value tv)(n:swapsWith value (some (.Subscript o i pos')) pos.line X.env=pure false:=by rfl):
  QS X (.Assign [.Subscript o i pos'] value pos) (UJ td ty tv):=⟨by
 have ho:=ho.h;have hi:=hi.h;have b:=b.h;intro ZB s O H D I h;refine wpAny_Assign_Subscript (AO (b ZB s O H _ I h) λr c⟨v,H1,I1,f,l⟩=>AO (ho ZB c O H1 _ I1 l) λu s2⟨x,H2,I2,e,k⟩=>AO (hi ZB s2 O H2 _ I2 k) λq p⟨y,H3,I3,d,a,H4,ex,g,j⟩=>?_) n;subst ex;obtain rfl:u=Value.ref a:=e;exact qx m I3 g d f λs4 I4=>⟨O,H4,I4,j⟩⟩
theorem TF:QE X (.Dict [] [] pos) Ww:=⟨λZB s O H Q I h=>
 wpAny_Dict_empty ⟨.ref s.heap.objs.size,_,I.laid (a:=s.heap.objs.size) (o:=.dK []) (t':=s.toks) (λ_ _ q=>CG _ q) (As _) (iK s.heap I.big),rfl,h _ (I.AY.fresh (As _))⟩⟩
end
end L2
namespace Fz
open L2 Lw
variable{F F0 H H0:Hp}{ss:List Slot}{ta td tv ty:TE}{nx:List Slot->Prop}{R:Ap}{i:Nat}{ks:List Key}{Bs vs:List V}{C a dx:Addr}{us us':List OV}{E:Ent0}{O:L2.St}{m p:List Nat}{u w:OV}{f:Str}{ns:List Str}{pre:Pre}
noncomputable def JJ:Key->PV
 | .inl i=>.int i
 | .inr x=>.str x
noncomputable def Io:List Key->List PV->Key->Option PV
 |k'::ks,x::xs,k=>if k'=k then some x else Io ks xs k
 |_,_,_=>none
def Gp(ks:List Key)(k:Key):Bool:=ks.any λa=>decide (a=k)
def LU(ks:List Key)(k:Key):List Key:=if Gp ks k=true then ks else ks++[k]
theorem PF{v:V}{k:Key}(r:Rep F v (JJ k)):v=kV k:=by
 cases k with
 |inl i=>cases r.inv;rfl
 |inr x=>cases r.inv;rfl
theorem ZEl{k:Key}{y:PV}:∀{ks:List Key}{vs:List V}{xs:List PV},AR F vs xs->ks.length=vs.length->Io ks xs k=some y->∃v,EA (ks.zip vs) k=some v/\Rep F v y:=by
 intro ks
 induction ks with
 |nil=>intro vs xs _ _ h;cases h
 |cons d ks e=>
  intro vs xs r f h;cases xs with
  |nil=>cases h
  |cons x xs=>
   obtain⟨v,ws,rfl,a,b⟩:=r.inv;have h:(if d=k then some x else Io ks xs k)=some y:=h
   rw[Im]
   by_cases c:d=k
   .rw[pT c]at h;cases h;exact⟨v,O5 c,a⟩
   .rw[pL c]at h;obtain⟨w,h1,h2⟩:=e b (Qu f) h;exact⟨w,by rw[P6 c];exact h1,h2⟩
section
variable[Xw]
variable{k:PV->Prop}{lt:Bool}
theorem MB(h:Wp ss td λp=>∃ks xs,p=.BD ks xs/\Wp ss ty λq=>∃a y,q=JJ a/\Io ks xs a=some y/\k y):Wp ss (S6 td ty) k:=⟨λE O F H Q S q=>
 h.go E O F H _ S λv p F1 H1 d g⟨ks,xs,e,h2⟩=>h2.go E O F1 H1 _ d.st λo p2 F2 H2 c f⟨a,y,m,i,kk⟩=>by
  subst e;subst m;have n:=g.mono c.ff;cases n with
  |BD l j rr=>
   obtain⟨w,hw,b⟩:=ZEl rr j i;refine⟨_,w,rfl,?_,q w y F2 H2 (d.trans c) b kk⟩;rw[<- hw,PF f];exact Ee.k (c.st.fh _ _ l)⟩
theorem Ue{k:List Nat->OV->Prop}(h:∀a,k [] (.nd (.BD []) a (([]:List PV).map .fz))):Wx ss Ww k:=⟨λE O F H Q S q p b=>by
 have m:=S.make b (.dK []);refine q _ [] (.nd (.BD []) p (([]:List PV).map .fz)) F _ m (.nd (k:=.BD []) (vs:=[]) BC trivial rfl .nil) (by rw[OV.DE];simp[NK.more,OV.G6]) (λa c=>?_) (h p);rw[OV.DE]at c;have e:a=p:=by simpa[NK.more,OV.G6]using c
 subst e;exact⟨S.CA b,S.DU b,.inr b⟩⟩
theorem Zm:∀{ks:List Key}{vs:List V}{a:Key},ks.length=vs.length->(ks.zip vs).any (λb=>decide (b.1=a))=Gp ks a
 | [],vs,a,h=>rfl
 |k'::ks,w::vs,a,h=>by
  rw[Im,MR,Zm (by simpa using h)]
  rfl
 |_::_,[],_,h=>by simp at h
noncomputable def HB:List Key->List V->Key->V->List V
 |k'::ks,x::xs,k,p=>(if k'=k then p else x)::HB ks xs k p
 |_,xs,_,_=>xs
theorem kL:∀{ks:List Key}{vs:List V}{a:Key}{v:V},(ks.zip vs).map (λb=>if b.1=a then(b.1,v)else b)=ks.zip (HB ks vs a v)
 | [],vs,a,v=>by simp
 |k'::ks,w::vs,a,v=>by
  rw[Im,Ae,kL,HB,Im]
  by_cases c:k'=a
  .rw[pT c,pT c]
  .rw[pL c,pL c]
 |_::_,[],_,_=>by simp[HB]
end
noncomputable def G5:List Key->Key->Option Nat
 | [],_=>none
 |k'::ks,k=>if k'=k then some 0 else(G5 ks k).map (· + 1)
theorem cB:∀{ks:List Key}{a:Key}{n:Nat},G5 ks a=some n->ks[n]?=some a
 | [],_,_,h=>by cases h
 |k'::ks,a,n,h=>by
  rw[G5]at h
  by_cases c:k'=a
  .rw[pT c]at h;cases h;subst c;rfl
  .rw[pL c]at h;cases e:G5 ks a with
   |none=>rw[e]at h;cases h
   |some m=>rw[e]at h;cases h;exact cB (ks:=ks) e
theorem WJ:∀{ks:List Key}{a:Key},(G5 ks a).isSome=Gp ks a
 | [],_=>rfl
 |k'::ks,a=>by
  rw[G5];unfold Gp;rw[MR]
  by_cases c:k'=a
  .rw[pT c,pf c];rfl
  .rw[pL c,qD c,Bool.false_or,bQ,WJ];rfl
theorem Zj{a:Key}(b:ks.length=vs.length):(EA (ks.zip vs) a).isSome=Gp ks a:=by
 rw[<- Tc,Zm b]
theorem gz:∀{ks:List Key}{vs:List V}{a:Key}{n:Nat}{v:V},ks.Nodup->G5 ks a=some n->HB ks vs a v=vs.set n v
 | [],_,_,_,_,_,h=>by cases h
 |k'::ks,[],a,n,v,_,h=>by rw[HB];simp;simp
 |k'::ks,w::vs,a,n,v,nd,h=>by
  rw[G5]at h;obtain⟨g,f⟩:=List.nodup_cons.mp nd;rw[HB]
  by_cases c:k'=a
  .rw[pT c]at h;cases h;rw[pT c,nc]
   congr 1
   subst c;have b:∀{ks:List Key}{vs:List V},k'∉ks->HB ks vs k' v=vs:=by
    intro ks
    induction ks with
    |nil=>intro vs _;rw[HB];simp
    |cons j ks i=>
     intro vs d;cases vs with
     |nil=>rw[HB];simp
     |cons u vs=>
      rw[HB,pL (λz=>d (by rw[z];simp)),i (λz=>d (by simp[z]))]
   exact b g
  .rw[pL c]at h;cases e:G5 ks a with
   |none=>rw[e]at h;cases h
   |some m=>
    rw[e]at h;cases h;rw[pL c,Qr,gz f e]
section
variable[Xw]
variable{k:PV->Prop}{t:OV}
theorem fT(h:Wp ss ty λq=>Wl ss i t td λ_ u=>∃ks a us b,u=.nd (.BD ks) a us/\q=JJ b/\k (.bl (Gp ks b))):Wp ss (Sd ty td) k:=⟨λE O F H Q S q=>
 h.go E O F H _ S λv p F1 H1 c e h2=>h2.go E O F1 H1 _ c.st λn p2 u F2 H2 f d B6 AG=>by
  obtain⟨ks,a,us,b,l,m,kk⟩:=AG;subst l;subst m;obtain⟨vs,rfl,g,o,j,rr⟩:=d.inv;refine⟨a,EA (ks.zip vs) b,rfl,by rw[PF e];exact Ee.k g,?_⟩;rw[Zj j];exact q _ _ F2 H2 (c.trans f) (.bl _) kk⟩
theorem ZAY(h:Wp ss ty λq=>Wp ss td λu=>∃ks xs b,u=.BD ks xs/\q=JJ b/\k (.bl (Gp ks b))):Wp ss (Sd ty td) k:=⟨λE O F H Q S q=>
 h.go E O F H _ S λv p F1 H1 d f h2=>h2.go E O F1 H1 _ d.st λm u F2 H2 c e AG=>by
  obtain⟨ks,xs,b,i,j,kk⟩:=AG;subst i;subst j;cases e with
  |@BD a _ vs _ l g rr=>
   refine⟨a,EA (ks.zip vs) b,rfl,by rw[PF f];exact Ee.k (c.st.fh _ _ l),?_⟩;rw[Zj g];exact q _ _ F2 H2 (d.trans c) (.bl _) kk⟩
theorem ZBl(h:Wp ss ty λq=>Wp ss td λu=>∃ks xs b,u=.BD ks xs/\q=JJ b/\k (.bl (!Gp ks b))):Wp ss (Tn ty td) k:=⟨λE O F H Q S q=>
 h.go E O F H _ S λv p F1 H1 d f h2=>h2.go E O F1 H1 _ d.st λm u F2 H2 c e AG=>by
  obtain⟨ks,xs,b,i,j,kk⟩:=AG;subst i;subst j;cases e with
  |@BD a _ vs _ l g rr=>
   refine⟨a,EA (ks.zip vs) b,rfl,by rw[PF f];exact Ee.k (c.st.fh _ _ l),?_⟩;rw[Zj g];exact q _ _ F2 H2 (d.trans c) (.bl _) kk⟩
theorem Ni:(OV.nd (.BD ks) a us).addrs=a::OV.Al us:=by rw[OV.DE];rfl
theorem fW{lt:Bool}:∀(m:List Nat)(ss:List Slot),ss[i]?=some (.ow lt t)->i∉m->(Fz.E2 m ss)[i]?=some (.ow lt t):=by
 intro m
 induction m with
 |nil=>intro ss h _;exact h
 |cons j m b=>
  intro ss h a;refine b _ ?_ λz=>a (by simp[z]);rw[DH (by rintro rfl;exact a (by simp))];exact h
theorem Sg.zF{lt:Bool}{Rx:List Key}(S0:Sg E ss O F0 H0)(S:Sg E ss O F H)(hi:ss[i]?=some (.ow lt t))(B6:t.at p=some (.nd (.BD ks) a us))
  (d:∀a∈u.addrs,F a=none/\E.H0 a=none/\((∃i∈m,∃s,s≠Slot.AZ/\ss[i]?=some s/\BJ s O[i]? a)∨H0 a=none)) (Ec:i∉m)
  (A:BP F H Bs us') (B:Rx.length=Bs.length) (Q9:(OV.Al us').Nodup) (II:∀b∈OV.Al us',b∈OV.Al us∨b∈u.addrs):Sg E ((Fz.E2 m ss).set i (.ow lt (t.put p (.nd (.BD Rx) a us')))) O F (upd H a (.dK (Rx.zip Bs))):=by
 have I:=fW m ss hi Ec;obtain⟨v,e,r,nd,q⟩:=S.ok i _ hi;have n:∀b,b∈a::OV.Al us->b∈t.addrs:=λb c=>OV.Ih B6 b (by rw[Ni];exact c);have G:∀b∈u.addrs,b∉t.addrs:=λb c z=>by
  rcases(d b c).2.2 with⟨j,C,s,_,f,o⟩|w
  .exact S.CN j i s _ b (by rintro rfl;exact Ec C) f hi o z
  .exact S0.EL hi z w
 have h:(OV.nd (.BD ks) a us).addrs.Nodup:=by
  obtain⟨l,rr,D,_⟩:=OV.split B6;rw[D,Cp,Cp]at nd;exact nd.1.2.1
 rw[Ni]at h;have g:∀b∈OV.Al us',b≠a:=λb c z=>by
  subst z;rcases II b c with w|w
  .exact(List.nodup_cons.mp h).1 w
  .exact G b w (n b (by simp))
 refine(S.E2 m).T3 I B6 (.nd (k:=.BD Rx) BC trivial B (A.mono (AU.refl _) λb c o ho=>by rw[An (g b c)];exact ho)) (by rw[Ni];exact List.nodup_cons.mpr ⟨λz=>g a z rfl,Q9⟩) λb c=>?_;rw[Ni]at c ⊢;rcases List.mem_cons.mp c with w|w
 .exact .inl (by simp[w])
 .rcases II b w with z|z
  .exact .inl (by simp[z])
  .refine .inr ⟨(d b z).1,(d b z).2.1,λj s f o=>?_⟩;rcases QQ f with y|⟨HI,hm⟩
   .subst y;cases o
   .rcases(d b z).2.2 with⟨i2,EK,s2,_,DD,x⟩|y
    .exact S.CN j i2 s s2 b (by rintro rfl;exact hm EK) HI DD o x
    .exact S0.EL HI o y
def Jq(ks:List Key)(us:List OV)(a:Key)(w:OV):List OV:=match G5 ks a with
 |some n=>us.set n w
 |none=>us++[w]
theorem U8(h:Wx ss tv λm w=>Wl ss i t td λp u=>∃lt a ks us,ss[i]?=some (.ow lt t)/\u=.nd (.BD ks) a us/\us.length<=99999/\ks.Nodup/\i∉m/\Wp ss ty λq=>∃d,q=JJ d/\nx ((Fz.E2 m ss).set i (.ow lt (t.put p (.nd (.BD (LU ks d)) a (Jq ks us d w)))))):Ws ss (UJ td ty tv) nx R:=⟨λE D O F H S hn hr=>
 h.go E O F H _ S λv m w F1 H1 Q σ HM G h2=>h2.go E O F1 H1 _ Q.st λZ p u F2 H2 K N B6⟨lt,a,ks,us,hi,eu,hz,hk,Ec,h3⟩=>h3.go E O F2 H2 _ K.st λv3 q F3 H3 C r3⟨d,eq,kk⟩=>by
  subst eu;subst eq;have ev:Z=.ref a:=by cases N;rfl
  subst ev;have I:=K.trans C;have np:∀b∈w.addrs,C6 ss O b:=λb f k hk U=>by
   rcases(G b f).2.2 with⟨j,T,s,L,P5,o⟩|z
   .exact S.CN j k s _ b (λe=>by subst e;rw[P5]at hk;exact L (BY hk)) P5 hk o U
   .exact S.EL hk U z
  have Y:B0 F3 H3 v w:=σ.mono I.ff λb f o e=>I.hh b o (np b f) e;have Of:∀b∈w.addrs,F3 b=none/\E.H0 b=none/\((∃i∈m,∃s,s≠Slot.AZ/\ss[i]?=some s/\BJ s O[i]? b)∨H b=none):=λb f=>by
   refine⟨?_,(G b f).2⟩;cases e:F3 b with
   |none=>rfl
   |some o=>
    rcases I.nn b o e with z|z
    .rw[(G b f).1]at z;cases z
    .exact absurd z (σ.there b f)
  have r4:=N.mv K.st ⟨lt,hi⟩ B6 C;cases r4 with
  |@nd _ _ vs _ ha sd ft rr=>
   have J:ks.length=vs.length:=ft;have vl:=rr.length;have aB:(ks.zip vs).length<=99999:=by rw[Qo];omega
   refine⟨a,_,rfl,by rw[PF r3];exact Kc.k ha (HK aB),?_⟩;obtain⟨v0,e0,r0,Cu,q0⟩:=C.st.ok i _ hi;have M:(OV.nd (.BD ks) a us).addrs.Nodup:=by
    obtain⟨l,rr,A,_⟩:=OV.split B6;rw[A,Cp,Cp]at Cu;exact Cu.1.2.1
   rw[Ni]at M;have g:∀b∈w.addrs,b∉OV.Al us:=λb f z=>by
    have X:b∈t.addrs:=OV.Ih B6 b (by rw[Ni];simp[z]);rcases(G b f).2.2 with⟨j,T,s,_,L,o⟩|y
    .exact S.CN j i s _ b (by rintro rfl;exact Ec T) L hi o X
    .exact S.EL hi X y
   obtain⟨Bs,ep,Qe,HU,Ed,sb⟩:∃Bs:List V,putK (ks.zip vs) d v=(LU ks d).zip Bs/\(LU ks d).length=Bs.length/\BP F3 H3 Bs (Jq ks us d w)/\(OV.Al (Jq ks us d w)).Nodup/\∀b∈OV.Al (Jq ks us d w),b∈OV.Al us∨b∈w.addrs:=by
    unfold putK LU Jq;rw[Zm J];cases e:G5 ks d with
    |some n=>
     have c:Gp ks d=true:=by rw[<- WJ,e];rfl
     have PY:n<us.length:=by
      have:=(List.getElem?_eq_some_iff.mp (cB e)).1;omega
     obtain⟨l,r,A,W⟩:=JQ (AX PY);rw[pT c,pT c,kL,gz hk e];refine⟨vs.set n v,rfl,by rw[MT];exact J,rr.set n Y,?_,λb f=>?_⟩
     .show(OV.Al (us.set n w)).Nodup;rw[W];have P:=(List.nodup_cons.mp M).2;rw[A]at P;exact UL P HM λb f=>.inr (by rw[<- A];exact g b f)
     .have B:b∈OV.Al (us.set n w):=f;rw[W]at B;rcases List.mem_append.mp B with z|z
      .rcases List.mem_append.mp z with z|z
       .exact .inl (by rw[A];simp[z])
       .exact .inr z
      .exact .inl (by rw[A];simp[z])
    |none=>
     have c:¬ Gp ks d=true:=by rw[<- WJ,e];decide
     rw[pL c,pL c];refine⟨vs++[v],by rw[List.zip_append J];rfl,by rw[Bt,Bt,J];rfl,rr.append (.one Y),?_,λb f=>?_⟩
     .show(OV.Al (us++[w])).Nodup;rw[K2,LD,Cp];exact⟨(List.nodup_cons.mp M).2,HM,λx hx y hy e=>g y hy (e▸hx)⟩
     .have B:b∈OV.Al (us++[w]):=f;rw[K2,LD]at B;exact List.mem_append.mp B
   rw[ep];exact hn _ O F3 _ kk (Sg.zF (u:=w) S C.st hi B6 Of Ec HU Qe Ed sb) (Q.ff.trans I.ff)⟩
end
noncomputable def DC:List Str->Str->Option Nat
 | [],_=>none
 |g::ns,f=>if g=f then some 0 else(DC ns f).map (· + 1)
def LA(ns:List Str)(f:Str):List Str:=match DC ns f with
 |some _=>ns
 |none=>ns++[f]
def PJ(ns:List Str)(us:List OV)(f:Str)(w:OV):List OV:=match DC ns f with
 |some n=>us.set n w
 |none=>us++[w]
def Jj(ns:List Str)(vs:List V)(f:Str)(w:V):List V:=match DC ns f with
 |some n=>vs.set n w
 |none=>vs++[w]
theorem YS:∀{ns:List Str}{f:Str}{n:Nat},DC ns f=some n->n<ns.length
 | [],_,_,h=>by cases h
 |g::ns,f,n,h=>by
  rw[DC]at h
  by_cases c:g=f
  .rw[pT c]at h;cases h;exact Qv _
  .rw[pL c]at h;cases e:DC ns f with
   |none=>rw[e]at h;cases h
   |some m=>rw[e]at h;cases h;exact Nat.succ_lt_succ (YS e)
theorem R0:∀{ns:List Str}{vs:List V}{f:Str}{n:Nat}{v:V},DC ns f=some n->vs[n]?=some v->(ns.zip vs).lookup f=some v
 | [],_,_,_,_,h,_=>by cases h
 |g::ns,[],f,n,v,h,hv=>by simp at hv
 |g::ns,w::vs,f,n,v,h,hv=>by
  rw[DC]at h;rw[Im]
  by_cases c:g=f
  .rw[pT c]at h;cases h;simp at hv;subst c;rw[List.lookup_cons_self,hv]
  .rw[pL c]at h;cases e:DC ns f with
   |none=>rw[e]at h;cases h
   |some m=>
    rw[e]at h;cases h;rw[Ht];have:(f == g)=false:=by simpa using λz=>c z.symm
    rw[this];exact R0 e (by simpa using hv)
theorem Za:∀{ns:List Str}{vs:List V}{f:Str}{v:V},ns.length=vs.length->Dn f v (ns.zip vs)=(LA ns f).zip (Jj ns vs f v)/\(LA ns f).length=(Jj ns vs f v).length
 | [],[],f,v,_=>by simp[Dn,LA,Jj,DC]
 | [],_::_,_,_,h=>by simp at h
 |_::_,[],_,_,h=>by simp at h
 |g::ns,w::vs,f,v,h=>by
  obtain⟨i1,i2⟩:=Za (ns:=ns) (vs:=vs) (f:=f) (v:=v) (by simpa using h)
  rw[Im];rw[show Dn f v ((g,w)::ns.zip vs)=(if g=f then(g,v)::ns.zip vs else(g,w)::Dn f v (ns.zip vs))from rfl]
  unfold LA Jj at i1 i2 ⊢;rw[DC]
  by_cases c:g=f
  .rw[pT c,pT c];exact⟨by simp,by simpa using h⟩
  .rw[pL c,pL c,i1];cases e:DC ns f with
   |none=>rw[e]at i2;exact⟨by simp,by simpa using i2⟩
   |some m=>rw[e]at i2;exact⟨by simp,by simpa using i2⟩
section
variable[Xw]
variable{k:PV->Prop}{t:OV}{K:ZHa}
theorem ML{k:List Nat->OV->Prop}(h:Wl ss i t ta λp u=>∃C dx ns a us n w,u=.nd (.obj C dx ns) a us/\Bo K C/\BQ K C f/\DC ns f=some n/\us[n]?=some w/\k (p++[n]) w):Wl ss i t (JL K ta f) k:=⟨h.hi,λE O F H Q S q=>
 h.go E O F H _ S λv p u F1 H1 d c h1 AG=>by
  obtain⟨C,dx,ns,a,us,n,w,l,g,e,hx,hw,kk⟩:=AG;subst l;obtain⟨vs,rfl,j,m,o,rr⟩:=c.inv;obtain⟨x,JB,b⟩:=rr.get hw;exact⟨a,C,dx,ns.zip vs,x,rfl,j,g,e,R0 hx JB,q x (p++[n]) w F1 H1 d b (OV.OU h1 (by rw[OV.Kq,hw];exact OV.JR)) kk⟩⟩
theorem Jn:(OV.nd (.obj C dx ns) a us).addrs=a::dx::OV.Al us:=by rw[OV.DE];rfl
theorem Sg.cy{lt:Bool}{L0:List Str}(S0:Sg E ss O F0 H0)(S:Sg E ss O F H)(hi:ss[i]?=some (.ow lt t))(B6:t.at p=some (.nd (.obj C dx ns) a us))(Qa:H dx=some (.own a))
  (d:∀a∈u.addrs,F a=none/\E.H0 a=none/\((∃i∈m,∃s,s≠Slot.AZ/\ss[i]?=some s/\BJ s O[i]? a)∨H0 a=none)) (Ec:i∉m)
  (J:BP F H Bs us') (K:L0.length=Bs.length) (Q9:(OV.Al us').Nodup) (II:∀b∈OV.Al us',b∈OV.Al us∨b∈u.addrs):Sg E ((Fz.E2 m ss).set i (.ow lt (t.put p (.nd (.obj C dx L0) a us')))) O F (upd H a (.ins C dx (L0.zip Bs))):=by
 have N:=fW m ss hi Ec;obtain⟨v,e,r,nd,q⟩:=S.ok i _ hi;have g:∀b,b∈a::dx::OV.Al us->b∈t.addrs:=λb c=>OV.Ih B6 b (by rw[Jn];exact c);have A:∀b∈u.addrs,b∉t.addrs:=λb c z=>by
  rcases(d b c).2.2 with⟨j,L,s,_,f,o⟩|w
  .exact S.CN j i s _ b (by rintro rfl;exact Ec L) f hi o z
  .exact S0.EL hi z w
 have B:(OV.nd (.obj C dx ns) a us).addrs.Nodup:=by
  obtain⟨l,rr,M,_⟩:=OV.split B6;rw[M,Cp,Cp]at nd;exact nd.1.2.1
 rw[Jn]at B;obtain⟨n,I⟩:=List.nodup_cons.mp B;obtain⟨G,σ⟩:=List.nodup_cons.mp I;have h:∀b∈OV.Al us',b≠a:=λb c z=>by
  subst z;rcases II b c with w|w
  .exact n (by simp[w])
  .exact A b w (g b (by simp))
 have Rt:∀b∈OV.Al us',b≠dx:=λb c z=>by
  subst z;rcases II b c with w|w
  .exact G w
  .exact A b w (g b (by simp))
 have x:dx≠a:=λz=>n (by simp[z]);refine(S.E2 m).T3 N B6 (.nd (k:=.obj C dx L0) BC (show upd H a _ dx=some (.own a) by rw[An x];exact Qa) K (J.mono (AU.refl _) λb c o ho=>by rw[An (h b c)];exact ho)) (by
  rw[Jn];exact List.nodup_cons.mpr ⟨λz=>by
   rcases List.mem_cons.mp z with z|z
   .exact x z.symm
   .exact h a z rfl,List.nodup_cons.mpr ⟨λz=>Rt dx z rfl,Q9⟩⟩) λb c=>?_
 rw[Jn]at c ⊢;rcases List.mem_cons.mp c with w|w
 .exact .inl (by simp[w])
 .rcases List.mem_cons.mp w with w|w
  .exact .inl (by simp[w])
  .rcases II b w with z|z
   .exact .inl (by simp[z])
   .refine .inr ⟨(d b z).1,(d b z).2.1,λj s f o=>?_⟩;rcases QQ f with y|⟨HI,hm⟩
    .subst y;cases o
    .rcases(d b z).2.2 with⟨i2,EK,s2,_,DD,D⟩|y
     .exact S.CN j i2 s s2 b (by rintro rfl;exact hm EK) HI DD o D
     .exact S0.EL HI o y
theorem ZF2{F1 H1 F3 H3:Hp}{v:V}(S:Sg E ss O F H)(KW:Mv E ss O F1 H1 F3 H3)(f:B0 F1 H1 v w)(d:∀a∈w.addrs,F1 a=none/\E.H0 a=none/\((∃i∈m,∃s,s≠Slot.AZ/\ss[i]?=some s/\BJ s O[i]? a)∨H a=none)):
  B0 F3 H3 v w/\∀b∈w.addrs,F3 b=none/\E.H0 b=none/\((∃i∈m,∃s,s≠Slot.AZ/\ss[i]?=some s/\BJ s O[i]? b)∨H b=none):=by
 have np:∀b∈w.addrs,C6 ss O b:=λb c k hk g=>by
  rcases(d b c).2.2 with⟨j,l,s,h,P5,o⟩|z
  .exact S.CN j k s _ b (λe=>by subst e;rw[P5]at hk;exact h (BY hk)) P5 hk o g
  .exact S.EL hk g z
 refine⟨f.mono KW.ff λb c o e=>KW.hh b o (np b c) e,λb c=>⟨?_,(d b c).2⟩⟩;cases e:F3 b with
 |none=>rfl
 |some o=>
  rcases KW.nn b o e with z|z
  .rw[(d b c).1]at z;cases z
  .exact absurd z (f.there b c)
theorem Jr(h:Wx ss tv λm w=>Wl ss i t ta λp u=>∃lt C dx ns a us,ss[i]?=some (.ow lt t)/\u=.nd (.obj C dx ns) a us/\Bo K C/\BQ K C f/\ns.length<1000/\i∉m/\nx ((Fz.E2 m ss).set i (.ow lt (t.put p (.nd (.obj C dx (LA ns f)) a (PJ ns us f w)))))):Ws ss (TX K ta tv f) nx R:=⟨λE D O F H S V hr=>
 h.go E O F H _ S λv m w F1 H1 G Q HM L h2=>h2.go E O F1 H1 _ G.st λN p u F2 H2 q B B6 AG=>by
  obtain⟨lt,C,dx,ns,a,us,hi,eu,X,XX,hz,Ec,kk⟩:=AG;subst eu;have ev:N=.ref a:=by cases B;rfl
  subst ev;obtain⟨HR,Of⟩:=ZF2 S q Q L;cases B with
  |@nd _ _ vs _ Y σ Z rr=>
   have KJ:ns.length=vs.length:=Z;have vl:=rr.length;obtain⟨ep,Qe⟩:=Za (f:=f) (v:=v) KJ;refine⟨a,C,dx,ns.zip vs,rfl,Y,X,XX,by rw[Qo];omega,?_⟩;obtain⟨v0,e0,r0,Cu,q0⟩:=q.st.ok i _ hi;have M:(OV.nd (.obj C dx ns) a us).addrs.Nodup:=by
    obtain⟨l,rr,g,_⟩:=OV.split B6;rw[g,Cp,Cp]at Cu;exact Cu.1.2.1
   rw[Jn]at M;have A:=(List.nodup_cons.mp (List.nodup_cons.mp M).2).2;have c:∀b∈w.addrs,b∉OV.Al us:=λb d z=>by
    have J:b∈t.addrs:=OV.Ih B6 b (by rw[Jn];simp[z]);rcases(L b d).2.2 with⟨j,W,s,_,U,o⟩|y
    .exact S.CN j i s _ b (by rintro rfl;exact Ec W) U hi o J
    .exact S.EL hi J y
   obtain⟨HU,Ed,P⟩:BP F2 H2 (Jj ns vs f v) (PJ ns us f w)/\(OV.Al (PJ ns us f w)).Nodup/\∀b∈OV.Al (PJ ns us f w),b∈OV.Al us∨b∈w.addrs:=by
    unfold Jj PJ;cases e:DC ns f with
    |some n=>
     have PY:n<us.length:=by have:=YS e;omega
     obtain⟨l,r,g,I⟩:=JQ (AX PY);refine⟨rr.set n HR,?_,λb d=>?_⟩
     .show(OV.Al (us.set n w)).Nodup;rw[I];rw[g]at A;exact UL A HM λb d=>.inr (by rw[<- g];exact c b d)
     .have k:b∈OV.Al (us.set n w):=d;rw[I]at k;rcases List.mem_append.mp k with z|z
      .rcases List.mem_append.mp z with z|z
       .exact .inl (by rw[g];simp[z])
       .exact .inr z
      .exact .inl (by rw[g];simp[z])
    |none=>
     refine⟨rr.append (.one HR),?_,λb d=>?_⟩
     .show(OV.Al (us++[w])).Nodup;rw[K2,LD,Cp];exact⟨A,HM,λx hx y T e=>c y T (e▸hx)⟩
     .have k:b∈OV.Al (us++[w]):=d;rw[K2,LD]at k;exact List.mem_append.mp k
   rw[ep];exact V _ O F2 _ kk (Sg.cy (u:=w) S q.st hi B6 σ Of Ec HU Qe Ed P) (G.ff.trans q.ff)⟩
end
theorem Q5:∀{ns:List Str}{vs:List V}{f:Str},DC ns f=none->(ns.zip vs).lookup f=none
 | [],_,_,_=>by simp
 |g::ns,[],f,h=>by simp
 |g::ns,w::vs,f,h=>by
  rw[DC]at h
  by_cases c:g=f
  .rw[pT c]at h;cases h
  .rw[pL c]at h;rw[Im,Ht];have:(f == g)=false:=by simpa using λz=>c z.symm
   rw[this];refine Q5 ?_;cases e:DC ns f with
   |none=>rfl
   |some m=>rw[e]at h;cases h
section
variable[Xw]
variable{te:TE}{ta:TA}{lt:Bool}{t:OV}{K:ZHa}
theorem SJ{a0:Addr}{m:Str}{k:PV->OV->Prop}(hi:ss[i]?=some (.ow lt (.nd (.obj C dx ns) a0 us)))(s:DC ns m=none)(h:NO ss ta λl=>∃b,pre (.ow true (.nd (.obj C dx ns) a0 us)::l) (.mt b)/\∀p t',b p t'->∃ED us',t'=.nd ED a0 us'/\k p t'):
  Wm ss i lt (.nd (.obj C dx ns) a0 us) (Ir C m (BM pre) [] E0 (Au i) ta) k:=⟨λE O F H Q S q=>by
 obtain⟨e,e0,d,_,_⟩:=S.ok i _ hi;have u:e=.ref a0:=by cases d;rfl
 subst u;cases d with
 |@nd _ _ Gu _ t w x rr=>
  refine⟨_,e0,a0,dx,ns.zip Gu,rfl,t,Q5 s,h.go E O F H _ S λvs l F1 H1 c a⟨b,o,kk⟩=>?_⟩;rw[CB];refine⟨.ow true (.nd (.obj C dx ns) a0 us)::l,.mt b,F1,[],(OV.nd (.obj C dx ns) a0 us).addrs,o,c.st.SV hi (.here e0 a),λv F' H' f⟨p,t',r,g,nd,j,kp⟩=>?_⟩;obtain⟨ED,us',rfl,n⟩:=kk p t' kp;exact q v p _ F' H' (c.dH hi (c.st.Sk hi f g nd j)) r n⟩
theorem dz{m:Str}{k:PV->Prop}(h:Wp ss te λo=>∃ns xs,o=.obj C ns xs/\DC ns m=none/\Wa ss ta λl=>∃c,pre (.is o::l) (.is c)/\∀p,c p->k p):Wp ss (Ir C m (AL pre) [] E0 te ta) k:=⟨λE O F H Q S q=>
 h.go E O F H _ S λv o F1 H1 d g⟨ns,xs,t,j,h2⟩=>by
  subst t;cases g with
  |@obj a _ dx _ Gu _ e u n rr=>
   refine⟨a,dx,ns.zip Gu,rfl,d.st.fh _ _ e,Q5 j,h2.go E O F1 H1 _ d.st λvs l F2 H2 b w⟨c,i,kk⟩=>?_⟩;rw[CB];refine⟨.is (.obj C ns xs)::l,.is c,F2,[],i,b.st.OP (.cons (s:=.is _) (Rep.obj (b.ff _ _ e) (b.ff _ _ u) n (rr.mono b.ff)) w),λv F' H' f⟨p,r,kp⟩=>?_⟩;exact q v p F' H' (d.trans (b.trans (b.st.back (λ_ h=>absurd h Ak) f))) r (kk p kp)⟩
theorem JP{k:PV->Prop}(h:Wp ss te λo=>∃C ns xs n y,o=.obj C ns xs/\Bo K C/\BQ K C f/\DC ns f=some n/\xs[n]?=some y/\k y):Wp ss (JL K te f) k:=⟨λE O F H Q S q=>
 h.go E O F H _ S λv o F1 H1 b d AG=>by
  obtain⟨C,ns,xs,n,y,l,j,i,hx,e,kk⟩:=AG;subst l;cases d with
  |@obj a _ dx _ Gu _ m r p rr=>
   obtain⟨u,g,c⟩:=rr.get e;exact⟨a,C,dx,ns.zip Gu,u,rfl,b.st.fh _ _ m,j,i,R0 hx g,q u y F1 H1 b c kk⟩⟩
theorem k6{k:List Nat->OV->Prop}(h:NO ss ta λl=>∀x dx:Addr,∃s,pre (.ow true (.nd (.obj C dx []) x [])::l) (.mt s)/\∀p t',s p t'->p=.AE/\∃L0 us',t'=.nd (.obj C dx L0) x us'/\k [] t'):Wx ss (Yx C (BM pre) [] E0 ta) k:=⟨λE O F H Q S q=>
 h.go E O F H _ S λvs l F1 H1 d P K0 x dx hx Qa Bd=>by
  rw[CB];have G:=d.st.make Qa (.own x);have R:upd H1 dx (.own x) x=none:=by rw[An (CC Bd)];exact hx
  have U:=G.st.make R (.ins C dx []);have K:=G.trans U;have w:∀a o,H1 a=some o->upd (upd H1 dx (.own x)) x (.ins C dx []) a=some o:=λa o e=>by
   rw[An (Di e hx),An (Di e Qa)];exact e
  have A:∀a,upd (upd H1 dx (.own x)) x (.ins C dx []) a=none->H1 a=none:=λa e=>by
   cases z:H1 a with
   |none=>rfl
   |some o=>rw[w a o z]at e;cases e
  have a0:(OV.nd (.obj C dx []) x []).addrs=[x,dx]:=by rw[Jn,OV.G6]
  have J:B0 F1 (upd (upd H1 dx (.own x)) x (.ins C dx [])) (.ref x) (.nd (.obj C dx []) x []):=.nd (k:=.obj C dx []) (vs:=[]) BC (show upd _ x _ dx=some (.own x) by rw[An Bd];exact BC) rfl .nil;have f0:∀a∈(OV.nd (.obj C dx []) x []).addrs,H1 a=none:=λa b=>by
   rw[a0]at b;simp only[G9,Ak,vE]at b;rcases b with rfl|rfl
   .exact hx
   .exact Qa
  have W:(OV.nd (.obj C dx []) x []).addrs.Nodup:=by
   rw[a0];simp[CC Bd]
  have D:=Sg.ja (j:=ss.length) (m:=[]) (v:=.ref x) (u:=.nd (.obj C dx []) x []) (d.st.grown 1) (K.st.grown 1) J W λa b=>⟨d.st.CA (f0 a b),d.st.DU (f0 a b),.inr (f0 a b)⟩;have Y:=d.st.len;have hi:((ss++List.replicate 1 Slot.any).set ss.length (.ow false (.nd (.obj C dx []) x [])))[ss.length]?=some (.ow false (.nd (.obj C dx []) x [])):=DP (by simp);have e0:((O++List.replicate 1 none).set ss.length (some (V.ref x)))[ss.length]?=some (some (.ref x)):=DP (by simp;omega);obtain⟨s,M,kk⟩:=K0 x dx;refine⟨.ow true (.nd (.obj C dx []) x [])::l,.mt s,F1,[],(OV.nd (.obj C dx []) x []).addrs,M,D.SV hi (.here e0 P),λv F' H' f⟨p,t',r,y,nd,t,kp⟩=>?_⟩;obtain⟨rfl,L0,us',rfl,L⟩:=kk p t' kp;have B:=D.Sk hi f y nd t;have at':∀n,n<ss.length->((ss++List.replicate 1 Slot.any).set ss.length (.ow false (.nd (.obj C dx []) x [])))[n]?=ss[n]?:=λn g=>by rw[DH (by omega),DO g]
  have I:∀n,n<ss.length->((O++List.replicate 1 none).set ss.length (some (V.ref x)))[n]?=O[n]?:=λn g=>by rw[DH (by omega),DO (by omega)]
  have np:∀a,H1 a≠none->C6 ss O a->C6 ((ss++List.replicate 1 Slot.any).set ss.length (.ow false (.nd (.obj C dx []) x []))) ((O++List.replicate 1 none).set ss.length (some (V.ref x))) a:=λa _ g n hk=>by
   by_cases c:n<ss.length
   .rw[at' n c]at hk;rw[I n c];exact g n hk
   .by_cases σ:n=ss.length
    .subst σ;rw[hi]at hk;cases hk
    .rw[ZGc (by simp;omega)]at hk;cases hk
  have T:Mv E ss O F1 H1 F' H':=d.st.step B.ff B.st.fh (λa o g e=>B.hh a o (np a (by rw[e];simp) g) (λz=>by rw[f0 a z]at e;cases e) (w a o e)) (λa o e=>(B.nn a o e).imp id (A a)) λn X g N=>by
   have c:n<ss.length:=(List.getElem?_eq_some_iff.mp g).1;refine B.st.Ez (i:=n) ?_ (by rw[I n c];exact N);rw[DH (by omega)];exact(at' n c).trans g
  cases r.inv;refine⟨rfl,q (.ref x) [] _ F' H' (d.trans T) y nd (λa b=>?_) L⟩;have h1:H1 a=none:=(t a b).2.elim (A a) (f0 a);exact⟨(t a b).1,d.st.DU h1,.inr (d.none h1)⟩⟩
end
end Fz
namespace L2
section
variable{X:Cx}{o e value:Expr}{f:Str}{pos pos' JN:Pos}{ta tv:TE}
theorem CT(b:QE X e ta)(i:attributeBase e f X.env (eval e X.env)=eval e X.env:=by rfl):QE X (.Attribute e f pos) (JL X.K ta f):=⟨by
 have b:=b.h;intro ZB s O H Q I h;refine ZB1 i (AO (b ZB s O H _ I h) λu k Dm=>?_);obtain⟨x,H1,I1,d,a,C,dx,fs,v,ex,ea,c,n,l,q⟩:=Dm;subst ex;obtain rfl:u=Value.ref a:=d;exact iy I1 ea c n l λj s2 I2 g=>⟨v,H1,I2,g,q⟩⟩
theorem IS(d:QE X o ta)(b:QE X value tv)(m:swapsWith value (some (.Attribute o f pos')) pos.line X.env=pure false:=by rfl):QS X (.Assign [.Attribute o f pos'] value pos) (TX X.K ta tv f):=⟨by
 have d:=d.h;have b:=b.h;intro ZB s O H D I h;refine plainObj_wpAny_Assign_Attribute (AO (b ZB s O H _ I h) λu e⟨y,H1,I1,g,q⟩=>AO (d ZB e O H1 _ I1 q) λk s2⟨x,H2,I2,i,a,C,dx,fs,ex,ea,c,n,l,j⟩=>?_) m;subst ex;obtain rfl:k=Value.ref a:=i;exact d9 I2 ea c n l g λp I3=>⟨O,_,I3,j⟩⟩
theorem zi{op:Operator}{g:V->V->Hp->VK->Prop}(d:QE X o ta)(b:QE X value tv)(Vy:hJ X op g):QS X (.AugAssign (.Attribute o f JN) op value pos) (OX X.K ta tv g f):=⟨by
 have d:=d.h;have b:=b.h;intro ZB s O H D I h;refine wpAny_AugAssign_AttributeAny (AO (d ZB s O H _ I h) λA G Dm=>?_);obtain⟨x,H1,I1,p,a,C,dx,fs,v,ex,ea,c,n,l,q⟩:=Dm;subst ex;obtain rfl:A=Value.ref a:=p;refine iy I1 ea c n l λu s2 I2 r=>AO (b ZB s2 O H1 _ I2 q) λi j⟨y,H2,I3,m,w⟩=>AO (Vy ZB j O H2 v y u i _ I3 r m w) λE s4 PL=>?_;obtain⟨z,H3,I4,k,KO,Nc,e,B,t⟩:=PL;exact d9 I4 e c n B k λF I5=>⟨O,_,I5,t⟩⟩
end
end L2
namespace Fz
open L2 Lw
section
variable[Xw]
variable{ss:List Slot}{ta tv:TE}{nx:List Slot->Prop}{R:Ap}{i:Nat}{t:OV}{K:ZHa}{f:Str}
theorem ZA7{g:Int->Int->Int}(h:Wl ss i t ta λp u=>∃lt C dx ns a us n x,ss[i]?=some (.ow lt t)/\u=.nd (.obj C dx ns) a us/\Bo K C/\BQ K C f/\ns.length<1000/\DC ns f=some n/\us[n]?=some (.fz (.int x))/\Wp ss tv λq=>∃y,q=.int y/\nx (ss.set i (.ow lt (t.put p (.nd (.obj C dx ns) a (us.set n (.fz (.int (g x y))))))))):Ws ss (OX K ta tv (KR g) f) nx R:=⟨λE D O F H S U hr=>
 h.go E O F H _ S λv p u F1 H1 j s B6 z=>by
  obtain⟨lt,C,dx,ns,a,us,n,x,hi,eu,V,XX,hz,hx,T,h2⟩:=z;subst eu;have Z:v=.ref a:=s.inv.elim λ_ h=>h.1;subst Z;have HR:=s;obtain⟨vs,_,W,sd,ft,rr⟩:=s.inv;obtain⟨w,hw,o⟩:=rr.get T;have Y:w=.int x:=(o.inv:Rep _ _ _).inv;subst Y;refine⟨a,C,dx,ns.zip vs,.int x,rfl,W,V,XX,R0 hx hw,h2.go E O F1 H1 _ j.st λv2 q F2 H2 e Q σ=>?_⟩;obtain⟨y,X,kk⟩:=σ;subst X;cases Q.inv;refine⟨x,y,rfl,rfl,?_⟩;have P:=HR.mv j.st ⟨lt,hi⟩ B6 e;obtain⟨Fl,_,A,k,Qe,HU⟩:=P.inv;have KJ:ns.length=Fl.length:=Qe;have vl:=HU.length;obtain⟨ep,B⟩:=Za (f:=f) (v:=.int (g x y)) KJ;refine⟨dx,ns.zip Fl,A,by rw[Qo];omega,?_⟩;have PY:n<us.length:=by have:=YS hx;omega
  obtain⟨v0,e0,r0,Cu,q0⟩:=e.st.ok i _ hi;have N:(OV.nd (.obj C dx ns) a us).addrs.Nodup:=by
   obtain⟨l,rr,d,_⟩:=OV.split B6;rw[d,Cp,Cp]at Cu;exact Cu.1.2.1
  rw[Jn]at N;have L:=(List.nodup_cons.mp (List.nodup_cons.mp N).2).2;have I:LA ns f=ns:=by unfold LA;rw[hx]
  have G:Jj ns Fl f (.int (g x y))=Fl.set n (.int (g x y)):=by unfold Jj;rw[hx]
  rw[ep,I,G];rw[I,G]at B;obtain⟨l,r,d,J⟩:=JQ (AX PY);have M:=Sg.cy (m:=[]) (u:=.fz (.int (g x y))) (us':=us.set n (.fz (.int (g x y)))) j.st e.st hi B6 k (λb c=>by rw[OV.Hc]at c;cases c) (by simp) (HU.set n (.fz (.int _))) B (by
   rw[J];rw[d]at L;exact UL L (by rw[OV.Hc];exact HA) λb c=>by rw[OV.Hc]at c;cases c) λb c=>by
    rw[J,OV.Hc]at c;rcases List.mem_append.mp c with z|z
    .rcases List.mem_append.mp z with z|z
     .exact .inl (by rw[d];simp[z])
     .cases z
    .exact .inl (by rw[d];simp[z])
  exact U _ O F2 _ kk M (j.ff.trans e.ff)⟩
end
end Fz
namespace L2
variable{pl:Sem Bool}
def CO(P:Program)(w:World)(K:ZHa)(mg:ZHc)(ZS:Heap)(C:Addr)(m:Str)(k:Nat)(ps:List Str)(sp:Sp):Prop:=
 ∃f fd,Ds P w K mg ZS GU k f fd ps sp/\Binds K fd ps []/\Meth K C m f/\Bo K C
def O8(P:Program)(w:World)(K:ZHa)(mg:ZHc)(ZS:Heap)(C:Addr)(k:Nat)(ps:List Str)(sp:Sp):Prop:=
 ∃f fd,Ds P w K mg ZS GU k f fd ps sp/\Binds K fd ps []/\Mk K C f
section
variable{X:Cx}{o e:Expr}{es:List Expr}{m x:Str}{C:Addr}{k j:Nat}{ps:List Str}{sp:Sp}{ta:TE}{t:TA}{apos pos p:Pos}
theorem HL(h:CO X.prog X.w X.K X.mg X.base C m k ps sp)(a:Bx j X.A)(hk:k<=j)(g:QE X o ta)(i:QA X (e::es) t)
  (Hm:starEach (e::es) X.env=(false,eval e X.env)::starEach es X.env:=by rfl) (Cd:(backTo pos (starEach es X.env)).any (·.1)=false:=by rfl)
  (ht:eval (.Call (.Attribute o m apos) (e::es) [] pos) X.env=(do
   let ov <- eval o X.env
   standAt apos.atName
   let (f,first) <- holding [ov] (getMethod ov m pl)
   callWith pos f first (backTo pos (starEach (e::es) X.env)) (backToKw pos (keywordEach [] X.env))):=by rfl) :
  QE X (.Call (.Attribute o m apos) (e::es) [] pos) (Ir C m sp [] E0 ta t):=by
 obtain⟨f,fd,F,b,d,c⟩:=h;exact⟨uo g.h c d (F.mono hk) a b .nil Sa i.h Hm Cd ht⟩
theorem Hk(h:CO X.prog X.w X.K X.mg X.base C m k ps sp)(d:Bx j X.A)(hk:k<=j)(g:QE X o ta)
  (a:eval (.Call (.Attribute o m apos) [] [] pos) X.env=(do
   let ov <- eval o X.env
   standAt apos.atName
   let (f,first) <- holding [ov] (getMethod ov m pl)
   callWith pos f first (backTo pos (starEach [] X.env)) (backToKw pos (keywordEach [] X.env))):=by rfl) :
  QE X (.Call (.Attribute o m apos) [] [] pos) (Ir C m sp [] E0 ta BE):=by
 obtain⟨f,fd,F,b,e,c⟩:=h;exact⟨ZEM g.h c e (F.mono hk) d b .nil Sa a⟩
theorem eV(h:O8 X.prog X.w X.K X.mg X.base C k ps sp)(a:Bx (j+1) X.A)(hk:k<=j)(c:X.mg x=some (.ref C))(g:QA X (e::es) t)(d:Gl X x:=by rfl)(DJ:(x == ("__debug__":Str))=false:=by decide)
  (he:starEach (e::es) X.env=(false,eval e X.env)::starEach es X.env:=by rfl) (Cd:(backTo pos (starEach es X.env)).any (·.1)=false:=by rfl):QE X (.Call (.Name x p) (e::es) [] pos) (Yx C sp [] E0 t):=by
 obtain⟨f,fd,F,b,M⟩:=h;exact⟨ZDw M (F.mono hk) a d c b .nil Sa g.h DJ he Cd⟩
variable{prog:Program}{w:World}{A:Around}{E:Value->Shared->Prop}{s:Shared}
end
end L2
set_option maxHeartbeats 200000
set_option maxHeartbeats 4000000
namespace L2
variable{ss:List Int}
theorem oW{A5:List Value}(r:Vals (ss.map V.int) A5){i:Nat}{v:Value}(e:A5[i]?=some v):∃(h:i<ss.length)(t:Tok),v=.int ss[i] t:=by
 have d:=r.length;rw[AD]at d;have hi:i<A5.length:=(List.getElem?_eq_some_iff.mp e).1;have b:i<ss.length:=by omega
 have f:(ss.map V.int)[i]?=some (.int ss[i]):=by rw[Aj,AX b];rfl
 obtain⟨u,a,c⟩:=r.get f;rw[e]at a;cases a;obtain⟨t,q⟩:=c;exact⟨b,t,q⟩
end L2
namespace L2
open Lw
section
variable{X:Cx}
theorem Oe{i:Nat}{x:Str}{e:Expr}{te:TE}{op:Operator}{ti:K5}{pos pos':Pos}(F:X.N.Nodup)(hi:X.N[i]?=some x)(hx:Loc X.env.scope x)(b:QE X e te)(ho:NR X op ti)(C:X.fn x=true∨X.env.scope.names.lookup x=some .local:=by first|exact .inl rfl|exact .inr rfl|assumption):
  QS X (.AugAssign (.Name x pos') op e pos) (U2 i te ti):=⟨by
 have b:=b.h;intro ZB s O H D I h;obtain⟨v,G,h⟩:=h;obtain⟨m,q,B⟩:=I.loc;have a:UW X.env.scope x:=by rcases hx with k|k;exact .inl k;exact .inr (.inl k)
 obtain⟨u,r,l⟩:=B i x v hi G a;refine wpAny_AugAssign_Name ?_;have go:wpAny (model X.prog X.w) X.A (eval e X.env) (λw f=>wpAny (model X.prog X.w) X.A (inplaceOp op u w) (λr d=>wpAny (model X.prog X.w) X.A (storeName X.env x r) (λ_=>SP X ZB D .next) X.xe d) X.xe f) X.xe s:=by
  refine AO (b ZB s O H _ I h) λw g J=>?_;obtain⟨y,H1,I1,n,p⟩:=J;refine AO (ho ZB g O H1 v y u w _ I1 r n p) λz s2 Oo=>?_;obtain⟨K,H2,I2,j,o⟩:=Oo;exact Zv I2 F hi hx j (λL I3=>⟨_,H2,I3,o⟩) C
 rcases l with⟨hk,t⟩|⟨hk,c,E,R7⟩
 .exact wpAny_loadName_local I.ok.kind hk q t go
 .rcases hk with hk|hk
  .exact wpAny_loadName_cell I.ok.kind hk E R7 go
  .rcases hx with k|k
   .have:X.env.scope.names.lookup x=some .free:=hk;rw[k]at this;cases this
   .have:X.env.scope.names.lookup x=some .free:=hk;rw[k]at this;cases this⟩
end
end L2
namespace Fz
open L2 Lw
variable{ps xs:List PV}{i:Nat}{js:List Nat}
section
variable[Xw]
variable{E:Ent0}{ss:List Slot}{O:L2.St}{F H F' H':Hp}{K:ZHa}{ta tb tc te:TE}{k:PV->Prop}{v:V}{tp:Bool}{nx:List Slot->Prop}{R:Ap}
theorem Su{a:Int}{f:Int->Int->Int}(hi:ss[i]?=some (.is (.int a)))(h:Wp ss te λp=>∃b,p=.int b/\nx (ss.set i (.is (.int (f a b))))):Ws ss (U2 i te (KR f)) nx R:=⟨λE D O F H S g l=>by
 obtain⟨v,e,r⟩:=S.ok i _ hi;cases r.inv;refine⟨_,e,h.go E O F H _ S λk p F1 H1 c d⟨b,j,kk⟩=>?_⟩;subst j;cases d.inv;exact⟨a,b,rfl,rfl,g _ _ F1 H1 kk (c.st.EM (.int _)) c.ff⟩⟩
theorem hV{j:Nat}(h:js[i]?=some j):(Bc js O)[i]?=some ((O[j]?).join):=by
 unfold Bc;rw[Aj,h];rfl
theorem join_some{o:Option (Option V)}{a:Addr}(h:some o.join=some (some (V.ref a))):o=some (some (.ref a)):=by
 cases o with
 |none=>cases h
 |some q=>cases q with
  |none=>cases h
  |some v=>simpa using h
theorem Mv.fY{vs:List V}(S:Sg E ss O F H)(m:Mv E (CM js ss++ps.map .is) (Bc js O++vs.map some) F H F' H'):Mv E ss O F H F' H':=by
 have g:(CM js ss).length=js.length:=by simp[CM]
 have r:(Bc js O).length=js.length:=by simp[Bc]
 have k:∀(i:Nat)(a:Addr),(CM js ss++ps.map .is)[i]?=some .AZ->(Bc js O++vs.map some)[i]?=some (some (.ref a))->∃j,js[i]?=some j/\ss[j]?=some .AZ/\O[j]?=some (some (.ref a)):=λi a hi f=>by
  by_cases h:i<js.length
  .rw[DO (by rw[g];exact h)]at hi;rw[DO (by rw[r];exact h)]at f;have d:=AX h;have q:=gA d hi;rw[hV d]at f;refine⟨js[i],d,?_,join_some f⟩;cases w:ss[js[i]]? with
   |none=>rw[w]at q;cases q
   |some u=>rw[w]at q;cases q;rfl
  .rw[E8 (by omega),Aj]at hi;cases w:ps[i - (CM js ss).length]? with
   |none=>rw[w]at hi;cases hi
   |some p=>rw[w]at hi;cases hi
 refine S.step m.ff m.st.fh (λa o n e=>m.hh a o (λi hi f=>?_) e) m.nn λi l hi e=>?_
 .obtain⟨j,_,h1,h2⟩:=k i a hi f;exact n j h1 h2
 .by_cases c:∃b:Nat,js[b]?=some i
  .obtain⟨b,c⟩:=c;have lt:b < js.length:=(List.getElem?_eq_some_iff.mp c).1;refine m.st.Ez (i:=b) ?_ ?_
   .rw[DO (by rw[g];exact lt)];unfold CM;rw[Aj,c];show some ((ss[i]?).getD .any)=_;rw[hi];rfl
   .rw[DO (by rw[r];exact lt),hV c,e];rfl
  .refine Bf.keep (S.Ez hi e) λo v=>m.hh l o (λb Cm s=>?_) v;obtain⟨j,t,h1,h2⟩:=k b l Cm s;have d:j≠i:=by rintro rfl;exact c ⟨b,t⟩
   exact S.CN j i _ _ l d h1 hi h2 e
theorem qN{wi:TI}{tt:TT}{k:List PV->Prop}(P:PV->PV->Prop)
  (h:Wi ss wi λxs=>xs.length<=100000/\(∀x∈xs,Wt (CM js ss++[.is x]) tt λb=>b=true)/\(∀x∈xs,Wp (CM js ss++[.is x]) te (P x))/\∀ys:List PV,ys.length=xs.length->(∀(j:Nat)x y,xs[j]?=some x->ys[j]?=some y->P x y)->k ys)
  (nd:js.Nodup:=by decide):Wn ss (JY wi js tt te) k:=⟨λE O F H Q S q=>
 h.go E O F H _ S λJ xs F1 H1 f u⟨hz,V,W,kk⟩acc B8=>by
  have FV:C6 ss O acc:=f.st.Ic B8;have IP:=f.st.DU B8;have IG:∀(i:Nat)s,ss[i]?=some s->¬ BJ s O[i]? acc:=λi s hi=>f.st.ID hi B8;refine⟨λi m H2=>m=xs.length - i/\i<=xs.length/\∃F2 vs ys,Mv E ss O F1 H1 F2 H2/\F2 acc=none/\H2 acc=some (.lst vs)/\AR F2 vs ys/\ys.length=i/\∀(j:Nat)x y,xs[j]?=some x->ys[j]?=some y->P x y,⟨_,rfl,Cg _,F1,[],[],f.st.make B8 _,f.st.CA B8,BC,.nil,rfl,λj x y _ e=>by simp at e⟩,?_⟩;rintro i m H2⟨rfl,hi,F2,vs,ys,d,L,B,v,Lr,K⟩
  by_cases D:i<xs.length
  .refine .inr ⟨u.go ss O F2 H2 i d.ff d.st D,λx H3 y=>?_⟩;obtain⟨p,F3,I,z,G⟩:=u.Ep ss O F2 H2 i x H3 d.ff d.st D y;have N:p∈xs:=Bi I;have JI:∀{F4:Hp},(∀a o,F4 a=some o->F2 a=some o∨H2 a=none)->F4 acc=none:=λ{F4}n=>by
    cases e:F4 acc with
    |none=>rfl
    |some o=>
     rcases n acc o e with w|w
     .rw[L]at w;cases w
     .rw[B]at w;cases w
   have S3:=z.st.AN (js:=js) nd (.one G);refine(V p N).go E _ F3 H3 _ S3 λb F4 H4 U g=>?_;have M:=U.fY (ps:=[p]) (vs:=[x]) z.st;have C:=z.trans M;show if b=true then _ else _
   rw[g,pT rfl];have Z:=C.st.AN (js:=js) nd (.one (G.mono M.ff));refine(W p N).go E _ F4 H4 _ Z λw R F5 H5 T JF X=>?_;have Ld:=T.fY (ps:=[p]) (vs:=[x]) C.st;have t:=C.trans Ld;have LS:=t.hh acc _ FV B;have σ:=JI t.nn;have l:vs.length<=99999:=by
    rw[v.length,Lr];omega
   refine⟨vs,LS,HK l,xs.length - (i+1),by omega,rfl,D,F5,vs++[w],ys++[R],?_,σ,BC,(v.mono t.ff).append (.one JF),by simp[Lr],λj a b A g=>?_⟩
   .have r:=d.trans t;refine⟨r.st.MD σ (.inl IP) IG,r.ff,λa o n e=>?_,r.nn⟩;rw[An (Di e B8)];exact r.hh a o n e
   .by_cases c:j<ys.length
    .rw[DO c]at g;exact K j a b A g
    .have Y:j=i:=by
      have:=(List.getElem?_eq_some_iff.mp g).1;rw[Bt,Ij]at this;omega
     subst Y;rw[E8 (by omega),Lr,V3]at g;rw[I]at A;cases A;cases g;exact X
  .have e:i=xs.length:=by omega
   subst e;exact .inl ⟨u.stop ss O F2 H2 d.ff d.st,q acc vs _ F2 H2 (f.trans d) L (f.none B8) B v (kk ys Lr K)⟩⟩
variable{t:OV}
end
end Fz
namespace L2
noncomputable def HE(s:Stmt)(n:Nat):Stmt:=match s with
 | .ClassDef _ _ _ b ..=>b.getD n (.Pass ⟨0,0,0,0⟩)
 |s=>s
end L2
namespace Fz
open L2 Lw
@[reducible] noncomputable def xwM (X:XK) (t:OV) (D:Ex->Prop):Xw:=⟨λ_=>X,λss=>ss[0]?=some (.ow true t),D⟩
variable{R:Ap}{A9 ss:List Slot}
section
variable{pre:Ub}{H:Hp}
def Z2(R:Ap)(A9:List Slot):Prop:=∃(k:PV->OV->Prop)(nk:NK)(a:Addr)(us:List OV),R=.mt k/\A9[0]?=some (.ow true (.nd nk a us))/\k .AE (.nd nk a us)
theorem Z2.ok{E:Ent0}{O:L2.St}{F:Hp}(h:Z2 R A9)(S:Sg E A9 O F H):R.ok E F H .AE:=by
 obtain⟨k,nk,a,us,rfl,g,hk⟩:=h;obtain⟨f,e0,c,Cu,d⟩:=S.ok 0 _ g;have i:f=.ref a:=by cases c;rfl
 subst i;exact⟨.AE,.nd nk a us,.AE,c,Cu,λb e=>⟨(d b e).1,(d b e).2.imp id λz=>z.2⟩,hk⟩
end
section
variable[Xw]
variable{te tv:TE}{ta:TA}{i:Nat}{lt:Bool}{t:OV}{nx:List Slot->Prop}{K:ZHa}{f:Str}
theorem GL{pre:Pre}{C:Addr}{m:Str}{k:List PV->Prop}(h:Wp ss te λo=>∃ns xs,o=.obj C ns xs/\DC ns m=none/\Wa ss ta λl=>∃d,pre (.is o::l) (.new d)/\∀p,d p->k p):Wn ss (Ir C m (AL pre) [] E0 te ta) k:=⟨λE O F H Q S q=>
 h.go E O F H _ S λv o F1 H1 c i⟨ns,xs,x,n,h2⟩=>by
  subst x;cases i with
  |@obj a _ dx _ Gu _ g y t rr=>
   refine⟨a,dx,ns.zip Gu,rfl,c.st.fh _ _ g,Q5 n,h2.go E O F1 H1 _ c.st λvs l F2 H2 b z⟨d,j,kk⟩=>?_⟩;rw[CB];refine⟨.is (.obj C ns xs)::l,.new d,F2,[],j,b.st.OP (.cons (s:=.is _) (Rep.obj (b.ff _ _ g) (b.ff _ _ y) t (rr.mono b.ff)) z),λv F' H' f⟨a,VG,e,w,u,h1,EC,r,kp⟩=>?_⟩;subst w;exact q a VG e F' H' (c.trans (b.trans (b.st.back (λ_ h=>absurd h Ak) f))) u (c.none (b.none h1)) EC r (kk e kp)⟩
end
end Fz
namespace L2
section
variable{prog:Program}{w:World}{A:Around}{E:Value->Shared->Prop}{s:Shared}
theorem ZCz:typeLookup (.type "dict") "__len__"=pure (some (.builtin "dict.__len__")):=by rw[typeLookup_type,builtinLookup_eq_fast];kernel_rfl
variable{X:Cx}
end
end L2
namespace Fz
open L2 Lw
theorem j4:∀{ks:List Key}{vs:List V},ks.length=vs.length->(ks.zip vs).map (·.1)=ks
 | [],[],_=>rfl
 | [],_::_,h=>by simp at h
 |_::_,[],h=>by simp at h
 |k::ks,v::vs,h=>by
  rw[Im,Ae,j4 (by simpa using h)]
end Fz
namespace L2
section
variable{prog:Program}{w:World}{A:Around}{s:Shared}{R:Result->Shared->Prop}
theorem ZD2{L S:Addr}{Q:Nat}{res:Value}{A7:List (Key×Value)}{n:Nat}(hh:A.handled=none)(Nu:(S == sysModules)=false)(m:s.heap.get? L=some { cls:=.type "list", data:=.seq #[] Q })(hS0:s.heap.DictOf (Dk prog w) S A7)(en:A7.length=n)(hn:n<=sizeLine)
  (h:∀(s':Shared)(vs:List Value)(d:Nat),(∀b o,b≠L->s.heap.get? b=some o->s'.heap.get? b=some o)->L<s'.heap.objs.size->s'.gens=s.gens->s'.os=s.os->s'.heap.get? L=some { cls:=.type "list", data:=.seq vs.toArray d }->vs.length=n->(∀(i:Nat)v,vs[i]?=some v->∃k x,A7[i]?=some (k,x)/\(Dk prog w).is k v=true)->R (.ok (.ret res)) s') :
  wpAny (model prog w) A.in1 (Builtin.List.listExtendWith (.ref L) (.ref S) res)
   (λp s'=>match p with | .done f=>R (.ok f) s' | .again d=>d.quiet=true/\codeAny (model prog w) A d R s') (λe s'=>R (.error e) s') s:=by
 obtain⟨j,g⟩:=hS0.dictAt;have V:S<s.heap.objs.size:=g.lt_size;have D:L≠S:=λz=>by
  subst z;obtain⟨o,ho,l⟩:=g.dictOf.typeIs;rw[m]at ho;cases ho;exact absurd l (by show ¬ Value.type "list"=Value.type "dict"; decide)
 have H:Shared.TypeIs s (.ref S) "dict" := g.dictOf.typeIs;have h1:Builtin.List.listSameRef (.ref L) (.ref S)=false:=by simp[Builtin.List.listSameRef,D]
 unfold Builtin.List.listExtendWith;refine p5 (wpAny_typeOf H ?_);rw[pL (by rw[h1];decide)];refine p5 (wpAny_pyIter_dict (s:=s) Nu g ?_);dsimp only;generalize r:({ cls:=.type "dict_keyiterator", data:=.fields #[.ref S,.int 0 0,.int A7.length 0,.int j 0] }:Obj)=io;have kp:∀b o,s.heap.get? b=some o->(s.heap.push io).get? b=some o:=λb o e=>CG _ e;have U:S≠s.heap.objs.size:=D6 V;have W:∀A2:Around,A2.handled=none->Walks prog w A2 s.heap.objs.size [s.heap.objs.size,S] [s.heap.objs.size] A7.length _ _:=λA2 h2=>Walks.dictKeys (knd:=Dk prog w) h2 s.heap.objs.size S U A7 j;have C:(s.heap.push io).IsKeyIter s.heap.objs.size S 0 A7.length j/\(s.heap.push io).DictAt (Dk prog w) S A7 j:=⟨⟨io,Co _ (by rw[<- r];rfl),by rw[<- r],by rw[<- r];rfl⟩,g.push _⟩;have I:L∉[s.heap.objs.size,S]:=λc=>by
  simp only[G9,Ak,vE]at c;rcases c with z|z
  .have q:L<s.heap.objs.size:=BH m;rw[z]at q;exact Kn _ q
  .exact D z
 generalize X:s.heap.push io=h2 at kp C ⊢;have t:Shared.TypeIs { s with heap:=h2 } (.ref S) "dict" := by obtain⟨o,ho,l⟩:=H;exact⟨o,kp _ _ ho,l⟩
 refine p5 (wH ?_);unfold Builtin.List.listLengthHint;refine p5 (wpAny_specialOf t ZCz ?_);generalize G:("dict.__len__":String)=wJ
 wp_delta
 rw[show splitId wJ=some ("dict","__len__")from by subst G;decide +kernel];subst G;refine p5 (wpAny_isInstance (b:=true) t (by rw[isSubtype_type];kernel_rfl) ?_);rw[pL (by decide)];refine wpAny_ite_split (λ_=>?_) (λHW=>absurd (by decide +kernel) HW);refine p5 (wpAny_typeOf t ?_);refine qC ?_;refine wpAny_ite_split (λ_=>?_) (λHW=>absurd (by decide +kernel) HW);refine p5 (ZA1 ?_);refine p5 ?_;show wpAny _ _ (updateSeq L (·.push .none) >>= λ_=>updateSeq L (·.pop)) _ _ _
 have M:(#[]:Array Value).size<=sizeLine:=Cg _;have u:((#[]:Array Value).push Value.none).size<=sizeLine:=by show 1<=sizeLine;decide
 have K:((#[]:Array Value).push Value.none).size<=sizeLine+1:=Nat.le_succ_of_le u;have J:(((#[]:Array Value).push Value.none).pop).size<=sizeLine+1:=Cg _;have B:=kp _ _ m;refine p5 (tJ (s:={ s with heap:=h2 }) B rfl ?_ M K)
 have y:=Nx (Obj.mapSeq (·.push Value.none)) B rfl
 refine tJ y rfl ?_ u J;have N:=Nx (Obj.mapSeq (·.pop)) y rfl
 have E:∀b o,b≠L->h2.get? b=some o->((h2.update L (Obj.mapSeq (·.push Value.none))).update L (Obj.mapSeq (·.pop))).get? b=some o:=
  λb o a e=>(Jg _ _ (CC a)).trans ((Jg _ _ (CC a)).trans e)
 refine qC ⟨wV PySem.F.plain_extend_loop _,codeAny_extend_loopS (W A.in1 hh).toS (en▸hn) _ I _ A7.length 0 _ #[] _ rfl (Cg _) ?_ N (ItemsOf.nil _) λs' σ d c IM B8=>?_⟩
 .exact(W A.in1 hh).frame 0 h2 _ C λb a o e=>E b o (λz=>I (z▸a)) e
 .have hsz:L<s'.heap.objs.size:=BH IM;refine h s' σ.toList d (λb o a e=>?_) hsz c.gens c.os IM (by rw[bB,B8.1];exact en) λi v P=>B8.2 i v (by rw[<- nA];exact P);have T:b<s.heap.objs.size:=BH e;refine c.heap b o ?_ (E b o a (kp b o e));simp only[G9,Ak,vE,not_or];exact⟨a,D6 T⟩
end
theorem k7{prog:Program}{w:World}:∀{ks:List Key}{A7:List (Key×Value)}{vs:List Value},A7.map (·.1)=ks->vs.length=A7.length->(∀(i:Nat)v,vs[i]?=some v->∃k x,A7[i]?=some (k,x)/\(Dk prog w).is k v=true)->Vals (ks.map kV) vs
 | [],[],[],_,_,_=>.nil
 | [],[],_::_,_,h,_=>by simp at h
 | [],_::_,_,h,_,_=>by simp at h
 |_::_,[],_,h,_,_=>by simp at h
 |_::_,_::_,[],_,h,_=>by simp at h
 |n::ns,kv::A7,v::vs,e,hl,h=>by
  rw[Ae]at e;injection e with e1 e2
  obtain⟨k,x,c,hk⟩:=h 0 v rfl;have a:kv=(k,x):=by simpa using c
  subst a;have d:k=n:=e1;subst d;refine .cons ?_ (k7 e2 (by simpa using hl) λi v b=>h (i+1) v b)
  rcases IT (show LK k v=true from hk)with⟨i,t,rfl,rfl⟩|⟨y,t,rfl,rfl⟩
  .exact⟨t,rfl⟩
  .exact⟨t,rfl⟩
section
variable{X:Cx}
def gq:List V->Hp->VK->Prop:=λxs H Q=>∃(p:Addr)(A7:List (Key×V)),xs=[.ref p]/\Rd H p (.dK A7)/\A7.length<=1000/\∀l:Addr,H l=none->Q (.ref l) (upd H l (.lst ((A7.map (·.1)).map kV)))
theorem xR(B:X.calm=true):Du X (.type "list") gq:=by
 intro ZB s O H xs us Q I r h;obtain⟨p,A7,rfl,C,XG,q⟩:=h;obtain⟨u,rfl,v⟩:=vals1 r;cases v;obtain⟨g,Nu,Gu,rel,i⟩:=NT I.AY C;have hh:X.A.handled=none:=I.ok.hd B;have L:p<s.heap.objs.size:=by obtain⟨j,h2⟩:=i.dictAt;exact h2.lt_size
 have σ:p≠s.heap.objs.size:=D6 L;refine callType_codes (Q₁:=λobj f=>obj=.ref s.heap.objs.size/\f={ s with heap:=s.heap.push { cls:=.type "list", data:=.seq #[] } }) F.called_list (F.typeCall_list_1 _) F.entry_list_init
  (code_list_new _ ⟨rfl,rfl⟩) λobj f z=>?_
 obtain⟨rfl,rfl⟩:=z;have d:(s.heap.push { cls:=.type "list", data:=.seq #[] }).get? s.heap.objs.size=some { cls:=.type "list", data:=.seq #[] }:=Co _ rfl;refine⟨⟨_,d,rfl⟩,F.args_list_init_2 _ _,?_⟩;show wpAny _ X.A.in1.in1 (do let c <- Builtin.List.listItems (.ref s.heap.objs.size);Builtin.List.listUpdate (.ref s.heap.objs.size) (λ_=>#[]);letGo c.toList.reverse;Builtin.List.listExtendWith (.ref s.heap.objs.size) (.ref p) .none) _ _ _
 refine p5 ?_;unfold Builtin.List.listItems;refine p5 (sC d rfl (qC ?_));show wpAny _ X.A.in1.in1 (updateSeq s.heap.objs.size (λ_=>#[]) >>= λ_=>letGo (#[]:Array Value).toList.reverse >>= λ_=>Builtin.List.listExtendWith (.ref s.heap.objs.size) (.ref p) .none) _ _ _;refine p5 (tJ d rfl ?_);have x:=Nx (Obj.mapSeq (λ_=>(#[]:Array Value))) d rfl;have c:∀b o,s.heap.get? b=some o->((s.heap.push { cls:=.type "list", data:=.seq #[] }).update s.heap.objs.size (Obj.mapSeq (λ_=>(#[]:Array Value)))).get? b=some o:=λb o e=>
  (Jg _ _ (MW (BH e))).trans (CG _ e)
 have y:((s.heap.push { cls:=.type "list", data:=.seq #[] }).update s.heap.objs.size (Obj.mapSeq (λ_=>(#[]:Array Value)))).DictOf (Dk X.prog X.w) p Gu:=by
  obtain⟨o,es,j,ho,rest⟩:=i;exact⟨o,es,j,c _ _ ho,rest⟩
 refine p5 (vZ ?_);refine ZD2 (A:=X.A.in1) hh Nu x y rfl (by rw[<- rel.length];exact g) λs' vs E n K m l k J G=>?_;have t:Vals ((A7.map (·.1)).map kV) vs:=by
  rw[rel.keys];exact k7 rfl J G
 refine⟨rfl,?_⟩;obtain⟨h1,N,D,t1,M⟩:=s';simp only at n K m l k;subst m;subst l;refine⟨.ref _,_,(I.drew D).laid (a:=s.heap.objs.size) (h':=h1) (t':=t1) (o:=.lst ((A7.map (·.1)).map kV)) (λb o e=>n b o (D6 (BH e)) (c b o e)) (As _) ?_,rfl,q _ (I.AY.fresh (As _))⟩
 exact⟨by rw[AD,AD];exact g,vs,E,t,k⟩
variable{i o:Expr}{ty td:TE}{pos:Pos}
theorem ar(a:X.A.units+1<cLine)(hi:QE X i ty)(ho:QE X o td)(b:behindInMarks .In o=false:=by with_unfolding_all rfl):QT X (.Compare i [.In] [o] pos) (tB (Sd ty td)):=⟨lx (oX a hi.h ho.h) b⟩
theorem bu(a:X.A.units+1<cLine)(hi:QE X i ty)(ho:QE X o td)(b:behindInMarks .NotIn o=false:=by with_unfolding_all rfl):QT X (.Compare i [.NotIn] [o] pos) (tB (Tn ty td)):=⟨lx (ZFk a hi.h ho.h) b⟩
end
end L2
namespace Fz
open L2 Lw
theorem VC{F:Hp}:∀ks:List Key,AR F (ks.map kV) (ks.map JJ)
 | []=>.nil
 | .inl i::ks=>.cons (.int i) (VC ks)
 | .inr x::ks=>.cons (.str x) (VC ks)
theorem iJ{F:Hp}:∀ns:List Int,AR F (ns.map V.int) (ns.map PV.int)
 | []=>.nil
 |i::ns=>.cons (.int i) (iJ ns)
section
variable[Xw]
variable{E:Ent0}{ss:List Slot}{O:L2.St}{F H F' H':Hp}{K:ZHa}{i:Nat}{t:OV}{ta tb tc te:TE}{nx:List Slot->Prop}{R:Ap}
theorem qo{k:List PV->Prop}(h:Wp ss te λp=>∃(ks:List Key)(xs:List PV),p=.BD ks xs/\ks.length<=1000/\k (ks.map JJ)):Wn ss (FP gq (Ah te BE)) k:=⟨λE O F H Q S q=>
 h.go E O F H _ S λv p F1 H1 b c AG=>by
  obtain⟨ks,xs,e,i,kk⟩:=AG;subst e;cases c with
  |@BD a _ vs _ g f rr=>
   refine⟨a,_,rfl,.inl (b.st.fh _ _ g),by rw[Qo];omega,λl DT=>?_⟩;rw[j4 f];have d:=b.st.make DT (.lst (ks.map kV));exact q l _ _ F1 _ (b.trans d) (b.st.CA DT) (b.none DT) BC (VC ks) kk⟩
end
end Fz
namespace L2
variable{w:World}{H H2:Hp}{h h':Heap}{a b it l l1 l2:Addr}{X:Cx}{ZB:ZHb}{O:St}{s s2:Shared}{r x:Value}{A:Around}{E Q:Value->Shared->Prop}{i k1 tk:Nat}{e elt tg:Expr}{p1 pos:Pos}{es ifs:List Expr}{t1 t2 tp:Bool}{outer scope:Scope}{js:List Nat}{tt:TT}{te:TE}{J:It}{fp:List Addr}{tn:Nat->Heap->Prop}{N zs:List Str}{wi:TI}{xs ys:Array Value}{prog:Program}
structure IH (N:List Str) (outer scope:Scope) (zs:List Str) (AN:List Str) (js:List Nat):Prop where
 kind:scope.kind=.function
 LX:∀y∈scope.names,y.2≠.cell
 loc:∀y∈scope.names,y.2=.local->scope.names.lookup y.1=some .local
 IY:∀x∈zs,scope.names.lookup x=some .local
 at':js.map (λj=>N[j]?)=AN.map some
 cell:∀y∈AN,outer.names.lookup y=some .cell
 free:∀y∈AN,scope.names.lookup y=some .free
 all:∀y∈scope.names,y.2=.free->outer.names.lookup y.1=some .cell
 nd:(AN++zs).Nodup
def Nl(K:ZHa)(n:Nat)(wi:TI)(js:List Nat)(tt:TT)(te:TE):TE:=λO H Q=>wi O H λJ H1=>∀acc,H1 acc=none->Th K n J js tt te O H1 acc Q
section
variable{iter:Expr}{tp:Pos}{AN:List Str}
theorem IH.G(S:IH N outer scope zs AN js):FI N outer scope none zs AN js:=.iC S.kind S.LX S.loc S.at' S.cell S.free S.all S.nd
theorem y4(a:X.calm=true)(S:IH X.N X.env.scope scope zs AN js)(JV:JD zs es)(J9:∀e,(assignEach es e).length=zs.length)(FN:∀e,(assignEach es e).findIdx? (·.1)=none)(hi:PI X (.Tuple es tk tp) iter wi)
  (D0:∀fp C s H,HS (FO X (AN++zs) scope (Bj X.env.cells scope.names) C s H fp) ifs tt) (Cz:∀fp C s H,PE (FO X (AN++zs) scope (Bj X.env.cells scope.names) C s H fp) elt te)
  (b:∀v,foldedSetIterable iter X.env v=pure v:=by intro _;rfl):PE X (.ListComp elt [⟨.Tuple es tk tp,iter,ifs,0⟩] scope pos) (Nl X.K zs.length wi js tt te):=
 WZ (CW:=λJ O H1 acc Q=>Th X.K zs.length J js tt te O H1 acc Q) (iZ S.G) a S.G hi (λ_ _ _ _=>jr a S.G S.IY JV J9 FN) D0 Cz b
theorem Xb(b:X.calm=true)(S:IH X.N X.env.scope scope zs AN js)(JV:JD zs es)(J9:∀e,(assignEach es e).length=zs.length)(FN:∀e,(assignEach es e).findIdx? (·.1)=none)(hi:QI X (.Tuple es tk tp) iter wi)(D0:∀fp C s H,MG (FO X (AN++zs) scope (Bj X.env.cells scope.names) C s H fp) ifs tt)(Cz:∀fp C s H,QE (FO X (AN++zs) scope (Bj X.env.cells scope.names) C s H fp) elt te)
  (a:∀v,foldedSetIterable iter X.env v=pure v:=by intro _;rfl):QE X (.ListComp elt [⟨.Tuple es tk tp,iter,ifs,0⟩] scope pos) (Nl X.K zs.length wi js tt te):=⟨y4 b S JV J9 FN hi.h (λfp C s H=>(D0 fp C s H).h) (λfp C s H=>(Cz fp C s H).h) a⟩
end
def DY(tp:Bool)(h:Heap)(i l:Addr)(k:Nat):Prop:=match tp with
 |true=>h.IsTupleIter i l k
 |false=>h.IsListIter i l k
def EW(tp:Bool)(h:Heap)(l:Addr)(xs:Array Value):Prop:=match tp with
 |true=>h.IsTuple l xs
 |false=>h.IsList l xs
noncomputable def OJ(tp:Bool):String:=match tp with
 |true => "tuple_iterator"
 |false => "list_iterator"
theorem DY.at{t:Addr}(x:DY tp h a t i)(e:∀o,h.get? a=some o->h'.get? a=some o):DY tp h' a t i:=by
 cases tp
 .exact Heap.IsListIter.at x e
 .exact Heap.IsTupleIter.at x e
theorem DY.has{t:Addr}(x:DY tp h a t i):∃o fs,h.get? a=some o/\o.data=.fields fs:=by
 cases tp
 .obtain⟨o,e,_,d⟩:=x;exact⟨o,_,e,d⟩
 .obtain⟨o,e,_,d⟩:=x;exact⟨o,_,e,d⟩
theorem EW.at(x:EW tp h a xs)(e:∀o,h.get? a=some o->h'.get? a=some o):EW tp h' a xs:=by
 cases tp
 .obtain⟨o,q,r⟩:=x;exact⟨o,e o q,r⟩
 .obtain⟨o,q,r⟩:=x;exact⟨o,e o q,r⟩
section
theorem Y4(hi:DY tp s.heap it l i)(a:EW tp s.heap l xs)(hx:xs[i]?=some x)
  (q:∀h',DY tp h' it l (i+1)->Heap.SameBut it s.heap h'->Q x { s with heap:=h' }):wpAny (model prog w) A (Builtin.SmallTypes.nextOf (.ref it)) Q E s:=by
 cases tp
 .exact wpAny_nextOf_list_item hi a hx q
 .exact HT.ZE0 hi a hx q
theorem mQ(hh:A.handled=none)(hi:DY tp s.heap it l i)(a:EW tp s.heap l xs)(hx:xs[i]?=none)
  (q:∀h' e,Heap.ExtBut it s.heap h'->(∃o,h'.get? e=some o/\o.cls=.type "StopIteration")->E (.ref e) { s with heap:=h' }):wpAny (model prog w) A (Builtin.SmallTypes.nextOf (.ref it)) Q E s:=by
 cases tp
 .exact wpAny_nextOf_list_end hh hi a hx q
 .exact HT.ZCk hh hi a hx q
theorem lQ(a:EW tp s.heap l xs)(q:Q (.ref s.heap.objs.size) { s with heap:=s.heap.push { cls:=.type (OJ tp),data:=.fields #[.ref l,.int 0 0] } }):wpAny (model prog w) A (pyIter (.ref l)) Q E s:=by
 cases tp
 .exact xK a q
 .exact yP a q
variable{z TI TO i1 i2:Addr}{k:Nat}{y a b:Value}
theorem ZDj{Q:Option Value->Shared->Prop}(D:ZipApart z TI TO i1 i2 l1 l2)(f:IsZip s.heap z TI TO .none)(Iy:IsPair s.heap TI (.ref i1) (.ref i2))(KZ:IsPair s.heap TO a b)
  (h1:DY t1 s.heap i1 l1 k) (h2:DY t2 s.heap i2 l2 k) (g1:EW t1 s.heap l1 xs) (g2:EW t2 s.heap l2 ys) (hx:xs[k]?=some x) (Z:ys[k]?=some y)
  (q:∀h',IsZip h' z TI TO (rawInt s.heap.objs.size)->IsPair h' TO x y->DY t1 h' i1 l1 (k+1)->DY t2 h' i2 l2 (k+1)->IsPair h' s.heap.objs.size x y->
   (∀c o,c≠z->c≠TO->c≠i1->c≠i2->s.heap.get? c=some o->h'.get? c=some o)->Q (some (.ref s.heap.objs.size)) { s with heap:=h' }):wpAny (model prog w) A (pyNext (.ref z)) Q E s:=by
 have hT:s.TypeIs (.ref z) "zip" := ⟨_,f,rfl⟩;unfold pyNext;refine p5 (wpAny_attempt (tE (name:=Str.ofString "__next__") hT bE (xl bE hT F.entry_zip_next ?_ (F.args_zip_next_1 _))));show wpAny _ _ (field (.ref z) 2 >>= _) _ _ _;refine p5 (sH f rfl (x:=.bool false) rfl ?_);show wpAny _ _ (field (.ref z) 3 >>= _) _ _ _;refine p5 (sH f rfl (x:=.ref TI) rfl (p5 (sC Iy rfl ?_)));show wpAny _ _ (Builtin.SmallTypes.ownedTupleIsFree (.ref z) >>= _) _ _ _;refine p5 ?_;unfold Builtin.SmallTypes.ownedTupleIsFree;refine p5 (sH f rfl (x:=.none) rfl (qC ?_));simp only[ZAH];refine p5 (ZA1 (p5 (sH f rfl (x:=.ref TO) rfl (p5 (sN f (by simp) λU v M=>?_)))));have v:IsZip U z TI TO .ellipsis:=v;have u1:∀c o,c≠z->s.heap.get? c=some o->U.get? c=some o:=λc o g e=>M.extBut c o g e;refine p5 ?_;simp only[ZGl,List.zipIdx_nil,bI,Uv];refine p5 (p5 (yi ?_));show wpAny _ _ (Builtin.SmallTypes.nextOf (.ref i1) >>= _) _ _ _;refine p5 (Y4 (h1.at λo e=>u1 i1 o D.i1z e) (g1.at λo e=>u1 l1 o D.l1z e) hx λT p1 B=>qC ?_);have u2:∀c o,c≠z->c≠i1->s.heap.get? c=some o->T.get? c=some o:=λc o g hd e=>B.extBut c o hd (u1 c o g e);have σ:IsPair T TO a b:=u2 TO _ D.TOz D.TOi1 KZ;refine p5 (sC σ rfl (p5 (y9 σ λS G l=>?_)));have G:IsPair S TO x b:=G;have C:∀c o,c≠z->c≠i1->c≠TO->s.heap.get? c=some o->S.get? c=some o:=λc o h1 h2 h3 e=>l.extBut c o h3 (u2 c o h1 h2 e);refine p5 (vZ (qC (p5 (p5 (yi ?_)))));show wpAny _ _ (Builtin.SmallTypes.nextOf (.ref i2) >>= _) _ _ _;refine p5 (Y4 (h2.at λo e=>C i2 o D.i2z D.i12.symm D.TOi2.symm e) (g2.at λo e=>C l2 o D.l2z D.l2i1 D.l2TO e) Z λe4 p2 i=>qC ?_);have N:IsPair e4 TO x b:=i.extBut TO _ D.TOi2 G;refine p5 (sC N rfl (p5 (y9 N λd n h=>?_)));have n:IsPair d TO x y:=n;have hsz:d.objs.size=s.heap.objs.size:=by rw[h.1,i.1,l.1,B.1,M.1]
 have W:∀c o,c≠z->c≠TO->c≠i1->c≠i2->s.heap.get? c=some o->d.get? c=some o:=λc o t r I H e=>h.extBut c o r (i.extBut c o H (C c o t I r e));have J:IsZip d z TI TO .ellipsis:=h.extBut z _ D.TOz.symm (i.extBut z _ D.i2z.symm (l.extBut z _ D.TOz.symm (B.extBut z _ D.i1z.symm v)));have Y:DY t1 d i1 l1 (k+1):=p1.at λo e=>h.extBut i1 o D.TOi1.symm (i.extBut i1 o D.i12 (l.extBut i1 o D.TOi1.symm e));have X:DY t2 d i2 l2 (k+1):=p2.at λo e=>h.extBut i2 o D.TOi2.symm e;refine p5 (vZ (qC (qC (p5 (sC n rfl (p5 (wpAny_newTuple ?_)))))));have R:z<d.objs.size:=BH J;show wpAny _ _ (Builtin.SmallTypes.ownedTupleHandOut (.ref z) (.ref d.objs.size) >>= _) _ _ _;refine p5 ?_;unfold Builtin.SmallTypes.ownedTupleHandOut;have V:IsZip (d.push { cls:=.type "tuple", data:=.seq #[x,y] }) z TI TO .ellipsis:=CG _ J;refine p5 (sN V (by simp) λe7 u L=>?_);have u:IsZip e7 z TI TO (rawInt d.objs.size):=u;refine sN u (by simp) λp j K=>?_;have j:IsZip p z TI TO (rawInt d.objs.size):=j;have m:∀c o,c≠z->d.get? c=some o->p.get? c=some o:=λc o g e=>K.extBut c o g (L.extBut c o g (CG _ e));have P:IsPair p d.objs.size x y:=K.extBut _ _ (MW R) (L.extBut _ _ (MW R) (Co _ rfl));rw[hsz]at j P;refine qC ⟨_,rfl,qC ?_⟩;show Q (some (.ref d.objs.size)) _;rw[hsz];exact q p j (m TO _ D.TOz n) (Y.at λo e=>m i1 o D.i1z e) (X.at λo e=>m i2 o D.i2z e) P λc o t r I H e=>m c o t (W c o t r I H e)
theorem ZAS{Q:Option Value->Shared->Prop}(hh:A.handled=none)(D:ZipApart z TI TO i1 i2 l1 l2)(d:IsZip s.heap z TI TO .none)(Iy:IsPair s.heap TI (.ref i1) (.ref i2))(KZ:IsPair s.heap TO a b)
  (h1:DY t1 s.heap i1 l1 k) (h2:DY t2 s.heap i2 l2 k) (J:EW t1 s.heap l1 xs) (σ:EW t2 s.heap l2 ys) (ZAn:xs[k]?=none∨ys[k]?=none)
  (q:∀h',(∀c o,c≠z->c≠TO->c≠i1->c≠i2->s.heap.get? c=some o->h'.get? c=some o)->Q none { s with heap:=h' }):wpAny (model prog w) A (pyNext (.ref z)) Q E s:=by
 have hT:s.TypeIs (.ref z) "zip" := ⟨_,d,rfl⟩;unfold pyNext;have i:∀(h':Heap)(e:Addr),(∀c o,c≠z->c≠TO->c≠i1->c≠i2->s.heap.get? c=some o->h'.get? c=some o)->(∃o,h'.get? e=some o/\o.cls=.type "StopIteration")->wpAny (model prog w) A (do if <- isInstance (.ref e) (.type "StopIteration")then pure none else throw (.ref e)) Q E { s with heap:=h' }:=λh' e hk⟨o,ho,h⟩=>
  p5 (wpAny_isInstance (T:="StopIteration") (b:=true) ⟨o,ho,h⟩ isSubtype_stop (qC (q h' hk)))
 refine p5 (wpAny_attempt (tE (name:=Str.ofString "__next__") hT bE (xl bE hT F.entry_zip_next ?_ (F.args_zip_next_1 _))));show wpAny _ _ (field (.ref z) 2 >>= _) _ _ _;refine p5 (sH d rfl (x:=.bool false) rfl ?_);show wpAny _ _ (field (.ref z) 3 >>= _) _ _ _;refine p5 (sH d rfl (x:=.ref TI) rfl (p5 (sC Iy rfl ?_)));show wpAny _ _ (Builtin.SmallTypes.ownedTupleIsFree (.ref z) >>= _) _ _ _;refine p5 ?_;unfold Builtin.SmallTypes.ownedTupleIsFree;refine p5 (sH d rfl (x:=.none) rfl (qC ?_));simp only[ZAH];refine p5 (ZA1 (p5 (sH d rfl (x:=.ref TO) rfl (p5 (sN d (by simp) λK l L=>?_)))));have l:IsZip K z TI TO .ellipsis:=l;have u1:∀c o,c≠z->s.heap.get? c=some o->K.get? c=some o:=λc o h e=>L.extBut c o h e;refine p5 ?_;simp only[ZGl,List.zipIdx_nil,bI,Uv];refine p5 (p5 (yi ?_));show wpAny _ _ (Builtin.SmallTypes.nextOf (.ref i1) >>= _) _ _ _;cases hx:xs[k]? with
 |none=>
  refine p5 (mQ hh (h1.at λo e=>u1 i1 o D.i1z e) (J.at λo e=>u1 l1 o D.l1z e) hx λm e g r=>?_);have C:IsZip m z TI TO .ellipsis:=g z _ D.i1z.symm l;obtain⟨p,LM,QU⟩:=r;have v:e≠z:=λq=>by subst q;rw[C]at LM;cases LM;simp at QU
  exact sN C (by simp) λt _ f=>i t e (λc o j _ u _ y=>f.extBut c o j (g c o u (u1 c o j y))) ⟨p,f.extBut _ _ v LM,QU⟩
 |some x=>
  have M:ys[k]?=none:=ZAn.resolve_left (by rw[hx];simp);refine p5 (Y4 (h1.at λo e=>u1 i1 o D.i1z e) (J.at λo e=>u1 l1 o D.l1z e) hx λm p1 g=>qC ?_);have u2:∀c o,c≠z->c≠i1->s.heap.get? c=some o->m.get? c=some o:=λc o h hd e=>g.extBut c o hd (u1 c o h e);have I:IsPair m TO a b:=u2 TO _ D.TOz D.TOi1 KZ;refine p5 (sC I rfl (p5 (y9 I λt V f=>?_)));have n:∀c o,c≠z->c≠i1->c≠TO->s.heap.get? c=some o->t.get? c=some o:=λc o h1 h2 N e=>f.extBut c o N (u2 c o h1 h2 e);refine p5 (vZ (qC (p5 (p5 (yi ?_)))));show wpAny _ _ (Builtin.SmallTypes.nextOf (.ref i2) >>= _) _ _ _;refine p5 (mQ hh (h2.at λo e=>n i2 o D.i2z D.i12.symm D.TOi2.symm e) (σ.at λo e=>n l2 o D.l2z D.l2i1 D.l2TO e) M λR e H r=>?_);have B:IsZip R z TI TO .ellipsis:=H z _ D.i2z.symm (f.extBut z _ D.TOz.symm (g.extBut z _ D.i1z.symm l));obtain⟨p,LM,QU⟩:=r;have v:e≠z:=λq=>by subst q;rw[B]at LM;cases LM;simp at QU
  exact sN B (by simp) λP _ G=>i P e (λc o j U u S y=>G.extBut c o j (H c o S (n c o j u U y))) ⟨p,G.extBut _ _ v LM,QU⟩
end
abbrev RE(h:Heap)(t1:Bool)(l1:Addr):Heap:=h.push { cls:=.type (OJ t1),data:=.fields #[.ref l1,.int 0 0] }
abbrev UP(h:Heap)(t1 t2:Bool)(l1 l2:Addr):Heap:=(RE h t1 l1).push { cls:=.type (OJ t2),data:=.fields #[.ref l2,.int 0 0] }
abbrev TH(h:Heap)(t1 t2:Bool)(l1 l2:Addr):Heap:=(UP h t1 t2 l1 l2).push { cls:=.type "tuple", data:=.seq #[.ref h.objs.size,.ref (RE h t1 l1).objs.size] }
abbrev Ua(h:Heap)(t1 t2:Bool)(l1 l2:Addr):Heap:=(TH h t1 t2 l1 l2).push { cls:=.type "tuple", data:=.seq #[.none,.none] }
abbrev Nh(h:Heap)(t1 t2:Bool)(l1 l2:Addr):Heap:=(Ua h t1 t2 l1 l2).push { cls:=.type "zip", data:=.fields #[.none,.bool false,.bool false,.ref (UP h t1 t2 l1 l2).objs.size,.ref (TH h t1 t2 l1 l2).objs.size] }
theorem zK(t1 t2 : Bool)(l1 l2 : Addr)(xs ys : Array Value): Meets (Builtin.«zip.__new__» ⟨[.type "zip",.ref l1, .ref l2], []⟩) (λ_ R s => EW t1 s.heap l1 xs /\ EW t2 s.heap l2 ys /\
   R (.ok (.ret (.ref (Ua s.heap t1 t2 l1 l2).objs.size))) { s with heap:=Nh s.heap t1 t2 l1 l2 }):=
 .of_wp λprog w A R s h=>by
  obtain⟨a,g,d,tk,os⟩:=s;obtain⟨c,b,h⟩:=h;have j:=sub_zip;have i:EW t1 (Shared.heap ⟨a,g,d,tk,os⟩) l1 xs:=c;have f:EW t2 (Shared.heap ⟨a.push { cls:=.type (OJ t1),data:=.fields #[.ref l1,.int 0 0] },g,d,tk,os⟩) l2 ys:=EW.at b λo e=>CG _ e
  wp_walk using lQ i,lQ f
  exact⟨_,rfl,h⟩
theorem DY.new{i:Addr}(e:h.get? i=some { cls:=.type (OJ tp),data:=.fields #[.ref l,.int 0 0] }):DY tp h i l 0:=by
 cases tp
 .exact⟨_,e,rfl,rfl⟩
 .exact⟨_,e,rfl,rfl⟩
theorem ZEG(n:EW t1 s.heap l1 xs)(m:EW t2 s.heap l2 ys)
  (h:∀h',IsZip h' (s.heap.objs.size+4) (s.heap.objs.size+2) (s.heap.objs.size+3) .none->IsPair h' (s.heap.objs.size+2) (.ref s.heap.objs.size) (.ref (s.heap.objs.size+1))->
   IsPair h' (s.heap.objs.size+3) .none .none->DY t1 h' s.heap.objs.size l1 0->DY t2 h' (s.heap.objs.size+1) l2 0->
   (∀c o,s.heap.get? c=some o->h'.get? c=some o)->Q (.ref (s.heap.objs.size+4)) { s with heap:=h' }):wpAny (model prog w) A (call (.type "zip") [.ref l1,.ref l2]) Q E s:=by
 refine callType_new F.called_zip (by decide) (F.typeCall_zip_2 _ _) (F.newCall_zip_2 _ _) (λobj=>F.args_object_init_3 obj _ _) F.entry_zip_new (zK t1 t2 l1 l2 xs ys) ⟨n,m,?_⟩;have d:(RE s.heap t1 l1).objs.size=s.heap.objs.size+1:=Kh ..;have b:(UP s.heap t1 t2 l1 l2).objs.size=s.heap.objs.size+2:=by rw[Kh,d]
 have a:(TH s.heap t1 t2 l1 l2).objs.size=s.heap.objs.size+3:=by rw[Kh,b]
 have g:(Ua s.heap t1 t2 l1 l2).objs.size=s.heap.objs.size+4:=by rw[Kh,a]
 have p:∀{l:Heap}{c o ob},l.get? c=some o->(l.push ob).get? c=some o:=λe=>CG _ e;have f:(Nh s.heap t1 t2 l1 l2).get? (Ua s.heap t1 t2 l1 l2).objs.size=some _:=Co _ rfl;have i:(Nh s.heap t1 t2 l1 l2).get? (TH s.heap t1 t2 l1 l2).objs.size=some _:=p (Co _ rfl);have j:(Nh s.heap t1 t2 l1 l2).get? (UP s.heap t1 t2 l1 l2).objs.size=some _:=p (p (Co _ rfl));have k:(Nh s.heap t1 t2 l1 l2).get? (RE s.heap t1 l1).objs.size=some _:=p (p (p (Co _ rfl)));have q:(Nh s.heap t1 t2 l1 l2).get? s.heap.objs.size=some _:=p (p (p (p (Co _ rfl))));show _/\_;rw[b,a,g]at f;rw[d,b]at j;rw[a]at i;rw[d]at k;rw[g];exact⟨⟨_,f,rfl⟩,h _ f j i (.new q) (.new k) λc o e=>p (p (p (p (p e))))⟩
theorem NC{xs:List V}(I:Inv X ZB O H s)(h:GS X.K tp H a xs):∃A5:List Value,Vals xs A5/\EW tp s.heap a A5.toArray:=by
 cases tp
 .obtain⟨A5,b,pl,_⟩:=I.list h;exact⟨A5,b,pl.isList⟩
 .obtain⟨A5,b,pl,_⟩:=I.tuple h;exact⟨A5,b,pl⟩
noncomputable def kS(K:ZHa)(t1 t2:Bool)(a b:Addr)(xs ys:List V):It:=
 ⟨λi H=>GS K t1 H a xs/\GS K t2 H b ys/\i<xs.length/\i<ys.length,λi H x H'=>∃p d c,xs[i]?=some d/\ys[i]?=some c/\x=.ref p/\H p=none/\H'=upd H p (.tup [d,c]),λi H=>GS K t1 H a xs/\GS K t2 H b ys/\(xs.length<=i∨ys.length<=i)⟩
theorem yC{P:Program}{K:ZHa}(t1 t2:Bool)(a b z TI TO i1 i2:Addr)(xs ys:List V)(D:ZipApart z TI TO i1 i2 a b):
  Turn P w K (.Tuple es k1 p1) (kS K t1 t2 a b xs ys) [z,TI,TO,i1,i2] z (λi h=>(IsZip h z TI TO .none/\IsPair h TI (.ref i1) (.ref i2))/\(∃c d,IsPair h TO c d)/\DY t1 h i1 a i/\DY t2 h i2 b i) where
 mem:=by simp
 obj:=λi h st c j=>by
  obtain⟨⟨G,s2⟩,⟨d,e,n⟩,S,R⟩:=st;obtain⟨σ,_,L,W⟩:=S.has;obtain⟨N,_,J,U⟩:=R.has;simp only[G9,Ak,vE]at j;rcases j with rfl|rfl|rfl|rfl|rfl
  .exact⟨_,G,λv y=>by cases y⟩
  .exact⟨_,s2,λv y=>by cases y⟩
  .exact⟨_,n,λv y=>by cases y⟩
  .exact⟨σ,L,λv y=>by rw[W]at y;cases y⟩
  .exact⟨N,J,λv y=>by rw[U]at y;cases y⟩
 keep:=λi h h' st k=>⟨⟨k z (by simp) _ st.1.1,k TI (by simp) _ st.1.2⟩,let ⟨c,d,n⟩:=st.2.1;⟨c,d,k TO (by simp) _ n⟩,st.2.2.1.at λo q=>k i1 (by simp) o q,st.2.2.2.at λo q=>k i2 (by simp) o q⟩
 item:=by
  intro X u hw A j i ZB s O H E I m st t;subst u hw A;obtain⟨Hi,Oh,Xc,EK⟩:=t;obtain⟨⟨l,Iy⟩,⟨c,d,KZ⟩,Nj,R5⟩:=st;obtain⟨Q,Mj,Nk⟩:=NC I Hi;obtain⟨Bq,UG,NX⟩:=NC I Oh;obtain⟨u1,r,M⟩:=Mj.get (AX Xc);obtain⟨u2,F,p⟩:=UG.get (AX EK);refine ZDj D l Iy KZ Nj R5 Nk NX (x:=u1) (y:=u2) (by simpa using r) (by simpa using F) λh1 a1 a2 a3 Z Y hk=>⟨_,rfl,?_⟩
  refine wpAny_letOwnedTupleGo_zip a1 λh2 LF DD=>?_;have B:z<s.heap.objs.size:=BH l;have g:∀b o,b≠z->h1.get? b=some o->h2.get? b=some o:=λb o f q=>(DD.2 b f).trans q;have C:IsPair h2 s.heap.objs.size u1 u2:=g _ _ (MW B) Y;have kp:∀b o,b∉[z,TI,TO,i1,i2]->s.heap.get? b=some o->h2.get? b=some o:=λb o f q=>by
   simp only[G9,Ak,vE,not_or]at f;exact g b o f.1 (hk b o f.1 f.2.2.1 f.2.2.2.1 f.2.2.2.2 q)
  refine⟨.ref s.heap.objs.size,_,I.ma (t':=s.toks) (a:=s.heap.objs.size) (o:=.tup [xs[i],ys[i]]) m kp (As _) ?_,rfl,⟨_,_,_,AX Xc,AX EK,rfl,I.AY.fresh (As _),rfl⟩,?_,λb f=>?_⟩
  .exact⟨(by show 2<=sizeLine;decide),[u1,u2],.cons M (.cons p .nil),⟨_,C,rfl,_,rfl⟩,λob q=>by rw[show h2.get? s.heap.objs.size=_ from C]at q;cases q;rfl⟩
  .exact⟨⟨LF,g _ _ D.TIz (hk _ _ D.TIz D.TITO D.TIi1 D.TIi2 Iy)⟩,⟨_,_,g _ _ D.TOz a2⟩,a3.at λo q=>g _ _ D.i1z q,Z.at λo q=>g _ _ D.i2z q⟩
  .have y:b<s.heap.objs.size:=by
    simp only[G9,Ak,vE]at f;rcases f with rfl|rfl|rfl|rfl|rfl
    .exact B
    .exact BH Iy
    .exact BH KZ
    .obtain⟨o,_,q,_⟩:=Nj.has;exact BH q
    .obtain⟨o,_,q,_⟩:=R5.has;exact BH q
   rw[An (D6 y)];exact(m b f).1
 done:=by
  intro X u hw A j i ZB s O H E I m st t;subst u hw A;obtain⟨Hi,Oh,hx⟩:=t;obtain⟨⟨l,Iy⟩,⟨c,d,KZ⟩,Nj,R5⟩:=st;obtain⟨Q,Mj,Nk⟩:=NC I Hi;obtain⟨Bq,UG,NX⟩:=NC I Oh;have l1:=Mj.length;have l2:=UG.length;exact ZAS (I.ok.hd j) D l Iy KZ Nj R5 Nk NX (hx.imp (λh=>by simp;omega) (λh=>by simp;omega)) λh' T=>⟨rfl,I.mV (t':=s.toks) m λb o f q=>by
   simp only[G9,Ak,vE,not_or]at f;exact T b o f.1 f.2.2.1 f.2.2.2.1 f.2.2.2.2 q⟩
 self:=λ_ _ _ _ _ st h=>wpAny_pyIter_zip st.1.1 h
section
def ZV(K:ZHa)(t:TA):TI:=λO H R=>t O H λvs H1=>∃a b t1 t2 xs ys,vs=[.ref a,.ref b]/\GS K t1 H1 a xs/\GS K t2 H1 b ys/\R (kS K t1 t2 a b xs ys) H1
theorem jN{p:Pos}{l l2:Expr}{t:TA}(r:Gl X "zip")(o:X.mg "zip"=none)(d:QA X [l,l2] t)(n:starEach [l,l2] X.env=(false,eval l X.env)::starEach [l2] X.env:=by rfl)(hp:(backTo pos (starEach [l2] X.env)).any (·.1)=false:=by rfl):
  QI X (.Tuple es k1 p1) (.Call (.Name "zip" p) [l,l2] [] pos) (ZV X.K t):=⟨by
 have d:=d.h;intro ZB s O H R I h;refine sG (Li I r o (show bootBuiltins "zip"=some (.type "zip") by decide +kernel) ?_ (by decide) (by decide));refine V4 (AO (d pos ZB s O H _ I h) λus c⟨vs,H1,I1,k,m⟩=>?_) n hp;obtain⟨a,b,t1,t2,xs,ys,rfl,Hi,Oh,q⟩:=m;obtain⟨u1,u2,rfl,j,i⟩:=vals2 k;cases j;cases i;obtain⟨B,Mj,Nk⟩:=NC I1 Hi;obtain⟨Bq,UG,NX⟩:=NC I1 Oh;have v:a<c.heap.objs.size:=by cases t1 <;> (obtain⟨_,e,_⟩:=Nk;exact BH e)
 have u:b<c.heap.objs.size:=by cases t2 <;> (obtain⟨_,e,_⟩:=NX;exact BH e)
 refine ZEG Nk NX λh' g A z x w kp=>wpAny_pyIter_zip g ?_;refine⟨_,[c.heap.objs.size+4,c.heap.objs.size+2,c.heap.objs.size+3,c.heap.objs.size,c.heap.objs.size+1],_,_,H1,rfl,I1.kept (t':=c.toks) kp,yC t1 t2 a b _ _ _ _ _ xs ys (zipApart_new v u),⟨⟨g,A⟩,⟨_,_,z⟩,x,w⟩,λb f=>?_,q⟩;have y:c.heap.objs.size<=b:=by
  simp only[G9,Ak,vE]at f;rcases f with rfl|rfl|rfl|rfl|rfl
  .exact Uz _ 4
  .exact Uz _ 2
  .exact Uz _ 3
  .exact As _
  .exact Uz _ 1
 exact I1.LN y (I1.AY.fresh y)⟩
variable{l:Expr}{tl t:TE}{st:Stmt}{ts:TS}
end
end L2
namespace L2
variable{values vs:List Expr}{FX:List (TE×TE)}
section
variable{X:Cx}{pos:Pos}
theorem yL:Jx X pos [] [] []:=ZBt
theorem YL{k v:Expr}{ks:List (Option Expr)}{tk tv:TE}(hk:QE X k tk)(a:QE X v tv)(b:Jx X pos ks vs FX):Jx X pos (some k::ks) (v::vs) ((tk,tv)::FX):=yh hk.h a.h b
theorem yW{keys:List (Option Expr)}(h:Jx X pos keys values FX)(K7:keys.all (·.isSome)=true)(l:keys.length=values.length)(n:keys≠[])(R4:keys.length<=15):QE X (.Dict keys values pos) (aQ FX):=⟨by
 intro ZB s O H Q I q;have k:=I.AY.fresh (As s.heap.objs.size);have r:=I.laid (a:=s.heap.objs.size) (o:=.dK []) (h':=s.heap.push { cls:=.type "dict", data:=.dict #[] }) (t':=s.toks) (λ_ _ q=>CG _ q) (As _) (iK s.heap I.big);refine wpAny_Dict_walk (knd:=Dk X.prog X.w) K7 l n R4 (AO (h ZB _ O _ _ r (q _ k)) λws s2⟨ps,H2,I2,rel,e,A7,p,t,g⟩=>?_);subst p;obtain⟨b,c,d⟩:=jO (P:=X.prog) (w:=X.w) rel;obtain⟨z,hd,Gu,f,dd⟩:=kN I2.AY e;cases f;refine⟨b,c,dd,λh' Lj j=>⟨.ref s.heap.objs.size,_,?_,rfl,g⟩⟩;have i:(KP [] A7).length<=sizeLine:=by
  have h1:=iF A7 [];rw[Qn]at h1;rw[sizeLine_eq];omega
 have m:∃q,h'.get? s.heap.objs.size=some q:=let ⟨q,_,_,hq,_⟩:=Lj;⟨q,hq⟩;exact Yb I2 (by rw[e];exact True.intro) j m (kj i hd (d.merge .nil) Lj)⟩
end
theorem kP:∀(more acc:List (Key×V)),((acc++more).map (·.1)).Nodup->KP acc more=acc++more
 | [],acc,_=>by rw[CB];rfl
 |p::r,acc,h=>by
  show KP (putK acc p.1 p.2) r=_;have c:acc.any (λa=>decide (a.1=p.1))=false:=by
   rw[ZGU];intro q b e;have d:=qB e;rw[C0,Ae,Cp]at h;exact h.2.2 q.1 (List.mem_map.mpr ⟨q,b,rfl⟩) p.1 Es d
  have e:putK acc p.1 p.2=acc++[p]:=by
   unfold putK;rw[c];rfl
  rw[e,kP r (acc++[p]) (by rw[BX];exact h),BX];rfl
end L2
namespace Fz
open L2 Lw
variable{ss:List Slot}{E:Ent0}{O:L2.St}{F H:Hp}{C p:Addr}{ta:TA}{Q:VK}{i n:Nat}{pre:Pre}
section
variable[Xw]
theorem tZ{F1 H1:Hp}{o:HO}(S:Sg E ss O F H)(m:Mv E ss O F H F1 H1)(b:H p=none)(d:F1 p=none):Mv E ss O F H F1 (upd H1 p o):=
 S.step m.ff (λa u e=>by rw[An (by rintro rfl;rw[d]at e;cases e)];exact m.st.fh a u e)
  (λa u n e=>by rw[An (by rintro rfl;rw[b]at e;cases e)];exact m.hh a u n e) m.nn
  λi l hi e=>Bf.keep (m.st.Ez hi e) λu f=>by
   rw[An (by
    rintro rfl;obtain⟨_,_,c,_⟩:=S.Ez hi e;rw[b]at c;cases c)]
   exact f
theorem ZDU{k:List Nat->OV->Prop}{E:Ent}(ks:List Str)(hk:ks.Nodup)(R4:ks.length<=15)(S:Sg E ss O F H)(d:H p=none)
  (h:N5 ss ta λm us=>us.length=ks.length/\∀l,k m (.nd (.BD (ks.map Sum.inr)) l us))
  (q:∀v m u F' H',Mv E ss O F H F' H'->B0 F' H' v u->u.addrs.Nodup->(∀a∈u.addrs,F' a=none/\E.H0 a=none/\((∃i∈m,∃s,s≠Slot.AZ/\ss[i]?=some s/\BJ s O[i]? a)∨H a=none))->k m u->Q v H') :
  ta O (upd H p (.dK [])) λvs H2=>H2 p=some (.dK [])/\∃A7:List (Key×V),List.zipWith (λs v=>(V.str s,v)) ks vs=A7.map (λj=>(kV j.1,j.2))/\A7.length<=15/\Q (.ref p) (upd H2 p (.dK (KP [] A7))):=by
 have x:=S.make d (.dK []);have C:F p=none:=S.CA d;refine h.go E O F _ _ x.st λvs m us F1 H1 n t HM A⟨I,kk⟩=>?_;have r:H1 p=some (.dK []):=n.hh p _ (S.Ic d) BC;have y:F1 p=none:=by
  cases e:F1 p with
  |none=>rfl
  |some o=>
   rcases n.nn p o e with z|z
   .rw[C]at z;cases z
   .rw[BC]at z;cases z
 have D:vs.length=ks.length:=by rw[t.length,I]
 have K:List.zipWith (λs v=>(V.str s,v)) ks vs=((ks.map Sum.inr).zip vs:List (Key×V)).map (λj=>(kV j.1,j.2)):=by
  rw[List.zip_eq_zipWith,List.zipWith_map_left,List.map_zipWith];rfl
 refine⟨r,(ks.map Sum.inr).zip vs,K,by rw[Qo,AD];omega,?_⟩;have nk:((ks.map Sum.inr:List Key)).Nodup:=ZGT _ (λa b(h:a≠b)=>λz=>h (by injection z)) hk;rw[kP _ [] (by rw[Et,List.map_fst_zip (by rw[AD];omega)];exact nk),Et];have mv:=tZ (o:=.dK ((ks.map Sum.inr).zip vs)) S (x.trans n) d y;have B:p∉OV.Al us:=λg=>by
  rcases(A p g).2.2 with⟨i,_,s,_,G,ow⟩|z
  .exact S.EL G ow d
  .rw[BC]at z;cases z
 refine q _ m (.nd (.BD (ks.map Sum.inr)) p us) F1 _ mv (.nd (k:=.BD (ks.map Sum.inr)) (vs:=vs) BC trivial (show(List.map Sum.inr ks:List Key).length=vs.length by rw[AD];exact D.symm) (t.mono (AU.refl _) λa g o e=>by rw[An (by rintro rfl;exact B g)];exact e)) ?_ (λa g=>?_) (kk p)
 .rw[OV.DE];exact List.nodup_cons.mpr ⟨B,HM⟩
 .rw[OV.DE]at g;rcases List.mem_cons.mp g with e|g
  .subst e;exact⟨y,S.DU d,.inr d⟩
  .obtain⟨f,J,w⟩:=A a g;exact⟨f,J,w.imp id λz=>by
    by_cases c:a=p
    .subst c;exact d
    .rw[An c]at z;exact z⟩
theorem qd{k:List Nat->OV->Prop}{k1 b a:Str}{t1 t2 c:TE}(hk:[k1,b,a].Nodup)(h:N5 ss (Ah t1 (Ah t2 (Ah c BE))) λm us=>us.length=3/\∀l,k m (.nd (.BD [.inr k1,.inr b,.inr a]) l us)):Wx ss (aQ [(tC (.str k1),t1),(tC (.str b),t2),(tC (.str a),c)]) k:=⟨λE O F H Q S q p d=>
 ZDU (ta:=Ah t1 (Ah t2 (Ah c BE))) [k1,b,a] hk (by show(_:Nat)+1<=15;simp) S d h q⟩
variable{te:TE}{t:OV}
theorem ZY{m:Str}{k:PV->Prop}(h:Wl ss i t te λ_ u=>∃dx ns a us,u=.nd (.obj C dx ns) a us/\DC ns m=none/\Wb ss ta λps=>∃c,pre ((u.pv::ps).map .is) (.is c)/\∀p,c p->Dx p=true/\k p):Wp ss (Ir C m (AL pre) [] E0 te ta) k:=⟨λE O F H Q S q=>
 h.go E O F H _ S λv p u F1 H1 d g B6⟨dx,ns,a,us,x,w,h2⟩=>by
  subst x;have z:=g;cases z with
  |@nd _ _ vs _ e A B rr=>
   refine⟨a,dx,ns.zip vs,rfl,e,Q5 w,h2.go E O F1 H1 _ d.st λvs ps F2 H2 b l⟨c,s,kk⟩=>?_⟩;rw[CB];have j:=g.mv d.st h.hi B6 b;have y:AR (CL F2 H2 (Cw ss O)) (V.ref a::vs) (_::ps):=.cons (j.rep b.st.HZ.1 λa e o ho=>by
    unfold CL;obtain⟨lt,hi⟩:=h.hi;rw[pT (Tz b.st.len hi (by simp) (OV.Ih B6 a e))];exact ho) l
   refine⟨_,.is c,_,[],s,b.st.lend y,λv F' H' f⟨p,r,kp⟩=>?_⟩;obtain⟨mv,n⟩:=b.st.Sh f;exact q v p _ H' (d.trans (b.trans mv)) (r.sub n (kk p kp).1) (kk p kp).2⟩
end
theorem zH[Xw]{K:ZHa}{j l m:Nat}{p:PV}{k:List Slot->Prop}(h:∃a b c d,p=.tup [a,b,c,d]/\k ((((ss.set i (.is a)).set j (.is b)).set l (.is c)).set m (.is d))):Wg ss (Jm K 4 (Fh (C7 i) (Fh (C7 j) (Fh (C7 l) (Fh (C7 m) M8))))) p k:=⟨λE O F H v Q S r q=>by
 obtain⟨a,b,c,d,rfl,kk⟩:=h;obtain⟨_,_,rfl,e,r⟩:=r.inv;obtain⟨_,_,rfl,o,r⟩:=r.inv;obtain⟨_,_,rfl,n,r⟩:=r.inv;obtain⟨_,_,rfl,g,r⟩:=r.inv;obtain⟨_,_,rfl,f,r⟩:=r.inv;obtain rfl:=r.DI;exact⟨_,_,rfl,B7.of (S.fh _ _ e),rfl,_,_,rfl,_,_,rfl,_,_,rfl,_,_,rfl,rfl,q _ _ kk ((((S.EM o).EM n).EM g).EM f)⟩⟩
theorem Oi{N:List Str}{vs:List V}{X:XK}{t:TS}(h:BM pre vs H Q X)(b:∀ss R,pre ss R->ss.length=n)
  (hw:∀ss R,pre ss R->Ws (ss++List.replicate (N.length - n) .any) t (Z2 R) R):t { nx:=λ_ H'=>Q .AE H',rt:=Q } (L2.start N vs) H:=by
 obtain⟨ss,R,F,A,B,a,S,q⟩:=h;have e:vs.length=n:=by have:=S.len;rw[AD]at this;rw[<- this];exact b ss R a
 unfold L2.start;rw[e];exact(hw ss R a).go (PZ ⟨A,F,H,B⟩) _ _ F H (S.grown _) (λA9 σ' F' H' z S' _=>q .AE F' H' S'.toFin (z.ok S')) λv F' H' f ok=>q v F' H' f ok
end Fz
namespace Fz
open L2 Lw
section
variable[Xw]
variable{ss:List Slot}{te:TE}{K:ZHa}{P:Program}{w:World}
variable{E:Ent0}{O:L2.St}{F H F' H':Hp}{js:List Nat}{ta tb:TE}
theorem fU{E:Ent}{F1:Hp}{v:V}{tp:Bool}{xs:List PV}(f:Fv E.toEnt0 F1 v tp xs):∃l vs,v=.ref l/\(∀(ss:List Slot)(O:L2.St)(F H:Hp),AU F1 F->Sg E.toEnt0 ss O F H->H l=some (EZ tp vs))/\AR F1 vs xs:=by
 cases tp with
 |true=>
  have a:Rep F1 v (.tup xs):=f;cases a with
  |tup e r=>exact⟨_,_,rfl,λss O F H s S=>S.fh _ _ (s _ _ e),r⟩
 |false=>
  obtain⟨l,vs,e,h1,r⟩:=f;refine⟨l,vs,e,λss O F H s S=>?_,r⟩;rcases h1 with h1|⟨hA,h1⟩
  .exact S.fh _ _ (s _ _ h1)
  .exact S.keep _ _ hA h1
theorem cN{k:List PV->Prop}(h:Wz ss ta λ_ xs=>Wz ss tb λ_ ys=>k (Fo xs ys)):Wi ss (ZV K (Ah ta (Ah tb BE))) k:=⟨λE O F H R S q=>
 h.go E O F H _ S λv tp xs F1 H1 u f h2=>h2.go E O F1 H1 _ u.st λL CQ ys F2 H2 b C kk=>by
  obtain⟨l,vs,e,Of,r⟩:=fU f;obtain⟨l2,Fl,G,j,t⟩:=fU C;have r:=r.mono b.ff;have n:∀(ss:List Slot)(O:L2.St)(F H:Hp),AU F2 F->Sg E ss O F H->H l=some (EZ tp vs):=λss O F H s S=>Of ss O F H (λa o e=>s a o (b.ff a o e)) S;subst e;subst G;have c:=r.length;have M:=t.length;refine⟨l,l2,tp,CQ,vs,Fl,rfl,EZ.sq (n ss O F2 H2 (AU.refl _) b.st),EZ.sq (j ss O F2 H2 (AU.refl _) b.st),q _ (Fo xs ys) F2 H2 (u.trans b) ⟨λss O F H i s S hi=>?_,λss O F H s S=>?_,λss O F H i x H' s S hi y=>?_⟩ kk⟩
  .rw[Pe]at hi;exact⟨EZ.sq (n ss O F H s S),EZ.sq (j ss O F H s S),by omega,by omega⟩
  .refine⟨EZ.sq (n ss O F H s S),EZ.sq (j ss O F H s S),?_⟩;rw[Pe];omega
  .obtain⟨p,z,w,hx,A,ex,B,D⟩:=y;subst ex;subst D;obtain⟨J,XG,g⟩:=r.get' hx;obtain⟨I,LF,d⟩:=t.get' A;have m:=S.alloc B (.tup [z,w]);exact⟨_,_,ji XG LF,m,.tup BC (.cons (g.mono (s.trans m.ff)) (.one (d.mono (s.trans m.ff))))⟩⟩
theorem VT{n:Nat}{wi:TI}{tt:TT}{te:TE}{k:List PV->Prop}(f:PV->Bool)(g:PV->PV)
  (h:Wi ss wi λxs=>xs.length<=100000/\(∀x∈xs,∃as:List PV,x=.tup as/\as.length=n/\Wt (CM js ss++as.map .is) tt (λc=>c=f x)/\(f x=true->Wp (CM js ss++as.map .is) te λp=>p=g x))/\k ((xs.filter f).map g))
  (nd:js.Nodup:=by decide) (np:OS js ss=true:=by rfl):Wn ss (Nl K n wi js tt te) k:=⟨λE O F H Q S q=>
 h.go E O F H _ S λJ xs F1 H1 d D⟨hz,X,kk⟩acc B8=>by
  have R:C6 ss O acc:=d.st.Ic B8;have IP:=d.st.DU B8;have IG:∀(i:Nat)s,ss[i]?=some s->¬ BJ s O[i]? acc:=λi s hi=>d.st.ID hi B8;refine⟨λi m H2=>m=xs.length - i/\i<=xs.length/\∃F2 vs,Mv E ss O F1 H1 F2 H2/\F2 acc=none/\H2 acc=some (.lst vs)/\AR F2 vs (((xs.take i).filter f).map g),⟨_,rfl,Cg _,F1,[],d.st.make B8 _,d.st.CA B8,BC,.nil⟩,?_⟩;rintro i m H2⟨rfl,hi,F2,vs,b,L,A,u⟩
  by_cases t:i<xs.length
  .refine .inr ⟨D.go ss O F2 H2 i b.ff b.st t,λx H3 y=>?_⟩;obtain⟨p,F3,G,z,I⟩:=D.Ep ss O F2 H2 i x H3 b.ff b.st t y;have Iq:p∈xs:=Bi G;have QY:(xs.take (i+1))=xs.take i++[p]:=by
    have e2:xs[i]=p:=by rw[AX t]at G;exact BY G
    rw[Qs t,e2]
   have M:List.filter f (xs.take (i+1))=(xs.take i).filter f++(if f p=true then[p]else[]):=by
    rw[QY,Uu];congr 1
    by_cases j:f p=true <;> simp[j]
   have σ:∀{F4:Hp},(∀a o,F4 a=some o->F2 a=some o∨H2 a=none)->F4 acc=none:=λ{F4}n=>by
    cases e:F4 acc with
    |none=>rfl
    |some o=>
     rcases n acc o e with w|w
     .rw[L]at w;cases w
     .rw[A]at w;cases w
   obtain⟨as,ep,W,V,hw⟩:=X p Iq;rw[ep]at I;obtain⟨_,_,rfl,e,r⟩:=I.inv;refine⟨_,_,rfl,B7.of (z.st.fh _ _ e),by rw[r.length,W],?_⟩;have S3:=z.st.AN (js:=js) nd r;refine V.go E _ F3 H3 _ S3 λc F4 H4 U Y=>?_;have N:=U.out (ps:=as) z.st np;have l:=z.trans N;show if c=true then _ else _
   rw[Y]
   by_cases j:f p=true
   .rw[pT j];have S4:=l.st.AN (js:=js) nd (r.mono N.ff);refine(hw j).go E _ F4 H4 _ S4 λw pw F5 H5 T JF Z=>?_;have Ld:=T.out (ps:=as) l.st np;have C:=l.trans Ld;have LS:=C.hh acc _ R A;have P:=σ C.nn;have v:vs.length<=99999:=by
     rw[u.length,AD];have:=Ux f (xs.take i);rw[DR]at this;omega
    refine⟨vs,LS,HK v,xs.length - (i+1),by omega,rfl,t,F5,vs++[w],?_,P,BC,?_⟩
    .have B:=b.trans C;refine⟨B.st.MD P (.inl IP) IG,B.ff,λa o n e=>?_,B.nn⟩;rw[An (Di e B8)];exact B.hh a o n e
    .rw[M,pT j,C0];rw[Z]at JF;exact(u.mono C.ff).append (.one JF)
   .have QD:f p=false:=by simpa using j
    rw[QD,pL (by decide)];refine⟨xs.length - (i+1),by omega,rfl,t,F4,vs,b.trans l,σ l.nn,l.hh acc _ R A,?_⟩;rw[M,pL j,CB];exact u.mono l.ff
  .have e:i=xs.length:=by omega
   subst e;refine .inl ⟨D.stop ss O F2 H2 b.ff b.st,q acc vs _ F2 H2 (d.trans b) L (d.none B8) A ?_ kk⟩;rw[FR]at u;exact u⟩
end
end Fz
namespace L2
theorem p9{X:Cx}:Gn X "list.clear" Yq:=vw
end L2
namespace L2
section
variable{X:Cx}{e:Expr}{t1 t2:TE}{u1 u2:TT}
def Zg(t1 t2:TT):TT:=λO H Q=>t1 O H Q∨t2 O H Q
theorem ZAy(h1:QT X e u1)(h2:QT X e u2):QT X e (Zg u1 u2):=⟨λZB s O H Q I h=>h.elim (h1.h ZB s O H Q I) (h2.h ZB s O H Q I)⟩
end
end L2
namespace Fz
open L2 Lw
variable{ss:List Slot}{te:TE}{a a0 b:Addr}
section
variable[Xw]
variable{K:ZHa}{ta tb tc ti t1 t2:TE}{u1 u2:TT}{nx:List Slot->Prop}{R:Ap}{xs ps:List PV}{i j:Nat}{t:OV}{lt:Bool}{js:List Nat}
theorem ZDo{k:Bool->Prop}(h:Wt ss u1 k):Wt ss (Zg u1 u2) k:=⟨λE O F H Q S q=>.inl (h.go E O F H Q S q)⟩
theorem ze{k:Bool->Prop}(h:Wt ss u2 k):Wt ss (Zg u1 u2) k:=⟨λE O F H Q S q=>.inr (h.go E O F H Q S q)⟩
theorem pO{n:Nat}{wi:TI}{tt:TT}{k:List Nat->OV->Prop}(G:PV->OV->Prop)
  (h:Wi ss wi λxs=>xs.length<=99999/\(∀x∈xs,∃as:List PV,x=.tup as/\as.length=n/\Wt (CM js ss++as.map .is) tt (λc=>c=true)/\Wx (CM js ss++as.map .is) te λm u=>m=[]/\G x u)/\∀l us,us.length=xs.length->(∀(j:Nat)x u,xs[j]?=some x->us[j]?=some u->G x u)->k [] (.nd .lst l us))
  (nd:js.Nodup:=by decide) (np:OS js ss=true:=by rfl):Wx ss (Nl K n wi js tt te) k:=⟨λE O F H Q S q=>
 h.go E O F H _ S λJ xs F1 H1 g N⟨hz,he,kk⟩acc B8=>by
  have FV:C6 ss O acc:=g.st.Ic B8;have IP:=g.st.DU B8;have IG:∀(i:Nat)s,ss[i]?=some s->¬ BJ s O[i]? acc:=λi s hi=>g.st.ID hi B8;refine⟨λi m H2=>m=xs.length - i/\i<=xs.length/\∃F2 vs us,Mv E ss O F1 H1 F2 H2/\F2 acc=none/\H2 acc=some (.lst vs)/\BP F2 H2 vs us/\(OV.Al us).Nodup/\(∀a∈OV.Al us,F2 a=none/\H1 a=none/\a≠acc)/\us.length=i/\∀(j:Nat)x u,xs[j]?=some x->us[j]?=some u->G x u,
   ⟨_,rfl,Cg _,F1,[],[],g.st.make B8 _,g.st.CA B8,BC,.nil,by rw[OV.G6];exact HA,λa v=>by(rw[OV.G6]at v;cases v),rfl,λj x u _ e=>by simp at e⟩,?_⟩
  rintro i m H2⟨rfl,hi,F2,vs,us,t,Y,v,C,Jd,Ly,MJ,X⟩
  by_cases T:i<xs.length
  .refine .inr ⟨N.go ss O F2 H2 i t.ff t.st T,λx H3 y=>?_⟩;obtain⟨p,F3,W,L,U⟩:=N.Ep ss O F2 H2 i x H3 t.ff t.st T y;have Iq:p∈xs:=Bi W;have JI:∀{F4:Hp},(∀a o,F4 a=some o->F2 a=some o∨H2 a=none)->F4 acc=none:=λ{F4}n=>by
    cases e:F4 acc with
    |none=>rfl
    |some o=>
     rcases n acc o e with w|w
     .rw[Y]at w;cases w
     .rw[v]at w;cases w
   obtain⟨as,ep,hn,ht,hw⟩:=he p Iq;rw[ep]at U;obtain⟨_,_,rfl,e,r⟩:=U.inv;refine⟨_,_,rfl,B7.of (L.st.fh _ _ e),by rw[r.length,hn],?_⟩;have S3:=L.st.AN (js:=js) nd r;refine ht.go E _ F3 H3 _ S3 λc F4 H4 m4 d=>?_;have KN:=m4.out (ps:=as) L.st np;have A:=L.trans KN;show if c=true then _ else _
   rw[d,pT rfl];have S4:=A.st.AN (js:=js) nd (r.mono KN.ff);refine hw.go E _ F4 H4 _ S4 λw mm u F5 H5 m5 JF pC hu⟨em,σ⟩=>?_;subst em;have Ld:=m5.out (ps:=as) A.st np;have B:=A.trans Ld;have LS:=B.hh acc _ FV v;have HD:=JI B.nn;have D:vs.length<=99999:=by rw[C.length,MJ];omega
   have Z:∀b∈OV.Al us,C6 ss O b:=λb d=>g.st.Ic (Ly b d).2.1;have r5:=C.mono B.ff λb d o I=>B.hh b o (Z b d) I;have r4:=C.mono A.ff λb d o I=>A.hh b o (Z b d) I;have un:∀b∈u.addrs,F5 b=none/\H4 b=none:=λb d=>by
    obtain⟨f,_,w⟩:=hu b d;exact⟨f,w.elim (λ⟨_,z,_⟩=>absurd z (by simp)) id⟩
   have zY:H4 acc≠none:=by rw[A.hh acc _ FV v];simp
   have V:∀b∈u.addrs,b≠acc:=λb d z=>zY (z▸(un b d).2);have R:OV.Al (us++[u])=OV.Al us++u.addrs:=by rw[K2,LD]
   have pS:∀b,F2 b=none->H2 b≠none->F5 b=none:=λb h1 h2=>B.bx h1 h2;refine⟨vs,LS,HK D,xs.length - (i+1),by omega,rfl,T,F5,vs++[w],us++[u],?_,HD,BC,?_,?_,λb d=>?_,by rw[Bt,MJ];rfl,λj x u' hx GI=>?_⟩
   .have M:=t.trans B;refine⟨M.st.MD HD (.inl IP) IG,M.ff,λa o n e=>?_,M.nn⟩;rw[An (Di e B8)];exact M.hh a o n e
   .refine(r5.append (.one JF)).mono (AU.refl _) λb d o I=>?_;rw[An ?_]
    .exact I
    .rw[R]at d;rcases List.mem_append.mp d with d|d
     .exact(Ly b d).2.2
     .exact V b d
   .rw[R,Cp];refine⟨Jd,pC,λb d c hc P=>?_⟩;subst P;exact r4.there b d (un b hc).2
   .rw[R]at d;rcases List.mem_append.mp d with d|d
    .exact⟨pS b (Ly b d).1 (C.there b d),(Ly b d).2⟩
    .exact⟨(un b d).1,(t.trans A).none (un b d).2,V b d⟩
   .by_cases c:j<us.length
    .rw[DO c]at GI;exact X j x u' hx GI
    .rw[E8 (by omega)]at GI;have hj:j=us.length:=by
      have:=(List.getElem?_eq_some_iff.mp GI).1;simp at this;omega
     subst hj;simp at GI;subst GI;rw[MJ,W]at hx;cases hx;exact σ
  .have e:i=xs.length:=by omega
   subst e;refine .inl ⟨N.stop ss O F2 H2 t.ff t.st,?_⟩;refine q _ [] (.nd .lst acc us) F2 H2 (g.trans t) (.nd (k:=.lst) v trivial trivial C) ?_ (λb d=>?_) (kk acc us MJ X)
   .rw[OV.DE];exact List.nodup_cons.mpr ⟨λz=>(Ly acc z).2.2 rfl,Jd⟩
   .rw[OV.DE]at d;rcases List.mem_cons.mp d with e|d
    .subst e;exact⟨Y,IP,.inr (g.none B8)⟩
    .have d:b∈OV.Al us:=by simpa[NK.more]using d
     have z:=(Ly b d).2.1;exact⟨(Ly b d).1,g.st.DU z,.inr (g.none z)⟩⟩
theorem r8(h:Wl ss i t ta λp u=>∃lt a us,ss[i]?=some (.ow lt t)/\u=.nd .lst a us/\nx (ss.set i (.ow lt (t.put p (.nd .lst a []))))):Ws ss (IW (Xl K "list" Yq ta)) nx R:=⟨λE D O F H S g l=>
 h.go E O F H _ S λv p u F1 H1 d f B6 AG=>by
  obtain⟨lt,a,us,hi,j,kk⟩:=AG;subst j;obtain⟨vs,rfl,e,k,n,rr⟩:=f.inv;refine⟨.inl ⟨rfl,_,AW.of e⟩,a,vs,rfl,rfl,e,g _ O F1 _ kk (Sg.Xq (m:=[]) (u:=.fz .AE) d.st d.st hi B6 (λb c=>by rw[OV.Hc]at c;cases c) (by simp) .nil (by rw[OV.G6];exact HA) λb c=>by rw[OV.G6]at c;cases c) d.ff⟩⟩
structure mI (ss:List Slot) (g:TG) (u:OV) (k:List Slot->Prop):Prop where
 go:∀(E:Ent)(O:L2.St)(F H:Hp)(v:V)(Q:L2.St->Hp->Prop),Sg E ss O F H->B0 F H v u->(∀A9 σ',k A9->Sg E A9 σ' F H->Q σ' H)->g v O H Q
theorem zA{g d f:Nat}{p q:PV}{nk:NK}{us:List OV}{k:List Slot->Prop}(h:k (((ss.set g (.is p)).set d (.raw (ptr b))).set f (.is q))):mI ss (Jm K 3 (Fh (C7 g) (Fh (C7 d) (Fh (C7 f) M8)))) (.tp [.fz p,.nd nk b us,.fz q]) k:=⟨λE O F H v Q S r l=>by
 obtain⟨_,_,rfl,e,r⟩:=r.inv;obtain⟨_,_,rfl,c,r⟩:=r.inv;obtain⟨_,_,rfl,i,r⟩:=r.inv;obtain⟨_,_,rfl,a,r⟩:=r.inv;obtain rfl:=r.DI;have c:Rep _ _ _:=c.inv;have a:Rep _ _ _:=a.inv;obtain⟨_,rfl,_,_,_,_⟩:=i.inv;refine⟨_,_,rfl,B7.of (S.fh _ _ e),rfl,_,_,rfl,_,_,rfl,_,_,rfl,rfl,l _ _ h ?_⟩;exact((S.EM c).setG (j:=d) (s:=.raw (ptr b)) (v:=.ref b) ⟨_,rfl,rfl,λ_ _ _ h=>h⟩ λ_ z=>by cases z).EM a⟩
theorem ZG3{g:TG}{tb:TS}(N:Nat)(I:Nat->List Slot->Prop)(k:I 0 ss)(st:∀n A9,n<=N->I n A9->∃lt us,A9[i]?=some (.ow lt (.nd .lst a0 us))/\us.length=N/\(n<N->∃u,us[n]?=some u/\mI A9 g u λBh=>Ws Bh tb (I (n+1)) R))(hd:∀A9,I N A9->nx A9):
  Ws ss (SE (YZ K (Au i)) g tb) nx R:=⟨λE D O F H S C B=>by
 have look:∀{A9:List Slot}{σ':L2.St}{F' H':Hp}{lt:Bool}{us:List OV},Sg E A9 σ' F' H'->A9[i]?=some (.ow lt (.nd .lst a0 us))->σ'[i]?=some (some (.ref a0))/\∃vs,H' a0=some (.lst vs)/\BP F' H' vs us:=λ{A9 σ' F' H' lt us}S hi=>by
  obtain⟨v,e,r,_,_⟩:=S.ok i _ hi;obtain⟨_,rfl,G,_,_,rr⟩:=r.inv;exact⟨e,_,G,rr⟩
 obtain⟨lt,us,hi,σ,_⟩:=st 0 ss (Cg _) k;obtain⟨e,vs,z,L⟩:=look S hi;refine⟨_,e,a0,rfl,⟨vs,AW.of z⟩,?_⟩;refine⟨λn m σ' H'=>m=N - n/\n<=N/\∃A9 F',I n A9/\Sg E A9 σ' F' H'/\AU F F',⟨_,rfl,Cg _,ss,F,k,S,AU.refl _⟩,?_⟩;rintro n m σ' H'⟨rfl,Ku,A9,F',j,S',s'⟩;obtain⟨t,us',Cm,DT,tn⟩:=st n A9 Ku j;obtain⟨_,Bs,JX,h⟩:=look S' Cm;have M:=h.length
 by_cases l:n<N
 .obtain⟨u,A,o⟩:=tn l;obtain⟨v,f,d⟩:=h.get A;refine .inr ⟨⟨Bs,v,AW.of JX,f⟩,λσ2 H2=>∃Bh F2,I (n+1) Bh/\Sg E Bh σ2 F2 H2/\AU F F2,λσ2 H2 AG=>by obtain⟨Bh,F2,a,b,c⟩:=AG;exact⟨_,by omega,rfl,l,Bh,F2,a,b,c⟩,λx H3 y=>?_⟩;obtain⟨J,hx⟩:=y;subst J;have ex:x=v:=by
   have:=hx Bs (AW.of JX);rw[f]at this;exact(BY this).symm
  subst ex;refine o.go E σ' F' H3 _ _ S' d λp σ4 w S4=>?_;exact w.go E _ σ4 F' H3 S4 (λLh σ5 F5 H5 s S5 q=>⟨Lh,F5,s,S5,s'.trans q⟩) B
 .have e:n=N:=by omega
  subst e;refine .inl ⟨⟨Bs,AW.of JX,by omega⟩,?_⟩;exact C _ _ F' H' (hd _ j) S' s'⟩
end
noncomputable def Hg:Slot->Slot
 | .own xs=>.is (.lst xs)
 | .ow _ t=>.is t.pv
 | .AZ=>.any
 |s=>s
section
variable{E:Ent0}{O:L2.St}{F H F' H':Hp}
theorem Sg.ZZ(S:Sg E ss O F H):Sg (E3 [] (CL F H (Cw ss O)) H) (ss.map Hg) O (CL F H (Cw ss O)) H:=by
 have nn:∀{p:Prop}(a:Addr),a∈([]:List Addr)->p:=λa h=>absurd h Ak;refine⟨⟨S.HZ.2,AU.refl _,λ_ _ _ e=>e,λ_ _ e=>.inl e,λa h=>nn a h,λa h=>nn a h,λa h=>nn a h,λa h=>nn a h,λa h=>nn a h,λa h=>nn a h⟩,by rw[AD,S.len],λi s hi=>?_,λi j s u l GC hi x d w=>?_⟩
 .rw[Aj]at hi;cases e:ss[i]? with
  |none=>rw[e]at hi;cases hi
  |some s0=>
   rw[e]at hi;have es:Hg s0=s:=BY hi;subst es;have k:=S.ok i s0 e;cases s0 with
   |any=>trivial
   |is p=>obtain⟨v,b,r⟩:=k;exact⟨v,b,r.mono S.HZ.1⟩
   |own xs=>
    obtain⟨l,vs,b,_,_,n,r⟩:=k;refine⟨_,b,.lst ?_ (r.mono S.HZ.1)⟩;unfold CL;rw[pT (Tz S.len e (by simp) b)];exact n
   |AZ=>trivial
   |sq tp xs=>
    cases tp with
    |true=>obtain⟨v,b,r⟩:=k;exact⟨v,b,r.mono S.HZ.1⟩
    |false=>
     obtain⟨l,vs,b,m,q,r⟩:=k;exact⟨l,vs,b,⟨Ak,Ak⟩,S.keep l _ m q,r.mono S.HZ.1⟩
   |raw P=>obtain⟨v,b,f,c⟩:=k;exact⟨v,b,c _ _ S.HZ.1 f,c⟩
   |ow lt t=>
    obtain⟨v,b,r,_,_⟩:=k;refine⟨v,b,r.rep S.HZ.1 λa g o ho=>?_⟩;unfold CL;rw[pT (Tz S.len e (by simp) g)];exact ho
 .rw[Aj]at hi;cases e:ss[i]? with
  |none=>rw[e]at hi;cases hi
  |some s0=>
   rw[e]at hi;have es:Hg s0=s:=BY hi;subst es;cases s0 <;> cases d
mutual
def OV.Ge:OV->Bool
 | .fz p=>Dx p
 | .tp xs=>OV.JT xs
 | .nd _ _ xs=>OV.JT xs
def OV.JT:List OV->Bool
 | []=>true
 |x::r=>x.Ge && OV.JT r
end
theorem B0.qX{as:List Addr}(h:∀a∈as,∀vs,F a≠some (.tup vs)):∀{v:V}{t:OV},B0 F H v t->t.Ge=true->B0 (FT F as) H v t:=by
 intro v t r d;exact B0.rec (motive_1:=λv t _=>t.Ge=true->B0 (FT F as) H v t) (motive_2:=λvs ts _=>OV.JT ts=true->BP (FT F as) H vs ts)
  (λ{v p}r z=>.fz (r.sub h (by simpa[OV.Ge]using z)))
  (λ{a vs xs}e _ b z=>.tp (by unfold FT;rw[pL (λq=>h a q vs e)];exact e) (b (by simpa[OV.Ge]using z)))
  (λ{k a vs xs}e c f _ b z=>.nd e c f (b (by simpa[OV.Ge]using z)))
  (λ_=>.nil)
  (λ_ _ P9 Kw z=>by
   rw[OV.JT,GX]at z;exact .cons (P9 z.1) (Kw z.2))
  r d
end
section
variable{c:TT}
def VX(E:Ent0)(F H:Hp)(as:List Addr):@Ent iw:=@Ent.mk iw (E3 [] (CL F H as) H) λ_ _ _ _ _ _ _ _ _ d _=>d.elim
theorem zh{k:PV->Prop}(h:Wp (ss.map Hg) te λp=>Dx p=true/\k p):Wp ss te k:=⟨λE O F H Q S q=>by
 refine h.go (VX E F H (Cw ss O)) O _ H Q S.ZZ λv p F' H' m a⟨c,kk⟩=>?_;obtain⟨M,b⟩:=S.Sh m.st.toFin;exact q v p _ H' M (a.sub b c) kk⟩
theorem rf{k:List PV->Prop}(h:Wn (ss.map Hg) te λys=>Gf ys=true/\k ys):Wn ss te k:=⟨λE O F H Q S q=>by
 refine h.go (VX E F H (Cw ss O)) O _ H Q S.ZZ λl2 Fl ys F' H' m d h2 EC a⟨c,kk⟩=>?_;obtain⟨M,b⟩:=S.Sh m.st.toFin;exact q l2 Fl ys _ H' M (by unfold FT;split <;> first|rfl|exact d) h2 EC (a.sub b c) kk⟩
theorem uE{k:List Nat->OV->Prop}(h:Wx (ss.map Hg) te λm u=>m=[]/\u.Ge=true/\k [] u):Wx ss te k:=⟨λE O F H Q S q=>by
 refine h.go (VX E F H (Cw ss O)) O _ H Q S.ZZ λv l u F' H' m c nd d⟨j,g,kk⟩=>?_;subst j;obtain⟨M,e⟩:=S.Sh m.st.toFin;refine q v [] u _ H' M (c.qX e g) nd (λa i=>?_) kk;obtain⟨f,b,_⟩:=d a i;have b:H a=none:=b;exact⟨by unfold FT;split <;> first|rfl|exact f,S.DU b,.inr b⟩⟩
end
end Fz
namespace L2
variable{X:Cx}{ZB:ZHb}{O:St}{s s2:Shared}{i tk:Nat}{te:TE}{pos:Pos}{ifs:List Expr}{N zs:List Str}{outer scope:Scope}{js:List Nat}{tt:TT}{wi:TI}
section
theorem Inv.same{H:Hp}(I:Inv X ZB O H s){h':Heap}(k:∀b o,s.heap.get? b=some o->h'.get? b=some o):Inv X ZB O H { s with heap:=h',toks:=tk }:=I.kept (t':=tk) k
def Tr(K:ZHa):List V->Hp->VK->Prop:=λxs H Q=>∃(p:Addr)(ss:List Int),xs=[.ref p]/\AW K H p (ss.map V.int)/\Q (.int ss.sum) H
theorem Rj(f:X.calm=true):Du X (.builtin "sum") (Tr X.K):=by
 intro ZB s O H xs us Q I r h;obtain⟨p,ss,rfl,d,q⟩:=h;obtain⟨u,rfl,b⟩:=vals1 r;cases b;obtain⟨A5,c,pl,_⟩:=I.list d;have hi:=SR c;obtain⟨ys,e⟩:=hi.allInts.items;have a:=pl.isList;rw[e]at a;refine sum_intListG (I.ok.hd f) a λh' tk t' hk=>⟨.int _,H,I.same hk,⟨t',rfl⟩,?_⟩;have g:ys.toList.map (·.1)=ss:=by
  rw[<- nums_intItems,<- e];exact hi.numsOf
 rw[preSum_eq,Jh (by simp),g];exact q
def dE(K:ZHa):List V->Hp->VK->Prop:=λxs H Q=>∃(p:Addr)(ss:List Int),xs=[.ref p]/\AW K H p (ss.map V.int)/\ss≠[]/\∀m∈ss,(∀y∈ss,y<=m)->Q (.int m) H
theorem zZ(l:X.calm=true):Du X (.builtin "max") (dE X.K):=by
 intro ZB s O H xs us Q I r h;obtain⟨p,ss,rfl,k,Bd,q⟩:=h;obtain⟨u,rfl,d⟩:=vals1 r;cases d;obtain⟨A5,f,pl,_⟩:=I.list k;have hi:=SR f;obtain⟨ys,e⟩:=hi.allInts.items;have c:=pl.isList;rw[e]at c;have a:ys.toList.map (·.1)=ss:=by
  rw[<- nums_intItems,<- e];exact hi.numsOf
 have b:ys.size=ss.length:=by rw[<- a];simp
 have PR:0<ss.length:=List.length_pos_iff.mpr Bd;refine max_intList (I.ok.hd l) c (by omega) λv h' tk i hk=>?_;obtain⟨t',rfl⟩:=intItems_at i;obtain⟨t,n⟩:=argBest_gt (numAt ys) (ys.size - 1);refine⟨.int _,H,I.same hk,⟨t',rfl⟩,q _ ?_ λy g=>?_⟩
 .rw[numAt_eq,a];exact getD_mem (by omega)
 .obtain⟨j,o,m⟩:=mem_getD g;have:=n j (by omega);rw[numAt_eq ys j,a,m]at this;exact this
def b5(K:ZHa):V->V->Hp->VK->Prop:=λx y H Q=>∃(p:Addr)(xs:List V)(i:Nat)(v:V),x=.ref p/\y=.int i/\AW K H p xs/\xs[i]?=some v/\Q v H
theorem ZAt:fc X (b5 X.K):=by
 intro ZB s O H o i f g Q I a b h;obtain⟨p,xs,j,v,rfl,rfl,c,hx,q⟩:=h;cases a;obtain⟨t,rfl⟩:=b;obtain⟨A5,r,pl,k⟩:=I.list c;obtain⟨w,e,GD⟩:=r.get hx;have l:=(List.getElem?_eq_some_iff.mp hx).1;refine wpAny_getItem_list pl.isList (by omega) ?_ (x:=w) (by simpa using e) ⟨v,H,I,GD,q⟩
 have d:sizeLine<2 ^ 63:=by decide +kernel
 have:(j:Int)<((2 ^ 63:Nat):Int):=Int.ofNat_lt.mpr (by omega);exact this
theorem uw{o i e:Expr}{to ti:TE}{Lb:K5}{op:Operator}{JN:Pos}(ho:QE X o to)(hi:QE X i ti)(d:QE X e te)(c:NR X op Lb)
  (f:∀a b new,augStore i a b new=(do holding [new,a,b] (setItem a b new);release [new,a,b] [];pure .next):=by intros;rfl):QS X (.AugAssign (.Subscript o i JN) op e pos) (ZR to ti te (b5 X.K) Lb Tp):=⟨ZCi ho.h hi.h ZAt d.h c set_list f⟩
theorem yS{tg l:Expr}{tl:TE}(d:QE X l tl):QI X tg l (YZ X.K tl):=⟨by
 have d:=d.h;intro ZB s O H R I h;refine AO (d ZB s O H _ I h) λv c Dm=>?_;obtain⟨x,H1,I1,f,g⟩:=Dm;obtain⟨a,e,⟨xs,i⟩,q⟩:=g;subst e;cases f;obtain⟨A5,k,p,m⟩:=I1.list i;refine xK p.isList ?_;refine⟨c.heap.objs.size,[c.heap.objs.size],_,_,H1,rfl,I1.kept (t':=c.toks) λb o e=>CG _ e,NG a _,⟨_,Co _ rfl,rfl,rfl⟩,λb j=>?_,q⟩;have e:b=c.heap.objs.size:=by simpa using j
 subst e;exact I1.LN (As _) (I1.AY.fresh (As _))⟩
variable{elt iter:Expr}{es:List Expr}{tp:Pos}{AN:List Str}
theorem ZFd{y:Str}{py Fs:Pos}(f:X.N.Nodup)(Cm:X.N[i]?=some y)(d:Loc X.env.scope y)(c:X.calm=true)(S:IH X.N X.env.scope scope zs AN js)(JV:JD zs es)(J9:∀e,(assignEach es e).length=zs.length)(FN:∀e,(assignEach es e).findIdx? (·.1)=none)(hi:QI X (.Tuple es tk tp) iter wi)
  (a:∀fp C s H,MG (FO X (AN++zs) scope (Bj X.env.cells scope.names) C s H fp) ifs tt) (b:∀fp C s H,QE (FO X (AN++zs) scope (Bj X.env.cells scope.names) C s H fp) elt te)
  (Jc:swapsWith (.ListComp elt [⟨.Tuple es tk tp,iter,ifs,0⟩] scope pos) (some (.Name y py)) Fs.line X.env=pure true:=by rfl)
  (hf:X.fn y=true∨X.env.scope.names.lookup y=some .local:=by first|exact .inl rfl|exact .inr rfl|assumption)
  (hs:∀v,foldedSetIterable iter X.env v=pure v:=by intro _;rfl):QS X (.Assign [.Name y py] (.ListComp elt [⟨.Tuple es tk tp,iter,ifs,0⟩] scope pos) Fs) (Ei (Nl X.K zs.length wi js tt te) (C7 i)):=⟨by have hi:=hi.h;have a:=λfp C s H=>(a fp C s H).h;have b:=λfp C s H=>(b fp C s H).h;exact mf (CW:=λJ O H1 acc Q=>Th X.K zs.length J js tt te O H1 acc Q) (iZ S.G) f Cm d c S.G hi (λ_ _ _ _=>jr c S.G S.IY JV J9 FN) a b Jc hf hs⟩
end
structure TJ (N:List Str) (outer scope:Scope) (x:Str) (AN:List Str) (js:List Nat):Prop where
 kind:scope.kind=.function
 loc:∀y∈scope.names,y.2=.local->scope.names.lookup y.1=some .local
 IY:scope.names.lookup x=some .cell
 one:∀y∈scope.names,y.2=.cell->y.1=x
 cf:∀(n:Nat)(cl:List (Str×Addr)),cellsFrom n scope.names cl=(x,n)::cl
 pc:∀h:Heap,pushCells h scope.names=h.push { cls:=.type "cell", data:=.cell none }
 at':js.map (λj=>N[j]?)=AN.map some
 cell:∀y∈AN,outer.names.lookup y=some .cell
 free:∀y∈AN,scope.names.lookup y=some .free
 all:∀y∈scope.names,y.2=.free->outer.names.lookup y.1=some .cell
 nd:(AN++[x]).Nodup
abbrev ba(X:Cx)(N:List Str)(scope:Scope)(x:Str)(cl:List (Str×Addr))(C:Addr)(s:Shared)(H:Hp)(fp:List Addr):Cx:=Fg X N scope (some x) cl C s H fp
section
variable{H2:Hp}{elt iter:Expr}{x:Str}{px:Pos}{AN:List Str}{J:It}{fp:List Addr}{it:Addr}{tn:Nat->Heap->Prop}
theorem TJ.G(S:TJ N outer scope x AN js):FI N outer scope (some x) [x] AN js:=
 ⟨S.kind,S.loc,λy a e=>by rw[S.one y a e],λy e=>by rw[BY e];exact List.mem_singleton_self _,S.cf,S.pc,S.at',S.cell,S.free,S.all,S.nd⟩
theorem ZDi(b:X.calm=true)(S:TJ X.N X.env.scope scope x AN js)(hi:QI X (.Name x px) iter wi)
  (D0:∀fp C s H,MG (ba X (AN++[x]) scope x (Bj X.env.cells scope.names) C s H fp) ifs tt) (Cz:∀fp C s H,QE (ba X (AN++[x]) scope x (Bj X.env.cells scope.names) C s H fp) elt te)
  (a:∀v,foldedSetIterable iter X.env v=pure v:=by intro _;rfl):QE X (.ListComp elt [⟨.Name x px,iter,ifs,0⟩] scope pos) (JY wi js tt te):=
 ⟨WZ (CW:=λJ O H1 acc Q=>M5 J js tt te O H1 acc Q) (Z3 S.G) b S.G hi.h (λ_ _ _ _=>Xn S.G (.inr ⟨rfl,S.IY⟩)) (λfp C s H=>(D0 fp C s H).h) (λfp C s H=>(Cz fp C s H).h) a⟩
end
end L2
namespace Fz
open L2 Lw
variable{A9 ss:List Slot}{ta tb tc te ti:TE}{nx:List Slot->Prop}{R:Ap}{xs ys:List PV}{i j n:Nat}{E:Ent0}{O:L2.St}{F H:Hp}{pre:Pre}{L N S T W ns:List Str}{vs:List V}{Q:VK}{nk:NK}{C a0:Addr}{us:List OV}{js l:List Nat}{r x y:Str}{u:OV}{f:Str->List Str}
section
variable[Xw]
variable{K:ZHa}{k:PV->Prop}
theorem dv(h:Wq ss te λtp xs=>tp=false/\∃ns:List Int,xs=ns.map PV.int/\k (.int ns.sum)):Wp ss (FP (Tr K) (Ah te BE)) k:=⟨λE O F H Q S q=>
 h.go E O F H _ S λv tp xs F1 H1 a sv AG=>by
  obtain⟨c,ns,e,kk⟩:=AG;subst c;subst e;obtain⟨l,vs,rfl,b,r⟩:=sv.seq a.st;rw[r.ints]at b;exact⟨l,ns,rfl,AW.of b,q _ _ F1 H1 a (.int _) kk⟩⟩
theorem xO(h:Wq ss te λtp xs=>tp=false/\∃ns:List Int,xs=ns.map PV.int/\ns≠[]/\∀m∈ns,(∀y∈ns,y<=m)->k (.int m)):Wp ss (FP (dE K) (Ah te BE)) k:=⟨λE O F H Q S q=>
 h.go E O F H _ S λv tp xs F1 H1 a sv AG=>by
  obtain⟨f,ns,e,Bd,kk⟩:=AG;subst f;subst e;obtain⟨l,vs,rfl,b,r⟩:=sv.seq a.st;rw[r.ints]at b;exact⟨l,ns,rfl,AW.of b,Bd,λm d c=>q _ _ F1 H1 a (.int _) (kk m d c)⟩⟩
theorem pG{g:Int->Int->Int}(hi:ss[i]?=some (.own xs))(h:Wp ss ti λq=>∃(n:Nat)(x:Int),q=.int n/\xs[n]?=some (.int x)/\Wp ss te λp=>∃y,p=.int y/\nx (ss.set i (.own (xs.set n (.int (g x y)))))):Ws ss (ZR (Au i) ti te (b5 K) (KR g) Tp) nx R:=⟨λE D O F H S t I=>by
 obtain⟨l,vs,e,M,L,J,r⟩:=S.ok i _ hi;refine⟨_,e,h.go E O F H _ S λv q F1 H1 d m⟨n,x,B,hx,h2⟩=>?_⟩;subst B;cases m.inv;obtain⟨s,VG,a,_,_,f,j⟩:=d.st.ok i _ hi;rw[e]at a;cases a;obtain⟨w,hw,b⟩:=j.get hx;cases b.inv;refine⟨l,VG,n,_,rfl,rfl,AW.of f,hw,h2.go E O F1 H1 _ d.st λG p F2 H2 c k⟨y,A,kk⟩=>?_⟩;subst A;cases k.inv;obtain⟨s,Fl,a,z,u,o,HU⟩:=c.st.ok i _ hi;rw[e]at a;cases a;have C:n<Fl.length:=by rw[HU.length];exact(List.getElem?_eq_some_iff.mp hx).1
 refine⟨x,y,rfl,rfl,l,Fl,_,n,rfl,rfl,o,kH C,?_⟩;exact t _ O F2 _ kk (c.st.put hi e z u (HU.set n (.int _))) (d.ff.trans c.ff)⟩
end
section
variable{lt:Bool}
def WA(i:Nat)(R:Ap)(A9:List Slot):Prop:=∃(k:PV->OV->Prop)(nk:NK)(a:Addr)(us:List OV),R=.mt k/\A9[i]?=some (.ow true (.nd nk a us))/\k .AE (.nd nk a us)
theorem WA.ok(h:WA i R A9)(S:Sg E A9 O F H):R.ok E F H .AE:=by
 obtain⟨k,nk,a,us,rfl,g,hk⟩:=h;obtain⟨f,e0,c,Cu,d⟩:=S.ok i _ g;have j:f=.ref a:=by cases c;rfl
 subst j;exact⟨.AE,.nd nk a us,.AE,c,Cu,λb e=>⟨(d b e).1,(d b e).2.imp id λz=>z.2⟩,hk⟩
theorem rm(i:Nat){X:XK}{t:TS}(h:BM pre vs H Q X)(b:∀ss R,pre ss R->ss.length=n)
  (hw:∀ss R,pre ss R->Ws (ss++List.replicate (N.length - n) .any) t (WA i R) R):t { nx:=λ_ H'=>Q .AE H',rt:=Q } (L2.start N vs) H:=by
 obtain⟨ss,R,F,A,B,a,S,q⟩:=h;have e:vs.length=n:=by have:=S.len;rw[AD]at this;rw[<- this];exact b ss R a
 unfold L2.start;rw[e];exact(hw ss R a).go (PZ ⟨A,F,H,B⟩) _ _ F H (S.grown _) (λA9 σ' F' H' z S' _=>q .AE F' H' S'.toFin (z.ok S')) λv F' H' f ok=>q v F' H' f ok
variable[Xw]
theorem ZEB{k:PV->OV->Prop}(hi:ss[i]?=some (.ow lt (.nd nk a0 us)))(h:k .AE (.nd nk a0 us)):Ws ss ZI nx (.mt k):=⟨λE D O F H S j f=>by
 obtain⟨e,e0,b,Cu,c⟩:=S.ok i _ hi;have g:e=.ref a0:=by cases b;rfl
 subst g;exact f .AE F H S.toFin ⟨.AE,.nd nk a0 us,.AE,b,Cu,λa d=>⟨(c a d).1,(c a d).2.imp id λz=>z.2⟩,h⟩⟩
end
theorem K4(b:∀ss R,¬ pre ss R){E:XK}(h:BM pre vs H Q E):False:=by
 obtain⟨ss,R,F,A,B,a,_⟩:=h;exact b ss R a
def YT:Pre:=λl R=>∃(g i:Nat),l=[.is (.int g),.is (.int i)]/\R=.is λp=>p=.int (JC i g:Nat)
def Y6:Pre:=λl R=>∃(g i:Nat),l=[.is (.int g),.is (.int i)]/\R=.is λp=>p=.int (Po i g:Nat)
section
variable[Xw]
theorem yq{k:List PV->Prop}(hi:ss[i]?=some .AZ)(h:Wp ss te λx=>∃m,x=.int m/\0<=m/\m<=100/\∀ns:List Str,(ns.length:Int)=m->(∀x∈ns,Nm x)->ns.Nodup->k (ns.map PV.str)):Wn ss (DK Zn [] E0 (Ah (Au i) (Ah te BE))) k:=⟨λE O F H Q S q=>by
 obtain⟨p,e,_⟩:=S.ok i _ hi;refine⟨_,e,h.go E O F H _ S λv x F1 H1 a r⟨m,j,d,JE,kk⟩=>?_⟩;subst j;cases r.inv;refine⟨p,m,rfl,a.st.Ez hi e,d,JE,λl H2 ns b s EH f g nd=>?_⟩;have c:=a.st.l0 hi e s;exact q l _ _ F1 H2 (a.trans c) (a.st.CA b) (a.none b) EH (ZBk ns) (kk ns f g nd)⟩
end
theorem dD{n:Int}(h:n<=1000):n<10 ^ 18:=nG h (by decide)
theorem ZEv{k:Nat}(h:k<=ns.length):El ns none (some (k:Int))=ns.take k:=by
 unfold El;rw[show HT.DV ns.length 0 none=0 from rfl,Qk,Qt]
 congr 1
 simp only[HT.DV];split <;> omega
structure Kd where
 w:Str
 ps:List (Str×Str)
 g:Bool
variable{ks:List Kd}
def B4(p:Str×Str):PV:=.tup [.str p.1,.str p.2]
noncomputable def Kd.P(k:Kd):PV:=.tup [.str k.w,.tup (k.ps.map B4),.bl k.g]
noncomputable def WH:List Str:=["next","last","back","first"]
theorem Jy{α:Type}{xs:List α}{k:Nat}{x:α}(h:xs[k]?=some x):xs.take (k+1)=xs.take k++[x]:=by
 obtain⟨hk,e⟩:=List.getElem?_eq_some_iff.mp h;rw[Qs hk,e]
theorem uF{t:Int}(a:0<=t)(h:t<7):∃z:Nat,L2.C8 [PV.int 0,.int 1,.int 1,.int 2,.int 2,.int 3,.int 6] t=some (.int (z:Int))/\z<=6:=by
 rcases(show t=0∨t=1∨t=2∨t=3∨t=4∨t=5∨t=6 by omega)with rfl|rfl|rfl|rfl|rfl|rfl|rfl
 .exact⟨0,rfl,by decide⟩
 .exact⟨1,rfl,by decide⟩
 .exact⟨1,rfl,by decide⟩
 .exact⟨2,rfl,by decide⟩
 .exact⟨2,rfl,by decide⟩
 .exact⟨3,rfl,by decide⟩
 .exact⟨6,rfl,by decide⟩
theorem ae:∀{ps c:List (Str×Str)},ps.map B4=c.map B4->ps=c
 | [],[],_=>rfl
 | [],_::_,h=>by simp at h
 |_::_,[],h=>by simp at h
 |p::ps,q::c,h=>by
  rw[Ae,Ae]at h;injection h with h1 h2
  have d:p.1=q.1/\p.2=q.2:=by
   unfold B4 at h1;injection h1 with h1
   injection h1 with a b
   injection a with a
   injection b with b _
   injection b with b
   exact⟨a,b⟩
  rw[ae h2,Prod.ext d.1 d.2]
theorem Kd.inj(x y:Kd)(h:x.P=y.P):x=y:=by
 obtain⟨w,ps,g⟩:=x;obtain⟨e,Sz,g'⟩:=y;unfold Kd.P at h;injection h with h
 injection h with a b
 injection a with a
 injection b with b c
 injection b with b
 injection c with c _
 injection c with c
 have d:=ae b;simp only at a d c;subst a d c;rfl
def b8:Pre:=λl R=>∃(r:Str)(g i:Nat)(xs:List PV),l=[.is (.tup (.str r :: .int g::xs)),.is (.int i)]/\R=.is λp=>p=.bl (Mu r g i)
noncomputable def Bb(ns:List Str):List Key:=ns.map Sum.inr
theorem P2(ns:List Str)(x:Str):Gp (Bb ns) (.inr x)=decide (x∈ns):=by
 unfold Gp Bb;rw[List.any_map]
 by_cases h:x∈ns
 .rw[pf h];exact List.any_eq_true.mpr ⟨x,h,pf rfl⟩
 .rw[qD h];rw[Bool.eq_false_iff];intro z;obtain⟨y,b,e⟩:=List.any_eq_true.mp z;have a:(Sum.inr y:Key)=Sum.inr x:=qB e;injection a with a
  exact h (a▸b)
theorem gH:∀{ns:List Str}{x:Str},x∉ns->G5 (Bb ns) (.inr x)=none
 | [],_,_=>rfl
 |y::ns,x,h=>by
  unfold Bb;rw[Ae,G5,pL (λe=>h (by injection e with e;subst e;exact Es))]
  have h1:G5 (ns.map (Sum.inr:Str->Key)) (.inr x)=none:=gH (ns:=ns) λz=>h (DS _ z);rw[h1];rfl
theorem SG(h:ns.Nodup):(Bb ns).Nodup:=ZGT _ (λa b(h:a≠b)=>λz=>h (by injection z)) h
theorem gC(h:x∉ns):LU (Bb ns) (.inr x)=Bb (ns++[x])/\Jq (Bb ns) us (.inr x) u=us++[u]:=by
 unfold Jq LU;rw[gH h,P2,qD h];exact⟨by unfold Bb;rw[C0];rfl,rfl⟩
theorem Mi(h:x∉ns):LU (Bb ns) (.inr x)=Bb (ns++[x]):=(gC (us:=[]) (u:=.fz .AE) h).1
theorem Sb(h:x∉ns):Jq (Bb ns) us (.inr x) u=us++[u]:=(gC h).2
theorem LW{y:PV}:∀{ns:List Str}{xs:List PV}{x:Str},x∈ns->xs[ns.idxOf x]?=some y->Io (Bb ns) xs (.inr x)=some y
 | [],_,_,h,_=>absurd h Ak
 |z::ns,xs,x,h,e=>by
  rw[nT]at e;unfold Bb
  by_cases c:z=x
  .subst c;rw[show(z == z)=true from rB z]at e;cases xs with
   |nil=>cases e
   |cons w ws=>rw[Ae,Io,pT rfl];exact e
  .rw[show(z == x)=false from beq_eq_false_iff_ne.mpr c]at e;cases xs with
   |nil=>cases e
   |cons w ws=>
    rw[Ae,Io,pL (λq=>c (by injection q))];exact LW ((List.mem_cons.mp h).resolve_left λq=>c q.symm) e
noncomputable def M7(tp:Bool)(xs:List PV):PV:=if tp=true then .tup xs else .lst xs
theorem vT(ns:List Str):(Bb ns).map JJ=ns.map PV.str:=by
 unfold Bb;rw[Bu];rfl
section
variable[Xw]
variable{t:OV}
theorem ZFX{lt:Bool}{k:PV->OV->Prop}(hi:ss[i]?=some (.ow lt t))(h:Wm ss i lt t te λp t'=>(∃nk a us,t'=.nd nk a us)/\k p t'):Ws ss (IA te) nx (.mt k):=⟨λE D O F H S n j=>
 h.go E O F H _ S λv p t' F1 H1 d r AG=>by
  obtain⟨⟨nk,a0,us,e⟩,kk⟩:=AG;subst e;have l:i<ss.length:=(List.getElem?_eq_some_iff.mp hi).1;obtain⟨g,e0,b,Cu,c⟩:=d.st.ok i (.ow lt (.nd nk a0 us)) (by rw[DP l]);have m:g=.ref a0:=by cases b;rfl
  subst m;exact j v F1 H1 d.st.toFin ⟨p,.nd nk a0 us,r,b,Cu,λa f=>⟨(c a f).1,(c a f).2.imp id λz=>z.2⟩,kk⟩⟩
end
noncomputable abbrev wk(ks:List Kd):List Str:=ks.map Kd.w
structure KG (ks:List Kd):Prop where
 l1:1<=ks.length
 l8:ks.length<=8
 nd:(wk ks).Nodup
 nm:∀k∈ks,Nm k.w
 ps:∀k∈ks,k.ps.length<=6/\∀p∈k.ps,p.1∈WH/\p.2∈wk ks
noncomputable def Ct:List Str:=[("none":Str), "ahead","all"]
noncomputable def FY(k:Kd):PV:=.tup [.str k.w,.lst (k.ps.map B4),.bl k.g]
def BR(ks:List Kd)(x:Str):List (Str×Str):=match ks[(wk ks).idxOf x]? with
 |some k=>k.ps
 |none=>[]
def Dq(ks:List Kd)(x:Str):Bool:=match ks[(wk ks).idxOf x]? with
 |some k=>k.g
 |none=>false
def Dd:List Str:=["next","last"]
def CP(ks:List Kd)(r x:Str):List (Str×Str):=if r="none" then[]else(BR ks x).filter λp=>decide (r="all") || decide (p.1∈Dd)
def Ai(ks:List Kd)(r x:Str):List Str:=(CP ks r x).map (·.2)
def TY(r:Str):List Str:=if r="none" then[]else if r="ahead" then Dd else WH
theorem KG.at(h:KG ks)(hx:x∈wk ks):∃k,ks[(wk ks).idxOf x]?=some k/\k.w=x/\BR ks x=k.ps/\Dq ks x=k.g/\k∈ks:=by
 have hi:=List.idxOf_lt_length_iff.mpr hx;have a:(wk ks).idxOf x<ks.length:=by simpa using hi
 have e:=AX a;refine⟨_,e,?_,?_,?_,Hs a⟩
 .have q:(wk ks)[(wk ks).idxOf x]'hi=x:=Hr hi;rw[MS]at q;exact q
 .unfold BR;rw[e]
 .unfold Dq;rw[e]
theorem KG.Ip(h:KG ks)(x:Str):(BR ks x).length<=6/\∀p∈BR ks x,p.1∈WH/\p.2∈wk ks:=by
 unfold BR;split
 .next k e=>exact h.ps k (Bi e)
 .exact⟨Cg _,λp a=>absurd a Ak⟩
theorem oy{p:Str×Str}(h:p∈CP ks r x):p∈BR ks x:=by
 unfold CP at h;split at h
 .cases h
 .exact(List.mem_filter.mp h).1
theorem lO(h:KG ks)(r x:Str):(CP ks r x).length<=6:=by
 unfold CP;split
 .exact Cg _
 .exact Eb (Ux _ _) (h.Ip x).1
theorem KG.kR(h:KG ks)(a:y∈Ai ks r x):y∈wk ks:=by
 obtain⟨p,b,rfl⟩:=List.mem_map.mp a;exact((h.Ip x).2 p (oy b)).2
theorem ZAl(h:KG ks)(r x:Str):(Ai ks r x).length<=6:=by
 unfold Ai;rw[AD];exact lO h r x
theorem ZBf(h:KG ks)(a:r∈Ct)(x:Str):((BR ks x).filter λp=>decide (p.1∈TY r)).map (·.2)=Ai ks r x:=by
 unfold Ai CP TY;simp only[Ct,G9,Ak,vE]at a;rcases a with rfl|rfl|rfl
 .rw[pT rfl];simp
 .rw[pL (by decide),pT rfl,pL (by decide)]
  congr 1
 .rw[pL (by decide),pL (by decide),pL (by decide)]
  congr 1
  refine List.filter_congr λp b=>?_;rw[pf ((h.Ip x).2 p b).1];simp
theorem QH(p q:Str×Str)(h:B4 p=B4 q):p=q:=by
 unfold B4 at h;injection h with h
 injection h with h1 h2
 injection h1 with h1
 injection h2 with h2 _
 injection h2 with h2
 exact Prod.ext h1 h2
theorem ZFH(x y:Kd)(h:FY x=FY y):x=y:=by
 obtain⟨w,ps,g⟩:=x;obtain⟨a,Sz,g'⟩:=y;unfold FY at h;injection h with h
 injection h with h1 h2
 injection h1 with h1
 injection h2 with h2 h3
 injection h2 with h2
 injection h3 with h3 _
 injection h3 with h3
 have h2:=ae h2;subst h1 h2 h3;rfl
inductive Be (f:Str->List Str) (S:List Str):Str->Prop
 |here {x:Str}:x∈S->Be f S x
 |step {x y:Str}:Be f S x->y∈f x->Be f S y
def Top(f:Str->List Str)(L:List Str):Prop:=∀(i:Nat)(x:Str),L[i]?=some x->∀y∈f x,y∈L.take i
def Ig(f:Str->List Str)(W:List Str):Prop:=∀(i:Nat)(x y:Str),W[i]?=some x->W[i+1]?=some y->y∈f x
theorem Top.nil:Top f []:=λi x h=>by simp at h
theorem Top.snoc(h:Top f L)(hx:∀y∈f x,y∈L):Top f (L++[x]):=λi z a y b=>by
 by_cases c:i<L.length
 .rw[DO c]at a;rw[List.take_append_of_le_length (by omega)];exact h i z a y b
 .rw[E8 (by omega)]at a;have hi:i=L.length:=by
   have:=(List.getElem?_eq_some_iff.mp a).1;simp at this;omega
  subst hi;simp at a;subst a;rw[bN]
  .exact hx y b
  .rfl
theorem Ig.snoc{V:List Str}(h:Ig f (V++[x]))(g:y∈f x):Ig f (V++[x]++[y]):=λi a b e d=>by
 by_cases c:i+1<(V++[x]).length
 .rw[DO c]at d;rw[DO (by omega)]at e;exact h i a b e d
 .have hi:i+1=(V++[x]).length:=by
   have:=(List.getElem?_eq_some_iff.mp d).1;simp at this c ⊢;omega
  rw[hi]at d;have d:(V++[x]++[y])[(V++[x]).length]?=some b:=d;rw[E8 (As _)]at d;simp at d;subst d;have j:i=V.length:=by simp at hi;exact hi
  subst j;rw[BX,E8 (As _)]at e;simp at e;subst e;exact g
theorem Ig.one(x:Str):Ig f [x]:=λi a b _ c=>by simp at c
structure Um (f:Str->List Str) (ws W:List Str) (i:Nat):Prop where
 nd:W.Nodup
 ch:Ig f W
 sub:∀x∈W,x∈ws
 at':∃y z,W[i]?=some y/\W[W.length - 1]?=some z/\y∈f z
noncomputable def ZM(W:List Str)(i:Nat):PV:=.tup [.lst ((W.take (i+1)).map .str),.lst ((W.drop i).map .str)]
theorem fe(h:Top f L)(c:∀x∈S,x∈L)(r:Be f S x):x∈L:=by
 induction r with
 |here m=>exact c _ m
 |step _ b a=>
  obtain⟨i,hi,e⟩:=DQ a;exact Qq (h i _ (by rw[AX hi,e]) _ b)
theorem ZEg(h:Top f L)(n:Nat):Top f (L.take n):=λi x hx y a=>by
 rw[nQ]at hx;split at hx
 .next c=>
  rw[List.take_take,MV (by omega)];exact h i x hx y a
 .cases hx
theorem hX(h:Top f L)(nd:L.Nodup)(hx:x∈L):¬ Be f (f x) x:=λr=>by
 obtain⟨i,hi,e⟩:=DQ hx;have d:L[i]?=some x:=by rw[AX hi,e]
 have m:=fe (ZEg h i) (S:=f x) (λy b=>h i x d y b) r;obtain⟨j,c,a⟩:=DQ m;rw[DR]at c;rw[Nz]at a;have q:=List.pairwise_iff_getElem.mp nd j i (by omega) hi (by omega);exact q (a.trans e.symm)
def Fi(f:Str->List Str)(S:List Str):Prop:=∃x,Be f S x/\Be f (f x) x
theorem qY(h:Top f L)(nd:L.Nodup)(c:∀x∈S,x∈L):¬ Fi f S:=λAG=>by obtain⟨x,b,a⟩:=AG;exact hX h nd (fe h c b) a
theorem jl(h:Ig f W)(hi:∃x,W[i]?=some x/\Be f S x):∀j,i<=j->∀y,W[j]?=some y->Be f S y:=by
 intro j
 induction j with
 |zero=>
  intro d y a;obtain⟨x,hx,r⟩:=hi;have:i=0:=by omega
  subst this;rw[hx]at a;cases a;exact r
 |succ j b=>
  intro d y a
  by_cases c:i=j+1
  .obtain⟨x,hx,r⟩:=hi;subst c;rw[hx]at a;cases a;exact r
  .have e:=(List.getElem?_eq_some_iff.mp a).1;obtain⟨x,hx⟩:∃x,W[j]?=some x:=⟨_,AX (by omega)⟩;exact .step (b (by omega) x hx) (h j x y hx a)
theorem i9{ws:List Str}(h:Um f ws W i)(k:∃x,W[0]?=some x/\x∈S):Fi f S:=by
 obtain⟨x0,e0,j⟩:=k;obtain⟨y,z,b,d,e⟩:=h.at';have hi:=(List.getElem?_eq_some_iff.mp b).1;refine⟨y,jl h.ch ⟨x0,e0,.here j⟩ i (Cg _) y b,?_⟩
 by_cases c:i=W.length - 1
 .subst c;rw[b]at d;cases d;exact .here e
 .obtain⟨a,g⟩:∃a,W[i+1]?=some a:=⟨_,AX (by omega)⟩;exact .step (jl h.ch ⟨a,g,.here (h.ch i y a b g)⟩ _ (by omega) z d) e
noncomputable def Dl:List Str:=["puts_by_word","goes_by_word"]
def Ar(C:Addr)(ks:List Kd):PV:=.obj C Dl [.BD (Bb (wk ks)) (ks.map λk=>.tup (k.ps.map B4)),.BD (Bb (wk ks)) (ks.map λk=>.bl k.g)]
def J5(C dx a c b:Addr)(ks:List Kd):OV:=.nd (.obj C dx Dl) a [.nd (.BD (Bb (wk ks))) c (ks.map λk=>.fz (.tup (k.ps.map B4))),.nd (.BD (Bb (wk ks))) b (ks.map λk=>.fz (.bl k.g))]
theorem Pr{α:Type}(g:α->PV):∀(l:List α),OV.Cs (l.map λx=>OV.fz (g x))=l.map g
 | []=>by rw[GY,OV.Cs];rfl
 |x::r=>by rw[Ae,OV.Cs,OV.pv,Pr g r];rfl
theorem ZDx(C dx a c b:Addr)(ks:List Kd):(J5 C dx a c b ks).pv=Ar C ks:=by
 unfold J5 Ar;rw[OV.pv,OV.Cs,OV.pv,OV.Cs,OV.pv,OV.Cs,Pr,Pr]
theorem UD{α:Type}(g:α->PV)(h:∀x,Dx (g x)=true):∀(l:List α),Gf (l.map g)=true
 | []=>by rw[GY,Gf]
 |x::r=>by rw[Ae,Gf,h x,UD g h r];rfl
theorem YV{α:Type}(g:α->OV)(h:∀x,(g x).Ge=true):∀(l:List α),OV.JT (l.map g)=true
 | []=>by rw[GY,OV.JT]
 |x::r=>by rw[Ae,OV.JT,h x,YV g h r];rfl
theorem yK(p:Str×Str):Dx (B4 p)=true:=by unfold B4;simp[Dx,Gf]
theorem vH(C dx a c b:Addr)(ks:List Kd):(J5 C dx a c b ks).Ge=true:=by
 unfold J5;simp only[OV.Ge,OV.JT];rw[YV _ λk=>?_,YV _ λk=>?_]
 .rfl
 .simp[OV.Ge,Dx]
 .rw[OV.Ge,Dx];exact UD _ yK _
def Nb:Pre:=λl R=>∃(ws:List Str)(d:PV)(x:Str),l=[.is d,.is (.str x)]/\(d=.lst (ws.map .str)∨∃xs,d=.BD (Bb ws) xs)/\ws.length<=1000/\x∈ws/\R=.is (λp=>p=.AE)
def VF:Pre:=λl R=>∃(ws:List Str)(ps:List (Str×Str)),l=[.is (.lst (ws.map .str)),.is (.lst (ps.map B4))]/\ws.length<=1000/\(∀p∈ps,p.1∈WH/\p.2∈ws)/\R=.is (λp=>p=.AE)
def ZD:Pre:=λl R=>∃ks:List Kd,l=[.is (.lst (ks.map FY))]/\KG ks/\R=.is (λp=>p=.AE)
def XR(C:Addr):Pre:=λl R=>∃(dx a:Addr)(ks:List Kd),l=[.ow true (.nd (.obj C dx []) a []),.is (.lst (ks.map FY))]/\KG ks/\R=.mt (λp t'=>p=.AE/\∃c b,t'=J5 C dx a c b ks)
def Jf(C:Addr):Pre:=λl R=>∃ks:List Kd,l=[.is (Ar C ks)]/\KG ks/\R=.new (λxs=>xs=(wk ks).map .str)
def NL(C:Addr):Pre:=λl R=>∃(ks:List Kd)(x:Str),l=[.is (Ar C ks),.is (.str x)]/\KG ks/\x∈wk ks/\R=.new (λxs=>xs=(BR ks x).map B4)
def QV(C:Addr):Pre:=λl R=>∃(ks:List Kd)(x:Str),l=[.is (Ar C ks),.is (.str x)]/\KG ks/\x∈wk ks/\R=.is (λp=>p=.bl (Dq ks x))
def QR:Pre:=λl R=>∃r:Str,l=[.is (.str r)]/\r∈Ct/\R=.is (λp=>p=.AE)
def Mq(C:Addr):Pre:=λl R=>∃(ks:List Kd)(tp:Bool)(cs:List Str),l=[.is (Ar C ks),.sq tp (cs.map .str)]/\KG ks/\cs.length<=12/\(∀c∈cs,c∈wk ks)/\R=.is (λp=>p=.AE)
def Ng(C:Addr):Pre:=λl R=>∃(ks:List Kd)(x r:Str),l=[.is (Ar C ks),.is (.str x),.is (.str r)]/\KG ks/\x∈wk ks/\r∈Ct/\R=.new (λxs=>xs=(CP ks r x).map B4)
def Mg(a:Addr)(L:List Str):OV:=.nd (.BD (Bb L)) a (L.map λ_=>.fz (.bl true))
def LI(C:Addr)(n:Nat):Pre:=λl R=>∃(ks:List Kd)(r:Str)(V:List Str)(x:Str)(L:List Str)(a:Addr),l=[.is (Ar C ks),.is (.str r),.is (.lst ((V++[x]).map .str)),.ow true (Mg a L)]/\KG ks/\r∈Ct/\9<=V.length+1+n/\
 (V++[x]).Nodup/\(∀y∈V++[x],y∈wk ks)/\Ig (Ai ks r) (V++[x])/\(∀y∈V,y∉L)/\Top (Ai ks r) L/\L.Nodup/\(∀y∈L,y∈wk ks)/\
 R=.mt (λp t'=>∃L',t'=Mg a L'/\((p=.AE/\Top (Ai ks r) L'/\L'.Nodup/\(∀y∈L',y∈wk ks)/\(∀y∈L,y∈L')/\(∀y∈V,y∉L')/\x∈L')∨∃W i,p=ZM W i/\(V++[x]) <+: W/\Um (Ai ks r) (wk ks) W i))
theorem kr:∀ss R,¬ LI C 0 ss R:=by
 rintro ss R⟨ks,r,V,x,L,a,_,g,_,b,nd,sub,_⟩;have:=G2 nd sub;have:=g.l8;rw[Bt,Ij,AD]at *;omega
def uP(f:Str->List Str)(ws cs:List Str)(p:PV):Prop:=(p=.AE/\∃L,Top f L/\L.Nodup/\(∀y∈L,y∈ws)/\∀c∈cs,c∈L)∨∃W i c,p=ZM W i/\Um f ws W i/\W[0]?=some c/\c∈cs
def Rz(C:Addr):Pre:=λl R=>∃(ks:List Kd)(tp:Bool)(cs:List Str)(r:Str),l=[.is (Ar C ks),.sq tp (cs.map .str),.is (.str r)]/\KG ks/\r∈Ct/\cs.length<=12/\(∀c∈cs,c∈wk ks)/\R=.is (uP (Ai ks r) (wk ks) cs)
def Zc:Pre:=λl R=>l=[.AZ]/\R=.is λp=>∃ks:List Kd,p=.lst (ks.map Kd.P)/\KG ks
def WK(C:Addr):Pre:=λl R=>∃ks:List Kd,l=[.is (.lst (ks.map Kd.P))]/\KG ks/\R=.is (λp=>p=Ar C ks)
def VM:Pre:=λl R=>∃ks:List Kd,l=[.AZ,.is (.lst (ks.map Kd.P))]/\KG ks/\R=.new (λxs=>∃cs:List Str,xs=cs.map .str/\cs.length<=12/\∀c∈cs,c∈wk ks)
def ZQ:Pre:=λl R=>l=[.AZ]/\R=.is (λp=>∃r∈Ct,p=.str r)
def ZP:Pre:=λl R=>∃(ks:List Kd)(x r:Str),l=[.is (.lst (ks.map Kd.P)),.is (.str x),.is (.str r)]/\KG ks/\x∈wk ks/\r∈Ct/\R=.new (λxs=>xs=(Ai ks r x).map .str)
theorem KG.tR(h:KG ks)(hx:x∈wk ks):∃k rest,ks.filter (λk=>decide (k.w=x))=k::rest/\k.ps=BR ks x:=by
 obtain⟨k,c,m,n,_,j⟩:=h.at hx;have:k∈ks.filter (λk=>decide (k.w=x)):=List.mem_filter.mpr ⟨j,pf m⟩;cases e:ks.filter (λk=>decide (k.w=x))with
 |nil=>rw[e]at this;cases this
 |cons a rest=>
  refine⟨a,rest,rfl,?_⟩;have l:a∈ks.filter (λk=>decide (k.w=x)):=by rw[e];simp
  obtain⟨f,b⟩:=List.mem_filter.mp l;have b:a.w=x:=qB b;obtain⟨i,hi,d⟩:=DQ f;have g:(wk ks).idxOf x=i:=by
   have q:(wk ks)[i]?=some x:=by rw[Aj,AX hi,d];simp[b]
   exact W9 h.nd q
  rw[n];rw[g,AX hi,d]at c;cases c;rfl
theorem ck(h:KG ks)(b:∀x∈S,x∈wk ks)(q:Be (Ai ks r) S x):x∈wk ks:=by
 induction q with
 |here m=>exact b _ m
 |step _ a _=>exact h.kR a
theorem ZAq(n:Nat):G4 (n+1) (-1)=some n:=by
 unfold G4;rw[pL (by decide),pT (by omega)]
 congr 1
 omega
theorem yy(V:List Str)(x:Str):L2.C8 ((V++[x]).map PV.str) (-1)=some (.str x):=by
 unfold L2.C8;rw[AD,Bt,Ij,ZAq];simp
theorem qt{t:Int}(a:0<=t)(h:t<3):∃r∈Ct,L2.C8 [PV.str "none",.str "ahead",.str "all"] t=some (.str r):=by
 rcases(show t=0∨t=1∨t=2 by omega)with rfl|rfl|rfl
 .exact⟨"none", by decide,rfl⟩
 .exact⟨"ahead", by decide,rfl⟩
 .exact⟨"all", by decide,rfl⟩
theorem ZAa{t:Int}(a:0<=t)(h:t<4):∃x∈WH,L2.C8 [PV.str "next",.str "last",.str "back",.str "first"] t=some (.str x):=by
 rcases(show t=0∨t=1∨t=2∨t=3 by omega)with rfl|rfl|rfl|rfl
 .exact⟨"next", by decide,rfl⟩
 .exact⟨"last", by decide,rfl⟩
 .exact⟨"back", by decide,rfl⟩
 .exact⟨"first", by decide,rfl⟩
theorem p8{t:Int}(a:0<=t)(h:t<8):∃z:Nat,L2.C8 [PV.int 0,.int 1,.int 1,.int 2,.int 3,.int 4,.int 6,.int 12] t=some (.int (z:Int))/\z<=12:=by
 rcases(show t=0∨t=1∨t=2∨t=3∨t=4∨t=5∨t=6∨t=7 by omega)with rfl|rfl|rfl|rfl|rfl|rfl|rfl|rfl
 .exact⟨0,rfl,by decide⟩
 .exact⟨1,rfl,by decide⟩
 .exact⟨1,rfl,by decide⟩
 .exact⟨2,rfl,by decide⟩
 .exact⟨3,rfl,by decide⟩
 .exact⟨4,rfl,by decide⟩
 .exact⟨6,rfl,by decide⟩
 .exact⟨12,rfl,by decide⟩
theorem Vx{P:Str->Prop}:∀{ys:List PV},(∀y∈ys,∃c,P c/\y=.str c)->∃cs:List Str,ys=cs.map .str/\∀c∈cs,P c
 | [],_=>⟨[],rfl,λc h=>absurd h Ak⟩
 |y::r,h=>by
  obtain⟨c,b,rfl⟩:=h y (by simp);obtain⟨cs,e,h2⟩:=Vx (ys:=r) λz a=>h z (by simp[a]);exact⟨c::cs,by rw[e];rfl,λd hd=>by
   rcases List.mem_cons.mp hd with rfl|hd
   .exact b
   .exact h2 d hd⟩
noncomputable def Ea:List Kd->List Addr->List OV
 |k::ks,b::bs=>.tp [.fz (.str k.w),.nd .lst b ((k.ps.map B4).map .fz),.fz (.bl k.g)]::Ea ks bs
 |_,_=>[]
theorem hC:∀{ks:List Kd}{us:List OV},us.length=(ks.map Kd.P).length->(∀(j:Nat)x u,(ks.map Kd.P)[j]?=some x->us[j]?=some u->∃(k:Kd)(b:Addr),x=k.P/\u=.tp [.fz (.str k.w),.nd .lst b ((k.ps.map B4).map .fz),.fz (.bl k.g)])->∃bs:List Addr,bs.length=ks.length/\us=Ea ks bs
 | [],[],_,_=>⟨[],rfl,rfl⟩
 | [],_::_,h,_=>by simp at h
 |_::_,[],h,_=>by simp at h
 |k::ks,u::us,h,hG=>by
  obtain⟨i,b,a,f⟩:=hG 0 _ _ rfl rfl;have a:=Kd.inj _ _ a;subst a;obtain⟨bs,c,e⟩:=hC (ks:=ks) (us:=us) (by simpa using h) λj x u hx d=>hG (j+1) x u hx d
  exact⟨b::bs,by simp[c],by rw[e,f];rfl⟩
theorem jX:∀(ks:List Kd)(bs:List Addr),bs.length=ks.length->(Ea ks bs).length=ks.length
 | [],_,_=>by simp[Ea]
 |_::_,[],h=>by simp at h
 |k::ks,b::bs,h=>by rw[Ea,CH,CH,jX ks bs (by simpa using h)]
theorem gR:∀(ks:List Kd)(bs:List Addr),bs.length=ks.length->∀{j:Nat}{u:OV},(Ea ks bs)[j]?=some u->∃(k:Kd)(b:Addr),k∈ks/\u=.tp [.fz (.str k.w),.nd .lst b ((k.ps.map B4).map .fz),.fz (.bl k.g)]
 | [],_,_,j,u,hu=>by simp[Ea]at hu
 |_::_,[],h,_,_,_=>by simp at h
 |k::ks,b::bs,h,0,u,hu=>by
  rw[Ea]at hu;exact⟨k,b,by simp,(BY hu).symm⟩
 |k::ks,b::bs,h,j+1,u,hu=>by
  rw[Ea]at hu;obtain⟨c,d,a,e⟩:=gR ks bs (by simpa using h) (j:=j) (u:=u) (by simpa using hu)
  exact⟨c,d,by simp[a],e⟩
theorem jJ:∀(ks:List Kd)(bs:List Addr),bs.length=ks.length->OV.Cs (Ea ks bs)=ks.map FY
 | [],_,_=>by rw[Ea,OV.Cs];rfl;exact λ_ _ _ _ h=>by cases h
 |_::_,[],h=>by simp at h
 |k::ks,b::bs,h=>by
  rw[Ea,OV.Cs,jJ ks bs (by simpa using h),Ae]
  congr 1
  rw[OV.pv,OV.Cs,OV.pv,OV.Cs,OV.pv,OV.Cs,OV.pv,OV.Cs];unfold FY;rw[Bu,show(OV.fz ∘ B4)=λp=>OV.fz (B4 p)from rfl,Pr]
theorem rV(ks:List Kd)(bs:List Addr)(l:Addr)(h:bs.length=ks.length):(OV.nd .lst l (Ea ks bs)).pv=.lst (ks.map FY):=by rw[OV.pv,jJ ks bs h]
noncomputable def GJ:List Int->Int
 | []=>0
 | [a]=>a
 |a::b::r=>if a<=GJ (b::r)then GJ (b::r)else a
theorem Mz:∀(ns:List Int),ns≠[]->GJ ns∈ns/\∀y∈ns,y<=GJ ns
 | [],h=>absurd rfl h
 | [a],_=>⟨by simp[GJ],λy d=>by rw[List.mem_singleton.mp d];exact Ii _⟩
 |a::b::r,_=>by
  obtain⟨h1,h2⟩:=Mz (b::r) (by simp);rw[GJ]
  by_cases c:a<=GJ (b::r)
  .rw[pT c];refine⟨DS _ h1,λy d=>?_⟩;rcases List.mem_cons.mp d with rfl|d
   .exact c
   .exact h2 y d
  .rw[pL c];refine⟨by simp,λy d=>?_⟩;rcases List.mem_cons.mp d with rfl|d
   .exact Ii _
   .have:=h2 y d;omega
theorem ZB2{ns:List Int}{m:Int}(a:m∈ns)(h:∀y∈ns,y<=m):m=GJ ns:=by
 obtain⟨h1,h2⟩:=Mz ns (λz=>by rw[z]at a;cases a);have:=h2 m a;have:=h _ h1;omega
noncomputable def Gv(ks:List Kd)(r x:Str)(g:Str->List Int):List Int:=(List.range ks.length).map λj=>((Ai ks r x).map λy=>(g y).getD j 0).sum+(if(wk ks).idxOf x=j then 1 else 0)
def Ft(f:Str->Int)(p:Str×Str):Int:=if p.1∈Dd then f p.2 else f p.2+1
def KQ(ks:List Kd)(r x:Str)(f:Str->Int):Int:=GJ (1::(CP ks r x).map (Ft f))
def D5(ks:List Kd)(r:Str):Nat->Str->List Int
 | 0=>λ_=>(List.range ks.length).map λ_=>0
 |n+1=>λx=>Gv ks r x (D5 ks r n)
def HJ(ks:List Kd)(r:Str):Nat->Str->Int
 | 0=>λ_=>0
 |n+1=>λx=>KQ ks r x (HJ ks r n)
theorem v7(ks:List Kd)(r x:Str)(g:Str->List Int):(Gv ks r x g).length=ks.length:=by unfold Gv;rw[AD,Kl]
theorem xh(ks:List Kd)(r:Str)(n:Nat)(x:Str):(D5 ks r n x).length=ks.length:=by
 cases n with
 |zero=>rw[D5,AD,Kl]
 |succ n=>rw[D5,v7]
theorem fD{g g':Str->List Int}(h:∀y∈Ai ks r x,g y=g' y):Gv ks r x g=Gv ks r x g':=by
 unfold Gv;refine Ik λj _=>?_;rw[Ik λy a=>by rw[h y a]]
theorem mx{g g':Str->Int}(h:∀y∈Ai ks r x,g y=g' y):KQ ks r x g=KQ ks r x g':=by
 unfold KQ;rw[Ik λp a=>?_];unfold Ft;rw[h p.2 (List.mem_map.mpr ⟨p,a,rfl⟩)]
theorem ZDQ(h:Top (Ai ks r) T):∀(i:Nat)(x:Str),T[i]?=some x->∀n m,i<n->i<m->D5 ks r n x=D5 ks r m x/\HJ ks r n x=HJ ks r m x:=by
 intro i
 induction i using Nat.strongRecOn with
 |_ i d=>
  intro x hx n m f g;cases n with
  |zero=>omega
  |succ n=>cases m with
   |zero=>omega
   |succ m=>
    have a:∀y∈Ai ks r x,D5 ks r n y=D5 ks r m y/\HJ ks r n y=HJ ks r m y:=λy b=>by
     obtain⟨j,e,c⟩:=DQ (h i x hx y b);rw[DR]at e;rw[Nz]at c;exact d j (by omega) y (by rw[AX (by omega),c]) n m (by omega) (by omega)
    rw[D5,D5,HJ,HJ];exact⟨fD λy b=>(a y b).1,mx λy b=>(a y b).2⟩
theorem fA:∃n:Nat,n=9:=⟨9,rfl⟩
noncomputable def fuel:Nat:=Classical.choose fA
theorem Ta:fuel=9:=nD fA
noncomputable def cnt(ks:List Kd)(r x:Str):List Int:=D5 ks r fuel x
noncomputable def AK(ks:List Kd)(r x:Str):Int:=HJ ks r fuel x
theorem fL(ks:List Kd)(r x:Str):(cnt ks r x).length=ks.length:=xh ks r fuel x
theorem Pt(h:Top (Ai ks r) T)(l:T.length<=8)(hx:x∈T):cnt ks r x=Gv ks r x (cnt ks r)/\AK ks r x=KQ ks r x (AK ks r):=by
 obtain⟨i,hi,e⟩:=DQ hx;have g:T[i]?=some x:=by rw[AX hi,e]
 have k:=Ta;have a:∀y∈Ai ks r x,∀m,m+1=fuel->D5 ks r m y=cnt ks r y/\HJ ks r m y=AK ks r y:=λy b m c=>by
  obtain⟨j,f,d⟩:=DQ (h i x g y b);rw[DR]at f;rw[Nz]at d;exact ZDQ h j y (by rw[AX (by omega),d]) m fuel (by omega) (by omega)
 obtain⟨m,c⟩:∃m,m+1=fuel:=⟨8,by omega⟩;refine⟨?_,?_⟩
 .have q:cnt ks r x=D5 ks r (m+1) x:=by unfold cnt;rw[c]
  rw[q,D5];exact fD λy b=>(a y b m c).1
 .have q:AK ks r x=HJ ks r (m+1) x:=by unfold AK;rw[c]
  rw[q,HJ];exact mx λy b=>(a y b m c).2
noncomputable def G1(ks:List Kd)(r x:Str):PV:=.tup [.str x,.tup ((cnt ks r x).map .int),.int (AK ks r x)]
noncomputable def Ef(ks:List Kd)(r:Str)(a:Addr)(M:List Str):OV:=.nd (.BD (Bb M)) a (M.map λy=>.fz (G1 ks r y))
noncomputable def Pk(ks:List Kd)(r:Str)(M:List Str):PV:=.BD (Bb M) (M.map (G1 ks r))
theorem T4(ks:List Kd)(r:Str)(a:Addr)(M:List Str):(Ef ks r a M).pv=Pk ks r M:=by
 unfold Ef Pk;rw[OV.pv,Pr]
theorem fH(l:List Int):Gf (l.map PV.int)=true:=UD _ (λ_=>by simp[Dx]) l
def OE:Pre:=λl R=>∃(cs:List (List Int))(n:Nat),l=[.is (.lst (cs.map λc=>.tup (c.map .int))),.is (.int n)]/\n<=8/\cs.length<=100/\(∀c∈cs,c.length=n)/\R=.new (λxs=>xs=((List.range n).map λj=>(cs.map λc=>c.getD j 0).sum).map .int)
def R1:Pre:=λl R=>∃(ks:List Kd)(r:Str)(M:List Str)(p:Str×Str),l=[.is (B4 p),.is (Pk ks r M)]/\p.2∈M/\R=.is (λq=>q=.int (Ft (AK ks r) p))
def Rb(f:Str->List Str)(M:List Str):Prop:=∀y∈M,∀z∈f y,z∈M
def Kx(C:Addr)(n:Nat):Pre:=λl R=>∃(ks:List Kd)(x r:Str)(T:List Str)(i:Nat)(M:List Str)(a:Addr),l=[.is (Ar C ks),.is (.str x),.is (.str r),.ow true (Ef ks r a M)]/\KG ks/\r∈Ct/\Top (Ai ks r) T/\T.Nodup/\(∀y∈T,y∈wk ks)/\T[i]?=some x/\i<n/\
 M.Nodup/\(∀y∈M,y∈T)/\Rb (Ai ks r) M/\R=.mt (λp t'=>p=.AE/\∃M',t'=Ef ks r a M'/\M'.Nodup/\(∀y∈M',y∈T)/\Rb (Ai ks r) M'/\(∀y∈M,y∈M')/\x∈M'/\∀y∈M',y∈M∨Be (Ai ks r) [x] y)
theorem br:∀ss R,¬ Kx C 0 ss R:=by
 rintro ss R⟨ks,x,r,T,i,M,a,_,_,_,_,_,_,_,h,_⟩;omega
def SD(C:Addr):Pre:=λl R=>∃(ks:List Kd)(tp:Bool)(cs:List Str)(r:Str)(T:List Str),l=[.is (Ar C ks),.sq tp (cs.map .str),.is (.str r)]/\KG ks/\r∈Ct/\Top (Ai ks r) T/\T.Nodup/\(∀y∈T,y∈wk ks)/\(∀c∈cs,c∈T)/\R=.ow (λt=>∃a M,t=Ef ks r a M/\M.Nodup/\∀x,x∈M↔Be (Ai ks r) cs x)
noncomputable def gc(ks:List Kd)(r:Str)(M:List Str):List PV:=((wk ks).filter λw=>decide (w∈M)).map (G1 ks r)
def VW(C:Addr):Pre:=λl R=>∃(ks:List Kd)(tp:Bool)(cs:List Str)(r:Str)(T:List Str),l=[.is (Ar C ks),.sq tp (cs.map .str),.is (.str r)]/\KG ks/\r∈Ct/\Top (Ai ks r) T/\T.Nodup/\(∀y∈T,y∈wk ks)/\(∀c∈cs,c∈T)/\R=.new (λxs=>∃M,xs=gc ks r M/\∀x,x∈M↔Be (Ai ks r) cs x)
def ZFM(ks:List Kd)(r:Str)(cs:List Str)(t:OV):Prop:=(Fi (Ai ks r) cs/\∃W i c,t=.tp [.fz (.str "endless"),.fz (.lst ((W.take (i+1)).map .str)),.fz (.lst ((W.drop i).map .str))]/\Um (Ai ks r) (wk ks) W i/\W[0]?=some c/\c∈cs)∨
 (∃T,Top (Ai ks r) T/\T.Nodup/\(∀y∈T,y∈wk ks)/\(∀c∈cs,c∈T)/\∃b M,t=.tp [.fz (.str "ends"),.nd .lst b ((gc ks r M).map .fz)]/\∀x,x∈M↔Be (Ai ks r) cs x)
def Y3(C:Addr):Pre:=λl R=>∃(ks:List Kd)(tp:Bool)(cs:List Str)(r:Str),l=[.is (Ar C ks),.sq tp (cs.map .str),.is (.str r)]/\KG ks/\r∈Ct/\cs.length<=12/\(∀c∈cs,c∈wk ks)/\R=.ow (ZFM ks r cs)
theorem sum_set{g:Nat->Int}(a:l=List.range n)(b:j<n):(l.map g).set j (g j+1)=l.map λk=>g k+(if j=k then 1 else 0):=by
 subst a;refine nL (by simp) λk h1 h2=>?_;simp only[MT,AD,Kl]at h1;rw[List.getElem_set,MS,ZGf]
 by_cases c:j=k
 .subst c;simp
 .simp[c]
theorem Be.mono{S':List Str}(h:∀x∈S,Be f S' x)(r:Be f S x):Be f S' x:=by
 induction r with
 |here m=>exact h _ m
 |step _ b a=>exact .step a b
theorem je:∀{a b:List Int},a.map PV.int=b.map PV.int->a=b
 | [],[],_=>rfl
 | [],_::_,h=>by simp at h
 |_::_,[],h=>by simp at h
 |x::a,y::b,h=>by
  rw[Ae,Ae]at h;injection h with h1 h2
  injection h1 with h1
  rw[h1,je h2]
theorem j7{ks:List Kd}{r:Str}:∀(n:Nat)(x:Str),∀c∈D5 ks r n x,0<=c
 | 0,x,c,hc=>by
  rw[D5]at hc;obtain⟨_,_,rfl⟩:=List.mem_map.mp hc;exact Ii _
 |n+1,x,c,hc=>by
  rw[D5]at hc;unfold Gv at hc;obtain⟨j,_,rfl⟩:=List.mem_map.mp hc;have h1:0<=((Ai ks r x).map λy=>(D5 ks r n y).getD j 0).sum:=by
   have d:∀l:List Int,(∀z∈l,0<=z)->0<=l.sum:=by
    intro l
    induction l with
    |nil=>intro _;simp
    |cons a l f=>
     intro h;rw[Cf];have:=h a (by simp);have:=f λz b=>h z (by simp[b]);omega
   refine d _ λz b=>?_;obtain⟨y,_,rfl⟩:=List.mem_map.mp b;rw[DN];cases e:(D5 ks r n y)[j]? with
   |none=>exact Ii _
   |some v=>exact j7 n y v (Bi e)
  split <;> omega
theorem ed{c:Int}(h:c∈cnt ks r x):0<=c:=j7 fuel x c h
theorem ZCC{z:PV}(h:z∈Fo xs ys):∃p q,p∈xs/\q∈ys/\z=.tup [p,q]:=by
 obtain⟨i,hi,e⟩:=DQ h;have a:i<min xs.length ys.length:=by rw[<- Pe];exact hi
 have q:=ji (xs:=xs) (ys:=ys) (i:=i) (AX (by omega)) (AX (by omega));rw[AX hi,e]at q;exact⟨_,_,Hs _,Hs _,BY q⟩
theorem rw_inj(x y:Str)(h:G1 ks r x=G1 ks r y):x=y:=by
 unfold G1 at h;injection h with h
 injection h with h1 _
 injection h1
end Fz
namespace L2
open PySem.AutoSeq1 (wpAny_loadPart')
open PySem.MeetsSeq PySem.MeetsSeq2 PySem.MeetsSeq3 PySem.SeqRoads2 PySem.SeqAt
theorem pX(l:Addr)(items:Array Value)(n:Nat)(dd:Option Addr)(b:Array (Option Value))(x:Value)(e:Value->Bool)(i:Nat)(t:Tok)(j:Nat)(k:j<items.size)(GC:i<=j)(ZBn:(j:Int)<2 ^ 63 - 1)
  (a:e items[j]=true) (p:∀m(c:m<items.size),i<=m->m<j->e items[m]=false) :
  Meets (Builtin.«list.index» ⟨[.ref l,x,.int i t],[]⟩)
   (λA R s=>s.heap.get? l=some { cls:=.type "list", dict:=dd,data:=.seq items n,slots:=b }/\(∀y,y∈items->SeqAt.EqAt A.in1 s y x (e y))/\R (.ok (.ret (.int j s.toks))) { s with toks:=s.toks+1 }):=by
 intro prog w A R s h;obtain⟨u,g,d,tk,os⟩:=s;obtain⟨f,o,h⟩:=h
 wp_walk using wpAny_loadPart' f
 have r:((λi:Int=>if i<0 then max 0 (i+(items.size:Int))else i) ((some (i:Int)).getD 0))=((i:Nat):Int):=by simp;omega
 have q:((λi:Int=>if i<0 then max 0 (i+(items.size:Int))else i) ((none:Option Int).getD (2 ^ 63 - 1)))=2 ^ 63 - 1:=by simp
 rw[r,q];exact⟨wV plain_index_loop _,ZA5 entry_index_loop (by
  rw[n9 plain_index_loop _];exact SeqAt.index_loopAt l items n dd b x e (2 ^ 63 - 1) j k ZBn a _ i rfl GC (λm c h1 h2=>p m c h1 h2) prog w A R _ ⟨f,o,h⟩)⟩
section
variable{X:Cx}
def eY(K:ZHa):V->List V->Hp->VK->Prop:=λx vs H Q=>∃(l:Addr)(bs:List Bool)(i:Nat),x=.ref l/\vs=[.bl true,.int i]/\AW K H l (bs.map V.bl)/\true∈bs.drop i/\Q (.int (i+(bs.drop i).idxOf true:Nat)) H
theorem ua:Gn X "list.index" (eY X.K):=by
 intro ZB s O H x vs v us Q I A B h;obtain⟨l,bs,i,rfl,rfl,D,C,q⟩:=h;cases A;obtain⟨u,P,rfl,b,⟨t,rfl⟩⟩:=vals2 B;cases b;obtain⟨A5,r,pl,f⟩:=I.list D;obtain⟨⟨c,d,S,y⟩,n,ho,j,hd,FQ⟩:=id pl;simp only at j hd FQ;subst j;subst hd;subst FQ;have G:=r.length;rw[AD]at G;have J:=List.idxOf_lt_length_iff.mpr C;have k:(bs.drop i)[(bs.drop i).idxOf true]=true:=Hr J;have E:(bs.drop i).length=bs.length - i:=Uw;have at':∀(m:Nat)(a:m<A5.toArray.size),A5.toArray[m]=.bool (bs[m]'(by simp at a;omega)):=λm a=>by
  have N:m<A5.length:=by simpa using a
  have M:(bs.map V.bl)[m]?=some (.bl (bs[m]'(by omega))):=by rw[Aj,AX (by omega)];rfl
  obtain⟨u,g,b⟩:=r.get M;rw[AX N]at g;cases g
  simpa using(show A5[m]=Value.bool _ from b)
 have o:i+(bs.drop i).idxOf true<A5.toArray.size:=by simp;omega
 refine x8 V6 ⟨_,ho,rfl⟩ ZGs (PySem.F.args_list_index_3 _ _ _) (pX l A5.toArray n none y (.bool true) (Dv (.bl true)) i t (i+(bs.drop i).idxOf true) o (Uz _ _) ?_ ?_ (λm a h1 h2=>?_)) ⟨ho,λz L7=>JW (x:=.bl true) rfl rfl r (by
   rw[Hq];intro w hw;obtain⟨σ,_,rfl⟩:=List.mem_map.mp hw;rfl) z (by simpa using L7),?_⟩
 .have h1:bs.length<=sizeLine:=by rw[AD]at f;exact f
  have h2:=Iz;have R:((sizeLine:Nat):Int)<2 ^ 63:=by exact_mod_cast h2
  omega
 .rw[at' _ o];rw[ZGe]at k;rw[k];rfl
 .rw[at' _ a];have T:m - i<(bs.drop i).length:=by simp at a;omega
  have:=List.not_of_lt_findIdx (p:=(· == true)) (xs:=bs.drop i) (i:=m - i) (by show m - i<(bs.drop i).idxOf true;omega)
  rw[ZGe]at this;have e:i+(m - i)=m:=by omega
  simp only[e]at this;cases L:bs[m]'(by simp at a;omega)with
  |true=>rw[L]at this;cases this
  |false=>rfl
 .exact⟨.int _,H,I.tok _,⟨_,rfl⟩,q⟩
end
end L2
namespace Fz
open L2 Lw
variable{ss:List Slot}{tb tc te ti ty:TE}{nx:List Slot->Prop}{R:Ap}{ps xs:List PV}{i j:Nat}{a b:Addr}{us:List OV}{nk:NK}
section
variable[Xw]
variable{K:ZHa}{ta:TE}{t:OV}{lt:Bool}
theorem dq{k:List PV->Prop}(h:Wz ss te λtp xs=>tp=false/\k (Kt xs)):Wi ss (Vf K (Ah te BE)) k:=⟨λE O F H R S q=>
 h.go E O F H _ S λv tp xs F1 H1 b f AG=>by
  obtain⟨o,kk⟩:=AG;subst o;obtain⟨l,vs,n,a,r⟩:∃l vs,v=.ref l/\(∀(ss:List Slot)(O:L2.St)(F H:Hp),AU F1 F->Sg E ss O F H->H l=some (.lst vs))/\AR F1 vs xs:=by
   obtain⟨l,vs,e,h1,r⟩:=f;refine⟨l,vs,e,λss O F H s S=>?_,r⟩;rcases h1 with h1|⟨hA,h1⟩
   .exact S.fh _ _ (s _ _ h1)
   .exact S.keep _ _ hA h1
  subst n;refine⟨l,vs,rfl,AW.of (a ss O F1 H1 (AU.refl _) b.st),q _ (Kt xs) F1 H1 b ⟨λss O F H i s S hi=>?_,λss O F H s S=>?_,λss O F H i x H' s S hi y=>?_⟩ kk⟩
  .rw[T1]at hi;exact⟨AW.of (a ss O F H s S),by rw[r.length];exact hi⟩
  .refine⟨AW.of (a ss O F H s S),?_⟩;rw[T1,r.length];exact As _
  .obtain⟨p,y,g,ex,j,t⟩:=y;subst ex;subst t;obtain⟨z,d,c⟩:=r.get' g;have m:=S.alloc j (.tup [.int i,y]);exact⟨_,_,mY d,m,.tup BC (.cons (.int _) (.one (c.mono (s.trans m.ff))))⟩⟩
end
end Fz
namespace L2
section
variable{X:Cx}
theorem b4(y:Str):∀ss:List Str,OL (.str y) (ss.map V.str)=ss.count y
 | []=>rfl
 |a::ss=>by
  have:=b4 y ss;unfold OL at this ⊢;rw[Ae,nJ,List.count_cons,this];rfl
theorem Wh(ss:List Str):(ss.map V.str).all DM=true:=by
 rw[Hq];intro w hw;obtain⟨a,_,rfl⟩:=List.mem_map.mp hw;rfl
def Vj(K:ZHa):V->List V->Hp->VK->Prop:=λx vs H Q=>∃(l:Addr)(ss:List Str)(y:Str),x=.ref l/\vs=[.str y]/\B7 K H l (ss.map V.str)/\Q (.int (ss.count y:Nat)) H
def Te(K:ZHa):V->List V->Hp->VK->Prop:=λx vs H Q=>∃(l:Addr)(ss:List Str)(y:Str),x=.ref l/\vs=[.str y]/\AW K H l (ss.map V.str)/\Q (.int (ss.count y:Nat)) H
theorem iz:Gn X "list.count" (Te X.K):=by
 intro ZB s O H x vs v us Q I a b h;obtain⟨l,ss,y,rfl,rfl,c,q⟩:=h;refine ZC5 ZB s O H _ _ v us Q I a b ⟨l,_,_,rfl,rfl,c,rfl,Wh ss,?_⟩;rw[b4];exact q
theorem ZD0:Gn X "tuple.count" (Vj X.K):=by
 intro ZB s O H x vs v us Q I e f h;obtain⟨l,ss,y,rfl,rfl,i,q⟩:=h;cases e;obtain⟨u,rfl,g⟩:=f.one;obtain⟨A5,r,pl,j⟩:=I.tuple i;obtain⟨⟨c,d,k,b⟩,ho,a,n,FQ⟩:=id pl;simp only at a FQ;subst a;subst FQ;refine x8 F.slot_tuple_count ⟨_,ho,rfl⟩ F.entry_tuple_count (F.args_tuple_count_2 _ _) (SeqAt.tuple_countAt l A5.toArray n d b u (Dv (.str y))) ⟨ho,λz L7=>JW g rfl r (Wh ss) z (by simpa using L7),?_⟩
 refine⟨.int _,H,I.tok _,⟨_,rfl⟩,?_⟩;rw[ZGk,ZT r (Wh ss),b4];exact q
variable{o e f:Expr}{apos D9:Pos}{td ty tx:TE}
end
end L2
namespace Fz
open L2 Lw
section
variable[Xw]
variable{ss:List Slot}{K:ZHa}{td ty tx ta tb:TE}{k:PV->Prop}
theorem dY(h:Wq ss ta λtp xs=>tp=false/\∃ns:List Str,xs=ns.map PV.str/\Wp ss tb λq=>∃y,q=.str y/\k (.int (ns.count y:Nat))):Wp ss (Fy K "list" (Te K) ta (Ah tb BE)) k:=⟨λE O F H Q S q=>
 h.go E O F H _ S λv tp xs F1 H1 b sv⟨i,ns,e,h2⟩=>by
  subst i;subst e;obtain⟨l,vs,rfl,f,r⟩:=sv.seq b.st;refine⟨.inl ⟨rfl,_,AW.of f⟩,h2.go E O F1 H1 _ b.st λm p2 F2 H2 a c⟨y,g,kk⟩=>?_⟩;subst g;cases c.inv;obtain⟨n,Bs,j,DT,d⟩:=(sv.mv a).seq a.st;cases j;rw[d.strs]at DT;exact⟨l,ns,y,rfl,rfl,AW.of DT,q _ _ F2 H2 (b.trans a) (.int _) kk⟩⟩
theorem ZDy(h:Wq ss ta λtp xs=>tp=true/\∃ns:List Str,xs=ns.map PV.str/\Wp ss tb λq=>∃y,q=.str y/\k (.int (ns.count y:Nat))):Wp ss (Fy K "tuple" (Vj K) ta (Ah tb BE)) k:=⟨λE O F H Q S q=>
 h.go E O F H _ S λv tp xs F1 H1 b sv⟨i,ns,e,h2⟩=>by
  subst i;subst e;obtain⟨l,vs,rfl,f,r⟩:=sv.seq b.st;refine⟨.inr (.inr (.inr (.inr ⟨rfl,_,f⟩))),h2.go E O F1 H1 _ b.st λm p2 F2 H2 a c⟨y,g,kk⟩=>?_⟩;subst g;cases c.inv;obtain⟨n,Bs,j,DT,d⟩:=(sv.mv a).seq a.st;cases j;rw[d.strs]at DT;exact⟨l,ns,y,rfl,rfl,B7.of DT,q _ _ F2 H2 (b.trans a) (.int _) kk⟩⟩
end
end Fz
namespace L2
variable{E Q:Value->Shared->Prop}{I S l:Addr}{d:Value}
def ZDq(val:Nat->Int)(i:Nat)(a:Array Value):Prop:=(i=0/\a=#[])∨∃b t,a=#[.int b t,.int b t]/\(∃j,j<i/\val j=b)/\∀j,j<i->val j<=b
def mn(val:Nat->Int)(n:Nat)(d v:Value):Prop:=(n=0/\v=d)∨∃b t,v=.int b t/\(∃j,j<n/\val j=b)/\∀j,j<n->val j<=b
section
variable{prog:Program}{w:World}{A:Around}{s:Shared}
theorem pJ{fp wr:List Addr}{n:Nat}{P:Nat->Value->Prop}{St:Nat->Heap->Prop}(W:Walks prog w A.in1 I fp wr n P St)(val:Nat->Int)(K:∀i v,P i v->∃t,v=.int (val i) t)(Pw:S∉fp){R:Result->Shared->Prop}:
  ∀(k i:Nat)(s:Shared)(f:Array Value)(c:Nat),i+k=n->St i s.heap->s.heap.get? S=some { cls:=.type "list", dict:=none,data:=.seq f c,slots:=#[] }->ZDq val i f->
   (∀v h' tk,mn val n d v->(∀b o,b∉S::wr->s.heap.get? b=some o->h'.get? b=some o)->R (.ok (.ret v)) { s with heap:=h',toks:=tk })->
   codeAny (model prog w) A (.builtin "max.loop" ⟨[.ref I,.none,.ref S],[("default", d)]⟩) R s:=by
 have x:(toString "max" ++ toString ".loop":String)="max.loop" := by decide
 have E:S∉wr:=λh=>Pw (W.sub _ h);have nS:∀{b:Addr},b∉S::wr->S≠b:=λa h=>a (by simp[h]);have p:∀{b:Addr},b∉S::wr->b∉wr:=λa h=>a (by simp[h]);have D:∀{b:Addr},b∈fp->S≠b:=λa h=>Pw (by rw[h];exact a);intro k
 induction k with
 |zero=>
  intro i s f c hk st q y m;have M:i=n:=by omega
  subst M;refine ZA5 F.entry_max_loop ?_;simp only[n9 Qi];refine p5 (sC q rfl (p5 (ZA8 (W.done s _ _ st λh' tk g=>?_))));have l:=g S _ E q;rcases y with⟨H,rfl⟩|⟨b,t,rfl,h1,h2⟩
  .show wpAny _ A.in1 (rule _ >>= λ_=>ret d) _ _ _;refine p5 (ZA1 (qC ?_));exact m d h' tk (.inl ⟨H,rfl⟩) λb o a e=>g b o (p a) e
  .show wpAny _ A.in1 (updateSeq S (λ_=>#[]) >>= λ_=>letGo [.int b t] [.int b t] >>= λ_=>ret (.int b t)) _ _ _;refine p5 (tJ l rfl (p5 (vZ (qC ?_))));exact m _ _ tk (.inr ⟨b,t,rfl,h1,h2⟩) λb o a e=>(Jg _ _ (nS a)).trans (g b o (p a) e)
 |succ k u=>
  intro i s f c hk st q y m;refine ZA5 F.entry_max_loop ?_;simp only[n9 Qi];refine p5 (sC q rfl (p5 (ZA8 (W.item i s _ _ (by omega) st λv h' tk L Df g=>?_))));have l:=g S _ E q;obtain⟨tv,rfl⟩:=K i v L;rcases y with⟨H,rfl⟩|⟨b,t,rfl,h1,h2⟩
  .show wpAny _ A.in1 (updateSeq S (λ_=>#[.int (val i) tv,.int (val i) tv]) >>= _) _ _ _;refine p5 (tJ l rfl ?_);rw[x];refine qC ⟨wV Qi _,u (i+1) _ _ _ (by omega) (W.frame _ _ _ Df λb a o e=>(Jg _ _ (D a)).trans e) (Nx _ l rfl) (.inr ⟨_,_,rfl,⟨i,by omega,rfl⟩,λj G=>?_⟩) λv h2 PX r NI=>?_⟩
   .have:j=i:=by omega
    rw[this];exact Ii _
   .exact m v h2 PX r λb o a e=>NI b o a ((Jg _ _ (nS a)).trans (g b o (p a) e))
  .show wpAny _ A.in1 (tryCatch (holding [.int (val i) tv,.int (val i) tv] (richCompare .Gt (.int (val i) tv) (.int b t) >>= _)) _ >>= _) _ _ _;refine p5 (ZA8 (wH (p5 ?_)));refine CmpOf.ints_gt (P:=λj v=>∃t,v=.int (if j=0 then val i else b) t) (λj=>if j=0 then val i else b) (λ_ _ h=>h) 0 1 _ _ _ _ _ ⟨tv,rfl⟩ ⟨t,rfl⟩ ?_
   refine p5 (wH (qK (p5 (vZ (qC ?_)))))
   by_cases a:val i > b
   .have hd:(λi1 j:Nat=>decide ((if i1=0 then val i else b) > if j=0 then val i else b)) 0 1=true:=pf a
    rw[pT hd];refine p5 (tJ l rfl (p5 (vZ ?_)));rw[x];refine qC ⟨wV Qi _,u (i+1) _ _ _ (by omega) (W.frame _ _ _ Df λb a o e=>(Jg _ _ (D a)).trans e) (Nx _ l rfl) (.inr ⟨_,_,rfl,⟨i,by omega,rfl⟩,λj G=>?_⟩) λv h2 PX r NI=>?_⟩
    .by_cases C:j=i
     .rw[C];exact Ii _
     .have:=h2 j (by omega);omega
    .exact m v h2 PX r λb o a e=>NI b o a ((Jg _ _ (nS a)).trans (g b o (p a) e))
   .have hd:¬ (λi1 j:Nat=>decide ((if i1=0 then val i else b) > if j=0 then val i else b)) 0 1=true:=λz=>a (qB z)
    rw[pL hd];refine p5 (vZ ?_);rw[x];obtain⟨J,Qx,B⟩:=h1;refine qC ⟨wV Qi _,u (i+1) _ _ _ (by omega) Df l (.inr ⟨_,_,rfl,⟨J,by omega,B⟩,λj G=>?_⟩) λv h2 PX r NI=>?_⟩
    .by_cases C:j=i
     .rw[C];omega
     .exact h2 j (by omega)
    .exact m v h2 PX r λb o a e=>NI b o a (g b o (p a) e)
theorem zI{xs:Array (Int×Tok)}(hh:A.handled=none)(i:s.heap.IsList l (intItems xs))
  (h:∀v h' tk,mn (numAt xs) xs.size d v->(∀b o,s.heap.get? b=some o->h'.get? b=some o)->Q v { s with heap:=h',toks:=tk }) :
  wpAny (model prog w) A (call (.builtin "max") [.ref l] [("default", d)]) Q E s:=by
 refine wpAny_call (codeAny_call_builtin F.plain_max F.entry_max ?_);rw[show checkBuiltinCall "max" ⟨[.ref l],[("default", d)]⟩=pure ()from by kernel_rfl];refine qC ?_;have a:Builtin.Builtins.bindParams "max" ["key","default"] 0 ⟨[],[("default", d)]⟩=pure [none,some d]:=rfl;show wpAny _ A.in1 (Builtin.Builtins.bindParams "max" ["key","default"] 0 ⟨[],[("default", d)]⟩ >>= _) _ _ s;refine p5 (wpAny_of_eq a (p5 (qC (p5 (iter_intList i λs2 e st g f=>?_)))));subst e;refine p5 (xg ?_);rw[show(toString "max" ++ toString ".loop":String)="max.loop" by decide];have hsz:xs.size=(intItems xs).size:=by simp[intItems]
 have W:=Walks.list (prog:=prog) (w:=w) (A:=A.in1) hh _ l f (intItems xs);refine qC ⟨wV Qi _,pJ W (numAt xs) (λ_ _=>intItems_at) (λz=>absurd (g _ z) (Kn _)) (intItems xs).size 0 _ _ _ (Qw _) (W.frame _ _ _ st λb _ o e=>CG _ e) (Co _ rfl) (.inl ⟨rfl,rfl⟩) λv h' tk c hk=>?_⟩;rw[<- hsz]at c;refine h v h' tk c (old_kept λb o a e=>hk b o (λz=>?_) (CG _ e));rcases List.mem_cons.mp z with z|z
 .rw[z]at e;exact absurd (BH e) (Kn _)
 .exact a z
end
def ZG(K:ZHa)(t:TA):TE:=λO H Q=>t O H λvs H1=>∃a ss,vs=[.ref a]/\AW K H1 a (ss.map V.int)/\∀m,(ss=[]/\m=0∨m∈ss/\∀y∈ss,y<=m)->Q (.int m) H1
section
variable{X:Cx}
theorem ZAg{p pos kp:Pos}{l m:Expr}{t:TA}(F:X.calm=true)(E:Gl X "max")(C:X.mg "max"=none)(d:QA X [l] t)(h1:QE X m (tC (.int 0)))
  (g:starEach [l] X.env=[(false,eval l X.env)]:=by rfl):QE X (.Call (.Name "max" p) [l] [⟨some "default", m,kp⟩] pos) (ZG X.K t):=⟨by
 have d:=d.h;have h1:=h1.h;intro ZB s O H Q I h;refine sG (Li I E C (show bootBuiltins "max"=some (.builtin "max") by decide +kernel) ?_ (by decide) (by decide));refine callWith_kw (AO (d pos ZB s O H _ I h) λus n⟨vs,H1,I1,x,z⟩=>?_) (by rw[g];rfl) (by rw[g];rfl) rfl rfl;refine kws_cons (AO (h1 ZB n O H1 (λv H'=>v=.int 0/\H'=H1) I1 ⟨rfl,rfl⟩) λv s2⟨M,H2,I2,w,c,L⟩=>?_);subst c L;obtain⟨tk,rfl⟩:=w;refine kws_nil ?_;obtain⟨a,ss,rfl,B,q⟩:=z;obtain⟨u,rfl,o⟩:=vals1 x;cases o;obtain⟨A5,r,pl,_⟩:=I2.list B;have hi:=SR r;obtain⟨ys,e⟩:=hi.allInts.items;have k:=pl.isList;rw[e]at k;have c:ys.toList.map (·.1)=ss:=by
  rw[<- nums_intItems,<- e];exact hi.numsOf
 have i:ys.size=ss.length:=by rw[<- c];simp
 refine zI (I2.ok.hd F) k λv h' tk J hk=>?_;rcases J with⟨N,rfl⟩|⟨b,t,rfl,⟨j,D,f⟩,G⟩
 .exact⟨.int 0,H2,I2.same hk,⟨_,rfl⟩,q 0 (.inl ⟨List.length_eq_zero_iff.mp (by omega),rfl⟩)⟩
 .refine⟨.int b,H2,I2.same hk,⟨_,rfl⟩,q b (.inr ⟨?_,λy A=>?_⟩)⟩
  .rw[<- f,numAt_eq,c];exact getD_mem (by omega)
  .obtain⟨j,D,f⟩:=mem_getD A;have:=G j (by omega);rw[numAt_eq ys j,c,f]at this;exact this⟩
end
end L2
namespace Fz
open L2 Lw
variable{l ss:List Slot}{te:TE}{t1 t2:OV}{b c d:Bool}
section
variable[Xw]
variable{K:ZHa}{k:PV->Prop}
theorem tI(h:Wq ss te λtp xs=>tp=false/\∃ns:List Int,xs=ns.map PV.int/\∀m,(ns=[]/\m=0∨m∈ns/\∀y∈ns,y<=m)->k (.int m)):Wp ss (ZG K (Ah te BE)) k:=⟨λE O F H Q S q=>
 h.go E O F H _ S λv tp xs F1 H1 a sv AG=>by
  obtain⟨d,ns,e,kk⟩:=AG;subst d;subst e;obtain⟨l,vs,rfl,b,r⟩:=sv.seq a.st;rw[r.ints]at b;exact⟨l,ns,rfl,AW.of b,λm c=>q _ _ F1 H1 a (.int _) (kk m c)⟩⟩
end
end Fz
namespace Fz
open L2 Lw
variable{ss:List Slot}{tb te:TE}{i j:Nat}
theorem set_same{α:Type}{l:List α}{x:α}(h:l[i]?=some x):l.set i x=l:=by
 obtain⟨a,ex⟩:=List.getElem?_eq_some_iff.mp h;rw[<- ex,List.set_getElem_self]
end Fz
namespace Fz
open L2 Lw
variable{ss:List Slot}{ta tb te ti tv:TE}{d i j jb n:Nat}{nx:List Slot->Prop}{R:Ap}{neg tp:Bool}{C a a0 aT aW dx:Addr}{pl r w x0 y:Str}{ps xs:List PV}{B c m:Int}{p:Str×Str}{ks:List Kd}{L5 us:List OV}{f:Str->List Str}{S T cs:List Str}{l ns:List Int}
theorem vS(x:Bool)(ns:List Bool):Ks (.bl x) (ns.map V.bl)=decide (x∈ns):=by
 induction ns with
 |nil=>simp[Ks]
 |cons n r a=>
  unfold Ks at a ⊢;rw[Ae,MR,a];cases x <;> cases n <;> simp[E6]
section
variable[Xw]
variable{t:OV}{K:ZHa}{k:PV->Prop}
theorem jL(h:Wp ss ta λp=>∃x,p=.bl x/\Wq ss tb λ_ ys=>∃ns:List Bool,ys=ns.map PV.bl/\k (.bl (if neg then !decide (x∈ns)else decide (x∈ns)))):Wp ss (BZ (J7 K neg) ta tb) k:=⟨λE O F H Q S q=>
 h.go E O F H _ S λv p F1 H1 b d AG=>by
  obtain⟨x,e,h2⟩:=AG;subst e;cases d.inv;exact h2.go E O F1 H1 _ b.st λg tp ys F2 H2 a sv CF=>by
   obtain⟨ns,f,kk⟩:=CF;subst f;obtain⟨l,vs,rfl,c,r⟩:=sv.seq a.st;rw[r.Xo]at c;refine⟨l,_,rfl,(EZ.sq (K:=K) c).or,rfl,vW ns,?_⟩;rw[vS];exact q _ _ F2 H2 (b.trans a) (.bl _) kk⟩
theorem zr(h:Wq ss te λtp xs=>tp=false/\∃bs:List Bool,xs=bs.map PV.bl/\Wp ss tb λp=>∃n:Nat,p=.int n/\true∈bs.drop n/\k (.int (n+(bs.drop n).idxOf true:Nat))):Wp ss (Fy K "list" (eY K) te (Ah (tC (.bl true)) (Ah tb BE))) k:=⟨λE O F H Q S q=>
 h.go E O F H _ S λv tp xs F1 H1 b sv AG=>by
  obtain⟨i,bs,ex,h2⟩:=AG;subst i;subst ex;obtain⟨l,vs,rfl,g,r⟩:=sv.seq b.st;refine⟨.inl ⟨rfl,_,AW.of g⟩,h2.go E O F1 H1 _ b.st λm p2 F2 H2 a c CF=>?_⟩;obtain⟨n,e,f,kk⟩:=CF;subst e;cases c.inv;obtain⟨o,Bs,j,DT,d⟩:=(sv.mv a).seq a.st;cases j;rw[d.Xo]at DT;exact⟨l,bs,n,rfl,rfl,AW.of DT,f,q _ _ F2 H2 (b.trans a) (.int _) kk⟩⟩
theorem cz(h:Wl ss i t ta λp u=>∃(lt:Bool)(a:Addr)(ps:List PV),ss[i]?=some (.ow lt t)/\u=.nd .lst a (ps.map .fz)/\Wp ss tb λq=>∃n:Nat,q=.int n/\n<ps.length/\ps.length<=99999/\nx (ss.set i (.ow lt (t.put p (.nd .lst a ((ps.eraseIdx n).map .fz)))))):
  Ws ss (IW (Fy K "list" WN ta (Ah tb BE))) nx R:=⟨λE D O F H S j w=>
 h.go E O F H _ S λv p u F1 H1 c f B6 AG=>by
  obtain⟨lt,a,ps,hi,l,h2⟩:=AG;subst l;have k:v=.ref a:=by cases f;rfl
  subst k;obtain⟨Gu,XJ,_⟩:=c.st.Px hi B6;refine⟨.inl ⟨rfl,_,AW.of XJ⟩,h2.go E O F1 H1 _ c.st λo r F2 H2 b d CF=>?_⟩;obtain⟨n,m,Ku,s,kk⟩:=CF;subst m;cases d.inv;obtain⟨vs,g,rr⟩:=b.st.Px hi B6;have e:=rr.length;refine⟨a,vs,n,n,vs[n]'(by omega),rfl,rfl,g,by omega,by omega,ZAW (by omega),AX (by omega),?_⟩;exact j _ O F2 _ kk (b.st.W3 hi B6 (rr.erase n)) (c.ff.trans b.ff)⟩
theorem ZCd{k:List Nat->OV->Prop}(hi:ss[i]?=some (.ow false t))(h:Wl ss i t te λ_ u=>k [i] u):Wx ss te k:=⟨λE O F H Q S q=>
 h.go E O F H _ S λv p u F1 H1 b c B6 kk=>by
  obtain⟨f,e,r,nd,a⟩:=b.st.ok i _ hi;obtain⟨l,g,es,_⟩:=OV.split B6;have d:u.addrs.Nodup:=by
   rw[es]at nd;exact(List.nodup_append.mp (List.nodup_append.mp nd).1).2.1
  have sub:∀x∈u.addrs,x∈t.addrs:=OV.Ih B6;exact q v [i] u F1 H1 b c d (λx hx=>⟨(a x (sub x hx)).1,(a x (sub x hx)).2.elim id λz=>(by cases z.1),.inl ⟨i,by simp,_,by simp,hi,sub x hx⟩⟩) kk⟩
end
abbrev AH:=Str×Bool
variable{x:AH}{q:List AH×List AH×List AH}
structure Rn where
 r:Str
 th:List AH
 gap:Nat
 AK:Nat
variable{s:Rn}
noncomputable def Em:List Str:=["rule","things","awaited","gap","rounds"]
noncomputable def Ca(th:List AH):List PV:=th.map λx=>.str x.1
noncomputable def DB(th:List AH):List PV:=th.map λx=>.bl x.2
def Rg(C:Addr)(s:Rn):PV:=.obj C Em [.str s.r,.lst (Ca s.th),.lst (DB s.th),.int s.gap,.int s.AK]
def Cn(C dx a aT aW:Addr)(r:Str)(ts ws:List PV)(g n:Int):OV:=.nd (.obj C dx Em) a [.fz (.str r),.nd .lst aT (ts.map .fz),.nd .lst aW (ws.map .fz),.fz (.int g),.fz (.int n)]
def EI(C dx a aT aW:Addr)(s:Rn):OV:=Cn C dx a aT aW s.r (Ca s.th) (DB s.th) s.gap s.AK
theorem Yj:(EI C dx a aT aW s).pv=Rg C s:=by
 unfold EI Cn Rg;simp only[OV.pv,OV.Cs,ZL]
section
variable[Xw]
variable{ts ws ys:List PV}{g n:Int}{lt:Bool}{K:ZHa}
theorem af{k:Bool->List PV->Prop}(hi:ss[i]?=some (.is (M7 tp xs)))(h:k tp xs):Wz ss (Au i) k:=by
 cases tp
 .exact CY (A4 hi ⟨_,.inl ⟨rfl,h⟩⟩)
 .exact CY (A4 hi ⟨_,.inr ⟨rfl,h⟩⟩)
theorem jd:(Cn C dx a aT aW r ts ws g n).put [1] (.nd .lst aT (ys.map .fz))=Cn C dx a aT aW r ys ws g n:=by unfold Cn;rw[OV.JU (x:=.nd .lst aT (ts.map .fz)) rfl,OV.EF];rfl
theorem W0:(Cn C dx a aT aW r ts ws g n).put [2] (.nd .lst aW (ys.map .fz))=Cn C dx a aT aW r ts ys g n:=by unfold Cn;rw[OV.JU (x:=.nd .lst aW (ws.map .fz)) rfl,OV.EF];rfl
theorem Si{k:List Nat->OV->Prop}(hi:ss[i]?=some (.ow lt (Cn C dx a aT aW r ts ws g n)))(b:Bo K C)(c:BQ K C "things")(h:k ([]++[1]) (.nd .lst aT (ts.map .fz))):Wl ss i (Cn C dx a aT aW r ts ws g n) (JL K (Au i) "things") k:=ML (Bv hi ⟨C,dx,Em,a,_,1,_,rfl,b,c,by decide +kernel,rfl,h⟩)
theorem Qf{k:List Nat->OV->Prop}(hi:ss[i]?=some (.ow lt (Cn C dx a aT aW r ts ws g n)))(b:Bo K C)(c:BQ K C "awaited")(h:k ([]++[2]) (.nd .lst aW (ws.map .fz))):Wl ss i (Cn C dx a aT aW r ts ws g n) (JL K (Au i) "awaited") k:=ML (Bv hi ⟨C,dx,Em,a,_,2,_,rfl,b,c,by decide +kernel,rfl,h⟩)
theorem oB{k:PV->Prop}(hi:ss[i]?=some (.ow lt (Cn C dx a aT aW r ts ws g n)))(b:Bo K C)(c:BQ K C "rule")(h:k (.str r)):Wp ss (JL K (Au i) "rule") k:=KL (ML (Bv hi ⟨C,dx,Em,a,_,0,_,rfl,b,c,by decide +kernel,rfl,_,rfl,h⟩))
theorem Mo{k:PV->Prop}(hi:ss[i]?=some (.ow lt (Cn C dx a aT aW r ts ws g n)))(b:Bo K C)(c:BQ K C "gap")(h:k (.int g)):Wp ss (JL K (Au i) "gap") k:=KL (ML (Bv hi ⟨C,dx,Em,a,_,3,_,rfl,b,c,by decide +kernel,rfl,_,rfl,h⟩))
theorem du{k:PV->Prop}(hi:ss[i]?=some (.ow lt (Cn C dx a aT aW r ts ws g n)))(b:Bo K C)(c:BQ K C "rounds")(h:k (.int n)):Wp ss (JL K (Au i) "rounds") k:=KL (ML (Bv hi ⟨C,dx,Em,a,_,4,_,rfl,b,c,by decide +kernel,rfl,_,rfl,h⟩))
theorem X4(hi:ss[i]?=some (.ow lt (Cn C dx a aT aW r ts ws g n)))(b:Bo K C)(c:BQ K C "gap")(h:Wp ss tv λp=>∃g',p=.int g'/\nx (ss.set i (.ow lt (Cn C dx a aT aW r ts ws g' n)))):Ws ss (TX K (Au i) tv "gap") nx R:=
 Jr (i:=i) (Dy (h.mono λp z=>by
  obtain⟨g',rfl,kk⟩:=z;refine Bv hi ⟨lt,C,dx,Em,a,_,hi,rfl,b,c,by decide,Ak,?_⟩;rw[OV.EF];exact kk))
theorem oP(hi:ss[i]?=some (.ow lt (Cn C dx a aT aW r ts ws g n)))(b:Bo K C)(c:BQ K C "rounds")(h:nx (ss.set i (.ow lt (Cn C dx a aT aW r ts ws g (n+1))))):Ws ss (OX K (Au i) (tC (.int 1)) (KR λi j=>i+j) "rounds") nx R:=
 ZA7 (i:=i) (Bv hi ⟨lt,C,dx,Em,a,_,4,n,hi,rfl,b,c,by decide,by decide +kernel,rfl,Af ⟨1,rfl,by rw[OV.EF];exact h⟩⟩)
end
def GV(C a:Addr)(s:Rn)(t:OV):Prop:=∃dx aT aW,t=EI C dx a aT aW s
def B1(th:List AH):Bool:=th.any (·.2)
theorem Xu(th:List AH):DB th=(th.map (·.2)).map PV.bl:=by unfold DB;rw[Bu];rfl
theorem WM(th:List AH):B1 th=decide (true∈th.map (·.2)):=by
 unfold B1;rw[Kg,ZGV,sP,List.mem_map]
theorem ZFv(th:List AH)(i:Nat):(DB th).set i (.bl false)=DB (th.modify i λx=>(x.1,false)):=by
 unfold DB
 induction th generalizing i with
 |nil=>simp
 |cons x r a=>
  cases i with
  |zero=>rfl
  |succ i=>
   rw[Ae,Qr,a,nY,Ae]
theorem zN(th:List AH)(i:Nat):Ca (th.modify i λx=>(x.1,false))=Ca th:=by
 unfold Ca
 induction th generalizing i with
 |nil=>simp
 |cons x r a=>
  cases i with
  |zero=>rfl
  |succ i=>rw[nY,Ae,a,Ae]
theorem ZDf(cs:List Str):Ca (cs.map λc=>(c,true))=cs.map .str:=by unfold Ca;rw[Bu];rfl
theorem ZDB(cs:List Str):DB (cs.map λc=>(c,true))=cs.map λ_=>.bl true:=by unfold DB;rw[Bu];rfl
theorem OG(th:List AH):(Ca th).length=th.length:=AD ..
theorem O9(th:List AH):(DB th).length=th.length:=AD ..
def Yw(C:Addr):Pre:=λl R=>∃(dx a:Addr)(tp:Bool)(cs:List Str)(r:Str),l=[.ow true (.nd (.obj C dx []) a []),.is (M7 tp (cs.map .str)),.is (.str r)]/\cs.length<=100/\R=.mt λp t'=>p=.AE/\∃aT aW,t'=EI C dx a aT aW ⟨r,cs.map λc=>(c,true),0,0⟩
def VS(C:Addr):Pre:=λl R=>∃s:Rn,l=[.is (Rg C s)]/\R=.is λp=>p=.bl (B1 s.th)
def CJ(s:Rn):Bool:=!B1 (s.th.drop s.gap)
def By(s:Rn):Nat:=let st:=if CJ s then 0 else s.gap;st+(s.th.drop st).findIdx (·.2)
def Cj(s:Rn):Rn:=⟨s.r,s.th.modify (By s) λx=>(x.1,false),By s+1,if CJ s=true∨s.AK=0 then s.AK+1 else s.AK⟩
theorem m8(h:B1 s.th=true):∃x,s.th[By s]?=some (x,true)/\true∈((s.th.map (·.2)).drop (if CJ s then 0 else s.gap))/\By s=(if CJ s then 0 else s.gap)+((s.th.map (·.2)).drop (if CJ s then 0 else s.gap)).idxOf true:=by
 have f:B1 (s.th.drop (if CJ s then 0 else s.gap))=true:=by
  cases e:CJ s with
  |true=>exact h
  |false=>
   unfold CJ at e;show B1 (s.th.drop s.gap)=true;cases q:B1 (s.th.drop s.gap)with
   |true=>rfl
   |false=>rw[q]at e;cases e
 have j:∀l:List AH,l.findIdx (·.2)=(l.map (·.2)).idxOf true:=λl=>by
  induction l with
  |nil=>rfl
  |cons y r i=>
   rw[ZGZ,Ae,nT,i];cases y.2 <;> rfl
 have c:true∈(s.th.map (·.2)).drop (if CJ s then 0 else s.gap):=by
  rw[<- Km];rw[WM]at f;exact qB f
 have g:By s=(if CJ s then 0 else s.gap)+((s.th.map (·.2)).drop (if CJ s then 0 else s.gap)).idxOf true:=by
  unfold By;rw[<- Km,<- j]
 have d:=List.idxOf_lt_length_iff.mpr c;have a:((s.th.map (·.2)).drop (if CJ s then 0 else s.gap))[((s.th.map (·.2)).drop (if CJ s then 0 else s.gap)).idxOf true]?=some true:=by rw[AX d,Hr d]
 rw[List.getElem?_drop,<- g,Aj]at a;obtain⟨⟨x,b⟩,hx,rfl⟩:=Option.map_eq_some_iff.mp a;exact⟨x,hx,c,g⟩
def AV(s:Rn):Str:=match s.th[By s]? with
 |some x=>x.1
 |none => ""
def X6(C:Addr):Pre:=λl R=>∃(a:Addr)(s:Rn)(t:OV),l=[.ow true t]/\GV C a s t/\B1 s.th=true/\s.th.length<=10000/\R=.mt λp t'=>p=.str (AV s)/\GV C a (Cj s) t'
noncomputable def HC(s:Rn)(a:Str)(n:Nat):Nat:=if a="next" then s.gap+n else if a="last" then s.th.length else if a="back" then s.gap - 1 else 0
def aZ(C:Addr):Pre:=λl R=>∃(s:Rn)(a:Str)(n:Nat),l=[.is (Rg C s),.is (.str a),.is (.int n)]/\1<=s.gap/\R=.is λp=>p=.int (HC s a n)
def UI(s:Rn)(w:Str)(at_:Nat):Rn:=⟨s.r,s.th.take at_++(w,Mu s.r s.gap at_)::s.th.drop at_,JC at_ s.gap,s.AK⟩
def ag(C:Addr):Pre:=λl R=>∃(a:Addr)(s:Rn)(t:OV)(w:Str)(i:Nat),l=[.ow true t,.is (.str w),.is (.int i)]/\GV C a s t/\i<=s.th.length/\s.th.length<=10000/\R=.mt λp t'=>p=.AE/\GV C a (UI s w i) t'
def RF(s:Rn)(i:Nat):Rn:=⟨s.r,s.th.eraseIdx i,Po i s.gap,s.AK⟩
theorem aR{α β:Type}(f:α->β):∀(a:List α)(j:Nat),(a.map f).eraseIdx j=(a.eraseIdx j).map f
 | [],_=>rfl
 |_::_,0=>rfl
 |x::t,j+1=>by rw[Ae,List.eraseIdx_cons_succ,aR f t j];rfl
theorem vf(th:List AH)(i:Nat)(x:AH):Ca (th.take i++x::th.drop i)=(Ca th).take i++.str x.1::(Ca th).drop i:=by unfold Ca;rw[C0,Ae,Qp,Km]
theorem sS(th:List AH)(i:Nat)(x:AH):DB (th.take i++x::th.drop i)=(DB th).take i++.bl x.2::(DB th).drop i:=by unfold DB;rw[C0,Ae,Qp,Km]
theorem qP(th:List AH)(i:Nat):(Ca th).eraseIdx i=Ca (th.eraseIdx i):=aR _ _ _
theorem ZDJ(th:List AH)(i:Nat):(DB th).eraseIdx i=DB (th.eraseIdx i):=aR _ _ _
def Yg(C:Addr):Pre:=λl R=>∃(a:Addr)(s:Rn)(t:OV)(i:Nat),l=[.ow true t,.is (.int i)]/\GV C a s t/\(i<s.th.length/\s.th.length<=10010)/\R=.mt λp t'=>p=.AE/\GV C a (RF s i) t'
noncomputable def BL(r:Str)(q:List AH×List AH×List AH)(p:Str×Str):List AH×List AH×List AH:=
 if p.1="next" then(q.1,q.2.1++[(p.2,decide (r ≠"none"))],q.2.2)else if p.1="last" then(q.1,q.2.1,q.2.2++[(p.2,decide (r ≠"none"))])else if p.1="back" then(q.1++[(p.2,decide (r="all"))],q.2.1,q.2.2)else((p.2,decide (r="all"))::q.1,q.2.1,q.2.2)
def CK(r:Str)(ps:List (Str×Str))(q:List AH×List AH×List AH):List AH×List AH×List AH:=ps.foldl (BL r) q
def FZ(r:Str)(th:List AH)(at_:Nat)(x:AH)(ps:List (Str×Str))(g:Bool):List AH×Nat:=
 let q:=CK r ps (th.take at_,[],th.drop (at_+1))
 (q.1++(if g then[]else[x])++q.2.1++q.2.2,q.1.length+if g then 0 else 1)
noncomputable def Cr(r:Str)(x:AH)(AK:Nat)(q:List AH×List AH×List AH):Rn:=⟨r,q.1++x::(q.2.1++q.2.2),q.1.length+1,AK⟩
theorem rS(h:s.th[s.gap - 1]?=some x)(b:1<=s.gap):s=Cr s.r x s.AK (s.th.take (s.gap - 1),[],s.th.drop (s.gap - 1+1)):=by
 obtain⟨r,th,g,n⟩:=s;obtain⟨a,e⟩:=List.getElem?_eq_some_iff.mp h;have a:g - 1<th.length:=a;have b:1<=g:=b;have e:th[g - 1]=x:=e;show Rn.mk r th g n=Rn.mk r (th.take (g - 1)++x::([]++th.drop (g - 1+1))) ((th.take (g - 1)).length+1) n;rw[Et,<- e,<- nK a,bM,DR,show min (g - 1) th.length+1=g by omega]
noncomputable def Fe(q:List AH×List AH×List AH):Nat:=q.1.length+q.2.1.length+q.2.2.length
theorem ZDX(r:Str)(q:List AH×List AH×List AH)(p:Str×Str):Fe (BL r q p)=Fe q+1:=by
 unfold BL Fe
 repeat' split
 all_goals simp only[Bt,CH,Qn];omega
theorem ZAA(r:Str)(ps:List (Str×Str))(p:Str×Str)(q:List AH×List AH×List AH):CK r (ps++[p]) q=BL r (CK r ps q) p:=by unfold CK;rw[List.foldl_append];rfl
theorem SS(r:Str):∀(ps:List (Str×Str))(q:List AH×List AH×List AH),Fe (CK r ps q)=Fe q+ps.length
 | [],q=>rfl
 |p::ps,q=>by
  show Fe (CK r ps (BL r q p))=_;rw[SS r ps,ZDX,CH];omega
theorem SA(r:Str)(x:AH)(n:Nat)(q:List AH×List AH×List AH):(Cr r x n q).th.length=Fe q+1:=by
 show(q.1++x::(q.2.1++q.2.2)).length=_;unfold Fe;simp only[Bt,CH];omega
theorem SW{g:Nat}(c:r∈Ct):Mu r g i=if g<=i then decide (r ≠"none")else decide (r="all"):=by
 have:r="none" ∨r="ahead" ∨r="all" := by
  unfold Ct at c;rcases List.mem_cons.mp c with h|h
  .exact .inl h
  .rcases List.mem_cons.mp h with h|h
   .exact .inr (.inl h)
   .exact .inr (.inr (List.mem_singleton.mp h))
 unfold Mu;have b:("none":Str)≠"all" := by decide +kernel
 have f:("none":Str)≠"ahead" := by decide +kernel
 have a:("ahead":Str)≠"all" := by decide +kernel
 have e:("all":Str)≠"none" := by decide +kernel
 have d:("ahead":Str)≠"none" := by decide +kernel
 rcases this with rfl|rfl|rfl
 .rw[pL (by simpa using b),pL (by simpa using f)]
  split <;> simp[b]
 .rw[pL (by simpa using a),pT (by simp)]
  split <;> simp[a,d] <;> omega
 .rw[pT (by simp)];split <;> simp[e]
theorem putAt{k:Str}{pre post th:List AH}{g m:Nat}(e:th=pre++post)(a:m=pre.length):UI ⟨r,th,g,n⟩ k m=⟨r,pre++(k,Mu r g m)::post,JC m g,n⟩:=by
 subst e;subst a;show Rn.mk r ((pre++post).take pre.length++_::(pre++post).drop pre.length) _ n=_;rw[List.take_left,List.drop_left]
theorem ZE8{a k:Str}(b:r∈Ct)(hw:a∈WH):HC (Cr r x n q) a q.2.1.length<=(Cr r x n q).th.length/\UI (Cr r x n q) k (HC (Cr r x n q) a q.2.1.length)=Cr r x n (BL r q (a,k)):=by
 obtain⟨lo,nx,hi⟩:=q;have l:(lo++x::(nx++hi)).length=lo.length+nx.length+hi.length+1:=SA r x n (lo,nx,hi);have j:("last":Str)≠"next" := by decide +kernel
 have i:("back":Str)≠"next" := by decide +kernel
 have f:("back":Str)≠"last" := by decide +kernel
 have e:("first":Str)≠"next" := by decide +kernel
 have d:("first":Str)≠"last" := by decide +kernel
 have c:("first":Str)≠"back" := by decide +kernel
 have hw:a="next" ∨a="last" ∨a="back" ∨a="first" := by
  unfold WH at hw;rcases List.mem_cons.mp hw with h|h
  .exact .inl h
  .rcases List.mem_cons.mp h with h|h
   .exact .inr (.inl h)
   .rcases List.mem_cons.mp h with h|h
    .exact .inr (.inr (.inl h))
    .exact .inr (.inr (.inr (List.mem_singleton.mp h)))
 rcases hw with rfl|rfl|rfl|rfl
 .rw[show HC (Cr r x n (lo,nx,hi)) "next" (lo,nx,hi).2.1.length=lo.length+1+nx.length from pT rfl]
  refine⟨by show _<=(lo++x::(nx++hi)).length;omega,?_⟩;refine(putAt (g:=lo.length+1) (pre:=lo++x::nx) (post:=hi) (by simp) (by simp;omega)).trans ?_;rw[SW b,pT (by omega),show BL r (lo,nx,hi) ("next", k)=(lo,nx++[(k,decide (r ≠"none"))],hi)from pT rfl]
  unfold Cr JC;dsimp only;rw[pL (by omega)];simp
 .rw[show HC (Cr r x n (lo,nx,hi)) "last" (lo,nx,hi).2.1.length=(lo++x::(nx++hi)).length from by unfold HC;rw[pL j,pT rfl];rfl];refine⟨As _,?_⟩;refine(putAt (g:=lo.length+1) (pre:=lo++x::(nx++hi)) (post:=[]) (by simp) rfl).trans ?_;rw[SW b,pT (by omega),show BL r (lo,nx,hi) ("last", k)=(lo,nx,hi++[(k,decide (r ≠"none"))])from by unfold BL;rw[pL j,pT rfl]];unfold Cr JC;dsimp only;rw[pL (by omega)];simp
 .rw[show HC (Cr r x n (lo,nx,hi)) "back" (lo,nx,hi).2.1.length=lo.length from by unfold HC;rw[pL i,pL f,pT rfl];rfl];refine⟨by show _<=(lo++x::(nx++hi)).length;omega,?_⟩;refine(putAt (g:=lo.length+1) (pre:=lo) (post:=x::(nx++hi)) rfl rfl).trans ?_;rw[SW b,pL (by omega),show BL r (lo,nx,hi) ("back", k)=(lo++[(k,decide (r="all"))],nx,hi)from by unfold BL;rw[pL i,pL f,pT rfl]];unfold Cr JC;dsimp only;rw[pT (by omega)];simp
 .rw[show HC (Cr r x n (lo,nx,hi)) "first" (lo,nx,hi).2.1.length=0 from by unfold HC;rw[pL e,pL d,pL c]]
  refine⟨Cg _,?_⟩;refine(putAt (m:=0) (g:=lo.length+1) (pre:=[]) (post:=lo++x::(nx++hi)) rfl rfl).trans ?_;rw[SW b,pL (by simp),show BL r (lo,nx,hi) ("first", k)=((k,decide (r="all"))::lo,nx,hi)from by unfold BL;rw[pL e,pL d,pL c]]
  unfold Cr JC;dsimp only;rw[pT (Qv _)];simp
theorem ZBQ:RF (Cr r x n q) q.1.length=⟨r,q.1++(q.2.1++q.2.2),q.1.length,n⟩:=by
 unfold RF Cr Po;rw[pT (V0 _),ZGm];show Rn.mk r ((q.1++x::(q.2.1++q.2.2)).eraseIdx q.1.length) _ n=_;rw[List.eraseIdx_append_of_length_le (As _),V3];rfl
theorem ZG7(r:Str)(q:List AH×List AH×List AH)(a k:Str):(BL r q (a,k)).2.1.length=q.2.1.length+if a="next" then 1 else 0:=by
 unfold BL
 by_cases h:a="next"
 .rw[pT h,pT h];simp
 .rw[pL h,pL h]
  repeat' split
  all_goals rfl
def XZ(C:Addr):Pre:=λl R=>∃(a:Addr)(s:Rn)(t:OV)(ps:List (Str×Str))(g:Bool)(x:AH),l=[.ow true t,.is (.lst (ps.map B4)),.is (.bl g)]/\GV C a s t/\(s.th[s.gap - 1]?=some x/\1<=s.gap)/\s.r∈Ct/\((∀p∈ps,p.1∈WH)/\s.th.length+ps.length<=10000)/\R=.mt λp t'=>p=.AE/\GV C a ⟨s.r,(FZ s.r s.th (s.gap - 1) x ps g).1,(FZ s.r s.th (s.gap - 1) x ps g).2,s.AK⟩ t'
def BS(ks:List Kd)(s:Rn):Rn:=⟨s.r,(FZ s.r (Cj s).th (By s) (AV s,false) (BR ks (AV s)) (Dq ks (AV s))).1,(FZ s.r (Cj s).th (By s) (AV s,false) (BR ks (AV s)) (Dq ks (AV s))).2,(Cj s).AK⟩
def Bz(ks:List Kd):Nat->Rn×List Str->Rn×List Str
 | 0,s=>s
 |n+1,s=>if B1 s.1.th=true then Bz ks n (BS ks s.1,s.2++[AV s.1])else s
theorem vx(ks:List Kd){s:Rn×List Str}(h:B1 s.1.th=false):∀n,Bz ks n s=s
 | 0=>rfl
 |n+1=>by rw[Bz,pL (by rw[h];decide)]
theorem ZCA{Z:Str->Prop}(c:Z p.2)(h:∀y∈q.1++q.2.1++q.2.2,Z y.1):∀y∈(BL r q p).1++(BL r q p).2.1++(BL r q p).2.2,Z y.1:=λy a=>by
 have b:y∈q.1++q.2.1++q.2.2∨y.1=p.2:=by
  unfold BL at a
  repeat' split at a
  all_goals simp only[MU,G9,Ak,vE]at a ⊢
  .rcases a with(h|h|h)|h
   .exact .inl (.inl (.inl h))
   .exact .inl (.inl (.inr h))
   .rw[h];exact .inr rfl
   .exact .inl (.inr h)
  .rcases a with(h|h)|h|h
   .exact .inl (.inl (.inl h))
   .exact .inl (.inl (.inr h))
   .exact .inl (.inr h)
   .rw[h];exact .inr rfl
  .rcases a with((h|h)|h)|h
   .exact .inl (.inl (.inl h))
   .rw[h];exact .inr rfl
   .exact .inl (.inl (.inr h))
   .exact .inl (.inr h)
  .rcases a with((h|h)|h)|h
   .rw[h];exact .inr rfl
   .exact .inl (.inl (.inl h))
   .exact .inl (.inl (.inr h))
   .exact .inl (.inr h)
 rcases b with k|k
 .exact h y k
 .rw[k];exact c
theorem dB{r:Str}{Z:Str->Prop}:∀(ps:List (Str×Str)){q:List AH×List AH×List AH},(∀p∈ps,Z p.2)->(∀y∈q.1++q.2.1++q.2.2,Z y.1)->∀y∈(CK r ps q).1++(CK r ps q).2.1++(CK r ps q).2.2,Z y.1
 | [],_,_,h=>h
 |p::ps,q,hp,h=>dB ps (q:=BL r q p) (λy a=>hp y (DS _ a)) (ZCA (hp p Es) h)
structure Nt (ks:List Kd) (n:Nat) (s:Rn):Prop where
 rl:s.r∈Ct
 wd:∀y∈s.th,y.1∈wk ks
 len:s.th.length<=12+6 * n
theorem ZAr(r:Str)(th:List AH)(i:Nat)(x:AH)(ps:List (Str×Str))(g:Bool)(hi:i<th.length):(FZ r th i x ps g).1.length<=th.length+ps.length:=by
 have:=SS r ps (th.take i,[],th.drop (i+1));unfold Fe at this;simp only[DR,Uw,Qn]at this;unfold FZ;simp only[Bt];have h2:(if g=true then([]:List AH)else[x]).length<=1:=by split <;> simp
 omega
theorem kB(h:B1 s.th=true):(Cj s).th[(Cj s).gap - 1]?=some (AV s,false)/\By s<s.th.length/\(∃b,(AV s,b)∈s.th)/\(Cj s).th.length=s.th.length:=by
 obtain⟨x,hx,_,_⟩:=m8 h;have a:AV s=x:=by unfold AV;rw[hx]
 refine⟨?_,(List.getElem?_eq_some_iff.mp hx).1,⟨true,?_⟩,List.length_modify ..⟩
 .show(s.th.modify (By s) _)[By s+1 - 1]?=_;rw[ZGm,ZGd,hx,a];simp
 .rw[a];exact Bi hx
theorem lX(hk:KG ks)(h:Nt ks n s)(j:B1 s.th=true):Nt ks (n+1) (BS ks s):=by
 obtain⟨_,e,⟨b,l⟩,o⟩:=kB j;have hw:AV s∈wk ks:=h.wd _ l;obtain⟨k,t,v,g,u,m⟩:=hk.at hw;have kp:=hk.ps k m;have f:∀y∈(Cj s).th,y.1∈wk ks:=λy c=>by
  obtain⟨i,hi⟩:=List.getElem?_of_mem c;have hi:(s.th.modify (By s) λx=>(x.1,false))[i]?=some y:=hi;rw[ZGd]at hi;cases q:s.th[i]? with
  |none=>rw[q]at hi;cases hi
  |some z=>
   rw[q]at hi;have a:=h.wd z (Bi q);have:y.1=z.1:=by
    have hi:=BY hi;rw[<- hi];show(if By s=i then _ else _:AH).1=_
    split <;> rfl
   rw[this];exact a
 refine⟨h.rl,λy c=>?_,?_⟩
 .have c:y∈(FZ s.r (Cj s).th (By s) (AV s,false) (BR ks (AV s)) (Dq ks (AV s))).1:=c;unfold FZ at c;have d:=dB (r:=s.r) (Z:=(·∈wk ks)) (BR ks (AV s)) (q:=((Cj s).th.take (By s),[],(Cj s).th.drop (By s+1))) (λp e=>by rw[g]at e;exact(kp.2 p e).2) (λz a=>by
   simp only[CB,MU]at a;rcases a with a|a
   .exact f z (Qq a)
   .exact f z (ZGi a))
  simp only[MU]at c d;rcases c with((h1|h1)|h1)|h1
  .exact d y (.inl (.inl h1))
  .split at h1
   .cases h1
   .rw[List.mem_singleton.mp h1];exact hw
  .exact d y (.inl (.inr h1))
  .exact d y (.inr h1)
 .have:=ZAr s.r (Cj s).th (By s) (AV s,false) (BR ks (AV s)) (Dq ks (AV s)) (by omega);have l1:=h.len;have l2:(BR ks (AV s)).length<=6:=by rw[g];exact kp.1
  show(FZ s.r (Cj s).th (By s) (AV s,false) (BR ks (AV s)) (Dq ks (AV s))).1.length<=_;omega
def WT(l1 l2:Addr)(q:Rn×List Str):OV:=.tp [.nd .lst l1 ((q.2.map PV.str).map .fz),.nd .lst l2 ((Ca q.1.th).map .fz),.fz (.int q.1.AK),.fz (.bl (!B1 q.1.th))]
def Mb(q:Rn×List Str):PV:=.tup [.lst (q.2.map .str),.lst (Ca q.1.th),.int q.1.AK,.bl (!B1 q.1.th)]
theorem jk{l1 l2:Addr}{q:Rn×List Str}:(WT l1 l2 q).pv=Mb q:=by
 unfold WT Mb;simp only[OV.pv,OV.Cs,ZL]
noncomputable def C4(r:Str)(cs:List Str):Rn×List Str:=(⟨r,cs.map λc=>(c,true),0,0⟩,[])
def Vl(C:Addr):Pre:=λl R=>∃(ks:List Kd)(tp:Bool)(cs:List Str)(r:Str)(m:Nat),l=[.is (Ar C ks),.is (M7 tp (cs.map .str)),.is (.str r),.is (.int m)]/\KG ks/\(cs.length<=12/\∀c∈cs,c∈wk ks)/\r∈Ct/\m<=400/\R=.ow λu=>∃l1 l2,u=WT l1 l2 (Bz ks m (C4 r cs))
theorem ZAB{X:Cx}{pos:Pos}:QE X (.Dict [] [] pos) ZC:=⟨λZB s O H Q I h=>
 wpAny_Dict_empty ⟨.ref s.heap.objs.size,_,I.laid (a:=s.heap.objs.size) (o:=.dT []) (t':=s.toks) (λ_ _ q=>CG _ q) (As _) (ZDY s.heap I.big),rfl,h _ (I.AY.fresh (As _))⟩⟩
abbrev Br:=Str×Nat
variable{b:Br}{M:List Br}
def FA(b:Br):List Key:=[.inr b.1,.inl (b.2:Int)]
noncomputable def C2(b:Br):PV:=.tup [.str b.1,.int (b.2:Int)]
theorem ZB0{a:Br}(h:FA a=FA b):a=b:=by
 obtain⟨x,n⟩:=a;obtain⟨y,m⟩:=b;unfold FA at h;injection h with h1 h2
 injection h1 with h1
 injection h2 with h2 _
 injection h2 with h2
 have h1:x=y:=h1;have h2:(n:Int)=(m:Int):=h2;have h2:n=m:=by omega
 rw[h1,h2]
noncomputable def Bp(f:Br->Int)(a:Addr)(M:List Br):OV:=.nd (.J6 (M.map FA)) a (((M.map f).map PV.int).map .fz)
theorem Ts(f:Br->Int)(a:Addr)(M:List Br):(Bp f a M).addrs=[a]:=by
 unfold Bp;rw[OV.DE,Nw];rfl
theorem T5(f:Br->Int)(b:Br):∀M:List Br,EA ((M.map FA).zip ((M.map f).map V.int)) (FA b)=if b∈M then some (.int (f b))else none
 | []=>by rw[pL Ak];rfl
 |c::M=>by
  rw[Ae,Ae,Ae,Im]
  by_cases e:c=b
  .subst e;rw[O5 rfl,pT Es]
  .rw[P6 (λz=>e (ZB0 z)),T5 f b M];have:(b∈c::M)↔b∈M:=⟨λh=>(List.mem_cons.mp h).elim (λz=>absurd z.symm e) id,λh=>DS _ h⟩
   by_cases d:b∈M
   .rw[pT d,pT (this.mpr d)]
   .rw[pL d,pL λz=>d (this.mp z)]
theorem Wr{F:Hp}{v:V}(r:Rep F v (C2 b)):∃c,v=.ref c/\F c=some (.tup ((FA b).map kV)):=by
 obtain⟨c,vs,rfl,e,rr⟩:=r.inv;have a:vs=(FA b).map kV:=(rr.enc (show[PV.str b.1,.int (b.2:Int)].all flat=true from rfl)).trans rfl;rw[a]at e;exact⟨c,rfl,e⟩
section
variable[Xw]
variable{td ty:TE}{k:PV->Prop}{lt:Bool}{t:OV}{K:ZHa}
theorem r6{k:List Nat->OV->Prop}(f:Br->Int)(h:∀a,k [] (Bp f a [])):Wx ss ZC k:=⟨λE O F H Q S q p b=>by
 have m:=S.make b (.dT []);refine q _ [] (Bp f p []) F _ m (.nd (k:=.J6 []) (vs:=[]) BC trivial rfl .nil) (by rw[Ts];simp) (λa c=>?_) (h p);rw[Ts]at c;have e:a=p:=by simpa using c
 subst e;exact⟨S.CA b,S.DU b,.inr b⟩⟩
theorem ZGF(h:Wp ss ty λq=>Wl ss i t td λ_ u=>∃f a M b,u=Bp f a M/\q=C2 b/\k (.bl (!decide (b∈M)))):Wp ss (Tn ty td) k:=⟨λE O F H Q S q=>
 h.go E O F H _ S λv p F1 H1 g l h2=>h2.go E O F1 H1 _ g.st λw p2 u F2 H2 d j B6 AG=>by
  obtain⟨f,a,M,b,o,r,kk⟩:=AG;subst o;subst r;obtain⟨vs,rfl,m,x,y,rr⟩:=j.inv;have n:=(rr.OR).ints;subst n;obtain⟨c,rfl,s⟩:=Wr l;refine⟨a,_,rfl,Ee.t m (d.st.fh _ _ (d.ff _ _ s)),?_⟩;rw[T5];have e:(!(if b∈M then some (V.int (f b))else none).isSome)=!decide (b∈M):=by split <;> simp[*]
  rw[e];exact q _ _ F2 H2 (g.trans d) (.bl _) kk⟩
theorem ZD9(h:Wl ss i t td λ_ u=>∃f a M,u=Bp f a M/\Wp ss ty λq=>∃b,b∈M/\q=C2 b/\k (.int (f b))):Wp ss (S6 td ty) k:=⟨λE O F H Q S q=>
 h.go E O F H _ S λv p u F1 H1 g m h1⟨f,a,M,s,h2⟩=>h2.go E O F1 H1 _ g.st λx p2 F2 H2 d l⟨b,n,e,kk⟩=>by
  subst e;have j:=m.mv g.st h.hi h1 d;subst s;obtain⟨vs,rfl,o,y,z,rr⟩:=j.inv;have r:=(rr.OR).ints;subst r;obtain⟨c,rfl,w⟩:=Wr l;refine⟨a,.int (f b),rfl,?_,q _ _ F2 H2 (g.trans d) (.int _) kk⟩;have:=Ee.t o (d.st.fh _ _ w);rw[T5,pT n]at this;exact this⟩
theorem ZDu{f:Br->Int}(hi:ss[i]?=some (.ow lt (Bp f a M)))(h:Wp ss tv λp=>Wp ss ty λq=>∃b,b∉M/\p=.int (f b)/\q=C2 b/\M.length<=99999/\nx (ss.set i (.ow lt (Bp f a (M++[b]))))):Ws ss (UJ (Au i) ty tv) nx R:=⟨λE D O F H S w σ=>
 h.go E O F H _ S λv p F1 H1 j m h2=>by
  obtain⟨J,e0,s,_,_⟩:=j.st.ok i _ hi;obtain⟨_,d,_⟩:=s.inv;subst d;refine⟨_,e0,h2.go E O F1 H1 _ j.st λI q F2 H2 e r⟨b,g,A,z,N,kk⟩=>?_⟩;subst A;subst z;have d:v=.int (f b):=m.inv;subst d;obtain⟨c,rfl,B⟩:=Wr r;obtain⟨G,Q,o,u,L⟩:=e.st.ok i _ hi;obtain⟨vs,_,x,K,P,rr⟩:=o.inv;have d:=(rr.OR).ints;subst d;have C:((M.map FA).zip ((M.map f).map V.int)).length<=99999:=by rw[Qo,AD,AD,AD];omega
  refine⟨a,_,rfl,Kc.t x (e.st.fh _ _ B) (HK C),?_⟩;rw[L2.Mi _ (by rw[T5,pL g])];have y:(M.map FA).zip ((M.map f).map V.int)++[(FA b,V.int (f b))]=((M++[b]).map FA).zip (((M++[b]).map f).map V.int):=by
   rw[C0,C0,C0,List.zip_append (by rw[AD,AD,AD])];rfl
  rw[y];have l:=e.st.T3 (p:=[]) (n:=Bp f a (M++[b])) (ho:=.dT (((M++[b]).map FA).zip (((M++[b]).map f).map V.int))) hi OV.JR (.nd (k:=.J6 ((M++[b]).map FA)) BC trivial (by show(List.map _ _).length=_;rw[AD,AD,AD]) (Uc (iJ _))) (by rw[Ts];simp) λb g=>.inl (by rw[Ts]at g;rw[OV.DE,Nw];exact g);rw[OV.EF]at l;exact w _ O F2 _ kk l (j.ff.trans e.ff)⟩
theorem jF{pre:Pre}{wi:TI}{L:PV}{Lq:NK}{k:PV->OV->Prop}(I:Nat->OV->Int->Prop)(hi:ss[i]?=some (.ow lt (.nd Lq a0 L5)))(σ:ss[jb]?=some (.is L))
  (h:Wi ss wi λxs=>xs.length<=1000/\I 0 (.nd Lq a0 L5) 0/\(∀n x nk us s,xs[n]?=some x->I n (.nd nk a0 us) s->∃u,pre [.is L,.is x,.ow true (.nd nk a0 us)] (.mt u)/\∀p t',u p t'->∃(m:Int)(ED:NK)(us':List OV),p=.int m/\t'=.nd ED a0 us'/\I (n+1) (.nd ED a0 us') (s+m))/\∀nk us s,I xs.length (.nd nk a0 us) s->k (.int s) (.nd nk a0 us)) :
  Wm ss i lt (.nd Lq a0 L5) (FP (Tr K) (Ah (JY wi [jb,i] Q8 (DK (BM pre) [] E0 (Ah (Au 0) (Ah (Au 2) (Ah (Au 1) BE))))) BE)) k:=⟨λE O F H Q S q=>
 h.go E O F H _ S λJ xs F1 H1 d C⟨hz,i0,st,hk⟩acc B8=>by
  have FV:C6 ss O acc:=d.st.Ic B8;have IP:=d.st.DU B8;have IG:∀(i:Nat)s,ss[i]?=some s->¬ BJ s O[i]? acc:=λi s hi=>d.st.ID hi B8;have Y:=(List.getElem?_eq_some_iff.mp hi).1;obtain⟨vI,eI,rI,ndI,qI⟩:=d.st.ok i _ hi;obtain⟨_,W,_⟩:=rI.inv;subst W;have Q1:jb≠i:=λz=>by subst z;rw[hi]at σ;cases σ
  have X:acc∉(OV.nd Lq a0 L5).addrs:=λz=>IG i _ hi z;have D:∀(T:OV),acc∉T.addrs->∀(n:Nat)s,(ss.set i (.ow lt T))[n]?=some s->¬ BJ s O[n]? acc:=λT hT n s r o=>by
   by_cases c:n=i
   .subst c;rw[DP Y]at r;cases r;exact hT o
   .rw[DH (CC c)]at r;exact IG n s r o
  refine⟨λn m H2=>m=xs.length - n/\n<=xs.length/\∃nk us s ns F2,I n (.nd nk a0 us) s/\List.sum ns=s/\ns.length=n/\Sg E (ss.set i (.ow lt (.nd nk a0 us))) O F2 H2/\AU F1 F2/\F2 acc=none/\H2 acc=some (.lst (ns.map V.int))/\acc∉(OV.nd nk a0 us).addrs/\(∀x∈(OV.nd nk a0 us).addrs,x∈(OV.nd Lq a0 L5).addrs∨H1 x=none)/\(∀a o,C6 ss O a->a∉(OV.nd Lq a0 L5).addrs->H1 a=some o->H2 a=some o)/\(∀a,H1 a≠none->H2 a≠none)/\(∀a o,F2 a=some o->F1 a=some o∨H1 a=none),⟨_,rfl,Cg _,Lq,L5,0,[],F1,i0,rfl,rfl,by rw[set_same hi];exact(d.st.make B8 _).st,AU.refl _,d.st.CA B8,BC,X,λx hx=>.inl hx,λa o _ _ ea=>by rw[An (Di ea B8)];exact ea,λa ea=>by rw[An (λz=>by subst z;exact ea B8)];exact ea,λa o ea=>.inl ea⟩,?_⟩;rintro n m H2⟨rfl,r,nk,us,s,ns,F2,hI,es,en,S2,Ov,zM,U,aT,tT,Xs,OW,mO⟩
  by_cases Ag:n<xs.length
  .refine .inr ⟨C.go _ O F2 H2 n Ov S2 Ag,λx H3 y=>?_⟩;obtain⟨p,F3,hp,g,rp⟩:=C.Ep _ O F2 H2 n x H3 Ov S2 Ag y;unfold Q8;dsimp only;rw[pT rfl];have cK:∀b,C6 ss O b->C6 (ss.set i (.ow lt (.nd nk a0 us))) O b:=λb nb j A=>by
    by_cases c:j=i
    .subst c;rw[DP Y]at A;cases A
    .rw[DH (CC c)]at A;exact nb j A
   have cT:(ss.set i (.ow lt (.nd nk a0 us)))[i]?=some (.ow lt (.nd nk a0 us)):=DP Y;have Z:=g.hh acc _ (cK acc FV) U;have mB:F3 acc=none:=by
    cases e:F3 acc with
    |none=>rfl
    |some o=>
     rcases g.nn acc o e with w|w
     .rw[zM]at w;cases w
     .rw[U]at w;cases w
   obtain⟨u,NQ,kk⟩:=st n p nk us s hp hI;obtain⟨B,eb,rb⟩:=g.st.ok jb (.is L) (by rw[DH (CC Q1)];exact σ);have Pc:Bc [jb,i] O++[some x]=[some B,some (V.ref a0),some x]:=by
    show[(O[jb]?).join,(O[i]?).join]++_=_;rw[eb,eI];rfl
   rw[Pc];refine⟨B,rfl,x,rfl,V.ref a0,rfl,?_⟩;show BM pre ([B,x,V.ref a0]++[]) H3 _ E0;rw[CB];refine⟨_,.mt u,F3,[],(OV.nd nk a0 us).addrs,NQ,g.st.SV cT (.there rb (.there rp (.here eI .nil))),λv F' H' f⟨q',t',rq,ro,Ej,G,kp⟩=>?_⟩;obtain⟨N,ED,us',rfl,rfl,P⟩:=kk q' t' kp;have ev:v=.int N:=rq.inv;subst ev;have m4:=g.st.Sk cT f ro Ej G;have S4:=m4.st;rw[Uy]at S4;have R:H' acc=some (.lst (ns.map V.int)):=f.keep acc _ ⟨Ak,aT⟩ Z;have ko:F' acc=none:=by
    cases e:F' acc with
    |none=>rfl
    |some o=>
     rcases f.fresh acc o e with w|w
     .rw[show F3 acc=some o from w]at mB;cases mB
     .have l:H3 acc=none:=w;rw[Z]at l;cases l
   have Mf:acc∉(OV.nd ED a0 us').addrs:=λz=>by
    rcases(G acc z).2 with w|w
    .have w:H3 acc=none:=w;rw[Z]at w;cases w
    .exact aT w
   have Vo:∀a,H2 a≠none->H3 a≠none:=λa e w=>e (g.none w);have M:∀a,H3 a≠none->H' a≠none:=λa e w=>by
    by_cases c:a∈(OV.nd nk a0 us).addrs
    .exact f.bH a c w
    .cases e2:H3 a with
     |none=>exact e e2
     |some o=>rw[f.keep a o ⟨Ak,c⟩ e2]at w;cases w
   refine⟨_,R,HK (by rw[AD,en];omega),xs.length - (n+1),by omega,rfl,Ag,ED,us',s+N,ns++[N],F',P,by rw[Il,es];simp,by rw[Bt,en];rfl,S4.MD ko (.inl IP) (D _ Mf),Ov.trans (g.ff.trans f.f0),ko,?_,Mf,λz LF=>?_,λa o np t ea=>?_,λa ea=>?_,λa o ea=>?_⟩
   .rw[BC,C0];rfl
   .rcases(G z LF).2 with w|w
    .refine .inr ?_;have l:H3 z=none:=w;cases e:H1 z with
     |none=>rfl
     |some o=>exact absurd l (Vo z (OW z (by rw[e];simp)))
    .exact tT z w
   .rw[An (Di ea B8)];have h3:=g.hh a o (cK a np) (Xs a o np t ea);refine f.keep a o ⟨Ak,λz=>?_⟩ h3;rcases tT a z with w|w
    .exact t w
    .rw[w]at ea;cases ea
   .rw[An (λz=>by subst z;exact ea B8)];exact M a (Vo a (OW a ea))
   .rcases f.fresh a o ea with w|w
    .rcases g.nn a o w with w|w
     .exact mO a o w
     .refine .inr ?_;cases e:H1 a with
      |none=>rfl
      |some o'=>exact absurd w (OW a (by rw[e];simp))
    .refine .inr ?_;have l:H3 a=none:=w;cases e:H1 a with
     |none=>rfl
     |some o'=>exact absurd l (Vo a (OW a (by rw[e];simp)))
  .have e:n=xs.length:=by omega
   subst e;refine .inl ⟨C.stop _ O F2 H2 Ov S2,acc,ns,rfl,AW.of U,?_⟩;rw[es];exact q _ (.int s) (.nd nk a0 us) F2 H2 ⟨S2,d.ff.trans Ov,λa o np t ea=>Xs a o np t (d.hh a o np ea),λa o ea=>(mO a o ea).elim (d.nn a o) λw=>.inr (d.none w)⟩ (.int s) (hk nk us s hI)⟩
theorem uH{c:TT}{tb:TS}(I:Nat->List Slot->Prop)(e:Nat)(p:I e ss)(h:∀m A9,I m A9->∃lt t,A9[i]?=some (.ow lt t)/\gB A9 i lt t c λb t'=>if b=true then Ws (A9.set i (.ow lt t')) tb (λBh=>∃a,a < m/\I a Bh) R else nx (A9.set i (.ow lt t'))):Ws ss (SH c tb) nx R:=⟨λE D O F H S k j=>by
 refine⟨λm σ' H'=>∃A9 F',I m A9/\Sg E A9 σ' F' H'/\AU F F',⟨e,ss,F,p,S,AU.refl _⟩,?_⟩;rintro m σ' H'⟨A9,F',o,S',s'⟩;obtain⟨lt,t,hi,n⟩:=h m A9 o;refine n.go E σ' F' H' _ S' λb t' F1 H1 d w=>?_;cases b with
 |true=>
  rw[pT rfl]at w;refine⟨λσ2 H2=>∃Bh F2,(∃a,a < m/\I a Bh)/\Sg E Bh σ2 F2 H2/\AU F F2,λσ2 H2 AG=>by obtain⟨Bh,F2,⟨a,l,i⟩,b,c⟩:=AG;exact⟨a,l,Bh,F2,i,b,c⟩,?_⟩;exact w.go E _ σ' F1 H1 d.st (λLh σ5 F5 H5 g S5 f=>⟨Lh,F5,g,S5,(s'.trans d.ff).trans f⟩) j
 |false=>
  rw[pL (by decide)]at w;exact k _ σ' F1 H1 w d.st (s'.trans d.ff)⟩
theorem yg{a:Int}{f:Int->Int->Int}(k:ss[j]?=some (.is (.int a)))(h:Wm ss i lt t te λp t'=>∃b,p=.int b/\nx ((ss.set i (.ow lt t')).set j (.is (.int (f a b))))):Ws ss (U2 j te (KR f)) nx R:=⟨λE D O F H S g n=>by
 obtain⟨v,e,r⟩:=S.ok j _ k;cases r.inv;refine⟨_,e,h.go E O F H _ S λm p t' F1 H1 c d⟨b,l,kk⟩=>?_⟩;subst l;cases d.inv;exact⟨a,b,rfl,rfl,g _ _ F1 H1 kk (c.st.EM (.int _)) c.ff⟩⟩
theorem ZEq{k:PV->OV->Prop}{g:Int->Int->Bool}{a:Int}(f:ss[j]?=some (.is (.int a)))(h:Wm ss i lt t tb λp t'=>∃b,p=.int b/\k (.bl (g a b)) t'):Wm ss i lt t (BZ (GR λi j=>.bl (g i j)) (Au j) tb) k:=⟨λE O F H Q S q=>by
 obtain⟨v,e,r⟩:=S.ok j _ f;cases r.inv;refine⟨_,e,h.go E O F H _ S λm p t' F1 H1 d c⟨b,l,kk⟩=>?_⟩;subst l;cases c.inv;exact⟨a,b,rfl,rfl,q _ _ t' F1 H1 d (.bl _) kk⟩⟩
theorem ZEX(h:Wm ss i lt t te λp _=>k p):Ws ss (IA te) nx (.is k):=⟨λE D O F H S c b=>
 h.go E O F H _ S λv p t' F1 H1 a r kk=>b v F1 H1 a.st.toFin ⟨p,r,kk⟩⟩
end
theorem ZEa(p q:Str×Str)(h:B4 p=B4 q):p=q:=by
 obtain⟨a,b⟩:=p;obtain⟨c,d⟩:=q;unfold B4 at h;injection h with h
 injection h with h1 h2
 injection h2 with h2 _
 injection h1 with h1
 injection h2 with h2
 have h1:a=c:=h1;have h2:b=d:=h2;rw[h1,h2]
theorem cE:∀{l:List Str},¬ l.Nodup->∃(i j:Nat)(x:Str),i<j/\l[i]?=some x/\l[j]?=some x
 | [],h=>absurd HA h
 |a::l,h=>by
  by_cases c:a∈l
  .obtain⟨j,b,e⟩:=DQ c;exact⟨0,j+1,a,by omega,rfl,by rw[ZGb,AX b,e]⟩
  .obtain⟨i,j,x,h1,h2,d⟩:=cE (l:=l) λz=>h (List.nodup_cons.mpr ⟨c,z⟩);exact⟨i+1,j+1,x,by omega,h2,d⟩
noncomputable def P1(g:Str->Str)(x:Str):Nat->Str
 | 0=>x
 |n+1=>g (P1 g x n)
theorem sink(q:x0∈S)(h:∀x∈S,∃y,y∈f x/\y∈S):∃x∈S,Be f (f x) x:=by
 have k:∀x,∃y,x∈S->y∈f x/\y∈S:=λx=>by
  by_cases c:x∈S
  .obtain⟨y,b⟩:=h x c;exact⟨y,λ_=>b⟩
  .exact⟨x,λz=>absurd z c⟩
 let g:Str->Str:=λx=>Classical.choose (k x)
 have e:∀x∈S,g x∈f x/\g x∈S:=λx hx=>nD (k x) hx;have is:∀n,P1 g x0 n∈S:=λn=>by
  induction n with
  |zero=>exact q
  |succ n a=>exact(e _ a).2
 have nn:¬ ((List.range (S.length+1)).map (P1 g x0)).Nodup:=λnd=>by
  have:=G2 nd (bs:=S) λy b=>by
   obtain⟨n,_,rfl⟩:=List.mem_map.mp b;exact is n
  rw[AD,Kl]at this;omega
 obtain⟨i,j,x,GC,m,l⟩:=cE nn;rw[Aj]at m l;obtain⟨v,s,rfl⟩:=Option.map_eq_some_iff.mp m;obtain⟨u,r,t⟩:=Option.map_eq_some_iff.mp l;have hi:=(List.getElem?_eq_some_iff.mp s);have p:=(List.getElem?_eq_some_iff.mp r);obtain⟨Xc,EK⟩:=hi;obtain⟨o,LY⟩:=p;rw[ZGf]at EK LY;subst EK;subst LY;refine⟨_,is i,?_⟩;have go:∀d,Be f (f (P1 g x0 i)) (P1 g x0 (i+1+d)):=λd=>by
  induction d with
  |zero=>exact .here (e _ (is i)).1
  |succ d a=>exact .step a (e _ (is (i+1+d))).1
 have:=go (j - i - 1);rw[show i+1+(j - i - 1)=j from by omega,t]at this;exact this
theorem xx{ws:List Str}(hw:∀x,Be f cs x->x∈ws)(h:¬ Fi f cs):∃T,Top f T/\T.Nodup/\(∀y∈T,Be f cs y)/\∀x,Be f cs x->x∈T:=by
 have go:∀n,∃T,Top f T/\T.Nodup/\(∀y∈T,Be f cs y)/\(n<=T.length∨∀x,Be f cs x->x∈T):=λn=>by
  induction n with
  |zero=>exact⟨[],Top.nil,HA,λ_ h=>absurd h Ak,.inl (As _)⟩
  |succ n m=>
   obtain⟨T,b,nd,sub,g⟩:=m
   by_cases c:∀x,Be f cs x->x∈T
   .exact⟨T,b,nd,sub,.inr c⟩
   have g:n<=T.length:=g.elim id λz=>absurd z c;obtain⟨x0,j⟩:=Classical.not_forall.mp c;obtain⟨k,n0⟩:=Classical.not_imp.mp j;haveI:DecidablePred λx=>Be f cs x/\x∉T:=λ_=>Classical.propDecidable _;have e:∀x,x∈ws.filter (λx=>decide (Be f cs x/\x∉T))↔Be f cs x/\x∉T:=λx=>by
    rw[List.mem_filter,sP];exact⟨λh=>h.2,λh=>⟨hw x h.1,h⟩⟩
   by_cases d:∀x∈ws.filter (λx=>decide (Be f cs x/\x∉T)),∃y,y∈f x/\y∈ws.filter (λx=>decide (Be f cs x/\x∉T))
   .obtain⟨x,hx,rr⟩:=sink ((e x0).mpr ⟨k,n0⟩) d;exact absurd ⟨x,((e x).mp hx).1,rr⟩ h
   .obtain⟨x,hx⟩:=Classical.not_forall.mp d;obtain⟨o,ZN⟩:=Classical.not_imp.mp hx;obtain⟨i,nx⟩:=(e x).mp o;refine⟨T++[x],b.snoc λy a=>?_,PN nd nx,λy a=>?_,.inl (by rw[Bt,Ij];omega)⟩
    .refine Classical.byContradiction λl=>ZN ⟨y,a,(e y).mpr ⟨.step i a,l⟩⟩
    .rcases List.mem_append.mp a with z|z
     .exact sub y z
     .rw[List.mem_singleton.mp z];exact i
 obtain⟨T,b,nd,sub,g⟩:=go (ws.length+1);refine⟨T,b,nd,sub,g.elim (λz=>?_) id⟩;have:=G2 nd (bs:=ws) λy a=>hw y (sub y a);omega
noncomputable def EB(r:Str)(ps:List (Str×Str)):List (Str×Str):=if r="none" then[]else ps.filter λp=>decide (r="all") || decide (p.1∈Dd)
theorem gM(h:ns≠[])(B:Int):GJ ns<=B↔∀y∈ns,y<=B:=by
 obtain⟨h1,h2⟩:=Mz ns h;exact⟨λh y a=>Int.le_trans (h2 y a) h,λh=>h _ h1⟩
theorem dN(h:∀z∈l,z<=B):l.sum<=l.length * B:=by
 induction l with
 |nil=>simp
 |cons a l b=>
  have h1:=h a (by simp);have h2:=b λz c=>h z (by simp[c]);rw[Cf,CH,Int.natCast_add,Int.add_mul];omega
theorem iM{ks:List Kd}(g:KG ks)(r:Str):∀(n:Nat)(x:Str),∀c∈D5 ks r n x,c<=7 ^ n
 | 0,x,c,hc=>by
  rw[D5]at hc;obtain⟨_,_,rfl⟩:=List.mem_map.mp hc;decide
 |n+1,x,c,hc=>by
  rw[D5]at hc;unfold Gv at hc;obtain⟨j,_,rfl⟩:=List.mem_map.mp hc;have b:=ZAl g r x;have pos:(1:Int)<=7 ^ n:=by
   have:(0:Int)<7 ^ n:=Int.pow_pos (by decide);omega
  have h1:((Ai ks r x).map λy=>(D5 ks r n y).getD j 0).sum<=((Ai ks r x).map λy=>(D5 ks r n y).getD j 0).length * 7 ^ n:=dN λz a=>by
   obtain⟨y,_,rfl⟩:=List.mem_map.mp a;rw[DN];cases e:(D5 ks r n y)[j]? with
   |none=>show(0:Int)<=_;omega
   |some v=>exact iM g r n y v (Bi e)
  rw[AD]at h1;have h2:((Ai ks r x).length:Int) * 7 ^ n<=6 * 7 ^ n:=Int.mul_le_mul_of_nonneg_right (by omega) (by omega);have d:(7:Int) ^ (n+1)=7 * 7 ^ n:=by rw[Int.pow_succ,Int.mul_comm]
  split <;> omega
theorem tU(g:KG ks){x:Str}(h:c∈cnt ks r x):c<=40353607:=by
 have:=iM g r fuel x c h;rw[Ta]at this;exact this
noncomputable def totC(ks:List Kd)(r:Str)(cs:List Str):List Int:=(List.range ks.length).map λj=>(cs.map λc=>(cnt ks r c).getD j 0).sum
noncomputable def IV(ks:List Kd)(r:Str)(cs:List Str):Int:=GJ (0::cs.map (AK ks r))
def pin(ks:List Kd)(x y:Str):Int:=(((BR ks x).map (·.2)).count y:Nat)
def Qc(ks:List Kd)(cs:List Str)(C:List Int)(j:Nat)(w:Str):Int:=(cs.count w:Nat)+(((wk ks).zip C).map λq=>q.2 * pin ks q.1 w).sum - (if Dq ks w=true then C.getD j 0 else 0)
noncomputable def Hx(ks:List Kd)(cs:List Str)(C:List Int):List Int:=(List.range ks.length).map λj=>Qc ks cs C j ((wk ks).getD j Str.empty)
noncomputable def ZCg(A:List Int)(n:Int)(B:List Int):PV:=.tup [.tup (A.map .int),.int n,.tup (B.map .int)]
noncomputable def ZFW(ks:List Kd)(r:Str)(cs:List Str):PV:=ZCg (totC ks r cs) (IV ks r cs) (Hx ks cs (totC ks r cs))
theorem RO(ks:List Kd)(r:Str)(cs:List Str):(totC ks r cs).length=ks.length:=by unfold totC;rw[AD,Kl]
theorem aY(ks:List Kd)(cs:List Str)(C:List Int):(Hx ks cs C).length=ks.length:=by unfold Hx;rw[AD,Kl]
theorem iV{C:List Int}(h:(wk ks)[j]?=some w):(Hx ks cs C)[j]?=some (Qc ks cs C j w):=by
 have a:=(List.getElem?_eq_some_iff.mp h).1;rw[AD]at a;unfold Hx;rw[Aj,Kk a];show some (Qc ks cs C j ((wk ks).getD j Str.empty))=_;rw[DN,h];rfl
theorem ZBK(ks:List Kd)(x y:Str):((((BR ks x).filter λp=>decide (p.2=y)).map B4).length:Int)=pin ks x y:=by
 unfold pin;rw[AD,List.count_eq_countP,List.countP_map,List.countP_eq_length_filter]
 congr 2
theorem uS(g:KG ks)(x y:Str):0<=pin ks x y/\pin ks x y<=6:=by
 unfold pin;have h1:=(g.Ip x).1;have h2:((BR ks x).map (·.2)).count y<=((BR ks x).map (·.2)).length:=List.count_le_length
 rw[AD]at h2;omega
noncomputable def mr(ks:List Kd)(w:Str):PV->PV
 | .tup [.str o,.int m]=>.int (m * pin ks o w)
 |_=>.AE
theorem c6(ks:List Kd)(w:Str):∀(W:List Str)(A:List Int),(Fo (W.map .str) (A.map .int)).map (mr ks w)=((W.zip A).map λq=>q.2 * pin ks q.1 w).map PV.int
 | [],_=>by simp[Fo]
 |_::_,[]=>by simp[Fo]
 |a::W,b::A=>by
  have c:=c6 ks w W A;unfold Fo at c ⊢;rw[Ae,Ae,List.zipWith_cons_cons,Ae,c,Im,Ae,Ae];rfl
theorem ZAm{a b:Int}(h1:0<=a)(h2:a<=10 ^ 15)(d:0<=b)(c:b<=10 ^ 15):L2.jC a b:=
 ⟨Ko (show a.natAbs<=10 ^ 15 by omega) (by decide +kernel),Ko (show b.natAbs<=10 ^ 15 by omega) (by decide +kernel)⟩
theorem ye(g:KG ks)(d:cs.length<=12)(h:c∈totC ks r cs):0<=c/\c<=10 ^ 12:=by
 unfold totC at h;obtain⟨j,_,rfl⟩:=List.mem_map.mp h;have b:∀z∈cs.map λc=>(cnt ks r c).getD j 0,0<=z/\z<=40353607:=λz d=>by
  obtain⟨y,_,rfl⟩:=List.mem_map.mp d;rw[DN];cases e:(cnt ks r y)[j]? with
  |none=>exact⟨Ii _,by decide⟩
  |some v=>exact⟨ed (Bi e),tU g (Bi e)⟩
 have h1:=dN (B:=40353607) λz d=>(b z d).2;rw[AD]at h1;have h2:∀{l:List Int},(∀z∈l,0<=z)->0<=l.sum:=λ{l}=>by
  induction l with
  |nil=>intro _;exact Ii _
  |cons a l f=>
   intro q;have:=q a (by simp);have:=f λz d=>q z (by simp[d]);rw[Cf];omega
 exact⟨h2 λz d=>(b z d).1,by omega⟩
theorem rH(d:∀c∈cs,0<=AK ks r c)(h:cs.map (AK ks r)=[]/\m=0∨m∈cs.map (AK ks r)/\∀y∈cs.map (AK ks r),y<=m):m=IV ks r cs:=by
 unfold IV;obtain⟨a,f⟩:=Mz (0::cs.map (AK ks r)) (by simp);rcases h with⟨e,rfl⟩|⟨h1,h2⟩
 .rw[e]at a ⊢;rw[List.mem_singleton.mp a]
 .have g:=f m (DS _ h1);rcases List.mem_cons.mp a with e|e
  .obtain⟨y,b,rfl⟩:=List.mem_map.mp h1;have:=d y b;omega
  .have:=h2 _ e;omega
def Yk(C:Addr):Pre:=λl R=>∃(ks:List Kd)(x y:Str),l=[.is (Ar C ks),.is (.str x),.is (.str y)]/\KG ks/\x∈wk ks/\R=.is (λp=>p=.int (pin ks x y))
def bA(C:Addr):Pre:=λl R=>∃(ks:List Kd)(tp:Bool)(cs:List Str)(A:List Int),l=[.is (Ar C ks),.sq tp (cs.map .str),.is (.lst (A.map .int))]/\KG ks/\cs.length<=12/\A.length=ks.length/\(∀c∈A,0<=c/\c<=10 ^ 12)/\R=.is (λp=>p=.tup ((Hx ks cs A).map .int))
def Ur(C:Addr):Pre:=λl R=>∃(ks:List Kd)(tp:Bool)(cs:List Str)(r:Str),l=[.is (Ar C ks),.sq tp (cs.map .str),.is (.str r)]/\KG ks/\r∈Ct/\cs.length<=12/\(∀c∈cs,c∈wk ks)/\¬ Fi (Ai ks r) cs/\R=.is (λp=>p=.AE)
def Xa(C:Addr):Pre:=λl R=>∃(ks:List Kd)(tp:Bool)(cs:List Str)(r:Str),l=[.is (Ar C ks),.sq tp (cs.map .str),.is (.str r)]/\KG ks/\r∈Ct/\cs.length<=12/\(∀c∈cs,c∈wk ks)/\¬ Fi (Ai ks r) cs/\R=.is (λp=>p=ZFW ks r cs)
noncomputable def FE(ks:List Kd)(x pl:Str):List Str:=((BR ks x).filter λp=>decide (p.1=pl)).map (·.2)
def Bg(ks:List Kd)(b:Br):List Br:=(if b.2=0 then[]else(FE ks b.1 "last").map λy=>(y,b.2 - 1))++(FE ks b.1 "next").map λy=>(y,b.2)
theorem RP{x:Str}(a:pl∈Dd)(h:y∈FE ks x pl):y∈Ai ks "ahead" x:=by
 obtain⟨p,T8,rfl⟩:=List.mem_map.mp h;obtain⟨h1,h2⟩:=List.mem_filter.mp T8;refine List.mem_map.mpr ⟨p,?_,rfl⟩;unfold CP;rw[pL (by decide +kernel)];refine List.mem_filter.mpr ⟨h1,?_⟩;rw[qB h2,pf a,Bool.or_true]
theorem SK(g:KG ks)(x pl:Str):(FE ks x pl).length<=6:=by
 unfold FE;rw[AD];exact Eb (Ux _ _) (g.Ip x).1
theorem IZ{c:Br}(h:c∈Bg ks b):c.1∈Ai ks "ahead" b.1/\c.2<=b.2:=by
 unfold Bg at h;rcases List.mem_append.mp h with h|h
 .split at h
  .cases h
  .obtain⟨y,a,rfl⟩:=List.mem_map.mp h;exact⟨RP (by decide +kernel) a,Nat.sub_le _ _⟩
 .obtain⟨y,a,rfl⟩:=List.mem_map.mp h;exact⟨RP (by decide +kernel) a,As _⟩
theorem ju(g:KG ks)(b:Br):(Bg ks b).length<=12:=by
 unfold Bg;rw[Bt,AD];have h1:=SK g b.1 "next"
 have h2:=SK g b.1 "last";split
 .rw[Qn];omega
 .rw[AD];omega
def IK(ks:List Kd)(b:Br)(g:Br->Int):Int:=((Bg ks b).map g).sum+if b.2=0 then 1 else 0
def wF(ks:List Kd):Nat->Br->Int
 | 0=>λ_=>0
 |n+1=>λb=>IK ks b (wF ks n)
theorem dR{g g':Br->Int}(h:∀c∈Bg ks b,g c=g' c):IK ks b g=IK ks b g':=by
 unfold IK;rw[Ik h]
theorem KU{x:Str}(h:Top f T)(hx:T[i]?=some x)(b:y∈f x):∃j,j<i/\T[j]?=some y:=by
 obtain⟨j,c,a⟩:=DQ (h i x hx y b);rw[DR]at c;rw[Nz]at a;exact⟨j,by omega,by rw[AX (by omega),a]⟩
theorem zR(h:Top (Ai ks "ahead") T):∀(i:Nat)(b:Br),T[i]?=some b.1->∀n m,i<n->i<m->wF ks n b=wF ks m b:=by
 intro i
 induction i using Nat.strongRecOn with
 |_ i a=>
  intro b hx n m g k;cases n with
  |zero=>omega
  |succ n=>cases m with
   |zero=>omega
   |succ m=>
    rw[wF,wF];refine dR λc e=>?_;obtain⟨j,d,f⟩:=KU h hx (IZ e).1;exact a j d c f n m (by omega) (by omega)
noncomputable def wv(ks:List Kd)(b:Br):Int:=wF ks fuel b
theorem Se(h:Top (Ai ks "ahead") T)(n:T.length<=8)(hx:b.1∈T):wv ks b=IK ks b (wv ks):=by
 obtain⟨i,hi,e⟩:=DQ hx;have g:T[i]?=some b.1:=by rw[AX hi,e]
 have l:=Ta;obtain⟨m,a⟩:∃m,m+1=fuel:=⟨8,by omega⟩;have q:wv ks b=wF ks (m+1) b:=by unfold wv;rw[a]
 rw[q,wF];refine dR λc d=>?_;obtain⟨j,k,f⟩:=KU h g (IZ d).1;exact zR h j c f m fuel (by omega) (by omega)
theorem jB(h:Top (Ai ks "ahead") T)(g:T.length<=8):∀(i:Nat)(b:Br),T[i]?=some b.1->i<b.2->wv ks b=0:=by
 intro i
 induction i using Nat.strongRecOn with
 |_ i d=>
  intro b hx hd;rw[Se h g (Bi hx)];unfold IK;rw[pL (by omega),nE];have:∀c∈Bg ks b,wv ks c=0:=λc a=>by
   obtain⟨j,f,k⟩:=KU h hx (IZ a).1;refine d j f c k ?_;unfold Bg at a;rcases List.mem_append.mp a with a|a
   .split at a
    .cases a
    .obtain⟨y,e,rfl⟩:=List.mem_map.mp a;show j<b.2 - 1;omega
   .obtain⟨y,e,rfl⟩:=List.mem_map.mp a;show j<b.2;omega
  rw[Ik this]
  induction Bg ks b with
  |nil=>rfl
  |cons c r Kw=>rw[Ae,Cf];omega
noncomputable def pick(g:Br->Int):List Br->Int->Option (Br×Int)
 | [],_=>none
 |b::r,n=>if n<g b then some (b,n)else pick g r (n - g b)
theorem VN{g:Br->Int}:∀{bs:List Br}{n:Int},0<=n->n<(bs.map g).sum->∃b m,pick g bs n=some (b,m)/\b∈bs/\0<=m/\m<g b
 | [],n,h0,h1=>by simp at h1;omega
 |b::r,n,h0,h1=>by
  rw[pick]
  by_cases c:n<g b
  .rw[pT c];exact⟨b,n,rfl,by simp,h0,c⟩
  .rw[pL c];rw[Ae,Cf]at h1;obtain⟨e,m,h2,d,a⟩:=VN (g:=g) (bs:=r) (n:=n - g b) (by omega) (by omega);exact⟨e,m,h2,by simp[d],a⟩
noncomputable def Fc(ks:List Kd):Nat->List Br->Int->Str
 | 0=>λ_ _ => ""
 |f+1=>λbs n=>match pick (wv ks) bs n with
  |none => ""
  |some q=>if q.1.2=0 then(if q.2=0 then q.1.1 else Fc ks f (Bg ks q.1) (q.2 - 1))else Fc ks f (Bg ks q.1) q.2
theorem lK{f:Nat}{bs:List Br}{n:Int}(h:pick (wv ks) bs n=some (b,m)):Fc ks (f+1) bs n=if b.2=0 then(if m=0 then b.1 else Fc ks f (Bg ks b) (m - 1))else Fc ks f (Bg ks b) m:=by
 show(match pick (wv ks) bs n with
  |none=>("":Str)
  |some q=>if q.1.2=0 then(if q.2=0 then q.1.1 else Fc ks f (Bg ks q.1) (q.2 - 1))else Fc ks f (Bg ks q.1) q.2)=_
 rw[h]
noncomputable def tot(ks:List Kd)(cs:List Str)(d:Nat):Int:=(cs.map λc=>wv ks (c,d)).sum
noncomputable def Gq(ks:List Kd)(cs:List Str):Nat->Nat->Int->Option Str
 | 0=>λ_ _=>none
 |c+1=>λd n=>if n<tot ks cs d then some (Fc ks 9 (cs.map λx=>(x,d)) n)else Gq ks cs c (d+1) (n - tot ks cs d)
theorem Pn(ks:List Kd)(cs:List Str)(c d:Nat)(n:Int):Gq ks cs (c+1) d n=if n<tot ks cs d then some (Fc ks 9 (cs.map λx=>(x,d)) n)else Gq ks cs c (d+1) (n - tot ks cs d):=rfl
theorem ZH{ks:List Kd}{cs:List Str}:∀(c e d:Nat)(n:Int),0<=n->(∀d',d+c<=d'->tot ks cs d'=0)->Gq ks cs (c+e) d n=Gq ks cs c d n
 | 0,0,d,n,_,_=>rfl
 | 0,e+1,d,n,h0,h=>by
  rw[Qw,Pn,h d (by omega),pL (by omega),Int.sub_zero];have:=ZH (ks:=ks) (cs:=cs) 0 e (d+1) n h0 λd' hd=>h d' (by omega);rw[Qw]at this;rw[this];rfl
 |c+1,e,d,n,h0,h=>by
  rw[show c+1+e=(c+e)+1 by omega,Pn,Pn]
  by_cases k:n<tot ks cs d
  .rw[pT k,pT k]
  .rw[pL k,pL k];exact ZH c e (d+1) _ (by omega) λd' hd=>h d' (by omega)
theorem qJ(h:Top (Ai ks "ahead") T)(f:T.length<=8)(a:∀c∈cs,c∈T)(hd:T.length<=d):tot ks cs d=0:=by
 unfold tot;have:∀c∈cs,wv ks (c,d)=0:=λc b=>by
  obtain⟨i,hi,e⟩:=DQ (a c b);exact jB h f i (c,d) (by rw[AX hi,e]) (by show i<d;omega)
 rw[Ik this];clear this a
 induction cs with
 |nil=>rfl
 |cons c r Kw=>rw[Ae,Cf];omega
structure G3 (T:List Str) (M:List Br):Prop where
 nd:M.Nodup
 sub:∀c∈M,c.1∈T/\c.2<=8
theorem bZ:∀{as bs:List Br},as.Nodup->(∀x∈as,x∈bs)->as.length<=bs.length
 | [],_,_,_=>Cg _
 |a::as,bs,nd,h=>by
  obtain⟨h1,h2⟩:=List.nodup_cons.mp nd;have b:=h a Es;have q:=bZ (bs:=bs.erase a) h2 λx hx=>(nX (λe:x=a=>h1 (by rw[<- e];exact hx))).mpr (h x (DS _ hx));have e:=nU b;have p:=nW b;simp only[CH];omega
theorem G3.len(h:G3 T M)(f:T.length<=8):M.length<=72:=by
 have a:∀c∈M,c∈(T.flatMap λx=>(List.range 9).map λd=>((x,d):Br)):=λc e=>by
  obtain⟨h1,h2⟩:=h.sub c e;exact List.mem_flatMap.mpr ⟨c.1,h1,List.mem_map.mpr ⟨c.2,List.mem_range.mpr (by omega),rfl⟩⟩
 have h1:=bZ h.nd a;have h2:(T.flatMap λx=>(List.range 9).map λd=>((x,d):Br)).length=T.length * 9:=by
  clear h a h1 f
  induction T with
  |nil=>rfl
  |cons x r b=>rw[Kj,Bt,b,AD,Kl,CH];omega
 omega
def L8(C:Addr):Pre:=λl R=>∃(ks:List Kd)(b:Br),l=[.is (Ar C ks),.is (C2 b)]/\KG ks/\b.1∈wk ks/\R=.new λxs=>xs=(Bg ks b).map C2
def Hy(C:Addr)(n:Nat):Pre:=λl R=>∃(ks:List Kd)(b:Br)(T:List Str)(i:Nat)(M:List Br)(a:Addr),l=[.is (Ar C ks),.is (C2 b),.ow true (Bp (wv ks) a M)]/\KG ks/\Top (Ai ks "ahead") T/\T.Nodup/\(∀y∈T,y∈wk ks)/\(T[i]?=some b.1/\i<n/\b.2<=8)/\G3 T M/\
 R=.mt λp t'=>p=.int (wv ks b)/\∃M',t'=Bp (wv ks) a M'/\G3 T M'/\(∀c∈M,c∈M')/\∀c∈M',c∈M∨∃j,T[j]?=some c.1/\j<=i
theorem kJ:∀ss R,¬ Hy C 0 ss R:=by
 rintro ss R⟨ks,b,T,i,M,a,_,_,_,_,_,⟨_,h,_⟩,_⟩;omega
def Jv(C:Addr)(n:Nat):Pre:=λl R=>∃(ks:List Kd)(bs:List Br)(m:Int)(T:List Str)(M:List Br)(a:Addr),l=[.is (Ar C ks),.is (.lst (bs.map C2)),.is (.int m),.ow true (Bp (wv ks) a M)]/\KG ks/\Top (Ai ks "ahead") T/\T.Nodup/\(∀y∈T,y∈wk ks)/\(bs.length<=12/\∀b∈bs,(∃i,T[i]?=some b.1/\i<n)/\b.2<=8)/\(0<=m/\m<(bs.map (wv ks)).sum)/\G3 T M/\
 R=.mt λp t'=>p=.str (Fc ks n bs m)/\∃M',t'=Bp (wv ks) a M'/\G3 T M'
theorem eE:∀ss R,¬ Jv C 0 ss R:=by
 rintro ss R⟨ks,bs,m,T,M,a,_,_,_,_,_,⟨_,h⟩,⟨d,h1⟩,_⟩;obtain⟨b,_,_,c,_⟩:=VN d h1;obtain⟨⟨_,_,z⟩,_⟩:=h b c;omega
section
variable[Xw]{K:ZHa}{k:PV->Prop}
theorem az(h:ss[j]?=some (.is (C2 b)))(hk:k (.str b.1)):Wp ss (BZ (D1 K) (Au j) (tC (.int 0))) k:=BK (BO h ⟨rfl,Af ⟨_,_,rfl,rfl,hk⟩⟩)
theorem Pm(h:ss[j]?=some (.is (C2 b)))(hk:k (.int (b.2:Int))):Wp ss (BZ (D1 K) (Au j) (tC (.int 1))) k:=BK (BO h ⟨rfl,Af ⟨_,_,rfl,rfl,hk⟩⟩)
theorem eQ(h:ss[j]?=some (.is (B4 p)))(hk:k (.str p.1)):Wp ss (BZ (D1 K) (Au j) (tC (.int 0))) k:=BK (BO h ⟨rfl,Af ⟨_,_,rfl,rfl,hk⟩⟩)
theorem iu(h:ss[j]?=some (.is (B4 p)))(hk:k (.str p.2)):Wp ss (BZ (D1 K) (Au j) (tC (.int 1))) k:=BK (BO h ⟨rfl,Af ⟨_,_,rfl,rfl,hk⟩⟩)
end
theorem aj(c:alike (.int (n:Int)) (.int 0)=true):n=0:=by
 have:(n:Int)=0:=by simpa[alike]using c
 omega
theorem iI(x y:Str):alike (.str x) (.str y)=decide (x=y):=by
 rw[Kg,sP];simp[alike]
theorem gO{x:Str}(d:Nat):((BR ks x).filter λp=>decide (p.1=pl)).map (λp=>C2 (p.2,d))=((FE ks x pl).map λy=>((y,d):Br)).map C2:=by
 unfold FE;rw[Bu,Bu];rfl
def GH(ks:List Kd)(r:Str)(cs T:List Str):Prop:=Top (Ai ks r) T/\T.Nodup/\(∀y∈T,y∈wk ks)/\∀c∈cs,c∈T
theorem GH.len(h:GH ks r cs T):T.length<=ks.length:=by
 have:=G2 h.2.1 h.2.2.1;rw[AD]at this;exact this
theorem GH.l8(g:KG ks)(h:GH ks r cs T):T.length<=8:=Eb h.len g.l8
theorem GH.NU(h:GH ks r cs T):¬ Fi (Ai ks r) cs:=qY h.1 h.2.1 h.2.2.2
theorem kZ(g:KG ks)(h:GH ks "ahead" cs T){n:Int}(a:0<=n):Gq ks cs ks.length 0 n=Gq ks cs 9 0 n:=by
 have l8:=g.l8;have:=ZH (ks:=ks) (cs:=cs) ks.length (9 - ks.length) 0 n a λd' hd=>qJ h.1 (h.l8 g) h.2.2.2 (by have:=h.len;omega);rw[show ks.length+(9 - ks.length)=9 by omega]at this;exact this.symm
end Fz
namespace L2
section
variable{X:Cx}
def lI(K:ZHa):List V->Hp->VK->Prop:=λxs H Q=>∃(p:Addr)(ss:List Int),xs=[.ref p]/\B7 K H p (ss.map V.int)/\Q (.int ss.sum) H
theorem ZFx(z:X.calm=true):Du X (.builtin "sum") (lI X.K):=by
 intro ZB s O H xs us Q I r h;obtain⟨p,ss,rfl,x,q⟩:=h;obtain⟨u,rfl,o⟩:=vals1 r;cases o;obtain⟨A5,g,pl,D⟩:=I.tuple x;have j:=g.length;rw[AD]at j;obtain⟨⟨c,d,G,C⟩,ho,IL,n,FQ⟩:=id pl;simp only at IL FQ;subst IL;subst FQ;have B:s.heap.IsTuple p A5.toArray:=⟨_,ho,rfl,n,rfl⟩
 let xs:Array (Int×Tok):=(ss.map λa=>(a,(default:Tok))).toArray
 have hsz:A5.toArray.size=ss.length:=List.size_toArray.trans j.symm;refine call_sum_walkAnyS (yP B ?_);refine⟨s.heap.objs.size,_,_,_,_,_,_,numAt xs,rfl,(Walks.tuple (prog:=X.prog) (w:=X.w) (A:=X.A.in1) (by rw[Around.in1_handled];exact I.ok.hd z) s.heap.objs.size p (D6 (BH ho)) A5.toArray).toS,⟨⟨_,Co _ rfl,rfl,rfl⟩,?_⟩,?_,λi v e=>?_,λs' t' m=>?_⟩
 .exact⟨_,CG _ ho,rfl,n,rfl⟩
 .intro b f;have y:=BH ho;show b<(s.heap.objs.push _).size;rw[Array.size_push];rcases List.mem_cons.mp f with rfl|f
  .exact V0 _
  .rw[List.mem_singleton.mp f];exact nj y
 .obtain⟨hi,t,rfl⟩:=oW g (i:=i) (by simpa using e)
  refine⟨t,?_⟩
  congr 1
  show _=((xs[i]?).map (·.1)).getD 0
  simp[xs,AX hi]
 .rw[hsz,preSum_eq,Jh (by simp[xs])];have es:(xs.toList.map (·.1))=ss:=by simp[xs,Bu,Function.comp_def]
  rw[es];obtain⟨h1,h2,l,k,E⟩:=m;obtain⟨NQ,F,J,tk,os⟩:=s';simp only at h1 h2 l k;subst h2;subst l;subst k;exact⟨.int _,H,I.kept (t':=tk) λb ob e=>h1 b ob (by simpa using D6 (BH e)) (CG _ e),⟨t',rfl⟩,q⟩
end
end L2
namespace Fz
open L2 Lw
variable{i j n:Nat}{Q S S' T cs l:List Str}{s:Rn}{ks:List Kd}{r w x y:Str}{f:Str->List Str}
section
variable[Xw]
variable{ss:List Slot}{K:ZHa}{te:TE}{k:PV->Prop}
theorem uC(h:Wq ss te λtp xs=>tp=true/\∃ns:List Int,xs=ns.map PV.int/\k (.int ns.sum)):Wp ss (FP (lI K) (Ah te BE)) k:=⟨λE O F H Q S q=>
 h.go E O F H _ S λv tp xs F1 H1 a sv AG=>by
  obtain⟨c,ns,e,kk⟩:=AG;subst c;subst e;obtain⟨l,vs,rfl,b,r⟩:=sv.seq a.st;rw[r.ints]at b;exact⟨l,ns,rfl,B7.of b,q _ _ F1 H1 a (.int _) kk⟩⟩
theorem uY{tk:TE}{sc:List Int}(hi:ss[i]?=some (.raw (KC K sc)))(h:Wp ss tk λx=>∃m,x=.int m/\0<=m/\m<=1000/\Wp ss te λy=>∃n,y=.int n/\0<n/\n<10 ^ 18/\∀r:Int,0<=r->r<n->k (.int r)):
  Wp ss (DK K8 [] E0 (Ah (DK (Pj K) [] E0 (Ah (Au i) (Ah tk BE))) (Ah te BE))) k:=⟨λE O F H Q S q=>by
 obtain⟨v,e,⟨a,P,Y⟩,st⟩:=S.ok i _ hi;subst P;refine⟨_,e,h.go E O F H _ S λv x F1 H1 c r AG=>?_⟩;obtain⟨m,U,N,JE,hw⟩:=AG;subst U;cases r.inv;obtain⟨W,D,Hi,_⟩:=c.st.ok i _ hi;rw[e]at D;cases D;obtain⟨Z,ea,HH⟩:=Uj K sc _ F1 H1 c.st.fh Hi;cases ea;refine⟨a,sc,m,rfl,HH,N,JE,λp H2 t s A=>?_⟩;have B:=c.st.grow s;have G:∀(j:Nat)s,ss[j]?=some s->¬ BJ s O[j]? p:=λj s d=>c.st.ID d t;have np:C6 ss O p:=λj d=>G j _ d;refine hw.go E O F1 H2 _ B.st λV X F4 H4 l I CF=>?_;obtain⟨n,T,n0,M,kk⟩:=CF;subst T;cases I.inv;have g:Bf H4 p:=Bf.keep A λo R=>l.hh p o np R;have u:F4 p=Option.none:=by
  cases z:F4 p with
  |none=>rfl
  |some o=>
   obtain⟨_,_,w,_⟩:=A;rcases l.nn p o z with z|z
   .rw[c.st.CA t]at z;cases z
   .rw[w]at z;cases z
 refine⟨p,n,rfl,g,n0,M,λr H5 L J s4=>?_⟩;have f:=c.trans (B.trans l);refine q _ _ F4 H5 ?_ (.int r) (kk r L J);refine S.step f.ff (λb o z=>s4.same b o (Di z u) (f.st.fh b o z)) (λb o n z=>s4.same b o (λw=>?_) (f.hh b o n z)) (λb o z=>f.nn b o z) λj σ d C=>Bf.keep (f.st.Ez d C) λo z=>s4.same σ o (λw=>G j _ d (w▸C)) z;subst w;rw[c.none t]at z;cases z⟩
end
open Classical in
noncomputable def AI(l:List AH):List Str:=(l.filter (·.2)).map (·.1)
theorem EY(a b:List AH):AI (a++b)=AI a++AI b:=by unfold AI;rw[Uu,C0]
theorem GQ(x:Str)(l:List AH):AI ((x,true)::l)=x::AI l:=rfl
theorem Qg(x:Str)(l:List AH):AI ((x,false)::l)=AI l:=rfl
theorem OT{l:List AH}(h:B1 l=false):AI l=[]:=by
 unfold AI;rw[List.filter_eq_nil_iff.mpr,GY];intro a b z;have:B1 l=true:=List.any_eq_true.mpr ⟨a,b,z⟩;rw[h]at this;cases this
theorem xZ{l:List AH}(h:B1 l=true):AI l≠[]:=λz=>by
 obtain⟨a,c,b⟩:=List.any_eq_true.mp h;have:a.1∈AI l:=List.mem_map.mpr ⟨a,List.mem_filter.mpr ⟨c,b⟩,rfl⟩;rw[z]at this;cases this
theorem WQ:∀{l:List AH},B1 l=true->∃U x V,l=U++(x,true)::V/\l.findIdx (·.2)=U.length/\AI U=[]
 | [],h=>by cases h
 | (x,true)::r,_=>⟨[],x,r,rfl,rfl,rfl⟩
 | (y,false)::r,h=>by
  obtain⟨U,x,V,c,b,a⟩:=WQ (l:=r) h;refine⟨(y,false)::U,x,V,by rw[c];rfl,?_,by rw[Qg,a]⟩;rw[ZGZ,b];rfl
abbrev Aw(s:Rn):List Str:=AI (s.th.drop s.gap)
abbrev Bw(s:Rn):List Str:=AI (s.th.take s.gap)
theorem Me(s:Rn):AI s.th=Bw s++Aw s:=by rw[<- EY,bM]
theorem N3(h:B1 s.th=true):∃U x V,s.th=U++(x,true)::V/\By s=U.length/\AV s=x/\((CJ s=false/\Aw s=x::AI V/\Bw s=AI U)∨(CJ s=true/\Aw s=[]/\AI U=[]/\Bw s=x::AI V)):=by
 have d:∃U x V,s.th=U++(x,true)::V/\By s=U.length/\((CJ s=false/\Aw s=x::AI V/\Bw s=AI U)∨(CJ s=true/\Aw s=[]/\AI U=[]/\Bw s=x::AI V)):=by
  cases e:CJ s with
  |false=>
   have hd:B1 (s.th.drop s.gap)=true:=by
    unfold CJ at e;cases q:B1 (s.th.drop s.gap)with
    |true=>rfl
    |false=>rw[q]at e;cases e
   obtain⟨U,x,V,a,c,b⟩:=WQ hd;have g:s.gap<=s.th.length:=ni λz=>by
    have:s.th.drop s.gap=[]:=ZGY (by omega);rw[this]at hd;cases hd
   refine⟨s.th.take s.gap++U,x,V,by rw[BX,<- a,bM],?_,.inl ⟨rfl,?_,?_⟩⟩
   .unfold By;rw[e];show s.gap+(s.th.drop s.gap).findIdx (·.2)=_
    rw[c,Bt,DR,MV g]
   .show AI (s.th.drop s.gap)=_;rw[a,EY,b,GQ];rfl
   .rw[EY,b,CB]
  |true=>
   have hd:B1 (s.th.drop s.gap)=false:=by
    unfold CJ at e;cases q:B1 (s.th.drop s.gap)with
    |false=>rfl
    |true=>rw[q]at e;cases e
   obtain⟨U,x,V,a,c,b⟩:=WQ h;have f:Aw s=[]:=OT hd;refine⟨U,x,V,a,?_,.inr ⟨rfl,f,b,?_⟩⟩
   .unfold By;rw[e];show 0+(s.th.drop 0).findIdx (·.2)=_
    rw[Qk,c,Qw]
   .have:=Me s;rw[f,CB,a,EY,b,GQ]at this;exact this.symm
 obtain⟨U,x,V,a,c,b⟩:=d;refine⟨U,x,V,a,c,?_,b⟩;unfold AV;rw[c,a,E8 (As _),V3];rfl
theorem kz{α:Type}(f:α->α)(y:α)(V:List α):∀U:List α,(U++y::V).modify U.length f=U++f y::V
 | []=>by simp
 |u::U=>by rw[Ny,CH,nY,kz f y V U];rfl
def Ho(ks:List Kd)(r x:Str)(U V:List AH):List AH×List AH×List AH:=CK r (BR ks x) (U,[],V)
noncomputable def Jt(ks:List Kd)(x:Str):List AH:=if Dq ks x=true then[]else[(x,false)]
theorem Z9{U V:List AH}(h1:s.th=U++(x,true)::V)(h2:By s=U.length)(a:AV s=x):
  (BS ks s).th=(Ho ks s.r x U V).1++Jt ks x++(Ho ks s.r x U V).2.1++(Ho ks s.r x U V).2.2/\(BS ks s).gap=((Ho ks s.r x U V).1++Jt ks x).length/\(BS ks s).r=s.r/\(BS ks s).AK=if CJ s=true∨s.AK=0 then s.AK+1 else s.AK:=by
 have d:(Cj s).th=U++(x,false)::V:=by
  show s.th.modify (By s) _=_;rw[h2,h1,kz]
 have c:(Cj s).th.take (By s)=U:=by rw[d,h2,bN];rfl
 have b:(Cj s).th.drop (By s+1)=V:=by
  rw[d,h2,show U++(x,false)::V=(U++[(x,false)])++V by rw[BX];rfl,List.drop_left'];rw[Bt];rfl
 refine⟨?_,?_,rfl,rfl⟩
 .show(FZ s.r (Cj s).th (By s) (AV s,false) (BR ks (AV s)) (Dq ks (AV s))).1=_;unfold FZ;rw[c,b,a];rfl
 .show(FZ s.r (Cj s).th (By s) (AV s,false) (BR ks (AV s)) (Dq ks (AV s))).2=_;unfold FZ;rw[c,b,a,Bt];show _+(if Dq ks x=true then 0 else 1)=_+(Jt ks x).length
  unfold Jt;split <;> rfl
theorem yf(ks:List Kd)(x:Str):AI (Jt ks x)=[]:=by unfold Jt;split <;> rfl
theorem RA{U V:List AH}(h1:s.th=U++(x,true)::V)(h2:By s=U.length)(c:AV s=x):
  Bw (BS ks s)=AI (Ho ks s.r x U V).1/\Aw (BS ks s)=AI (Ho ks s.r x U V).2.1++AI (Ho ks s.r x U V).2.2:=by
 obtain⟨b,a,_⟩:=Z9 (ks:=ks) h1 h2 c;constructor
 .show AI ((BS ks s).th.take (BS ks s).gap)=_;rw[b,a,BX,bN rfl,EY,yf,CB]
 .show AI ((BS ks s).th.drop (BS ks s).gap)=_;rw[b,a,BX,List.drop_left' rfl,EY]
def S3(f:Str->Int)(q:List AH×List AH×List AH):Int:=((AI q.1).map f).sum+((AI q.2.1).map f).sum+((AI q.2.2).map f).sum
theorem fF(r:Str)(p:Str×Str)(ps:List (Str×Str)):EB r (p::ps)=EB r [p]++EB r ps:=by
 unfold EB;split
 .rfl
 .rw[show p::ps=[p]++ps from rfl,Uu]
theorem ZEo{p:Str×Str}:EB r [p]=if r ≠"none" /\ (r="all" ∨p.1∈Dd)then[p]else[]:=by
 unfold EB
 by_cases h:r="none"
 .rw[pT h,pL λz=>z.1 h]
 .rw[pL h]
  by_cases h2:r="all" ∨p.1∈Dd
  .rw[pT ⟨h,h2⟩,bG,pT (by rw[Bool.or_eq_true];exact h2.imp pf pf)];rfl
  .rw[pL λz=>h2 z.2,bG,pL λz=>h2 ((Bool.or_eq_true _ _▸z).imp qB qB)];rfl
theorem YB:("next":Str)∈Dd:=by decide +kernel
theorem aM:("last":Str)∈Dd:=by decide +kernel
theorem sI(h1:w ≠"next")(h2:w ≠"last"):w∉Dd:=λz=>by
 unfold Dd at z;simp only[G9,Ak,vE]at z;rcases z with z|z
 .exact h1 z
 .exact h2 z
theorem YN(r:Str)(q:List AH×List AH×List AH)(p:Str×Str):
  (EB r [p]=[p]/\p.1∈Dd/\AI (BL r q p).1=AI q.1/\((p.1="next" /\ AI (BL r q p).2.1=AI q.2.1++[p.2]/\AI (BL r q p).2.2=AI q.2.2)∨(p.1="last" /\ AI (BL r q p).2.1=AI q.2.1/\AI (BL r q p).2.2=AI q.2.2++[p.2])))∨
  (EB r [p]=[p]/\p.1∉Dd/\r="all" /\ (AI (BL r q p).1=AI q.1++[p.2]∨AI (BL r q p).1=p.2::AI q.1)/\AI (BL r q p).2.1=AI q.2.1/\AI (BL r q p).2.2=AI q.2.2)∨
  (EB r [p]=[]/\(r="none" ∨p.1∉Dd)/\AI (BL r q p).1=AI q.1/\AI (BL r q p).2.1=AI q.2.1/\AI (BL r q p).2.2=AI q.2.2):=by
 rw[ZEo];unfold BL
 by_cases d:p.1="next"
 .have a:p.1∈Dd:=by rw[d];exact YB
  rw[pT d]
  by_cases n:r="none"
  .refine .inr (.inr ⟨pL λz=>z.1 n,.inl n,rfl,?_,rfl⟩);show AI (q.2.1++[(p.2,decide (r ≠"none"))])=_;rw[EY,qD (λz=>z n),Qg];simp[AI]
  .refine .inl ⟨pT ⟨n,.inr a⟩,a,rfl,.inl ⟨d,?_,rfl⟩⟩;show AI (q.2.1++[(p.2,decide (r ≠"none"))])=_;rw[EY,pf n,GQ];rfl
 rw[pL d]
 by_cases c:p.1="last"
 .have a:p.1∈Dd:=by rw[c];exact aM
  rw[pT c]
  by_cases n:r="none"
  .refine .inr (.inr ⟨pL λz=>z.1 n,.inl n,rfl,rfl,?_⟩);show AI (q.2.2++[(p.2,decide (r ≠"none"))])=_;rw[EY,qD (λz=>z n),Qg];simp[AI]
  .refine .inl ⟨pT ⟨n,.inr a⟩,a,rfl,.inr ⟨c,rfl,?_⟩⟩;show AI (q.2.2++[(p.2,decide (r ≠"none"))])=_;rw[EY,pf n,GQ];rfl
 rw[pL c];have a:p.1∉Dd:=sI d c
 by_cases n:r="all"
 .have e:r ≠"none" := by rw[n];decide +kernel
  refine .inr (.inl ⟨pT ⟨e,.inl n⟩,a,n,?_⟩)
  by_cases b:p.1="back"
  .rw[pT b];refine⟨.inl ?_,rfl,rfl⟩;show AI (q.1++[(p.2,decide (r="all"))])=_;rw[EY,pf n,GQ];rfl
  .rw[pL b];refine⟨.inr ?_,rfl,rfl⟩;show AI ((p.2,decide (r="all"))::q.1)=_;rw[pf n,GQ]
 .refine .inr (.inr ⟨pL λz=>z.2.elim n a,.inr a,?_⟩)
  by_cases b:p.1="back"
  .rw[pT b];refine⟨?_,rfl,rfl⟩;show AI (q.1++[(p.2,decide (r="all"))])=_;rw[EY,qD n,Qg];simp[AI]
  .rw[pL b];refine⟨?_,rfl,rfl⟩;show AI ((p.2,decide (r="all"))::q.1)=_;rw[qD n,Qg]
theorem ZDM(f:Str->Int)(r:Str)(q:List AH×List AH×List AH)(p:Str×Str):S3 f (BL r q p)=S3 f q+((EB r [p]).map λp=>f p.2).sum:=by
 unfold S3;rcases YN r q p with⟨e,_,h1,⟨_,h2,a⟩|⟨_,h2,a⟩⟩|⟨e,_,_,h1|h1,h2,a⟩|⟨e,_,h1,h2,a⟩ <;> rw[e,h1,h2,a] <;> simp only[C0,Ae,GY,Il,Cf,bL] <;> omega
theorem mL(f:Str->Int)(r:Str):∀(ps:List (Str×Str))(q:List AH×List AH×List AH),S3 f (CK r ps q)=S3 f q+((EB r ps).map λp=>f p.2).sum
 | [],q=>by
  have:EB r []=[]:=by unfold EB;split <;> rfl
  rw[this];show S3 f q=_;simp
 |p::ps,q=>by
  show S3 f (CK r ps (BL r q p))=_;rw[mL f r ps,ZDM,fF r p ps,C0,Il];omega
def A3(PB PA:Str->Prop)(q:List AH×List AH×List AH):Prop:=(∀y∈AI q.1,PB y)/\(∀y∈AI q.2.1,PA y)/\∀y∈AI q.2.2,PA y
def Fu(PB PA:Str->Prop)(p:Str×Str):Prop:=if p.1∈Dd then PA p.2 else PB p.2
theorem b6{P:Str->Prop}:(∀y∈l++[x],P y)↔(∀y∈l,P y)/\P x:=by
 constructor
 .exact λh=>⟨λy a=>h y (G8 _ a),h x (by simp)⟩
 .intro h y a;rcases List.mem_append.mp a with z|z
  .exact h.1 y z
  .rw[List.mem_singleton.mp z];exact h.2
theorem all_cons{P:Str->Prop}{l:List Str}{x:Str}:(∀y∈x::l,P y)↔P x/\∀y∈l,P y:=ZGa
theorem qO(PB PA:Str->Prop)(r:Str)(q:List AH×List AH×List AH)(p:Str×Str):A3 PB PA (BL r q p)↔A3 PB PA q/\∀z∈EB r [p],Fu PB PA z:=by
 unfold A3;rcases YN r q p with⟨e,a,h1,⟨_,h2,b⟩|⟨_,h2,b⟩⟩|⟨e,a,_,h1|h1,h2,b⟩|⟨e,_,h1,h2,b⟩ <;> rw[e,h1,h2,b]
 .have d:(∀z∈[p],Fu PB PA z)↔PA p.2:=by
   rw[bJ];unfold Fu;rw[pT a]
  rw[d,b6];exact⟨λ⟨u,⟨v,w⟩,z⟩=>⟨⟨u,v,z⟩,w⟩,λ⟨⟨u,v,z⟩,w⟩=>⟨u,⟨v,w⟩,z⟩⟩
 .have d:(∀z∈[p],Fu PB PA z)↔PA p.2:=by
   rw[bJ];unfold Fu;rw[pT a]
  rw[d,b6];exact⟨λ⟨u,v,z,w⟩=>⟨⟨u,v,z⟩,w⟩,λ⟨⟨u,v,z⟩,w⟩=>⟨u,v,z,w⟩⟩
 .have d:(∀z∈[p],Fu PB PA z)↔PB p.2:=by
   rw[bJ];unfold Fu;rw[pL a]
  rw[d,b6];exact⟨λ⟨⟨u,w⟩,v,z⟩=>⟨⟨u,v,z⟩,w⟩,λ⟨⟨u,v,z⟩,w⟩=>⟨⟨u,w⟩,v,z⟩⟩
 .have d:(∀z∈[p],Fu PB PA z)↔PB p.2:=by
   rw[bJ];unfold Fu;rw[pL a]
  rw[d,all_cons];exact⟨λ⟨⟨w,u⟩,v,z⟩=>⟨⟨u,v,z⟩,w⟩,λ⟨⟨u,v,z⟩,w⟩=>⟨⟨w,u⟩,v,z⟩⟩
 .exact⟨λh=>⟨h,λ_ z=>by cases z⟩,λh=>h.1⟩
theorem XO(PB PA:Str->Prop)(r:Str):∀(ps:List (Str×Str))(q:List AH×List AH×List AH),A3 PB PA (CK r ps q)↔A3 PB PA q/\∀z∈EB r ps,Fu PB PA z
 | [],q=>by
  have:EB r []=[]:=by unfold EB;split <;> rfl
  rw[this];exact⟨λh=>⟨h,λ_ z=>by cases z⟩,λh=>h.1⟩
 |p::ps,q=>by
  show A3 PB PA (CK r ps (BL r q p))↔_;rw[XO PB PA r ps,qO,fF r p ps];exact⟨λ⟨⟨a,b⟩,c⟩=>⟨a,λz d=>(List.mem_append.mp d).elim (b z) (c z)⟩,λ⟨a,b⟩=>⟨⟨a,λz d=>b z (G8 _ d)⟩,λz d=>b z (Er _ d)⟩⟩
theorem fb:∀(ps:List (Str×Str))(q:List AH×List AH×List AH),AI (CK "ahead" ps q).1=AI q.1/\AI (CK "ahead" ps q).2.1=AI q.2.1++(ps.filter λp=>decide (p.1=("next":Str))).map (·.2)/\AI (CK "ahead" ps q).2.2=AI q.2.2++(ps.filter λp=>decide (p.1=("last":Str))).map (·.2)
 | [],q=>⟨rfl,(CB _).symm,(CB _).symm⟩
 |p::ps,q=>by
  obtain⟨i1,i2,g⟩:=fb ps (BL "ahead" q p);have i:("ahead":Str)≠"none" := by decide +kernel
  have h:("ahead":Str)≠"all" := by decide +kernel
  have f:("next":Str)≠"last" := by decide +kernel
  show AI (CK "ahead" ps (BL "ahead" q p)).1=_/\AI (CK "ahead" ps (BL "ahead" q p)).2.1=_/\AI (CK "ahead" ps (BL "ahead" q p)).2.2=_;rw[i1,i2,g,bG,bG];rcases YN "ahead" q p with⟨e,a,h1,⟨c,h2,b⟩|⟨c,h2,b⟩⟩|⟨e,a,d,_⟩|⟨e,c,h1,h2,b⟩
  .rw[h1,h2,b,pT (pf c),pL (λz=>f (c▸qB z)),Ae,BX];exact⟨rfl,rfl,rfl⟩
  .rw[h1,h2,b,pL (λz=>f ((qB z).symm.trans c)),pT (pf c),Ae,BX];exact⟨rfl,rfl,rfl⟩
  .exact absurd d h
  .have a:p.1∉Dd:=c.resolve_left i;rw[h1,h2,b,pL (λz=>a (by rw[qB z];exact YB)),pL (λz=>a (by rw[qB z];exact aM))];exact⟨rfl,rfl,rfl⟩
noncomputable def ct(w:Str)(l:List AH):Nat:=(l.map (·.1)).count w
theorem NZ(w:Str)(a b:List AH):ct w (a++b)=ct w a+ct w b:=by unfold ct;rw[C0,Ut]
theorem mH(w:Str)(x:AH)(b:List AH):ct w (x::b)=ct w b+[x.1].count w:=by
 rw[show x::b=[x]++b from rfl,NZ];show[x.1].count w+_=_;omega
theorem cG(w:Str):ct w []=0:=rfl
theorem yT(w:Str)(x:AH):ct w [x]=[x.1].count w:=rfl
def C3(w:Str)(q:List AH×List AH×List AH):Nat:=ct w q.1+ct w q.2.1+ct w q.2.2
theorem v8(w r:Str)(q:List AH×List AH×List AH)(p:Str×Str):C3 w (BL r q p)=C3 w q+[p.2].count w:=by
 unfold C3 BL
 repeat' split
 all_goals simp only[NZ,mH,cG]
 all_goals omega
theorem gv(w r:Str):∀(ps:List (Str×Str))(q:List AH×List AH×List AH),C3 w (CK r ps q)=C3 w q+(ps.map (·.2)).count w
 | [],q=>rfl
 |p::ps,q=>by
  show C3 w (CK r ps (BL r q p))=_;rw[gv w r ps,v8,Ae,show p.2::ps.map (·.2)=[p.2]++ps.map (·.2)from rfl,Ut];omega
theorem lr(b:B1 s.th=true)(f:Str->Int):((AI (BS ks s).th).map f).sum+f (AV s)=((AI s.th).map f).sum+((Ai ks s.r (AV s)).map f).sum:=by
 obtain⟨U,x,V,h1,h2,a,_⟩:=N3 b;obtain⟨h,g⟩:=RA (ks:=ks) h1 h2 a;have e:=mL f s.r (BR ks x) (U,[],V);have i:S3 f (U,([]:List AH),V)=((AI U).map f).sum+((AI V).map f).sum:=by unfold S3;simp[AI]
 have d:S3 f (CK s.r (BR ks x) (U,[],V))=((AI (BS ks s).th).map f).sum:=by
  rw[Me (BS ks s),h,g,C0,C0,Il,Il];unfold S3 Ho;omega
 have c:((Ai ks s.r x).map f).sum=((EB s.r (BR ks x)).map λp=>f p.2).sum:=by unfold Ai;rw[Bu];rfl
 have e0:((AI s.th).map f).sum=((AI U).map f).sum+(f x+((AI V).map f).sum):=by rw[h1,EY,GQ,C0,Il,Ae,Cf]
 rw[a,e0,c,<- d];omega
theorem ZBF(b:B1 s.th=true)(w:Str):ct w (BS ks s).th+(if Dq ks (AV s)=true then[AV s].count w else 0)=ct w s.th+((BR ks (AV s)).map (·.2)).count w:=by
 obtain⟨U,x,V,h1,h2,a,_⟩:=N3 b;obtain⟨g,_⟩:=Z9 (ks:=ks) h1 h2 a;have e:=gv w s.r (BR ks x) (U,[],V);have f:C3 w (U,([]:List AH),V)=ct w U+ct w V:=by show ct w U+0+ct w V=_;omega
 have d:ct w (BS ks s).th=C3 w (CK s.r (BR ks x) (U,[],V))+ct w (Jt ks x):=by
  rw[g,NZ,NZ,NZ];unfold C3 Ho;omega
 have c:ct w s.th=ct w U+(ct w V+[x].count w):=by rw[h1,NZ,mH]
 rw[a,d,c,e,f];unfold Jt;split
 .rw[cG];omega
 .rw[yT];show _+[x].count w+_=_;omega
theorem ZA6(d:B1 s.th=true)(h:y∈AI (BS ks s).th):y∈AI s.th∨y∈Ai ks s.r (AV s):=by
 obtain⟨U,x,V,h1,h2,b,_⟩:=N3 d;obtain⟨f,e⟩:=RA (ks:=ks) h1 h2 b
 let P:Str->Prop:=λy=>y∈AI s.th∨y∈Ai ks s.r x
 have e0:AI s.th=AI U++x::AI V:=by rw[h1,EY,GQ]
 have q:=(XO P P s.r (BR ks x) (U,[],V)).mpr ⟨⟨λy a=>.inl (by rw[e0];simp[a]),λy a=>(by cases a),λy a=>.inl (by rw[e0];simp[a])⟩,λz c=>by
  have:P z.2:=.inr (List.mem_map.mpr ⟨z,c,rfl⟩);unfold Fu;split <;> exact this⟩
 rw[Me,f,e]at h;rw[b];rcases List.mem_append.mp h with h|h
 .exact q.1 y h
 .rcases List.mem_append.mp h with h|h
  .exact q.2.1 y h
  .exact q.2.2 y h
theorem YA(a:B1 s.th=true):AV s∈AI s.th:=by
 obtain⟨U,x,V,h1,h2,b,_⟩:=N3 a;rw[b,h1,EY,GQ];simp
theorem Mm{ks:List Kd}{P:Rn×List Str->Prop}(a:∀q,P q->B1 q.1.th=true->P (BS ks q.1,q.2++[AV q.1])):∀(n:Nat)(q:Rn×List Str),P q->P (Bz ks n q)
 | 0,q,h=>h
 |n+1,q,h=>by
  rw[Bz]
  by_cases c:B1 q.1.th=true
  .rw[pT c];exact Mm a n _ (a q h c)
  .rw[pL c];exact h
theorem K6{ks:List Kd}:∀(n:Nat)(q:Rn×List Str),(Bz ks n q).2.length<=q.2.length+n/\(B1 (Bz ks n q).1.th=true->(Bz ks n q).2.length=q.2.length+n)
 | 0,q=>⟨As _,λ_=>rfl⟩
 |n+1,q=>by
  rw[Bz]
  by_cases c:B1 q.1.th=true
  .rw[pT c];obtain⟨h1,h2⟩:=K6 (ks:=ks) n (BS ks q.1,q.2++[AV q.1]);have e:(BS ks q.1,q.2++[AV q.1]).2.length=q.2.length+1:=Bt ..;exact⟨by omega,λz=>by have:=h2 z;omega⟩
  .rw[pL c];exact⟨by omega,λz=>absurd z c⟩
theorem jR{ks:List Kd}:∀(n:Nat)(q:Rn×List Str),(Bz ks n q).2.take q.2.length=q.2
 | 0,q=>FR
 |n+1,q=>by
  rw[Bz]
  by_cases c:B1 q.1.th=true
  .rw[pT c];have h:=jR (ks:=ks) n (BS ks q.1,q.2++[AV q.1]);have h2:=rP (List.take q.2.length) h;rw[List.take_take,MV (by simp)]at h2;rw[h2];show(q.2++[AV q.1]).take q.2.length=_;rw[bN];rfl
  .rw[pL c];exact FR
theorem dF{ks:List Kd}:∀(n m:Nat)(q:Rn×List Str),n<=m->(Bz ks n q).2=(Bz ks m q).2.take (q.2.length+n)
 | 0,m,q,_=>(jR m q).symm
 |n+1,m,q,h=>by
  obtain⟨m,rfl⟩:∃k,m=k+1:=⟨m - 1,by omega⟩;rw[Bz,Bz]
  by_cases c:B1 q.1.th=true
  .rw[pT c,pT c,dF n m _ (by omega)]
   congr 1
   show(q.2++[AV q.1]).length+n=_;rw[Bt,Ij];omega
  .rw[pL c,pL c,Jh (by omega)]
theorem tH(h:∀x∈S,Be f S' x)(r:Be f S y):Be f S' y:=by
 induction r with
 |here m=>exact h _ m
 |step _ b a=>exact .step a b
theorem ZAE(r:Be f S y):∃x∈S,Be f [x] y:=by
 induction r with
 |@here x m=>exact⟨x,m,.here (by simp)⟩
 |step _ b a=>obtain⟨x,hx,r⟩:=a;exact⟨x,hx,.step r b⟩
theorem rZ(r:Be f [x] y):y=x∨Be f (f x) y:=by
 induction r with
 |here m=>exact .inl (List.mem_singleton.mp m)
 |@step a b _ d c=>
  rcases c with rfl|c
  .exact .inr (.here d)
  .exact .inr (.step c d)
theorem ZF5(h:Fi f [x]):Fi f (f x):=by
 obtain⟨z,h1,h2⟩:=h;rcases rZ h1 with rfl|h1
 .exact⟨z,h2,h2⟩
 .exact⟨z,h1,h2⟩
theorem cS(h:Fi f S):∃x∈S,Fi f [x]:=by
 obtain⟨z,h1,h2⟩:=h;obtain⟨x,hx,r⟩:=ZAE h1;exact⟨x,hx,z,r,h2⟩
theorem jV(h:∀x∈S,x∈S')(r:Fi f S):Fi f S':=by
 obtain⟨z,h1,h2⟩:=r;exact⟨z,tH (λx hx=>.here (h x hx)) h1,h2⟩
theorem ZEi(f:B1 s.th=true):(∀y∈AI s.th,y≠AV s->y∈AI (BS ks s).th)/\∀y∈Ai ks s.r (AV s),y∈AI (BS ks s).th:=by
 have b:∀y:Str,((AI (BS ks s).th).count y:Int)+([AV s].count y:Nat)=((AI s.th).count y:Nat)+((Ai ks s.r (AV s)).count y:Nat):=λy=>by
  have e:∀l:List Str,(l.map λz=>(([z].count y:Nat):Int)).sum=((l.count y:Nat):Int):=λl=>by
   induction l with
   |nil=>rfl
   |cons a l g=>rw[Ae,Cf,g,show a::l=[a]++l from rfl,Ut];omega
  have:=lr (ks:=ks) f λz=>(([z].count y:Nat):Int);rw[e,e,e]at this;exact this
 constructor
 .intro y d h;have h1:=List.count_pos_iff.mpr d;have h2:[AV s].count y=0:=List.count_eq_zero.mpr λz=>h (List.mem_singleton.mp z);have:=b y;exact List.count_pos_iff.mp (by omega)
 .intro y d;have h1:=List.count_pos_iff.mpr d;have i:=List.count_pos_iff.mpr (YA f);have:=b y;refine List.count_pos_iff.mp ?_
  by_cases c:y=AV s
  .subst c;have h2:[AV s].count (AV s)=1:=by simp
   omega
  .have h2:[AV s].count y=0:=List.count_eq_zero.mpr λz=>c (List.mem_singleton.mp z);omega
theorem Ll:∀cs:List Str,AI (cs.map λc=>(c,true))=cs
 | []=>rfl
 |a::l=>by rw[Ae,GQ,Ll l]
theorem ZCD(h:Fi (Ai ks r) cs)(n:Nat):B1 (Bz ks n (C4 r cs)).1.th=true:=by
 have q:=Mm (ks:=ks) (P:=λq=>q.1.r=r/\Fi (Ai ks r) (AI q.1.th)) (λq⟨e,z⟩f=>⟨e,by
  obtain⟨x,hx,a⟩:=cS z;obtain⟨k1,b⟩:=ZEi (ks:=ks) f
  by_cases c:x=AV q.1
  .rw[e]at b;exact jV b (ZF5 (c▸a))
  .exact jV (λy d=>by rw[List.mem_singleton.mp d];exact k1 x hx c) a⟩) n (C4 r cs) ⟨rfl,by
   have:AI (C4 r cs).1.th=cs:=Ll cs;rw[this];exact h⟩
 cases e:B1 (Bz ks n (C4 r cs)).1.th with
 |true=>rfl
 |false=>
  have:=q.2;rw[OT e]at this;obtain⟨x,hx,_⟩:=cS this;cases hx
noncomputable def mR(s:Rn):Int:=if s.AK=0 then 1 else(s.AK:Int)
def RB(ks:List Kd)(r:Str)(M:Int)(s:Rn):Prop:=(s.AK:Int)<=M/\(∀y∈Bw s,mR s+AK ks r y<=M)/\∀y∈Aw s,mR s+AK ks r y - 1<=M
theorem su(B:B1 s.th=true)(A:s.AK=0->Bw s=[])(W7:∀y∈AI s.th,1<=AK ks s.r y)(hx:AK ks s.r (AV s)=KQ ks s.r (AV s) (AK ks s.r))(M:Int):RB ks s.r M (BS ks s)↔RB ks s.r M s:=by
 obtain⟨U,x,V,h1,h2,j,C⟩:=N3 B;obtain⟨J,I⟩:=RA (ks:=ks) h1 h2 j;obtain⟨_,_,_,f⟩:=Z9 (ks:=ks) h1 h2 j;rw[j]at hx;have t:(BS ks s).AK≠0/\mR (BS ks s)=((BS ks s).AK:Int):=by
  have:(BS ks s).AK≠0:=by
    rw[f];split
    .omega
    .next z=>exact λy=>z (.inr y)
  exact⟨this,pL this⟩
 generalize E:(BS ks s).AK=N at f t;have K:1<=AK ks s.r x:=W7 x (by rw[h1,EY,GQ];simp);have σ:∀y∈AI U,1<=AK ks s.r y:=λy b=>W7 y (by rw[h1,EY,GQ];simp[b]);have L:∀y∈AI V,1<=AK ks s.r y:=λy b=>W7 y (by rw[h1,EY,GQ];simp[b]);have q:((N:Int)<=M/\∀z∈EB s.r (BR ks x),Fu (λy=>(N:Int)+AK ks s.r y<=M) (λy=>(N:Int)+AK ks s.r y - 1<=M) z)↔(N:Int)+AK ks s.r x - 1<=M:=by
  rw[hx];unfold KQ;have e:=gM (ns:=1::(CP ks s.r x).map (Ft (AK ks s.r))) (by simp) (M - N+1);have H:(N:Int)+GJ (1::(CP ks s.r x).map (Ft (AK ks s.r))) - 1<=M↔GJ (1::(CP ks s.r x).map (Ft (AK ks s.r)))<=M - N+1:=by omega
  rw[H,e];constructor
  .rintro⟨u,v⟩y b;rcases List.mem_cons.mp b with rfl|b
   .omega
   .obtain⟨p,i,rfl⟩:=List.mem_map.mp b;have:=v p i;unfold Fu at this;unfold Ft;split at this <;> rename_i c
    .rw[pT c];omega
    .rw[pL c];omega
  .intro u;refine⟨by have:=u 1 (by simp);omega,λp i=>?_⟩;have:=u (Ft (AK ks s.r) p) (DS _ (List.mem_map.mpr ⟨p,i,rfl⟩));unfold Ft at this;unfold Fu;split at this <;> rename_i c
   .rw[pT c];omega
   .rw[pL c];omega
 have e:=XO (λy=>(N:Int)+AK ks s.r y<=M) (λy=>(N:Int)+AK ks s.r y - 1<=M) s.r (BR ks x) (U,[],V);have D:RB ks s.r M (BS ks s)↔(N:Int)<=M/\A3 (λy=>(N:Int)+AK ks s.r y<=M) (λy=>(N:Int)+AK ks s.r y - 1<=M) (CK s.r (BR ks x) (U,[],V)):=by
  unfold RB A3;rw[t.2,E,J,I];refine and_congr Iff.rfl (and_congr Iff.rfl ?_);exact⟨λh=>⟨λy b=>h y (G8 _ b),λy b=>h y (Er _ b)⟩,λ⟨u,v⟩y b=>(List.mem_append.mp b).elim (u y) (v y)⟩
 have G:A3 (λy=>(N:Int)+AK ks s.r y<=M) (λy=>(N:Int)+AK ks s.r y - 1<=M) (U,([]:List AH),V)↔(∀y∈AI U,(N:Int)+AK ks s.r y<=M)/\∀y∈AI V,(N:Int)+AK ks s.r y - 1<=M:=⟨λh=>⟨h.1,h.2.2⟩,λh=>⟨h.1,λ_ z=>(by cases z),h.2⟩⟩;rw[D,e,G];have F:RB ks s.r M s↔((N:Int)+AK ks s.r x - 1<=M)/\(∀y∈AI U,(N:Int)+AK ks s.r y<=M)/\∀y∈AI V,(N:Int)+AK ks s.r y - 1<=M:=by
  unfold RB;rcases C with⟨o,m,l⟩|⟨o,m,l,k⟩
  .have g:mR s=(N:Int)/\(s.AK:Int)<=N:=by
    unfold mR;rw[o]at f
    by_cases z:s.AK=0
    .rw[pT (.inr z)]at f;rw[pT z];omega
    .rw[pL (λy=>y.elim (λy=>by cases y) z)]at f;rw[pL z];omega
   rw[g.1,m,l,all_cons];exact⟨λ⟨_,u,v,w⟩=>⟨v,u,w⟩,λ⟨v,u,w⟩=>⟨by omega,u,v,w⟩⟩
  .have z:s.AK≠0:=λz=>by rw[A z]at k;cases k
   have g:mR s=(N:Int) - 1/\(s.AK:Int)=N - 1:=by
    unfold mR;rw[pT (.inl o)]at f;rw[pL z];omega
   rw[g.1,g.2,m,l,k,all_cons];constructor
   .rintro⟨_,⟨v,w⟩,_⟩;exact⟨by omega,λ_ z=>(by cases z),λy b=>by have:=w y b;omega⟩
   .rintro⟨v,_,w⟩;exact⟨by omega,⟨by omega,λy b=>by have:=w y b;omega⟩,λ_ z=>(by cases z)⟩
 rw[F];constructor
 .rintro⟨n,⟨u,v⟩,d⟩;exact⟨q.mp ⟨n,d⟩,u,v⟩
 .rintro⟨a,u,v⟩;have:=q.mpr a;exact⟨this.1,⟨u,v⟩,this.2⟩
noncomputable def cj(ks:List Kd)(r:Str)(j:Nat)(y:Str):Int:=(cnt ks r y).getD j 0
noncomputable def dj(ks:List Kd)(j:Nat)(x:Str):Int:=if(wk ks).idxOf x=j then 1 else 0
noncomputable def LH(ks:List Kd)(w x:Str):Int:=if Dq ks x=true then(([x].count w:Nat):Int)else 0
structure RI (ks:List Kd) (r:Str) (cs T:List Str) (q:Rn×List Str):Prop where
 rr:q.1.r=r
 GO:∀y∈AI q.1.th,y∈T
 hT:∀y∈q.2,y∈T
 z:q.1.AK=0->Bw q.1=[]
 rb:∀M:Int,RB ks r M q.1↔IV ks r cs<=M
 ph:∀j,j<ks.length->((AI q.1.th).map (cj ks r j)).sum+(q.2.map (dj ks j)).sum=(cs.map (cj ks r j)).sum
 st:∀w,(ct w q.1.th:Int)+(q.2.map (LH ks w)).sum=(cs.count w:Nat)+(q.2.map λx=>pin ks x w).sum
theorem cX{g:Str->List Int}(h:j<ks.length):(Gv ks r x g).getD j 0=((Ai ks r x).map λy=>(g y).getD j 0).sum+dj ks j x:=by
 unfold Gv dj;rw[DN,Aj,Kk h];rfl
theorem ZFT(h:Top (Ai ks r) T)(a:T.length<=8)(hx:x∈T):1<=AK ks r x:=by
 rw[(Pt h a hx).2];exact(Mz _ (by simp)).2 1 (by simp)
theorem Y7(h:Top f T)(hx:x∈T)(a:y∈f x):y∈T:=by
 obtain⟨i,hi,e⟩:=DQ hx;exact Qq (h i x (by rw[AX hi,e]) y a)
theorem oI(f:∀c∈cs,c∈T):RI ks r cs T (C4 r cs) where
 rr:=rfl
 GO:=λy d=>f y (by rw[<- Ll cs];exact d)
 hT:=λy d=>by cases d
 z:=λ_=>rfl
 rb:=λM=>by
  have e:Aw (C4 r cs).1=cs:=Ll cs;unfold RB IV;rw[e,gM (by simp) M,ZGa];show(0:Int)<=M/\(∀y∈([]:List Str),_)/\_↔_;constructor
  .rintro⟨a,_,b⟩;refine⟨a,λy d=>?_⟩;obtain⟨c,f,rfl⟩:=List.mem_map.mp d;have:(1:Int)+AK ks r c - 1<=M:=b c f;omega
  .rintro⟨a,b⟩;refine⟨a,λ_ z=>(by cases z),λc f=>?_⟩;have:=b _ (List.mem_map.mpr ⟨c,f,rfl⟩);show(1:Int)+AK ks r c - 1<=M;omega
 ph:=λj _=>by
  show((AI (cs.map λc=>(c,true))).map _).sum+0=_;rw[Ll,nE]
 st:=λw=>by
  show((((cs.map λc=>(c,true)).map (·.1)).count w:Nat):Int)+0=_+0
  rw[Bu];show(((cs.map λc=>c).count w:Nat):Int)+0=_+0;rw[List.map_id']
theorem vF(h:Top (Ai ks r) T)(e:T.length<=8)(q:Rn×List Str)(i:RI ks r cs T q)(b:B1 q.1.th=true):RI ks r cs T (BS ks q.1,q.2++[AV q.1]):=by
 have hw:AV q.1∈T:=i.GO _ (YA b);have rr:=i.rr;obtain⟨k,f⟩:=Pt h e hw;refine⟨?_,?_,?_,?_,?_,?_,?_⟩
 .exact rr
 .intro y a;rcases ZA6 b a with z|z
  .exact i.GO y z
  .rw[rr]at z;exact Y7 h hw z
 .intro y a;rcases List.mem_append.mp a with z|z
  .exact i.hT y z
  .rw[List.mem_singleton.mp z];exact hw
 .intro z;have:(BS ks q.1).AK=if CJ q.1=true∨q.1.AK=0 then q.1.AK+1 else q.1.AK:=rfl
  rw[this]at z;split at z
  .omega
  .next c=>exact absurd (.inr z) c
 .intro M;have:=su (ks:=ks) b i.z (λy a=>by rw[rr];exact ZFT h e (i.GO y a)) (by rw[rr];exact f) M;rw[rr]at this;exact this.trans (i.rb M)
 .intro j d;have s:=lr (ks:=ks) b (cj ks r j);have l:cj ks r j (AV q.1)=((Ai ks r (AV q.1)).map (cj ks r j)).sum+dj ks j (AV q.1):=by
   have:=cX (r:=r) (x:=AV q.1) (g:=cnt ks r) d;rw[<- k]at this;exact this
  have:=i.ph j d;rw[rr]at s;show((AI (BS ks q.1).th).map (cj ks r j)).sum+((q.2++[AV q.1]).map (dj ks j)).sum=_;rw[C0,Il,Ae,GY,Cf,bL];omega
 .intro w;have c:=ZBF (ks:=ks) b w;have:=i.st w;show(ct w (BS ks q.1).th:Int)+((q.2++[AV q.1]).map (LH ks w)).sum=_+((q.2++[AV q.1]).map λx=>pin ks x w).sum;rw[C0,Il,Ae,GY,Cf,bL,C0,Il,Ae,GY,Cf,bL];have o:LH ks w (AV q.1)=((if Dq ks (AV q.1)=true then[AV q.1].count w else 0:Nat):Int):=by unfold LH;split <;> rfl
  have p:pin ks (AV q.1) w=((((BR ks (AV q.1)).map (·.2)).count w:Nat):Int):=rfl
  rw[o,p];omega
theorem ZBD(g:KG ks)(h:GH ks r cs T)(n:Nat):RI ks r cs T (Bz ks n (C4 r cs)):=
 Mm (λq i a=>vF h.1 (h.l8 g) q i a) n _ (oI h.2.2.2)
noncomputable def tl(ks:List Kd)(l:List Str):List Int:=(wk ks).map λw=>((l.count w:Nat):Int)
theorem sk(g:KG ks)(f:j<ks.length):(l.map (dj ks j)).sum=(tl ks l).getD j 0:=by
 have b:j<(wk ks).length:=by rw[AD];exact f
 unfold tl;rw[DN,Aj,AX b];show _=((l.count (wk ks)[j]:Nat):Int)
 induction l with
 |nil=>rfl
 |cons a l d=>
  rw[Ae,Cf,d,show a::l=[a]++l from rfl,Ut];have:dj ks j a=(([a].count (wk ks)[j]:Nat):Int):=by
   unfold dj
   by_cases c:a=(wk ks)[j]
   .rw[pT,c]
    .simp
    .rw[c];exact(nR g.nd).mp (Hr (List.idxOf_lt_length_iff.mpr (Hs b)))
   .rw[pL,List.count_eq_zero.mpr λz=>c (List.mem_singleton.mp z).symm];rfl;intro z;have e:(wk ks).idxOf a<(wk ks).length:=by omega
    exact c (by rw[<- Hr e];simp only[z])
  rw[this];omega
theorem NF{α:Type}{f:α->Int}(h:∀x,0<=f x):∀l:List α,0<=(l.map f).sum
 | []=>by simp
 |a::l=>by rw[Ae,Cf];have:=h a;have:=NF h l;omega
theorem QM(ks:List Kd)(r:Str)(j:Nat)(y:Str):0<=cj ks r j y:=by
 unfold cj;rw[DN];cases e:(cnt ks r y)[j]? with
 |none=>exact Ii _
 |some c=>exact ed (Bi e)
theorem qL(a:j<ks.length):(totC ks r cs).getD j 0=(cs.map (cj ks r j)).sum:=by
 unfold totC;rw[DN,Aj,Kk a];rfl
theorem eB{a b:List Int}(d:a.length=n)(c:b.length=n)(h:∀j,j<n->a.getD j 0=b.getD j 0):a=b:=by
 refine nL (by omega) λj h1 h2=>?_;have:=h j (by omega);rw[DN,DN,AX h1,AX h2]at this;exact this
theorem Rf(ks:List Kd)(l:List Str):(tl ks l).length=ks.length:=by unfold tl;rw[AD,AD]
theorem aF:∀(l:List Int),l.sum=((List.range l.length).map λj=>l.getD j 0).sum
 | []=>rfl
 |a::l=>by
  rw[CH,bK,Ae,Cf,Bu,Cf,aF l];rfl
theorem VI{ks:List Kd}(g:KG ks):∀{l:List Str},(∀x∈l,x∈wk ks)->(tl ks l).sum=(l.length:Int)
 | [],_=>by
  unfold tl;have:((wk ks).map λw=>(((([]:List Str).count w):Nat):Int))=(wk ks).map λ_=>0:=rfl;rw[this]
  induction wk ks with
  |nil=>rfl
  |cons a l b=>rw[Ae,Cf,b];rfl
 |x::l,h=>by
  have hx:=h x (by simp);have b:=VI g (l:=l) λy f=>h y (by simp[f]);have e:∀W:List Str,W.Nodup->(W.map λw=>(((x::l).count w:Nat):Int)).sum=(W.map λw=>((l.count w:Nat):Int)).sum+if x∈W then 1 else 0:=λW nd=>by
   induction W with
   |nil=>rfl
   |cons a W YU=>
    rw[List.nodup_cons]at nd;rw[Ae,Cf,YU nd.2,Ae,Cf]
    by_cases c:x=a
    .subst c;rw[pL nd.1,pT (by simp),ZGX];omega
    .rw[ZGW c]
     by_cases d:x∈W
     .rw[pT d,pT (by simp[d])];omega
     .rw[pL d,pL (by simp[d,c])];omega
  unfold tl at b ⊢;rw[e _ g.nd,pT hx,b,CH];omega
def J3(ks:List Kd):Nat->Br->List Str
 | 0=>λ_=>[]
 |n+1=>λb=>(if b.2=0 then[b.1]else[])++(Bg ks b).flatMap (J3 ks n)
theorem UA(ks:List Kd)(n:Nat)(b:Br):J3 ks (n+1) b=(if b.2=0 then[b.1]else[])++(Bg ks b).flatMap (J3 ks n):=rfl
theorem Lo{α:Type}{f g:α->List Str}:∀{l:List α},(∀x∈l,f x=g x)->l.flatMap f=l.flatMap g
 | [],_=>rfl
 |a::l,h=>by rw[Kj,Kj,h a (by simp),Lo λx hx=>h x (by simp[hx])]
theorem ZW{α:Type}(f:α->List Str):∀l:List α,(((l.flatMap f).length:Nat):Int)=(l.map λx=>(((f x).length:Nat):Int)).sum
 | []=>rfl
 |a::l=>by rw[Kj,Bt,Ae,Cf,<- ZW f l];omega
theorem gN(ks:List Kd):∀(n:Nat)(b:Br),(((J3 ks n b).length:Nat):Int)=wF ks n b
 | 0,b=>rfl
 |n+1,b=>by
  rw[UA,show wF ks (n+1) b=((Bg ks b).map (wF ks n)).sum+(if b.2=0 then 1 else 0)from rfl,Bt]
  have h:=ZW (J3 ks n) (Bg ks b);rw[Ik λc _=>gN ks n c]at h;split
  .rw[Ij];omega
  .rw[Qn];omega
theorem ZDz(h:Top (Ai ks "ahead") T):∀(i:Nat)(b:Br),T[i]?=some b.1->∀n m,i<n->i<m->J3 ks n b=J3 ks m b:=by
 intro i
 induction i using Nat.strongRecOn with
 |_ i a=>
  intro b hx n m g k;cases n with
  |zero=>omega
  |succ n=>cases m with
   |zero=>omega
   |succ m=>
    rw[UA,UA]
    congr 1
    refine Lo λc e=>?_;obtain⟨j,d,f⟩:=KU h hx (IZ e).1;exact a j d c f n m (by omega) (by omega)
noncomputable def I0(ks:List Kd)(b:Br):List Str:=J3 ks fuel b
theorem Yy(ks:List Kd)(b:Br):(((I0 ks b).length:Nat):Int)=wv ks b:=gN ks fuel b
theorem WL(h:Top (Ai ks "ahead") T)(n:T.length<=8){b:Br}(hx:b.1∈T):I0 ks b=(if b.2=0 then[b.1]else[])++(Bg ks b).flatMap (I0 ks):=by
 obtain⟨i,hi,e⟩:=DQ hx;have g:T[i]?=some b.1:=by rw[AX hi,e]
 have l:=Ta;obtain⟨m,a⟩:∃m,m+1=fuel:=⟨8,by omega⟩;have q:I0 ks b=J3 ks (m+1) b:=by unfold I0;rw[a]
 rw[q,UA]
 congr 1
 refine Lo λc d=>?_;obtain⟨j,k,f⟩:=KU h g (IZ d).1;exact ZDz h j c f m fuel (by omega) (by omega)
noncomputable def sQ(ks:List Kd)(l:List Str)(d:Nat):List Str:=l.flatMap λy=>I0 ks (y,d)
theorem Wj(ks:List Kd)(a b:List Str)(d:Nat):sQ ks (a++b) d=sQ ks a d++sQ ks b d:=nO
theorem YG(ks:List Kd)(a:Str)(b:List Str)(d:Nat):sQ ks (a::b) d=I0 ks (a,d)++sQ ks b d:=Kj
theorem ZDI(h:Top (Ai ks "ahead") T)(a:T.length<=8)(hx:x∈T):I0 ks (x,0)=x::sQ ks (FE ks x "next") 0:=by
 rw[WL h a (b:=(x,0)) hx];unfold Bg;rw[pT rfl,pT rfl,Et,Qm];rfl
theorem rR(h:Top (Ai ks "ahead") T)(a:T.length<=8)(hx:x∈T)(d:Nat):I0 ks (x,d+1)=sQ ks (FE ks x "last") d++sQ ks (FE ks x "next") (d+1):=by
 rw[WL h a (b:=(x,d+1)) hx];unfold Bg;rw[pL (ZGp d),pL (ZGp d),Et,nO,Qm,Qm];rfl
noncomputable def GB(ks:List Kd)(P Q:List Str):List Str:=sQ ks P 0++(List.range 9).flatMap λd=>sQ ks Q d++sQ ks P (d+1)
theorem xu(h:Top (Ai ks "ahead") T)(a:T.length<=8)(hx:x∈T)(P Q:List Str):GB ks (x::P) Q=x::GB ks (FE ks x "next" ++ P) (Q++FE ks x "last"):=by
 unfold GB;rw[YG,ZDI h a hx,Wj,Ny,Ny]
 congr 2
 refine Lo λd _=>?_;rw[YG,rR h a hx,Wj,Wj];simp only[BX]
theorem pU(h:sQ ks Q 9=[]):GB ks [] Q=GB ks Q []:=by
 unfold GB;have e:((List.range 9).flatMap λd=>sQ ks Q d++sQ ks [] (d+1))=(List.range 9).flatMap (sQ ks Q):=Lo λd _=>CB _;have c:((List.range 9).flatMap λd=>sQ ks [] d++sQ ks Q (d+1))=(List.range 9).flatMap λd=>sQ ks Q (d+1):=Lo λd _=>Et _;rw[e,c];have a:(List.range (9+1)).flatMap (sQ ks Q)=(List.range 9).flatMap (sQ ks Q)++sQ ks Q 9:=by
  rw[List.range_succ,nO,Kj,List.flatMap_nil,CB]
 have b:(List.range (9+1)).flatMap (sQ ks Q)=sQ ks Q 0++(List.range 9).flatMap λd=>sQ ks Q (d+1):=by
  rw[bK,Kj,Qm]
 rw[h,CB]at a;rw[<- a,b];rfl
theorem mP{ks:List Kd}{T:List Str}(h:Top (Ai ks "ahead") T)(b:T.length<=8):∀{l:List Str},(∀y∈l,y∈T)->sQ ks l 9=[]
 | [],_=>rfl
 |a::l,hl=>by
  rw[YG,mP h b λy c=>hl y (by simp[c]),CB];obtain⟨i,hi,e⟩:=DQ (hl a (by simp));have:=jB h b i (a,9) (by rw[AX hi,e]) (by show i<9;omega);rw[<- Yy]at this;exact List.length_eq_zero_iff.mp (by omega)
noncomputable def Ord(ks:List Kd)(cs:List Str):List Str:=GB ks [] cs
theorem ZDS(g:KG ks)(h:GH ks "ahead" cs T)(n:Nat):∃W,(Bz ks n (C4 "ahead" cs)).2++W=Ord ks cs/\(B1 (Bz ks n (C4 "ahead" cs)).1.th=false->W=[]):=by
 have m:=h.l8 g;have q:=Mm (ks:=ks) (P:=λq=>q.1.r="ahead" /\ Bw q.1=[]/\(∀y∈Aw q.1,y∈T)/\∃P Q,Aw q.1=P++Q/\q.2++GB ks P Q=Ord ks cs) (λq⟨c,a,hT,P,Q,ea,i⟩l=>by
  have hw:AV q.1∈T:=hT _ (by have:=YA l;rw[Me,a]at this;exact this);obtain⟨U,x,V,h1,h2,f,t⟩:=N3 l;obtain⟨L,K⟩:=RA (ks:=ks) h1 h2 f;rcases t with⟨I,j,o⟩|⟨I,j,o,H⟩
  .rw[f]at hw;have w:AI U=[]:=by rw[<- o];exact a
   obtain⟨C,B,A⟩:=fb (BR ks x) (U,[],V);have J:Bw (BS ks q.1)=[]:=by rw[L];unfold Ho;rw[c,C];exact w
   have s:Aw (BS ks q.1)=FE ks x "next" ++ (AI V++FE ks x "last"):=by
    rw[K];unfold Ho;rw[c,B,A];rfl
   have k:x::AI V=P++Q:=by rw[<- j];exact ea
   obtain⟨P',Q',F,E⟩:∃P' Q',AI V=P'++Q'/\GB ks P Q=GB ks (x::P') Q':=by
    cases P with
    |cons p P'=>
     rw[Ny]at k;injection k with u v
     exact⟨P',Q,v,by rw[u]⟩
    |nil=>
     refine⟨AI V,[],(CB _).symm,?_⟩;have D:Q=x::AI V:=k.symm;rw[pU (mP h.1 m λy b=>hT y (by rw[ea];exact b)),D]
   refine⟨c,J,λy b=>?_,FE ks x "next" ++ P',Q'++FE ks x "last", by rw[s,F];simp only[BX],?_⟩
   .rw[s]at b;rcases List.mem_append.mp b with z|z
    .exact Y7 h.1 hw (RP YB z)
    .rcases List.mem_append.mp z with z|z
     .exact hT y (by rw[j];simp[z])
     .exact Y7 h.1 hw (RP aM z)
   .show(q.2++[AV q.1])++_=_;rw[<- i,E,xu h.1 m hw,f,BX];rfl
  .have a:Bw q.1=[]:=a;rw[H]at a;cases a) n (C4 "ahead" cs) ⟨rfl,rfl,λy b=>h.2.2.2 y (by rw[<- Ll cs];exact b),[],cs,Ll cs,rfl⟩
 obtain⟨c,a,hT,P,Q,ea,i⟩:=q;refine⟨GB ks P Q,i,λz=>?_⟩;have:Aw (Bz ks n (C4 "ahead" cs)).1=[]:=by
  have e:=Me (Bz ks n (C4 "ahead" cs)).1;rw[OT z]at e;exact(List.append_eq_nil_iff.mp e.symm).2
 rw[this]at ea;obtain⟨rfl,rfl⟩:=List.append_eq_nil_iff.mp ea.symm;unfold GB;have G:((List.range 9).flatMap λd=>sQ ks [] d++sQ ks [] (d+1))=(List.range 9).flatMap λ_=>[]:=rfl;rw[G];rfl
theorem cU{g:Br->Int}{s:Br->List Str}(a:∀b,(((s b).length:Nat):Int)=g b):∀{bs:List Br}{n m:Int}{b:Br},0<=n->pick g bs n=some (b,m)->(bs.flatMap s)[n.toNat]?=(s b)[m.toNat]?
 | [],_,_,_,_,h=>by cases h
 |c::r,n,m,b,h0,h=>by
  rw[pick]at h;have d:=a c;rw[Kj]
  by_cases k:n<g c
  .rw[pT k]at h;cases h;rw[DO (by omega)]
  .rw[pL k]at h;rw[E8 (by omega),<- cU a (by omega) h]
   congr 1;omega
theorem ZE{ks:List Kd}{T:List Str}(h:Top (Ai ks "ahead") T)(a:T.length<=8):∀(f:Nat)(bs:List Br)(n:Int),(∀b∈bs,∃i,T[i]?=some b.1/\i<f)->0<=n->n<(bs.map (wv ks)).sum->(bs.flatMap (I0 ks))[n.toNat]?=some (Fc ks f bs n)
 | 0,[],n,_,h0,h1=>by simp at h1;omega
 | 0,b::bs,n,hb,_,_=>by obtain⟨i,_,hi⟩:=hb b (by simp);omega
 |f+1,bs,n,hb,h0,h1=>by
  obtain⟨b,m,e,o,l,r⟩:=VN h0 h1;obtain⟨i,hi,t⟩:=hb b o;have k:=Bi hi;have g:∀c∈Bg ks b,∃i,T[i]?=some c.1/\i<f:=λc p=>by
   obtain⟨j,s,q⟩:=KU h hi (IZ p).1;exact⟨j,q,by omega⟩
  have d:=Se h a k;unfold IK at d;rw[cU (Yy ks) h0 e,lK e,WL h a k]
  by_cases c:b.2=0
  .rw[pT c,pT c];rw[pT c]at d
   by_cases z:m=0
   .rw[pT z,z];rfl
   .rw[pL z,<- ZE h a f (Bg ks b) (m - 1) g (by omega) (by omega)];rw[E8 (by rw[Ij];omega),Ij]
    congr 1;omega
  .rw[pL c,pL c,Et];rw[pL c]at d;exact ZE h a f (Bg ks b) m g l (by omega)
theorem ZCB(ks:List Kd)(cs:List Str)(d:Nat):(((sQ ks cs d).length:Nat):Int)=tot ks cs d:=by
 unfold sQ tot;rw[ZW]
 congr 1
 exact Ik λc _=>Yy ks (c,d)
theorem gg{ks:List Kd}{cs T:List Str}(h:Top (Ai ks "ahead") T)(g:T.length<=8)(f:∀c∈cs,c∈T):∀(c d:Nat)(n:Int),0<=n->Gq ks cs c d n=((List.range c).flatMap λj=>sQ ks cs (d+j))[n.toNat]?
 | 0,d,n,_=>rfl
 |c+1,d,n,h0=>by
  have o:(((sQ ks cs (d+0)).length:Nat):Int)=tot ks cs d:=ZCB ks cs d;rw[Pn,bK,Kj,Qm]
  by_cases k:n<tot ks cs d
  .rw[pT k,DO (by omega),<- ZE h g 9 (cs.map λx=>(x,d)) n (λb l=>?_) h0 (by rw[Bu];exact k),Qm]
   .rfl
   .obtain⟨x,hx,rfl⟩:=List.mem_map.mp l;obtain⟨i,hi,e⟩:=DQ (f x hx);exact⟨i,by rw[AX hi,e],by omega⟩
  .rw[pL k,E8 (by omega),gg h g f c (d+1) _ (by omega)];have m:(λa=>sQ ks cs (d+Nat.succ a))=λj=>sQ ks cs (d+1+j):=funext λj=>by rw[show d+Nat.succ j=d+1+j by omega]
   rw[m]
   congr 1;omega
theorem wU(g:KG ks)(h:GH ks "ahead" cs T)(n:Nat):Gq ks cs 9 0 (n:Int)=(Ord ks cs)[n]?:=by
 rw[gg h.1 (h.l8 g) h.2.2.2 9 0 n (by omega)];have:Ord ks cs=(List.range 9).flatMap λj=>sQ ks cs (0+j):=by
  unfold Ord GB;show[]++_=_;rw[Et];exact Lo λd _=>by rw[Qw];exact CB _
 rw[this];rfl
theorem ZEP(th:List AH):Ca th=(th.map (·.1)).map .str:=by unfold Ca;rw[Bu];rfl
def To(C:Addr):Pre:=λl R=>∃(ks:List Kd)(tp:Bool)(cs:List Str)(m:Int)(T:List Str),l=[.is (Ar C ks),.sq tp (cs.map .str),.is (.int m)]/\KG ks/\cs.length<=12/\(∀c∈cs,c∈wk ks)/\0<=m/\GH ks "ahead" cs T/\R=.is (λp=>(∃T,GH ks "ahead" cs T)/\p=bX (Gq ks cs 9 0 m))
def VJ:Pre:=λl R=>∃(ks:List Kd)(h:List Str),l=[.is (.lst (ks.map Kd.P)),.is (.lst (h.map .str))]/\KG ks/\h.length<=1000/\R=.is (λp=>p=.tup ((tl ks h).map .int))
def ah:Pre:=λl R=>∃(ks:List Kd)(cs:List Str)(r:Str)(W:List Str)(c:Str),l=[.is (.lst (ks.map Kd.P)),.is (.lst (cs.map .str)),.is (.str r),.is (.lst (W.map .str))]/\KG ks/\r∈Ct/\W.length<=100/\W[0]?=some c/\c∈cs/\Ig (Ai ks r) W/\(∀x∈W,x∈wk ks)/\R=.is (λp=>p=.bl true)
def Y0(ks:List Kd)(cs T:List Str)(r:Str):Prop:=KG ks/\r∈Ct/\cs.length<=12/\(∀c∈cs,c∈wk ks)/\GH ks r cs T
noncomputable def Am(ks:List Kd)(r:Str)(cs:List Str):Rn×List Str:=Bz ks 60 (C4 r cs)
def WG(C:Addr):Pre:=λl R=>∃(ks:List Kd)(cs T:List Str),l=[.is (Ar C ks),.is (.lst (cs.map .str)),.is (.lst ((Am ks "ahead" cs).2.map .str)),.is (.bl (!B1 (Am ks "ahead" cs).1.th))]/\Y0 ks cs T "ahead" /\ R=.is (λp=>p=.bl true)
def Yn(C:Addr):Pre:=λl R=>∃(ks:List Kd)(cs T:List Str)(r:Str),l=[.is (Ar C ks),.is (.lst (ks.map Kd.P)),.is (.lst (cs.map .str)),.is (.str r),.is (Mb (Am ks r cs))]/\Y0 ks cs T r/\R=.is (λp=>p=.bl true)
theorem V9{α β γ:Type}(f:α->β)(h:α×β->γ):∀W:List α,(W.zip (W.map f)).map h=W.map λw=>h (w,f w)
 | []=>rfl
 |a::W=>by rw[Ae,Im,Ae,V9 f h W];rfl
theorem kg{ks:List Kd}(g:KG ks)(f:Str->Int):∀{l:List Str},(∀x∈l,x∈wk ks)->(((wk ks).zip (tl ks l)).map λq=>q.2 * f q.1).sum=(l.map f).sum
 | [],_=>by
  unfold tl;rw[V9]
  induction wk ks with
  |nil=>rfl
  |cons a l b=>rw[Ae,Cf,b];show(0:Int) * _+_=_;rw[Int.zero_mul];rfl
 |x::l,h=>by
  have hx:=h x (by simp);have b:=kg g f (l:=l) λy i=>h y (by simp[i]);have e:∀W:List Str,W.Nodup->(W.map λw=>(((x::l).count w:Nat):Int) * f w).sum=(W.map λw=>((l.count w:Nat):Int) * f w).sum+if x∈W then f x else 0:=λW nd=>by
   induction W with
   |nil=>rfl
   |cons a W YU=>
    rw[List.nodup_cons]at nd;rw[Ae,Cf,YU nd.2,Ae,Cf]
    by_cases c:x=a
    .subst c;rw[pL nd.1,pT (by simp),ZGX,Int.natCast_add,Int.add_mul];show _+(1:Int) * f x+_=_;omega
    .rw[ZGW c]
     by_cases d:x∈W
     .rw[pT d,pT (by simp[d])];omega
     .rw[pL d,pL (by simp[d,c])];omega
  unfold tl at b ⊢;rw[V9]at b ⊢;show((wk ks).map λw=>(((x::l).count w:Nat):Int) * f w).sum=_;have b:((wk ks).map λw=>((l.count w:Nat):Int) * f w).sum=_:=b;rw[e _ g.nd,pT hx,b,Ae,Cf];omega
theorem gI(ks:List Kd)(w:Str):∀l:List Str,(l.map (LH ks w)).sum=if Dq ks w=true then((l.count w:Nat):Int)else 0
 | []=>by split <;> rfl
 |x::l=>by
  rw[Ae,Cf,gI ks w l,show x::l=[x]++l from rfl,Ut];unfold LH
  by_cases c:x=w
  .subst c;split <;> omega
  .have:[x].count w=0:=List.count_eq_zero.mpr λz=>c (List.mem_singleton.mp z).symm;rw[this];split <;> split <;> omega
theorem qM(h:Y0 ks cs T r):(B1 (Am ks r cs).1.th=false↔(totC ks r cs).sum<=60)/\(B1 (Am ks r cs).1.th=false->totC ks r cs=tl ks (Am ks r cs).2/\((Am ks r cs).1.AK:Int)=IV ks r cs/\Hx ks cs (totC ks r cs)=tl ks ((Am ks r cs).1.th.map (·.1)))/\((Am ks r cs).1.AK:Int)<=IV ks r cs/\(∀j,j<ks.length->(tl ks (Am ks r cs).2).getD j 0<=(totC ks r cs).getD j 0):=by
 obtain⟨g,M,K,N,hT⟩:=h;have I:RI ks r cs T (Am ks r cs):=ZBD g hT 60;have L:=K6 (ks:=ks) 60 (C4 r cs);have D:=hT.l8 g;have hw:∀y∈(Am ks r cs).2,y∈wk ks:=λy i=>hT.2.2.1 y (I.hT y i);have p:∀j,j<ks.length->((AI (Am ks r cs).1.th).map (cj ks r j)).sum+(tl ks (Am ks r cs).2).getD j 0=(totC ks r cs).getD j 0:=λj d=>by
  rw[qL d,<- sk g d];exact I.ph j d
 have R:(Am ks r cs).2.length<=0+60:=L.1;have H:B1 (Am ks r cs).1.th=true->(Am ks r cs).2.length=0+60:=L.2;have c:B1 (Am ks r cs).1.th=false->totC ks r cs=tl ks (Am ks r cs).2:=λz=>by
  refine eB (RO ks r cs) (Rf ks _) λj d=>?_;have:=p j d;rw[OT z]at this;have e0:(([]:List Str).map (cj ks r j)).sum=0:=rfl;rw[e0]at this;omega
 have w:=I.rb (IV ks r cs);have t:=w.mpr (Ii _);refine⟨⟨λz=>?_,λz=>?_⟩,λz=>⟨c z,?_,?_⟩,t.1,λj d=>?_⟩
 .rw[c z,VI g hw];omega
 .cases e:B1 (Am ks r cs).1.th with
  |false=>rfl
  |true=>
   exfalso;have ne:=xZ e;obtain⟨x,hx⟩:=List.exists_mem_of_ne_nil _ ne;have s:=I.GO x hx;have v:=hT.2.2.1 x s;have m:=List.idxOf_lt_length_iff.mpr v;have u:(wk ks).idxOf x<ks.length:=by rw[AD]at m;exact m
   have A:=VI g hw;rw[aF,Rf]at A;have s2:(totC ks r cs).sum=((List.range ks.length).map λj=>(totC ks r cs).getD j 0).sum:=by rw[aF,RO]
   have J:((List.range ks.length).map λj=>(totC ks r cs).getD j 0).sum=((List.range ks.length).map λj=>((AI (Am ks r cs).1.th).map (cj ks r j)).sum).sum+((List.range ks.length).map λj=>(tl ks (Am ks r cs).2).getD j 0).sum:=by
    have:((List.range ks.length).map λj=>(totC ks r cs).getD j 0)=(List.range ks.length).map λj=>((AI (Am ks r cs).1.th).map (cj ks r j)).sum+(tl ks (Am ks r cs).2).getD j 0:=Ik λj d=>(p j (List.mem_range.mp d)).symm;rw[this];generalize List.range ks.length=RL
    induction RL with
    |nil=>rfl
    |cons a b k=>simp only[Ae,Cf];rw[k];omega
   have s4:1<=((List.range ks.length).map λj=>((AI (Am ks r cs).1.th).map (cj ks r j)).sum).sum:=by
    have nn:∀j,0<=((AI (Am ks r cs).1.th).map (cj ks r j)).sum:=λj=>NF (QM ks r j) _;have one:1<=((AI (Am ks r cs).1.th).map (cj ks r ((wk ks).idxOf x))).sum:=by
     have Q:1<=cj ks r ((wk ks).idxOf x) x:=by
      have o:=cX (r:=r) (x:=x) (g:=cnt ks r) u;rw[<- (Pt hT.1 D s).1]at o;have P:dj ks ((wk ks).idxOf x) x=1:=pT rfl;have σ:0<=((Ai ks r x).map λy=>(cnt ks r y).getD ((wk ks).idxOf x) 0).sum:=NF (λy=>QM ks r _ y) _;show 1<=(cnt ks r x).getD ((wk ks).idxOf x) 0;omega
     have:∀l:List Str,x∈l->1<=(l.map (cj ks r ((wk ks).idxOf x))).sum:=λl hx=>by
      induction l with
      |nil=>cases hx
      |cons a b k=>
       rw[Ae,Cf];rcases List.mem_cons.mp hx with rfl|hx
       .have:=NF (QM ks r ((wk ks).idxOf x)) b;omega
       .have:=k hx;have:=QM ks r ((wk ks).idxOf x) a;omega
     exact this _ hx
    have:∀l:List Nat,(wk ks).idxOf x∈l->1<=(l.map λj=>((AI (Am ks r cs).1.th).map (cj ks r j)).sum).sum:=λl hx=>by
     induction l with
     |nil=>cases hx
     |cons a b k=>
      rw[Ae,Cf];rcases List.mem_cons.mp hx with e|hx
      .rw[<- e];have:=NF (f:=λj=>((AI (Am ks r cs).1.th).map (cj ks r j)).sum) nn b;omega
      .have:=k hx;have:=nn a;omega
    exact this _ (List.mem_range.mpr u)
   have:=H e;omega
 .have a0:Aw (Am ks r cs).1=[]/\Bw (Am ks r cs).1=[]:=by
   have:=Me (Am ks r cs).1;rw[OT z]at this;have:=List.append_eq_nil_iff.mp this.symm;exact⟨this.2,this.1⟩
  have B:=(I.rb ((Am ks r cs).1.AK:Int)).mp ⟨Ii _,λy i=>(by rw[a0.2]at i;cases i),λy i=>(by rw[a0.1]at i;cases i)⟩;have:=t.1;omega
 .refine eB (aY ks cs _) (Rf ks _) λj d=>?_;have m:j<(wk ks).length:=by rw[AD];exact d
  have n:(wk ks)[j]?=some (wk ks)[j]:=AX m;have G:=iV (cs:=cs) (C:=totC ks r cs) n;have st:=I.st (wk ks)[j];rw[DN,G];have o:(tl ks ((Am ks r cs).1.th.map (·.1))).getD j 0=(ct (wk ks)[j] (Am ks r cs).1.th:Int):=by
   unfold tl;rw[DN,Aj,n];rfl
  rw[o];show Qc ks cs (totC ks r cs) j (wk ks)[j]=_;unfold Qc;rw[c z];have F:∀f:Str->Int,(((wk ks).zip (tl ks (Am ks r cs).2)).map λq=>q.2 * f q.1).sum=((Am ks r cs).2.map f).sum:=λf=>kg g f hw;have E:(if Dq ks (wk ks)[j]=true then(tl ks (Am ks r cs).2).getD j 0 else 0)=((Am ks r cs).2.map (LH ks (wk ks)[j])).sum:=by
   rw[gI];unfold tl;rw[DN,Aj,n];rfl
  rw[F λx=>pin ks x (wk ks)[j],E];omega
 .have:=p j d;have:=NF (QM ks r j) (AI (Am ks r cs).1.th);omega
theorem Mr{K:ZHa}(zs:List Int):dat K 40 (.tup (zs.map .int)):=λx hx=>by obtain⟨z,_,rfl⟩:=List.mem_map.mp hx;trivial
theorem ZAP{A B:List Int}(f:A.length=n)(d:B.length=n)(h:∀j,j<n->A.getD j 0<=B.getD j 0){z:PV}(c:z∈Fo (A.map .int) (B.map .int)):∃a b:Int,z=.tup [.int a,.int b]/\a<=b:=by
 obtain⟨i,hi,e⟩:=DQ c;unfold Fo at hi e;rw[ZGh,AD,AD]at hi;rw[List.getElem_zipWith,MS,MS]at e;have:=h i (by omega);rw[DN,DN,AX (by omega),AX (by omega)]at this;exact⟨_,_,e.symm,this⟩
theorem ZG5(g:KG ks)(b:r∈Ct)(k:cs.length<=12)(i:∀c∈cs,c∈wk ks):(Am ks r cs).1.th.length<=1000:=by
 have h:=Mm (ks:=ks) (P:=λq=>Nt ks q.2.length q.1) (λq ok f=>by
  have e:(BS ks q.1,q.2++[AV q.1]).2.length=q.2.length+1:=Bt ..;show Nt ks (BS ks q.1,q.2++[AV q.1]).2.length (BS ks q.1);rw[e];exact lX g ok f) 60 (C4 r cs) ⟨b,λy a=>(by obtain⟨c,d,rfl⟩:=List.mem_map.mp a;exact i c d),(by
   show(cs.map _).length<=12+6 * 0;rw[AD];omega)⟩
 have l:=h.len;have l2:(Am ks r cs).2.length<=0+60:=(K6 (ks:=ks) 60 (C4 r cs)).1;show(Bz ks 60 (C4 r cs)).1.th.length<=1000;have j:(Bz ks 60 (C4 r cs)).2.length<=0+60:=l2;omega
theorem sJ{α:Type}(xs:List α)(n:Nat):El xs none (some (n:Int))=xs.take n:=by
 unfold El;rw[HT.VD,HT.ZX,Qk,Qt]
 by_cases h:n<=xs.length
 .rw[MV h]
 .rw[V2 (by omega),FR,Jh (by omega)]
theorem ud(h:n<=60):(Bz ks n (C4 r cs)).2=(Am ks r cs).2.take n:=by
 have:=dF (ks:=ks) n 60 (C4 r cs) h;rw[this];show((Bz ks 60 (C4 r cs)).2).take (0+n)=_;rw[Qw];rfl
theorem uz(h:B1 (Am ks r cs).1.th=true):1<=(Am ks r cs).1.AK:=by
 have q:=Mm (ks:=ks) (P:=λq=>q.2=[]∨1<=q.1.AK) (λq _ a=>by
  right
  show 1<=(if CJ q.1=true∨q.1.AK=0 then q.1.AK+1 else q.1.AK)
  split
  .omega
  .next c=>exact Nat.pos_of_ne_zero λz=>c (.inr z)) 60 (C4 r cs) (.inl rfl)
 refine q.resolve_left λz=>?_;have:=(K6 (ks:=ks) 60 (C4 r cs)).2 h;rw[z]at this;cases this
end Fz
set_option maxHeartbeats 8000000
namespace Pf
open L2 Lw
variable{w:World}{mg:ZHc}{ZS h:Heap}{A1 AB GK K3 Kf f:Addr}{α:Type}{Va Vw XA Xv Y8:Tok}{ZBG n oZ xM:Nat}{l:PySem.W.OpenLaw}{ZDV ug zE:Option Addr}{ZDc ZEQ zU:Array (Option Value)}
abbrev St:=L2.St
noncomputable def top(i:Nat):Stmt:=PySem.Challenge.pw_stirround_k80_whole_ends_without_running.main.body.getD i (.Pass ⟨0,0,0,0⟩)
abbrev VY:Stmt:=top 52
abbrev aA:Stmt:=top 53
abbrev VU:Stmt:=top 54
abbrev XS:Stmt:=top 55
abbrev X3:Stmt:=top 56
abbrev Xm:Stmt:=top 29
abbrev Ym:Stmt:=top 28
abbrev U4:Stmt:=top 11
abbrev Ug:Stmt:=top 27
abbrev VH:Stmt:=HE (top 24) 0
abbrev Tw:Stmt:=top 60
abbrev Yf:Stmt:=top 51
abbrev Tu:Stmt:=top 57
abbrev Zt:Stmt:=top 58
abbrev Ul:Stmt:=HE (top 26) 0
abbrev Zk:Stmt:=HE (top 26) 1
abbrev aN:Stmt:=HE (top 26) 2
abbrev WX:Stmt:=top 13
abbrev YH:Stmt:=top 18
abbrev Ya:Stmt:=HE (top 26) 5
abbrev Vr:Stmt:=HE (top 26) 4
abbrev Z8:Stmt:=top 14
abbrev ZU:Stmt:=HE (top 26) 6
abbrev YM:Stmt:=HE (top 26) 3
abbrev XE:Stmt:=HE (top 24) 2
abbrev VL:Stmt:=HE (top 24) 3
abbrev ax:Stmt:=top 17
abbrev Xz:Stmt:=HE (top 24) 1
abbrev Xd:Stmt:=top 30
abbrev YR:Stmt:=top 25
abbrev Ti:Stmt:=top 37
abbrev S7:Stmt:=top 39
abbrev XW:Stmt:=top 38
abbrev RY:Stmt:=top 43
abbrev aa:Stmt:=top 44
abbrev NY:Stmt:=top 42
abbrev VQ:Stmt:=top 41
abbrev SM:Stmt:=top 40
abbrev Wd:Stmt:=top 33
abbrev Vs:Stmt:=top 36
abbrev TM:Stmt:=top 46
abbrev Rh:Stmt:=top 45
abbrev NW:Stmt:=top 34
abbrev Pz:Stmt:=top 48
abbrev Pu:Stmt:=top 47
abbrev Tt:Stmt:=top 49
abbrev O7:Stmt:=top 35
abbrev Y2:Stmt:=top 63
abbrev SY:Stmt:=top 61
abbrev UK:Stmt:=top 64
abbrev OI:Stmt:=top 59
abbrev X1:Stmt:=top 62
abbrev Mn:Stmt:=top 65
variable{P:Program}{K:ZHa}{fd:FuncData}
def fG{us:List α}(h:us.length=1):∃a,us=[a]:=by
 rcases us with _|⟨a,_|⟨b,us⟩⟩
 .cases h
 .exact⟨a,rfl⟩
 .cases h
def ln2{us:List α}(h:us.length=2):∃a b,us=[a,b]:=by
 rcases us with _|⟨a,us⟩
 .cases h
 .obtain⟨b,rfl⟩:=fG (Qu h);exact⟨a,b,rfl⟩
def eP{us:List α}(h:us.length=3):∃a b c,us=[a,b,c]:=by
 rcases us with _|⟨a,us⟩
 .cases h
 .obtain⟨b,c,rfl⟩:=ln2 (Qu h);exact⟨a,b,c,rfl⟩
def kb{us:List α}(h:us.length=4):∃a b c d,us=[a,b,c,d]:=by
 rcases us with _|⟨a,us⟩
 .cases h
 .obtain⟨b,c,d,rfl⟩:=eP (Qu h);exact⟨a,b,c,d,rfl⟩
def bw{us:List α}(h:us.length=5):∃a b c d e,us=[a,b,c,d,e]:=by
 rcases us with _|⟨a,us⟩
 .cases h
 .obtain⟨b,c,d,e,rfl⟩:=kb (Qu h);exact⟨a,b,c,d,e,rfl⟩
def rK{us:List α}(h:us.length=6):∃a b c d e f,us=[a,b,c,d,e,f]:=by
 rcases us with _|⟨a,us⟩
 .cases h
 .obtain⟨b,c,d,e,f,rfl⟩:=bw (Qu h);exact⟨a,b,c,d,e,f,rfl⟩
local macro_rules | `(tactic| walk_at "bD1")=>`(tactic| (intro _ _ _ _ _ _ us hl;obtain⟨_,e⟩:=fG hl;subst e;rfl))
local macro_rules | `(tactic| walk_at "bD2")=>`(tactic| (intro _ _ _ _ _ _ us hl;obtain⟨_,_,e⟩:=ln2 hl;subst e;rfl))
local macro_rules | `(tactic| walk_at "bD3")=>`(tactic| (intro _ _ _ _ _ _ us hl;obtain⟨_,_,_,e⟩:=eP hl;subst e;rfl))
local macro_rules | `(tactic| walk_at "bD4")=>`(tactic| (intro _ _ _ _ _ _ us hl;obtain⟨_,_,_,_,e⟩:=kb hl;subst e;rfl))
local macro_rules | `(tactic| walk_at "bD5")=>`(tactic| (intro _ _ _ _ _ _ us hl;obtain⟨_,_,_,_,_,e⟩:=bw hl;subst e;rfl))
local macro_rules | `(tactic| walk_at "bD6")=>`(tactic| (intro _ _ _ _ _ _ us hl;obtain⟨_,_,_,_,_,_,e⟩:=rK hl;subst e;rfl))
abbrev nS(K:ZHa)(x:Str)(v:Value):Prop:=PySem.W.nsIn K mainGlobals x=some (some v)
abbrev nN(K:ZHa)(x:Str):Prop:=PySem.W.nsIn K mainGlobals x=some none
open Fz
def ZWM(t:String):Lean.MacroM (Lean.TSyntax `tactic):=do
 let g:Lean.TSyntax `tactic←`(tactic| fail)
 let k←`(tactic| case wk=>rfl)
 let n (s:String):=`(tactic| walk_at $(Lean.quote s):str)
 (t.splitOn " ").foldrM (λs r=>do
  let l:=((s.drop 1).toString.splitOn "/").map λx=>Lean.mkIdent (`Fz++x.toName)
  let h:Lean.Ident:=l.getLast!
  let c:=s.front
  let w:=(h.getId.getString!.toLower.replace "o" "e").replace "i" "e"
  let z←if c=='j' then `($h ?wj ?wk ?_)else if c=='k'||c=='K' then `($h ?wk ?_)else `($h ?_)
  let z←l.dropLast.foldrM (λ(f:Lean.Ident)(z:Lean.Term)=>`($f ($z))) z
  let p←if c=='e' then `(tactic| show ∃_,_=$h _/\_)else if c=='s' then `(tactic| show $h _ _ _)else `(tactic| refine' $z)
  let p←if c=='K'||c=='R'||c=='j' then pure p else `(tactic| with_reducible $p:tactic)
  let q←if c=='e' then `(tactic| refine⟨_,rfl,?_⟩)else if c=='s' then n w else if c=='n' then n "wn" else if c=='p' then n "wp" else if c=='k'||c=='K' then pure k else if c=='j' then `(tactic| ((case wj=>rfl);$k:tactic))else `(tactic| skip)
  `(tactic| first|($p:tactic;$q:tactic) | $r:tactic)) g
local macro_rules | `(tactic| walk_at "wp")=>ZWM "kKL/Py/Bv kKL/Q7/Bv kKL/Py/Py/Bv kKL/Q7/Q7/Bv kKL/Q7/Py/Bv kA4 rAf rEV rLO rGW riW rHN rME rEh rPd rWU rUX rTV rfV rmi rJ8 rHb rBK rVA rT6 rG7 rmE rkh riT rfZ kZFr rYK KzQ KkF KNJ"
local macro_rules | `(tactic| walk_at "wn")=>ZWM "rLR rQz rQJ KT2"
local macro_rules | `(tactic| walk_at "wq")=>do
 let z←ZWM "kNP/Bv kNP/Py/Bv kNP/Q7/Bv kXy kFq kDG kBO"
 `(tactic| first | $z:tactic|(refine Bk (Ba ?_);walk_at "wn")|(refine Bk ?_;walk_at "wp"))
local macro_rules | `(tactic| walk_at "wz")=>`(tactic| first
 | ((with_reducible refine' Sr ?wk ?_);(case wk=>rfl))
 | (refine CY (Ba ?_);walk_at "wn")
 | (refine CY ?_;walk_at "wp"))
local macro_rules | `(tactic| walk_at "wt")=>ZWM "rBW rFx rEw rmK rZz rLe"
local macro_rules | `(tactic| walk_at "we")=>ZWM "rCe rEX rRr rUi rc7 rZBs rDL"
local macro_rules | `(tactic| walk_at "w")=>do
 let z←ZWM "rAQ rET rBl rBN kSX kdZ kbz nGj pEE kir nJH pD4"
 let z1←ZWM "eOV.tp eOV.fz"
 let z2←ZWM "sWn sWq sWz sWt sWe sWo sWi"
 let z3←ZWM "ePV.int ePV.str ePV.bl"
 `(tactic| first | $z1:tactic|((with_reducible show ∃_ _,_=OV.nd NK.lst _ _/\_);refine⟨_,_,rfl,?_⟩)|((with_reducible show ∃_ _ _,_=PV.int _/\_/\_/\_);refine⟨_,_,_,rfl,rfl,rfl,?_⟩)|((with_reducible show Wp _ _ _);first|walk_at "wp" | (refine Ba ?_;walk_at "wn")) | $z2:tactic|((with_reducible show Ws _ _ _ _);$z:tactic) | $z3:tactic|((with_reducible show(_:Bool)=_/\_);refine⟨rfl,?_⟩)|((with_reducible show ∃_ _,_=PV.int _/\L2.C8 _ _=some _/\_);refine⟨_,_,rfl,rfl,?_⟩)|((with_reducible show ∃_,(_=PV.lst _/\_)∨(_=PV.tup _/\_));first|refine⟨_,.inl ⟨rfl,?_⟩⟩|refine⟨_,.inr ⟨rfl,?_⟩⟩)|((with_reducible show ∃_,_=List.map _ _/\_);first|refine⟨_,rfl,?_⟩|refine⟨[],rfl,?_⟩|refine⟨_,RX _ _ _ _,?_⟩))
local macro_rules | `(tactic| walk_at "ww")=>`(tactic| repeat walk_at "w")
local macro_rules | `(tactic| walk_at "z1")=>`(tactic| exact⟨rfl,rfl,rfl,by decide +kernel,rfl,by decide +kernel,by decide +kernel⟩)
local macro_rules | `(tactic| walk_at "z2")=>`(tactic| exact⟨rfl,by decide +kernel,by decide +kernel,rfl,rfl,by decide +kernel,by decide +kernel,by decide +kernel,by decide +kernel⟩)
local macro_rules | `(tactic| walk_at "z3")=>`(tactic| exact⟨rfl,by decide +kernel,by decide +kernel,by decide +kernel,rfl,by decide +kernel,by decide +kernel,by decide +kernel,by decide +kernel⟩)
def jw:B3 ["pot","many","found"] ["pot","many"] (Aa VY):=by walk_at "z1"
variable(QC:AA P w K mg ZS "_law_letters" 1 ["number"] (d5))(Cc:AA P w K mg ZS "_law_take" 1 ["pot","many"] (K8))(BA:mg "len"=none)(WS:AA P w K mg ZS "_law_name" 2 ["pot","names"] (lS K))(De:mg "range"=none)(Zx:AA P w K mg ZS "_law_names" 3 ["pot","many"] (Zn))(Hl:mg "max"=none)(E1:mg "tuple"=none)(Gh:AA P w K mg ZS "check_word" 1 ["words","word"] (AL Nb))(YJ:mg "WHERES"=some (.ref K3))(XI:∀H,B7 K H K3 [.str "next",.str "last",.str "back",.str "first"])(N0:mg "all"=none)(Wf:mg "LETTERS"=some (.str "abcdefghijklmnopqrstuvwxyz" Xv))(Wc:mg "MOST_LETTERS"=some (.int 8 Vw))(XH:AA P w K mg ZS "check_puts" 2 ["words","puts"] (AL VF))(Yh:AA P w K mg ZS "is_name" 1 ["text"] (ZJ))(N7:mg "enumerate"=none)(Z6:mg "MOST_KINDS"=some (.int 8 Y8))(Zd:mg "MOST_PUTS"=some (.int 6 XA))(Vp:AA P w K mg ZS "check_kinds" 3 ["kinds"] (AL ZD))(E5:Bo K A1)(Kb:BQ K A1 "goes_by_word")(HY:BQ K A1 "puts_by_word")(Zh:O8 P w K mg ZS A1 4 ["self","kinds"] (BM (XR A1)))(Gi:mg "list"=none)(X2:mg "Errands"=some (.ref A1))(B9:Bo K AB)(Eo:BQ K AB "awaited")(D7:BQ K AB "gap")(IX:BQ K AB "rounds")(N6:BQ K AB "rule")(ER:BQ K AB "things")(WO:AA P w K mg ZS "gap_behind_put" 1 ["gap","at"] (AL YT))(Vt:AA P w K mg ZS "joins" 1 ["loop","at"] (AL b8))(Zw:AA P w K mg ZS "gap_behind_take" 1 ["gap","place"] (AL Y6))(Ve:CO P w K mg ZS AB "place_by" 2 ["self","where","nexts"] (AL (aZ AB)))(XC:CO P w K mg ZS AB "put_in" 3 ["self","word","at"] (BM (ag AB)))(WI:CO P w K mg ZS AB "take_out" 3 ["self","place"] (BM (Yg AB)))(YC:mg "RULES"=some (.ref Kf))(Xg:∀H,B7 K H Kf [.str "none",.str "ahead",.str "all"])(Dc:CO P w K mg ZS A1 "words" 1 ["self"] (AL (Jf A1)))(Zs:mg "MOST_IN_CROWD"=some (.int 12 Va))(NA:CO P w K mg ZS A1 "goes" 2 ["self","word"] (AL (QV A1)))(GN:CO P w K mg ZS A1 "puts" 2 ["self","word"] (AL (NL A1)))(VB:O8 P w K mg ZS AB 2 ["self","crowd","rule"] (BM (Yw AB)))(Xe:CO P w K mg ZS AB "do_errand" 4 ["self","puts","goes"] (BM (XZ AB)))(RT:CO P w K mg ZS AB "goes_on" 2 ["self"] (AL (VS AB)))(Vg:CO P w K mg ZS AB "tell" 3 ["self"] (BM (X6 AB)))(Gy:AA P w K mg ZS "check_crowd" 2 ["book","crowd"] (AL (Mq A1)))(JZ:AA P w K mg ZS "check_rule" 1 ["rule"] (AL QR))(Zp:mg "Run"=some (.ref AB))(N1:mg "WHERES_AHEAD"=some (.ref GK))(Nr:∀H,B7 K H GK [.str "next",.str "last"])(Hu:AA P w K mg ZS "comers_of" 3 ["book","word","rule"] (AL (Ng A1)))(En:mg "sum"=none)(Pp:AA P w K mg ZS "rounds_to" 1 ["put","known"] (AL R1))(Js:AA P w K mg ZS "sums_of" 1 ["many","length"] (AL OE))(Ms:AA P w K mg ZS "known_rows" 14 ["book","crowd","rule"] (AL (SD A1)))(YY:AA P w K mg ZS "table_of" 15 ["book","crowd","rule"] (AL (VW A1)))(NN:AA P w K mg ZS "way_and_ring" 14 ["book","crowd","rule"] (AL (Rz A1)))(Xr:AA P w K mg ZS "puts_in" 3 ["book","word","kind"] (AL (Yk A1)))(NS:mg "zip"=none)(Mp:AA P w K mg ZS "check_ends" 15 ["book","crowd","rule"] (AL (Ur A1)))(aD:AA P w K mg ZS "standing_behind" 4 ["book","crowd","counts"] (AL (bA A1)))(Hv:AA P w K mg ZS "parts_of" 3 ["book","branch"] (AL (L8 A1)))(Rw:AA P w K mg ZS "nth" 24 ["book","crowd","n"] (AL (To A1)))(YE:AA P w K mg ZS "_law_nths_right" 25 ["book","crowd","heard","over"] (AL (WG A1)))(P0:AA P w K mg ZS "_law_tally" 1 ["kinds","some"] (AL VJ))(Vk:AA P w K mg ZS "reckoned" 16 ["book","crowd","rule"] (AL (Xa A1)))(YX:AA P w K mg ZS "_law_comers" 1 ["kinds","word","rule"] (AL ZP))(Vc:AA P w K mg ZS "_law_book" 6 ["kinds"] (AL (WK A1)))(Wk:AA P w K mg ZS "_law_crowd" 2 ["pot","kinds"] (AL VM))(Zq:AA P w K mg ZS "_law_ended_right" 26 ["book","kinds","crowd","rule","run"] (AL (Yn A1)))(Xx:AA P w K mg ZS "_law_is_way" 3 ["kinds","crowd","rule","way"] (AL ah))(WD:AA P w K mg ZS "_law_kinds" 4 ["pot"] (AL Zc))(Oa:AA P w K mg ZS "_law_pot" 1 ["script","k"] (Pj K))(aS:AA P w K mg ZS "_law_rule" 2 ["pot"] (AL ZQ))(Xp:AA P w K mg ZS "ending" 16 ["book","crowd","rule"] (AL (Y3 A1)))(T7:AA P w K mg ZS "ran" 6 ["book","crowd","rule","most"] (AL (Vl A1)))
def ZBw(F:AM K "_law_take" "_law_take" VY f fd)(m:mg "_law_take"=some (.ref f)):
  AA P w K mg ZS "_law_take" 1 ["pot","many"] (K8):=by
 refine AA.mk F (F.binds (by walk_at "bD2")) m (F.B2 (k:=0) jw (λvs H Q E h=>?_) (λAc A outer s H vs Q E t h=>?_))
 .obtain⟨p,m,rfl,⟨a,b,d,a0,g,b0,n⟩,e,o,q⟩:=h;rfl
 obtain⟨p,m,rfl,⟨a,b,d,a0,g,b0,n⟩,e,o,q⟩:=h;refine⟨_,(AF rfl (BF (Az NB (Ab D3 (qv 0) A8) A8) (AF rfl (Aq 2 jw.nd (B5 Iv (Ab D3 (qv 0) A8) (qv 1)))
   (AF rfl (Od (B5 Yt (Ab D3 (qv 0) A8) (qv 1)) (V8 (qv 0) A8 set_list))
   (AJ rfl (Ao (qv 2))))) BG)
   (AF rfl (Od (B5 Iv (B5 Eu (B5 KA (Ab D3 (qv 0) A8) A8) A8) A8) (V8 (qv 0) A8 set_list))
   (AJ rfl (Ao (B5 Iv (B5 Yt (B5 Iv (B5 KA (Ab D3 (qv 0) A8) (Ab D3 (qv 0) A8)) A8) A8) (qv 1)))))),?_⟩
 refine⟨_,rfl,p,_,_,_,rfl,rfl,AW.of d,rfl,_,_,rfl,rfl,_,rfl,?_⟩;refine BV (λc=>?_) (λc=>?_)
 .have u:0<a:=qB c;refine⟨_,rfl,p,_,_,_,rfl,rfl,AW.of d,rfl,_,rfl,_,_,rfl,rfl,e,?_⟩;refine⟨_,rfl,p,_,_,_,rfl,rfl,AW.of d,rfl,_,rfl,_,_,rfl,rfl,⟨e,Mw (by omega) (by omega)⟩,?_⟩;refine⟨_,rfl,p,_,_,_,rfl,rfl,d,rfl,?_⟩;refine⟨_,rfl,?_⟩;refine q _ _ (Ki _ (by omega)) (MQ _ e) ⟨⟨a / m,b,BC,Int.ediv_nonneg a0 (by omega),nG (Int.ediv_le_self _ a0) g,b0,n⟩,Gm.upd⟩
 .refine⟨_,rfl,p,_,_,_,rfl,rfl,AW.of d,rfl,_,_,rfl,rfl,⟨Mw (by omega) (by omega),by decide +kernel⟩,_,_,rfl,rfl,_,_,rfl,rfl,(by show(0:Int)<2147483647;decide),?_⟩;refine⟨_,rfl,p,_,_,_,rfl,rfl,d,rfl,?_⟩;have j:0<=(b * 69621+12345) % 2147483647:=Ki _ (by decide);have l:(b * 69621+12345) % 2147483647<2147483647:=MQ _ (by decide);generalize r:(b * 69621+12345) % 2147483647=b' at j l;have i:(upd H p (.lst [.int a,.int ((b * 69621+12345) % 2147483647)])) p=some (.lst [.int a,.int b']):=by rw[BC,r]
  refine⟨_,rfl,p,_,_,_,rfl,rfl,AW.of i,rfl,_,rfl,p,_,_,_,rfl,rfl,AW.of i,rfl,_,_,rfl,rfl,⟨Mw (by omega) (by omega),Mw (by omega) (by omega)⟩,_,_,rfl,rfl,(by show(0:Int)<2147483629;decide),?_⟩;refine⟨_,_,rfl,rfl,⟨(by show(0:Int)<64;decide),by decide +kernel⟩,_,rfl,_,_,rfl,rfl,e,?_⟩;exact q _ _ (Ki _ (by omega)) (MQ _ e) ⟨⟨a,b',i,a0,g,j,l⟩,Gm.upd⟩
def RC:B3 ["number","word"] ["number"] (Aa aA):=by walk_at "z1"
def xX(F:AM K "_law_letters" "_law_letters" aA f fd)(m:mg "_law_letters"=some (.ref f)):
  AA P w K mg ZS "_law_letters" 1 ["number"] (d5):=by
 refine AA.mk F (F.binds (by walk_at "bD1")) m (F.B2 (k:=0) RC (λvs H Q E h=>?_) (λAc A outer s H vs Q E x h=>?_))
 .obtain⟨r,rfl,j,p,q⟩:=h;rfl
 obtain⟨r,rfl,j,p,q⟩:=h;refine⟨_,(AF rfl (Aq 1 RC.nd BI)
   (AF rfl (Ck (TB Dw (Lu (Az DF (qv 1) BI) (Ky (Az NB (qv 0) A8))).pt (AF rfl (Aq 1 RC.nd (B5 bb (qv 1) (Ab tV BI (B5 Iv (qv 0) A8))))
   (AJ rfl (Aq 0 RC.nd (B5 Yt (qv 0) A8))))))
   (AJ rfl (Ao (qv 1))))),?_⟩
 obtain⟨n,rfl⟩:=Us j;have l:n<26 ^ 8:=by omega
 rw[Gz]at q;refine⟨λσ' H'=>∃v,σ'=[some v,some (.str (Dg (MA.lets n)))]/\H=H',?_,?_⟩
 .refine⟨λm σ' H'=>∃(k:Nat)(pre:List Nat),σ'=[some (.int k),some (.str (Dg pre))]/\H=H'/\((pre=[]/\k=n/\m=n+2)∨(pre≠[]/\m=k+1/\(0<k->pre++MA.lets k=MA.lets n)/\(k=0->pre=MA.lets n))),⟨n+2,n,[],rfl,rfl,.inl ⟨rfl,rfl,rfl⟩⟩,?_⟩;rintro m σ' H'⟨k,pre,rfl,rfl,o⟩;refine⟨_,rfl,rfl,_,rfl,?_⟩;refine BV (λc=>ZAF ?_) (λc=>⟨_,rfl,_,_,rfl,rfl,_,rfl,?_⟩)
  .have d:pre=[]:=kO.mp (qB c);obtain⟨_,hk,t⟩|⟨h,_⟩:=o
   .have b:pre++MA.lets k=MA.lets n:=by rw[d,hk];rfl
    have a:pre.length+1<=8:=by
     have h1:=rP List.length b;rw[Bt]at h1;have h2:=MA.RS 7 n l;have u:=MA.W4 k;omega
    refine⟨λσ' H'=>σ'=[some (.int ((k:Int) / 26)),some (.str (Dg pre++⟨#[97+((k:Int) % 26).toNat]⟩))]/\H=H',?_,?_⟩
    .rintro σ' H'⟨rfl,rfl⟩;have nx:=l7 b;have g:((k:Int) % 26).toNat=k % 26:=by omega
     have e:(k:Int) / 26=((k / 26:Nat):Int):=by omega
     exact⟨k / 26+1,by omega,k / 26,pre++[97+k % 26],by rw[g,e,eK],rfl,.inr ⟨by simp,rfl,nx.1,nx.2⟩⟩
    .refine⟨_,rfl,_,rfl,_,_,rfl,rfl,(by show(0:Int)<26;decide),_,_,_,rfl,rfl,(by decide +kernel),gZ (Ki _ (by decide)) (MQ _ (by decide)),_,_,rfl,rfl,?_,?_⟩
     .rw[U7];exact small (show pre.length+1<=_ by omega)
     .exact⟨_,rfl,_,_,rfl,rfl,⟨(by show(0:Int)<26;decide),by decide +kernel⟩,rfl,rfl⟩
   .exact absurd d h
  .have d:pre≠[]:=λh=>c (pf (kO.mpr h));obtain⟨h,_⟩|⟨_,t,h1,h2⟩:=o
   .exact absurd h d
   refine BV (λi=>?_) (λi=>?_)
   .have hk:0<k:=by have:(0:Int)<k:=qB i;omega
    have b:=h1 hk;have a:pre.length+1<=8:=by
     have h1:=rP List.length b;rw[Bt]at h1;have h2:=MA.RS 7 n l;have u:=MA.W4 k;omega
    refine⟨λσ' H'=>σ'=[some (.int ((k:Int) / 26)),some (.str (Dg pre++⟨#[97+((k:Int) % 26).toNat]⟩))]/\H=H',?_,?_⟩
    .rintro σ' H'⟨rfl,rfl⟩;have nx:=l7 b;have g:((k:Int) % 26).toNat=k % 26:=by omega
     have e:(k:Int) / 26=((k / 26:Nat):Int):=by omega
     exact⟨k / 26+1,by omega,k / 26,pre++[97+k % 26],by rw[g,e,eK],rfl,.inr ⟨by simp,rfl,nx.1,nx.2⟩⟩
    .refine⟨_,rfl,_,rfl,_,_,rfl,rfl,(by show(0:Int)<26;decide),_,_,_,rfl,rfl,(by decide +kernel),gZ (Ki _ (by decide)) (MQ _ (by decide)),_,_,rfl,rfl,?_,?_⟩
     .rw[U7];exact small (show pre.length+1<=_ by omega)
     .exact⟨_,rfl,_,_,rfl,rfl,⟨(by show(0:Int)<26;decide),by decide +kernel⟩,rfl,rfl⟩
   .have hk:k=0:=by
     have:¬ (0:Int)<k:=λz=>i (pf z);omega
    exact⟨_,by rw[h2 hk],rfl⟩
 .rintro σ' H'⟨v,rfl,rfl⟩;exact⟨_,rfl,q _ (AU.refl _)⟩
def Gk:B3 ["pot","names","some","way","name","number"] ["pot","names"] (Aa VU):=by walk_at "z1"
def ZD6(F:AM K "_law_name" "_law_name" VU f fd)(m:mg "_law_name"=some (.ref f)):
  AA P w K mg ZS "_law_name" 2 ["pot","names"] (lS K):=by
 refine AA.mk F (F.binds (by walk_at "bD2")) m (F.B2 (k:=1) Gk (λvs H Q E h=>?_) (λAc A outer s H vs Q E g h=>?_))
 .obtain⟨p,q,ns,rfl,Y,u,Bd,hN,hL,K1⟩:=h;rfl
 obtain⟨p,q,ns,rfl,Y,u,Bd,hN,hL,K1⟩:=h;refine⟨_,(AF rfl (Aq 2 Gk.nd (DZ (A0 BI (A0 BI (A0 BI (A0 BI (A0 BI (A0 BI (A0 BI (A0 BI (A0 BI (A0 BI (A0 BI (A0 BI (A0 BI A6)))))))))))))))
   (AF rfl (Aq 3 Gk.nd (Ad Cc g (A0 (qv 0) (A0 A8 A6))))
   (AF rfl (Aq 4 Gk.nd (Ab Ay (qv 2) (Ad Cc g (A0 (qv 0) (A0 A8 A6)))))
   (AF rfl (Ck (BF (Az DF (qv 3) A8) (AJ rfl (Aq 4 Gk.nd (Ad QC g (A0 (Ad Cc g (A0 (qv 0) (A0 (B5 JM (B5 Np A8 A8) A8) A6))) A6)))) BG))
   (AF rfl (Ck (BF (RH (Az DF (qv 3) A8) (Sw (Az (aq g.Tj) (qv 1) (GG A6)))).pt (AF rfl (Aq 4 Gk.nd (Ab D3 (qv 1) (Ad Cc g (A0 (qv 0) (A0 (CU Tx BA (A0 (qv 1) A6)) A6)))))
   (AJ rfl (Aq 4 Gk.nd (MI jv (B5 bb (qv 4) (Ad QC g (A0 (Ad Cc g (A0 (qv 0) (A0 A8 A6))) A6))) L4 (Lk A8))))) BG))
   (AF rfl (Ck (BF (RH (Az DF (qv 3) A8) (Sw (Az (aq g.Tj) (qv 1) (GG A6)))).pt (AF rfl (Aq 4 Gk.nd (Ab D3 (qv 1) (Ad Cc g (A0 (qv 0) (A0 (CU Tx BA (A0 (qv 1) A6)) A6)))))
   (AJ rfl (Aq 4 Gk.nd (MI jv (qv 4) L4 (Lk (B5 Eu A8 (Ad Cc g (A0 (qv 0) (A0 (CU k8 BA (A0 (qv 4) A6)) A6))))))))) BG))
   (AF rfl (Aq 5 Gk.nd A8)
   (AF rfl (Ck (TB Dw (Az LQ (qv 4) (qv 1)) (AF rfl (Aq 4 Gk.nd (Ad QC g (A0 (qv 5) A6)))
   (AJ rfl (Aq 5 Gk.nd (B5 Eu (qv 5) A8))))))
   (AJ rfl (Ao (qv 4))))))))))),?_⟩
 have G:(ns.map V.str).length=ns.length:=AD _;have u:AW K H q (ns.map V.str):=AW.of u;refine⟨(by show 13<=sizeLine;decide +kernel),λo Nu=>?_⟩;have HP:o≠p:=by
  obtain⟨_,_,e,_⟩:=Y;exact(Di e Nu).symm
 have g0:C5 p H (upd H o (.tup RN)):=C5.of Y (E7 Nu _);refine⟨_,rfl,p,4,rfl,g0.AZ,by decide,by decide,λd H1 w0 w1 U=>?_⟩;refine⟨_,rfl,_,rfl,p,13,rfl,U.AZ,by decide,by decide,λi H2 i0 i1 s2=>?_⟩;have h2:H2 o=some (.tup RN):=s2.at' (U.at' BC HP) HP;obtain⟨x,hx,nx⟩:=ZFj i0 i1;refine⟨o,_,_,_,rfl,rfl,B7.of h2,hx,?_⟩;have R:=g0.trans (U.trans s2);refine⟨λσ' H'=>∃x,σ'=[some (.ref p),some (.ref q),some (.ref o),some (.int d),some (.str x),none]/\Nm x/\C5 p H H',?_,?_⟩
 .refine⟨_,rfl,rfl,_,rfl,?_⟩;refine BV (λc=>?_) (λc=>?_)
  .refine⟨_,rfl,_,_,rfl,rfl,⟨by decide,by decide,by decide +kernel⟩,_,_,rfl,rfl,p,_,rfl,R.AZ,rN,vR,λr H3 D N s3=>?_⟩;have J:r<26 ^ 8:=Int.lt_trans N ZCK;exact⟨r,rfl,D,J,λH4 s4=>⟨_,rfl,X5 (mT D J),(R.trans s3).trans (C5.of s3.AZ s4)⟩⟩
  .exact⟨x,rfl,nx,R⟩
 clear h2 hx nx s2 R i0 i1;rintro σ' H3⟨y,rfl,t,l⟩;refine⟨λσ' H'=>∃x,σ'=[some (.ref p),some (.ref q),some (.ref o),some (.int d),some (.str x),none]/\Nm x/\C5 p H H',?_,?_⟩
 .refine⟨_,rfl,rfl,_,rfl,?_⟩;refine BV (λc=>?_) (λc=>XF ⟨y,rfl,t,l⟩);refine⟨_,rfl,(by show 0<=sizeLine;decide),λe Z=>?_⟩;have b:=l.trans (C5.of l.AZ (E7 Z (.lst [])));have M:=b.Om u Bd;refine⟨q,e,_,[],rfl,rfl,.inl ⟨M,AW.of BC⟩,L3 ns,rfl,_,rfl,?_⟩;rw[ig];refine BV (λL=>?_) (λL=>⟨y,rfl,t,b⟩);have PR:0<ns.length:=by
   cases ns with
   |nil=>simp at L
   |cons a r=>simp
  refine⟨_,rfl,_,rfl,_,rfl,q,_,rfl,.inl M,p,_,rfl,b.AZ,(by rw[G];omega),(by rw[G];omega),λi H5 i0 i1 T=>?_⟩;rw[G]at i1;have C:=b.trans T;obtain⟨z,X,Yr,_⟩:=bY i0 i1;have B:=hN z Yr;refine⟨q,_,_,_,rfl,rfl,C.Om u Bd,X,?_⟩;refine⟨_,rfl,_,rfl,p,26,rfl,C.AZ,by decide,by decide,λr H6 D N S=>?_⟩;have σ:=C.trans S;have J:r<26 ^ 8:=Int.lt_trans N ZFy;refine⟨r,rfl,D,J,λH7 s7=>?_⟩;have σ:=σ.trans (C5.of σ.AZ s7);have nl:=X5 (n:=r.toNat) (mT D J);have hlen:z.length+(Dg (MA.lets r.toNat)).length<=16:=by have:=B.2.1;have:=nl.2.1;omega
  refine⟨_,_,rfl,rfl,small (by omega),?_⟩;refine⟨_,rfl,_,rfl,small (by rw[lZ];omega),?_⟩;refine⟨_,rfl,d8 (by decide) (by decide) (by rw[lZ];have:=B.1;omega) (λc I=>?_),σ⟩;rw[md]at I;rcases List.mem_append.mp I with I|I
  .exact B.2.2 c I
  .exact nl.2.2 c I
 clear t l;rintro σ' H3⟨y,rfl,t,l⟩;refine⟨λσ' H'=>∃x,σ'=[some (.ref p),some (.ref q),some (.ref o),some (.int d),some (.str x),none]/\Nm x/\C5 p H H',?_,?_⟩
 .refine⟨_,rfl,rfl,_,rfl,?_⟩;refine BV (λc=>?_) (λc=>XF ⟨y,rfl,t,l⟩);refine⟨_,rfl,(by show 0<=sizeLine;decide),λe Z=>?_⟩;have b:=l.trans (C5.of l.AZ (E7 Z (.lst [])));have M:=b.Om u Bd;refine⟨q,e,_,[],rfl,rfl,.inl ⟨M,AW.of BC⟩,L3 ns,rfl,_,rfl,?_⟩;rw[ig];refine BV (λL=>?_) (λL=>⟨y,rfl,t,b⟩);have PR:0<ns.length:=by
   cases ns with
   |nil=>simp at L
   |cons a r=>simp
  refine⟨_,rfl,_,rfl,_,rfl,q,_,rfl,.inl M,p,_,rfl,b.AZ,(by rw[G];omega),(by rw[G];omega),λi H5 i0 i1 T=>?_⟩;rw[G]at i1;have C:=b.trans T;obtain⟨z,X,Yr,_⟩:=bY i0 i1;have B:=hN z Yr;refine⟨q,_,_,_,rfl,rfl,C.Om u Bd,X,?_⟩;have W:=B.1;have OW:=B.2.1;refine⟨_,rfl,_,rfl,_,rfl,_,rfl,small (by omega),p,_,rfl,C.AZ,(by omega),(by omega),λr H6 D N S=>?_⟩;refine⟨_,_,rfl,rfl,_,rfl,_,rfl,small (by omega),?_⟩;exact⟨_,rfl,d8 (by omega) (by omega) W B.2.2,C.trans S⟩
 clear t l;rintro σ' H3⟨y,rfl,t,l⟩;refine⟨λσ' H'=>∃x v,σ'=[some (.ref p),some (.ref q),some (.ref o),some (.int d),some (.str x),some v]/\Nm x/\x∉ns/\C5 p H H',?_,?_⟩
 .refine⟨λm σ' H'=>∃(k:Nat)(x:Str),σ'=[some (.ref p),some (.ref q),some (.ref o),some (.int d),some (.str x),some (.int k)]/\C5 p H H'/\Nm x/\m=ns.length+1 - k/\k<=ns.length+1/\(0<k->x=Dg (MA.lets (k - 1)))/\(∀j,j+1<k->Dg (MA.lets j)∈ns),
   ⟨ns.length+1,0,y,rfl,l,t,rfl,Cg _,λh=>absurd h (by decide),λj h=>absurd h (by omega)⟩,?_⟩
  rintro m σ' H'⟨k,x,rfl,b,nx,rfl,hk,hx,hj⟩;refine⟨_,rfl,_,rfl,q,_,rfl,.inl (b.Om u Bd),rfl,L3 ns,_,rfl,?_⟩;rw[pL (by decide),W6];refine BV (λc=>?_) (λc=>⟨x,_,rfl,nx,λz=>c (pf z),b⟩);have IE:x∈ns:=qB c;have K7:∀j,j<k->Dg (MA.lets j)∈ns:=λj S9=>by
   by_cases e:j+1<k
   .exact hj j e
   .have e2:j=k - 1:=by omega
    rw[e2,<- hx (by omega)];exact IE
  have SU:=qz K7;refine⟨λσ' H'=>σ'=[some (.ref p),some (.ref q),some (.ref o),some (.int d),some (.str (Dg (MA.lets k))),some (.int ((k:Int)+1))]/\C5 p H H',?_,?_⟩
  .rintro σ' H'⟨rfl,b⟩;exact⟨ns.length+1 - (k+1),by omega,k+1,Dg (MA.lets k),rfl,b,X5 (Ko (Eb SU hL) wu),rfl,by omega,λ_=>rfl,λj S9=>K7 j (by omega)⟩
  .refine⟨_,rfl,k,rfl,by omega,?_,λH4 s4=>?_⟩
   .have:(k:Int)<=1000:=by omega
    exact nG this yu
   .rw[Gz];exact⟨_,rfl,_,_,rfl,rfl,rfl,b.trans (C5.of b.AZ s4)⟩
 rintro σ' H'⟨x,v,rfl,nx,hx,b⟩;exact⟨_,rfl,K1 x H' nx hx b⟩
def Yv:B3 ["pot","many","names","k"] ["pot","many"] (Aa XS):=by walk_at "z1"
def og(F:AM K "_law_names" "_law_names" XS f fd)(m:mg "_law_names"=some (.ref f)):
  AA P w K mg ZS "_law_names" 3 ["pot","many"] (Zn):=by
 refine AA.mk F (F.binds (by walk_at "bD2")) m (F.B2 (k:=2) Yv (λvs H Q E h=>?_) (λAc A outer s H vs Q E u h=>?_))
 .obtain⟨p,m,rfl,j,r,o,q⟩:=h;rfl
 obtain⟨p,m,rfl,j,r,o,q⟩:=h;refine⟨_,(AF rfl (Aq 2 Yv.nd (GG A6))
   (AF rfl (Ck (EN Dw rfl (L9 rfl De (A0 (qv 1) A6)) (CV 3 Yv.nd) (AJ rfl (CD (FH Fm V5 V7 O6 (qv 2) (A0 (Ad WS u (A0 (qv 0) (A0 (qv 2) A6))) A6))))))
   (AJ rfl (Ao (qv 2))))),?_⟩
 refine⟨(by show 0<=sizeLine;decide),λl c=>?_⟩;have d:=j.ne c;refine⟨λσ' H'=>∃(ns:List Str)(v:Option V),σ'=[some (.ref p),some (.int m),some (.ref l),v]/\C5 p H H'/\H' l=some (.lst (ns.map V.str))/\(ns.length:Int)=m/\(∀x∈ns,Nm x)/\ns.Nodup,?_,?_⟩
 .refine⟨_,rfl,m,rfl,by omega,by omega,ZFK (n:=m.toNat) (λi σ' H'=>∃(ns:List Str)(v:Option V),σ'=[some (.ref p),some (.int m),some (.ref l),v]/\C5 p H H'/\H' l=some (.lst (ns.map V.str))/\ns.length=i/\(∀x∈ns,Nm x)/\ns.Nodup) ?_ ?_ ?_⟩
  .exact⟨[],none,rfl,(C5.of j (AU.refl H)).upd c d,BC,rfl,λx hx=>absurd hx (by simp),by simp⟩
  .rintro i σ' H' hi⟨ns,v,rfl,g,e,a,b,nd⟩;refine⟨_,rfl,.inl ⟨rfl,_,AW.of e⟩,_,rfl,_,rfl,p,l,ns,rfl,g.AZ,e,d,b,by omega,λx H2 nx hx s2=>?_⟩;refine⟨l,_,_,rfl,rfl,s2.at' e d,Ko (m:=100) (by rw[AD];omega) (by decide +kernel),?_⟩;refine⟨ns++[x],_,rfl,(g.trans s2).upd c d,by rw[BC,C0];rfl,by rw[Bt];simp[a],λy t=>?_,PN nd hx⟩;rcases List.mem_append.mp t with h|h
   .exact b y h
   .have:y=x:=by simpa using h
    rw[this];exact nx
  .rintro σ' H'⟨ns,v,rfl,g,e,a,b,nd⟩;exact⟨ns,v,rfl,g,e,by omega,b,nd⟩
 rintro σ' H'⟨ns,v,rfl,g,e,a,b,nd⟩;exact⟨_,rfl,q l H' ns c g e a b nd⟩
def Hh:B3 ["pot","many","words","shape","kinds","k","puts","j","where","kind"] ["pot"] (Aa X3):=by walk_at "z1"
def cW : ∀ss R,Zc ss R->ss.length=1:=by rintro _ _⟨rfl,rfl⟩;rfl
def ZBZ(F:AM K "_law_kinds" "_law_kinds" X3 f fd)(m:mg "_law_kinds"=some (.ref f)):
  AA P w K mg ZS "_law_kinds" 4 ["pot"] (AL Zc):=by
 refine AA.mk F (F.binds (by walk_at "bD1")) m (F.B2 (k:=3) Hh (λvs H Q E h=>Fz.Bn cW h) (λAc A outer s H vs Q E l h=>?_))
 refine⟨_,(AF rfl (Aq 1 Hh.nd (B5 Eu A8 (Ad Cc l (A0 (qv 0) (A0 A8 A6)))))
   (AF rfl (Aq 2 Hh.nd (Ad Zx l (A0 (qv 0) (A0 (qv 1) A6))))
   (AF rfl (Aq 3 Hh.nd (Ad Cc l (A0 (qv 0) (A0 A8 A6))))
   (AF rfl (Aq 4 Hh.nd (GG A6))
   (AF rfl (Ck (EN Dw rfl (L9 rfl De (A0 (qv 1) A6)) (CV 5 Hh.nd) (AF rfl (Aq 6 Hh.nd (GG A6))
   (AF rfl (Ck (EN Dw rfl (L9 rfl De (A0 (Ab Ay (DZ (A0 A8 (A0 A8 (A0 A8 (A0 A8 (A0 A8 (A0 A8 (A0 A8 A6)))))))) (Ad Cc l (A0 (qv 0) (A0 A8 A6)))) A6)) (CV 7 Hh.nd) (AF rfl (Aq 8 Hh.nd (Ab Ay (DZ (A0 BI (A0 BI (A0 BI (A0 BI A6))))) (Ad Cc l (A0 (qv 0) (A0 A8 A6)))))
   (AF rfl (Aq 9 Hh.nd (Ad Cc l (A0 (qv 0) (A0 (qv 1) A6))))
   (AF rfl (Ck (BF (Az MM (qv 3) A8) (AJ rfl (Aq 9 Hh.nd (B5 Eu (B5 Eu (qv 5) A8) (B5 Iv (qv 9) (CU (ZEO rfl) Hl (A0 A8 (A0 (B5 JM (B5 JM (qv 1) A8) (qv 5)) A6))))))) BG))
   (AJ rfl (BF (Az MM (qv 9) (qv 1)) (AJ rfl (CD (FH Fm V5 V7 O6 (qv 6) (A0 (DZ (A0 (qv 8) (A0 (Ab D3 (qv 2) (qv 9)) A6))) A6)))) BG)))))))
   (AJ rfl (CD (FH Fm bS o7 ZO (qv 4) (A0 (Ad Cc l (A0 (qv 0) (A0 (B5 Eu (qv 5) A8) A6))) (A0 (DZ (A0 (Ab D3 (qv 2) (qv 5)) (A0 (Ib Mh E1 (A0 (qv 6) A6)) (A0 (GZ DF (Ad Cc l (A0 (qv 0) (A0 A8 A6))) A8) A6)))) A6)))))))))
   (AJ rfl (Ao (qv 4)))))))),?_⟩
 refine Fz.Bm h cW ?_;rintro _ _⟨rfl,rfl⟩;show Ws [_,.any,.any,.any,.any,.any,.any,.any,.any,.any] _ _ _
 walk_at "ww"
 refine⟨by decide,by decide,λr a1 b1=>⟨_,rfl,?_⟩⟩;obtain⟨n,rfl⟩:=Us a1;refine AQ (Gj (yq rfl (A4 rfl ⟨_,rfl,by omega,by omega,λws hl hN nd=>?_⟩)));refine Jk 2 rfl ?_
 walk_at "ww"
 refine⟨by decide,by decide,λG s0 s1=>?_⟩
 walk_at "ww"
 refine⟨by decide,?_⟩;refine AQ (ET (FF (λ_ i A9=>∃(ks:List Kd)(J I g d b:Slot),A9=[.AZ,.is (.int (1+(n:Int))),.is (.lst (ws.map .str)),.is (.int G),.own (ks.map Kd.P),J,I,g,d,b]/\(wk ks).Perm (ws.take i)/\∀k∈ks,k.ps.length<=6/\∀p∈k.ps,p.1∈WH/\p.2∈ws) ?_))
 walk_at "ww"
 rw[Hw];refine⟨by omega,by omega,⟨[],_,_,_,_,_,rfl,.refl _,λk hk=>absurd hk Ak⟩,?_,?_⟩
 .rintro k p A9 u⟨ks,J,I,g,d,b,rfl,v,ok⟩;obtain⟨hk,rfl⟩:=Rv u;have X:=v.length_eq;rw[AD,DR]at X;refine Fp ?_
  walk_at "ww"
  refine⟨by decide,?_⟩;refine AQ (ET (FF (λ_ j A9=>∃(a:List (Str×Str))(g d b:Slot),A9=[.AZ,.is (.int (1+(n:Int))),.is (.lst (ws.map .str)),.is (.int G),.own (ks.map Kd.P),.is (.int k),.own (a.map B4),g,d,b]/\a.length<=j/\∀q∈a,q.1∈WH/\q.2∈ws) ?_))
  walk_at "ww"
  refine⟨by decide,_,.inr ⟨rfl,rfl,?_⟩⟩
  walk_at "ww"
  refine⟨by decide,by decide,λt Y t1=>?_⟩;obtain⟨m,hm,lm⟩:=uF Y t1;refine⟨_,_,rfl,hm,_,rfl,by omega,by omega,?_⟩;rw[Hw,Gz];refine⟨⟨[],_,_,_,rfl,As _,λq M=>absurd M Ak⟩,?_,?_⟩
  .rintro j p A9 u⟨a,g,d,b,rfl,lq,y⟩;obtain⟨hj,rfl⟩:=Rv u;refine Fp ?_
   walk_at "ww"
   refine⟨by decide,_,.inr ⟨rfl,rfl,?_⟩⟩
   walk_at "ww"
   refine⟨by decide,by decide,λt2 V U=>?_⟩;obtain⟨C,D,L⟩:=ZAa V U;refine⟨_,_,rfl,L,?_⟩
   walk_at "ww"
   refine⟨by omega,dD (by omega),λo a3 b3=>?_⟩;refine M9 (λA9=>∃o:Int,A9=[.AZ,.is (.int (1+(n:Int))),.is (.lst (ws.map .str)),.is (.int G),.own (ks.map Kd.P),.is (.int k),.own (a.map B4),.is (.int j),.is (.str C),.is (.int o)]/\0<=o) ?_ ?_
   .walk_at "ww"
    refine BV (λc=>?_) (λc=>BN ⟨o,rfl,a3⟩)
    walk_at "ww"
    have T:0<(if 1+(n:Int) - 1 - k > 1 then 1+(n:Int) - 1 - k else 1):=by split <;> omega
    have ZH0:=Ki o (Int.ne_of_gt T);exact⟨T,_,rfl,_,rfl,by omega⟩
   rintro _⟨o,rfl,k0⟩
   walk_at "ww"
   refine BV (λc=>?_) (λc=>BN ⟨a,_,_,_,rfl,by omega,y⟩);have c':=qB c;obtain⟨x,rfl⟩:=Us k0;have W:x<ws.length:=by omega
   have σ:L2.C8 (ws.map PV.str) (x:Int)=some (.str ws[x]):=NV (by omega) (by rw[Gz,Aj,AX W];rfl);refine SX rfl (G7 ?_)
   walk_at "ww"
   refine⟨_,_,rfl,σ,?_⟩
   walk_at "ww"
   refine⟨by show 2<=100000;decide,by rw[AD];omega,a++[(C,ws[x])],.is (.int j),.is (.str C),.is (.int x),?_,?_,?_⟩
   .rw[C0];rfl
   .rw[Bt,Ij];omega
   .intro q M;rcases List.mem_append.mp M with z|z
    .exact y q z
    .rw[List.mem_singleton.mp z];exact⟨D,Hs W⟩
  .rintro A9⟨a,g,d,b,rfl,lq,y⟩;have S:k<ws.length:=by omega
   have σ:L2.C8 (ws.map PV.str) (k:Int)=some (.str ws[k]):=NV (by omega) (by rw[Gz,Aj,AX S];rfl);refine dZ rfl ?_
   walk_at "ww"
   refine⟨by omega,dD (by omega),λR a9 b9=>⟨_,rfl,a9,by rw[AD];omega,?_⟩⟩;refine G7 ?_
   walk_at "ww"
   refine⟨_,_,rfl,σ,?_⟩
   walk_at "ww"
   refine⟨by decide,by decide,λZ V U=>?_⟩
   walk_at "ww"
   refine⟨by show 3<=100000;decide,by rw[AD];omega,ks.take R.toNat++⟨ws[k],a,alike (.int Z) (.int 1)⟩ :: ks.drop R.toNat,.is (.int k),.own (a.map B4),g,d,b,?_,?_,?_⟩
   .rw[<- Qp,<- Km,C0];rfl
   .rw[Qs S];show(List.map Kd.w (_++_::_)).Perm _;rw[C0,Ae,Qp,Km];refine(List.perm_middle.trans (List.Perm.cons _ ?_)).trans (List.perm_append_comm (l₁:=[ws[k]]));rw[bM];exact v
   .intro kk N;rcases List.mem_append.mp N with z|z
    .exact ok kk (Qq z)
    .rcases List.mem_cons.mp z with z|z
     .rw[z];exact⟨by show a.length<=6;omega,y⟩
     .exact ok kk (ZGi z)
 .rintro A9⟨ks,J,I,g,d,b,rfl,v,ok⟩;refine Jk 4 rfl ?_;have B:(wk ks).Perm ws:=by
   have e:ws.take (1+(n:Int)).toNat=ws:=Jh (by omega);rw[e]at v;exact v
  have ll:=B.length_eq;rw[AD]at ll;refine D4 (A4 rfl ⟨ks,rfl,by omega,by omega,B.nodup_iff.mpr nd,λk hk=>hN _ (B.mem_iff.mp (List.mem_map.mpr ⟨k,hk,rfl⟩)),λk hk=>⟨(ok k hk).1,λp u=>⟨((ok k hk).2 p u).1,B.mem_iff.mpr ((ok k hk).2 p u).2⟩⟩⟩)
def ZB6:B3 ["words","word"] ["words","word"] (Aa Xm):=by walk_at "z1"
def d6 : ∀ss R,Nb ss R->ss.length=2:=by rintro _ _⟨ws,d,x,rfl,_,_,_,rfl⟩;rfl
def ZBz(F:AM K "check_word" "check_word" Xm f fd)(m:mg "check_word"=some (.ref f)):
  AA P w K mg ZS "check_word" 1 ["words","word"] (AL Nb):=by
 refine AA.mk F (F.binds (by walk_at "bD2")) m (F.B2 (k:=0) ZB6 (λvs H Q E h=>Fz.Bn d6 h) (λAc A outer s H vs Q E a h=>?_))
 refine⟨_,(AJ rfl (BF (ZAy (bu (EO a) (qv 1) (qv 0)) (dO Na (qv 1) (qv 0) (by with_unfolding_all rfl))) (AJ rfl J0) BG)),?_⟩;refine Fz.Bm h d6 ?_;rintro _ _⟨ws,d,x,rfl,hd,b,hx,rfl⟩;show Ws [_,_] _ _ _;refine Bl ?_;rcases hd with rfl|⟨xs,rfl⟩
 .refine ze (BW (T6 (A4 rfl ⟨x,rfl,DG rfl ⟨_,rfl,?_⟩⟩)));refine⟨_,rfl,C9 ?_ (BN ⟨_,rfl,rfl⟩)⟩;rw[pf hx];decide
 .refine ZDo (Fx (ZBl (A4 rfl (A4 rfl ⟨_,_,.inr x,rfl,rfl,_,rfl,?_⟩))));rw[P2,pf hx];exact C9 (by decide) (BN ⟨_,rfl,rfl⟩)
def m6:B3 ["words","puts","put"] ["words","puts"] (Aa Ym):=by walk_at "z1"
def fJ : ∀ss R,VF ss R->ss.length=2:=by rintro _ _⟨ws,ps,rfl,_,_,rfl⟩;rfl
def yJ(F:AM K "check_puts" "check_puts" Ym f fd)(m:mg "check_puts"=some (.ref f)):
  AA P w K mg ZS "check_puts" 2 ["words","puts"] (AL VF):=by
 refine AA.mk F (F.binds (by walk_at "bD2")) m (F.B2 (k:=1) m6 (λvs H Q E h=>Fz.Bn fJ h) (λAc A outer s H vs Q E c h=>?_))
 refine⟨_,(AJ rfl (EN Dw rfl (CS (qv 1)) (CV 2 m6.nd) (AF rfl (BF (Az Na (Ab Ay (qv 2) A8) (J4 (v:=.ref K3) (by rfl) YJ rfl)) (AJ rfl J0) BG)
   (AJ rfl (CD (Ad Gh c (A0 (qv 0) (A0 (Ab Ay (qv 2) A8) A6)))))))),?_⟩
 refine Fz.Bm h fJ ?_;rintro _ _⟨ws,ps,rfl,b,d,rfl⟩;show Ws [_,_,.any] _ _ _;have C:Ga K K3 (WH.map .str):=Ga.of XI rfl rfl;refine FF (λ_ i A9=>∃s2:Slot,A9=[.is (.lst (ws.map .str)),.is (.lst (ps.map B4)),s2]) ?_
 walk_at "ww"
 refine⟨⟨_,rfl⟩,?_,?_⟩
 .rintro k p A9 a⟨s2,rfl⟩;rw[Aj]at a;obtain⟨q,ex,rfl⟩:=Option.map_eq_some_iff.mp a;refine Fp ?_;have sq:=d q (Bi ex);refine AQ (Bl (BW (Sn (neg:=true) C (BK (BO rfl ⟨rfl,Af ⟨_,_,rfl,rfl,q.1,rfl,_,rfl,?_⟩⟩)))));rw[pf sq.1];refine C9 (by decide) (BN ?_);refine Fj (wp_call (AS (A4 rfl (AS (BK (BO rfl ⟨rfl,Af ⟨_,_,rfl,rfl,Ax ⟨_,⟨ws,_,q.2,rfl,.inl rfl,b,sq.2,rfl⟩,?_⟩⟩⟩))))));rintro _ rfl;exact⟨_,rfl⟩
 .rintro A9⟨s2,rfl⟩;exact⟨_,rfl,rfl⟩
def uA:B3 ["text"] ["text"] (Aa U4):=by walk_at "z1"
noncomputable abbrev Sc(l):=Scope.mk .function l false false []
def qR:=Sc [(".0",.local),("sign",.local),("LETTERS",.globalImplicit)]
def vQ:Cv ["text"] (Aa U4) qR "sign" [] []:=by walk_at "z2"
def ZCQ(F:AM K "is_name" "is_name" U4 f fd)(m:mg "is_name"=some (.ref f)):
  AA P w K mg ZS "is_name" 1 ["text"] (ZJ):=by
 refine AA.mk F (F.binds (by walk_at "bD1")) m (F.B2 (k:=0) uA (λvs H Q E h=>?_) (λAc A outer s H vs Q E j h=>?_))
 .obtain⟨x,rfl,hx,q⟩:=h;rfl
 obtain⟨x,rfl,hx,q⟩:=h;refine⟨_,(AJ rfl (Ao (YF (ZEp LC LC A8 (CU k8 BA (A0 (qv 0) A6)) (J4 (v:=.int 8) (by rfl) Wc ⟨_,rfl⟩)) (OH (CU (kU rfl) N0 (A0 (FK rfl vQ (zV (qv 0)) (λ_ _ _ _=>by exact ES) (λ_ _ _ _=>by exact(GZ p7 (qv 0) (J4 (v:=.str "abcdefghijklmnopqrstuvwxyz") (by rfl) Wf ⟨_,rfl⟩)))) A6)))))),?_⟩;refine⟨_,rfl,_,rfl,small (by omega),_,_,rfl,rfl,_,rfl,?_⟩;refine BV (λc=>?_) (λc=>⟨_,rfl,XF ?_⟩)
 .refine⟨_,_,rfl,rfl,_,rfl,?_⟩;refine BV (λa=>?_) (λa=>?_)
  .refine⟨_,rfl,x,rfl,λacc B8=>sZ (λ_=>true) cZ B8 (by rw[<- bB,<- IQ];exact small (by omega)) (λi v H' Q' _ _ h=>h H' (AU.refl _)) (λi v H' Q' g _ _ h=>?_) (λH' d b=>?_)⟩
   .obtain⟨l,rfl⟩:=signs_get g;exact⟨_,rfl,_,_,rfl,rfl,h H' (AU.refl _)⟩
   .rw[u6]at b;refine⟨acc,_,rfl,AW.of b,?_⟩;rw[all_map];have e:isNm x=x.cps.toList.all UO:=by unfold isNm;rw[c,a];rfl
    rw[<- e];exact q H' d
  .have e:isNm x=false:=by unfold isNm;rw[Bool.eq_false_iff.mpr a];simp
   rw[<- e];exact q H (AU.refl _)
 .have e:isNm x=false:=by unfold isNm;rw[Bool.eq_false_iff.mpr c];simp
  rw[<- e];exact q H (AU.refl _)
def QB:B3 ["kinds","words","number","kind"] ["kinds"] (Aa Ug):=by walk_at "z1"
def zJ:=Sc [(".0",.local),("kind",.local)]
def pk:Cv ["kinds","words","number","kind"] (Aa Ug) zJ "kind" [] []:=by walk_at "z2"
def c9 : ∀ss R,ZD ss R->ss.length=1:=by rintro _ _⟨ks,rfl,_,rfl⟩;rfl
def ZBN(F:AM K "check_kinds" "check_kinds" Ug f fd)(m:mg "check_kinds"=some (.ref f)):
  AA P w K mg ZS "check_kinds" 3 ["kinds"] (AL ZD):=by
 refine AA.mk F (F.binds (by walk_at "bD1")) m (F.B2 (k:=2) QB (λvs H Q E h=>Fz.Bn c9 h) (λAc A outer s H vs Q E d h=>?_))
 refine⟨_,(AF rfl (BF (VE (bc LC LC A8 (CU Fd BA (A0 (qv 0) A6)) (J4 (v:=.int 8) (by rfl) Z6 ⟨_,rfl⟩))) (AJ rfl J0) BG)
   (AF rfl (UY (i:=1) QB.nd rfl (Or.inl rfl) rfl pk (CS (qv 0)) (λ_ _ _ _=>by exact ES) (λ_ _ _ _=>by exact(Ab (show D2 _ (D1 K)from Ay) (qv 0) A8)))
   (AF rfl (Ck (EN Dw rfl (bf rfl N7 (A0 (qv 0) A6)) (PU rfl (Fw (CV 2 QB.nd) (Fw (CV 3 QB.nd) Pq))) (AF rfl (BF (VE (J1 (Ad Yh d (A0 (Ab Ay (qv 3) A8) A6)))) (AJ rfl J0) BG)
   (AF rfl (BF (Az LQ (Ab Ay (qv 3) A8) (MI OY (qv 1) L4 (Lk (qv 2)))) (AJ rfl J0) BG)
   (AJ rfl (BF (Az NB (CU Fd BA (A0 (Ab Ay (qv 3) A8) A6)) (J4 (v:=.int 6) (by rfl) Zd ⟨_,rfl⟩)) (AJ rfl J0) BG))))))
   (AJ rfl (EN Dw rfl (CS (qv 0)) (CV 3 QB.nd) (AJ rfl (CD (Ad XH d (A0 (qv 1) (A0 (Ab Ay (qv 3) A8) A6)))))))))),?_⟩
 refine Fz.Bm h c9 ?_;rintro _ _⟨ks,rfl,g,rfl⟩;show Ws [_,.any,.any,.any] _ _ _;have l1:=g.l1;have l8:=g.l8
 walk_at "ww"
 rw[AD];refine HG (pf (by omega)) ?_;refine Af ⟨_,rfl,_,rfl,?_⟩;rw[pf (show(ks.length:Int)<=8 by omega)];refine C9 (by decide) (BN ?_);refine AQ (Gj (Eg FY (λ_=>true) (λk=>PV.str k.w) (DL (CY (A4 rfl ⟨_,.inl ⟨rfl,ks,rfl,by omega,λk _=>Ew rfl,λk _ _=>BK (BO rfl ⟨rfl,Af ⟨_,_,rfl,rfl,rfl⟩⟩),?_⟩⟩))) ZFH));rw[List.filter_eq_self.mpr λ_ _=>rfl];refine Jk 1 rfl ?_;have r:(ks.map λk=>PV.str k.w)=(wk ks).map PV.str:=by rw[Bu];rfl
 rw[r];show Ws [.is (.lst (ks.map FY)),.is (.lst ((wk ks).map .str)),.any,.any] _ _ _;refine AQ (ET (FF (λ_ i A9=>∃s2 a:Slot,A9=[.is (.lst (ks.map FY)),.is (.lst ((wk ks).map .str)),s2,a]) (dq (CY (A4 rfl ⟨_,.inl ⟨rfl,rfl,⟨_,_,rfl⟩,?_,?_⟩⟩)))))
 .rintro i q A9 n⟨s2,a,rfl⟩;obtain⟨x0,hx,rfl⟩:=i8 n;rw[Aj]at hx;obtain⟨k,ex,rfl⟩:=Option.map_eq_some_iff.mp hx;have hi:=(List.getElem?_eq_some_iff.mp ex).1;have b:=Bi ex;refine lN ⟨_,_,rfl,?_⟩
  walk_at "ww"
  refine uI (BK (BO rfl ⟨rfl,Af ⟨_,_,rfl,rfl,k.w,rfl,Eb (g.nm k b).2.1 (by decide),_,rfl,?_⟩⟩));rw[va (g.nm k b)];refine C9 (by decide) (BN ?_)
  walk_at "ww"
  rw[show El (wk ks) none (some (i:Int))=(wk ks).take i from ZEv (by rw[AD];omega)];refine C9 (λc=>?_) (BN ?_)
  .obtain⟨j,o,l⟩:=DQ (qB c);rw[DR,AD]at o;rw[Nz]at l;have q:=List.pairwise_iff_getElem.mp g.nd j i (by rw[AD];omega) (by rw[AD];exact hi) (by omega);refine q (l.trans ?_);rw[MS,(List.getElem?_eq_some_iff.mp ex).2]
  refine Bl (BW (ME (J8 (Bk (BK (BO rfl ⟨rfl,Af ⟨_,_,rfl,rfl,_,.inl ⟨rfl,?_⟩⟩⟩))))))
  walk_at "ww"
  rw[AD];refine C9 (λc=>?_) (BN ⟨_,_,rfl⟩);have:=qB c;have:=(g.ps k b).1;omega
 .rintro A9⟨s2,a,rfl⟩;refine FF (λ_ i A9=>∃s2 a:Slot,A9=[.is (.lst (ks.map FY)),.is (.lst ((wk ks).map .str)),s2,a]) ?_
  walk_at "ww"
  refine⟨⟨_,_,rfl⟩,?_,?_⟩
  .rintro i p A9 e⟨s2,a,rfl⟩;rw[Aj]at e;obtain⟨k,ex,rfl⟩:=Option.map_eq_some_iff.mp e;have b:=Bi ex;refine Fp ?_;refine Fj (wp_call (AS (A4 rfl (AS (BK (BO rfl ⟨rfl,Af ⟨_,_,rfl,rfl,Ax ⟨_,⟨wk ks,k.ps,rfl,by rw[AD];omega,(g.ps k b).2,rfl⟩,?_⟩⟩⟩))))));rintro _ rfl;exact⟨_,_,rfl⟩
  .rintro A9⟨s2,a,rfl⟩;exact⟨_,rfl,rfl⟩
def kD:B3 ["self","kinds","kind"] ["self","kinds"] (Aa VH):=by walk_at "z1"
def lE:∀ss R,(XR A1) ss R->ss.length=2:=by rintro _ _⟨dx,a,ks,rfl,_,rfl⟩;rfl
def ZCs(F:AM K "__init__" "Errands.__init__" VH f fd)(o:Mk K A1 f):
  O8 P w K mg ZS A1 4 ["self","kinds"] (BM (XR A1)):=by
 refine⟨f,fd,F.B2 (k:=3) kD (λvs H Q E h=>Fz.IU lE h) (λAc A outer s H vs Q E d h=>?_),(F.binds (by walk_at "bD2")),o⟩
 refine⟨_,(AF rfl (CD (Ad Vp d (A0 (qv 1) A6)))
   (AF rfl (IS (qv 0) TF)
   (AF rfl (IS (qv 0) TF)
   (AJ rfl (EN Dw rfl (CS (qv 1)) (CV 2 kD.nd) (AF rfl (Ow (EO d) (CT (qv 0)) (Ab Ay (qv 2) A8) (Ib Mh E1 (A0 (Ab Ay (qv 2) A8) A6)))
   (AJ rfl (Ow (EO d) (CT (qv 0)) (Ab Ay (qv 2) A8) (Ab Ay (qv 2) A8))))))))),?_⟩
 refine Fz.Oi h lE ?_;rintro _ _⟨dx,a,ks,rfl,g,rfl⟩;show Ws [_,_,.any] _ _ _;refine AQ (Fj (wp_call (AS (A4 rfl (Ax ⟨_,⟨ks,rfl,g,rfl⟩,?_⟩)))));rintro _ rfl;refine AQ (Jr (i:=0) (Ue λb=>Bv rfl ⟨true,A1,dx,[],a,[],rfl,rfl,E5,HY,by decide,Ak,?_⟩));rw[OV.EF];show Ws [.ow true (.nd (.obj A1 dx ["puts_by_word"]) a [.nd (.BD []) b []]),.is (.lst (ks.map FY)),.any] _ _ _;refine AQ (Jr (i:=0) (Ue λc=>Bv rfl ⟨true,A1,dx,_,a,_,rfl,rfl,E5,Kb,by decide,Ak,?_⟩));rw[OV.EF];have l8:=g.l8;refine FF (λ_ i A9=>∃(s2:Slot),A9=[.ow true (J5 A1 dx a b c (ks.take i)),.is (.lst (ks.map FY)),s2]) ?_
 walk_at "ww"
 refine⟨⟨_,rfl⟩,?_,?_⟩
 .rintro i p A9 e⟨s2,rfl⟩;rw[Aj]at e;obtain⟨k,ex,rfl⟩:=Option.map_eq_some_iff.mp e;have hi:=(List.getElem?_eq_some_iff.mp ex).1;have nk:k.w∉wk (ks.take i):=λm=>by
   obtain⟨j,r,l⟩:=DQ m;rw[AD,DR]at r;rw[MS,Nz]at l;have q:=List.pairwise_iff_getElem.mp g.nd j i (by rw[AD];omega) (by rw[AD];exact hi) (by omega);refine q ?_;rw[MS,MS,l,(List.getElem?_eq_some_iff.mp ex).2]
  have n:(wk (ks.take i)).Nodup:=by
   rw[show wk (ks.take i)=(wk ks).take i from Qp];exact g.nd.sublist (ZGj _ _)
  refine Fp ?_;refine AQ (U8 (i:=0) (t:=J5 A1 dx a b c (ks.take i)) (Dy (NJ rfl (Bk (BK (BO rfl ⟨rfl,Af ⟨_,_,rfl,rfl,_,.inl ⟨rfl,?_⟩⟩⟩))))));refine ML (Bv rfl ⟨A1,dx,_,a,_,0,_,rfl,E5,HY,rfl,rfl,true,b,_,_,rfl,rfl,by rw[AD,DR];omega,SG n,Ak,BK (BO rfl ⟨rfl,Af ⟨_,_,rfl,rfl,.inr k.w,rfl,?_⟩⟩)⟩);rw[Et,Mi nk,Sb nk];unfold J5;rw[OV.JU (show _=some _ from rfl),OV.EF];refine U8 (i:=0) (t:=.nd (.obj A1 dx Dl) a [.nd (.BD (Bb (wk (ks.take i)++[k.w]))) b ((ks.take i).map (λk=>.fz (.tup (k.ps.map B4)))++[.fz (.tup (k.ps.map B4))]),.nd (.BD (Bb (wk (ks.take i)))) c ((ks.take i).map λk=>.fz (.bl k.g))]) (Dy (BK (BO rfl ⟨rfl,Af ⟨_,_,rfl,rfl,?_⟩⟩)));refine ML (Bv rfl ⟨A1,dx,_,a,_,1,_,rfl,E5,Kb,by decide +kernel,rfl,true,c,_,_,rfl,rfl,by rw[AD,DR];omega,SG n,Ak,BK (BO rfl ⟨rfl,Af ⟨_,_,rfl,rfl,.inr k.w,rfl,?_⟩⟩)⟩);rw[Et,Mi nk,Sb nk,OV.JU (show _=some _ from rfl),OV.EF];refine⟨.is (FY k),?_⟩;rw[Jy ex];simp only[wk,C0,Ae,GY];rfl
 .rintro A9⟨s2,rfl⟩;rw[AD,FR];exact⟨_,_,_,_,rfl,rfl,rfl,b,c,rfl⟩
def Ma:B3 ["kinds","handed","book","word","puts","goes"] ["kinds"] (Aa Tw):=by walk_at "z1"
def rA:=Sc [(".0",.local),("word",.local),("puts",.local),("goes",.local),("list",.globalImplicit)]
def ZA2:IH ["kinds","handed","book","word","puts","goes"] (Aa Tw) rA ["word","puts","goes"] [] []:=by walk_at "z3"
def fw:∀ss R,(WK A1) ss R->ss.length=1:=by rintro _ _⟨ks,rfl,_,rfl⟩;rfl
def ZEe(F:AM K "_law_book" "_law_book" Tw f fd)(m:mg "_law_book"=some (.ref f)):
  AA P w K mg ZS "_law_book" 6 ["kinds"] (AL (WK A1)):=by
 refine AA.mk F (F.binds (by walk_at "bD1")) m (F.B2 (k:=5) Ma (λvs H Q E h=>Fz.Bn fw h) (λAc A outer s H vs Q E I h=>?_))
 refine⟨_,(AF rfl (ZFd (i:=1) Ma.nd rfl (Or.inl rfl) rfl ZA2 (.cons (.cons (.cons .nil))) (λ_=>rfl) (λ_=>rfl) (CS (qv 0)) (λ_ _ _ _=>by exact ES) (λ_ _ _ _=>by exact(DZ (A0 (qv 0) (A0 (Ib (show Du _ (.type "list") (Fz.fj K)from Fz.ZFb) Gi (A0 (qv 1) A6)) (A0 (qv 2) A6))))))
   (AF rfl (Aq 2 Ma.nd (eV Zh I (by decide) X2 (A0 (qv 1) A6)))
   (AF rfl (Ck (EN Dw rfl (yS (qv 1)) (PU rfl (Fw (CV 3 Ma.nd) (Fw (CV 4 Ma.nd) (Fw (CV 5 Ma.nd) Pq)))) (AJ rfl (CD (FH Fm V5 V7 O6 (qv 4) (A0 (DZ (A0 BI (A0 (qv 3) A6))) A6))))))
   (AF rfl (CD (rG Fm PySem.F.slot_list_clear PySem.F.type_list_clear p9 (qv 1)))
   (AJ rfl (Ao (qv 2))))))),?_⟩
 refine Fz.Bm h fw ?_;rintro _ _⟨ks,rfl,g,rfl⟩;show Ws [_,.any,.any,.any,.any,.any] _ _ _;have l8:=g.l8;refine AQ (KH (pO (λx u=>∃(k:Kd)(b:Addr),x=k.P/\u=.tp [.fz (.str k.w),.nd .lst b ((k.ps.map B4).map .fz),.fz (.bl k.g)]) (DL (CY (A4 rfl ⟨_,.inl ⟨rfl,by rw[AD];omega,λx hx=>?_,λl us o L=>?_⟩⟩)))))
 .obtain⟨k,B,rfl⟩:=List.mem_map.mp hx;refine⟨_,rfl,rfl,Ew rfl,?_⟩;refine SI (FW (Dy (A4 rfl (FW (Tv (T2 rfl (BO rfl λb=>FW (Dy (A4 rfl (Oc ⟨λ_ h=>absurd h Ak,λ_ h=>absurd h Ak,λ_ h=>absurd h Ak,by show 3<=100000;decide,rfl,k,b,rfl,rfl⟩))))))))))
 have R:∃bs:List Addr,bs.length=ks.length/\us=Ea ks bs:=hC o L;obtain⟨bs,y,rfl⟩:=R;show Ws [.is (.lst (ks.map Kd.P)),.ow false (.nd .lst l (Ea ks bs)),.any,.any,.any,.any] _ _ _;refine AQ (KH (uE ?_));show Wx [.is (.lst (ks.map Kd.P)),.is (OV.nd .lst l (Ea ks bs)).pv,.any,.any,.any,.any] _ _;refine k6 (Jz (A4 rfl (GA λx dx=>⟨_,⟨dx,x,ks,by rw[rV ks bs l y],g,rfl⟩,?_⟩)));rintro _ _⟨rfl,N,M,rfl⟩;refine⟨rfl,_,_,rfl,rfl,vH _ _ _ _ _ _,?_⟩;show Ws [.is (.lst (ks.map Kd.P)),.ow false (.nd .lst l (Ea ks bs)),.ow false (J5 A1 dx x N M ks),.any,.any,.any] _ _ _;refine Yu 2 rfl ?_;rw[ZDx];show Ws [.is (.lst (ks.map Kd.P)),.ow false (.nd .lst l (Ea ks bs)),.is (Ar A1 ks),.any,.any,.any] _ _ _;refine AQ (ET (ZG3 (i:=1) (a0:=l) ks.length (λn A9=>∃(us:List OV)(v s4 t:Slot),A9=[.is (.lst (ks.map Kd.P)),.ow false (.nd .lst l us),.is (Ar A1 ks),v,s4,t]/\us.length=ks.length/\∀(j:Nat)u,us[j]?=some u->∃(k:Kd)(b:Addr)(a:List PV),u=.tp [.fz (.str k.w),.nd .lst b (a.map .fz),.fz (.bl k.g)]/\a.length<=7/\(n<=j->a.length<=6)) ⟨_,_,_,_,rfl,jX ks bs y,λj u d=>?_⟩ (λn A9 S J=>?_) ?_))
 .obtain⟨k,b,B,rfl⟩:=gR ks bs y d;have:=(g.ps k B).1;exact⟨k,b,_,rfl,by rw[AD];omega,λ_=>by rw[AD];exact this⟩
 .obtain⟨us,v,s4,t,rfl,o,d⟩:=J;refine⟨false,us,rfl,o,λAg=>?_⟩;obtain⟨u,r⟩:∃u,us[n]?=some u:=⟨_,AX (by omega)⟩;obtain⟨k,b,a,rfl,T,C⟩:=d n u r;have C:=C (As _);refine⟨_,r,zA ?_⟩;show Ws [.is (.lst (ks.map Kd.P)),.ow false (.nd .lst l us),.is (Ar A1 ks),.is (.str k.w),.raw (ptr b),.is (.bl k.g)] _ _ _;have at':(OV.nd .lst l us).at [n,1]=some (.nd .lst b (a.map .fz)):=by rw[OV.Kq,r];show OV.at (.tp [.fz (.str k.w),.nd .lst b (a.map .fz),.fz (.bl k.g)]) [1]=_;rw[OV.My];exact OV.JR
  refine ZFZ (i:=1) (zt (j:=4) (p:=[n,1]) rfl rfl at' ⟨false,b,_,rfl,rfl,by rw[AD];omega,Dy (G7 (Ce (EV (Ce (A4 rfl (EX ⟨by show 2<=100000;decide,?_⟩))))))⟩);refine⟨Ak,us.set n (.tp [.fz (.str k.w),.nd .lst b ((a++[PV.tup [.str "first",.str k.w]]).map .fz),.fz (.bl k.g)]),.is (.str k.w),.raw (ptr b),.is (.bl k.g),?_,by rw[MT];exact o,λj u q=>?_⟩
  .rw[OV.JU r,OV.Q0 (show _=some _ from rfl),OV.EF,C0];rfl
  .by_cases c:j=n
   .subst c;rw[DP (by omega)]at q;cases q;exact⟨k,b,_,rfl,by rw[Bt];show _+1<=_;omega,λz=>by omega⟩
   .rw[DH (CC c)]at q;obtain⟨G,σ,D,e,h1,h2⟩:=d j u q;exact⟨G,σ,D,e,h1,λz=>h2 (by omega)⟩
 .rintro A9⟨us,v,s4,t,rfl,o,d⟩;refine AQ (r8 (i:=1) (Bv rfl ⟨false,l,us,rfl,rfl,?_⟩));exact D4 (A4 rfl rfl)
def Og:B3 ["script","k","cell","rest_here"] ["script","k"] (Aa Yf):=by walk_at "z1"
def ZGH(F:AM K "_law_pot" "_law_pot" Yf f fd)(m:mg "_law_pot"=some (.ref f)):
  AA P w K mg ZS "_law_pot" 1 ["script","k"] (Pj K):=by
 refine AA.mk F (F.binds (by walk_at "bD2")) m (F.B2 (k:=0) Og (λvs H Q E h=>?_) (λAc A outer s H vs Q E u h=>?_))
 .obtain⟨a,ns,k,rfl,b,e,k1,q⟩:=h;rfl
 obtain⟨a,ns,k,rfl,b,e,k1,q⟩:=h;refine⟨_,(AF rfl (Aq 2 Og.nd A8)
   (AF rfl (Ck (BF (Az MM (qv 1) (CU Tx BA (A0 (qv 0) A6))) (AJ rfl (Aq 2 Og.nd (B5 Iv (Ab D3 (qv 0) (qv 1)) (B5 KA (B5 KA (B5 KA (B5 Np A8 A8) (B5 Np A8 A8)) (B5 Np A8 A8)) (B5 Np A8 A8))))) BG))
   (AF rfl (Aq 3 Og.nd A8)
   (AF rfl (Ck (BF (Az Ri (qv 2) (B5 Np A8 A8)) (AJ rfl (Aq 3 Og.nd (qv 2))) BG))
   (AJ rfl (Ao (GG (A0 (qv 3) (A0 (B5 Iv (B5 KA (B5 Eu (B5 Eu (B5 Iv (qv 2) A8) (B5 KA A8 (qv 1))) A8) A8) A8) A6))))))))),?_⟩
 have j:(ns.map V.int).length=ns.length:=AD _;refine⟨λσ' H'=>∃c:Int,σ'=[some (.ref a),some (.int k),some (.int c),none]/\H=H'/\0<=c/\c<10 ^ 256,?_,?_⟩
 .refine⟨_,rfl,_,rfl,a,_,rfl,.inl b,_,_,rfl,rfl,_,rfl,?_⟩;refine BV (λc=>?_) (λc=>?_)
  .have t:k<(((ns.map V.int).length:Nat):Int):=qB c;rw[j]at t;have hk:k.toNat<ns.length:=by omega
   have i:C8 (ns.map V.int) k=some (.int ns[k.toNat]):=NV e (by rw[Aj,AX hk] <;> rfl)
   refine⟨_,rfl,_,rfl,a,_,_,_,rfl,rfl,b,i,_,_,rfl,rfl,⟨by decide,by decide,by decide +kernel⟩,_,_,rfl,rfl,⟨by decide,by decide,by decide +kernel⟩,_,_,rfl,rfl,⟨by decide +kernel,by decide +kernel⟩,_,_,rfl,rfl,⟨by decide,by decide,by decide +kernel⟩,_,_,rfl,rfl,⟨by decide +kernel,by decide +kernel⟩,
    _,_,rfl,rfl,⟨by decide,by decide,by decide +kernel⟩,_,_,rfl,rfl,⟨by decide +kernel,by decide +kernel⟩,_,_,rfl,rfl,(by show(0:Int)<_;decide +kernel),?_⟩
   exact⟨_,rfl,rfl,Ki _ (by decide +kernel),MQ _ (by decide +kernel)⟩
  .exact⟨0,rfl,rfl,by decide,by decide +kernel⟩
 rintro σ' H'⟨c,rfl,rfl,r,o⟩;refine⟨λσ' H'=>∃d:Int,σ'=[some (.ref a),some (.int k),some (.int c),some (.int d)]/\H=H'/\0<=d/\d<10 ^ 256,?_,?_⟩
 .refine⟨_,rfl,_,_,rfl,rfl,⟨by decide,by decide,by decide +kernel⟩,_,_,rfl,rfl,_,rfl,?_⟩;refine BV (λ_=>?_) (λ_=>?_)
  .exact⟨_,rfl,c,rfl,rfl,r,o⟩
  .exact⟨0,rfl,rfl,by decide,by decide +kernel⟩
 rintro σ' H'⟨d,rfl,rfl,n,l⟩;have e0:0<=c % 2147483629:=Ki _ (by decide);have v:c % 2147483629<2147483629:=MQ _ (by decide);refine⟨_,rfl,_,rfl,_,_,rfl,rfl,(by show(0:Int)<2147483629;decide),_,rfl,_,_,rfl,rfl,⟨by decide +kernel,Mw (by omega) (by omega)⟩,_,_,rfl,rfl,_,_,rfl,rfl,_,_,rfl,rfl,⟨Mw (by omega) (by omega),by decide +kernel⟩,_,_,rfl,rfl,(by show(0:Int)<2147483647;decide),?_⟩;refine⟨(by show 2<=sizeLine;decide),λp g=>?_⟩;exact q p _ g (E7 g _) ⟨d,_,BC,n,l,Ki _ (by decide),MQ _ (by decide)⟩
def i6:B3 ["pot","kinds","many"] ["pot","kinds"] (Aa Tu):=by walk_at "z1"
def oG:=Sc [(".0",.local),("k",.local),("_law_take",.globalImplicit),("len",.globalImplicit),("kinds",.free),("pot",.free)]
def ZFm:Cv ["pot","kinds","many"] (Aa Tu) oG "k" ["kinds","pot"] [1,0]:=by walk_at "z2"
def ly : ∀ss R,VM ss R->ss.length=2:=by rintro _ _⟨ks,rfl,_,rfl⟩;rfl
def ve(F:AM K "_law_crowd" "_law_crowd" Tu f fd)(m:mg "_law_crowd"=some (.ref f)):
  AA P w K mg ZS "_law_crowd" 2 ["pot","kinds"] (AL VM):=by
 refine AA.mk F (F.binds (by walk_at "bD2")) m (F.B2 (k:=1) i6 (λvs H Q E h=>Fz.Bn ly h) (λAc A outer s H vs Q E b h=>?_))
 refine⟨_,(AF rfl (Aq 2 i6.nd (Ab Ay (DZ (A0 A8 (A0 A8 (A0 A8 (A0 A8 (A0 A8 (A0 A8 (A0 A8 (A0 A8 A6))))))))) (Ad Cc b (A0 (qv 0) (A0 A8 A6)))))
   (AJ rfl (Ao (FK rfl ZFm (L9 rfl De (A0 (qv 2) A6)) (λ_ _ _ _=>by exact ES) (λ_ _ _ _=>by exact(Ab (show D2 _ (D1 K)from Ay) (Ab (show D2 _ (M4 K)from D3) (qv 0) (Ad Cc b (A0 (qv 1) (A0 (CU (show Du _ (.builtin "len") (Yo K)from Fd) BA (A0 (qv 0) A6)) A6)))) A8)))))),?_⟩
 refine Fz.Bm h ly ?_;rintro _ _⟨ks,rfl,g,rfl⟩;show Ws [_,_,.any] _ _ _;have l1:=g.l1;have l8:=g.l8
 walk_at "ww"
 refine⟨by decide,?_⟩
 walk_at "ww"
 refine⟨by decide,by decide,λt d t1=>?_⟩;obtain⟨z,e,v⟩:=p8 d t1;refine⟨_,_,rfl,e,?_⟩;refine JH (qN (λ_ p=>∃c∈wk ks,p=.str c) ?_)
 walk_at "ww"
 rw[Gz];refine⟨by omega,by omega,by rw[Hw];omega,λx hx=>Ew rfl,λx hx=>?_,λys Lr o=>?_⟩
 .walk_at "ww"
  rw[AD];refine⟨by omega,by omega,λq j u=>?_⟩;obtain⟨i,rfl⟩:=Us j;have a:i<ks.length:=by omega
  refine⟨_,_,rfl,EU (by rw[Aj,AX a];rfl),_,.inr ⟨rfl,rfl,?_⟩⟩
  walk_at "ww"
  exact⟨_,List.mem_map.mpr ⟨_,Hs a,rfl⟩,rfl⟩
 .rw[Hw]at Lr;have all:∀y∈ys,∃c∈wk ks,y=.str c:=λy l=>by
   obtain⟨q,a,r⟩:=DQ l;have h1:ys[q]?=some y:=by rw[AX a,r]
   exact o q _ y (AX (show q<(Ka z).length by rw[Hw];omega)) h1
  obtain⟨cs,rfl,n⟩:=Vx all;exact⟨cs,rfl,by rw[AD]at Lr;omega,n⟩
def pd:B3 ["pot"] ["pot"] (Aa Zt):=by walk_at "z1"
def dy : ∀ss R,ZQ ss R->ss.length=1:=by rintro _ _⟨rfl,rfl⟩;rfl
def ZBx(F:AM K "_law_rule" "_law_rule" Zt f fd)(m:mg "_law_rule"=some (.ref f)):
  AA P w K mg ZS "_law_rule" 2 ["pot"] (AL ZQ):=by
 refine AA.mk F (F.binds (by walk_at "bD1")) m (F.B2 (k:=1) pd (λvs H Q E h=>Fz.Bn dy h) (λAc A outer s H vs Q E a h=>?_))
 refine⟨_,(AJ rfl (Ao (Ab Ay (DZ (A0 BI (A0 BI (A0 BI A6)))) (Ad Cc a (A0 (qv 0) (A0 A8 A6)))))),?_⟩;refine Fz.Bm h dy ?_;rintro _ _⟨rfl,rfl⟩;show Ws [_] _ _ _
 walk_at "ww"
 refine⟨by decide,?_⟩
 walk_at "ww"
 refine⟨by decide,by decide,λt b t1=>?_⟩;obtain⟨r,a,e⟩:=qt b t1;exact⟨_,_,rfl,e,r,a,rfl⟩
def ZDA:B3 ["self","crowd","rule"] ["self","crowd","rule"] (Aa Ul):=by walk_at "z1"
def ZG4:=Sc [(".0",.local),("word",.local)]
def vt:Cv ["self","crowd","rule"] (Aa Ul) ZG4 "word" [] []:=by walk_at "z2"
def gn:∀ss R,(Yw AB) ss R->ss.length=3:=by rintro _ _⟨dx,a,tp,cs,r,rfl,_,rfl⟩;rfl
def vh(F:AM K "__init__" "Run.__init__" Ul f fd)(b:Mk K AB f):
  O8 P w K mg ZS AB 2 ["self","crowd","rule"] (BM (Yw AB)):=by
 refine⟨f,fd,F.B2 (k:=1) ZDA (λvs H Q E h=>Fz.IU gn h) (λAc A outer s H vs Q E d h=>?_),(F.binds (by walk_at "bD3")),b⟩
 refine⟨_,(AF rfl (IS (qv 0) (qv 2))
   (AF rfl (IS (qv 0) (Ib Zl Gi (A0 (qv 1) A6)))
   (AF rfl (IS (qv 0) (FK rfl vt (CS (qv 1)) (λ_ _ _ _=>by exact ES) (λ_ _ _ _=>by exact FG)))
   (AF rfl (IS (qv 0) A8)
   (AJ rfl (IS (qv 0) A8)))))),?_⟩
 refine Fz.Oi h gn ?_;rintro _ _⟨dx,a,tp,cs,r,rfl,c,rfl⟩;show Ws [_,_,_] _ _ _;refine AQ (Jr (i:=0) (Dy (A4 rfl (Bv rfl ⟨true,AB,dx,_,a,_,rfl,rfl,B9,N6,by decide,Ak,?_⟩))));rw[OV.EF];show Ws [.ow true (.nd (.obj AB dx ["rule"]) a [.fz (.str r)]),_,_] _ _ _;refine AQ (Jr (i:=0) (Tv (T2 rfl (Y9 (af rfl λaT=>Bv rfl ⟨true,AB,dx,_,a,_,rfl,rfl,B9,ER,by decide,Ak,?_⟩)))));rw[OV.EF];show Ws [.ow true (.nd (.obj AB dx ["rule","things"]) a [.fz (.str r),.nd .lst aT ((cs.map .str).map .fz)]),_,_] _ _ _;refine AQ (Jr (i:=0) (t:=.nd (.obj AB dx ["rule","things"]) a [.fz (.str r),.nd .lst aT ((cs.map .str).map .fz)]) (Tv (Eg PV.str (λ_=>true) (λ_=>.bl true) (DL (af rfl ?_)) str_inj)));refine⟨cs,rfl,by omega,λx _=>Ew rfl,λx _ _=>LO rfl,λaW=>Bv rfl ⟨true,AB,dx,_,a,_,rfl,rfl,B9,Eo,by decide,Ak,?_⟩⟩;rw[OV.EF,List.filter_eq_self.mpr (λ_ _=>rfl)];show Ws [.ow true (.nd (.obj AB dx ["rule","things","awaited"]) a [.fz (.str r),.nd .lst aT ((cs.map .str).map .fz),.nd .lst aW ((cs.map λ_=>PV.bl true).map .fz)]),_,_] _ _ _;refine AQ (Jr (i:=0) (Dy (Af (Bv rfl ⟨true,AB,dx,_,a,_,rfl,rfl,B9,D7,by decide,Ak,?_⟩))));rw[OV.EF];show Ws [.ow true (.nd (.obj AB dx ["rule","things","awaited","gap"]) a [.fz (.str r),.nd .lst aT ((cs.map .str).map .fz),.nd .lst aW ((cs.map λ_=>PV.bl true).map .fz),.fz (.int 0)]),_,_] _ _ _;refine Jr (i:=0) (Dy (Af (Bv rfl ⟨true,AB,dx,_,a,_,rfl,rfl,B9,IX,by decide,Ak,?_⟩)));rw[OV.EF];refine⟨_,_,_,_,rfl,rfl,rfl,aT,aW,?_⟩;unfold EI;rw[ZDf,ZDB];rfl
def xB:B3 ["self"] ["self"] (Aa Zk):=by walk_at "z1"
def mU:∀ss R,(VS AB) ss R->ss.length=1:=by rintro _ _⟨s,rfl,rfl⟩;rfl
def ZG8(F:AM K "goes_on" "Run.goes_on" Zk f fd)(a:Meth K AB "goes_on" f):
  CO P w K mg ZS AB "goes_on" 2 ["self"] (AL (VS AB)):=by
 refine⟨f,fd,F.B2 (k:=1) xB (λvs H Q E h=>Fz.Bn mU h) (λAc A outer s H vs Q E b h=>?_),(F.binds (by walk_at "bD1")),a,B9⟩
 refine⟨_,(AJ rfl (Ao (GZ LQ FG (CT (qv 0))))),?_⟩;refine Fz.Bm h mU ?_;rintro _ _⟨s,rfl,rfl⟩;show Ws [_] _ _ _;refine D4 (jL (LO ⟨_,rfl,Bk (JP (A4 rfl ⟨AB,Em,_,2,_,rfl,B9,Eo,by decide +kernel,rfl,?_⟩))⟩));exact⟨_,.inl ⟨rfl,_,Xu _,by rw[WM];rfl⟩⟩
def Zr:B3 ["self","goes_round","place"] ["self"] (Aa aN):=by walk_at "z1"
def cV:∀ss R,(X6 AB) ss R->ss.length=1:=by rintro _ _⟨a,s,t,rfl,_,_,_,rfl⟩;rfl
def we(F:AM K "tell" "Run.tell" aN f fd)(l:Meth K AB "tell" f):
  CO P w K mg ZS AB "tell" 3 ["self"] (BM (X6 AB)):=by
 refine⟨f,fd,F.B2 (k:=2) Zr (λvs H Q E h=>Fz.IU cV h) (λAc A outer s H vs Q E v h=>?_),(F.binds (by walk_at "bD1")),l,B9⟩
 refine⟨_,(AF rfl (Aq 1 Zr.nd (GZ Na FG (MI OY (CT (qv 0)) (Lk (CT (qv 0))) L4)))
   (AF rfl (Ck (BF (Lu (J1 (qv 1)) (Ky (Az DF (CT (qv 0)) A8))).pt (AJ rfl (zi (qv 0) A8 RQ)) BG))
   (AF rfl (Aq 2 Zr.nd (FH Fm V6 o6 ua (CT (qv 0)) (A0 FG (A0 (Zy (J1 (qv 1)) A8 (CT (qv 0))) A6))))
   (AF rfl (Od FG (V8 (CT (qv 0)) (qv 2) set_list))
   (AF rfl (IS (qv 0) (B5 Eu (qv 2) A8))
   (AJ rfl (Ao (Ab D3 (CT (qv 0)) (qv 2))))))))),?_⟩
 refine Fz.RZ h cV ?_;rintro _ _⟨a,s,t,rfl,⟨dx,aT,aW,rfl⟩,n,u,rfl⟩;unfold EI;show Ws [.ow true (Cn AB dx a aT aW s.r (Ca s.th) (DB s.th) s.gap s.AK),.any,.any] _ _ _;refine AQ (EE (jL (LO ⟨_,rfl,Bk (Ba (QJ (NP (Qf rfl B9 Eo ⟨aW,_,rfl,rfl,?_⟩))))⟩)))
 walk_at "ww"
 refine Mo rfl B9 D7 ?_
 walk_at "ww"
 obtain⟨x,hx,b,d⟩:=m8 n;have m:=(List.getElem?_eq_some_iff.mp hx).1;refine⟨(s.th.map (·.2)).drop s.gap,by rw[lY,Xu,<- Km],?_⟩
 have q:(!decide (true∈(s.th.map (·.2)).drop s.gap))=CJ s:=by unfold CJ;rw[WM,Km]
 show Ws [.ow true (Cn AB dx a aT aW s.r (Ca s.th) (DB s.th) s.gap s.AK),.is (.bl (!decide (true∈(s.th.map (·.2)).drop s.gap))),.any] _ _ _
 rw[q];refine M9 (λA9=>A9=[.ow true (Cn AB dx a aT aW s.r (Ca s.th) (DB s.th) s.gap (Cj s).AK),.is (.bl (CJ s)),.any]) ?_ ?_
 .have g:CJ s=true∨s.AK=0->Ws [.ow true (Cn AB dx a aT aW s.r (Ca s.th) (DB s.th) s.gap s.AK),.is (.bl (CJ s)),.any] (OX K (Au 0) (tC (V.int 1)) (KR λi j=>i+j) "rounds") (λA9=>A9=[.ow true (Cn AB dx a aT aW s.r (Ca s.th) (DB s.th) s.gap (Cj s).AK),.is (.bl (CJ s)),.any]) (.mt λp t'=>p=.str (AV s)/\GV AB a (Cj s) t'):=λc=>by
   refine oP (i:=0) rfl B9 IX ?_;rw[show(Cj s).AK=s.AK+1 from pT c];rfl
  refine ET (Bl (Le (Fx (A4 rfl ⟨_,rfl,BV (λc=>HG rfl (g (.inl c))) (λc=>?_)⟩))));refine BW (Eh (du rfl B9 IX (Af ⟨rfl,_,rfl,BV (λe=>g (.inr ?_)) (λe=>BN ?_)⟩)))
  .have:(s.AK:Int)=0:=by simpa[alike]using e
   omega
  .rw[show(Cj s).AK=s.AK from pL λz=>z.elim c λz=>e (by rw[z];rfl)]
 rintro _ rfl;refine M9 (λA9=>A9=[.ow true (Cn AB dx a aT aW s.r (Ca s.th) (DB s.th) s.gap (Cj s).AK),.is (.bl (CJ s)),.is (.int (By s:Nat))]) ?_ ?_
 .refine EE (zr (NP (Qf rfl B9 Eo ⟨aW,_,rfl,rfl,_,Xu _,Yc (Fx (A4 rfl ⟨_,rfl,BV (λc=>?_) (λc=>?_)⟩))⟩)))
  .rw[pT c]at b d;exact Af ⟨0,rfl,b,by rw[d];rfl⟩
  .rw[pL c]at b d;exact Mo rfl B9 D7 ⟨s.gap,rfl,b,by rw[d];rfl⟩
 rintro _ rfl;refine AQ (ZBL (i:=0) (LO (Qf rfl B9 Eo ⟨true,aW,_,rfl,rfl,A4 rfl ⟨By s,rfl,by rw[O9];exact m,?_⟩⟩)));rw[Et,W0,ZFv];refine AQ (X4 (i:=0) rfl B9 D7 (HN (A4 rfl ⟨_,rfl,Af ⟨_,rfl,_,rfl,?_⟩⟩)));have o:AV s=x:=by unfold AV;rw[hx]
 refine Lc (i:=0) (nk:=.obj AB dx Em) (a0:=a) rfl (Hb (NP (Si (i:=0) rfl B9 ER ⟨aT,_,rfl,rfl,A4 rfl ⟨_,_,rfl,L2.EU (j:=By s) (by unfold Ca;rw[Aj,hx];rfl),?_⟩⟩)));refine⟨by rw[o],dx,aT,aW,?_⟩;unfold EI;rw[show(Cj s).th=s.th.modify (By s) λx=>(x.1,false)from rfl,zN];rfl
def vc:B3 ["gap","at"] ["gap","at"] (Aa WX):=by walk_at "z1"
def gP : ∀ss R,YT ss R->ss.length=2:=by rintro _ _⟨g,i,rfl,rfl⟩;rfl
def ZEL(F:AM K "gap_behind_put" "gap_behind_put" WX f fd)(m:mg "gap_behind_put"=some (.ref f)):
  AA P w K mg ZS "gap_behind_put" 1 ["gap","at"] (AL YT):=by
 refine AA.mk F (F.binds (by walk_at "bD2")) m (F.B2 (k:=0) vc (λvs H Q E h=>Fz.Bn gP h) (λAc A outer s H vs Q E a h=>?_))
 refine⟨_,(AF rfl (BF (Az MM (qv 1) (qv 0)) (AJ rfl (Ao (B5 Eu (qv 0) A8))) BG)
   (AJ rfl (Ao (qv 0)))),?_⟩
 refine Fz.Bm h gP ?_;rintro _ _⟨g,i,rfl,rfl⟩;show Ws [_,_] _ _ _
 walk_at "ww"
 refine BV (λc=>?_) (λc=>?_)
 .have h:i<g:=by have:=qB c;omega
  walk_at "ww"
  unfold JC;rw[pT h];rfl
 .have h:¬ i<g:=λz=>c (pf (by omega));refine BN ?_
  walk_at "ww"
  unfold JC;rw[pL h]
def ur:B3 ["loop","at"] ["loop","at"] (Aa YH):=by walk_at "z1"
def iE : ∀ss R,b8 ss R->ss.length=2:=by rintro _ _⟨r,g,i,xs,rfl,rfl⟩;rfl
def ZAC(F:AM K "joins" "joins" YH f fd)(m:mg "joins"=some (.ref f)):
  AA P w K mg ZS "joins" 1 ["loop","at"] (AL b8):=by
 refine AA.mk F (F.binds (by walk_at "bD2")) m (F.B2 (k:=0) ur (λvs H Q E h=>Fz.Bn iE h) (λAc A outer s H vs Q E a h=>?_))
 refine⟨_,(AJ rfl (Ao (mJ (GZ DF (Ab Ay (qv 0) A8) BI) (OH (YF (GZ DF (Ab Ay (qv 0) A8) BI) (OH (GZ Ri (qv 1) (Ab Ay (qv 0) A8)))))))),?_⟩;refine Fz.Bm h iE ?_;rintro _ _⟨r,g,i,xs,rfl,rfl⟩;show Ws [_,_] _ _ _;refine D4 (UX (Eh ?_))
 walk_at "ww"
 refine⟨0,.str r,rfl,EU (j:=0) rfl,?_⟩
 walk_at "ww"
 unfold Mu;have q:∀z:Str,alike (.str r) (.str z)=decide (V.str r=V.str z):=λz=>by
  show decide (r=z)=_;rw[Kg,sP,sP];exact⟨λh=>by rw[h],λh=>by injection h⟩
 rw[q];refine BV (λc=>by rw[pT c]) (λc=>?_);rw[pL c];refine WU (Eh ?_)
 walk_at "ww"
 refine⟨0,.str r,rfl,EU (j:=0) rfl,?_⟩
 walk_at "ww"
 rw[q];refine BV (λc=>?_) (λc=>by rw[pL c]);rw[pT c]
 walk_at "ww"
 refine⟨1,.int g,rfl,EU (j:=1) rfl,?_⟩
 walk_at "ww"
 rfl
def zm:B3 ["self","word","at"] ["self","word","at"] (Aa Ya):=by walk_at "z1"
def kM:∀ss R,(ag AB) ss R->ss.length=3:=by rintro _ _⟨a,s,t,w,i,rfl,_,_,_,rfl⟩;rfl
def ZCG(F:AM K "put_in" "Run.put_in" Ya f fd)(c:Meth K AB "put_in" f):
  CO P w K mg ZS AB "put_in" 3 ["self","word","at"] (BM (ag AB)):=by
 refine⟨f,fd,F.B2 (k:=2) zm (λvs H Q E h=>Fz.IU kM h) (λAc A outer s H vs Q E b h=>?_),(F.binds (by walk_at "bD3")),c,B9⟩
 refine⟨_,(AF rfl (CD (FH Fm bS o7 ZO (CT (qv 0)) (A0 (qv 2) (A0 (Ad Vt b (A0 (DZ (A0 (CT (qv 0)) (A0 (CT (qv 0)) A6))) (A0 (qv 2) A6))) A6))))
   (AF rfl (CD (FH Fm bS o7 ZO (CT (qv 0)) (A0 (qv 2) (A0 (qv 1) A6))))
   (AJ rfl (IS (qv 0) (Ad WO b (A0 (CT (qv 0)) (A0 (qv 2) A6))))))),?_⟩
 refine Fz.Oi h kM ?_;rintro _ _⟨a,s,t,w,i,rfl,⟨dx,aT,aW,rfl⟩,hi,d,rfl⟩;unfold EI;show Ws [.ow true (Cn AB dx a aT aW s.r (Ca s.th) (DB s.th) s.gap s.AK),_,_] _ _ _;refine AQ (hZ (i:=0) (Qf rfl B9 Eo ⟨true,aW,_,rfl,rfl,A4 rfl ⟨i,rfl,by rw[O9];exact hi,wp_call (AS (G7 (Ce (oB rfl B9 N6 (Ce (Mo rfl B9 D7 (EX ⟨by simp,AS (A4 rfl (Ax ⟨_,⟨s.r,s.gap,i,[],rfl,rfl⟩,?_⟩))⟩)))))))⟩⟩));rintro _ rfl;refine⟨by rw[O9];omega,?_⟩;rw[Et,W0];refine AQ (hZ (i:=0) (Si rfl B9 ER ⟨true,aT,_,rfl,rfl,A4 rfl ⟨i,rfl,by rw[OG];exact hi,A4 rfl ⟨by rw[OG];omega,?_⟩⟩⟩));rw[Et,jd];refine X4 (i:=0) rfl B9 D7 (wp_call (AS (Mo rfl B9 D7 (AS (A4 rfl (Ax ⟨_,⟨s.gap,i,rfl,rfl⟩,?_⟩))))));rintro _ rfl;refine⟨_,rfl,_,_,_,_,rfl,rfl,rfl,dx,aT,aW,?_⟩;unfold EI UI;rw[vf,sS];rfl
def ZDP:B3 ["self","where","nexts"] ["self","where","nexts"] (Aa Vr):=by walk_at "z1"
def ky:∀ss R,(aZ AB) ss R->ss.length=3:=by rintro _ _⟨s,a,n,rfl,_,rfl⟩;rfl
def xa(F:AM K "place_by" "Run.place_by" Vr f fd)(d:Meth K AB "place_by" f):
  CO P w K mg ZS AB "place_by" 2 ["self","where","nexts"] (AL (aZ AB)):=by
 refine⟨f,fd,F.B2 (k:=1) ZDP (λvs H Q E h=>Fz.Bn ky h) (λAc A outer s H vs Q E e h=>?_),(F.binds (by walk_at "bD3")),d,B9⟩
 refine⟨_,(AF rfl (BF (Az DF (qv 1) BI) (AJ rfl (Ao (B5 Eu (CT (qv 0)) (qv 2)))) BG)
   (AF rfl (BF (Az DF (qv 1) BI) (AJ rfl (Ao (CU Fd BA (A0 (CT (qv 0)) A6)))) BG)
   (AF rfl (BF (Az DF (qv 1) BI) (AJ rfl (Ao (B5 JM (CT (qv 0)) A8))) BG)
   (AJ rfl (Ao A8))))),?_⟩
 refine Fz.Bm h ky ?_;rintro _ _⟨s,b,n,rfl,g,rfl⟩;show Ws [_,_,_] _ _ _;have a:∀z:Str,alike (PV.str b) (.str z)=true↔b=z:=λz=>by simp[alike]
 unfold HC
 walk_at "ww"
 refine BV (λc=>?_) (λc=>BN ?_)
 .rw[pT ((a _).mp c)];refine D4 (HN (JP (A4 rfl ⟨AB,Em,_,3,_,rfl,B9,D7,by decide +kernel,rfl,?_⟩)));exact⟨_,rfl,A4 rfl ⟨_,rfl,rfl⟩⟩
 rw[pL λz=>c ((a _).mpr z)]
 walk_at "ww"
 refine BV (λc=>?_) (λc=>BN ?_)
 .rw[pT ((a _).mp c)];refine D4 (J8 (Bk (JP (A4 rfl ⟨AB,Em,_,1,_,rfl,B9,ER,by decide +kernel,rfl,?_⟩))));exact⟨_,.inl ⟨rfl,by rw[OG]⟩⟩
 rw[pL λz=>c ((a _).mpr z)]
 walk_at "ww"
 refine BV (λc=>?_) (λc=>BN ?_)
 .rw[pT ((a _).mp c)];refine D4 (HN (JP (A4 rfl ⟨AB,Em,_,3,_,rfl,B9,D7,by decide +kernel,rfl,?_⟩)));refine⟨_,rfl,Af ⟨_,rfl,?_⟩⟩;rw[show(s.gap:Int) - 1=((s.gap - 1:Nat):Int) by omega]
 rw[pL λz=>c ((a _).mpr z)];exact D4 (Af rfl)
def ZFi:B3 ["gap","place"] ["gap","place"] (Aa Z8):=by walk_at "z1"
def lu : ∀ss R,Y6 ss R->ss.length=2:=by rintro _ _⟨g,i,rfl,rfl⟩;rfl
def ZEA(F:AM K "gap_behind_take" "gap_behind_take" Z8 f fd)(m:mg "gap_behind_take"=some (.ref f)):
  AA P w K mg ZS "gap_behind_take" 1 ["gap","place"] (AL Y6):=by
 refine AA.mk F (F.binds (by walk_at "bD2")) m (F.B2 (k:=0) ZFi (λvs H Q E h=>Fz.Bn lu h) (λAc A outer s H vs Q E a h=>?_))
 refine⟨_,(AF rfl (BF (Az MM (qv 1) (qv 0)) (AJ rfl (Ao (B5 JM (qv 0) A8))) BG)
   (AJ rfl (Ao (qv 0)))),?_⟩
 refine Fz.Bm h lu ?_;rintro _ _⟨g,i,rfl,rfl⟩;show Ws [_,_] _ _ _
 walk_at "ww"
 refine BV (λc=>?_) (λc=>?_)
 .have h:i<g:=by have:=qB c;omega
  walk_at "ww"
  unfold Po;rw[pT h];show PV.int _=PV.int _
  congr 1;omega
 .have h:¬ i<g:=λz=>c (pf (by omega));refine BN ?_
  walk_at "ww"
  unfold Po;rw[pL h]
def ZAK:B3 ["self","place"] ["self","place"] (Aa ZU):=by walk_at "z1"
def dh:∀ss R,(Yg AB) ss R->ss.length=2:=by rintro _ _⟨a,s,t,i,rfl,_,_,rfl⟩;rfl
def xW(F:AM K "take_out" "Run.take_out" ZU f fd)(b:Meth K AB "take_out" f):
  CO P w K mg ZS AB "take_out" 3 ["self","place"] (BM (Yg AB)):=by
 refine⟨f,fd,F.B2 (k:=2) ZAK (λvs H Q E h=>Fz.IU dh h) (λAc A outer s H vs Q E c h=>?_),(F.binds (by walk_at "bD2")),b,B9⟩
 refine⟨_,(AF rfl (CD (FH Fm ZGu ZGw mD (CT (qv 0)) (A0 (qv 1) A6)))
   (AF rfl (CD (FH Fm ZGu ZGw mD (CT (qv 0)) (A0 (qv 1) A6)))
   (AJ rfl (IS (qv 0) (Ad Zw c (A0 (CT (qv 0)) (A0 (qv 1) A6))))))),?_⟩
 refine Fz.Oi h dh ?_;rintro _ _⟨a,s,t,i,rfl,⟨dx,aT,aW,rfl⟩,⟨hi,d⟩,rfl⟩;unfold EI;show Ws [.ow true (Cn AB dx a aT aW s.r (Ca s.th) (DB s.th) s.gap s.AK),_] _ _ _;refine AQ (cz (i:=0) (Qf rfl B9 Eo ⟨true,aW,_,rfl,rfl,A4 rfl ⟨i,rfl,by rw[O9];exact hi,by rw[O9];omega,?_⟩⟩));rw[Et,W0];refine AQ (cz (i:=0) (Si rfl B9 ER ⟨true,aT,_,rfl,rfl,A4 rfl ⟨i,rfl,by rw[OG];exact hi,by rw[OG];omega,?_⟩⟩));rw[Et,jd];refine X4 (i:=0) rfl B9 D7 (wp_call (AS (Mo rfl B9 D7 (AS (A4 rfl (Ax ⟨_,⟨s.gap,i,rfl,rfl⟩,?_⟩))))));rintro _ rfl;refine⟨_,rfl,_,_,_,_,rfl,rfl,rfl,dx,aT,aW,?_⟩;unfold EI RF;rw[<- qP,<- ZDJ];rfl
def R3:B3 ["self","puts","goes","nexts","put"] ["self","puts","goes"] (Aa YM):=by walk_at "z1"
def gE:∀ss R,(XZ AB) ss R->ss.length=3:=by rintro _ _⟨a,s,t,ps,g,x,rfl,_,_,_,_,rfl⟩;rfl
def pM(F:AM K "do_errand" "Run.do_errand" YM f fd)(D:Meth K AB "do_errand" f):
  CO P w K mg ZS AB "do_errand" 4 ["self","puts","goes"] (BM (XZ AB)):=by
 refine⟨f,fd,F.B2 (k:=3) R3 (λvs H Q E h=>Fz.IU gE h) (λAc A outer s H vs Q E l h=>?_),(F.binds (by walk_at "bD3")),D,B9⟩
 refine⟨_,(AF rfl (Aq 3 R3.nd A8)
   (AF rfl (Ck (EN Dw rfl (CS (qv 1)) (CV 4 R3.nd) (AF rfl (CD (HL XC l (by decide) (qv 0) (A0 (Ab Ay (qv 4) A8) (A0 (HL Ve l (by decide) (qv 0) (A0 (Ab Ay (qv 4) A8) (A0 (qv 3) A6))) A6))))
   (AJ rfl (BF (Az DF (Ab Ay (qv 4) A8) BI) (AJ rfl (Oe (i:=3) R3.nd rfl (Or.inl rfl) A8 RQ)) BG)))))
   (AJ rfl (BF (J1 (qv 2)) (AJ rfl (CD (HL WI l (by decide) (qv 0) (A0 (B5 JM (CT (qv 0)) A8) A6)))) BG)))),?_⟩
 refine Fz.Oi h gE ?_;rintro _ _⟨a,s,t,ps,g,x,rfl,hT,⟨hx,J⟩,l,⟨hw,R⟩,rfl⟩;have S:=(List.getElem?_eq_some_iff.mp hx).1;have e0:=rS hx J;obtain⟨b,o⟩:∃b,b=(s.th.take (s.gap - 1),([]:List AH),s.th.drop (s.gap - 1+1)):=⟨_,rfl⟩;have G:Fe b+1=s.th.length:=by rw[e0,SA,<- o]
 obtain⟨dx,aT,aW,rfl⟩:=id hT;show Ws [.ow true (EI AB dx a aT aW s),.is (.lst (ps.map B4)),.is (.bl g),.any,.any] _ _ _
 walk_at "ww"
 refine FF (λ_ i A9=>∃(t':OV)(s4:Slot),GV AB a (Cr s.r x s.AK (CK s.r (ps.take i) b)) t'/\A9=[.ow true t',.is (.lst (ps.map B4)),.is (.bl g),.is (.int (CK s.r (ps.take i) b).2.1.length),s4]) ?_
 walk_at "ww"
 have M:Cr s.r x s.AK b=s:=by rw[o];exact e0.symm
 refine⟨⟨EI AB dx a aT aW s,.any,⟨dx,aT,aW,?_⟩,?_⟩,?_,?_⟩
 .rw[List.take_zero];show _=EI AB dx a aT aW (Cr s.r x s.AK b);rw[M]
 .rw[List.take_zero];show _=[_,_,_,Slot.is (.int b.2.1.length),_];rw[o];rfl
 .rintro i p A9 B⟨t',s4,KD,rfl⟩;rw[Aj]at B;obtain⟨⟨d,e⟩,C,rfl⟩:=Option.map_eq_some_iff.mp B;obtain⟨hi,σ⟩:=List.getElem?_eq_some_iff.mp C;have L:=hw (d,e) (Bi C);obtain⟨q,Ln⟩:∃q,q=CK s.r (ps.take i) b:=⟨_,rfl⟩;have es:CK s.r (ps.take (i+1)) b=BL s.r q (d,e):=by rw[Qs hi,σ,ZAA,Ln]
  have I:Fe q=Fe b+i:=by rw[Ln,SS,DR];omega
  rw[<- Ln]at KD ⊢;rw[es];have v:=ZE8 (k:=e) (x:=x) (n:=s.AK) (q:=q) l L;have y:=SA s.r x s.AK q;obtain⟨KO,Mf,XD,rfl⟩:=id KD;refine Fp ?_;show Ws [.ow true (EI AB KO a Mf XD (Cr s.r x s.AK q)),.is (.lst (ps.map B4)),.is (.bl g),.is (.int q.2.1.length),.is (.tup [.str d,.str e])] _ _ _;refine AQ (OC (i:=0) (SJ (us:=_) rfl (by decide +kernel) (Jz (BK (BO rfl ⟨rfl,Af ⟨_,_,rfl,EU (j:=1) rfl,?_⟩⟩)))));refine Jz (ZY (i:=0) (Bv rfl ⟨KO,Em,a,_,rfl,by decide +kernel,jY (BK (BO rfl ⟨rfl,Af ⟨_,_,rfl,EU (j:=0) rfl,jY (A4 rfl (X9 ⟨_,⟨Cr s.r x s.AK q,d,q.2.1.length,rP (λp=>[Slot.is p,.is (.str d),.is (.int q.2.1.length)]) Yj,Qv _,rfl⟩,?_⟩))⟩⟩))⟩));rintro _ rfl;refine⟨rfl,GA ⟨_,⟨a,Cr s.r x s.AK q,_,e,_,rfl,KD,v.1,by omega,rfl⟩,?_⟩⟩;rintro _ t2⟨rfl,G0⟩;rw[v.2]at G0;obtain⟨OF,P8,PH,rfl⟩:=id G0;refine⟨_,_,rfl,?_⟩;have m:=ZG7 s.r q d e;show Ws [.ow true (EI AB OF a P8 PH (Cr s.r x s.AK (BL s.r q (d,e)))),.is (.lst (ps.map B4)),.is (.bl g),.is (.int q.2.1.length),.is (.tup [.str d,.str e])] _ _ _;refine Bl (BW (Eh (BK (BO rfl ⟨rfl,Af ⟨_,_,rfl,EU (j:=0) rfl,EV ⟨rfl,_,rfl,BV (λc=>?_) (λc=>BN ?_)⟩⟩⟩))))
  .have u:d="next" := by simpa[alike]using c
   rw[pT u]at m;refine Su rfl (Af ⟨_,rfl,_,.is (.tup [.str d,.str e]),G0,?_⟩);rw[m];rfl
  .have u:d ≠"next" := λz=>c (by rw[z];simp[alike])
   rw[pL u]at m;exact⟨_,.is (.tup [.str d,.str e]),G0,by rw[m];rfl⟩
 .rintro A9⟨t',s4,KD,rfl⟩;rw[AD,FR]at KD ⊢;obtain⟨q,Ln⟩:∃q,q=CK s.r ps b:=⟨_,rfl⟩;have I:Fe q=Fe b+ps.length:=by rw[Ln,SS]
  have N:FZ s.r s.th (s.gap - 1) x ps g=(q.1++(if g then[]else[x])++q.2.1++q.2.2,q.1.length+if g then 0 else 1):=by unfold FZ;rw[<- o,<- Ln]
  rw[N];rw[<- Ln]at KD ⊢;have y:=SA s.r x s.AK q;obtain⟨KO,Mf,XD,rfl⟩:=id KD;refine Bl (Fx (A4 rfl ⟨_,rfl,?_⟩));cases g with
  |true=>
   refine HG rfl ?_;refine OC (i:=0) (SJ (us:=_) rfl (by decide +kernel) (Jz (HN (Mo rfl B9 D7 ⟨_,rfl,Af ⟨_,rfl,?_⟩⟩))));rw[show((Cr s.r x s.AK q).gap:Int) - 1=(q.1.length:Nat)from by show((q.1.length+1:Nat):Int) - 1=_;omega];refine GA ⟨_,⟨a,Cr s.r x s.AK q,_,q.1.length,rfl,KD,⟨by rw[y];unfold Fe;omega,by omega⟩,rfl⟩,?_⟩;rintro _ t2⟨rfl,G0⟩;rw[ZBQ]at G0;obtain⟨OF,P8,PH,rfl⟩:=id G0;refine⟨_,_,rfl,_,_,_,_,rfl,rfl,rfl,OF,P8,PH,?_⟩;dsimp only;rw[pT rfl,pT rfl,CB,BX];rfl
  |false=>
   refine C9 (by decide) (BN ?_);refine⟨_,_,_,_,rfl,rfl,rfl,KO,Mf,XD,?_⟩;dsimp only;rw[pL (by decide),pL (by decide),BX,BX];rfl
def qW:B3 ["self","word"] ["self","word"] (Aa XE):=by walk_at "z1"
def i7:∀ss R,(NL A1) ss R->ss.length=2:=by rintro _ _⟨ks,x,rfl,_,_,rfl⟩;rfl
def ZET(F:AM K "puts" "Errands.puts" XE f fd)(b:Meth K A1 "puts" f):
  CO P w K mg ZS A1 "puts" 2 ["self","word"] (AL (NL A1)):=by
 refine⟨f,fd,F.B2 (k:=1) qW (λvs H Q E h=>Fz.Bn i7 h) (λAc A outer s H vs Q E a h=>?_),(F.binds (by walk_at "bD2")),b,E5⟩
 refine⟨_,(AF rfl (CD (Ad Gh a (A0 (CT (qv 0)) (A0 (qv 1) A6))))
   (AJ rfl (Ao (Ib Zl Gi (A0 (Jp (EO a) (CT (qv 0)) (qv 1) (λ_ _=>rfl)) A6))))),?_⟩
 refine Fz.Bm h i7 ?_;rintro _ _⟨ks,x,rfl,g,hx,rfl⟩;show Ws [_,_] _ _ _;have l8:=g.l8;obtain⟨k,d,_,c,_,_⟩:=g.at hx;refine AQ (Fj (wp_call (AS (JP (A4 rfl ⟨A1,Dl,_,0,_,rfl,E5,HY,by decide +kernel,rfl,AS (A4 rfl (Ax ⟨_,⟨wk ks,_,x,rfl,.inr ⟨_,rfl⟩,by rw[AD];omega,hx,rfl⟩,?_⟩))⟩)))));rintro _ rfl;refine JH (T2 rfl (Bk (MB (JP (A4 rfl ⟨A1,Dl,_,0,_,rfl,E5,HY,by decide +kernel,rfl,Bb (wk ks),_,rfl,A4 rfl ⟨.inr x,_,rfl,LW hx (by rw[Aj,d];rfl),_,.inr ⟨rfl,?_⟩⟩⟩)))));rw[c]
def tW:B3 ["self","word"] ["self","word"] (Aa VL):=by walk_at "z1"
def mF:∀ss R,(QV A1) ss R->ss.length=2:=by rintro _ _⟨ks,x,rfl,_,_,rfl⟩;rfl
def ZDE(F:AM K "goes" "Errands.goes" VL f fd)(b:Meth K A1 "goes" f):
  CO P w K mg ZS A1 "goes" 2 ["self","word"] (AL (QV A1)):=by
 refine⟨f,fd,F.B2 (k:=1) tW (λvs H Q E h=>Fz.Bn mF h) (λAc A outer s H vs Q E a h=>?_),(F.binds (by walk_at "bD2")),b,E5⟩
 refine⟨_,(AF rfl (CD (Ad Gh a (A0 (CT (qv 0)) (A0 (qv 1) A6))))
   (AJ rfl (Ao (Jp (EO a) (CT (qv 0)) (qv 1) (λ_ _=>rfl))))),?_⟩
 refine Fz.Bm h mF ?_;rintro _ _⟨ks,x,rfl,g,hx,rfl⟩;show Ws [_,_] _ _ _;have l8:=g.l8;obtain⟨k,c,_,_,d,_⟩:=g.at hx;refine AQ (Fj (wp_call (AS (JP (A4 rfl ⟨A1,Dl,_,1,_,rfl,E5,Kb,by decide +kernel,rfl,AS (A4 rfl (Ax ⟨_,⟨wk ks,_,x,rfl,.inr ⟨_,rfl⟩,by rw[AD];omega,hx,rfl⟩,?_⟩))⟩)))));rintro _ rfl;refine D4 (MB (JP (A4 rfl ⟨A1,Dl,_,1,_,rfl,E5,Kb,by decide +kernel,rfl,Bb (wk ks),_,rfl,A4 rfl ⟨.inr x,_,rfl,LW hx (by rw[Aj,c];rfl),?_⟩⟩)));rw[d]
def zP:B3 ["rule"] ["rule"] (Aa ax):=by walk_at "z1"
def fq : ∀ss R,QR ss R->ss.length=1:=by rintro _ _⟨r,rfl,_,rfl⟩;rfl
def ZFQ(F:AM K "check_rule" "check_rule" ax f fd)(m:mg "check_rule"=some (.ref f)):
  AA P w K mg ZS "check_rule" 1 ["rule"] (AL QR):=by
 refine AA.mk F (F.binds (by walk_at "bD1")) m (F.B2 (k:=0) zP (λvs H Q E h=>Fz.Bn fq h) (λAc A outer s H vs Q E a h=>?_))
 refine⟨_,(AJ rfl (BF (Az Na (qv 0) (J4 (v:=.ref Kf) (by rfl) YC rfl)) (AJ rfl J0) BG)),?_⟩;refine Fz.Bm h fq ?_;rintro _ _⟨r,rfl,a,rfl⟩;have C:Ga K Kf (Ct.map .str):=Ga.of Xg rfl rfl;show Ws [_] _ _ _;refine Bl (BW (Sn (neg:=true) C (A4 rfl ⟨r,rfl,_,rfl,?_⟩)));rw[pf a];exact C9 (by decide) (BN ⟨_,rfl,rfl⟩)
def wA:B3 ["self"] ["self"] (Aa Xz):=by walk_at "z1"
def mW:∀ss R,(Jf A1) ss R->ss.length=1:=by rintro _ _⟨ks,rfl,_,rfl⟩;rfl
def yl(F:AM K "words" "Errands.words" Xz f fd)(a:Meth K A1 "words" f):
  CO P w K mg ZS A1 "words" 1 ["self"] (AL (Jf A1)):=by
 refine⟨f,fd,F.B2 (k:=0) wA (λvs H Q E h=>Fz.Bn mW h) (λAc A outer s H vs Q E b h=>?_),(F.binds (by walk_at "bD1")),a,E5⟩
 refine⟨_,(AJ rfl (Ao (Ib (xR rfl) Gi (A0 (CT (qv 0)) A6)))),?_⟩;refine Fz.Bm h mW ?_;rintro _ _⟨ks,rfl,g,rfl⟩;show Ws [_] _ _ _;have l8:=g.l8;refine JH (qo (JP (A4 rfl ⟨A1,Dl,_,0,_,rfl,E5,HY,by decide +kernel,rfl,Bb (wk ks),_,rfl,by unfold Bb;rw[AD,AD];omega,vT _⟩)))
def eD:B3 ["book","crowd","word"] ["book","crowd"] (Aa Xd):=by walk_at "z1"
def dg:∀ss R,(Mq A1) ss R->ss.length=2:=by rintro _ _⟨ks,tp,cs,rfl,_,_,_,rfl⟩;rfl
def wj(F:AM K "check_crowd" "check_crowd" Xd f fd)(m:mg "check_crowd"=some (.ref f)):
  AA P w K mg ZS "check_crowd" 2 ["book","crowd"] (AL (Mq A1)):=by
 refine AA.mk F (F.binds (by walk_at "bD2")) m (F.B2 (k:=1) eD (λvs H Q E h=>Fz.Bn dg h) (λAc A outer s H vs Q E a h=>?_))
 refine⟨_,(AF rfl (BF (Az NB (CU Fd BA (A0 (qv 1) A6)) (J4 (v:=.int 12) (by rfl) Zs ⟨_,rfl⟩)) (AJ rfl J0) BG)
   (AJ rfl (EN Dw rfl (CS (qv 1)) (CV 2 eD.nd) (AJ rfl (CD (Ad Gh a (A0 (Hk Dc a (by decide) (qv 0)) (A0 (qv 2) A6)))))))),?_⟩
 refine Fz.Bm h dg ?_;rintro _ _⟨ks,tp,cs,rfl,g,e,d,rfl⟩;show Ws [_,_,.any] _ _ _;have l8:=g.l8
 walk_at "ww"
 rw[AD];refine C9 (λc=>by have:=qB c;omega) (BN ?_);refine FF (λ_ i A9=>∃(s2:Slot),A9=[.is (Ar A1 ks),.sq tp (cs.map .str),s2]) ?_
 walk_at "ww"
 refine⟨⟨_,rfl⟩,?_,?_⟩
 .rintro i p A9 b⟨s2,rfl⟩;rw[Aj]at b;obtain⟨c,ex,rfl⟩:=Option.map_eq_some_iff.mp b;refine Fp ?_;refine Fj (wp_call (AS (Ba (GL (A4 rfl ⟨Dl,_,rfl,by decide +kernel,Ax ⟨_,⟨ks,rfl,g,rfl⟩,?_⟩⟩)))));rintro _ rfl;refine AS (A4 rfl (Ax ⟨_,⟨wk ks,_,c,rfl,.inl rfl,by rw[AD];omega,d c (Bi ex),rfl⟩,?_⟩));rintro _ rfl;exact⟨_,rfl⟩
 .rintro A9⟨s2,rfl⟩;exact⟨_,rfl,rfl⟩
def U0:B3 ["book","crowd","rule","most","run","told","word"] ["book","crowd","rule","most"] (Aa YR):=by walk_at "z1"
def gQ:∀ss R,(Vl A1) ss R->ss.length=4:=by rintro _ _⟨ks,tp,cs,r,m,rfl,_,_,_,_,rfl⟩;rfl
def ZC6(F:AM K "ran" "ran" YR f fd)(m:mg "ran"=some (.ref f)):
  AA P w K mg ZS "ran" 6 ["book","crowd","rule","most"] (AL (Vl A1)):=by
 refine AA.mk F (F.binds (by walk_at "bD4")) m (F.B2 (k:=5) U0 (λvs H Q E h=>Fz.Bn gQ h) (λAc A outer s H vs Q E a h=>?_))
 refine⟨_,(AF rfl (CD (Ad JZ a (A0 (qv 2) A6)))
   (AF rfl (CD (Ad Gy a (A0 (qv 0) (A0 (qv 1) A6))))
   (AF rfl (Aq 4 U0.nd (eV VB a (by decide) Zp (A0 (qv 1) (A0 (qv 2) A6))))
   (AF rfl (Aq 5 U0.nd (GG A6))
   (AF rfl (Ck (TB Dw (RH (Az MM (CU Fd BA (A0 (qv 5) A6)) (qv 3)) (Sw (J1 (Hk RT a (by decide) (qv 4))))).pt (AF rfl (Aq 6 U0.nd (Hk Vg a (by decide) (qv 4)))
   (AF rfl (CD (HL Xe a (by decide) (qv 4) (A0 (HL GN a (by decide) (qv 0) (A0 (qv 6) A6)) (A0 (HL NA a (by decide) (qv 0) (A0 (qv 6) A6)) A6))))
   (AJ rfl (CD (FH Fm V5 V7 O6 (qv 5) (A0 (qv 6) A6))))))))
   (AJ rfl (Ao (DZ (A0 (qv 5) (A0 (CT (qv 4)) (A0 (CT (qv 4)) (A0 (gm (Hk RT a (by decide) (qv 4))) A6)))))))))))),?_⟩
 refine Fz.Bm h gQ ?_;rintro _ _⟨ks,tp,cs,r,m,rfl,hk,⟨R,x⟩,a,T,rfl⟩;show Ws [_,_,_,_,.any,.any,.any] _ _ _;refine AQ (Fj (wp_call (AS (A4 rfl (Ax ⟨_,⟨r,rfl,a,rfl⟩,?_⟩)))));rintro _ rfl;refine AQ (Fj (wp_call (AS (A4 rfl (Fb (Y9 (af rfl (Ax ⟨_,⟨ks,tp,cs,rfl,hk,R,x,rfl⟩,?_⟩))))))));rintro _ rfl;refine AQ (KH (k6 (Jz (A4 rfl (Jz (A4 rfl (GA λb e=>⟨_,⟨e,b,tp,cs,r,rfl,by omega,rfl⟩,?_⟩)))))));rintro _ _⟨rfl,aT,aW,rfl⟩;refine⟨rfl,_,_,rfl,?_⟩;refine AQ (Gj (LR (EX ⟨by simp,?_⟩)));refine M9 (λA9=>∃(q:Rn×List Str)(t:OV)(d:Slot),Bz ks (m - q.2.length) q=Bz ks m (C4 r cs)/\(q.2.length<m->B1 q.1.th=false)/\GV AB b q.1 t/\A9=[.is (Ar A1 ks),.is (M7 tp (cs.map .str)),.is (.str r),.is (.int m),.ow false t,.own (q.2.map .str),d]) (ET (ZDR (λn A9=>∃(q:Rn×List Str)(t:OV)(d:Slot),n=m - q.2.length/\Bz ks (m - q.2.length) q=Bz ks m (C4 r cs)/\Nt ks q.2.length q.1/\GV AB b q.1 t/\A9=[.is (Ar A1 ks),.is (M7 tp (cs.map .str)),.is (.str r),.is (.int m),.ow false t,.own (q.2.map .str),d]) m ⟨C4 r cs,EI AB e b aT aW (C4 r cs).1,.any,rfl,rfl,⟨a,λy σ=>?_,?_⟩,⟨e,aT,aW,rfl⟩,rfl⟩ ?_)) ?_
 .obtain⟨c,L6,rfl⟩:=List.mem_map.mp σ;exact x c L6
 .show(cs.map _).length<=12+6 * 0;rw[AD];omega
 .rintro n A9⟨q,t,d,rfl,j,ok,hT,rfl⟩;obtain⟨dx,aT,aW,rfl⟩:=id hT;refine Zz (BW ?_)
  walk_at "ww"
  rw[AD];refine BV (λc=>?_) (λc=>C9 (by decide) ⟨q,_,d,j,λz=>absurd (pf (by omega)) c,hT,rfl⟩);have X:q.2.length<m:=by have:=qB c;omega
  refine Fx (ZY (i:=4) (Bv rfl ⟨dx,Em,b,_,rfl,by decide +kernel,X9 ⟨_,⟨q.1,rP (λp=>[Slot.is p]) Yj,rfl⟩,?_⟩⟩));rintro _ rfl;refine⟨rfl,_,rfl,BV (λg=>?_) (λg=>⟨q,_,d,j,λ_=>by cases e:B1 q.1.th with|true=>exact absurd e g|false=>rfl,hT,rfl⟩)⟩
  obtain⟨L,I,⟨tb,J⟩,tl⟩:=kB g;have hw:=ok.wd _ J;have l1:=ok.len;obtain⟨o,U,W,B,V,S⟩:=hk.at hw;have kp:=hk.ps o S;refine AQ (OZ (i:=4) (SJ (us:=_) rfl (by decide +kernel) (GA ⟨_,⟨b,q.1,_,rfl,hT,g,by omega,rfl⟩,?_⟩)));rintro _ t2⟨rfl,G0⟩;obtain⟨OF,P8,PH,rfl⟩:=id G0;refine⟨_,_,rfl,?_⟩;show Ws [.is (Ar A1 ks),.is (M7 tp (cs.map .str)),.is (.str r),.is (.int m),.ow false (EI AB OF b P8 PH (Cj q.1)),.own (q.2.map .str),.is (.str (AV q.1))] _ _ _;refine AQ (OC (i:=4) (SJ (us:=_) rfl (by decide +kernel) (Jz (Ba (GL (A4 rfl ⟨_,_,rfl,by decide +kernel,AS (A4 rfl (Ax ⟨_,⟨ks,AV q.1,rfl,hk,hw,rfl⟩,?_⟩))⟩))))));rintro _ rfl;refine Jz (dz (A4 rfl ⟨_,_,rfl,by decide +kernel,AS (A4 rfl (Ax ⟨_,⟨ks,AV q.1,rfl,hk,hw,rfl⟩,?_⟩))⟩));rintro _ rfl;refine GA ⟨_,⟨b,Cj q.1,_,BR ks (AV q.1),Dq ks (AV q.1),(AV q.1,false),rfl,G0,⟨L,Qv _⟩,ok.rl,⟨λp v=>?_,?_⟩,rfl⟩,?_⟩
  .rw[show BR ks (AV q.1)=o.ps from B]at v;exact(kp.2 p v).1
  .rw[show BR ks (AV q.1)=o.ps from B,tl];have:=kp.1;omega
  rintro _ M⟨rfl,l⟩;have l:GV AB b (BS ks q.1) M:=l;obtain⟨C,D,G,rfl⟩:=id l;refine⟨_,_,rfl,?_⟩;show Ws [.is (Ar A1 ks),.is (M7 tp (cs.map .str)),.is (.str r),.is (.int m),.ow false (EI AB C b D G (BS ks q.1)),.own (q.2.map .str),.is (.str (AV q.1))] _ _ _;refine SX rfl (A4 rfl ⟨by rw[AD];omega,?_⟩);have N:(q.2++[AV q.1]).length=q.2.length+1:=by rw[Bt];rfl
  refine⟨m - (q.2++[AV q.1]).length,by omega,(BS ks q.1,q.2++[AV q.1]),_,.is (.str (AV q.1)),rfl,?_,?_,l,by rw[C0];rfl⟩
  .rw[<- j,show m - q.2.length=(m - (q.2++[AV q.1]).length)+1 by omega,Bz,pT g]
  .show Nt ks (q.2++[AV q.1]).length _;rw[N];exact lX hk ok g
 .rintro A9⟨q,t,d,j,Hm,hT,rfl⟩;obtain⟨dx,aT,aW,rfl⟩:=id hT;have u:Bz ks m (C4 r cs)=q:=by
   rw[<- j]
   by_cases c:q.2.length<m
   .exact vx ks (Hm c) _
   .rw[show m - q.2.length=0 by omega];rfl
  rw[u];refine Ry (SI (FW (ZAR rfl λl1=>FW (ZCd (i:=4) rfl (Si rfl B9 ER (FW (Dy (du rfl B9 IX (FW (Dy (TV (ZY (i:=4) (Bv rfl ⟨dx,Em,b,_,rfl,by decide +kernel,X9 ⟨_,⟨q.1,rP (λp=>[Slot.is p]) Yj,rfl⟩,?_⟩⟩)))))))))))));rintro _ rfl;exact⟨rfl,_,rfl,Oc ⟨by simp,by simp,by simp,by simp,by simp,l1,aT,rfl⟩⟩
def ZBV:B3 ["book","word","rule"] ["book","word","rule"] (Aa Ti):=by walk_at "z1"
def xj:=Sc [(".0",.local),("put",.local),("WHERES_AHEAD",.globalImplicit),("rule",.free)]
def yU:Cv ["book","word","rule"] (Aa Ti) xj "put" ["rule"] [2]:=by walk_at "z2"
def jG:∀ss R,(Ng A1) ss R->ss.length=3:=by rintro _ _⟨ks,x,r,rfl,_,_,_,rfl⟩;rfl
def vJ(F:AM K "comers_of" "comers_of" Ti f fd)(m:mg "comers_of"=some (.ref f)):
  AA P w K mg ZS "comers_of" 3 ["book","word","rule"] (AL (Ng A1)):=by
 refine AA.mk F (F.binds (by walk_at "bD3")) m (F.B2 (k:=2) ZBV (λvs H Q E h=>Fz.Bn jG h) (λAc A outer s H vs Q E b h=>?_))
 refine⟨_,(AF rfl (BF (Az DF (qv 2) BI) (AJ rfl (Ao (GG A6))) BG)
   (AJ rfl (Ao (FK rfl yU (CS (HL GN b (by decide) (qv 0) (A0 (qv 1) A6))) (λ_ _ _ _=>by exact(MN (Lu (Az DF (qv 0) BI) (Ky (Az (show BU _ (compareOp .In) (J7 K false)from LQ) (Ab (show D2 _ (D1 K)from Ay) (qv 1) A8) (J4 (v:=.ref GK) (by rfl) N1 rfl)))).pt)) (λ_ _ _ _=>by exact(qv 1)))))),?_⟩
 refine Fz.Bm h jG ?_;rintro _ _⟨ks,x,r,rfl,g,hx,b,rfl⟩;have C:Ga K GK (Dd.map .str):=Ga.of Nr rfl rfl;show Ws [_,_,_] _ _ _;have i:=(g.Ip x).1
 walk_at "ww"
 refine BV (λc=>?_) (λc=>BN ?_)
 .have e:r="none" := qB c
  walk_at "ww"
  refine⟨by decide,?_⟩;unfold CP;rw[pT e];rfl
 .have e:¬ r="none" := λz=>c (pf z);refine JH (Eg B4 (λp=>decide (r="all") || decide (p.1∈Dd)) B4 (DL (CY (Ba (GL (A4 rfl ⟨Dl,_,rfl,by decide +kernel,AS (A4 rfl (Ax ⟨_,⟨ks,x,rfl,g,hx,rfl⟩,?_⟩))⟩))))) QH);rintro _ rfl;refine⟨_,.inl ⟨rfl,BR ks x,rfl,by omega,λp d=>?_,λp d _=>A4 rfl rfl,?_⟩⟩
  .refine Le (BW (Eh (A4 rfl (EV ⟨rfl,_,rfl,?_⟩))));show if decide (r="all")=true then _ else _
   refine BV (λa=>by rw[a];rfl) (λa=>?_);refine BW (Sn (neg:=false) C (BK (BO rfl ⟨rfl,Af ⟨_,_,rfl,rfl,p.1,rfl,_,rfl,?_⟩⟩)));rw[Bool.eq_false_iff.mpr a];rfl
  .unfold CP;rw[pL e]
def OK:B3 ["book","rule","way","settled","put","first","found"] ["book","rule","way","settled"] (Aa S7):=by walk_at "z1"
def jc:∀ss R,(LI A1 n) ss R->ss.length=4:=by rintro _ _⟨ks,r,V,x,L,a,rfl,_,_,_,_,_,_,_,_,_,_,rfl⟩;rfl
def ZCt(n:Nat)(F:AM K "ring_along" "ring_along" S7 f fd)(m:mg "ring_along"=some (.ref f))(PK:AA P w K mg ZS "ring_along" (4+n) ["book","rule","way","settled"] (BM (LI A1 (n)))):
  AA P w K mg ZS "ring_along" (4+n+1) ["book","rule","way","settled"] (BM (LI A1 (n+1))):=by
 refine AA.mk F (F.binds (by walk_at "bD4")) m (F.B2 (k:=4+n) OK (λvs H Q E h=>Fz.IU jc h) (λAc A outer s H vs Q E e h=>?_))
 refine⟨_,(AF rfl (BF (ar (EO e) (Ab D3 (qv 2) (VR Vh A8)) (qv 3)) (AJ rfl (Ao JO)) BG)
   (AF rfl (Ck (EN Dw rfl (CS (Ad (hk:=by omega) Hu e (A0 (qv 0) (A0 (Ab D3 (qv 2) (VR Vh A8)) (A0 (qv 1) A6))))) (CV 4 OK.nd) (AF rfl (BF (Az LQ (Ab Ay (qv 4) A8) (qv 2)) (AF rfl (Aq 5 OK.nd (FH Fm V6 o6 fK (qv 2) (A0 (Ab Ay (qv 4) A8) A6)))
   (AJ rfl (Ao (DZ (A0 (MI OY (qv 2) L4 (Lk (B5 Eu (qv 5) A8))) (A0 (MI OY (qv 2) (Lk (qv 5)) L4) A6)))))) BG)
   (AF rfl (Aq 6 OK.nd (Ad (hk:=by omega) PK e (A0 (qv 0) (A0 (qv 1) (A0 (B5 W5 (qv 2) (GG (A0 (Ab Ay (qv 4) A8) A6))) (A0 (qv 3) A6))))))
   (AJ rfl (BF (Az TC (qv 6) JO) (AJ rfl (Ao (qv 6))) BG))))))
   (AF rfl (Ow (EO e) (qv 3) (Ab D3 (qv 2) (VR Vh A8)) FG)
   (AJ rfl (Ao JO))))),?_⟩
 refine Fz.RZ h jc ?_;rintro _ _⟨ks,r,V,x,L,a,rfl,g,e,Y,nd,sub,ch,D,G,N,I,rfl⟩;show Ws [_,_,_,_,.any,.any,.any] _ _ _;have l8:=g.l8;have C:x∈wk ks:=sub x (by simp);have X:(V++[x]).length<=8:=by
  have:=G2 nd sub;rw[AD]at this;omega
 have lst:∀{ss:List Slot}{k:PV->Prop},ss[2]?=some (.is (.lst ((V++[x]).map .str)))->k (.str x)->Wp ss (BZ (M4 K) (Au 2) (UB (rU λi=>.int (-i)) (tC (.int 1)))) k:=λh hk=>Hb (DG h ⟨rfl,mi (Af ⟨_,rfl,_,_,rfl,yy V x,hk⟩)⟩);refine AQ (Bl (Fx (fT (lst rfl (Bv (i:=3) rfl ⟨Bb L,a,_,.inr x,rfl,rfl,_,rfl,?_⟩)))));rw[P2];refine BV (λc=>?_) (λc=>BN ?_)
 .exact Lc (i:=3) rfl (GW ⟨L,rfl,.inl ⟨rfl,G,N,I,λy h=>h,D,qB c⟩⟩)
 have hx:x∉L:=λz=>c (pf z);refine AQ (ET (FF (λxs i A9=>∃(L':List Str)(s4 u t:Slot),A9=[.is (Ar A1 ks),.is (.str r),.is (.lst ((V++[x]).map .str)),.ow true (Mg a L'),s4,u,t]/\Top (Ai ks r) L'/\L'.Nodup/\(∀y∈L',y∈wk ks)/\(∀y∈L,y∈L')/\(∀y∈V++[x],y∉L')/\∀p∈(CP ks r x).take i,p.2∈L') (DL (CY (Ba (K9 (AS (A4 rfl (AS (lst rfl (AS (A4 rfl (Ax ⟨_,⟨ks,x,r,rfl,g,C,e,rfl⟩,?_⟩)))))))))))));rintro _ rfl;refine⟨_,.inl ⟨rfl,⟨L,_,_,_,rfl,G,N,I,λy h=>h,λy b=>?_,λp d=>absurd d (by simp)⟩,?_,?_⟩⟩
 .rcases List.mem_append.mp b with h|h
  .exact D y h
  .rw[List.mem_singleton.mp h];exact hx
 .rintro i q A9 o⟨L',s4,u,t,rfl,LB,Ej,Ke,v,l,Dh⟩;rw[Aj]at o;obtain⟨p,M,rfl⟩:=Option.map_eq_some_iff.mp o;have R:=Bi M;have pn:p.2∈Ai ks r x:=List.mem_map.mpr ⟨p,R,rfl⟩;refine Fp ?_;refine AQ (Bl (BW (VA (BK (BO rfl ⟨rfl,Af ⟨_,_,rfl,rfl,p.2,rfl,DG rfl ⟨V++[x],rfl,_,rfl,?_⟩⟩⟩)))));refine BV (λc=>?_) (λc=>BN ?_)
  .have d:=qB c;have hi:=List.idxOf_lt_length_iff.mpr d;refine AQ (EE (YK (DG rfl ⟨rfl,V++[x],rfl,BK (BO rfl ⟨rfl,Af ⟨_,_,rfl,rfl,p.2,rfl,d,?_⟩⟩)⟩)));refine Lc (i:=3) rfl (G7 (Ce (Ba (QJ (DG rfl ⟨rfl,Rr (Ui (HN (A4 rfl ⟨_,rfl,Af ⟨_,rfl,_,rfl,?_⟩⟩)))⟩)))));refine Ce (Ba (QJ (DG rfl ⟨rfl,Ui (A4 rfl ⟨_,rfl,Rr (EX ⟨by show 2<=100000;decide,L',rfl,.inr ⟨V++[x],(V++[x]).idxOf p.2,?_,List.prefix_refl _,nd,ch,sub,p.2,x,?_,?_,pn⟩⟩)⟩)⟩)))
   .rw[RX,RX];unfold ZM;rw[show El (V++[x]) none (some (((V++[x]).idxOf p.2:Nat)+1:Int))=(V++[x]).take ((V++[x]).idxOf p.2+1)from oV (V++[x]) _,show El (V++[x]) (some (((V++[x]).idxOf p.2:Nat):Int)) none=(V++[x]).drop ((V++[x]).idxOf p.2)from lY (V++[x]) _]
   .rw[AX hi,Hr hi]
   .simp
  .have d:p.2∉V++[x]:=λz=>c (pf z);refine AQ (OZ (i:=3) (LJ rfl (Dz (A4 rfl (Dz (A4 rfl (Dz (Ba (Qz (DG rfl ⟨rfl,Bk (Ba (LR (Ce (BK (BO rfl ⟨rfl,Af ⟨_,_,rfl,rfl,EX ⟨by show 1<=100000;decide,?_⟩⟩⟩)))))⟩))))))))));refine⟨_,.inl ⟨rfl,rfl,by rw[AD];show _+1<=_;omega,MK rfl (GA ⟨_,⟨ks,r,V++[x],p.2,L',a,by rw[C0 (l₁:=V++[x])];rfl,g,e,by rw[Bt,Ij];omega,PN nd d,λy b=>?_,ch.snoc pn,l,LB,Ej,Ke,rfl⟩,?_⟩)⟩⟩
   .rcases List.mem_append.mp b with h|h
    .exact sub y h
    .rw[List.mem_singleton.mp h];exact g.kR pn
   rintro q t'⟨L2,rfl,o⟩;refine⟨_,_,rfl,?_⟩;rcases o with⟨rfl,Wy,Ed,U,Hj,S,p2⟩|⟨W,j,rfl,pre,σ⟩
   .refine Bl (BW (LG (A4 rfl (GW ⟨rfl,_,rfl,C9 (by decide) (BN ⟨L2,_,_,_,rfl,Wy,Ed,U,λy h=>Hj y (v y h),S,λz J=>?_⟩)⟩))));rw[Jy M]at J;rcases List.mem_append.mp J with h|h
    .exact Hj _ (Dh z h)
    .rw[List.mem_singleton.mp h];exact p2
   .refine Bl (BW (LG (A4 rfl (GW ⟨rfl,_,rfl,HG rfl ?_⟩))));exact Lc (i:=3) rfl (A4 rfl ⟨L2,rfl,.inr ⟨W,j,rfl,(List.prefix_append _ _).trans pre,σ⟩⟩)
 .rintro A9⟨L',s4,u,t,rfl,LB,Ej,Ke,v,l,Dh⟩;rw[AD,FR]at Dh;have B:x∉L':=l x (by simp);have T:=G2 Ej Ke;rw[AD]at T;refine AQ (U8 (i:=3) (Dy (LO (Bv rfl ⟨true,a,Bb L',_,rfl,rfl,by rw[AD];omega,SG Ej,Ak,lst rfl ⟨.inr x,rfl,?_⟩⟩))));rw[OV.EF,Mi B,Sb B];refine Lc (i:=3) rfl (GW ⟨L'++[x],?_,.inl ⟨rfl,LB.snoc λy b=>?_,PN Ej B,λy b=>?_,λy b=>by simp[v y b],λy b m=>?_,by simp⟩⟩)
  .unfold Mg;rw[C0];rfl
  .obtain⟨p,d,rfl⟩:=List.mem_map.mp b;exact Dh p d
  .rcases List.mem_append.mp b with h|h
   .exact Ke y h
   .rw[List.mem_singleton.mp h];exact C
  .rcases List.mem_append.mp m with h|h
   .exact l y (by simp[b]) h
   .rw[List.mem_singleton.mp h]at b;exact(List.nodup_append.mp nd).2.2 x b x (by simp) rfl
def wa(F:AM K "ring_along" "ring_along" S7 f fd)(m:mg "ring_along"=some (.ref f)):AA P w K mg ZS "ring_along" 13 ["book","rule","way","settled"] (BM (LI A1 9)):=by
 have z:∀n:Nat,AA P w K mg ZS "ring_along" (4+n) ["book","rule","way","settled"] (BM (LI A1 (n))):=λn=>by
  induction n with
  |zero=>exact AA.mk F (F.binds (by walk_at "bD4")) m (F.B2 (k:=3) OK (λvs H Q E h=>(Fz.K4 (kr) h).elim) (λAc A outer s H vs Q E b h=>(Fz.K4 (kr) h).elim))
  |succ n a=>exact ZCt (A1:=A1) Hu n F m a
 exact z 9
def Rc:B3 ["book","crowd","rule","settled","word","found"] ["book","crowd","rule"] (Aa XW):=by walk_at "z1"
def gj:∀ss R,(Rz A1) ss R->ss.length=3:=by rintro _ _⟨ks,tp,cs,r,rfl,_,_,_,_,rfl⟩;rfl
def xm(F:AM K "way_and_ring" "way_and_ring" XW f fd)(m:mg "way_and_ring"=some (.ref f))(PK:AA P w K mg ZS "ring_along" 13 ["book","rule","way","settled"] (BM (LI A1 9))):
  AA P w K mg ZS "way_and_ring" 14 ["book","crowd","rule"] (AL (Rz A1)):=by
 refine AA.mk F (F.binds (by walk_at "bD3")) m (F.B2 (k:=13) Rc (λvs H Q E h=>Fz.Bn gj h) (λAc A outer s H vs Q E n h=>?_))
 refine⟨_,(AF rfl (Aq 3 Rc.nd TF)
   (AF rfl (Ck (EN Dw rfl (CS (qv 1)) (CV 4 Rc.nd) (AF rfl (Aq 5 Rc.nd (Ad PK n (A0 (qv 0) (A0 (qv 2) (A0 (GG (A0 (qv 4) A6)) (A0 (qv 3) A6))))))
   (AJ rfl (BF (Az TC (qv 5) JO) (AJ rfl (Ao (qv 5))) BG)))))
   (AJ rfl (Ao JO)))),?_⟩
 refine Fz.Bm h gj ?_;rintro _ _⟨ks,tp,cs,r,rfl,g,n,l,u,rfl⟩;show Ws [_,_,_,.any,.any,.any] _ _ _;refine AQ (KH (Ue λa=>?_));show Ws [_,_,_,.ow false (Mg a []),.any,.any] _ _ _;refine AQ (ET (FF (λxs i A9=>∃(L':List Str)(s4 e:Slot),A9=[.is (Ar A1 ks),.sq tp (cs.map .str),.is (.str r),.ow false (Mg a L'),s4,e]/\Top (Ai ks r) L'/\L'.Nodup/\(∀y∈L',y∈wk ks)/\∀y∈cs.take i,y∈L') ?_))
 walk_at "ww"
 refine⟨⟨[],_,_,rfl,Top.nil,HA,λy b=>absurd b Ak,λy b=>absurd b (by simp)⟩,?_,?_⟩
 .rintro i q A9 d⟨L',s4,e,rfl,LB,Ej,Ke,Dh⟩;rw[Aj]at d;obtain⟨c,o,rfl⟩:=Option.map_eq_some_iff.mp d;have p:=Bi o;refine Fp ?_;refine AQ (OZ (i:=3) (LJ rfl (Dz (A4 rfl (Dz (A4 rfl (Dz (Ba (LR (Ce (A4 rfl (EX ⟨by show 1<=100000;decide,?_⟩))))))))))));refine MK rfl (GA ⟨_,⟨ks,r,[],c,L',a,rfl,g,n,by decide,by simp,λy b=>?_,Ig.one c,λy b=>absurd b Ak,LB,Ej,Ke,rfl⟩,?_⟩)
  .rw[Et,List.mem_singleton]at b;rw[b];exact u c p
  rintro q t'⟨L2,rfl,d⟩;refine⟨_,_,rfl,?_⟩;rcases d with⟨rfl,Wy,Ed,x,Hj,B,p2⟩|⟨W,j,rfl,pre,t⟩
  .refine Bl (BW (LG (A4 rfl (GW ⟨rfl,_,rfl,C9 (by decide) (BN ⟨L2,_,_,rfl,Wy,Ed,x,λz l=>?_⟩)⟩))));rw[Jy o]at l;rcases List.mem_append.mp l with h|h
   .exact Hj _ (Dh z h)
   .rw[List.mem_singleton.mp h];exact p2
  .refine Bl (BW (LG (A4 rfl (GW ⟨rfl,_,rfl,HG rfl ?_⟩))));obtain⟨W2,v⟩:=pre;refine D4 (A4 rfl (.inr ⟨W,j,c,rfl,t,?_,p⟩));rw[<- v];rfl
 .rintro A9⟨L',s4,e,rfl,LB,Ej,Ke,Dh⟩;rw[AD,FR]at Dh;exact D4 (GW (.inl ⟨rfl,L',LB,Ej,Ke,Dh⟩))
def ZCT:B3 ["many","length"] ["many","length"] (Aa RY):=by walk_at "z1"
def ZE3:=Sc [(".0",.local),("number",.cell),("sum",.globalImplicit),("many",.free)]
def ZFY:=Sc [(".0",.local),("counts",.local),("number",.free)]
def uh:TJ ["many","length"] (Aa RY) ZE3 "number" ["many"] [0]:=⟨rfl,by decide +kernel,rfl,by decide +kernel,λ_ _=>rfl,λ_=>rfl,rfl,by decide +kernel,by decide +kernel,by decide +kernel,by decide +kernel⟩
def ZFI:=Sc [(".0",.local),("number",.cell),("sum",.globalImplicit),("many",.cell)]
def qk:Cv ["many","number"] ZFI ZFY "counts" ["number"] [1]:=by walk_at "z2"
def lD : ∀ss R,OE ss R->ss.length=2:=by rintro _ _⟨cs,n,rfl,_,_,_,rfl⟩;rfl
def ZAk(F:AM K "sums_of" "sums_of" RY f fd)(m:mg "sums_of"=some (.ref f)):
  AA P w K mg ZS "sums_of" 1 ["many","length"] (AL OE):=by
 refine AA.mk F (F.binds (by walk_at "bD2")) m (F.B2 (k:=0) ZCT (λvs H Q E h=>Fz.Bn lD h) (λAc A outer s H vs Q E i h=>?_))
 refine⟨_,(AJ rfl (Ao (ZDi rfl uh (L9 rfl De (A0 (qv 1) A6)) (λ_ _ _ _=>by exact ES) (λ_ _ _ _=>by exact(CU (show Du _ (.builtin "sum") (Tr K)from Rj rfl) En (A0 (FK rfl qk (show QI _ _ _ (R9 K _)from CS (qv 0)) (λ_ _ _ _=>by exact ES) (λ_ _ _ _=>by exact(Ab (show D2 _ (D1 K)from Ay) (qv 1) (qv 0)))) A6)))))),?_⟩;refine Fz.Bm h lD ?_;rintro _ _⟨cs,n,rfl,l,o,d,rfl⟩;show Ws [_,_] _ _ _;refine JH (Eg (λk:Nat=>PV.int (k:Int)) (λ_=>true) (λj=>PV.int (cs.map λc=>c.getD j 0).sum) (c7 (A4 rfl ⟨_,rfl,by omega,by omega,List.range n,by rw[Gz];rfl,by rw[Kl];omega,λk _=>Ew rfl,λk hk _=>?_,?_⟩)) (λa b e=>by injection e with e;omega))
 .have hk:=List.mem_range.mp hk;refine dv (Bk (Ba (Eg (λc:List Int=>PV.tup (c.map .int)) (λ_=>true) (λc=>PV.int (c.getD k 0)) (DL (CY (A4 rfl ⟨_,.inl ⟨rfl,cs,rfl,by omega,λc _=>Ew rfl,λc g _=>?_,?_⟩⟩))) (λa b e=>by injection e with e;exact je e))))
  .refine BK (BO rfl ⟨rfl,A4 rfl ⟨_,_,rfl,EU (by rw[Aj,AX (show k<c.length by have:=d c g;omega)];rfl),?_⟩⟩);rw[DN,AX (show k<c.length by have:=d c g;omega)];rfl
  .rw[List.filter_eq_self.mpr λ_ _=>rfl];exact⟨_,.inl ⟨rfl,rfl,cs.map λc=>c.getD k 0,by rw[Bu];rfl,rfl⟩⟩
 .rw[List.filter_eq_self.mpr λ_ _=>rfl,Bu];rfl
def jU:B3 ["put","known","rounds"] ["put","known"] (Aa aa):=by walk_at "z1"
def cO : ∀ss R,R1 ss R->ss.length=2:=by rintro _ _⟨ks,r,M,p,rfl,_,rfl⟩;rfl
def ZF9(F:AM K "rounds_to" "rounds_to" aa f fd)(m:mg "rounds_to"=some (.ref f)):
  AA P w K mg ZS "rounds_to" 1 ["put","known"] (AL R1):=by
 refine AA.mk F (F.binds (by walk_at "bD2")) m (F.B2 (k:=0) jU (λvs H Q E h=>Fz.Bn cO h) (λAc A outer s H vs Q E b h=>?_))
 refine⟨_,(AF rfl (Aq 2 jU.nd (Ab Ay (Jp (EO b) (qv 1) (Ab Ay (qv 0) A8) (λ_ _=>rfl)) A8))
   (AF rfl (BF (Az LQ (Ab Ay (qv 0) A8) (J4 (v:=.ref GK) (by rfl) N1 rfl)) (AJ rfl (Ao (qv 2))) BG)
   (AJ rfl (Ao (B5 Eu (qv 2) A8))))),?_⟩
 refine Fz.Bm h cO ?_;rintro _ _⟨ks,r,M,p,rfl,a,rfl⟩;have C:Ga K GK (Dd.map .str):=Ga.of Nr rfl rfl;show Ws [_,_,.any] _ _ _;have hi:=List.idxOf_lt_length_iff.mpr a;have d:Io (Bb M) (M.map (G1 ks r)) (.inr p.2)=some (G1 ks r p.2):=LW a (by rw[Aj,AX hi,Hr hi];rfl);refine AQ (EE (BK (Bk (MB (A4 rfl ⟨Bb M,_,rfl,BK (BO rfl ⟨rfl,Af ⟨_,_,rfl,rfl,.inr p.2,_,rfl,d,_,.inr ⟨rfl,rfl,Af ⟨_,_,rfl,rfl,?_⟩⟩⟩⟩)⟩)))));refine AQ (Bl (BW (Sn (neg:=false) C (BK (BO rfl ⟨rfl,Af ⟨_,_,rfl,rfl,p.1,rfl,_,rfl,?_⟩⟩)))));refine BV (λc=>?_) (λc=>BN ?_)
 .refine D4 (A4 rfl ?_);unfold Ft;rw[pT (qB c)]
 .walk_at "ww"
  unfold Ft;rw[pL (λz=>c (pf z))]
def OM:B3 ["book","word","rule","known","comers","put","counts"] ["book","word","rule","known"] (Aa NY):=by walk_at "z1"
def ZFL:=Sc [(".0",.local),("put",.local),("known",.free)]
def yG:Cv ["book","word","rule","known","comers","put","counts"] (Aa NY) ZFL "put" ["known"] [3]:=by walk_at "z2"
def ZCJ:=Sc [(".0",.local),("put",.local),("rounds_to",.globalImplicit),("known",.free)]
def pA:Cv ["book","word","rule","known","comers","put","counts"] (Aa NY) ZCJ "put" ["known"] [3]:=by walk_at "z2"
def bg:∀ss R,(Kx A1 n) ss R->ss.length=4:=by rintro _ _⟨ks,x,r,T,i,M,a,rfl,_,_,_,_,_,_,_,_,_,_,rfl⟩;rfl
def xG(n:Nat)(F:AM K "reckon" "reckon" NY f fd)(m:mg "reckon"=some (.ref f))(QF:AA P w K mg ZS "reckon" (4+n) ["book","word","rule","known"] (BM (Kx A1 (n)))):
  AA P w K mg ZS "reckon" (4+n+1) ["book","word","rule","known"] (BM (Kx A1 (n+1))):=by
 refine AA.mk F (F.binds (by walk_at "bD4")) m (F.B2 (k:=4+n) OM (λvs H Q E h=>Fz.IU bg h) (λAc A outer s H vs Q E b h=>?_))
 refine⟨_,(AF rfl (BF (ar (EO b) (qv 1) (qv 3)) (AJ rfl ZAv) BG)
   (AF rfl (Aq 4 OM.nd (Ad (hk:=by omega) Hu b (A0 (qv 0) (A0 (qv 1) (A0 (qv 2) A6)))))
   (AF rfl (Ck (EN Dw rfl (CS (qv 4)) (CV 5 OM.nd) (AJ rfl (CD (Ad (hk:=by omega) QF b (A0 (qv 0) (A0 (Ab Ay (qv 5) A8) (A0 (qv 2) (A0 (qv 3) A6)))))))))
   (AF rfl (Aq 6 OM.nd (Ad (hk:=by omega) Js b (A0 (FK rfl yG (CS (qv 4)) (λ_ _ _ _=>by exact ES) (λ_ _ _ _=>by exact(Ab (show D2 _ (D1 K)from Ay) (Jp (EO b) (qv 0) (Ab (show D2 _ (D1 K)from Ay) (qv 1) A8) (λ_ _=>rfl)) A8))) (A0 (CU Fd BA (A0 (Hk Dc b (by omega) (qv 0)) A6)) A6))))
   (AF rfl (uw (qv 6) (FH Fm V6 o6 fK (Hk Dc b (by omega) (qv 0)) (A0 (qv 1) A6)) A8 RQ)
   (AJ rfl (Ow (EO b) (qv 3) (qv 1) (DZ (A0 (qv 1) (A0 (Ib Mh E1 (A0 (qv 6) A6)) (A0 (CU (zZ rfl) Hl (A0 (B5 W5 (GG (A0 A8 A6)) (FK rfl pA (CS (qv 4)) (λ_ _ _ _=>by exact ES) (λ_ _ _ _=>by exact(Ad (hk:=by omega) Pp b (A0 (qv 1) (A0 (qv 0) A6)))))) A6)) A6))))))))))),?_⟩
 refine Fz.rm 3 h bg ?_;rintro _ _⟨ks,x,r,T,i,M,a,rfl,g,b,B,Cb,I,hi,hn,V,σ,U,rfl⟩;show Ws [_,_,_,_,.any,.any,.any] _ _ _;have l8:=g.l8;have v:=Bi hi;have D:=I x v;have X:T.length<=8:=by
  have:=G2 Cb I;rw[AD]at this;omega
 have h6:=lO g r x;refine AQ (Bl (Fx (fT (A4 rfl (Bv (i:=3) rfl ⟨Bb M,a,_,.inr x,rfl,rfl,_,rfl,?_⟩)))));rw[P2];refine BV (λc=>?_) (λc=>BN ?_)
 .exact ZEB (i:=3) rfl ⟨rfl,M,rfl,V,σ,U,λy h=>h,qB c,λy h=>.inl h⟩
 have hx:x∉M:=λz=>c (pf z);refine AQ (Gj (K9 (AS (A4 rfl (AS (A4 rfl (AS (A4 rfl (Ax ⟨_,⟨ks,x,r,rfl,g,D,b,rfl⟩,?_⟩)))))))));rintro _ rfl;refine Jk 4 rfl ?_;show Ws [.is (Ar A1 ks),.is (.str x),.is (.str r),.ow true (Ef ks r a M),.is (.lst ((CP ks r x).map B4)),.any,.any] _ _ _;refine AQ (ET (FF (λxs j A9=>∃(M':List Str)(l C:Slot),A9=[.is (Ar A1 ks),.is (.str x),.is (.str r),.ow true (Ef ks r a M'),.is (.lst ((CP ks r x).map B4)),l,C]/\M'.Nodup/\(∀y∈M',y∈T)/\Rb (Ai ks r) M'/\(∀y∈M,y∈M')/\(∀y∈M',y∈M∨Be (Ai ks r) (Ai ks r x) y)/\∀p∈(CP ks r x).take j,p.2∈M') (DL (CY (A4 rfl ⟨_,.inl ⟨rfl,⟨M,_,_,rfl,V,σ,U,λy h=>h,λy h=>.inl h,λp e=>absurd e (by simp)⟩,?_,?_⟩⟩)))))
 .rintro j q A9 u⟨M',l,C,rfl,Ej,s',L,Je,HQ,Dh⟩;rw[Aj]at u;obtain⟨p,R,rfl⟩:=Option.map_eq_some_iff.mp u;have pn:p.2∈Ai ks r x:=List.mem_map.mpr ⟨p,Bi R,rfl⟩;have pt:=B i x hi p.2 pn;obtain⟨Y,Cm,S⟩:=DQ pt;rw[DR]at Cm;rw[Nz]at S;refine Fp ?_;refine OC (i:=3) (LJ rfl (Dz (A4 rfl (Dz (BK (BO rfl ⟨rfl,Af ⟨_,_,rfl,rfl,Dz (A4 rfl (MK rfl (GA ⟨_,⟨ks,p.2,r,T,Y,M',a,rfl,g,b,B,Cb,I,by rw[AX (by omega),S],by omega,Ej,s',L,rfl⟩,?_⟩)))⟩⟩))))));rintro _ _⟨rfl,M2,rfl,Ed,s2,c2,Hj,W,PQ⟩;refine⟨_,_,rfl,M2,_,_,rfl,Ed,s2,c2,λy h=>Hj y (Je y h),λy d=>?_,λq u=>?_⟩
  .rcases PQ y d with h|h
   .exact HQ y h
   .refine .inr (h.mono λz o=>?_);rw[List.mem_singleton.mp o];exact .here pn
  .rw[Jy R]at u;rcases List.mem_append.mp u with h|h
   .exact Hj _ (Dh q h)
   .rw[List.mem_singleton.mp h];exact W
 .rintro A9⟨M',l,C,rfl,Ej,s',L,Je,HQ,Dh⟩;rw[AD,FR]at Dh;have N:x∉M':=λz=>(HQ x z).elim hx (hX B Cb v);have lM:=G2 Ej s';obtain⟨eC,eR⟩:=Pt B X v;have J:=List.idxOf_lt_length_iff.mpr D;rw[AD]at J;have lo:∀{p:Str×Str},p∈CP ks r x->Io (Bb M') (M'.map (G1 ks r)) (.inr p.2)=some (G1 ks r p.2):=λ{p}e=>by
   have hi:=List.idxOf_lt_length_iff.mpr (Dh p e);exact LW (Dh p e) (by rw[Aj,AX hi,Hr hi];rfl)
  refine AQ (Gj (K9 (AS (Ba (rf ?_)))));rw[show List.map Hg _=[.is (Ar A1 ks),.is (.str x),.is (.str r),.is (Ef ks r a M').pv,.is (.lst ((CP ks r x).map B4)),Hg l,Hg C]from rfl,T4];refine Eg B4 (λ_=>true) (λp=>PV.tup ((cnt ks r p.2).map .int)) (DL (CY (A4 rfl ⟨_,.inl ⟨rfl,CP ks r x,rfl,by omega,λp _=>Ew rfl,λp e _=>?_,?_⟩⟩))) QH
  .exact BK (Bk (MB (A4 rfl ⟨Bb M',_,rfl,BK (BO rfl ⟨rfl,Af ⟨_,_,rfl,rfl,.inr p.2,_,rfl,lo e,_,.inr ⟨rfl,rfl,Af ⟨_,_,rfl,rfl,rfl⟩⟩⟩⟩)⟩)))
  rw[List.filter_eq_self.mpr λ_ _=>rfl];refine⟨UD _ (λp=>by rw[Dx];exact fH _) _,?_⟩;refine AS (J8 (Bk (Ba (GL (A4 rfl ⟨Dl,_,rfl,by decide +kernel,Ax ⟨_,⟨ks,rfl,g,rfl⟩,?_⟩⟩)))));rintro _ rfl;refine⟨_,.inl ⟨rfl,?_⟩⟩;rw[AD,AD];refine Ax ⟨_,⟨(CP ks r x).map λp=>cnt ks r p.2,ks.length,by rw[Bu];rfl,l8,by rw[AD];omega,λc hc=>?_,rfl⟩,?_⟩
  .obtain⟨p,_,rfl⟩:=List.mem_map.mp hc;exact fL ks r p.2
  rintro _ rfl;generalize hG:(λj:Nat=>(((CP ks r x).map λp=>cnt ks r p.2).map λc=>c.getD j 0).sum)=G;show Ws [.is (Ar A1 ks),.is (.str x),.is (.str r),.ow true (Ef ks r a M'),.is (.lst ((CP ks r x).map B4)),l,.own (((List.range ks.length).map G).map .int)] _ _ _;refine AQ (pG rfl (YK (Bk (Ba (GL (A4 rfl ⟨Dl,_,rfl,by decide +kernel,Ax ⟨_,⟨ks,rfl,g,rfl⟩,?_⟩⟩))))));rintro _ rfl;refine⟨_,.inl ⟨rfl,rfl,wk ks,rfl,A4 rfl ⟨x,rfl,D,_,G ((wk ks).idxOf x),rfl,?_,Af ⟨_,rfl,?_⟩⟩⟩⟩
  .rw[Aj,Aj,Kk J];rfl
  have eS:((((List.range ks.length).map G).map PV.int).set ((wk ks).idxOf x) (.int (G ((wk ks).idxOf x)+1)))=(cnt ks r x).map .int:=by
   rw[<- List.map_set,sum_set rfl J,eC];unfold Gv;rw[<- hG]
   congr 1
   refine Ik λj _=>?_;unfold Ai;show(List.map (λc=>List.getD c j 0) (List.map (λp=>cnt ks r p.2) (CP ks r x))).sum+_=_;rw[Bu,Bu];rfl
  rw[eS];show Ws [.is (Ar A1 ks),.is (.str x),.is (.str r),.ow true (Ef ks r a M'),.is (.lst ((CP ks r x).map B4)),l,.own ((cnt ks r x).map .int)] _ _ _;refine U8 (i:=3) (t:=Ef ks r a M') (Dy (zh ?_));rw[show List.map Hg _=[.is (Ar A1 ks),.is (.str x),.is (.str r),.is (Ef ks r a M').pv,.is (.lst ((CP ks r x).map B4)),Hg l,.is (.lst ((cnt ks r x).map .int))]from rfl,T4];refine G7 (Ce (A4 rfl (Ce (NJ rfl (DG rfl (Ce (xO (Bk (Ba (Qz (Bk (Ba (LR (Ce (Af (EX ⟨by decide,?_⟩))))))))))))))));refine⟨_,.inl ⟨rfl,rfl,Bk (Ba (Eg B4 (λ_=>true) (λp=>PV.int (Ft (AK ks r) p)) (DL (CY (A4 rfl ⟨_,.inl ⟨rfl,CP ks r x,rfl,by omega,λp _=>Ew rfl,λp e _=>?_,?_⟩⟩))) QH))⟩⟩
  .refine wp_call (AS (A4 rfl (AS (A4 rfl (Ax ⟨_,⟨ks,r,M',p,rfl,Dh p e,rfl⟩,?_⟩)))));rintro _ rfl;rfl
  rw[List.filter_eq_self.mpr λ_ _=>rfl];refine⟨_,.inl ⟨rfl,rfl,by rw[AD];show 1+_<=_;omega,_,.inl ⟨rfl,rfl,1::(CP ks r x).map (Ft (AK ks r)),by rw[Ae,Bu];rfl,by simp,λm Z d=>?_⟩⟩⟩;have em:m=AK ks r x:=by rw[eR];exact ZB2 Z d
  subst em;refine EX ⟨by show 3<=100000;decide,?_,?_⟩
  .simp only[Dx,Gf];rw[fH];rfl
  refine Bv rfl ⟨true,a,Bb M',_,rfl,rfl,by rw[AD];omega,SG Ej,Ak,A4 rfl ⟨.inr x,rfl,?_⟩⟩;rw[OV.EF,Mi N,Sb N];refine⟨_,_,_,_,rfl,rfl,rfl,M'++[x],?_,PN Ej N,λy d=>?_,λy d z o=>?_,λy d=>by simp[Je y d],by simp,λy d=>?_⟩
  .unfold Ef;rw[C0];rfl
  .rcases List.mem_append.mp d with h|h
   .exact s' y h
   .rw[List.mem_singleton.mp h];exact v
  .rcases List.mem_append.mp d with h|h
   .exact G8 _ (L y h z o)
   .rw[List.mem_singleton.mp h]at o;obtain⟨p,e,rfl⟩:=List.mem_map.mp o;exact G8 _ (Dh p e)
  .rcases List.mem_append.mp d with h|h
   .rcases HQ y h with q|q
    .exact .inl q
    .exact .inr (q.mono λz o=>.step (.here (by simp)) o)
   .rw[List.mem_singleton.mp h];exact .inr (.here (by simp))
def ZDn(F:AM K "reckon" "reckon" NY f fd)(m:mg "reckon"=some (.ref f)):AA P w K mg ZS "reckon" 13 ["book","word","rule","known"] (BM (Kx A1 9)):=by
 have z:∀n:Nat,AA P w K mg ZS "reckon" (4+n) ["book","word","rule","known"] (BM (Kx A1 (n))):=λn=>by
  induction n with
  |zero=>exact AA.mk F (F.binds (by walk_at "bD4")) m (F.B2 (k:=3) OM (λvs H Q E h=>(Fz.K4 (br) h).elim) (λAc A outer s H vs Q E b h=>(Fz.K4 (br) h).elim))
  |succ n a=>exact xG (A1:=A1) BA Hl E1 Dc Hu Pp Js n F m a
 exact z 9
def Zu:B3 ["book","crowd","rule","known","word"] ["book","crowd","rule"] (Aa VQ):=by walk_at "z1"
def gh:∀ss R,(SD A1) ss R->ss.length=3:=by rintro _ _⟨ks,tp,cs,r,T,rfl,_,_,_,_,_,_,rfl⟩;rfl
def xE(F:AM K "known_rows" "known_rows" VQ f fd)(m:mg "known_rows"=some (.ref f))(QF:AA P w K mg ZS "reckon" 13 ["book","word","rule","known"] (BM (Kx A1 9))):
  AA P w K mg ZS "known_rows" 14 ["book","crowd","rule"] (AL (SD A1)):=by
 refine AA.mk F (F.binds (by walk_at "bD3")) m (F.B2 (k:=13) Zu (λvs H Q E h=>Fz.Bn gh h) (λAc A outer s H vs Q E l h=>?_))
 refine⟨_,(AF rfl (Aq 3 Zu.nd TF)
   (AF rfl (Ck (EN Dw rfl (CS (qv 1)) (CV 4 Zu.nd) (AJ rfl (CD (Ad QF l (A0 (qv 0) (A0 (qv 4) (A0 (qv 2) (A0 (qv 3) A6)))))))))
   (AJ rfl (Ao (qv 3))))),?_⟩
 refine Fz.Bm h gh ?_;rintro _ _⟨ks,tp,cs,r,T,rfl,g,l,B,Cb,o,G,rfl⟩;show Ws [_,_,_,.any,.any] _ _ _;have L:T.length<=8:=by
  have:=G2 Cb o;have:=g.l8;rw[AD]at *;omega
 refine AQ (KH (Ue λa=>?_));show Ws [_,_,_,.ow false (Ef ks r a []),.any] _ _ _;refine AQ (ET (FF (λxs i A9=>∃(M:List Str)(s4:Slot),A9=[.is (Ar A1 ks),.sq tp (cs.map .str),.is (.str r),.ow false (Ef ks r a M),s4]/\M.Nodup/\(∀y∈M,y∈T)/\Rb (Ai ks r) M/\(∀y∈M,Be (Ai ks r) cs y)/\∀y∈cs.take i,y∈M) ?_))
 walk_at "ww"
 refine⟨⟨[],_,rfl,HA,λy b=>absurd b Ak,λy b=>absurd b Ak,λy b=>absurd b Ak,λy b=>absurd b (by simp)⟩,?_,?_⟩
 .rintro i q A9 p⟨M,s4,rfl,nd,s',n,e,Dh⟩;rw[Aj]at p;obtain⟨c,t,rfl⟩:=Option.map_eq_some_iff.mp p;have u:=Bi t;obtain⟨j,D,I⟩:=DQ (G c u);refine Fp ?_;refine OC (i:=3) (LJ rfl (Dz (A4 rfl (Dz (A4 rfl (Dz (A4 rfl (MK rfl (GA ⟨_,⟨ks,c,r,T,j,M,a,rfl,g,l,B,Cb,o,by rw[AX D,I],by omega,nd,s',n,rfl⟩,?_⟩)))))))));rintro _ _⟨rfl,M2,rfl,Ed,s2,J,Hj,v,PQ⟩;refine⟨_,_,rfl,M2,_,rfl,Ed,s2,J,λy b=>?_,λz d=>?_⟩
  .rcases PQ y b with h|h
   .exact e y h
   .exact h.mono λz d=>by rw[List.mem_singleton.mp d];exact .here u
  .rw[Jy t]at d;rcases List.mem_append.mp d with h|h
   .exact Hj _ (Dh z h)
   .rw[List.mem_singleton.mp h];exact v
 .rintro A9⟨M,s4,rfl,nd,s',n,e,Dh⟩;rw[AD,FR]at Dh;refine Ry (ZD5 rfl ⟨a,M,rfl,nd,λx=>⟨e x,λq=>?_⟩⟩)
  induction q with
  |here m=>exact Dh _ m
  |step _ b C=>exact n _ C _ b
def jZ:B3 ["book","crowd","rule","known"] ["book","crowd","rule"] (Aa SM):=by walk_at "z1"
def ZFc:=Sc [(".0",.local),("word",.local),("known",.free)]
def ZCy:Cv ["book","crowd","rule","known"] (Aa SM) ZFc "word" ["known"] [3]:=by walk_at "z2"
def lp:∀ss R,(VW A1) ss R->ss.length=3:=by rintro _ _⟨ks,tp,cs,r,T,rfl,_,_,_,_,_,_,rfl⟩;rfl
def y2(F:AM K "table_of" "table_of" SM f fd)(m:mg "table_of"=some (.ref f)):
  AA P w K mg ZS "table_of" 15 ["book","crowd","rule"] (AL (VW A1)):=by
 refine AA.mk F (F.binds (by walk_at "bD3")) m (F.B2 (k:=14) jZ (λvs H Q E h=>Fz.Bn lp h) (λAc A outer s H vs Q E c h=>?_))
 refine⟨_,(AF rfl (Aq 3 jZ.nd (Ad Ms c (A0 (qv 0) (A0 (qv 1) (A0 (qv 2) A6)))))
   (AJ rfl (Ao (FK rfl ZCy (CS (Hk Dc c (by decide) (qv 0))) (λ_ _ _ _=>by exact(MN (ar (EO c) (qv 1) (qv 0)))) (λ_ _ _ _=>by exact(Jp (EO c) (qv 0) (qv 1) (λ_ _=>rfl))))))),?_⟩
 refine Fz.Bm h lp ?_;rintro _ _⟨ks,tp,cs,r,T,rfl,g,c,i,Cb,j,l,rfl⟩;show Ws [_,_,_,.any] _ _ _;have l8:=g.l8;refine AQ (KH (P7 (AS (A4 rfl (Fb (Fq rfl (AS (A4 rfl (Ax ⟨_,⟨ks,tp,cs,r,T,rfl,g,c,i,Cb,j,l,rfl⟩,?_⟩)))))))));rintro _⟨a,M,rfl,nd,n⟩;show Ws [_,_,_,.ow false (Ef ks r a M)] _ _ _;refine Yu 3 rfl ?_;rw[T4];show Ws [.is (Ar A1 ks),.sq tp (cs.map .str),.is (.str r),.is (Pk ks r M)] _ _ _;refine JH (Eg PV.str (λw=>decide (w∈M)) (G1 ks r) (DL (CY (Ba (GL (A4 rfl ⟨Dl,_,rfl,by decide +kernel,Ax ⟨_,⟨ks,rfl,g,rfl⟩,?_⟩⟩))))) (λa b e=>by injection e));rintro _ rfl;refine⟨_,.inl ⟨rfl,wk ks,rfl,by rw[AD];omega,λx _=>?_,λx _ hx=>?_,M,rfl,n⟩⟩
 .refine Fx (ZAY (A4 rfl (A4 rfl ⟨Bb M,_,.inr x,rfl,rfl,_,rfl,?_⟩)));rw[P2]
 .have d:=qB hx;have hi:=List.idxOf_lt_length_iff.mpr d;exact MB (A4 rfl ⟨Bb M,_,rfl,A4 rfl ⟨.inr x,_,rfl,LW d (by rw[Aj,AX hi,Hr hi];rfl),rfl⟩⟩)
def iO:B3 ["book","crowd","rule","found"] ["book","crowd","rule"] (Aa Wd):=by walk_at "z1"
def ib:∀ss R,(Y3 A1) ss R->ss.length=3:=by rintro _ _⟨ks,tp,cs,r,rfl,_,_,_,_,rfl⟩;rfl
def t7(F:AM K "ending" "ending" Wd f fd)(m:mg "ending"=some (.ref f)):
  AA P w K mg ZS "ending" 16 ["book","crowd","rule"] (AL (Y3 A1)):=by
 refine AA.mk F (F.binds (by walk_at "bD3")) m (F.B2 (k:=15) iO (λvs H Q E h=>Fz.Bn ib h) (λAc A outer s H vs Q E a h=>?_))
 refine⟨_,(AF rfl (CD (Ad JZ a (A0 (qv 2) A6)))
   (AF rfl (CD (Ad Gy a (A0 (qv 0) (A0 (qv 1) A6))))
   (AF rfl (Aq 3 iO.nd (Ad NN a (A0 (qv 0) (A0 (qv 1) (A0 (qv 2) A6)))))
   (AF rfl (BF (Az TC (qv 3) JO) (AJ rfl (Ao (DZ (A0 BI (A0 (Ab Ay (qv 3) A8) (A0 (Ab Ay (qv 3) A8) A6)))))) BG)
   (AJ rfl (Ao (DZ (A0 BI (A0 (Ad YY a (A0 (qv 0) (A0 (qv 1) (A0 (qv 2) A6)))) A6))))))))),?_⟩
 refine Fz.Bm h ib ?_;rintro _ _⟨ks,tp,cs,r,rfl,g,a,l,n,rfl⟩;show Ws [_,_,_,.any] _ _ _;refine AQ (Fj (wp_call (AS (A4 rfl (Ax ⟨_,⟨r,rfl,a,rfl⟩,?_⟩)))));rintro _ rfl;refine AQ (Fj (wp_call (AS (A4 rfl (Fb (Fq rfl (Ax ⟨_,⟨ks,tp,cs,rfl,g,l,n,rfl⟩,?_⟩)))))));rintro _ rfl;refine AQ (EE (wp_call (AS (A4 rfl (Fb (Fq rfl (AS (A4 rfl (Ax ⟨_,⟨ks,tp,cs,r,rfl,g,a,l,n,rfl⟩,?_⟩)))))))));rintro q(⟨rfl,T,d,Cb,e,GO⟩|⟨W,i,c,rfl,j,o,p⟩)
 .refine AQ (Bl (BW (LG (A4 rfl (GW ⟨rfl,_,rfl,C9 (by decide) (BN ?_)⟩)))));refine Ry (SI (FW (Dy (EV (FW (Tv (K9 (AS (A4 rfl (Fb (Fq rfl (AS (A4 rfl (Ax ⟨_,⟨ks,tp,cs,r,T,rfl,g,a,d,Cb,e,GO,rfl⟩,?_⟩))))))))))))));rintro _⟨M,rfl,t⟩b;exact Oc ⟨λ_ h=>absurd h Ak,λ_ h=>absurd h Ak,by show 2<=100000;decide,.inr ⟨T,d,Cb,e,GO,b,M,rfl,t⟩⟩
 .refine AQ (Bl (BW (LG (A4 rfl (GW ⟨rfl,_,rfl,HG rfl ?_⟩)))));refine Ry (SI (FW (Dy (EV (FW (Dy (BK (BO rfl ⟨rfl,Af ⟨_,_,rfl,rfl,?_⟩⟩))))))));refine FW (Dy (BK (BO rfl ⟨rfl,Af ⟨_,_,rfl,rfl,?_⟩⟩)));exact Oc ⟨λ_ h=>absurd h Ak,λ_ h=>absurd h Ak,λ_ h=>absurd h Ak,by show 3<=100000;decide,.inl ⟨i9 j ⟨c,o,p⟩,W,i,c,rfl,j,o,p⟩⟩
def ZBS:B3 ["book","crowd","rule"] ["book","crowd","rule"] (Aa Vs):=by walk_at "z1"
def eX:∀ss R,(Ur A1) ss R->ss.length=3:=by rintro _ _⟨ks,tp,cs,r,rfl,_,_,_,_,_,rfl⟩;rfl
def tK(F:AM K "check_ends" "check_ends" Vs f fd)(m:mg "check_ends"=some (.ref f)):
  AA P w K mg ZS "check_ends" 15 ["book","crowd","rule"] (AL (Ur A1)):=by
 refine AA.mk F (F.binds (by walk_at "bD3")) m (F.B2 (k:=14) ZBS (λvs H Q E h=>Fz.Bn eX h) (λAc A outer s H vs Q E a h=>?_))
 refine⟨_,(AJ rfl (BF (Az TC (Ad NN a (A0 (qv 0) (A0 (qv 1) (A0 (qv 2) A6)))) JO) (AJ rfl J0) BG)),?_⟩;refine Fz.Bm h eX ?_;rintro _ _⟨ks,tp,cs,r,rfl,g,a,e,j,d,rfl⟩;show Ws [_,_,_] _ _ _;refine Bl (BW (LG (wp_call (AS (A4 rfl (Fb (Fq rfl (AS (A4 rfl (Ax ⟨_,⟨ks,tp,cs,r,rfl,g,a,e,j,rfl⟩,?_⟩))))))))));rintro _(⟨rfl,_⟩|⟨W,i,c,rfl,b,l,hx⟩)
 .exact GW ⟨rfl,_,rfl,C9 (by decide) (BN ⟨_,rfl,rfl⟩)⟩
 .exact absurd (i9 b ⟨c,l,hx⟩) d
def zT:B3 ["book","word","kind"] ["book","word","kind"] (Aa TM):=by walk_at "z1"
def ZEK:=Sc [(".0",.local),("put",.local),("kind",.free)]
def pZ:Cv ["book","word","kind"] (Aa TM) ZEK "put" ["kind"] [2]:=by walk_at "z2"
def jP:∀ss R,(Yk A1) ss R->ss.length=3:=by rintro _ _⟨ks,x,y,rfl,_,_,rfl⟩;rfl
def ZEh(F:AM K "puts_in" "puts_in" TM f fd)(m:mg "puts_in"=some (.ref f)):
  AA P w K mg ZS "puts_in" 3 ["book","word","kind"] (AL (Yk A1)):=by
 refine AA.mk F (F.binds (by walk_at "bD3")) m (F.B2 (k:=2) zT (λvs H Q E h=>Fz.Bn jP h) (λAc A outer s H vs Q E a h=>?_))
 refine⟨_,(AJ rfl (Ao (CU Fd BA (A0 (FK rfl pZ (CS (HL GN a (by decide) (qv 0) (A0 (qv 1) A6))) (λ_ _ _ _=>by exact(MN (Az DF (Ab (show D2 _ (D1 K)from Ay) (qv 1) A8) (qv 0)))) (λ_ _ _ _=>by exact(qv 1))) A6)))),?_⟩;refine Fz.Bm h jP ?_;rintro _ _⟨ks,x,y,rfl,g,hx,rfl⟩;show Ws [_,_,_] _ _ _;have b:=(g.Ip x).1;refine D4 (J8 (Bk (Ba (Eg B4 (λp=>decide (p.2=y)) B4 (DL (CY (Ba (GL (A4 rfl ⟨Dl,_,rfl,by decide +kernel,AS (A4 rfl (Ax ⟨_,⟨ks,x,rfl,g,hx,rfl⟩,?_⟩))⟩))))) ZEa))));rintro _ rfl;refine⟨_,.inl ⟨rfl,BR ks x,rfl,by omega,λp _=>?_,λp _ _=>A4 rfl rfl,_,.inl ⟨rfl,?_⟩⟩⟩
 .exact BW (Eh (BK (BO rfl ⟨rfl,Af ⟨_,_,rfl,rfl,A4 rfl ⟨rfl,_,rfl,rfl⟩⟩⟩)))
 .rw[ZBK]
def Nn:B3 ["book","crowd","counts","standing","number","word","put_in","gone"] ["book","crowd","counts"] (Aa Rh):=by walk_at "z1"
def ZBb:=Sc [(".0",.local),("other",.local),("many",.local),("puts_in",.globalImplicit),("book",.free),("word",.free)]
def ZFB:IH ["book","crowd","counts","standing","number","word","put_in","gone"] (Aa Rh) ZBb ["other","many"] ["book","word"] [0,5]:=by walk_at "z3"
def jK:∀ss R,(bA A1) ss R->ss.length=3:=by rintro _ _⟨ks,tp,cs,A,rfl,_,_,_,_,rfl⟩;rfl
def ZAJ(F:AM K "standing_behind" "standing_behind" Rh f fd)(m:mg "standing_behind"=some (.ref f)):
  AA P w K mg ZS "standing_behind" 4 ["book","crowd","counts"] (AL (bA A1)):=by
 refine AA.mk F (F.binds (by walk_at "bD3")) m (F.B2 (k:=3) Nn (λvs H Q E h=>Fz.Bn jK h) (λAc A outer s H vs Q E d h=>?_))
 refine⟨_,(AF rfl (Aq 3 Nn.nd (GG A6))
   (AF rfl (Ck (EN Dw rfl (bf rfl N7 (A0 (Hk Dc d (by decide) (qv 0)) A6)) (PU rfl (Fw (CV 4 Nn.nd) (Fw (CV 5 Nn.nd) Pq))) (AF rfl (Aq 6 Nn.nd (CU (Rj rfl) En (A0 (Xb rfl ZFB (.cons (.cons .nil)) (λ_=>rfl) (λ_=>rfl) (jN rfl NS (A0 (Hk Dc d (by decide) (qv 0)) (A0 (qv 2) A6))) (λ_ _ _ _=>by exact ES) (λ_ _ _ _=>by exact(B5 KA (qv 3) (Ad Xr d (A0 (qv 0) (A0 (qv 2) (A0 (qv 1) A6))))))) A6)))
   (AF rfl (Aq 7 Nn.nd (Zy (J1 (HL NA d (by decide) (qv 0) (A0 (qv 5) A6))) (Ab D3 (qv 2) (qv 4)) A8))
   (AJ rfl (CD (FH Fm V5 V7 O6 (qv 3) (A0 (B5 JM (B5 Eu (ZF1 (FH Fm ZGt ZGv iz (qv 1) (A0 (qv 5) A6)) (FH PySem.F.plainAttrs_tuple PySem.F.slot_tuple_count PySem.F.type_tuple_count ZD0 (qv 1) (A0 (qv 5) A6))) (qv 6)) (qv 7)) A6))))))))
   (AJ rfl (Ao (Ib Mh E1 (A0 (qv 3) A6)))))),?_⟩
 refine Fz.Bm h jK ?_;rintro _ _⟨ks,tp,cs,A,rfl,g,v,I,B,rfl⟩;show Ws [_,_,_,.any,.any,.any,.any,.any] _ _ _;have l8:=g.l8;refine AQ (Gj (LR (EX ⟨by decide,?_⟩)));refine AQ (ET (FF (λxs i A9=>∃(s4 n l j:Slot),A9=[.is (Ar A1 ks),.sq tp (cs.map .str),.is (.lst (A.map .int)),.own (((Hx ks cs A).take i).map .int),s4,n,l,j]) (dq (CY (Ba (GL (A4 rfl ⟨Dl,_,rfl,by decide +kernel,Ax ⟨_,⟨ks,rfl,g,rfl⟩,?_⟩⟩)))))));rintro _ rfl;refine⟨_,.inl ⟨rfl,rfl,⟨_,_,_,_,rfl⟩,?_,?_⟩⟩
 .rintro i p A9 r⟨s4,n,l,j,rfl⟩;obtain⟨x0,hx,rfl⟩:=i8 r;rw[Aj]at hx;obtain⟨w,t,rfl⟩:=Option.map_eq_some_iff.mp hx;have hi:=(List.getElem?_eq_some_iff.mp t).1;rw[AD]at hi;have x:=Bi t;have G:A[i]?=some (A.getD i 0):=by rw[DN,AX (by omega)];rfl
  refine lN ⟨_,_,rfl,?_⟩;refine AQ (EE (dv (Bk (Ba (VT (λ_=>true) (mr ks w) (cN (CY (Ba (GL (A4 rfl ⟨Dl,_,rfl,by decide +kernel,Ax ⟨_,⟨ks,rfl,g,rfl⟩,?_⟩⟩))))))))));rintro _ rfl;refine⟨_,.inl ⟨rfl,CY (A4 rfl ⟨_,.inl ⟨rfl,?_⟩⟩)⟩⟩;refine⟨by rw[Pe,AD,AD];omega,λz v=>?_,?_⟩
  .obtain⟨p,q,r,y,rfl⟩:=ZCC v;obtain⟨o,ho,rfl⟩:=List.mem_map.mp r;obtain⟨b,DX,rfl⟩:=List.mem_map.mp y;refine⟨_,rfl,rfl,Ew rfl,λ_=>?_⟩;refine iW (A4 rfl ⟨_,rfl,wp_call (AS (A4 rfl (AS (A4 rfl (AS (A4 rfl (Ax ⟨_,⟨ks,o,w,rfl,g,ho,rfl⟩,?_⟩)))))))⟩);rintro _ rfl;have:=B b DX;have:=uS g o w;exact⟨_,rfl,ZAm (by omega) (by omega) (by omega) (by omega),rfl⟩
  rw[List.filter_eq_self.mpr λ_ _=>rfl,c6];refine⟨_,.inl ⟨rfl,rfl,_,rfl,?_⟩⟩;have a:∀{ss:List Slot}{k:PV->Prop}{K':ZHa},ss[0]?=some (.is (Ar A1 ks))->ss[2]?=some (.is (.lst (A.map .int)))->ss[4]?=some (.is (.int (i:Int)))->ss[5]?=some (.is (.str w))->k (.int (if Dq ks w=true then A.getD i 0 else 0))->Wp ss (SN (tB (Ir A1 "goes" (AL (QV A1)) [] E0 (Au 0) (Ah (Au 5) BE))) (BZ (M4 K') (Au 2) (Au 4)) (tC (V.int 0))) k:=λ{ss k K'}D h2 C e hk=>by
   refine Yc (Fx (dz (A4 D ⟨Dl,_,rfl,by decide +kernel,AS (A4 e (Ax ⟨_,⟨ks,w,rfl,g,x,rfl⟩,?_⟩))⟩)));rintro _ rfl;refine⟨_,rfl,BV (λc=>?_) (λc=>?_)⟩
   .rw[pT c]at hk;exact Hb (DG h2 ⟨rfl,A4 C ⟨_,_,rfl,EU (by rw[Aj,G];rfl),hk⟩⟩)
   .rw[pL c]at hk;exact Af hk
  refine AQ (EE (a rfl rfl rfl rfl ?_));have u:∀{ss:List Slot}{k:PV->Prop}{K':ZHa},ss[1]?=some (.sq tp (cs.map .str))->ss[5]?=some (.is (.str w))->k (.int (cs.count w:Nat))->Wp ss (SQ (Fy K' "list" (Te K') (Au 1) (Ah (Au 5) BE)) (Fy K' "tuple" (Vj K') (Au 1) (Ah (Au 5) BE))) k:=λ{ss k K'}h1 e hk=>by
   cases tp with
   |false=>exact tG (dY (Fq h1 ⟨rfl,cs,rfl,A4 e ⟨w,rfl,hk⟩⟩))
   |true=>exact ZD8 (ZDy (Fq h1 ⟨rfl,cs,rfl,A4 e ⟨w,rfl,hk⟩⟩))
  refine SX rfl (HN (HN (u rfl rfl ⟨_,rfl,A4 rfl ⟨_,rfl,_,rfl,A4 rfl ⟨_,rfl,?_⟩⟩⟩)));refine⟨by rw[AD,DR,aY];omega,.is (.int (i:Int)),.is (.str w),.is (.int (((wk ks).zip A).map λq=>q.2 * pin ks q.1 w).sum),.is (.int (if Dq ks w=true then A.getD i 0 else 0)),?_⟩
  rw[Jy (iV t),C0];rfl
 .rintro A9⟨s4,n,l,j,rfl⟩;rw[T1,AD,AD,Jh (by rw[aY];exact As _)];exact D4 (NJ rfl (Xy rfl rfl))
def Oq:B3 ["book","crowd","rule","known","rows","counts","rounds"] ["book","crowd","rule"] (Aa NW):=by walk_at "z1"
def yD:=Sc [(".0",.local),("word",.local),("known",.free)]
def wN:Cv ["book","crowd","rule","known","rows","counts","rounds"] (Aa NW) yD "word" ["known"] [3]:=by walk_at "z2"
def zS:=Sc [(".0",.local),("row",.local)]
def sX:Cv ["book","crowd","rule","known","rows","counts","rounds"] (Aa NW) zS "row" [] []:=by walk_at "z2"
def sY:=Sc [(".0",.local),("row",.local)]
def uO:Cv ["book","crowd","rule","known","rows","counts","rounds"] (Aa NW) sY "row" [] []:=by walk_at "z2"
def mX:∀ss R,(Xa A1) ss R->ss.length=3:=by rintro _ _⟨ks,tp,cs,r,rfl,_,_,_,_,_,rfl⟩;rfl
def pB(F:AM K "reckoned" "reckoned" NW f fd)(m:mg "reckoned"=some (.ref f)):
  AA P w K mg ZS "reckoned" 16 ["book","crowd","rule"] (AL (Xa A1)):=by
 refine AA.mk F (F.binds (by walk_at "bD3")) m (F.B2 (k:=15) Oq (λvs H Q E h=>Fz.Bn mX h) (λAc A outer s H vs Q E d h=>?_))
 refine⟨_,(AF rfl (CD (Ad JZ d (A0 (qv 2) A6)))
   (AF rfl (CD (Ad Gy d (A0 (qv 0) (A0 (qv 1) A6))))
   (AF rfl (CD (Ad Mp d (A0 (qv 0) (A0 (qv 1) (A0 (qv 2) A6)))))
   (AF rfl (Aq 3 Oq.nd (Ad Ms d (A0 (qv 0) (A0 (qv 1) (A0 (qv 2) A6)))))
   (AF rfl (UY (i:=4) Oq.nd rfl (Or.inl rfl) rfl wN (CS (qv 1)) (λ_ _ _ _=>by exact ES) (λ_ _ _ _=>by exact(Jp (EO d) (qv 0) (qv 1) (λ_ _=>rfl))))
   (AF rfl (Aq 5 Oq.nd (Ad Js d (A0 (FK rfl sX (CS (qv 4)) (λ_ _ _ _=>by exact ES) (λ_ _ _ _=>by exact(Ab (show D2 _ (D1 K)from Ay) (qv 0) A8))) (A0 (CU Fd BA (A0 (Hk Dc d (by decide) (qv 0)) A6)) A6))))
   (AF rfl (Aq 6 Oq.nd (ZAg rfl (by rfl) Hl (A0 (FK rfl uO (CS (qv 4)) (λ_ _ _ _=>by exact ES) (λ_ _ _ _=>by exact(Ab (show D2 _ (D1 K)from Ay) (qv 0) A8))) A6) A8))
   (AJ rfl (Ao (DZ (A0 (Ib Mh E1 (A0 (qv 5) A6)) (A0 (qv 6) (A0 (Ad aD d (A0 (qv 0) (A0 (qv 1) (A0 (qv 5) A6)))) A6))))))))))))),?_⟩
 refine Fz.Bm h mX ?_;rintro _ _⟨ks,tp,cs,r,rfl,g,d,n,l,t,rfl⟩;show Ws [_,_,_,.any,.any,.any,.any] _ _ _;have l8:=g.l8;obtain⟨T,p,Cb,v,GO⟩:=xx (ws:=wk ks) (λx h=>ck g l h) t;have q:∀y∈T,y∈wk ks:=λy B=>ck g l (v y B);have z:T.length<=8:=by
  have:=G2 Cb q;rw[AD]at this;omega
 have u:∀c∈cs,c∈T:=λc h=>GO c (.here h);refine AQ (Fj (wp_call (AS (A4 rfl (Ax ⟨_,⟨r,rfl,d,rfl⟩,?_⟩)))));rintro _ rfl;refine AQ (Fj (wp_call (AS (A4 rfl (Fb (Fq rfl (Ax ⟨_,⟨ks,tp,cs,rfl,g,n,l,rfl⟩,?_⟩)))))));rintro _ rfl;refine AQ (Fj (wp_call (AS (A4 rfl (Fb (Fq rfl (AS (A4 rfl (Ax ⟨_,⟨ks,tp,cs,r,rfl,g,d,n,l,t,rfl⟩,?_⟩)))))))));rintro _ rfl;refine AQ (KH (P7 (AS (A4 rfl (Fb (Fq rfl (AS (A4 rfl (Ax ⟨_,⟨ks,tp,cs,r,T,rfl,g,d,p,Cb,q,u,rfl⟩,?_⟩)))))))));rintro _⟨a,M,rfl,nd,C⟩;show Ws [_,_,_,.ow false (Ef ks r a M),.any,.any,.any] _ _ _;refine Yu 3 rfl ?_;rw[T4];show Ws [.is (Ar A1 ks),.sq tp (cs.map .str),.is (.str r),.is (Pk ks r M),.any,.any,.any] _ _ _;refine AQ (Gj (Eg PV.str (λ_=>true) (G1 ks r) (DL (Sr rfl ⟨cs,rfl,by omega,λ_ _=>Ew rfl,λx hx _=>?_,?_⟩)) (λa b e=>by injection e)))
 .have o:=(C x).mpr (.here hx);have hi:=List.idxOf_lt_length_iff.mpr o;exact MB (A4 rfl ⟨Bb M,_,rfl,A4 rfl ⟨.inr x,_,rfl,LW o (by rw[Aj,AX hi,Hr hi];rfl),rfl⟩⟩)
 rw[List.filter_eq_self.mpr λ_ _=>rfl];refine Jk 4 rfl ?_;refine AQ (Gj (K9 (AS (Ba (Eg (G1 ks r) (λ_=>true) (λc=>PV.tup ((cnt ks r c).map .int)) (DL (CY (A4 rfl ⟨_,.inl ⟨rfl,cs,rfl,by omega,λ_ _=>Ew rfl,λy _ _=>?_,?_⟩⟩))) rw_inj)))))
 .exact BK (BO rfl ⟨rfl,Af ⟨_,_,rfl,rfl,rfl⟩⟩)
 rw[List.filter_eq_self.mpr λ_ _=>rfl];refine AS (J8 (Bk (Ba (GL (A4 rfl ⟨Dl,_,rfl,by decide +kernel,Ax ⟨_,⟨ks,rfl,g,rfl⟩,?_⟩⟩)))));rintro _ rfl;refine⟨_,.inl ⟨rfl,Ax ⟨_,⟨cs.map (cnt ks r),ks.length,?_,l8,by rw[AD];omega,λc l=>?_,rfl⟩,?_⟩⟩⟩
 .rw[AD,AD,Bu];rfl
 .obtain⟨y,_,rfl⟩:=List.mem_map.mp l;exact fL ks r y
 rintro _ rfl;rw[show(List.range ks.length).map (λj=>((cs.map (cnt ks r)).map λc=>c.getD j 0).sum)=totC ks r cs from by unfold totC;refine Ik λj _=>?_;rw[Bu];rfl];refine Jk 5 rfl ?_;refine AQ (EE (tI (Bk (Ba (Eg (G1 ks r) (λ_=>true) (λc=>PV.int (AK ks r c)) (DL (CY (A4 rfl ⟨_,.inl ⟨rfl,cs,rfl,by omega,λ_ _=>Ew rfl,λy _ _=>?_,?_⟩⟩))) rw_inj)))))
 .exact BK (BO rfl ⟨rfl,Af ⟨_,_,rfl,rfl,rfl⟩⟩)
 rw[List.filter_eq_self.mpr λ_ _=>rfl];refine⟨_,.inl ⟨rfl,rfl,cs.map (AK ks r),by rw[Bu];rfl,λm o=>?_⟩⟩;have D:=rH (λc l=>by
  rw[(Pt p z (u c l)).2];unfold KQ;have:=(Mz (1::(CP ks r c).map (Ft (AK ks r))) (by simp)).2 1 (by simp);omega) o
 subst D;refine D4 (G7 (Ce (NJ rfl (DG rfl (Ce (A4 rfl (Ce (wp_call (AS (A4 rfl (Fb (Fq rfl (AS (A4 rfl (Ax ⟨_,⟨ks,tp,cs,totC ks r cs,rfl,g,n,RO ks r cs,λc l=>ye g n l,rfl⟩,?_⟩)))))))))))))));rintro _ rfl;exact EX ⟨by show 3<=100000;decide,rfl⟩
def mG:B3 ["book","branch","nexts"] ["book","branch"] (Aa Pz):=by walk_at "z1"
def wW:=Sc [(".0",.local),("put",.local),("branch",.free)]
def ZBO:Cv ["book","branch","nexts"] (Aa Pz) wW "put" ["branch"] [1]:=by walk_at "z2"
def ZBg:=Sc [(".0",.local),("put",.local),("branch",.free)]
def t5:Cv ["book","branch","nexts"] (Aa Pz) ZBg "put" ["branch"] [1]:=by walk_at "z2"
def cF:∀ss R,(L8 A1) ss R->ss.length=2:=by rintro _ _⟨ks,b,rfl,_,_,rfl⟩;rfl
def ZB7(F:AM K "parts_of" "parts_of" Pz f fd)(m:mg "parts_of"=some (.ref f)):
  AA P w K mg ZS "parts_of" 3 ["book","branch"] (AL (L8 A1)):=by
 refine AA.mk F (F.binds (by walk_at "bD2")) m (F.B2 (k:=2) mG (λvs H Q E h=>Fz.Bn cF h) (λAc A outer s H vs Q E a h=>?_))
 refine⟨_,(AF rfl (UY (i:=2) mG.nd rfl (Or.inl rfl) rfl ZBO (CS (HL GN a (by decide) (qv 0) (A0 (Ab Ay (qv 1) A8) A6))) (λ_ _ _ _=>by exact(MN (Az DF (Ab (show D2 _ (D1 K)from Ay) (qv 1) A8) BI))) (λ_ _ _ _=>by exact(DZ (A0 (Ab (show D2 _ (D1 K)from Ay) (qv 1) A8) (A0 (Ab (show D2 _ (D1 K)from Ay) (qv 0) A8) A6)))))
   (AF rfl (BF (Az DF (Ab Ay (qv 1) A8) A8) (AJ rfl (Ao (qv 2))) BG)
   (AJ rfl (Ao (B5 W5 (FK rfl t5 (CS (HL GN a (by decide) (qv 0) (A0 (Ab Ay (qv 1) A8) A6))) (λ_ _ _ _=>by exact(MN (Az DF (Ab (show D2 _ (D1 K)from Ay) (qv 1) A8) BI))) (λ_ _ _ _=>by exact(DZ (A0 (Ab (show D2 _ (D1 K)from Ay) (qv 1) A8) (A0 (B5 JM (Ab (show D2 _ (D1 K)from Ay) (qv 0) A8) A8) A6))))) (qv 2)))))),?_⟩
 refine Fz.Bm h cF ?_;rintro _ _⟨ks,b,rfl,g,d,rfl⟩;show Ws [_,_,.any] _ _ _;have j:=(g.Ip b.1).1;refine AQ (Gj (Eg B4 (λp=>decide (p.1="next")) (λp=>C2 (p.2,b.2)) (DL (CY (Ba (GL (A4 rfl ⟨Dl,_,rfl,by decide +kernel,AS (az rfl (Ax ⟨_,⟨ks,b.1,rfl,g,d,rfl⟩,?_⟩))⟩))))) QH))
 rintro _ rfl;refine⟨_,.inl ⟨rfl,BR ks b.1,rfl,by omega,λp _=>BW (Eh (eQ rfl (EV ⟨rfl,_,rfl,iI _ _⟩))),λp _ _=>?_,?_⟩⟩
 .exact G7 (Ce (iu rfl (Ce (Pm rfl (EX ⟨by show 2<=100000;decide,rfl⟩)))))
 rw[gO];refine AQ (Bl (BW (Eh (Pm rfl (Af ⟨rfl,_,rfl,BV (λc=>?_) (λc=>BN ?_)⟩)))))
 .have e:b.2=0:=aj c;refine ir rfl ?_;unfold Bg;rw[pT e];rfl
 have e:¬ b.2=0:=λz=>c (by rw[z];rfl);refine JH (Qz (Bk (Ba (Eg B4 (λp=>decide (p.1="last")) (λp=>C2 (p.2,b.2 - 1)) (DL (CY (Ba (GL (A4 rfl ⟨Dl,_,rfl,by decide +kernel,AS (az rfl (Ax ⟨_,⟨ks,b.1,rfl,g,d,rfl⟩,?_⟩))⟩))))) QH))));rintro _ rfl;refine⟨_,.inl ⟨rfl,BR ks b.1,rfl,by omega,λp _=>BW (Eh (eQ rfl (EV ⟨rfl,_,rfl,iI _ _⟩))),λp _ _=>?_,?_⟩⟩
 .refine G7 (Ce (iu rfl (Ce (HN (Pm rfl ⟨_,rfl,Af ⟨_,rfl,EX ⟨by show 2<=100000;decide,?_⟩⟩⟩)))));unfold C2;rw[show((b.2 - 1:Nat):Int)=(b.2:Int) - 1 by omega]
 rw[gO];refine⟨_,.inl ⟨rfl,rfl,Xy rfl ⟨rfl,?_,?_⟩⟩⟩
 .have h1:=SK g b.1 "last";have h2:=SK g b.1 "next"
  simp only[AD];omega
 unfold Bg;rw[pL e,C0]
def Y5:B3 ["book","branch","known","many"] ["book","branch","known"] (Aa Pu):=by walk_at "z1"
def ZA3:=Sc [(".0",.local),("part",.local),("many_told",.globalImplicit),("book",.free),("known",.free)]
def ZDH:Cv ["book","branch","known","many"] (Aa Pu) ZA3 "part" ["book","known"] [0,2]:=by walk_at "z2"
def cH:∀ss R,(Hy A1 n) ss R->ss.length=3:=by rintro _ _⟨ks,b,T,i,M,a,rfl,_,_,_,_,_,_,rfl⟩;rfl
def ZBP(n:Nat)(F:AM K "many_told" "many_told" Pu f fd)(m:mg "many_told"=some (.ref f))(He:AA P w K mg ZS "many_told" (4+n) ["book","branch","known"] (BM (Hy A1 (n)))):
  AA P w K mg ZS "many_told" (4+n+1) ["book","branch","known"] (BM (Hy A1 (n+1))):=by
 refine AA.mk F (F.binds (by walk_at "bD3")) m (F.B2 (k:=4+n) Y5 (λvs H Q E h=>Fz.IU cH h) (λAc A outer s H vs Q E o h=>?_))
 refine⟨_,(AF rfl (Ck (BF (bu (EO o) (qv 1) (qv 2)) (AF rfl (Aq 3 Y5.nd (CU (Rj rfl) En (A0 (FK rfl ZDH (CS (Ad (hk:=by omega) Hv o (A0 (qv 0) (A0 (qv 1) A6)))) (λ_ _ _ _=>by exact ES) (λ_ _ _ _=>by exact(Ad (hk:=by omega) He o (A0 (qv 0) (A0 (qv 2) (A0 (qv 1) A6)))))) A6)))
   (AJ rfl (Ow (EO o) (qv 2) (qv 1) (Zy (Az DF (Ab Ay (qv 1) A8) A8) (B5 Eu (qv 3) A8) (qv 3))))) BG))
   (AJ rfl (Ao (Jp (EO o) (qv 2) (qv 1) (λ_ _=>rfl))))),?_⟩
 refine Fz.RZ h cH ?_;rintro _ _⟨ks,b,T,i,M,a,rfl,g,v,Cb,B,⟨hi,X,hd⟩,ok,rfl⟩;have I:=Bi hi;have L:T.length<=8:=by
  have l8:=g.l8;have:=G2 Cb B;rw[AD]at this;omega
 show Ws [.is (Ar A1 ks),.is (C2 b),.ow true (Bp (wv ks) a M),.any] _ _ _;refine M9 (λA9=>∃(M':List Br)(J:Slot),A9=[.is (Ar A1 ks),.is (C2 b),.ow true (Bp (wv ks) a M'),J]/\G3 T M'/\(∀c∈M,c∈M')/\(∀c∈M',c∈M∨∃j,T[j]?=some c.1/\j<=i)/\b∈M') ?_ ?_
 .refine ET (Bl (Fx (ZGF (A4 rfl (Bv (i:=2) rfl ⟨wv ks,a,M,b,rfl,rfl,_,rfl,?_⟩)))))
  by_cases l:b∈M
  .rw[pf l];exact C9 (by decide) (BN ⟨M,_,rfl,ok,λc h=>h,λc h=>.inl h,l⟩)
  rw[qD l];refine HG rfl ?_;refine AQ (OZ (i:=2) (jF (λn t s=>∃M',t=Bp (wv ks) a M'/\G3 T M'/\(∀c∈M,c∈M')/\(∀c∈M',c∈M∨∃j,T[j]?=some c.1/\j<i)/\s=(((Bg ks b).take n).map (wv ks)).sum) rfl rfl (DL (CY (Ba (K9 (AS (A4 rfl (AS (A4 rfl (Ax ⟨_,⟨ks,b,rfl,g,B _ I,rfl⟩,?_⟩)))))))))));rintro _ rfl;have pl:=ju g b;refine⟨_,.inl ⟨rfl,by rw[AD];omega,⟨M,rfl,ok,λc h=>h,λc h=>.inl h,rfl⟩,?_,?_⟩⟩
  .rintro n x nk us s hx⟨M',G,FD,Je,HQ,es⟩;rw[Aj]at hx;obtain⟨c,D,rfl⟩:=Option.map_eq_some_iff.mp hx;obtain⟨j,Y,U⟩:=KU v hi (IZ (Bi D)).1;rw[G];refine⟨_,⟨ks,c,T,j,M',a,rfl,g,v,Cb,B,⟨U,by omega,Eb (IZ (Bi D)).2 hd⟩,FD,rfl⟩,?_⟩;rintro _ _⟨rfl,M2,rfl,JG,Hj,PQ⟩;refine⟨_,_,_,rfl,rfl,M2,rfl,JG,λd h=>Hj d (Je d h),λd h=>?_,?_⟩
   .rcases PQ d h with h|⟨q,r,u⟩
    .exact HQ d h
    .exact .inr ⟨q,r,by omega⟩
   .rw[es,Jy D,C0,Il];simp
  .rintro nk us s⟨M',G,FD,Je,HQ,es⟩;rw[AD,FR]at es;rw[G,es];have σ:b∉M':=λz=>by
    rcases HQ b z with h|⟨q,r,u⟩
    .exact l h
    .obtain⟨h1,W⟩:=List.getElem?_eq_some_iff.mp r;obtain⟨h2,V⟩:=List.getElem?_eq_some_iff.mp hi;exact List.pairwise_iff_getElem.mp Cb q i h1 h2 u (W.trans V.symm)
   have R:=FD.len L;have N:=Se v L I;show Ws [.is (Ar A1 ks),.is (C2 b),.ow true (Bp (wv ks) a M'),.is (.int ((Bg ks b).map (wv ks)).sum)] _ _ _;refine ZDu (i:=2) rfl (Wp.mono (k:=λp=>p=PV.int (wv ks b)) ?_ ?_)
   .refine Yc (BW (Eh (Pm rfl (Af ⟨rfl,_,rfl,BV (λc=>?_) (λc=>?_)⟩))))
    .refine HN (A4 rfl ⟨_,rfl,Af ⟨_,rfl,?_⟩⟩);rw[N];unfold IK;rw[pT (aj c)]
    .refine A4 rfl ?_;rw[N];unfold IK;rw[pL (λz=>c (by rw[z];rfl)),nE]
   .rintro _ rfl;refine A4 rfl ⟨b,σ,rfl,rfl,by omega,M'++[b],_,rfl,⟨?_,λc C=>?_⟩,λc h=>G8 _ (Je c h),λc C=>?_,by simp⟩
    .rw[Cp];exact⟨FD.nd,List.nodup_cons.mpr ⟨Ak,HA⟩,λx hx y S e=>σ (by rw[List.mem_singleton.mp S]at e;rw[<- e];exact hx)⟩
    .rcases List.mem_append.mp C with h|h
     .exact FD.sub c h
     .rw[List.mem_singleton.mp h];exact⟨I,hd⟩
    .rcases List.mem_append.mp C with h|h
     .exact(HQ c h).imp id λ⟨q,r,u⟩=>⟨q,r,bO u⟩
     .rw[List.mem_singleton.mp h];exact .inr ⟨i,hi,As _⟩
 .rintro A9⟨M',J,rfl,FD,Je,HQ,l⟩;exact Lc (i:=2) (nk:=.J6 (M'.map FA)) (a0:=a) rfl (ZD9 (Bv (i:=2) rfl ⟨wv ks,a,M',rfl,A4 rfl ⟨b,l,rfl,rfl,M',rfl,FD,Je,HQ⟩⟩))
def uX(F:AM K "many_told" "many_told" Pu f fd)(m:mg "many_told"=some (.ref f)):AA P w K mg ZS "many_told" 13 ["book","branch","known"] (BM (Hy A1 9)):=by
 have z:∀n:Nat,AA P w K mg ZS "many_told" (4+n) ["book","branch","known"] (BM (Hy A1 (n))):=λn=>by
  induction n with
  |zero=>exact AA.mk F (F.binds (by walk_at "bD3")) m (F.B2 (k:=3) Y5 (λvs H Q E h=>(Fz.K4 (kJ) h).elim) (λAc A outer s H vs Q E b h=>(Fz.K4 (kJ) h).elim))
  |succ n a=>exact ZBP (A1:=A1) En Hv n F m a
 exact z 9
def LZ:B3 ["book","branches","n","known","number","branch"] ["book","branches","n","known"] (Aa Tt):=by walk_at "z1"
def gd:∀ss R,(Jv A1 n) ss R->ss.length=4:=by rintro _ _⟨ks,bs,m,T,M,a,rfl,_,_,_,_,_,_,_,rfl⟩;rfl
def sF(n:Nat)(F:AM K "word_at" "word_at" Tt f fd)(m:mg "word_at"=some (.ref f))(He:AA P w K mg ZS "many_told" 13 ["book","branch","known"] (BM (Hy A1 9)))(PD:AA P w K mg ZS "word_at" (14+n) ["book","branches","n","known"] (BM (Jv A1 (n)))):
  AA P w K mg ZS "word_at" (14+n+1) ["book","branches","n","known"] (BM (Jv A1 (n+1))):=by
 refine AA.mk F (F.binds (by walk_at "bD4")) m (F.B2 (k:=14+n) LZ (λvs H Q E h=>Fz.IU gd h) (λAc A outer s H vs Q E y h=>?_))
 refine⟨_,(AF rfl (Aq 4 LZ.nd A8)
   (AF rfl (Ck (TB Dw (Az Ri (qv 2) (Ad (hk:=by omega) He y (A0 (qv 0) (A0 (Ab D3 (qv 1) (qv 4)) (A0 (qv 3) A6))))) (AF rfl (Oe (i:=2) LZ.nd rfl (Or.inl rfl) (Ad (hk:=by omega) He y (A0 (qv 0) (A0 (Ab D3 (qv 1) (qv 4)) (A0 (qv 3) A6)))) Zf)
   (AJ rfl (Oe (i:=4) LZ.nd rfl (Or.inl rfl) A8 RQ)))))
   (AF rfl (Aq 5 LZ.nd (Ab D3 (qv 1) (qv 4)))
   (AF rfl (Ck (BF (Az DF (Ab Ay (qv 5) A8) A8) (AF rfl (BF (Az DF (qv 2) A8) (AJ rfl (Ao (Ab Ay (qv 5) A8))) BG)
   (AJ rfl (Oe (i:=2) LZ.nd rfl (Or.inl rfl) A8 Zf))) BG))
   (AJ rfl (Ao (Ad (hk:=by omega) PD y (A0 (qv 0) (A0 (Ad (hk:=by omega) Hv y (A0 (qv 0) (A0 (qv 5) A6))) (A0 (qv 2) (A0 (qv 3) A6))))))))))),?_⟩
 refine Fz.RZ h gd ?_;rintro _ _⟨ks,bs,m,T,M,a,rfl,g,v,Cb,x,⟨lb,σ⟩,⟨V,U⟩,ok,rfl⟩;have W:T.length<=8:=by
  have l8:=g.l8;have:=G2 Cb x;rw[AD]at this;omega
 show Ws [.is (Ar A1 ks),.is (.lst (bs.map C2)),.is (.int m),.ow true (Bp (wv ks) a M),.any,.any] _ _ _;have l:∀{q:Int}{M':List Br}{j:Nat}{b:Br}{u:Slot}{kk:PV->OV->Prop},bs[j]?=some b->G3 T M'->(∀M2,G3 T M2->kk (.int (wv ks b)) (Bp (wv ks) a M2))->Wm [.is (Ar A1 ks),.is (.lst (bs.map C2)),.is (.int q),.ow true (Bp (wv ks) a M'),.is (.int (j:Int)),u] 3 true (Bp (wv ks) a M') (DK (BM (Hy A1 9)) [] E0 (Ah (Au 0) (Ah (BZ (M4 K) (Au 1) (Au 4)) (Ah (Au 3) BE)))) kk:=λ{q M' j b u kk}o FD hk=>by
  obtain⟨⟨i,hi,_⟩,hd⟩:=σ b (Bi o);have:=(List.getElem?_eq_some_iff.mp hi).1;refine LJ rfl (Dz (A4 rfl (Dz (Hb (DG rfl ⟨rfl,A4 rfl ⟨_,_,rfl,L2.EU (by rw[Aj,o];rfl),MK rfl (GA ⟨_,⟨ks,b,T,i,M',a,rfl,g,v,Cb,x,⟨hi,by omega,hd⟩,FD,rfl⟩,?_⟩)⟩⟩)))));rintro _ _⟨rfl,M2,rfl,JG,_,_⟩;exact⟨_,_,rfl,hk M2 JG⟩
 refine AQ (EE (Af ?_));refine AQ (ET (uH (i:=3) (λq A9=>∃(j:Nat)(d:Int)(M':List Br),q=bs.length - j/\A9=[.is (Ar A1 ks),.is (.lst (bs.map C2)),.is (.int d),.ow true (Bp (wv ks) a M'),.is (.int (j:Int)),.any]/\G3 T M'/\pick (wv ks) (bs.drop j) d=pick (wv ks) bs m/\0<=d/\d < ((bs.drop j).map (wv ks)).sum) bs.length ⟨0,m,M,rfl,rfl,ok,rfl,V,U⟩ ?_));rintro q A9⟨j,d,M',rfl,rfl,FD,r,S,p1⟩;have G:j<bs.length:=Nat.lt_of_not_le λz=>by
  rw[ZGY z]at p1;have:(0:Int)=(([]:List Br).map (wv ks)).sum:=rfl;omega
 have o:=AX G;rw[nK G,Ae,Cf]at p1;rw[nK G,pick]at r;refine⟨true,Bp (wv ks) a M',rfl,yp (ZEq (g:=λi j=>decide (j<=i)) rfl (l o FD λM2 JG=>⟨_,rfl,_,rfl,BV (λc=>?_) (λc=>?_)⟩))⟩
 .have c:=qB c;rw[pL (by omega)]at r;show Ws [.is (Ar A1 ks),.is (.lst (bs.map C2)),.is (.int d),.ow true (Bp (wv ks) a M2),.is (.int (j:Int)),.any] _ _ _;refine AQ (yg (i:=3) (lt:=true) (t:=Bp (wv ks) a M2) rfl (l o JG λM3 Sy=>⟨_,rfl,?_⟩));refine Su (i:=4) rfl (Af ⟨_,rfl,bs.length - (j+1),by omega,j+1,d - wv ks bs[j],M3,rfl,rfl,Sy,r,by omega,by omega⟩)
 .have c:¬ wv ks bs[j]<=d:=λz=>c (pf z);rw[pT (by omega)]at r;have Z:=lK (f:=n) r.symm;rw[Z];obtain⟨b,eb⟩:∃b,b=bs[j]:=⟨_,rfl⟩;rw[<- eb]at r o c ⊢;obtain⟨⟨i,hi,IE⟩,hd⟩:=σ b (Bi o);have R:=Bi hi;have ev:=Se v W R;refine AQ (EE (Hb (DG rfl ⟨rfl,A4 rfl ⟨_,_,rfl,L2.EU (by rw[Aj,o];rfl),?_⟩⟩)));show Ws [.is (Ar A1 ks),.is (.lst (bs.map C2)),.is (.int d),.ow true (Bp (wv ks) a M2),.is (.int (j:Int)),.is (C2 b)] _ _ _;have go:∀{e:Int}{s4 u:Slot},0<=e->e<((Bg ks b).map (wv ks)).sum->u=.is (C2 b)->Ws [.is (Ar A1 ks),.is (.lst (bs.map C2)),.is (.int e),.ow true (Bp (wv ks) a M2),s4,u] (IA (DK (BM (Jv A1 n)) [] E0 (Ah (Au 0) (Ah (DK (AL (L8 A1)) [] E0 (Ah (Au 0) (Ah (Au 5) BE))) (Ah (Au 2) (Ah (Au 3) BE)))))) (λ_=>False) (.mt λp t'=>p=.str (Fc ks n (Bg ks b) e)/\∃M',t'=Bp (wv ks) a M'/\G3 T M'):=λ{e s4 u}D C e5=>by
   subst e5;refine ZFX (i:=3) rfl (LJ rfl (Dz (A4 rfl (Dz (Ba (K9 (AS (A4 rfl (AS (A4 rfl (Ax ⟨_,⟨ks,b,rfl,g,x _ R,rfl⟩,?_⟩)))))))))));rintro _ rfl;refine Dz (A4 rfl (MK rfl (GA ⟨_,⟨ks,Bg ks b,e,T,M2,a,rfl,g,v,Cb,x,⟨ju g b,λc N=>?_⟩,⟨D,C⟩,JG,rfl⟩,?_⟩)))
   .obtain⟨X,S9,I⟩:=KU v hi (IZ N).1;exact⟨⟨X,I,by omega⟩,Eb (IZ N).2 hd⟩
   .rintro _ _⟨rfl,M3,rfl,Sy⟩;exact⟨_,_,rfl,⟨_,_,_,rfl⟩,rfl,M3,rfl,Sy⟩
  have ep0:=r;have c:d < wv ks b:=by omega
  rw[ev]at c;unfold IK at c;refine M9 (λA9=>∃(e:Int)(s4:Slot),A9=[.is (Ar A1 ks),.is (.lst (bs.map C2)),.is (.int e),.ow true (Bp (wv ks) a M2),s4,.is (C2 b)]/\0<=e/\e<((Bg ks b).map (wv ks)).sum/\(if b.2=0 then if d=0 then b.1 else Fc ks n (Bg ks b) (d - 1)else Fc ks n (Bg ks b) d)=Fc ks n (Bg ks b) e) ?_ ?_
  .refine ET (Bl (BW (Eh (Pm rfl (Af ⟨rfl,_,rfl,BV (λL=>?_) (λL=>BN ?_)⟩)))))
   .have z:=aj L;rw[pT z]at c;rw[pT z];refine AQ (Bl (BW (Eh (A4 rfl (Af ⟨rfl,_,rfl,BV (λJ=>?_) (λJ=>BN ?_)⟩)))))
    .have B:d=0:=by simpa[alike]using J
     rw[pT B];exact Lc (i:=3) (nk:=.J6 (M2.map FA)) (a0:=a) rfl (az rfl ⟨rfl,M2,rfl,JG⟩)
    .have B:¬ d=0:=λz=>J (by rw[z];rfl);rw[pL B];exact Su (i:=2) rfl (Af ⟨_,rfl,d - 1,_,rfl,by omega,by omega,rfl⟩)
   .have z:¬ b.2=0:=λz=>L (by rw[z];rfl);rw[pL z]at c;rw[pL z];exact⟨d,_,rfl,S,by omega,rfl⟩
  .rintro A9⟨e,s4,rfl,D,C,Y⟩;rw[Y];exact go D C rfl
def wb(F:AM K "word_at" "word_at" Tt f fd)(m:mg "word_at"=some (.ref f))(He:AA P w K mg ZS "many_told" 13 ["book","branch","known"] (BM (Hy A1 9))):AA P w K mg ZS "word_at" 23 ["book","branches","n","known"] (BM (Jv A1 9)):=by
 have z:∀n:Nat,AA P w K mg ZS "word_at" (14+n) ["book","branches","n","known"] (BM (Jv A1 (n))):=λn=>by
  induction n with
  |zero=>exact AA.mk F (F.binds (by walk_at "bD4")) m (F.B2 (k:=13) LZ (λvs H Q E h=>(Fz.K4 (eE) h).elim) (λAc A outer s H vs Q E b h=>(Fz.K4 (eE) h).elim))
  |succ n a=>exact sF (A1:=A1) Hv n F m He a
 exact z 9
def N4:B3 ["book","crowd","n","known","wave","branches","many"] ["book","crowd","n"] (Aa O7):=by walk_at "z1"
def ZC1:=Sc [(".0",.local),("word",.local),("wave",.free)]
def zB:Cv ["book","crowd","n","known","wave","branches","many"] (Aa O7) ZC1 "word" ["wave"] [4]:=by walk_at "z2"
def ZAX:=Sc [(".0",.local),("branch",.local),("many_told",.globalImplicit),("book",.free),("known",.free)]
def wq:Cv ["book","crowd","n","known","wave","branches","many"] (Aa O7) ZAX "branch" ["book","known"] [0,3]:=by walk_at "z2"
def iU:∀ss R,(To A1) ss R->ss.length=3:=by rintro _ _⟨ks,tp,cs,m,T,rfl,_,_,_,_,_,rfl⟩;rfl
def qV(F:AM K "nth" "nth" O7 f fd)(m:mg "nth"=some (.ref f))(He:AA P w K mg ZS "many_told" 13 ["book","branch","known"] (BM (Hy A1 9)))(PD:AA P w K mg ZS "word_at" 23 ["book","branches","n","known"] (BM (Jv A1 9))):
  AA P w K mg ZS "nth" 24 ["book","crowd","n"] (AL (To A1)):=by
 refine AA.mk F (F.binds (by walk_at "bD3")) m (F.B2 (k:=23) N4 (λvs H Q E h=>Fz.Bn iU h) (λAc A outer s H vs Q E q h=>?_))
 refine⟨_,(AF rfl (CD (Ad Gy q (A0 (qv 0) (A0 (qv 1) A6))))
   (AF rfl (CD (Ad Mp q (A0 (qv 0) (A0 (qv 1) (A0 BI A6)))))
   (AF rfl (Aq 3 N4.nd ZAB)
   (AF rfl (Ck (EN Dw rfl (L9 rfl De (A0 (CU Fd BA (A0 (Hk Dc q (by decide) (qv 0)) A6)) A6)) (CV 4 N4.nd) (AF rfl (UY (i:=5) N4.nd rfl (Or.inl rfl) rfl zB (CS (qv 1)) (λ_ _ _ _=>by exact ES) (λ_ _ _ _=>by exact(DZ (A0 (qv 1) (A0 (qv 0) A6)))))
   (AF rfl (Aq 6 N4.nd (CU (Rj rfl) En (A0 (FK rfl wq (CS (qv 5)) (λ_ _ _ _=>by exact ES) (λ_ _ _ _=>by exact(Ad He q (A0 (qv 0) (A0 (qv 2) (A0 (qv 1) A6)))))) A6)))
   (AF rfl (BF (bc LC MM A8 (qv 2) (qv 6)) (AJ rfl (Ao (Ad PD q (A0 (qv 0) (A0 (qv 5) (A0 (qv 2) (A0 (qv 3) A6))))))) BG)
   (AJ rfl (Oe (i:=2) N4.nd rfl (Or.inl rfl) (qv 6) Zf)))))))
   (AJ rfl (Ao JO)))))),?_⟩
 refine Fz.Bm h iU ?_;rintro _ _⟨ks,tp,cs,m,T,rfl,g,C,R,B,hT,rfl⟩;show Ws [.is (Ar A1 ks),.sq tp (cs.map .str),.is (.int m),.any,.any,.any,.any] _ _ _;have l8:=g.l8;refine AQ (Fj (wp_call (AS (A4 rfl (Fb (Fq rfl (Ax ⟨_,⟨ks,tp,cs,rfl,g,C,R,rfl⟩,?_⟩)))))));rintro _ rfl;refine AQ (Fj (wp_call (AS (A4 rfl (Fb (Fq rfl (AS (EV (Ax ⟨_,⟨ks,tp,cs, "ahead", rfl,g,by decide +kernel,C,R,hT.NU,rfl⟩,?_⟩)))))))));rintro _ rfl;have Z:=hT.l8 g;obtain⟨N,Cb,σ,GO⟩:=id hT;refine AQ (KH (r6 (wv ks) λa=>?_));show Ws [.is (Ar A1 ks),.sq tp (cs.map .str),.is (.int m),.ow false (Bp (wv ks) a []),.any,.any,.any] _ _ _;refine AQ (ET (FF (λxs d A9=>∃(e:Int)(M:List Br)(s4 r o:Slot),A9=[.is (Ar A1 ks),.sq tp (cs.map .str),.is (.int e),.ow false (Bp (wv ks) a M),s4,r,o]/\G3 T M/\0<=e/\d<=ks.length/\Gq ks cs (ks.length - d) d e=Gq ks cs ks.length 0 m) ?_))
 walk_at "ww"
 refine Bk (Ba (GL (A4 rfl ⟨Dl,_,rfl,by decide +kernel,Ax ⟨_,⟨ks,rfl,g,rfl⟩,?_⟩⟩)));rintro _ rfl;have u:((wk ks).map PV.str).length=ks.length:=by rw[AD,AD]
 refine⟨_,.inl ⟨rfl,_,rfl,by rw[u];omega,by rw[u];omega,⟨m,[],_,_,_,rfl,⟨HA,λc h=>absurd h Ak⟩,B,Cg _,by rw[Qt]⟩,?_,?_⟩⟩
 .rintro d p A9 V⟨e,M,s4,r,o,rfl,ok,y,hd,l⟩;obtain⟨G,rfl⟩:=Rv V;rw[u,Gz]at G;rw[show ks.length - d=(ks.length - (d+1))+1 by omega,Pn]at l;refine Fp ?_;show Ws [.is (Ar A1 ks),.sq tp (cs.map .str),.is (.int e),.ow false (Bp (wv ks) a M),.is (.int d),r,o] _ _ _;refine AQ (Gj (Eg PV.str (λ_=>true) (λc=>C2 (c,d)) (DL (Sr rfl ⟨cs,rfl,by omega,λ_ _=>Ew rfl,λc _ _=>?_,?_⟩)) str_inj))
  .exact G7 (Ce (A4 rfl (Ce (A4 rfl (EX ⟨by show 2<=100000;decide,rfl⟩)))))
  rw[List.filter_eq_self.mpr λ_ _=>rfl];refine Jk 5 rfl ?_;have X:(cs.map λc=>C2 (c,d))=(cs.map λc=>((c,d):Br)).map C2:=by rw[Bu];rfl
  have S:((cs.map λc=>((c,d):Br)).map (wv ks)).sum=tot ks cs d:=by rw[Bu];rfl
  rw[X];show Ws [.is (Ar A1 ks),.sq tp (cs.map .str),.is (.int e),.ow false (Bp (wv ks) a M),.is (.int d),.is (.lst ((cs.map λc=>((c,d):Br)).map C2)),o] _ _ _;refine AQ (OZ (i:=3) (lt:=false) (jF (λn t s=>∃M',t=Bp (wv ks) a M'/\G3 T M'/\s=(((cs.map λc=>((c,d):Br)).take n).map (wv ks)).sum) rfl rfl (DL (CY (A4 rfl ⟨_,.inl ⟨rfl,by rw[AD,AD];omega,⟨M,rfl,ok,rfl⟩,?_,?_⟩⟩)))))
  .rintro n x nk us s hx⟨M',J,FD,es⟩;rw[Aj]at hx;obtain⟨c,U,rfl⟩:=Option.map_eq_some_iff.mp hx;have Y:=Bi U;obtain⟨v,L,rfl⟩:=List.mem_map.mp Y;obtain⟨j,D,I⟩:=DQ (GO v L);rw[J];refine⟨_,⟨ks,(v,d),T,j,M',a,rfl,g,N,Cb,σ,⟨by rw[AX D,I],by omega,by show d<=8;omega⟩,FD,rfl⟩,?_⟩;rintro _ _⟨rfl,M2,rfl,JG,_,_⟩;refine⟨_,_,_,rfl,rfl,M2,rfl,JG,?_⟩;rw[es,Jy U,C0,Il];simp
  .rintro nk us s⟨M',J,FD,es⟩;rw[AD,FR,S]at es;rw[J,es];show Ws [.is (Ar A1 ks),.sq tp (cs.map .str),.is (.int e),.ow false (Bp (wv ks) a M'),.is (.int d),.is (.lst ((cs.map λc=>((c,d):Br)).map C2)),.is (.int (tot ks cs d))] _ _ _;refine AQ (Bl (BW (fV (Af ⟨_,rfl,A4 rfl ⟨_,rfl,HG (pf y) (A4 rfl ⟨_,rfl,_,rfl,BV (λc=>?_) (λc=>BN ?_)⟩)⟩⟩))))
   .have c:=qB c;rw[pT c]at l;refine ZEX (i:=3) (LJ rfl (Dz (A4 rfl (Dz (A4 rfl (Dz (A4 rfl (MK rfl (GA ⟨_,⟨ks,cs.map λc=>(c,d),e,T,M',a,rfl,g,N,Cb,σ,⟨by rw[AD];exact C,λb W=>?_⟩,⟨y,by rw[S];exact c⟩,FD,rfl⟩,?_⟩)))))))))
    .obtain⟨v,L,rfl⟩:=List.mem_map.mp W;obtain⟨j,D,I⟩:=DQ (GO v L);exact⟨⟨j,by rw[AX D,I],by omega⟩,by show d<=8;omega⟩
    .rintro _ _⟨rfl,M3,rfl,Sy⟩;refine⟨_,_,rfl,⟨T,hT⟩,?_⟩;rw[<- kZ g hT B,<- l];rfl
   .have c:¬ e < tot ks cs d:=λz=>c (pf z);rw[pL c]at l;exact Su (i:=2) rfl (A4 rfl ⟨_,rfl,e - tot ks cs d,M',_,_,_,rfl,FD,by omega,by omega,l⟩)
 .rintro A9⟨e,M,s4,r,o,rfl,ok,y,hd,l⟩;rw[u,Gz,Hw,V3]at l;refine D4 (GW ⟨⟨T,hT⟩,?_⟩);rw[<- kZ g hT B,<- l];rfl
def kC:B3 ["book","crowd","heard","over","n"] ["book","crowd","heard","over"] (Aa Y2):=by walk_at "z1"
def gS:∀ss R,(WG A1) ss R->ss.length=4:=by rintro _ _⟨ks,cs,T,rfl,_,rfl⟩;rfl
def ZCf(F:AM K "_law_nths_right" "_law_nths_right" Y2 f fd)(m:mg "_law_nths_right"=some (.ref f)):
  AA P w K mg ZS "_law_nths_right" 25 ["book","crowd","heard","over"] (AL (WG A1)):=by
 refine AA.mk F (F.binds (by walk_at "bD4")) m (F.B2 (k:=24) kC (λvs H Q E h=>Fz.Bn gS h) (λAc A outer s H vs Q E b h=>?_))
 refine⟨_,(AF rfl (Ck (EN Dw rfl (L9 rfl De (A0 (CU Fd BA (A0 (qv 2) A6)) A6)) (CV 4 kC.nd) (AJ rfl (BF (Az Up (Ad Rw b (A0 (qv 0) (A0 (qv 1) (A0 (qv 4) A6)))) (Ab D3 (qv 2) (qv 4))) (AJ rfl (Ao FG)) BG))))
   (AJ rfl (Ao (mJ (gm (qv 3)) (OH (GZ xS (Ad Rw b (A0 (qv 0) (A0 (qv 1) (A0 (CU Fd BA (A0 (qv 2) A6)) A6)))) JO)))))),?_⟩
 refine Fz.Bm h gS ?_;rintro _ _⟨ks,cs,T,rfl,⟨g,b,e,l,hT⟩,rfl⟩;show Ws [_,_,_,_,.any] _ _ _;obtain⟨W,a,e0⟩:=ZDS g hT 60;have a:(Am ks "ahead" cs).2++W=Ord ks cs:=a;have e0:B1 (Am ks "ahead" cs).1.th=false->W=[]:=e0;have d:(Am ks "ahead" cs).2.length<=0+60:=(K6 (ks:=ks) 60 (C4 "ahead" cs)).1;generalize o:(Am ks "ahead" cs).2=H at a d;generalize q:B1 (Am ks "ahead" cs).1.th=G at e0;have c:∀{ss:List Slot}{te:TE}{kk:PV->Prop}(n:Nat),ss[0]?=some (.is (Ar A1 ks))->ss[1]?=some (.is (.lst (cs.map .str)))->Wp ss te (λp=>p=.int (n:Int))->kk (bX ((Ord ks cs)[n]?))->Wp ss (DK (AL (To A1)) [] E0 (Ah (Au 0) (Ah (Au 1) (Ah te BE)))) kk:=λ{ss te kk}n h1 h2 hw hk=>by
  refine wp_call (AS (A4 h1 (Fb (DG h2 (AS (hw.mono λp z=>?_))))));subst z;refine Ax ⟨_,⟨ks,false,cs,n,T,rfl,g,e,l,ZGS n,hT,rfl⟩,λp h=>?_⟩;rw[h.2,wU g hT n];exact hk
 refine AQ (ET (FF (λ_ i A9=>∃s4:Slot,A9=[.is (Ar A1 ks),.is (.lst (cs.map .str)),.is (.lst (H.map .str)),.is (.bl !G),s4]) ?_))
 walk_at "ww"
 rw[AD];refine⟨by omega,by omega,⟨_,rfl⟩,?_,?_⟩
 .rintro i p A9 j⟨s4,rfl⟩;obtain⟨hi,rfl⟩:=Rv j;have hi:i<H.length:=by omega
  obtain⟨x,ex⟩:∃x,H[i]?=some x:=⟨_,AX hi⟩;refine Fp ?_;refine Bl (BW (Pd (c i rfl rfl (A4 rfl rfl) ?_)));rw[<- a,DO hi,ex];refine Hb (DG rfl ⟨rfl,A4 rfl ⟨_,_,rfl,EU (by rw[Aj,ex];rfl),rfl,_,rfl,C9 ?_ (BN ⟨_,rfl⟩)⟩⟩);show ¬ (!alike (.str x) (.str x))=true;simp[alike]
 .rintro A9⟨s4,rfl⟩;cases G with
  |true=>exact D4 (UX (TV (A4 rfl ⟨_,rfl,_,rfl,HG rfl rfl⟩)))
  |false=>
   have hw:=e0 rfl;rw[hw,CB]at a;refine D4 (UX (TV (A4 rfl ⟨_,rfl,_,rfl,C9 (by decide) (ux (c H.length rfl rfl (J8 (DG rfl (by rw[AD]))) ?_))⟩)));rw[<- a,ZGc (As _)];exact GW ⟨rfl,rfl⟩
def ZBm:B3 ["kinds","some"] ["kinds","some"] (Aa SY):=by walk_at "z1"
def vd:=Sc [(".0",.local),("row",.local),("some",.free)]
def ZFD:Cv ["kinds","some"] (Aa SY) vd "row" ["some"] [1]:=by walk_at "z2"
def jE : ∀ss R,VJ ss R->ss.length=2:=by rintro _ _⟨ks,h,rfl,_,_,rfl⟩;rfl
def ZCj(F:AM K "_law_tally" "_law_tally" SY f fd)(m:mg "_law_tally"=some (.ref f)):
  AA P w K mg ZS "_law_tally" 1 ["kinds","some"] (AL VJ):=by
 refine AA.mk F (F.binds (by walk_at "bD2")) m (F.B2 (k:=0) ZBm (λvs H Q E h=>Fz.Bn jE h) (λAc A outer s H vs Q E a h=>?_))
 refine⟨_,(AJ rfl (Ao (Ib Mh E1 (A0 (FK rfl ZFD (CS (qv 0)) (λ_ _ _ _=>by exact ES) (λ_ _ _ _=>by exact(show QE _ _ (Fy K _ (Te K) _ _)from(FH Fm ZGt ZGv iz (qv 0) (A0 (Ab (show D2 _ (D1 K)from Ay) (qv 1) A8) A6))))) A6)))),?_⟩;refine Fz.Bm h jE ?_;rintro _ _⟨ks,h,rfl,g,b,rfl⟩;show Ws [_,_] _ _ _;have l8:=g.l8;refine D4 (NJ rfl (Bk (Ba (Eg Kd.P (λ_=>true) (λk=>PV.int (h.count k.w:Nat)) (DL (CY (A4 rfl ⟨_,.inl ⟨rfl,ks,rfl,by omega,λ_ _=>Ew rfl,λk _ _=>?_,?_⟩⟩))) Kd.inj))))
 .refine dY (DG rfl ⟨rfl,h,rfl,?_⟩);exact BK (BO rfl ⟨rfl,Af ⟨_,_,rfl,rfl,k.w,rfl,rfl⟩⟩)
 .rw[List.filter_eq_self.mpr λ_ _=>rfl];unfold tl;exact⟨_,.inl ⟨rfl,by rw[Bu,Bu];rfl⟩⟩
def Jw:B3 ["book","kinds","crowd","rule","run","heard","stand","rounds","over","counts","most_rounds","standing"] ["book","kinds","crowd","rule","run"] (Aa UK):=by walk_at "z1"
def vO:=Sc [(".0",.local),("few",.local),("many",.local)]
def ZCN:IH ["book","kinds","crowd","rule","run","heard","stand","rounds","over","counts","most_rounds","standing"] (Aa UK) vO ["few","many"] [] []:=by walk_at "z3"
def eh:∀ss R,(Yn A1) ss R->ss.length=5:=by rintro _ _⟨ks,cs,T,r,rfl,_,rfl⟩;rfl
def oo(F:AM K "_law_ended_right" "_law_ended_right" UK f fd)(m:mg "_law_ended_right"=some (.ref f)):
  AA P w K mg ZS "_law_ended_right" 26 ["book","kinds","crowd","rule","run"] (AL (Yn A1)):=by
 refine AA.mk F (F.binds (by walk_at "bD5")) m (F.B2 (k:=25) Jw (λvs H Q E h=>Fz.Bn eh h) (λAc A outer s H vs Q E d h=>?_))
 refine⟨_,(AF rfl (Od (qv 4) (PU rfl (Fw (CV 5 Jw.nd) (Fw (CV 6 Jw.nd) (Fw (CV 7 Jw.nd) (Fw (CV 8 Jw.nd) Pq))))))
   (AF rfl (Od (Ad Vk d (A0 (qv 0) (A0 (qv 2) (A0 (qv 3) A6)))) (PU rfl (Fw (CV 9 Jw.nd) (Fw (CV 10 Jw.nd) (Fw (CV 11 Jw.nd) Pq)))))
   (AF rfl (BF (Az Up (qv 8) (GZ LC (CU (ZFx rfl) En (A0 (qv 9) A6)) A8)) (AJ rfl (Ao FG)) BG)
   (AF rfl (BF (RH (Az DF (qv 3) BI) (Sw (VE (J1 (Ad YE d (A0 (qv 0) (A0 (qv 2) (A0 (qv 5) (A0 (qv 8) A6))))))))).pt (AJ rfl (Ao FG)) BG)
   (AF rfl (BF (J1 (qv 8)) (AF rfl (BF (Lu (Az (Fz.ZEZ d.units) (qv 9) (Ad P0 d (A0 (qv 1) (A0 (qv 5) A6)))) (Ky (Az Up (qv 7) (qv 10)))).pt (AJ rfl (Ao FG)) BG)
   (AJ rfl (Ao (GZ (Fz.yt d.units) (qv 11) (Ad P0 d (A0 (qv 1) (A0 (qv 6) A6))))))) BG)
   (AF rfl (BF (Az NB (qv 7) (qv 10)) (AJ rfl (Ao FG)) BG)
   (AJ rfl (Ao (CU (kU rfl) N0 (A0 (Xb rfl ZCN (.cons (.cons .nil)) (λ_=>rfl) (λ_=>rfl) (jN rfl NS (A0 (Ad P0 d (A0 (qv 1) (A0 (qv 5) A6))) (A0 (qv 9) A6))) (λ_ _ _ _=>by exact ES) (λ_ _ _ _=>by exact(GZ LC (qv 0) (qv 1)))) A6)))))))))),?_⟩
 refine Fz.Bm h eh ?_;rintro _ _⟨ks,cs,T,r,rfl,IE,rfl⟩;obtain⟨g,d,i,j,hT⟩:=id IE;show Ws [_,_,_,_,_,.any,.any,.any,.any,.any,.any,.any] _ _ _;obtain⟨h1,h2,B,q⟩:=qM IE;have y:(Am ks r cs).2.length<=0+60:=(K6 (ks:=ks) 60 (C4 r cs)).1;have lt:=ZG5 g d i j;refine AQ (cQ (A4 rfl (zH ⟨_,_,_,_,rfl,?_⟩)));refine AQ (cQ (wp_call (AS (A4 rfl (Fb (DG rfl (AS (A4 rfl (Ax ⟨_,⟨ks,false,cs,r,rfl,g,d,i,j,hT.NU,rfl⟩,?_⟩)))))))));rintro _ rfl;refine yV ⟨_,_,_,rfl,?_⟩;show Ws [.is (Ar A1 ks),.is (.lst (ks.map Kd.P)),.is (.lst (cs.map .str)),.is (.str r),.is (Mb (Am ks r cs)),.is (.lst ((Am ks r cs).2.map .str)),.is (.lst (Ca (Am ks r cs).1.th)),.is (.int (Am ks r cs).1.AK),.is (.bl (!B1 (Am ks r cs).1.th)),.is (.tup ((totC ks r cs).map .int)),.is (.int (IV ks r cs)),.is (.tup ((Hx ks cs (totC ks r cs)).map .int))] _ _ _;rw[ZEP];have p:(!B1 (Am ks r cs).1.th)=decide ((totC ks r cs).sum<=60):=by
  cases e:B1 (Am ks r cs).1.th with
  |false=>exact(pf (h1.mp e)).symm
  |true=>exact(qD λz=>by have:=h1.mpr z;rw[e]at this;cases this).symm
 refine AQ (Bl (BW (Pd (A4 rfl (ME (uC (BO rfl ⟨rfl,_,rfl,_,rfl,Af ⟨_,rfl,rfl,_,rfl,C9 ?_ (BN ?_)⟩⟩)))))))
 .rw[p];simp[alike]
 refine M9 (λA9=>A9=[.is (Ar A1 ks),.is (.lst (ks.map Kd.P)),.is (.lst (cs.map .str)),.is (.str r),.is (Mb (Am ks r cs)),.is (.lst ((Am ks r cs).2.map .str)),.is (.lst (((Am ks r cs).1.th.map (·.1)).map .str)),.is (.int (Am ks r cs).1.AK),.is (.bl (!B1 (Am ks r cs).1.th)),.is (.tup ((totC ks r cs).map .int)),.is (.int (IV ks r cs)),.is (.tup ((Hx ks cs (totC ks r cs)).map .int))]) ?_ ?_
 .refine Bl (Zz (BW (Eh (A4 rfl (EV ?_)))));refine⟨rfl,_,rfl,BV (λc=>?_) (λc=>C9 (by decide) (BN rfl))⟩;have t:r="ahead" := by simpa[alike]using c
  subst t;refine mK (Fx (wp_call (AS (A4 rfl (AS (A4 rfl (AS (A4 rfl (AS (A4 rfl (Ax ⟨_,⟨ks,cs,T,rfl,IE,rfl⟩,?_⟩)))))))))));rintro _ rfl;exact⟨_,rfl,C9 (by decide) (BN rfl)⟩
 rintro _ rfl;refine AQ (Bl (Fx (A4 rfl ⟨_,rfl,BV (λc=>?_) (λc=>BN ?_)⟩)))
 .have o:B1 (Am ks r cs).1.th=false:=by simpa using c
  obtain⟨x,v,u⟩:=h2 o;refine AQ (Bl (Le (BW (fZ (A4 rfl (wp_call (AS (A4 rfl (AS (A4 rfl (Ax ⟨_,⟨ks,_,rfl,g,by omega,rfl⟩,?_⟩)))))))))));rintro _ rfl;refine⟨Mr _,Mr _,_,rfl,C9 ?_ (BW (Pd (A4 rfl (A4 rfl ⟨rfl,_,rfl,C9 ?_ (BN ?_)⟩))))⟩
  .rw[<- x,gG 40 (Mr (K:=K) _)];decide
  .rw[v];simp[alike]
  refine D4 (iT (A4 rfl (wp_call (AS (A4 rfl (AS (A4 rfl (Ax ⟨_,⟨ks,_,rfl,g,by rw[AD];exact lt,rfl⟩,?_⟩))))))));rintro _ rfl;refine⟨Mr _,Mr _,?_⟩;rw[<- u,gG 40 (Mr (K:=K) _)]
 .refine AQ (Bl (BW (ME (A4 rfl ⟨_,rfl,A4 rfl ⟨_,rfl,_,rfl,C9 (λz=>by have:=qB z;omega) (BN ?_)⟩⟩))));refine D4 (kF rfl (Bk (Ba (VT (λ_=>true) (λ_=>PV.bl true) (cN (CY (wp_call (AS (A4 rfl (AS (A4 rfl (Ax ⟨_,⟨ks,_,rfl,g,by omega,rfl⟩,?_⟩))))))))))));rintro _ rfl;have n:=RO ks r cs;have l:=Rf ks (Am ks r cs).2;have l8:=g.l8;refine⟨_,.inr ⟨rfl,CY (A4 rfl ⟨_,.inr ⟨rfl,?_⟩⟩)⟩⟩;refine⟨by rw[Pe,AD,AD];omega,λz i=>?_,?_⟩
  .obtain⟨a,b,rfl,HW⟩:=ZAP l n q i;refine⟨_,rfl,rfl,Ew rfl,λ_=>?_⟩;refine ME (A4 rfl ⟨_,rfl,A4 rfl ⟨_,rfl,?_⟩⟩);rw[pf HW]
  .rw[List.filter_eq_self.mpr λ_ _=>rfl];refine⟨_,.inl ⟨rfl,rfl,(Fo ((tl ks (Am ks r cs).2).map .int) ((totC ks r cs).map .int)).map λ_=>true,by rw[Bu];rfl,?_⟩⟩;rw[nI];exact rP PV.bl (List.all_eq_true.mpr λ_ _=>rfl)
def Z7:B3 ["kinds","word","rule","wheres","puts"] ["kinds","word","rule"] (Aa OI):=by walk_at "z1"
def ZGJ:=Sc [(".0",.local),("row",.local),("word",.free)]
def ZCX:Cv ["kinds","word","rule","wheres","puts"] (Aa OI) ZGJ "row" ["word"] [1]:=by walk_at "z2"
def ZBq:=Sc [(".0",.local),("where",.local),("kind",.local),("wheres",.free)]
def ZA0:IH ["kinds","word","rule","wheres","puts"] (Aa OI) ZBq ["where","kind"] ["wheres"] [3]:=by walk_at "z3"
def dJ : ∀ss R,ZP ss R->ss.length=3:=by rintro _ _⟨ks,x,r,rfl,_,_,_,rfl⟩;rfl
def ZD3(F:AM K "_law_comers" "_law_comers" OI f fd)(m:mg "_law_comers"=some (.ref f)):
  AA P w K mg ZS "_law_comers" 1 ["kinds","word","rule"] (AL ZP):=by
 refine AA.mk F (F.binds (by walk_at "bD3")) m (F.B2 (k:=0) Z7 (λvs H Q E h=>Fz.Bn dJ h) (λAc A outer s H vs Q E c h=>?_))
 refine⟨_,(AF rfl (Aq 3 Z7.nd (Jp (EO c) (yW (YL BI (DZ A6) (YL BI (DZ (A0 BI (A0 BI A6))) (YL BI (DZ (A0 BI (A0 BI (A0 BI (A0 BI A6))))) yL))) rfl rfl (by simp) (by decide)) (qv 2) (λ_ _=>rfl)))
   (AF rfl (Aq 4 Z7.nd (Ab D3 (FK rfl ZCX (CS (qv 0)) (λ_ _ _ _=>by exact(MN (Az DF (Ab (show D2 _ (D1 K)from Ay) (qv 1) A8) (qv 0)))) (λ_ _ _ _=>by exact(Ab (show D2 _ (D1 K)from Ay) (qv 1) A8))) A8))
   (AJ rfl (Ao (Xb rfl ZA0 (.cons (.cons .nil)) (λ_=>rfl) (λ_=>rfl) (CS (qv 4)) (λ_ _ _ _=>by exact(MN (Az (show BU _ (compareOp .In) (J7 K false)from LQ) (qv 1) (qv 0)))) (λ_ _ _ _=>by exact(qv 2))))))),?_⟩
 refine Fz.Bm h dJ ?_;rintro _ _⟨ks,x,r,rfl,g,hx,c,rfl⟩;show Ws [_,_,_,.any,.any] _ _ _;have l8:=g.l8;have o:=(g.Ip x).1;refine AQ (EE (MB (Sj (qd (by decide) ?_))));refine FW (Dy (G7 (EX ⟨by decide,?_⟩)));refine FW (Dy (G7 (Ce (EV (Ce (EV (EX ⟨by decide,?_⟩)))))));refine FW (Dy (G7 (Ce (EV (Ce (EV (Ce (EV (Ce (EV (EX ⟨by decide,?_⟩)))))))))));refine Oc ⟨λ_ h=>absurd h Ak,λ_ h=>absurd h Ak,λ_ h=>absurd h Ak,rfl,λl=>⟨rfl,_,_,by rw[OV.pv],A4 rfl ⟨.inr r,.tup ((TY r).map .str),rfl,?_,?_⟩⟩⟩
 .simp only[Ct,G9,Ak,vE]at c;rcases c with rfl|rfl|rfl <;> rfl
 obtain⟨k,rest,i,e⟩:=g.tR hx;refine AQ (EE (Hb (Bk (Ba (Eg Kd.P (λk=>decide (k.w=x)) (λk=>PV.tup (k.ps.map B4)) (DL (CY (A4 rfl ⟨_,.inl ⟨rfl,ks,rfl,by omega,λk _=>?_,λk _ _=>?_,?_⟩⟩))) Kd.inj)))))
 .exact BW (Eh (BK (BO rfl ⟨rfl,Af ⟨_,_,rfl,rfl,A4 rfl ⟨rfl,_,rfl,rfl⟩⟩⟩)))
 .exact BK (BO rfl ⟨rfl,Af ⟨_,_,rfl,rfl,rfl⟩⟩)
 rw[i];refine⟨_,.inl ⟨rfl,rfl,Af ⟨0,PV.tup (k.ps.map B4),rfl,(EU (j:=0) rfl:L2.C8 (List.map (λk:Kd=>PV.tup (k.ps.map B4)) (k::rest)) ((0:Nat):Int)=_),?_⟩⟩⟩;rw[e];refine JH (VT (λq=>match q with | .tup [.str a,_]=>decide (a∈TY r)|_=>false) (λq=>match q with | .tup [_,b]=>b|_=>.AE) (DL (CY (A4 rfl ⟨_,.inr ⟨rfl,by rw[AD];omega,λq d=>?_,?_⟩⟩))))
 .obtain⟨p,n,rfl⟩:=List.mem_map.mp d;refine⟨_,rfl,rfl,?_,λ_=>A4 rfl rfl⟩;exact BW (VA (A4 rfl ⟨p.1,rfl,BO rfl ⟨_,rfl,_,rfl,rfl⟩⟩))
 .rw[<- ZBf g c x,List.filter_map,Bu,Bu];rfl
def j9:B3 ["kinds","crowd","rule","way","k"] ["kinds","crowd","rule","way"] (Aa X1):=by walk_at "z1"
def kX : ∀ss R,ah ss R->ss.length=4:=by rintro _ _⟨ks,cs,r,W,c,rfl,_,_,_,_,_,_,_,rfl⟩;rfl
def tO(F:AM K "_law_is_way" "_law_is_way" X1 f fd)(m:mg "_law_is_way"=some (.ref f)):
  AA P w K mg ZS "_law_is_way" 3 ["kinds","crowd","rule","way"] (AL ah):=by
 refine AA.mk F (F.binds (by walk_at "bD4")) m (F.B2 (k:=2) j9 (λvs H Q E h=>Fz.Bn kX h) (λAc A outer s H vs Q E a h=>?_))
 refine⟨_,(AF rfl (BF (Lu (Az (oT a.Tj) (qv 3) (GG A6)) (Ky (Az Na (Ab D3 (qv 3) A8) (qv 1)))).pt (AJ rfl (Ao FG)) BG)
   (AF rfl (Ck (EN Dw rfl (ZC4 rfl De (A0 A8 (A0 (CU Fd BA (A0 (qv 3) A6)) A6))) (CV 4 j9.nd) (AJ rfl (BF (Az Na (Ab D3 (qv 3) (qv 4)) (Ad YX a (A0 (qv 0) (A0 (Ab D3 (qv 3) (B5 JM (qv 4) A8)) (A0 (qv 2) A6))))) (AJ rfl (Ao FG)) BG))))
   (AJ rfl (Ao FG)))),?_⟩
 refine Fz.Bm h kX ?_;rintro _ _⟨ks,cs,r,W,c,rfl,g,a,o,b,n,ch,sub,rfl⟩;show Ws [_,_,_,_,.any] _ _ _;have l:W≠[]:=λz=>by rw[z]at b;cases b
 refine AQ (Bl (Le (BW (mE (DG rfl ⟨W,rfl,Bk (Ba (LR (EX ⟨by decide,_,.inl ⟨rfl,rfl,[],rfl,?_⟩⟩)))⟩)))));refine⟨_,rfl,?_⟩;rw[qD l];refine C9 (by decide) (BW (T6 (Hb (DG rfl ⟨rfl,Af ⟨_,_,rfl,EU (j:=0) (by rw[Aj,b];rfl),c,rfl,DG rfl ⟨cs,rfl,_,rfl,?_⟩⟩⟩))));rw[pf n];refine C9 (by decide) (BN ?_);refine AQ (ET (FF (λ_ i A9=>∃s4:Slot,A9=[.is (.lst (ks.map Kd.P)),.is (.lst (cs.map .str)),.is (.str r),.is (.lst (W.map .str)),s4]) ?_))
 walk_at "ww"
 rw[AD];refine⟨⟨by decide,by decide,by omega,by omega⟩,⟨_,rfl⟩,?_,?_⟩
 .rintro i p A9 e⟨s4,rfl⟩;obtain⟨hi,rfl⟩:=uK e;obtain⟨x,ex⟩:∃x,W[i]?=some x:=⟨_,AX (show i<W.length by omega)⟩;obtain⟨y,d⟩:∃y,W[i+1]?=some y:=⟨_,AX (show i+1<W.length by omega)⟩;refine Fp ?_;refine Bl (BW (T6 (Hb (DG rfl ⟨rfl,A4 rfl ⟨_,_,rfl,by rw[show(1:Int)+(i:Int)=((i+1:Nat):Int) by omega];exact EU (by rw[Aj,d];rfl),y,rfl,?_⟩⟩))));refine Bk (Ba (K9 (AS (A4 rfl (AS (Hb (DG rfl ⟨rfl,HN (A4 rfl ⟨_,rfl,Af ⟨_,rfl,_,_,rfl,by rw[show(1:Int)+(i:Int) - 1=((i:Nat):Int) by omega];exact EU (by rw[Aj,ex];rfl),AS (A4 rfl (Ax ⟨_,⟨ks,x,r,rfl,g,sub x (Bi ex),a,rfl⟩,?_⟩))⟩⟩)⟩)))))));rintro _ rfl;refine⟨_,.inl ⟨rfl,_,rfl,?_⟩⟩;rw[pf (ch i x y ex d)];exact⟨_,rfl,C9 (by decide) (BN ⟨_,rfl⟩)⟩
 .rintro A9⟨s4,rfl⟩;exact D4 (LO rfl)
def JK:B3 ["script","kinds","book","pot","crowd","rule","run","few","found"] ["script"] (Aa Mn):=by walk_at "z1"
def ZDp(F:AM K "law" "law" Mn f fd)(m:mg "law"=some (.ref f)):
  Ds P w K mg ZS GU 27 f fd ["script"] (OQ K):=by
 refine(F.B2 (k:=26) JK (λvs H Q E h=>by obtain⟨a,ns,rfl,_⟩:=h;rfl) (λAc A outer s H vs Q E e h=>?_));refine⟨_,(AF rfl (Aq 1 JK.nd (Ad WD e (A0 (Ad Oa e (A0 (qv 0) (A0 A8 A6))) A6)))
   (AF rfl (Aq 2 JK.nd (Ad Vc e (A0 (qv 1) A6)))
   (AF rfl (Aq 3 JK.nd (Ad Oa e (A0 (qv 0) (A0 A8 A6))))
   (AF rfl (Aq 4 JK.nd (Ad Wk e (A0 (qv 3) (A0 (qv 1) A6))))
   (AF rfl (Aq 5 JK.nd (Ad aS e (A0 (qv 3) A6)))
   (AF rfl (Aq 6 JK.nd (Ad T7 e (A0 (qv 2) (A0 (qv 4) (A0 (qv 5) (A0 A8 A6))))))
   (AF rfl (Aq 7 JK.nd (Ad Cc e (A0 (Ad Oa e (A0 (qv 0) (A0 A8 A6))) (A0 A8 A6))))
   (AF rfl (BF (Lu (Az (aq e.Tj) (Ab Ay (Ad T7 e (A0 (qv 2) (A0 (qv 4) (A0 (qv 5) (A0 (qv 7) A6))))) A8) (MI OY (Ab Ay (qv 6) A8) L4 (Lk (qv 7)))) (Ky (Az NB (CU Fd BA (A0 (Ab Ay (qv 6) A8) A6)) A8))).pt (AJ rfl (Ao FG)) BG)
   (AF rfl (Aq 8 JK.nd (Ad Xp e (A0 (qv 2) (A0 (qv 4) (A0 (qv 5) A6)))))
   (AF rfl (BF (Az DF (Ab Ay (qv 8) A8) BI) (AJ rfl (Ao (Ad Zq e (A0 (qv 2) (A0 (qv 1) (A0 (qv 4) (A0 (qv 5) (A0 (qv 6) A6)))))))) BG)
   (AF rfl (BF (Lu (J1 (Ab Ay (qv 6) A8)) (Ky (Az Up (CU Fd BA (A0 (Ab Ay (qv 6) A8) A6)) A8))).pt (AJ rfl (Ao FG)) BG)
   (AJ rfl (Ao (YF (Ad Xx e (A0 (qv 1) (A0 (qv 4) (A0 (qv 5) (A0 (Ab Ay (qv 8) A8) A6))))) (OH (GZ Ri (Ab Ay (qv 6) A8) A8)))))))))))))))),?_⟩
 refine Fz.zw h ?_;intro sc R;show Ws [_,.any,.any,.any,.any,.any,.any,.any,.any] _ _ _;refine AQ (EE (yQ rfl (Af ⟨_,rfl,by decide,by decide,Ax ⟨[],_,rfl,⟨rfl,rfl⟩,?_⟩⟩)));rintro _⟨ks,rfl,g⟩;have l8:=g.l8;refine AQ (EE (wp_call (AS (A4 rfl (Ax ⟨_,⟨ks,rfl,g,rfl⟩,?_⟩)))));rintro _ rfl;refine AQ (bz rfl (Af ⟨_,rfl,by decide,by decide,?_⟩));refine AQ (Gj (uN (i:=3) rfl (AS (A4 rfl (Ax ⟨_,⟨ks,rfl,g,rfl⟩,?_⟩)))));rintro _⟨cs,rfl,j,o⟩;refine Jk 4 rfl ?_;refine AQ (EE (oY (i:=3) rfl (Ax ⟨_,⟨rfl,rfl⟩,?_⟩)));rintro _⟨r,e,rfl⟩;refine AQ (EE (Sj (P7 (AS (A4 rfl (AS (A4 rfl (AS (A4 rfl (AS (Af (Ax ⟨_,⟨ks,false,cs,r,60,rfl,g,⟨j,o⟩,e,by decide,rfl⟩,?_⟩))))))))))));rintro _⟨l1,l2,rfl⟩;refine⟨rfl,?_⟩;rw[jk];show Ws [.raw (KC K sc),.is (.lst (ks.map Kd.P)),.is (Ar A1 ks),.AZ,.is (.lst (cs.map .str)),.is (.str r),.is (Mb (Am ks r cs)),.any,.any] _ _ _;have J:(Am ks r cs).2.length<=0+60:=(K6 (ks:=ks) 60 (C4 r cs)).1;have v:B1 (Am ks r cs).1.th=true->(Am ks r cs).2.length=0+60:=(K6 (ks:=ks) 60 (C4 r cs)).2;refine AQ (EE (uY rfl (Af ⟨_,rfl,by decide,by decide,Af ⟨_,rfl,by decide,by decide,λd G S=>?_⟩⟩)));obtain⟨n,rfl⟩:=Us G;have B:n<=60:=by omega
 refine AQ (Bl (Le (BW (kh (Bk (BK (Bk (Sj (P7 (AS (A4 rfl (AS (A4 rfl (AS (A4 rfl (AS (A4 rfl (Ax ⟨_,⟨ks,false,cs,r,n,rfl,g,⟨j,o⟩,e,by omega,rfl⟩,?_⟩))))))))))))))))));rintro _⟨N,L,rfl⟩;refine⟨rfl,?_⟩;rw[jk];refine⟨_,.inr ⟨rfl,rfl,Af ⟨_,_,rfl,rfl,_,.inl ⟨rfl,_,rfl,?_⟩⟩⟩⟩;refine Bk (Ba (QJ (Bk (BK (BO rfl ⟨rfl,Af ⟨_,_,rfl,rfl,_,.inl ⟨rfl,rfl,Rr (Ui (A4 rfl ⟨_,rfl,?_⟩))⟩⟩⟩)))));rw[RX,sJ,<- ud B];refine⟨_,.inl ⟨rfl,rfl,_,rfl,_,rfl,?_⟩⟩;rw[pf rfl];refine C9 (by decide) (BW (ME (J8 (Bk (BK (BO rfl ⟨rfl,Af ⟨_,_,rfl,rfl,_,.inl ⟨rfl,_,rfl,Af ⟨_,rfl,_,rfl,C9 (λz=>by have:=qB z;rw[AD]at this;omega) (BN ?_)⟩⟩⟩⟩))))));refine AQ (EE (Sj (P7 (AS (A4 rfl (Fb (DG rfl (AS (A4 rfl (Ax ⟨_,⟨ks,false,cs,r,rfl,g,e,j,o,rfl⟩,?_⟩))))))))));rintro _(⟨u,W,i,c,rfl,ok,D,C⟩|⟨T,t1,t2,t,q,b,M,rfl,σ⟩)
 .have go:B1 (Am ks r cs).1.th=true:=ZCD u 60;have p:=v go;have I:=uz go;refine⟨rfl,?_⟩;refine AQ (Bl (BW (Eh (BK (BO rfl ⟨rfl,Af ⟨_,_,rfl,rfl,EV ⟨rfl,_,rfl,C9 (by decide) (BN ?_)⟩⟩⟩)))));refine AQ (Bl (Le (Fx (BK (BO rfl ⟨rfl,Af ⟨_,_,rfl,rfl,_,rfl,?_⟩⟩)))));rw[go];refine C9 (by decide) (BW (Pd (J8 (Bk (BK (BO rfl ⟨rfl,Af ⟨_,_,rfl,rfl,_,.inl ⟨rfl,Af ⟨rfl,_,rfl,C9 ?_ (BN ?_)⟩⟩⟩⟩))))))
  .rw[AD,p];decide
  refine D4 (WU (wp_call (AS (A4 rfl (AS (A4 rfl (AS (A4 rfl (AS (BK (BO rfl ⟨rfl,Af ⟨_,_,rfl,rfl,Ax ⟨_,⟨ks,cs,r,W.take (i+1),c,rfl,g,e,?_,?_,C,?_,?_,rfl⟩,?_⟩⟩⟩)))))))))))
  .have:=G2 ok.nd ok.sub;rw[AD]at this;rw[DR];omega
  .rw[nQ,pT (Qv i)];exact D
  .intro a x y hx l;rw[nQ]at hx l;split at hx
   .split at l
    .exact ok.ch a x y hx l
    .cases l
   .cases hx
  .exact λx hx=>ok.sub x (Qq hx)
  rintro _ rfl;refine⟨_,rfl,HG rfl (ME (BK (BO rfl ⟨rfl,Af ⟨_,_,rfl,rfl,_,rfl,Af ⟨_,rfl,?_⟩⟩⟩)))⟩;rw[pf (by omega)]
 .refine⟨rfl,?_⟩;refine AQ (Bl (BW (Eh (BK (BO rfl ⟨rfl,Af ⟨_,_,rfl,rfl,EV ⟨rfl,_,rfl,HG rfl ?_⟩⟩⟩)))));refine D4 (wp_call (AS (A4 rfl (AS (A4 rfl (AS (A4 rfl (AS (A4 rfl (AS (A4 rfl (Ax ⟨_,⟨ks,cs,T,r,rfl,⟨g,e,j,o,t1,t2,t,q⟩,rfl⟩,?_⟩))))))))))));exact λ_ h=>h
def all_mk{fa f1 f2 f3 f4 f5 f6 f7 f8 f9 UE fg cb fN ip TQ Rm Tg gf jT RM U5 dW RG UM Uq R8 iX Rp kE eU jI jn jS ik dk m7 iB j8 gU cL kW dI fv mq ki ia jz dG cJ jt bV dU gp:Addr}{g1 g2 g3 g4 g5 g6 g7 g8 g9 xU zg qA ya g14 uq g16 qS u9 wY g20 g21 g22 si g24 rX pQ qH g28 yn g30 q8 g32 rO yA g35 p6 xA sO g39 xk pH rW g43 g44 g45 g46 vG yM g49 g50 vk qE g53:FuncData}(X:K.In h)(G:h.Ns mainGlobals mg)(y6:mg "law"=some (.ref fa))
  
  (xi:PySem.W.nsIn K mainGlobals "Errands"=some (some (.ref A1)))
  (ZBj:PySem.W.plainGet K A1 Str.empty=true)
  (rL:PySem.W.hasDictIn K A1=true)
  (ZBI:PySem.W.plainOver K A1=true)
  (ZEn:PySem.W.findIn K (.ref A1) "__setattr__"=some (some (.builtin "object.__setattr__")))
  (ZAw:PySem.W.makesIn K A1=true)
  (qZ:PySem.W.keepIn K (.ref A1)=true)
  (ZAu:PySem.W.nsIn K mainGlobals "Run"=some (some (.ref AB)))
  (ZGD:PySem.W.plainGet K AB Str.empty=true)
  (ZEm:PySem.W.hasDictIn K AB=true)
  (y3:PySem.W.plainOver K AB=true)
  (wX:PySem.W.findIn K (.ref AB) "__setattr__"=some (some (.builtin "object.__setattr__")))
  (uJ:PySem.W.makesIn K AB=true)
  (yF:PySem.W.keepIn K (.ref AB)=true)
  (Kb:PySem.W.findIn K (.ref A1) "goes_by_word"=some none)
  (HY:PySem.W.findIn K (.ref A1) "puts_by_word"=some none)
  (Eo:PySem.W.findIn K (.ref AB) "awaited"=some none)
  (D7:PySem.W.findIn K (.ref AB) "gap"=some none)
  (IX:PySem.W.findIn K (.ref AB) "rounds"=some none)
  (N6:PySem.W.findIn K (.ref AB) "rule"=some none)
  (ER:PySem.W.findIn K (.ref AB) "things"=some none)
  (a1:nS K "_law_take" (.ref f1)) (F1:AM K "_law_take" "_law_take" VY f1 g1)
  (a2:nS K "_law_letters" (.ref f2)) (F2:AM K "_law_letters" "_law_letters" aA f2 g2)
  (a3:nS K "_law_name" (.ref f3)) (F3:AM K "_law_name" "_law_name" VU f3 g3)
  (a4:nS K "_law_names" (.ref f4)) (F4:AM K "_law_names" "_law_names" XS f4 g4)
  (a5:nS K "_law_kinds" (.ref f5)) (F5:AM K "_law_kinds" "_law_kinds" X3 f5 g5)
  (a6:nS K "check_word" (.ref f6)) (F6:AM K "check_word" "check_word" Xm f6 g6)
  (a7:nS K "check_puts" (.ref f7)) (F7:AM K "check_puts" "check_puts" Ym f7 g7)
  (a8:nS K "is_name" (.ref f8)) (F8:AM K "is_name" "is_name" U4 f8 g8)
  (a9:nS K "check_kinds" (.ref f9)) (F9:AM K "check_kinds" "check_kinds" Ug f9 g9)
  (a10:PySem.W.findIn K (.ref A1) "__init__"=some (some (.ref UE))) (x6:AM K "__init__" "Errands.__init__" VH UE xU)
  (ZFq:PySem.W.isFn K (.ref UE)=true)
  (zo:nS K "_law_book" (.ref fg)) (yN:AM K "_law_book" "_law_book" Tw fg zg)
  (yw:nS K "_law_pot" (.ref cb)) (zj:AM K "_law_pot" "_law_pot" Yf cb qA)
  (a13:nS K "_law_crowd" (.ref fN)) (vP:AM K "_law_crowd" "_law_crowd" Tu fN ya)
  (wZ:nS K "_law_rule" (.ref ip)) (F14:AM K "_law_rule" "_law_rule" Zt ip g14)
  (a15:PySem.W.findIn K (.ref AB) "__init__"=some (some (.ref TQ))) (u7:AM K "__init__" "Run.__init__" Ul TQ uq)
  (zz:PySem.W.isFn K (.ref TQ)=true)
  (zW:PySem.W.findIn K (.ref AB) "goes_on"=some (some (.ref Rm))) (iG:AM K "goes_on" "Run.goes_on" Zk Rm g16)
  (y8:PySem.W.isFn K (.ref Rm)=true)
  (vX:PySem.W.findIn K (.ref AB) "tell"=some (some (.ref Tg))) (iY:AM K "tell" "Run.tell" aN Tg qS)
  (ZDg:PySem.W.isFn K (.ref Tg)=true)
  (qf:nS K "gap_behind_put" (.ref gf)) (oU:AM K "gap_behind_put" "gap_behind_put" WX gf u9)
  (a19:nS K "joins" (.ref jT)) (pY:AM K "joins" "joins" YH jT wY)
  (a20:PySem.W.findIn K (.ref AB) "put_in"=some (some (.ref RM))) (gr:AM K "put_in" "Run.put_in" Ya RM g20)
  (rE:PySem.W.isFn K (.ref RM)=true)
  (a21:PySem.W.findIn K (.ref AB) "place_by"=some (some (.ref U5))) (mz:AM K "place_by" "Run.place_by" Vr U5 g21)
  (rD:PySem.W.isFn K (.ref U5)=true)
  (yZ:nS K "gap_behind_take" (.ref dW)) (F22:AM K "gap_behind_take" "gap_behind_take" Z8 dW g22)
  (a23:PySem.W.findIn K (.ref AB) "take_out"=some (some (.ref RG))) (kK:AM K "take_out" "Run.take_out" ZU RG si)
  (ZG2:PySem.W.isFn K (.ref RG)=true)
  (uM:PySem.W.findIn K (.ref AB) "do_errand"=some (some (.ref UM))) (lF:AM K "do_errand" "Run.do_errand" YM UM g24)
  (zk:PySem.W.isFn K (.ref UM)=true)
  (a25:PySem.W.findIn K (.ref A1) "puts"=some (some (.ref Uq))) (kT:AM K "puts" "Errands.puts" XE Uq rX)
  (rQ:PySem.W.isFn K (.ref Uq)=true)
  (qc:PySem.W.findIn K (.ref A1) "goes"=some (some (.ref R8))) (iq:AM K "goes" "Errands.goes" VL R8 pQ)
  (ZAO:PySem.W.isFn K (.ref R8)=true)
  (a27:nS K "check_rule" (.ref iX)) (F27:AM K "check_rule" "check_rule" ax iX qH)
  (a28:PySem.W.findIn K (.ref A1) "words"=some (some (.ref Rp))) (il:AM K "words" "Errands.words" Xz Rp g28)
  (vU:PySem.W.isFn K (.ref Rp)=true)
  (a29:nS K "check_crowd" (.ref kE)) (wz:AM K "check_crowd" "check_crowd" Xd kE yn)
  (uB:nS K "ran" (.ref eU)) (qe:AM K "ran" "ran" YR eU g30)
  (yI:nS K "comers_of" (.ref jI)) (F31:AM K "comers_of" "comers_of" Ti jI q8)
  (xq:nS K "ring_along" (.ref jn)) (F32:AM K "ring_along" "ring_along" S7 jn g32)
  (a33:nS K "way_and_ring" (.ref jS)) (pI:AM K "way_and_ring" "way_and_ring" XW jS rO)
  (a34:nS K "sums_of" (.ref ik)) (sj:AM K "sums_of" "sums_of" RY ik yA)
  (a35:nS K "rounds_to" (.ref dk)) (rY:AM K "rounds_to" "rounds_to" aa dk g35)
  (a36:nS K "reckon" (.ref m7)) (pW:AM K "reckon" "reckon" NY m7 p6)
  (a37:nS K "known_rows" (.ref iB)) (sE:AM K "known_rows" "known_rows" VQ iB xA)
  (a38:nS K "table_of" (.ref j8)) (F38:AM K "table_of" "table_of" SM j8 sO)
  (a39:nS K "ending" (.ref gU)) (F39:AM K "ending" "ending" Wd gU g39)
  (qF:nS K "check_ends" (.ref cL)) (F40:AM K "check_ends" "check_ends" Vs cL xk)
  (uL:nS K "puts_in" (.ref kW)) (F41:AM K "puts_in" "puts_in" TM kW pH)
  (a42:nS K "standing_behind" (.ref dI)) (p4:AM K "standing_behind" "standing_behind" Rh dI rW)
  (oC:nS K "reckoned" (.ref fv)) (F43:AM K "reckoned" "reckoned" NW fv g43)
  (uR:nS K "parts_of" (.ref mq)) (F44:AM K "parts_of" "parts_of" Pz mq g44)
  (yz:nS K "many_told" (.ref ki)) (v9:AM K "many_told" "many_told" Pu ki g45)
  (xN:nS K "word_at" (.ref ia)) (uG:AM K "word_at" "word_at" Tt ia g46)
  (uk:nS K "nth" (.ref jz)) (oF:AM K "nth" "nth" O7 jz vG)
  (oM:nS K "_law_nths_right" (.ref dG)) (F48:AM K "_law_nths_right" "_law_nths_right" Y2 dG yM)
  (a49:nS K "_law_tally" (.ref cJ)) (vA:AM K "_law_tally" "_law_tally" SY cJ g49)
  (sg:nS K "_law_ended_right" (.ref jt)) (uu:AM K "_law_ended_right" "_law_ended_right" UK jt g50)
  (qG:nS K "_law_comers" (.ref bV)) (F51:AM K "_law_comers" "_law_comers" OI bV vk)
  (xY:nS K "_law_is_way" (.ref dU)) (vq:AM K "_law_is_way" "_law_is_way" X1 dU qE)
  (jy:nS K "law" (.ref gp)) (fX:AM K "law" "law" Mn gp g53)
  (zL:nN K "all")
  (qg:nN K "enumerate")
  (sU:nN K "len")
  (xr:nN K "list")
  (tD:nN K "max")
  (ZC9:nN K "range")
  (ZC7:nN K "sum")
  (wM:nN K "tuple")
  (oH:nN K "zip")
  (uQ:nS K "LETTERS" (.str "abcdefghijklmnopqrstuvwxyz" Xv))
  (z9:nS K "MOST_IN_CROWD" (.int 12 Va))
  (ZAD:nS K "MOST_KINDS" (.int 8 Y8))
  (ZBX:nS K "MOST_LETTERS" (.int 8 Vw))
  (ZAz:nS K "MOST_PUTS" (.int 6 XA))
  (ZEx:nS K "RULES" (.ref Kf))
  {yE ZDk oQ:Tok}(pF:K.lookup Kf=some ⟨.type "tuple", zE,.seq #[.str "none" yE,.str "ahead" ZDk,.str "all" oQ] ZBG,zU⟩)
  (xD:nS K "WHERES" (.ref K3))
  {tN ZFt vy uZ:Tok}(zl:K.lookup K3=some ⟨.type "tuple", ZDV,.seq #[.str "next" tN,.str "last" ZFt,.str "back" vy,.str "first" uZ] xM,ZEQ⟩)
  (pq:nS K "WHERES_AHEAD" (.ref GK))
  {ZF8 ZDh:Tok}(ub:K.lookup GK=some ⟨.type "tuple", ug,.seq #[.str "next" ZF8,.str "last" ZDh] oZ,ZDc⟩)
  : ∃fd:FuncData,(∀(s:Shared)(v:Value),BindsTo s fd ⟨[v],[]⟩ [("script", v)])/\∀ZS:Heap,K.In ZS->ZS.Ns mainGlobals mg->Ds l.prog w K mg ZS GU 27 fa fd ["script"] (OQ K):=by
 have e:=y6.symm.trans (BB X G jy);cases e;have E5:Bo K A1:=⟨ZBj,rL,ZBI,ZEn⟩;have B9:Bo K AB:=⟨ZGD,ZEm,y3,wX⟩;have uU:Mk K A1 UE:=⟨ZAw,a10,ZFq,qZ⟩;have ZBY:Mk K AB TQ:=⟨uJ,a15,zz,yF⟩;have ZBy:Meth K AB "goes_on" Rm:=⟨zW,y8,iG.kp⟩;have ZBH:Meth K AB "tell" Tg:=⟨vX,ZDg,iY.kp⟩;have ZD4:Meth K AB "put_in" RM:=⟨a20,rE,gr.kp⟩;have ZBh:Meth K AB "place_by" U5:=⟨a21,rD,mz.kp⟩;have qp:Meth K AB "take_out" RG:=⟨a23,ZG2,kK.kp⟩;have ZCe:Meth K AB "do_errand" UM:=⟨uM,zk,lF.kp⟩;have tQ:Meth K A1 "puts" Uq:=⟨a25,rQ,kT.kp⟩;have yb:Meth K A1 "goes" R8:=⟨qc,ZAO,iq.kp⟩;have ZDb:Meth K A1 "words" Rp:=⟨a28,vU,il.kp⟩;have N0:=Kp X G zL;have N7:=Kp X G qg;have BA:=Kp X G sU;have Gi:=Kp X G xr;have Hl:=Kp X G tD;have De:=Kp X G ZC9;have En:=Kp X G ZC7;have E1:=Kp X G wM;have NS:=Kp X G oH;have Wf:=BB X G uQ;have Zs:=BB X G z9;have Z6:=BB X G ZAD;have Wc:=BB X G ZBX;have Zd:=BB X G ZAz;have YC:=BB X G ZEx;have Xg:∀H,B7 K H Kf [.str "none",.str "ahead",.str "all"]:=λH=>.inr ⟨_,_,_,pF,rfl,rfl,(by show 3<=sizeLine;decide +kernel),(.cons ⟨_,rfl⟩ (.cons ⟨_,rfl⟩ (.cons ⟨_,rfl⟩ .nil)))⟩;have YJ:=BB X G xD;have XI:∀H,B7 K H K3 [.str "next",.str "last",.str "back",.str "first"]:=λH=>.inr ⟨_,_,_,zl,rfl,rfl,(by show 4<=sizeLine;decide +kernel),(.cons ⟨_,rfl⟩ (.cons ⟨_,rfl⟩ (.cons ⟨_,rfl⟩ (.cons ⟨_,rfl⟩ .nil))))⟩
 have N1:=BB X G pq;have Nr:∀H,B7 K H GK [.str "next",.str "last"]:=λH=>.inr ⟨_,_,_,ub,rfl,rfl,(by show 2<=sizeLine;decide +kernel),(.cons ⟨_,rfl⟩ (.cons ⟨_,rfl⟩ .nil))⟩
 have X2:=BB X G xi;have Zp:=BB X G ZAu;obtain⟨_,_,kV,dc,pm,an,cd,ct,_,rfl,_,_⟩:=id fX.ex;refine⟨PySem.W.fnOf "law" "law" (Q2 Mn) (MF Mn) (Aa Mn) .none kV dc pm an cd ct,λs v=>.of_eq rfl,λZS _ _=>?_⟩;have Cc:=ZBw (P:=l.prog) (w:=w) (ZS:=ZS) F1 (BB X G a1);have QC:=xX (P:=l.prog) (w:=w) (ZS:=ZS) F2 (BB X G a2);have WS:=ZD6 QC Cc BA F3 (BB X G a3);have Zx:=og WS De F4 (BB X G a4);have WD:=ZBZ Cc De Zx Hl E1 F5 (BB X G a5);have Gh:=ZBz (P:=l.prog) (w:=w) (ZS:=ZS) F6 (BB X G a6);have XH:=yJ Gh YJ XI F7 (BB X G a7);have Yh:=ZCQ (P:=l.prog) (w:=w) (ZS:=ZS) BA N0 Wf Wc F8 (BB X G a8);have Vp:=ZBN BA XH Yh N7 Z6 Zd F9 (BB X G a9);have Zh:=ZCs (P:=l.prog) (w:=w) (mg:=mg) (ZS:=ZS) (A1:=A1) E1 Vp E5 Kb HY x6 uU;have Vc:=ZEe (A1:=A1) Zh Gi X2 yN (BB X G zo);have Oa:=ZGH (P:=l.prog) (w:=w) (ZS:=ZS) BA zj (BB X G yw);have Wk:=ve Cc BA De vP (BB X G a13);have aS:=ZBx Cc F14 (BB X G wZ);have VB:=vh (P:=l.prog) (w:=w) (mg:=mg) (ZS:=ZS) (AB:=AB) Gi B9 Eo D7 IX N6 ER u7 ZBY;have RT:=ZG8 (P:=l.prog) (w:=w) (mg:=mg) (ZS:=ZS) (AB:=AB) B9 Eo iG ZBy;have Vg:=we (P:=l.prog) (w:=w) (mg:=mg) (ZS:=ZS) (AB:=AB) B9 Eo D7 IX ER iY ZBH;have WO:=ZEL (P:=l.prog) (w:=w) (ZS:=ZS) oU (BB X G qf);have Vt:=ZAC (P:=l.prog) (w:=w) (ZS:=ZS) pY (BB X G a19);have XC:=ZCG (P:=l.prog) (w:=w) (mg:=mg) (ZS:=ZS) (AB:=AB) B9 Eo D7 N6 ER WO Vt gr ZD4;have Ve:=xa (P:=l.prog) (w:=w) (mg:=mg) (ZS:=ZS) (AB:=AB) BA B9 D7 ER mz ZBh;have Zw:=ZEA (P:=l.prog) (w:=w) (ZS:=ZS) F22 (BB X G yZ);have WI:=xW (P:=l.prog) (w:=w) (mg:=mg) (ZS:=ZS) (AB:=AB) B9 Eo D7 ER Zw kK qp;have Xe:=pM (P:=l.prog) (w:=w) (mg:=mg) (ZS:=ZS) (AB:=AB) B9 D7 Ve XC WI lF ZCe;have GN:=ZET (P:=l.prog) (w:=w) (mg:=mg) (ZS:=ZS) (A1:=A1) Gh E5 HY Gi kT tQ;have NA:=ZDE (P:=l.prog) (w:=w) (mg:=mg) (ZS:=ZS) (A1:=A1) Gh E5 Kb iq yb;have JZ:=ZFQ (P:=l.prog) (w:=w) (ZS:=ZS) YC Xg F27 (BB X G a27);have Dc:=yl (P:=l.prog) (w:=w) (mg:=mg) (ZS:=ZS) (A1:=A1) E5 HY Gi il ZDb;have Gy:=wj (A1:=A1) BA Gh Dc Zs wz (BB X G a29);have T7:=ZC6 (A1:=A1) (AB:=AB) BA B9 IX ER NA GN VB Xe RT Vg Gy JZ Zp qe (BB X G uB);have Hu:=vJ (A1:=A1) GN N1 Nr F31 (BB X G yI);have PK:=wa (A1:=A1) Hu F32 (BB X G xq);have NN:=xm (A1:=A1) pI (BB X G a33) PK;have Js:=ZAk (P:=l.prog) (w:=w) (ZS:=ZS) De En sj (BB X G a34);have Pp:=ZF9 (P:=l.prog) (w:=w) (ZS:=ZS) N1 Nr rY (BB X G a35);have QF:=ZDn (A1:=A1) BA Hl E1 Dc Hu Pp Js pW (BB X G a36);have Ms:=xE (A1:=A1) sE (BB X G a37) QF
 have YY:=y2 (A1:=A1) Dc Ms F38 (BB X G a38);have Xp:=t7 (A1:=A1) Gy JZ YY NN F39 (BB X G a39);have Mp:=tK (A1:=A1) NN F40 (BB X G qF);have Xr:=ZEh (A1:=A1) BA GN F41 (BB X G uL);have aD:=ZAJ (A1:=A1) E1 N7 Dc NA En Xr NS p4 (BB X G a42);have Vk:=pB (A1:=A1) BA Hl E1 Dc Gy JZ Js Ms Mp aD F43 (BB X G oC);have Hv:=ZB7 (A1:=A1) GN F44 (BB X G uR);have He:=uX (A1:=A1) En Hv v9 (BB X G yz);have PD:=wb (A1:=A1) Hv uG (BB X G xN) He;have Rw:=qV (A1:=A1) BA De Dc Gy En Mp oF (BB X G uk) He PD;have YE:=ZCf (A1:=A1) BA De Rw F48 (BB X G oM);have P0:=ZCj (P:=l.prog) (w:=w) (ZS:=ZS) E1 vA (BB X G a49);have Zq:=oo (A1:=A1) N0 En NS YE P0 Vk uu (BB X G sg);have YX:=ZD3 (P:=l.prog) (w:=w) (ZS:=ZS) F51 (BB X G qG);have Xx:=tO BA De YX vq (BB X G xY);exact ZDp (A1:=A1) Cc BA Vc Wk Zq Xx WD Oa aS Xp T7 fX (BB X G jy)
def walk{q:Program}{loose:List Str}{XP:(ZHc)->Heap->Prop}{YP:World->Heap->Prop}{d:DefRec}{K:Params->ZHa}(hn:l.most=some 63)(Ol:d.params.defaults=[])
  (hY:∀(w:World)(h:Heap),YP w h->(K w.params).In h)
  (F:∀(w:World)(mg:ZHc)(fa:Addr)(h:Heap),(K w.params).In h->h.Ns mainGlobals mg->mg d.name=some (.ref fa)->
   ∃fd:FuncData,(∀(s:Shared)(u:Value),BindsTo s fd ⟨[u],[]⟩ [("script", u)])/\∀ZS:Heap,(K w.params).In ZS->ZS.Ns mainGlobals mg->Ds l.prog w (K w.params) mg ZS GU 27 fa fd ["script"] (OQ (K w.params))) :
  PySem.W.WalkO q loose XP YP l.row.toRowW d [] (λf vs=>PySem.call f vs):=
 L2.vB (n:=63) (k:=27) (x:="script") (CX:=λ_=>GU) (sp:=λw=>OQ (K w.params)) hn (by decide) Ol ⟨rfl,by decide,by decide⟩ hY F (λ_ _ a ns hl _ hS=>⟨a,ns,rfl,hS,hl,λ_=>rfl⟩) λ_ _ _ _ _ z=>z
end Pf
open PySem.W
local macro_rules | `(tactic| walk_at "kF")=>`(tactic| (refine' L2.ZFf ?_ ?_ ?_;all_goals try k_is;all_goals k_is))
set_option maxRecDepth 100000 in
set_option maxHeartbeats 0 in
theorem PySem.Challenge.cw_stirround_k80_whole_ends_without_running_holds : PySem.Challenge.rw_stirround_k80_whole_ends_without_running.Holds := by
 w_on;o_law;k_head;(case hw=>w_witness2)
 k_fill
 refine Pf.walk (l:=PySem.Challenge.rw_stirround_k80_whole_ends_without_running) rfl rfl (λw h Y=>PySem.W.kIn_of Y) ?F
 case F=>
  intro w mg fa h KX G PM;refine' Pf.all_mk KX G PM ?_ ?_ ?_ ?_ ?_ ?_ ?_ ?_ ?_ ?_ ?_ ?_ ?_ ?_ ?_ ?_ ?_ ?_ ?_ ?_ ?_ ?_ ?_ ?_ ?_ ?_ ?_ ?_ ?_ ?_ ?_ ?_ ?_ ?_ ?_ ?_ ?_ ?_ ?_ ?_ ?_ ?_ ?_ ?_ ?_ ?_ ?_ ?_ ?_ ?_ ?_ ?_ ?_ ?_ ?_ ?_ ?_ ?_ ?_ ?_ ?_ ?_ ?_ ?_ ?_ ?_ ?_ ?_ ?_ ?_ ?_ ?_ ?_ ?_ ?_ ?_ ?_ ?_ ?_ ?_ ?_ ?_ ?_ ?_ ?_ ?_ ?_ ?_ ?_ ?_ ?_ ?_ ?_ ?_ ?_ ?_ ?_ ?_ ?_ ?_ ?_ ?_ ?_ ?_ ?_ ?_ ?_ ?_ ?_ ?_ ?_ ?_ ?_ ?_ ?_ ?_ ?_ ?_ ?_ ?_ ?_ ?_ ?_ ?_ ?_ ?_ ?_ ?_ ?_ ?_ ?_ ?_ ?_ ?_ ?_ ?_ ?_ ?_ ?_ ?_ ?_ ?_ ?_ ?_ ?_ ?_ ?_ ?_ ?_ ?_ ?_ ?_ ?_ ?_ ?_ ?_ ?_ ?_
  any_goals first|k_is|(show _=_;k_is)|kernel_rfl|walk_at "kF"
#print axioms PySem.Challenge.cw_stirround_k80_whole_ends_without_running_holds
