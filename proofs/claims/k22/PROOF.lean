import PyProof.Rows.All
import Wide.All
import OpenK.AllK
import PySem.Challenge.RW_stirround_k22_what_stands_behind
set_option genSizeOf false
set_option linter.all false
set_option compiler.extract_closed false
set_option bootstrap.genMatcherCode false
noncomputable section
def lr:=@PySem.wpAny_bind
def lx:=@decide_eq_true
def mY:=@if_neg
def md:=@if_pos
def mi:=@of_decide_eq_true
def oo:=@PySem.wpAny_pure
def qX:=@decide_eq_false
def qr:=@PySem.wpAny_mono
def rQ:=@beq_self_eq_true
def sA:=@congrArg
def tL:=@PySem.wpAny_truthy_bool
def tQ:=@PySem.wpAny_Call_Name_kw
def uB:=@PySem.wpAny_newObj_type
def uI:=@PySem.wpAny_holding
def uK:=@PySem.wpAny_passesOwn
def uM:=@PySem.wpAny_typeOf
def uT:=@PySem.wpAny_updateSeq
def uX:=@PySem.lookup_relabel_local
def v9:=@PySem.wpAny_specialOf
def vE:=@PySem.wpAny_execs_nil
def vH:=@PySem.tupleKind_room_in1
def vO:=@PySem.builtinLookup_eq_fast
def vT:=@PySem.wpAny_field
def vU:=@PySem.codeAny_extend_loopS
def wH:=@PySem.wpAny_ite_split
def wV:=@PySem.codeAny_builtin
def wa:=@PySem.wpAny_pyIter_list
def wy:=@PySem.wpAny_pyIter_dict
def xP:=@PySem.plainId_quiet
def xj:=@PySem.wpAny_getItem_list_slice
def y4:=@PySem.wpAny_comprehension_free
def yO:=@or_false
def yT:=@if_false
def yw:=@PySem.wpAny_isInstance
def yx:=@PySem.wpAny_call_entry
def z5:=@PySem.noFill_tuple_add
def z6:=@PySem.codeAny_mono
def z7:=@PySem.typeLookup_type
def zY:=@PySem.wpAny_setField
def zc:=@PySem.isSubtype_type
def zy:=@if_true
def AW:=@List.length_map
def Ap:=@Nat.le_refl
def B3:=@List.not_mem_nil
def B6:=@PySem.W.mg_of
def BA:=@List.getElem?_eq_getElem
def BE:=@PySem.Heap.lt_size
def BG:=@List.getElem?_map
def BL:=@Option.some.inj
def BP:=@Ne.symm
def BZ:=@PySem.Heap.get?_push_of_some
def Bc:=@List.append_assoc
def Bl:=@List.size_toArray
def Bm:=@Nat.zero_le
def Bu:=@List.length_append
def Bv:=@List.map_cons
def C0:=@Nat.ne_of_lt
def CA:=@PySem.Heap.get?_push_size
def CG:=@List.nodup_append
def CK:=@List.length_take
def Cb:=@List.getElem?_set_ne
def Cc:=@List.length_cons
def Cq:=@List.getElem?_set_self
def Cr:=@List.mem_of_getElem?
def Cs:=@Nat.le_trans
def Cz:=@List.mem_cons_self
def DK:=@List.mem_cons_of_mem
def DS:=@Bool.false_ne_true
def DT:=@Nat.lt_of_lt_of_le
def E4:=@List.map_append
def Ef:=@Int.eq_ofNat_of_zero_le
def Eg:=@List.mem_append_right
def Ez:=@Bool.and_eq_true
def FA:=@List.length_drop
def Fg:=@PySem.W.mg_none_of
def GA:=@List.append_nil
def GB:=@List.zip_cons_cons
def Gn:=@PySem.Heap.get?_update_other
def Gp:=@List.map_map
def Gq:=@List.mem_cons
def Gr:=@Nat.le_succ
def Hc:=@List.getElem?_append_left
def Hd:=@List.lookup_cons
def Hx:=@PySem.Heap.size_push
def Hy:=@List.mem_append
def Hz:=@List.mem_append_left
def I0:=@PySem.PassesOwn.never
def IA:=@PySem.W.kia_one
def J8:=@Decidable.byContradiction
def J9:=@List.all_eq_true
def JA:=@List.getElem?_append_right
def JB:=@Nat.lt_of_le_of_lt
def JC:=@PySem.F.plainAttrs_list
def K2:=@PySem.Heap.get?_update_self
def LI:=@Int.emod_lt_of_pos
def LJ:=@Int.emod_nonneg
def LK:=@List.getElem?_eq_none
def LL:=@List.length_reverse
def LM:=@List.length_set
def LN:=@List.nodup_nil
def LO:=@List.take_append_drop
def LP:=@List.take_length
def LQ:=@Nat.lt_irrefl
def LR:=@PySem.mem_of_lookup
def N2:=@Array.length_toList
def N3:=@List.any_cons
def N4:=@List.getD_eq_getElem?_getD
def N5:=@List.length_singleton
def N6:=@List.length_zip
def N7:=@Nat.lt_succ_of_lt
def N8:=@Nat.ne_of_gt
def PL:=@Bool.eq_iff_iff
def PM:=@List.eraseIdx_cons_succ
def PN:=@List.find?_cons
def PQ:=@List.getElem_mem
def PR:=@List.length_filter_le
def PU:=@List.map_nil
def PX:=@List.set_set
def PY:=@Nat.min_eq_left
def PZ:=@Nat.succ.inj
def Pa:=@PyProof.Rows.callWith_type1
def Sn:=@Int.toNat_natCast
def So:=@List.all_cons
def Sq:=@List.filter_append
def Sr:=@List.getElem?_range
def Ss:=@List.map_drop
def Su:=@List.map_take
def Sw:=@List.set_cons_succ
def Sy:=@List.take_of_length_le
def Sz:=@List.take_succ_eq_append_getElem
def T4:=@Nat.le_of_lt
def T5:=@PySem.F.slot_list_append
def T6:=@PySem.F.slot_list_index
def T7:=@PySem.F.type_list_append
def Yt:=@Bool.and_false
def Yu:=@Bool.true_and
def Yv:=@PySem.Heap.size_after_update
def Yw:=@List.Sublist.refl
def Yx:=@List.cons_append
def Yy:=@List.cons_lt_cons_iff
def Yz:=@List.drop_eq_getElem_cons
def Z0:=@List.ext_getElem?
def Z1:=@List.filterMap_cons
def Z2:=@List.filter_cons
def Z3:=@List.getElem_idxOf
def Z4:=@List.idxOf_eq_length
def Z5:=@List.length_nil
def Z6:=@List.nil_append
def Z7:=@List.of_mem_zip
def Z8:=@List.set_cons_zero
def Z9:=@Nat.le_total
def ZA:=@Nat.lt_succ_self
def ZC:=@Nat.lt_trichotomy
def ZD:=@Nat.min_eq_right
def ZE:=@Option.isSome_map
def ZF:=@Option.map_some
def ZG:=@PyProof.Rows.slot_tuple_getitem
def ZH:=@PySem.F.type_list_index
def ZI:=@PySem.Walks.dictKeys
def je:=@Array.getElem?_toList
def jf:=@Bool.and_true
def jg:=@PySem.Calls.callWith_builtin
def jh:=@PySem.Calls.spliced_cons
def ji:=@PySem.Calls.spliced_nil
def jj:=@Int.toNat_of_nonneg
def jk:=@List.drop_zero
def jl:=@List.eraseIdx_sublist
def jm:=@List.filter_map
def jn:=@List.forIn_nil
def jo:=@List.getElem?_replicate
def jq:=@List.idxOf_cons
def jr:=@List.length_replicate
def jt:=@List.map_id'
def jv:=@List.map_reverse
def jw:=@List.mem_filter
def jx:=@Nat.le_of_eq
def jy:=@Nat.le_of_lt_succ
def jz:=@Nat.min_self
def k6:=@Nat.sub_self
def k8:=@Nat.sub_zero
def k9:=@PySem.Obj.data_mapFields
def kA:=@PySem.Paired.length
def kB:=@PySem.F.args_tuple_add_2
def kC:=@PySem.F.entry_tuple_add
def kD:=@PySem.F.slot_tuple_add
def kE:=@PySem.W.callWith_K
def kF:=@PySem.W.plainGet_of
def ZDR:=@PySem.Calls.Name_function_global
def ZDS:=@Int.lt_of_le_of_lt
def ZDT:=@Int.natCast_nonneg
def ZDU:=@List.Pairwise.map
def ZDV:=@List.any_eq_false
def ZDW:=@List.exists_cons_of_ne_nil
def ZDX:=@List.filter_congr
def ZDY:=@List.filter_eq_self
def ZDZ:=@List.getElem?_drop
def ZDa:=@List.getElem?_reverse
def ZDb:=@List.getElem_inj
def ZDc:=@List.length_eraseIdx_of_lt
def ZDd:=@List.length_erase_of_mem
def ZDe:=@List.length_pos_of_mem
def ZDf:=@List.mem_erase_of_ne
def ZDg:=@List.mem_of_mem_take
def ZDh:=@List.replicate_succ
def ZDi:=@List.reverse_cons
def ZDj:=@List.set_append_right
def ZDk:=@List.sublist_append_right
def ZDl:=@Nat.le_of_not_lt
def ZDm:=@Nat.le_succ_of_le
def ZDn:=@Nat.min_le_right
def ZDo:=@Nat.not_lt_of_le
def ZDp:=@Option.getD_none
def ZDq:=@Option.getD_some
def ZDr:=@Option.isSome_some
def ZDs:=@PySem.F.plainAttrs_dict
def ZDt:=@PySem.F.plain_extend_loop
def ZDu:=@PySem.F.slot_dict_clear
def ZDv:=@PySem.F.slot_dict_pop
def ZDw:=@PySem.F.slot_list_insert
def ZDx:=@PySem.F.slot_tuple_index
def ZDy:=@PySem.W.cellsFrom_some
def ZDz:=@PySem.W.kitx_dict
def ZE0:=@PySem.W.kitx_list
open PySem PySem.Spec PyProof.Rows
abbrev ZEe:=PySem.W.Frag
abbrev ZEf:=(List (Addr×Obj))
abbrev ZEg:=(Str->Option Value)
namespace PySem.W.Fast
def t:=Nat
def tw9117885423979772542:=t
def tw551998734875444708:=t
def tw12146010645147425730:=t
def tw8360546091850169562:=t
def tw7730577994471017173:=t
def tw8940596120876296649:=t
def tw9047572150143539504:=t
def tw17517506676034201672:=t
def tw12009307361397318391:=t
def tw14896688125967896107:=t
def tw7198746754560189293:=t
def tw12173969691317064323:=t
def tw6268017953845978023:=t
def tw13440151595739228338:=t
def tw9539986743168584452:=t
def tw2010836347523843874:=t
def tw11947323824532626062:=t
def tw12516539766038428576:=t
def tw941708847774075703:=t
def tw15668685309437407128:=t
def tw1993710856500557682:=t
def tw8930514195812460493:=t
def tw16679215792893735017:=t
def tw9776746650542413980:=t
def tw9025286121654048813:=t
def tw14610608936227104712:=t
def tw15305270023366398866:=t
def tw18008040148967453606:=t
def tw4873785474998420592:=t
def tw3421242746448272093:=t
def tw110268386869321834:=t
def tw4633433923425568169:=t
def tw8329971819844348367:=t
def tw5414432742406329520:=t
def tw8826843162415816230:=t
def tw460888634081548033:=t
def tw966210222796742657:=t
def tw10649186493485681118:=t
def tw7989962797644952677:=t
def tw9914839127699693515:=t
def tw8862902287840288006:=t
def tw2520811569024866118:=t
def tw8538703389164720426:=t
def tw13137048074850661333:=t
def tw10740176053307291282:=t
def tw15300080333748907779:=t
def tw642350106896062334:=t
def tw16324296697070276871:=t
def tw7970516433003128059:=t
def tw11623835265751634755:=t
def tw7567653572996577004:=t
def tw11561399716597736311:=t
def tw87356846056671404:=t
def tw6546124531986688074:=t
def tw13355550306260516886:=t
def tw9390418153713843326:=t
def tw14032050653762617330:=t
def tw1793059456333715978:=t
def tw1088999353546118190:=t
def tw13442956212005725334:=t
def tw12607216675439060171:=t
def tw13075660871182006948:=t
def tw13911005285023995066:=t
def tw3542237913129653953:=t
def tw2883115301804876642:=t
def tw331660567697563845:=t
def tw17204091148566054920:=t
def tw14482158720202740429:=t
def tw10776799513904107026:=t
def tw799064001552281026:=t
def tw2773086003129364292:=t
def tw4893130425381637410:=t
def tw17776868167674945438:=t
def tw18303302153900403705:=t
def tw4206006179126274981:=t
def tw15525564047110489599:=t
def tw15661034128965269937:=t
def tw5927433257677452815:=t
def tw17416491486516001714:=t
def tw13085771140653767004:=t
def tw5966218250450812588:=t
def tw391854998691186264:=t
def tw7572277442838569338:=t
def tw13906039864326895815:=t
def tw5652168526665450625:=t
def tw4157518754792045962:=t
def tw16392796211040134363:=t
def tw3299286055753861682:=t
def tw5122690557645043124:=t
def tw283392033119360317:=t
def tw11553202700644394474:=t
def tw7480037160445225217:=t
def tw14489730401787588336:=t
def tw15637174555081534874:=t
def tw14748866165204890558:=t
def tw16238335222230098258:=t
def tw78228614395842511:=t
def tw12435548978773685201:=t
def tw16492132502980364025:=t
def tw3406845692130999633:=t
def tw16601325242624050809:=t
def tw6901163206512279003:=t
def tw5543714018090345496:=t
def tw14286039413713332155:=t
def tw2635168961168943655:=t
def tw18432107154482480855:=t
def tw17661408411979390242:=t
def tw13570776830799523749:=t
def tw5766836966211639232:=t
def tw9427660477849366003:=t
def tw633391699480861553:=t
def tw17722565176134368956:=t
def tw14031703668090934144:=t
def tw15916715933274518032:=t
def tw12094572521781109104:=t
def tw5136127660646000964:=t
def tw17229066334604128560:=t
def tw18279346601755061705:=t
def tw2441581952064278410:=t
def tw4436184717448520629:=t
def tw14986354452664132208:=t
def tw8666058531699243780:=t
def tw18080715819578101748:=t
def tw12385243908378136702:=t
def tw5121792526121664217:=t
def tw17005567087498097580:=t
def tw3099363467434781281:=t
def tw17748431461643179771:=t
def tw2055055203487935006:=t
def tw567823079175190456:=t
def tw15479545726269625189:=t
def tw4544392235662400672:=t
def tw10977054355994287151:=t
def tw12488951189569055985:=t
def tw15933847773629536683:=t
def tw14584859884749760479:=t
def tw5168161620722807155:=t
def tw7359840537440414303:=t
def tw4710814784034563208:=t
def tw16254370435981825220:=t
def tw554397557790058441:=t
def tw18159716288088170646:=t
def tw16175048076726672028:=t
def tw4156599287384668611:=t
def tw14249441964891434261:=t
def tw11348367273146033695:=t
def tw17288458475020537429:=t
def tw2763550980823942150:=t
def tw12280687779382187348:=t
def tw13926815132017589373:=t
def tw5571578485572320121:=t
def tw17335374248148445733:=t
def tw17760839026464493311:=t
def tw4384870405533740489:=t
def tw10560829318378383880:=t
def tw5513609298820065279:=t
def tw18138902103544915817:=t
def tw8767880154937885799:=t
def tw8817850556004441557:=t
def tw4072884529562784679:=t
def tw552741224637177850:=t
def tw7636426198085458691:=t
def tw9985833690660005371:=t
end PySem.W.Fast
set_option Elab.async false
set_option maxRecDepth 100000
namespace L2
variable{α κ:Type}{C a b dx it:Addr}{c cd u:Value}{w:World}{Zu h':Heap}{m name qual x:Str}{e tg:Expr}{ZS Zb:ZEf}{s s':Shared}{g':Array GenState}{i j n t' tk:Nat}{d':Drawn}{ch fp:List Addr}{N ks ns ps:List Str}{M:Model}{A:Around}{E Q:Value->Shared->Prop}{ZE9 pos:Pos}{op:CmpOp}{es rest:List Expr}{f:Value->Value->Sem Value}{pl:Sem Bool}{ds us:List Value}{mA mg:ZEg}{prog:Program}{kw:List (Str×Value)}{fd:FuncData}{outer:List Env}{sc scope:Scope}
abbrev Key:=Sum Int Str
noncomputable def IS:Key->Value->Bool
 | .inl k,v=>Value.isInt k v
 | .inr x,v=>Value.isStrOf x v
noncomputable def ZCO(w:World):Key->Int
 | .inl k=>hashInt k
 | .inr x=>hashStr w x
theorem GS:∀{k:Key}{v:Value},IS k v=true->(∃i t,k=Sum.inl i/\v=Value.int i t)∨(∃x t,k=Sum.inr x/\v=Value.str x t)
 | .inl i,v,h=>by
  obtain⟨t,e⟩:=Value.isInt_shape (k:=i) (v:=v) h;exact .inl ⟨i,t,rfl,e⟩
 | .inr x,v,h=>by
  obtain⟨t,e⟩:=Value.isStrOf_shape (x:=x) (v:=v) h;exact .inr ⟨x,t,rfl,e⟩
theorem wN(i:Int)(t:Tok):IS (.inl i) (.int i t)=true:=by simp[IS,Value.isInt]
theorem ZBJ(x:Str)(t:Tok):IS (.inr x) (.str x t)=true:=by simp[IS,Value.isStrOf]
theorem nv(a b:Int):decide ((Sum.inl a:Key)=Sum.inl b)=(a == b):=by
 by_cases e:a=b
 .subst e;simp
 .have h:¬ (Sum.inl a:Key)=Sum.inl b:=λq=>e (Sum.inl.inj q);rw[qX h];exact(beq_eq_false_iff_ne.mpr e).symm
theorem ZBu(a b:Str):decide ((Sum.inr a:Key)=Sum.inr b)=decide (a=b):=by
 by_cases e:a=b
 .subst e;simp
 .have h:¬ (Sum.inr a:Key)=Sum.inr b:=λq=>e (Sum.inr.inj q);rw[qX h,qX e]
theorem p9(a:Int)(b:Str):decide ((Sum.inl a:Key)=Sum.inr b)=false:=qX (λq=>nomatch q)
theorem qz(a:Str)(b:Int):decide ((Sum.inr a:Key)=Sum.inl b)=false:=qX (λq=>nomatch q)
def Bq(prog:Program)(w:World):PySem.KeyKind prog w Key where
 is:=IS
 hash:=ZCO w
 inj:=λv a b g d=>by
  rcases GS g with⟨i,t,rfl,rfl⟩|⟨x,t,rfl,rfl⟩
  .rcases GS d with⟨j,u,rfl,e⟩|⟨y,u,rfl,e⟩
   .injection e with e1 _;rw[e1]
   .exact nomatch e
  .rcases GS d with⟨j,u,rfl,e⟩|⟨y,u,rfl,e⟩
   .exact nomatch e
   .injection e with e1 _;rw[e1]
 byValue:=λk v h=>by
  rcases GS h with⟨i,t,rfl,rfl⟩|⟨x,t,rfl,rfl⟩ <;> rfl
 pyHash:=λc h=>by
  rcases GS c with⟨i,t,rfl,rfl⟩|⟨x,t,rfl,rfl⟩
  .exact wpAny_pyHash_int h
  .exact wpAny_pyHash_str h
 eqBool:=λf c h=>by
  rcases GS f with⟨i,t,rfl,rfl⟩|⟨x,t,rfl,rfl⟩
  .rcases GS c with⟨j,u,rfl,rfl⟩|⟨y,u,rfl,rfl⟩
   .rw[nv]at h;exact wpAny_eqBool_int h
   .rw[p9]at h;exact SeqAt.EqAt.int_str i t y u _ _ _ _ h
  .rcases GS c with⟨j,u,rfl,rfl⟩|⟨y,u,rfl,rfl⟩
   .rw[qz]at h;exact SeqAt.EqAt.str_int x t j u _ _ _ _ h
   .rw[ZBu]at h;exact wpAny_eqBool_str h
 «strs»:=λk x t v h=>by
  rcases GS h with⟨i,u,rfl,e⟩|⟨y,u,rfl,e⟩
  .exact nomatch e
  .injection e with e1 _
   subst e1;cases v <;> rfl
theorem ma(prog:Program)(w:World)(i:Int)(t:Tok):(Bq prog w).is (.inl i) (.int i t)=true:=wN i t
theorem ZCI(prog:Program)(w:World)(x:Str)(t:Tok):(Bq prog w).is (.inr x) (.str x t)=true:=ZBJ x t
inductive V where
 |AE|bl (b:Bool)|int (i:Int)|str (x:Str)|Gk (b:Array UInt8)|K0 (b:UInt64)|ref (a:Addr)|ty (n:String)
 deriving DecidableEq
variable{v y:V}{Dc vs:List V}
def RelV:V->Value->Prop
 | .AE,u=>u=Value.none
 | .bl b,u=>u=Value.bool b
 | .int i,u=>∃t,u=Value.int i t
 | .str x,u=>∃t,u=Value.str x t
 | .Gk b,u=>∃t,u=Value.bytes b t
 | .K0 b,u=>∃t,u=Value.float b t
 | .ref a,u=>u=Value.ref a
 | .ty n,u=>u=Value.type n
abbrev Vals:List V->List Value->Prop:=Paired RelV
theorem Vals.length{xs:List V}{us:List Value}(r:Vals xs us):xs.length=us.length:=kA r
theorem Vals.get:∀{xs:List V}{us:List Value}{i:Nat}{x:V},Vals xs us->xs[i]?=some x->∃u,us[i]?=some u/\RelV x u
 |_,_,_,_,.nil,e=>by simp at e
 |_,_,0,_,.cons r _,e=>by simp at e;subst e;exact⟨_,rfl,r⟩
 |_,_,i+1,x,.cons _ t,e=>by
  obtain⟨u,h1,h2⟩:=Vals.get (i:=i) (x:=x) t (by simpa using e)
  exact⟨u,by simpa using h1,h2⟩
theorem Vals.set{x:V}{u:Value}(r:RelV x u):∀{xs:List V}{us:List Value}(i:Nat),Vals xs us->Vals (xs.set i x) (us.set i u)
 |_,_,_,.nil=>.nil
 |_,_,0,.cons _ t=>.cons r t
 |_,_,i+1,.cons q t=>.cons q (Vals.set r i t)
theorem Vals.append:∀{xs ys:List V}{us ws:List Value},Vals xs us->Vals ys ws->Vals (xs++ys) (us++ws)
 |_,_,_,_,.nil,s=>s
 |_,_,_,_,.cons r t,s=>.cons r (Vals.append t s)
theorem Vals.take:∀{xs:List V}{us:List Value}(n:Nat),Vals xs us->Vals (xs.take n) (us.take n)
 |_,_,0,_=>.nil
 |_,_,_+1,.nil=>.nil
 |_,_,n+1,.cons r t=>.cons r (Vals.take n t)
theorem Vals.drop:∀{xs:List V}{us:List Value}(n:Nat),Vals xs us->Vals (xs.drop n) (us.drop n)
 |_,_,0,r=>r
 |_,_,_+1,.nil=>.nil
 |_,_,n+1,.cons _ t=>Vals.drop n t
def EB:Option V->Option Value->Prop
 |some v,some u=>RelV v u
 |none,none=>True
 |_,_=>False
def KV:List (κ×V)->List (κ×Value)->Prop:=Paired λ(p:κ×V)(q:κ×Value)=>p.1=q.1/\RelV p.2 q.2
noncomputable def kV:Key->V
 | .inl i=>.int i
 | .inr x=>.str x
inductive HO where
 /-- a list -/
 |lst (xs:List V)
 /-- a tuple (never changes) -/
 |tup (xs:List V)
 /-- a dict ZBb keys are ints and texts;one ZBb keys are tuples of ints and texts (HD empty one is both) -/
 |dK (A3:List (Key×V))|dT (A3:List (List Key×V))
 /-- a set of ints: A5 members,A5 size -/
 |set (S:Int->Bool) (n:Nat)
 /-- an instance of HD class at C,A5 dict at dx,A5 attributes -/
 |ins (C dx:Addr) (fs:List (Str×V))
 /-- HD dict of HD instance at x -/
 |own (x:Addr)
 /-- HD dict of an exception -/
 |xd (fs:List (Str×V))
 /-- a bound method,f of x -/
 |met (f x:Addr)
 /-- a range object lo,lo+1,.. below hi -/
 |V6 (lo hi:Int)
 /-- a ZBV ZEC is known to HD object (HD fW;a dict while a loop walks it): read,never written while it is so -/
 |CM (o:Obj) (u:HO)
 /-- a code ZEP table -/
 |Ik (ps:Array Value)
 /-- any other ZBV,by m8 is true of A5 one object (a def of ZEM own: uG a S n:=HO.ext λh=>..) -/
 |ext (φ:Heap->Prop)
variable{o o':HO}
abbrev Hp:=Addr->Option HO
variable{H H':Hp}
noncomputable def upd(H:Hp)(a:Addr)(o:HO):Hp:=λb=>if b=a then some o else H b
theorem AH:upd H a o a=some o:=by unfold upd;rw[md rfl]
theorem Af(h:b≠a):upd H a o b=H b:=by unfold upd;rw[mY h]
theorem oE{u:HO}(h:H a=some o)(h':H b=some u)(d:o≠u):a≠b:=by
 intro e;subst e;rw[h]at h';exact d (BL h')
theorem E8(h:H a=some o)(h':H b=none):a≠b:=by
 intro e;subst e;rw[h]at h';cases h'
section
variable(P:Program)(w:World)
def C1(H:Hp)(h:Heap)(a:Addr):HO->Prop
 | .lst xs=>xs.length<=sizeLine/\∃(A5:List Value)(n:Nat),Vals xs A5/\h.get? a=some { cls:=.type "list", data:=.seq A5.toArray n }
 | .tup xs=>xs.length<=sizeLine/\∃A5:List Value,Vals xs A5/\(IsTup h a A5.toArray/\∀ob,h.get? a=some ob->ob.dict=none)
 | .dK A3=>A3.length<=sizeLine/\(a == sysModules)=false/\∃vs,KV A3 vs/\h.DictOf (Bq P w) a vs
 | .dT A3=>A3.length<=sizeLine/\(a == sysModules)=false/\∃xs:List (List Key×Addr×Value),
   Paired (λ(p:List Key×V)(q:List Key×Addr×Value)=>p.1=q.1/\H q.2.1=some (.tup (p.1.map kV))/\RelV p.2 q.2.2) A3 xs/\
   ∃o es b,h.get? a=some o/\o.ExactDict/\o.data=.dict es b/\es.toList=xs.map (entryOfKey (tupleKind (Bq P w)))/\(xs.map (·.1)).Nodup
 | .set S n=>h.SetOf (intKind P w) a S n
 | .ins C dx fs=>H dx=some (.own a)/\fs.length<=1000/\dx≠a/\h.get? a=some (PySem.W.instObj C dx)/\
   ∃mA,h.Ns1 dx mA/\(∀f,EB (fs.lookup f) (mA f))/\PySem.Within mA (fs.map (·.1))
 | .own _=>∃o,h.get? a=some o
 | .xd fs=>∃mA,h.Ns1 a mA/\∀f,EB (fs.lookup f) (mA f)
 | .V6 lo hi=>∃t u v,h.get? a=some { cls:=.type "range", data:=.fields #[.int lo t,.int hi u,.int 1 v] }
 | .CM o u=>h.get? a=some o/\C1 H h a u
 | .Ik ps=>h.get? a=some { cls:=.none,data:=.fields ps }
 | .met f x=>h.get? a=some (PySem.W.methodObj (.ref f) (.ref x))
 | .ext φ=>φ h/\(∃o,h.get? a=some o)/\∀h1 h2:Heap,φ h1->(∀o,h1.get? a=some o->h2.get? a=some o)->φ h2
def Bk(H:Hp)(h:Heap):Prop:=∀a o,H a=some o->C1 P w H h a o
end
section
variable{P:Program}{h:Heap}
theorem C1.lt(x:C1 P w H h a o):a<h.objs.size:=by
 cases o with
 |lst xs=>obtain⟨_,_,_,_,e⟩:=x;exact BE e
 |tup xs=>obtain⟨_,_,_,p⟩:=x;exact p.1.lt
 |dK A3=>obtain⟨_,_,_,_,o,_,_,e,_⟩:=x;exact BE e
 |dT A3=>obtain⟨_,_,_,_,o,_,_,e,_⟩:=x;exact BE e
 |set S n=>obtain⟨o,_,_,_,e,_⟩:=x;exact BE e
 |ins C dx fs=>obtain⟨_,_,_,e,_⟩:=x;exact BE e
 |own y=>obtain⟨_,e⟩:=x;exact BE e
 |xd fs=>obtain⟨_,⟨_,_,_,e,_⟩,_⟩:=x;exact BE e
 |V6 lo hi=>obtain⟨_,_,_,e⟩:=x;exact BE e
 |CM ob u=>obtain⟨e,_⟩:=x;exact BE e
 |Ik ps=>exact BE (show h.get? a=some _ from x)
 |met f y=>exact BE (show h.get? a=some _ from x)
 |ext φ=>obtain⟨_,⟨_,e⟩,_⟩:=x;exact BE e
theorem Paired.V3{α β:Type}{F G:α->β->Prop}:∀{l₁:List α}{l₂:List β},Paired F l₁ l₂->(∀a b,F a b->G a b)->Paired G l₁ l₂
 |_,_,.nil,_=>.nil
 |_,_,.cons r t,f=>.cons (f _ _ r) (Paired.V3 t f)
theorem C1.Hg(x:C1 P w H h a o)(k:∀b u,(b=a∨H b=some (.own a))->h.get? b=some u->h'.get? b=some u)
  (ho:∀b,H b=some (.own a)->H' b=some (.own a)) (m:∀b xs,H b=some (.tup xs)->H' b=some (.tup xs)):C1 P w H' h' a o:=by
 induction o with
 |lst xs=>obtain⟨z,A5,n,r,e⟩:=x;exact⟨z,A5,n,r,k _ _ (.inl rfl) e⟩
 |tup xs=>obtain⟨z,A5,r,⟨ob,e,c⟩,A⟩:=x;exact⟨z,A5,r,⟨ob,k _ _ (.inl rfl) e,c⟩,λS6 j=>by rw[k _ _ (.inl rfl) e]at j;cases j;exact A _ e⟩
 |dK A3=>obtain⟨z,y,vs,r,ob,es,g,e,c⟩:=x;exact⟨z,y,vs,r,ob,es,g,k _ _ (.inl rfl) e,c⟩
 |dT A3=>
  obtain⟨z,y,xs,r,ob,es,g,e,c⟩:=x;exact⟨z,y,xs,Paired.V3 r λp q z=>⟨z.1,m _ _ z.2.1,z.2.2⟩,ob,es,g,k _ _ (.inl rfl) e,c⟩
 |set S n=>obtain⟨ob,es,g,t,e,c⟩:=x;exact⟨ob,es,g,t,k _ _ (.inl rfl) e,c⟩
 |ins C dx fs=>
  obtain⟨d,z,ne,e,mA,⟨i,es,g,s,c⟩,r⟩:=x;exact⟨ho _ d,z,ne,k _ _ (.inl rfl) e,mA,⟨i,es,g,k _ _ (.inr d) s,c⟩,r⟩
 |own y=>obtain⟨ob,e⟩:=x;exact⟨ob,k _ _ (.inl rfl) e⟩
 |xd fs=>obtain⟨mA,⟨i,es,g,e,c⟩,r⟩:=x;exact⟨mA,⟨i,es,g,k _ _ (.inl rfl) e,c⟩,r⟩
 |V6 lo hi=>obtain⟨t,u,v,e⟩:=x;exact⟨t,u,v,k _ _ (.inl rfl) e⟩
 |CM ob u l=>obtain⟨e,q⟩:=x;exact⟨k _ _ (.inl rfl) e,l q⟩
 |Ik ps=>
  have e:h.get? a=some { cls:=.none,data:=.fields ps }:=x;show h'.get? a=some { cls:=.none,data:=.fields ps };exact k a _ (.inl rfl) e
 |met f y=>
  have e:h.get? a=some (PySem.W.methodObj (.ref f) (.ref y)):=x;show h'.get? a=some (PySem.W.methodObj (.ref f) (.ref y));exact k a _ (.inl rfl) e
 |ext φ=>obtain⟨p,⟨o,e⟩,st⟩:=x;exact⟨st _ _ p λo q=>k _ _ (.inl rfl) q,⟨o,k _ _ (.inl rfl) e⟩,st⟩
theorem Bk.lt(x:Bk P w H h)(e:H a=some o):a<h.objs.size:=(x a o e).lt
theorem Bk.fresh(x:Bk P w H h)(e:h.objs.size<=a):H a=none:=by
 cases q:H a with
 |none=>rfl
 |some u=>exact absurd (DT (x.lt q) e) (LQ _)
theorem Bk.kept(x:Bk P w H h)(k:∀b u,h.get? b=some u->h'.get? b=some u):Bk P w H h':=λa o e=>
 (x a o e).Hg (λb u _ q=>k b u q) (λ_ q=>q) λ_ _ q=>q
theorem Bk.laid(x:Bk P w H h)(k:∀b u,h.get? b=some u->h'.get? b=some u)(g:h.objs.size<=a)(d:C1 P w (upd H a o) h' a o):Bk P w (upd H a o) h':=λb u e=>by
 have hn:=x.fresh g
 by_cases f:b=a
 .subst f;rw[AH]at e;cases e;exact d
 .rw[Af f]at e;exact(x b u e).Hg (λc v _ q=>k c v q) (λc q=>by rw[Af (E8 q hn)];exact q) λc xs q=>by rw[Af (E8 q hn)];exact q
end
def Rd(H:Hp)(a:Addr)(u:HO):Prop:=H a=some u∨∃o,H a=some (.CM o u)
theorem Rd.ok{P:Program}{h:Heap}{u:HO}(r:Rd H a u)(x:Bk P w H h):C1 P w H h a u:=by
 rcases r with r|⟨o,r⟩
 .exact x a u r
 .obtain⟨_,q⟩:=x a _ r;exact q
def P0:Option HO->Prop
 |some (.lst _)=>True
 |some (.dK _)=>True
 |some (.dT _)=>True
 |some (.set _ _)=>True
 |some (.ins _ _ _)=>True
 |some (.ext _)=>True
 |_=>False
section
variable{P:Program}{h:Heap}{x e:Addr}
theorem Bk.write(ok:Bk P w H h)(a:P0 (H x))(l:e=x∨H e=some (.own x))(k:∀b u,b≠e->h.get? b=some u->h'.get? b=some u)(JP:∃u,h'.get? e=some u)
  (i:C1 P w (upd H x o') h' x o'):Bk P w (upd H x o') h':=λb u q=>by
 have m:∀c y,H c=some (.own y)->c≠x:=λc y r z=>by subst z;rw[r]at a;exact a
 have n:∀c xs,H c=some (.tup xs)->c≠x:=λc xs r z=>by subst z;rw[r]at a;exact a
 by_cases f:b=x
 .subst f;rw[AH]at q;cases q;exact i
 .rw[Af f]at q
  by_cases g:b=e
  .have j:H b=some (.own x):=by
    rcases l with z|z
    .exact absurd (g.trans z) f
    .rw[g];exact z
   rw[q]at j;cases j;obtain⟨v,o⟩:=JP;exact⟨v,by rw[g];exact o⟩
  .refine(ok b u q).Hg (λc v d r=>k c v ?_ r) (λc r=>by rw[Af (m c b r)];exact r) λc xs r=>by rw[Af (n c xs r)];exact r
   rcases d with rfl|d
   .exact g
   .rintro rfl;rcases l with z|z
    .exact m c b d z
    .rw[d]at z;cases z;exact f rfl
end
structure Un (fs ex:List Addr) (H H':Hp) (h h':Heap):Prop where
 keep:∀b o,h.get? b=some o->H b=none->b∉fs->b∉ex->h'.get? b=some o
 slot:∀b o,h.get? b=some o->H b=none->b∈fs->b∉ex->∃sl,h'.get? b=some { o with slots:=sl }
 free:∀b o,h.get? b=some o->H b=none->b∉ex->H' b=none
 there:∀b o,h.get? b=some o->b∉ex->∃o',h'.get? b=some o'
 HI:∀b xs,H b=some (.tup xs)->H' b=some (.tup xs)
 Ge:∀b o u,H b=some (.CM o u)->H' b=some (.CM o u)
 HG:∀b ps,H b=some (.Ik ps)->∃more,H' b=some (.Ik (ps++more))
section
variable{fs Mm ex ex':List Addr}{H1 H2:Hp}{h h1 h2:Heap}{x e:Addr}
theorem Un.any(u:Un fs ex H H1 h h1){ob:Obj}(q:h.get? b=some ob)(n:H b=none)(hx:b∉ex):∃sl,h1.get? b=some { ob with slots:=sl }:=by
 by_cases a:b∈fs
 .exact u.slot b ob q n a hx
 .exact⟨ob.slots,u.keep b ob q n a hx⟩
theorem Un.kept(k:∀b u,h.get? b=some u->h'.get? b=some u):Un fs ex H H h h':=
 ⟨λb ob q _ _ _=>k b ob q,λb ob q _ _ _=>⟨ob.slots,k b ob q⟩,λ_ _ _ n _=>n,λb ob q _=>⟨ob,k b ob q⟩,λ_ _ q=>q,λ_ _ _ q=>q,λ_ ps q=>⟨#[],by rw[q];simp⟩⟩
theorem Un.refl:Un fs ex H H h h:=Un.kept λ_ _ q=>q
theorem Un.laid(k:∀b u,h.get? b=some u->h'.get? b=some u)(c:h.objs.size<=a)(hn:H a=none):Un fs ex H (upd H a o) h h' where
 keep:=λb u q _ _ _=>k b u q
 slot:=λb u q _ _ _=>⟨u.slots,k b u q⟩
 free:=λb u q n _=>by rw[Af (C0 (DT (BE q) c))];exact n
 there:=λb u q _=>⟨u,k b u q⟩
 HI:=λb xs q=>by rw[Af (E8 q hn)];exact q
 Ge:=λb u xs q=>by rw[Af (E8 q hn)];exact q
 HG:=λb ps q=>⟨#[],by rw[Af (E8 q hn),q];simp⟩
theorem Un.write(a:P0 (H x))(g:e=x∨H e=some (.own x))(k:∀b u,b≠e->h.get? b=some u->h'.get? b=some u)(JP:∃u,h'.get? e=some u):Un fs ex H (upd H x o) h h':=by
 have hx:∀b,H b=none->b≠x:=λb n z=>by subst z;rw[n]at a;exact a
 have d:∀b,H b=none->b≠e:=λb n z=>by
  subst z;rcases g with r|r
  .exact hx b n r
  .rw[n]at r;cases r
 have c:∀b u,H b=some u->¬ P0 (some u)->b≠x:=λb u q nm z=>by subst z;rw[q]at a;exact nm a
 refine⟨λb u q n _ _=>k b u (d b n) q,λb u q n _ _=>⟨u.slots,k b u (d b n) q⟩,λb u q n _=>by rw[Af (hx b n)];exact n,λb u q _=>?_,
  λb xs q=>by rw[Af (c b _ q λz=>z)];exact q,λb u xs q=>by rw[Af (c b _ q λz=>z)];exact q,λb ps q=>⟨#[],by rw[Af (c b _ q λz=>z),q];simp⟩⟩
 by_cases f:b=e
 .subst f;exact JP
 .exact⟨u,k b u f q⟩
end
def QR(h:Heap)(H:Hp):List Addr:=(List.range h.objs.size).filter λa=>(H a).isSome
def Iw(h:Heap)(H:Hp):Heap:=PySem.W.hideAll h (QR h H)
theorem rh(h:Heap)(H:Hp):(Iw h H).objs.size=h.objs.size:=PySem.W.hideAll_size _ _
theorem mM{h:Heap}{o:Obj}(e:h.get? b=some o)(n:H b=none):(Iw h H).get? b=some o:=
 PySem.W.hideAll_get _ e λa=>by
  have q:(H b).isSome=true:=(List.mem_filter.mp a).2;rw[n]at q;simp at q
theorem vX{h:Heap}{o:Obj}(e:(Iw h H).get? b=some o):h.get? b=some o/\H b=none:=by
 have a:h.get? b=some o:=PySem.W.of_hideAll (QR h H) e;refine⟨a,?_⟩;cases q:H b with
 |none=>rfl
 |some x=>
  have c:b∈QR h H:=List.mem_filter.mpr ⟨List.mem_range.mpr (BE a),by simp[q]⟩;have z:(Iw h H).get? b=none:=PySem.W.hideAll_none (QR h H) c;rw[z]at e;cases e
structure Mod (K:ZEe) (mg:ZEg) (Zu:Heap):Prop where
 Of:K.In Zu
 glob:Zu.Ns mainGlobals mg
 blt:∃mb,Zu.Ns builtinsNs mb/\∀x:Str,x ≠"__name__" -> mb x=bootBuiltins x
 nolimit:Zu.NoLimit
structure Cx where
 prog:Program
 w:World
 K:ZEe
 mg:ZEg
 base:Heap
 A:Around
 N:List Str
 s₀:Shared
 H₀:Hp
 env:Env
 outer:List Env
 stack:List Env
 ex:List Addr
 fn:Str->Bool
 calm:Bool
 pn:ZEf
 xe:Value->Shared->Prop
variable{X:Cx}
noncomputable def D3(l:List Env):List Addr:=l.filterMap (·.frame)
abbrev Cx.fs(X:Cx):List Addr:=D3 X.outer
def Uz(sc:Scope)(x:Str):Prop:=sc.names.lookup x=some .local∨sc.names.lookup x=some .cell∨sc.names.lookup x=some .free
def Loc(sc:Scope)(x:Str):Prop:=sc.names.lookup x=some .local∨sc.names.lookup x=some .cell
def Look(env:Env)(h:Heap)(m:ZEg)(x:Str)(u:Value):Prop:=
 (env.kindOf x=some .local/\m x=some u)∨((env.kindOf x=some .cell∨env.kindOf x=some .free)/\∃c,env.cells.lookup x=some c/\h.IsCell c (some u))
structure Cx.Ok (X:Cx):Prop where
 mod:Mod X.K X.mg X.base
 kind:X.env.scope.kind=.function
 glob:X.env.globals=mainGlobals
 blt:X.env.builtins=builtinsNs
 above:X.s₀.heap.objs.size<=X.env.locals
 inj:∀x y c,X.env.cells.lookup x=some c->X.env.cells.lookup y=some c->x=y
 has:∀x,(X.env.kindOf x=some .cell∨X.env.kindOf x=some .free)->∃c,X.env.cells.lookup x=some c
 Je:∀x c,X.fn x=true->X.env.cells.lookup x=some c->X.s₀.heap.objs.size<=c
 hd:X.calm=true->X.A.handled=none
 frames:X.A.frames=some X.stack
 Iv:X.stack=X.outer∨(X.stack=X.env::X.outer/\X.env.frame=some X.env.locals)
 Kx:∀b∈X.ex,b≠X.env.locals/\∀x c,X.env.cells.lookup x=some c->c≠b
 bs:∀b o,X.base.get? b=some o->X.s₀.heap.get? b=some o/\X.H₀ b=none
 Ga:X.base.objs.size<=X.s₀.heap.objs.size
 JV:∀b o,X.base.get? b=some o->b∉X.ex
 JD:∀b∈X.ex,b∉X.fs
 Ek:X.s₀.heap.FunFrames X.base X.outer
 Hr:∀b∈X.fs,X.H₀ b=none
structure Inv (X:Cx) (Zb:ZEf) (Z:List (Option V)) (H:Hp) (s:Shared):Prop where
 ok:X.Ok
 os:s.os=X.s₀.os
 bare:AllBare s.gens
 base:Un X.fs X.ex X.H₀ H X.s₀.heap s.heap
 loc:∃m,s.heap.Ns X.env.locals m/\∀(i:Nat)(x:Str)(v:V),X.N[i]?=some x->Z[i]?=some (some v)->Uz X.env.scope x->∃u,RelV v u/\Look X.env s.heap m x u
 cell:∀x c,X.env.cells.lookup x=some c->∃v,s.heap.IsCell c v
 free:H X.env.locals=none
 EU:∀x c,X.env.cells.lookup x=some c->H c=none
 pin:∀p∈X.pn++Zb,s.heap.get? p.1=some p.2/\H p.1=none/\p.1≠X.env.locals/\p.1∉X.fs/\∀v,p.2.data≠.cell v
 AN:Bk X.prog X.w H s.heap
 len:Z.length=X.N.length
section
variable{Z:List (Option V)}
theorem Cx.Ok.om(ok:X.Ok){o:Obj}(e:X.base.get? b=some o):b∉X.fs:=λa=>by
 have:=(ok.Ek.mem a).1;rw[e]at this;cases this
theorem Inv.bs(I:Inv X Zb Z H s):∀b o,X.base.get? b=some o->s.heap.get? b=some o/\H b=none:=λb o e=>
 ⟨I.base.keep b o (I.ok.bs b o e).1 (I.ok.bs b o e).2 (I.ok.om e) (I.ok.JV b o e),I.base.free b o (I.ok.bs b o e).1 (I.ok.bs b o e).2 (I.ok.JV b o e)⟩
theorem Inv.bk(I:Inv X Zb Z H s):∀b o,X.base.get? b=some o->s.heap.get? b=some o:=λb o e=>(I.bs b o e).1
theorem Inv.mod(I:Inv X Zb Z H s):Mod X.K X.mg X.base:=I.ok.mod
theorem Inv.CV(I:Inv X Zb Z H s):X.K.In s.heap:=I.ok.mod.Of.keeps I.bk
theorem Inv.lt(I:Inv X Zb Z H s):X.env.locals<s.heap.objs.size:=let ⟨_,hn,_⟩:=I.loc;hn.lt
theorem Inv.sz(I:Inv X Zb Z H s):X.s₀.heap.objs.size<=s.heap.objs.size:=Cs I.ok.above (T4 I.lt)
theorem Inv.yR(I:Inv X Zb Z H s)(h:s.heap.objs.size<=a):a∉X.fs:=λb=>by
 obtain⟨_,o,ho,_⟩:=I.ok.Ek.mem b;exact absurd (DT (BE ho) (Cs I.sz h)) (LQ _)
theorem Inv.Kk(I:Inv X Zb Z H s):∀x c,X.env.cells.lookup x=some c->c≠X.env.locals:=λx c e z=>by
 obtain⟨v,o,ho,hd⟩:=I.cell x c e;obtain⟨m,⟨o',es,a,Ds,FR,_⟩,_⟩:=I.loc;rw[z,Ds]at ho;cases ho;rw[FR]at hd;cases hd
theorem Inv.Ek(I:Inv X Zb Z H s):s.heap.FunFrames X.base X.outer:=by
 have all:∀(l:List Env),(∀b∈D3 l,b∈X.fs)->X.s₀.heap.FunFrames X.base l->s.heap.FunFrames X.base l:=by
  intro l
  induction l with
  |nil=>intro _ _;trivial
  |cons env r f=>
   intro hs g;obtain⟨h,⟨L,o,a,hn,ho,hd⟩,hr⟩:=g;have d:L∈X.fs:=hs L (by unfold D3;rw[Z1,a];exact Cz);obtain⟨sl,e⟩:=I.base.slot L o ho (I.ok.Hr L d) d λz=>I.ok.JD L z d;exact⟨h,⟨L,_,a,hn,e,hd⟩,f (λb c=>hs b (by unfold D3;rw[Z1,a];exact DK _ c)) hr⟩
 exact all X.outer (λ_ c=>c) I.ok.Ek
theorem Inv.stack(I:Inv X Zb Z H s):s.heap.FunFrames X.base X.stack:=by
 rcases I.ok.Iv with e|⟨e,hf⟩
 .rw[e];exact I.Ek
 .rw[e];obtain⟨m,hn,_⟩:=I.loc;refine .cons (by rw[I.ok.kind];decide) hf hn ?_ I.Ek;exact Heap.get?_none_of_le (Cs I.ok.Ga I.ok.above)
theorem Inv.Qb(I:Inv X Zb Z H s):∀b∈D3 X.stack,b∈X.env.locals::X.fs:=λb a=>by
 rcases I.ok.Iv with e|⟨e,hf⟩
 .rw[e]at a;exact DK _ a
 .rw[e]at a;unfold D3 at a;rw[Z1,hf]at a;exact a
theorem Inv.TJ(I:Inv X Zb Z H s):∀b∈D3 X.stack,H b=none:=λb a=>by
 rcases List.mem_cons.mp (I.Qb b a)with e|a
 .rw[e];exact I.free
 .obtain⟨_,o,ho,_⟩:=I.ok.Ek.mem a;exact I.base.free b o ho (I.ok.Hr b a) λz=>I.ok.JD b z a
theorem Inv.step(I:Inv X Zb Z H s)
  (Hs:∀b∈ch,(b∈X.ex∨X.s₀.heap.objs.size<=b)/\b≠X.env.locals/\(∀x c,X.env.cells.lookup x=some c->c≠b)/\∀p∈X.pn++Zb,p.1≠b)
  (keep:∀b o,b≠X.env.locals->b∉X.fs->b∉ch->s.heap.get? b=some o->H b=none->h'.get? b=some o)
  (slot:∀b o,b≠X.env.locals->b∈X.fs->b∉ch->s.heap.get? b=some o->H b=none->∃sl,h'.get? b=some { o with slots:=sl }) (free:∀b o,b∉ch->s.heap.get? b=some o->H b=none->H' b=none)
  (there:∀b o,b∉ch->s.heap.get? b=some o->∃o',h'.get? b=some o')
  (HI:∀b xs,H b=some (.tup xs)->H' b=some (.tup xs)) (Ge:∀b o u,H b=some (.CM o u)->H' b=some (.CM o u)) (HG:∀b ps,H b=some (.Ik ps)->∃more,H' b=some (.Ik (ps++more)))
  (ns:∀m,s.heap.Ns X.env.locals m->h'.Ns X.env.locals m) (AN:Bk X.prog X.w H' h') (hg:AllBare g') :
  Inv X Zb Z H' { s with heap:=h',gens:=g',drawn:=d',toks:=t' }:=by
 have D:∀b o,X.s₀.heap.get? b=some o->b≠X.env.locals:=λb o e=>C0 (DT (BE e) I.ok.above);have t:∀b o,X.s₀.heap.get? b=some o->b∉X.ex->b∉ch:=λb o e hx g=>by
  rcases(Hs b g).1 with z|z
  .exact hx z
  .exact absurd (DT (BE e) z) (LQ _)
 have a:∀x c,X.env.cells.lookup x=some c->∀v,s.heap.IsCell c v->h'.IsCell c v:=λx c e v AG=>by
  obtain⟨o,ho,hd⟩:=AG;have j:c∉ch:=λz=>(Hs c z).2.2.1 x c e rfl
  by_cases C:c∈X.fs
  .obtain⟨sl,q⟩:=slot c o (I.Kk x c e) C j ho (I.EU x c e);exact⟨_,q,hd⟩
  .exact⟨o,keep c o (I.Kk x c e) C j ho (I.EU x c e),hd⟩
 refine⟨I.ok,I.os,hg,⟨λb o e n g hx=>?_,λb o e n g hx=>?_,λb o e n hx=>?_,λb o e hx=>?_,λb xs e=>HI b xs (I.base.HI b xs e),λb o xs e=>Ge b o xs (I.base.Ge b o xs e),λb ps e=>?_⟩,?_,λx c e=>?_,?_,λx c e=>?_,λp B=>?_,AN,I.len⟩
 .exact keep b o (D b o e) g (t b o e hx) (I.base.keep b o e n g hx) (I.base.free b o e n hx)
 .obtain⟨sl,f⟩:=I.base.slot b o e n g hx;obtain⟨y,h⟩:=slot b _ (D b o e) g (t b o e hx) f (I.base.free b o e n hx);exact⟨y,h⟩
 .obtain⟨o',f⟩:=I.base.there b o e hx;exact free b o' (t b o e hx) f (I.base.free b o e n hx)
 .obtain⟨o',f⟩:=I.base.there b o e hx;exact there b o' (t b o e hx) f
 .obtain⟨F,f⟩:=I.base.HG b ps e;obtain⟨E,h⟩:=HG b _ f;exact⟨F++E,by rw[h,Array.append_assoc]⟩
 .obtain⟨m,hn,G⟩:=I.loc;refine⟨m,ns m hn,λi x v f h J=>?_⟩;obtain⟨u,r,l⟩:=G i x v f h J;refine⟨u,r,?_⟩;rcases l with l|⟨k,c,e,z⟩
  .exact .inl l
  .exact .inr ⟨k,c,e,a x c e _ z⟩
 .obtain⟨v,z⟩:=I.cell x c e;exact⟨v,a x c e v z⟩
 .obtain⟨m,⟨o,_,_,ho,_⟩,_⟩:=I.loc;exact free _ o (λz=>(Hs _ z).2.1 rfl) ho I.free
 .obtain⟨v,o,ho,hd⟩:=I.cell x c e;exact free c o (λz=>(Hs c z).2.2.1 x c e rfl) ho (I.EU x c e)
 .obtain⟨e,n,ne,A,d⟩:=I.pin p B;have j:p.1∉ch:=λz=>(Hs p.1 z).2.2.2 p B rfl;exact⟨keep p.1 p.2 ne A j e n,free p.1 p.2 j e n,ne,A,d⟩
theorem Inv.un(I:Inv X Zb Z H s)(u:Un X.fs [] H H' s.heap h')(AN:Bk X.prog X.w H' h'):Inv X Zb Z H' { s with heap:=h',toks:=t' }:=by
 obtain⟨m,⟨o,es,h,ho,r⟩,_⟩:=id I.loc;obtain⟨sl,f⟩:=u.any ho I.free (by simp);exact I.step (g':=s.gens) (d':=s.drawn) (ch:=[]) (λ_ z=>nomatch z) (λb o _ a _ e n=>u.keep b o e n a (by simp)) (λb o _ a _ e n=>u.slot b o e n a (by simp)) (λb o _ e n=>u.free b o e n (by simp)) (λb o _ e=>u.there b o e (by simp)) u.HI u.Ge u.HG (λg d=>by
  obtain⟨o',JK,M9,Ds,c⟩:=d;rw[ho]at Ds;cases Ds;exact⟨_,JK,M9,f,c⟩) AN I.bare
theorem Inv.call(I:Inv X Zb Z H s)(u:Un (D3 X.stack) ch H H' s.heap h')(AN:Bk X.prog X.w H' h')(h:AllBare g')
  (Hs:∀b∈ch,(b∈X.ex∨X.s₀.heap.objs.size<=b)/\b≠X.env.locals/\(∀x c,X.env.cells.lookup x=some c->c≠b)/\∀p∈X.pn++Zb,p.1≠b) :
  Inv X Zb Z H' { s with heap:=h',gens:=g',drawn:=d',toks:=t' }:=by
 obtain⟨m,⟨o,es,k,ho,r⟩,_⟩:=id I.loc;obtain⟨sl,d⟩:=u.any ho I.free λz=>(Hs _ z).2.1 rfl;exact I.step (ch:=ch) Hs (λb o d i a e n=>u.keep b o e n (λz=>(List.mem_cons.mp (I.Qb b z)).elim d i) a) (λb o _ _ a e n=>u.any e n a) (λb o a e n=>u.free b o e n a) (λb o a e=>u.there b o e a) u.HI u.Ge u.HG (λj g=>by
  obtain⟨o',JK,M9,Ds,f⟩:=g;rw[ho]at Ds;cases Ds;exact⟨_,JK,M9,d,f⟩) AN h
theorem Inv.turned(I:Inv X Zb Z H s)(k:∀b o,b≠it->s.heap.get? b=some o->h'.get? b=some o)(hn:H it=none)(d:it≠X.env.locals)
  (h1:it∈X.ex∨X.s₀.heap.objs.size<=it) (h2:∀x c,X.env.cells.lookup x=some c->c≠it) (i:∀p∈X.pn++Zb,p.1≠it):Inv X Zb Z H { s with heap:=h',toks:=t' }:=by
 have f:∀b u,H b=some u->b≠it:=λb u e z=>by rw[z,hn]at e;cases e
 refine I.step (g':=s.gens) (d':=s.drawn) (ch:=[it]) (λb h=>?_) (λb o _ _ a e _=>k b o (λz=>a (by simp[z])) e) (λb o _ _ a e _=>⟨o.slots,k b o (λz=>a (by simp[z])) e⟩) (λ_ _ _ _ n=>n)
  (λb o a e=>⟨o,k b o (λz=>a (by simp[z])) e⟩) (λ_ _ e=>e) (λ_ _ _ e=>e) (λb ps e=>⟨#[],by rw[e];simp⟩) (λm g=>?_) (λb u e=>?_) I.bare
 .have e:b=it:=by simpa using h
  subst e;exact⟨h1,d,h2,i⟩
 .obtain⟨o,es,j,ho,r⟩:=g;exact⟨o,es,j,k _ o (BP d) ho,r⟩
 .refine(I.AN b u e).Hg (λc v a q=>k c v ?_ q) (λ_ q=>q) λ_ _ q=>q;rcases a with z|z
  .rw[z];exact f b u e
  .exact f c _ z
theorem Inv.tok(I:Inv X Zb Z H s)(t:Nat):Inv X Zb Z H { s with toks:=t }:=I.un (h':=s.heap) (t':=t) Un.refl I.AN
theorem Inv.kept(I:Inv X Zb Z H s)(k:∀b u,s.heap.get? b=some u->h'.get? b=some u):Inv X Zb Z H { s with heap:=h',toks:=t' }:=I.un (Un.kept k) (I.AN.kept k)
theorem Inv.laid(I:Inv X Zb Z H s)(k:∀b u,s.heap.get? b=some u->h'.get? b=some u)(d:s.heap.objs.size<=a)(c:C1 X.prog X.w (upd H a o) h' a o):
  Inv X Zb Z (upd H a o) { s with heap:=h',toks:=t' }:=I.un (Un.laid k d (I.AN.fresh d)) (I.AN.laid k d c)
theorem Inv.write{x e:Addr}(I:Inv X Zb Z H s)(c:P0 (H x))(d:e=x∨H e=some (.own x))(k:∀b u,b≠e->s.heap.get? b=some u->h'.get? b=some u)(JP:∃u,h'.get? e=some u)
  (a:C1 X.prog X.w (upd H x o) h' x o):Inv X Zb Z (upd H x o) { s with heap:=h',toks:=t' }:=I.un (Un.write c d k JP) (I.AN.write c d k JP a)
theorem Inv.il(I:Inv X Zb Z H s)(h:∀p∈ZS,s.heap.get? p.1=some p.2/\H p.1=none/\p.1≠X.env.locals/\p.1∉X.fs/\∀v,p.2.data≠.cell v):Inv X ZS Z H s:=
 ⟨I.ok,I.os,I.bare,I.base,I.loc,I.cell,I.free,I.EU,λp a=>(List.mem_append.mp a).elim (λz=>I.pin p (Hz _ z)) (h p),I.AN,I.len⟩
theorem gQ(c:N.Nodup)(a:N[i]?=some x)(b:N[j]?=some x):i=j:=by
 obtain⟨h1,e⟩:=List.getElem?_eq_some_iff.mp a;obtain⟨h2,d⟩:=List.getElem?_eq_some_iff.mp b;exact(ZDb c).mp (e.trans d.symm)
theorem dH{Q:Unit->Shared->Prop}(I:Inv X Zb Z H s)(V:X.N.Nodup)(hi:X.N[i]?=some x)(hx:Loc X.env.scope x)(r:RelV v u)
  (h:∀s',Inv X Zb (Z.set i (some v)) H s'->(∃a,Heap.SameBut a s.heap s'.heap/\(a=X.env.locals∨X.env.cells.lookup x=some a))->Q () s') (hf:X.fn x=true∨X.env.scope.names.lookup x=some .local:=by first|exact .inl rfl|exact .inr rfl|assumption):wpAny M A (storeName X.env x u) Q E s:=by
 obtain⟨m,hn,U⟩:=id I.loc;have qo:(X.env.scope.kind == .class || (X.env.scope.kind == .module && X.env.locals != X.env.globals))=false:=by rw[I.ok.kind];rfl
 have hiσ:i<Z.length:=by rw[I.len];exact(List.getElem?_eq_some_iff.mp hi).1
 have Kk:=I.Kk;have f:∀{a:Addr}{h':Heap},(∃o,s.heap.get? a=some o/\H a=none)->Heap.SameBut a s.heap h'->Bk X.prog X.w H h':=λ{a h'}ha hs b ob e=>by
  obtain⟨_,_,T⟩:=ha;refine(I.AN b ob e).Hg (λc D l q=>(hs.2 c ?_).trans q) (λ_ q=>q) λ_ _ q=>q;rintro rfl;rcases l with rfl|l
  .rw[T]at e;cases e
  .rw[T]at l;cases l
 rcases hx with hk|hk
 .refine wpAny_storeName_local hk hn (λh' OR hs=>?_) qo;obtain⟨oL,_,_,Nz,_⟩:=id hn;refine h _ ⟨I.ok,I.os,I.bare,⟨λb o e n C hx=>?_,λb o e n C hx=>?_,I.base.free,λb o e hx=>?_,I.base.HI,I.base.Ge,I.base.HG⟩,⟨_,OR,λj y G g t P=>?_⟩,λy c e=>?_,I.free,I.EU,λp O=>?_,f ⟨oL,Nz,I.free⟩ hs,by simpa using I.len⟩ ⟨_,hs,.inl rfl⟩
  .exact(hs.2 b (C0 (DT (BE e) I.ok.above))).trans (I.base.keep b o e n C hx)
  .obtain⟨sl,g⟩:=I.base.slot b o e n C hx;exact⟨sl,(hs.2 b (C0 (DT (BE e) I.ok.above))).trans g⟩
  .obtain⟨o',g⟩:=I.base.there b o e hx;exact⟨o',(hs.2 b (C0 (DT (BE e) I.ok.above))).trans g⟩
  .by_cases B:j=i
   .subst B;rw[hi]at g;cases g;rw[Cq hiσ]at t;cases t;exact⟨u,r,.inl ⟨hk,by simp⟩⟩
   .rw[Cb (BP B)]at t;obtain⟨J,K,q⟩:=U j y G g t P;refine⟨J,K,?_⟩;rcases q with⟨k,e⟩|⟨k,c,e,z⟩
    .refine .inl ⟨k,?_⟩;have:y≠x:=λe=>B (gQ V g (e▸hi));simp[this,e]
    .exact .inr ⟨k,c,e,z.sameBut hs (Kk y c e)⟩
  .obtain⟨D,z⟩:=I.cell y c e;exact⟨D,z.sameBut hs (Kk y c e)⟩
  .obtain⟨e,n,ne,L,d⟩:=I.pin p O;exact⟨(hs.2 p.1 ne).trans e,n,ne,L,d⟩
 .have R:X.fn x=true:=by
   rcases hf with z|z
   .exact z
   .rw[z]at hk;cases hk
  obtain⟨c,l⟩:=I.ok.has x (.inl hk);obtain⟨D,z⟩:=I.cell x c l;refine wpAny_storeName_cell I.ok.kind hk l z (λh' Fh hs=>?_);obtain⟨S,W,xN⟩:=id z;refine h { s with heap:=h' } ⟨I.ok,I.os,I.bare,⟨λb o e n C hx=>?_,λb o e n C hx=>?_,I.base.free,λb o e hx=>?_,I.base.HI,I.base.Ge,I.base.HG⟩,⟨m,hn.sameBut hs (BP (Kk x c l)),λj y G g t P=>?_⟩,λy F e=>?_,I.free,I.EU,λp O=>?_,f ⟨S,W,I.EU x c l⟩ hs,by simpa using I.len⟩ ⟨c,hs,.inr l⟩
  .exact(hs.2 b (C0 (DT (BE e) (I.ok.Je x c R l)))).trans (I.base.keep b o e n C hx)
  .obtain⟨sl,g⟩:=I.base.slot b o e n C hx;exact⟨sl,(hs.2 b (C0 (DT (BE e) (I.ok.Je x c R l)))).trans g⟩
  .obtain⟨o',g⟩:=I.base.there b o e hx;exact⟨o',(hs.2 b (C0 (DT (BE e) (I.ok.Je x c R l)))).trans g⟩
  .by_cases B:j=i
   .subst B;rw[hi]at g;cases g;rw[Cq hiσ]at t;cases t;exact⟨u,r,.inr ⟨.inl hk,c,l,Fh⟩⟩
   .rw[Cb (BP B)]at t;obtain⟨J,K,q⟩:=U j y G g t P;refine⟨J,K,?_⟩;rcases q with q|⟨k,F,e,z'⟩
    .exact .inl q
    .refine .inr ⟨k,F,e,z'.sameBut hs ?_⟩;rintro rfl;exact B (gQ V g (I.ok.inj _ _ _ e l▸hi))
  .by_cases Y:F=c
   .subst Y;exact⟨_,Fh⟩
   .obtain⟨w2,σ⟩:=I.cell y F e;exact⟨w2,σ.sameBut hs Y⟩
  .obtain⟨e,n,ne,L,d⟩:=I.pin p O;refine⟨(hs.2 p.1 ?_).trans e,n,ne,L,d⟩;intro q;rw[q,W]at e;have q':S=p.2:=BL e;exact d D (by rw[<- q'];exact xN)
theorem fv{Q:Unit->Shared->Prop}(I:Inv X Zb Z H s)(b:X.N.Nodup)(hi:X.N[i]?=some x)(hx:Loc X.env.scope x)(r:RelV v u)
  (h:∀s',Inv X Zb (Z.set i (some v)) H s'->Q () s') (a:X.fn x=true∨X.env.scope.names.lookup x=some .local:=by first|exact .inl rfl|exact .inr rfl|assumption):wpAny M A (storeName X.env x u) Q E s:=
 dH I b hi hx r (λs' I' _=>h s' I') a
theorem Inv.ZCv(I:Inv X Zb Z H s)(ho:s'.os=s.os)(u:Un (D3 X.stack) ch H H' s.heap s'.heap)(AN:Bk X.prog X.w H' s'.heap)(a:AllBare s'.gens)
  (Hs:∀b∈ch,(b∈X.ex∨X.s₀.heap.objs.size<=b)/\b≠X.env.locals/\(∀x c,X.env.cells.lookup x=some c->c≠b)/\∀p∈X.pn++Zb,p.1≠b):Inv X Zb Z H' s':=by
 obtain⟨h',g',d',t',o'⟩:=s';have e:o'=s.os:=ho;subst e;exact I.call (g':=g') (t':=t') (d':=d') u AN a Hs
end
abbrev XK:=Value->Option Addr->Hp->Prop
abbrev St:=List (Option V)
variable{Z:St}
abbrev VK:=V->Hp->Prop
abbrev TE:=St->Hp->VK->Prop
variable{ta tb tc te:TE}
abbrev TT:=St->Hp->(Bool->Hp->Prop)->Prop
abbrev TA:=St->Hp->(List V->Hp->Prop)->Prop
structure Ends where
 nx:St->Hp->Prop
 rt:VK
 bk:St->Hp->Prop:=λ_ _=>False
 ct:St->Hp->Prop:=λ_ _=>False
abbrev TS:=Ends->St->Hp->Prop
def EP(X:Cx)(Zb:ZEf)(Z:St)(Q:VK)(u:Value)(s':Shared):Prop:=∃v H',Inv X Zb Z H' s'/\RelV v u/\Q v H'
def TP(X:Cx)(Zb:ZEf)(Z:St)(Q:Bool->Hp->Prop)(b:Bool)(s':Shared):Prop:=∃H',Inv X Zb Z H' s'/\Q b H'
def AP(X:Cx)(Zb:ZEf)(Z:St)(Q:List V->Hp->Prop)(us:List Value)(s':Shared):Prop:=∃vs H',Inv X Zb Z H' s'/\Vals vs us/\Q vs H'
def SP(X:Cx)(Zb:ZEf)(D:Ends)(f:Flow)(s':Shared):Prop:=
 match f with
 | .next=>∃ σ' H',Inv X Zb σ' H' s'/\D.nx σ' H'
 | .brk=>∃ σ' H',Inv X Zb σ' H' s'/\D.bk σ' H'
 | .cont=>∃ σ' H',Inv X Zb σ' H' s'/\D.ct σ' H'
 | .ret u=>∃v σ' H',Inv X Zb σ' H' s'/\RelV v u/\D.rt v H'
def PE(X:Cx)(e:Expr)(t:TE):Prop:=
 ∀(Zb:ZEf)(s:Shared)(Z:St)(H:Hp)(Q:VK),Inv X Zb Z H s->t Z H Q->wpAny (model X.prog X.w) X.A (eval e X.env) (EP X Zb Z Q) X.xe s
def PT(X:Cx)(e:Expr)(t:TT):Prop:=
 ∀(Zb:ZEf)(s:Shared)(Z:St)(H:Hp)(Q:Bool->Hp->Prop),Inv X Zb Z H s->t Z H Q->wpAny (model X.prog X.w) X.A (isTrue e X.env (eval e X.env)) (TP X Zb Z Q) X.xe s
def PW(X:Cx)(e:Expr)(t:TT):Prop:=
 ∀(a:Sem Value)(Zb:ZEf)(s:Shared)(Z:St)(H:Hp)(Q:Bool->Hp->Prop),Inv X Zb Z H s->t Z H Q->wpAny (model X.prog X.w) X.A (isTrue e X.env a) (TP X Zb Z Q) X.xe s
theorem PW.pt{t:TT}(h:PW X e t):PT X e t:=h _
def PA(X:Cx)(es:List Expr)(t:TA):Prop:=
 ∀(pos:Pos)(Zb:ZEf)(s:Shared)(Z:St)(H:Hp)(Q:List V->Hp->Prop),Inv X Zb Z H s->t Z H Q->wpAny (model X.prog X.w) X.A (spliced (backTo pos (starEach es X.env))) (AP X Zb Z Q) X.xe s
def PS(X:Cx)(st:Stmt)(t:TS):Prop:=
 ∀(Zb:ZEf)(s:Shared)(Z:St)(H:Hp)(D:Ends),Inv X Zb Z H s->t D Z H->wpAny (model X.prog X.w) X.A (exec st X.env) (SP X Zb D) X.xe s
def Dd(X:Cx)(st:List Stmt)(t:TS):Prop:=
 ∀(Zb:ZEf)(s:Shared)(Z:St)(H:Hp)(D:Ends),Inv X Zb Z H s->t D Z H->wpAny (model X.prog X.w) X.A (execs st X.env) (SP X Zb D) X.xe s
theorem AR{t:Sem α}{Q Q':α->Shared->Prop}(h:wpAny M A t Q E s)(b:∀a s,Q a s->Q' a s):wpAny M A t Q' E s:=qr h b λ_ _ x=>x
section
def B1(i:Nat):TE:=λZ H Q=>∃v,Z[i]?=some (some v)/\Q v H
def tC(v:V):TE:=λ_ H Q=>Q v H
def Gl(X:Cx)(x:Str):Prop:=X.env.kindOf x=some .globalImplicit
theorem QC(I:Inv X Zb Z H s)(b:Gl X x)(a:X.mg x=some u)(h:Q u s)
  (hd:(x == ("__debug__":Str))=false:=by decide):wpAny (model X.prog X.w) X.A (eval (.Name x pos) X.env) Q E s:=
 ZDR I.ok.kind b (Calls.loadGlobal_global (by rw[I.ok.glob];exact I.mod.glob.keeps I.bk) a h) hd
theorem Jj(I:Inv X Zb Z H s)(c:Gl X x)(b:X.mg x=none)(a:bootBuiltins x=some u)(h:Q u s)
  (hn:x ≠"__name__" := by decide) (hd:(x == ("__debug__":Str))=false:=by decide):wpAny (model X.prog X.w) X.A (eval (.Name x pos) X.env) Q E s:=by
 obtain⟨d,h1,h2⟩:=I.mod.blt;exact ZDR I.ok.kind c (Calls.loadGlobal_builtin (by rw[I.ok.glob];exact I.mod.glob.keeps I.bk) b (by rw[I.ok.blt];exact h1.keeps I.bk) ((h2 x hn).trans a) h) hd
theorem ZBa(c:Gl X x)(b:X.mg x=none)(a:bootBuiltins x=some u)(r:RelV v u)(hn:x ≠"__name__" := by decide)(hd:(x == ("__debug__":Str))=false:=by decide):PE X (.Name x pos) (tC v):=
 λ_ _ _ H _ I h=>Jj I c b a ⟨v,H,I,r,h⟩ hn hd
variable{a b:Expr}
def PC(X:Cx)(op:CmpOp)(a b:Expr)(t:TE):Prop:=
 ∀(Zb:ZEf)(s:Shared)(Z:St)(H:Hp)(Q:VK),Inv X Zb Z H s->t Z H Q->
  wpAny (model X.prog X.w) X.A (eval a X.env) (λv d=>wpAny (model X.prog X.w) X.A (eval b X.env) (λu c=>wpAny (model X.prog X.w) X.A (compareOp op v u) (EP X Zb Z Q) X.xe c) X.xe d) X.xe s
theorem uv(b:Expr)(h:op≠.In)(h2:op≠.NotIn):behindInMarks op b=false:=by
 have c:(op == CmpOp.In)=false:=by cases op <;> first|rfl|exact absurd rfl h
 have a:(op == CmpOp.NotIn)=false:=by cases op <;> first|rfl|exact absurd rfl h2
 cases b <;> simp[behindInMarks,c,a]
def tB(t:TE):TT:=λZ H Q=>t Z H λx H1=>∃c,x=.bl c/\Q c H1
theorem iY{t:TE}(h:PC X op a b t)(h1:behindInMarks op b=false:=by first|exact uv _ (by decide) (by decide)|rfl):PT X (.Compare a [op] [b] pos) (tB t):=by
 intro Zb s Z H Q I hw;refine wpAny_isTrue_Compare1 (AR (h Zb s Z H _ I hw) λv s1 h1=>AR h1 λu s2 h2=>AR h2 λc g⟨x,H1,I1,e,f⟩=>?_) h1;obtain⟨d,rfl,q⟩:=f;cases e;exact tL ⟨H1,I1,q⟩
variable{tA Ic:TT}
def Pd(t u:TT):TT:=λZ H Q=>t Z H λc H1=>if c=true then u Z H1 Q else Q false H1
def Vs(t u:TT):TT:=λZ H Q=>t Z H λc H1=>if c=true then Q true H1 else u Z H1 Q
def R5(t:TT):TT:=λZ H Q=>t Z H λc H1=>Q (!c) H1
def VI(ta tb:TE):TE:=λZ H Q=>ta Z H λx H1=>∃c,x=.bl c/\if c=true then tb Z H1 Q else Q (.bl false) H1
def W5(ta tb:TE):TE:=λZ H Q=>ta Z H λx H1=>∃c,x=.bl c/\if c=true then Q (.bl true) H1 else tb Z H1 Q
def V0(ta:TE):TE:=λZ H Q=>ta Z H λx H1=>∃c,x=.bl c/\Q (.bl (!c)) H1
end
def AJ(K:ZEe)(H:Hp)(a:Addr)(xs:List V):Prop:=
 Rd H a (.lst xs)∨
  ∃(o:Obj)(A5:Array Value)(n:Nat),K.lookup a=some o/\o.cls=.type "list" /\ o.dict=none/\o.data=.seq A5 n/\A5.size<=sizeLine/\Vals xs A5.toList
def AA(K:ZEe)(H:Hp)(a:Addr)(xs:List V):Prop:=
 Rd H a (.tup xs)∨
  ∃(o:Obj)(A5:Array Value)(n:Nat),K.lookup a=some o/\o.cls=.type "tuple" /\ o.data=.seq A5 n/\A5.size<=sizeLine/\Vals xs A5.toList
noncomputable def nG:Value->Option V
 | .none=>some .AE
 | .bool b=>some (.bl b)
 | .int i _=>some (.int i)
 | .str x _=>some (.str x)
 | .bytes b _=>some (.Gk b)
 | .float b _=>some (.K0 b)
 | .ref a=>some (.ref a)
 | .type n=>some (.ty n)
 |_=>none
theorem RelV.abs{x:V}(r:RelV x u):nG u=some x:=by
 cases x with
 |AE=>cases r;rfl
 |bl _=>cases r;rfl
 |int _=>obtain⟨t,rfl⟩:=r;rfl
 |str _=>obtain⟨t,rfl⟩:=r;rfl
 |Gk _=>obtain⟨t,rfl⟩:=r;rfl
 |K0 _=>obtain⟨t,rfl⟩:=r;rfl
 |ref _=>cases r;rfl
 |ty _=>cases r;rfl
theorem RelV.inj{x y:V}{u:Value}(r:RelV x u)(q:RelV y u):x=y:=BL (r.abs.symm.trans q.abs)
theorem Vals.inj:∀{xs ys:List V}{us:List Value},Vals xs us->Vals ys us->xs=ys
 |_,_,_,.nil,.nil=>rfl
 |_,_,_,.cons r t,.cons r' t'=>by rw[r.inj r',Vals.inj t t']
section
variable{xs ys:List V}
theorem AJ.of{K:ZEe}(h:H a=some (.lst xs)):AJ K H a xs:=.inl (.inl h)
theorem AA.of{K:ZEe}(h:H a=some (.tup xs)):AA K H a xs:=.inl (.inl h)
theorem Inv.list(I:Inv X Zb Z H s)(h:AJ X.K H a xs):∃A5:List Value,Vals xs A5/\PlainL s.heap a A5.toArray/\xs.length<=sizeLine:=by
 rcases h with h|⟨o,A5,n,hk,hc,hd,hs,hz,r⟩
 .obtain⟨z,A5,n,r,e⟩:=h.ok I.AN;exact⟨A5,r,⟨_,n,e,rfl,rfl,rfl⟩,z⟩
 .refine⟨A5.toList,r,⟨o,n,I.CV a o hk,hc,hd,by simpa using hs⟩,?_⟩
  have e:=r.length;simp only[N2]at e;omega
theorem Inv.tuple(I:Inv X Zb Z H s)(h:AA X.K H a xs):∃A5:List Value,Vals xs A5/\IsTup s.heap a A5.toArray/\xs.length<=sizeLine:=by
 rcases h with h|⟨o,A5,n,hk,hc,hs,hz,r⟩
 .obtain⟨z,A5,r,p⟩:=h.ok I.AN;exact⟨A5,r,p.1,z⟩
 .refine⟨A5.toList,r,⟨o,I.CV a o hk,hc,n,by simpa using hs⟩,?_⟩
  have e:=r.length;simp only[N2]at e;omega
theorem Inv.dw(I:Inv X Zb Z H s)(h:AJ X.K H a xs)(h':AJ X.K H a ys):xs=ys:=by
 obtain⟨A5,r,⟨o,n,e,_,_,d⟩,_⟩:=I.list h;obtain⟨its',c,⟨o',f,b,_,_,d'⟩,_⟩:=I.list h';rw[e]at b;cases b;rw[d]at d';injection d' with d1 _
 have:A5=its':=by simpa using sA Array.toList d1
 subst this;exact r.inj c
theorem Inv.OL(I:Inv X Zb Z H s)(h:AA X.K H a xs)(h':AA X.K H a ys):xs=ys:=by
 obtain⟨A5,r,⟨o,e,_,n,d⟩,_⟩:=I.tuple h;obtain⟨its',c,⟨o',b,_,f,d'⟩,_⟩:=I.tuple h';rw[e]at b;cases b;rw[d]at d';injection d' with d1 _
 have:A5=its':=by simpa using sA Array.toList d1
 subst this;exact r.inj c
end
noncomputable abbrev Cx.Hu(X:Cx)(E:Value->Shared->Prop):Cx:={ X with xe:=E }
noncomputable abbrev Cx.OC(X:Cx):Cx:=X.Hu λ_ _=>False
theorem Cx.Ok.Hu(ok:X.Ok)(E:Value->Shared->Prop):(X.Hu E).Ok:=
 ⟨ok.mod,ok.kind,ok.glob,ok.blt,ok.above,ok.inj,ok.has,ok.Je,ok.hd,ok.frames,ok.Iv,ok.Kx,ok.bs,ok.Ga,ok.JV,ok.JD,ok.Ek,ok.Hr⟩
theorem Cx.Ok.Jo(ok:(X.Hu E).Ok):X.Ok:=
 ⟨ok.mod,ok.kind,ok.glob,ok.blt,ok.above,ok.inj,ok.has,ok.Je,ok.hd,ok.frames,ok.Iv,ok.Kx,ok.bs,ok.Ga,ok.JV,ok.JD,ok.Ek,ok.Hr⟩
section
theorem Inv.Hu(I:Inv X Zb Z H s)(E:Value->Shared->Prop):Inv (X.Hu E) Zb Z H s:=⟨I.ok.Hu E,I.os,I.bare,I.base,I.loc,I.cell,I.free,I.EU,I.pin,I.AN,I.len⟩
theorem Inv.Jo(I:Inv (X.Hu E) Zb Z H s):Inv X Zb Z H s:=⟨I.ok.Jo,I.os,I.bare,I.base,I.loc,I.cell,I.free,I.EU,I.pin,I.AN,I.len⟩
theorem SP.Jo{D:Ends}{f:Flow}(h:SP (X.Hu E) Zb D f s'):SP X Zb D f s':=by
 cases f with
 |next=>obtain⟨σ',H',I,q⟩:=h;exact⟨σ',H',I.Jo,q⟩
 |brk=>obtain⟨σ',H',I,q⟩:=h;exact⟨σ',H',I.Jo,q⟩
 |cont=>obtain⟨σ',H',I,q⟩:=h;exact⟨σ',H',I.Jo,q⟩
 |ret u=>obtain⟨v,σ',H',I,r,q⟩:=h;exact⟨v,σ',H',I.Jo,r,q⟩
theorem Dd.OC{st:List Stmt}{t:TS}(h:Dd X.OC st t):Dd X st t:=λZb s Z H D I hw=>
 qr (h Zb s Z H D (I.Hu _) hw) (λ_ _ q=>q.Jo) λ_ _ z=>False.elim z
variable{st:Stmt}{rest:List Stmt}{t u:TS}
def Yk:TS:=λD Z H=>D.nx Z H
def Oq(t u:TS):TS:=λD Z H=>t { D with nx:=u D } Z H
theorem pU(h1:PS X st t)(h2:Dd X rest u):Dd X (st::rest) (Oq t u):=by
 intro Zb s Z H D I h;refine wpAny_execs_cons (AR (h1 Zb s Z H { D with nx:=u D } I h) λf s1 q=>?_)
 cases f with
 |next=>
  obtain⟨σ',H',I',q⟩:=q;exact h2 Zb s1 σ' H' D I' q
 |ret v=>exact q
 |brk=>exact q
 |cont=>exact q
theorem lb(h1:PS X st t):Dd X [st] t:=by
 intro Zb s Z H D I h;refine wpAny_execs_cons (AR (h1 Zb s Z H D I h) λf s1 q=>?_);cases f with
 |next=>exact vE q
 |ret v=>exact q
 |brk=>exact q
 |cont=>exact q
theorem Inv.quiet(I:Inv X Zb Z H s):interactive X.env=false:=by simp[interactive,I.ok.kind]
def JT(te:TE):TS:=λD Z H=>te Z H λ_ H1=>D.nx Z H1
def HJ(te:TE):TS:=λD Z H=>te Z H D.rt
def Qu(c:TT)(t u:TS):TS:=λD Z H=>c Z H λb H1=>if b=true then t D Z H1 else u D Z H1
def iC:TS:=λ_ _ _=>False
end
abbrev TG:=V->St->Hp->(St->Hp->Prop)->Prop
abbrev HV:=List V->St->Hp->(St->Hp->Prop)->Prop
def PG(X:Cx)(a:Expr)(t:TG):Prop:=
 ∀(Zb:ZEf)(s:Shared)(Z:St)(H:Hp)(v:V)(u:Value)(Q:St->Hp->Prop),Inv X Zb Z H s->RelV v u->t v Z H Q->
  wpAny (model X.prog X.w) X.A (assign a X.env u) (λ_ s'=>∃ σ' H',Inv X Zb σ' H' s'/\Q σ' H') X.xe s
def Mj(X:Cx)(ts:List Expr)(t:HV):Prop:=
 ∀(Zb:ZEf)(s:Shared)(Z:St)(H:Hp)(vs:List V)(us:List Value)(Q:St->Hp->Prop),Inv X Zb Z H s->Vals vs us->t vs Z H Q->
  wpAny (model X.prog X.w) X.A (assignInOrder ((assignEach ts X.env).map (·.2)) us) (λ_ s'=>∃ σ' H',Inv X Zb σ' H' s'/\Q σ' H') X.xe s
abbrev Qx:=V->V->V->Hp->(Hp->Prop)->Prop
def X4(X:Cx)(t:Qx):Prop:=
 ∀(Zb:ZEf)(s:Shared)(Z:St)(H:Hp)(o i v:V)(a b u:Value)(Q:Hp->Prop),Inv X Zb Z H s->RelV o a->RelV i b->RelV v u->t o i v H Q->
  wpAny (model X.prog X.w) X.A (setItem a b u) (λ_ s'=>∃H',Inv X Zb Z H' s'/\Q H') X.xe s
abbrev gw:=V->V->Hp->VK->Prop
def zC(X:Cx)(op:Operator)(t:gw):Prop:=
 ∀(Zb:ZEf)(s:Shared)(Z:St)(H:Hp)(x y:V)(v u:Value)(Q:VK),Inv X Zb Z H s->RelV x v->RelV y u->t x y H Q->
  wpAny (model X.prog X.w) X.A (inplaceOp op v u) (EP X Zb Z Q) X.xe s
def C7(i:Nat):TG:=λv Z H Q=>Q (Z.set i (some v)) H
theorem YL(b:X.N.Nodup)(hi:X.N[i]?=some x)(hx:Loc X.env.scope x)(a:X.fn x=true∨X.env.scope.names.lookup x=some .local:=by first|exact .inl rfl|exact .inr rfl|assumption):PG X (.Name x pos) (C7 i):=by
 intro Zb s Z H v u Q I r h;exact wpAny_assign_Name (fv I b hi hx r (λs' I'=>⟨_,H,I',h⟩) a)
def K7:HV:=λvs Z H Q=>vs=[]/\Q Z H
def FP(t:TG)(u:HV):HV:=λvs Z H Q=>∃v r,vs=v::r/\t v Z H λσ' H'=>u r σ' H' Q
theorem eI:Mj X [] K7:=by
 intro Zb s Z H vs us Q I r h;obtain⟨e,h⟩:=h;subst e;cases r;exact assignInOrder_nil ⟨Z,H,I,h⟩
theorem aA{t:TG}{u:HV}(h1:PG X e t)(h2:Mj X es u)
  (hs:(assignEach (e::es) X.env).map (·.2)=assign e X.env::(assignEach es X.env).map (·.2):=by rfl):Mj X (e::es) (FP t u):=by
 intro Zb s Z H vs us Q I r h;obtain⟨v,d,c,h⟩:=h;subst c;cases r with
 |cons r a=>
  rw[hs];refine assignInOrder_cons (AR (h1 Zb s Z H _ _ _ I r h) λ_ s1 ZCL=>?_);obtain⟨σ1,H1,I1,b⟩:=ZCL;exact h2 Zb s1 σ1 H1 _ _ Q I1 a b
def JI(K:ZEe)(n:Nat)(t:HV):TG:=λv Z H Q=>∃a xs,v=.ref a/\AA K H a xs/\xs.length=n/\t xs Z H Q
theorem Zo{k:Nat}{t:HV}(i:X.calm=true)(h:Mj X es t)
  (hn:(assignEach es X.env).length=n:=by rfl) (BY:(assignEach es X.env).findIdx? (·.1)=none:=by rfl):PG X (.Tuple es k pos) (JI X.K n t):=by
 intro Zb s Z H v u Q I r hw;obtain⟨a,xs,j,f,g,hw⟩:=hw;subst j;cases r;obtain⟨A5,c,d,hz⟩:=I.tuple f;refine assign_Tuple_tuple (I.ok.hd i) d (by simp[hn,<- g,c.length]) BY λh' hx=>?_;have l:Inv X Zb Z H { s with heap:=h' }:=I.kept (t':=s.toks) λb o e=>hx b o (C0 (BE e)) e
 exact h Zb _ Z H xs _ Q l (by simpa using c) hw
def Tv(to ti:TE)(t:Qx):TG:=λv Z H Q=>to Z H λo H1=>ti Z H1 λi H2=>t o i v H2 λH3=>Q Z H3
def En(te:TE)(g:TG):TS:=λD Z H=>te Z H λx H1=>g x Z H1 D.nx
def iD(f:Int->Int->Int):gw:=λx y H Q=>∃i j,x=.int i/\y=.int j/\Q (.int (f i j)) H
theorem Yb:zC X .Add (iD λi j=>i+j):=by
 intro Zb s Z H x y v u Q I b a h;obtain⟨i,j,d,c,q⟩:=h;subst d;subst c;obtain⟨t,rfl⟩:=b;obtain⟨t',rfl⟩:=a;exact iadd_int ⟨.int _,H,I.tok _,⟨_,rfl⟩,q⟩
def j6(c:TT)(tb:TS):TS:=λD Z H=>∃W:Nat->St->Hp->Prop,(∃m,W m Z H)/\∀m Z H,W m Z H->
 c Z H λb H1=>if b=true then ∃N:St->Hp->Prop,(∀ σ' H',N σ' H'->∃a,a < m/\W a σ' H')/\tb { D with nx:=N,ct:=N,bk:=D.nx } Z H1 else D.nx Z H1
structure It where
 go:Nat->Hp->Prop
 FC:Nat->Hp->V->Hp->Prop
 stop:Nat->Hp->Prop
def EI(X:Cx)(Zb:ZEf)(H:Hp)(b:Addr):Prop:=
 H b=none/\b≠X.env.locals/\b∉X.fs/\(b∈X.ex∨X.s₀.heap.objs.size<=b)/\(∀x c,X.env.cells.lookup x=some c->c≠b)/\∀p∈X.pn++Zb,p.1≠b
theorem Inv.Ko(I:Inv X Zb Z H s)(a:s.heap.objs.size<=b)(hn:H' b=none):EI X Zb H' b:=by
 refine⟨hn,N8 (DT I.lt a),I.yR a,.inr (Cs I.sz a),λx c e z=>?_,λp d z=>?_⟩
 .obtain⟨v,q⟩:=I.cell x c e;exact absurd (DT q.lt (by rw[z];exact a)) (LQ _)
 .exact absurd (DT (BE (I.pin p d).1) (by rw[z];exact a)) (LQ _)
structure Turn (P:Program) (w:World) (K:ZEe) (tg:Expr) (J:It) (fp:List Addr) (it:Addr) (tn:Nat->Heap->Prop):Prop where
 mem:it∈fp
 obj:∀i h,tn i h->∀b∈fp,∃o,h.get? b=some o/\∀v,o.data≠.cell v
 keep:∀i h h',tn i h->(∀b∈fp,∀o,h.get? b=some o->h'.get? b=some o)->tn i h'
 item:∀(X:Cx),X.prog=P->X.w=w->X.K=K->X.calm=true->∀(i:Nat)(Zb:ZEf)(s:Shared)(Z:St)(H:Hp)(E:Value->Shared->Prop),Inv X Zb Z H s->(∀b∈fp,EI X Zb H b)->tn i s.heap->J.go i H->
  wpAny (model P w) X.A (pyNext (.ref it)) (λr s1=>∃u,r=some u/\
   wpAny (model P w) X.A (letOwnedTupleGo tg (.ref it) u) (λ_ s2=>∃x H',Inv X Zb Z H' s2/\RelV x u/\J.FC i H x H'/\tn (i+1) s2.heap/\∀b∈fp,H' b=none) E s1) E s
 done:∀(X:Cx),X.prog=P->X.w=w->X.K=K->X.calm=true->∀(i:Nat)(Zb:ZEf)(s:Shared)(Z:St)(H:Hp)(E:Value->Shared->Prop),Inv X Zb Z H s->(∀b∈fp,EI X Zb H b)->tn i s.heap->J.stop i H->
  wpAny (model P w) X.A (pyNext (.ref it)) (λr s1=>r=none/\Inv X Zb Z H s1) E s
 self:∀(A:Around)(i:Nat)(s:Shared)(Q:Value->Shared->Prop)(E:Value->Shared->Prop),tn i s.heap->Q (.ref it) s->wpAny (model P w) A (pyIter (.ref it)) Q E s
abbrev TI:=St->Hp->(It->Hp->Prop)->Prop
def dM(X:Cx)(Zb:ZEf)(Z:St)(tg:Expr)(R:It->Hp->Prop)(RZ:Value)(s2:Shared):Prop:=
 ∃(it:Addr)(fp:List Addr)(tn:Nat->Heap->Prop)(J:It)(H':Hp),RZ=.ref it/\Inv X Zb Z H' s2/\Turn X.prog X.w X.K tg J fp it tn/\tn 0 s2.heap/\(∀b∈fp,EI X Zb H' b)/\R J H'
def PI(X:Cx)(tg iter:Expr)(wi:TI):Prop:=
 ∀(Zb:ZEf)(s:Shared)(Z:St)(H:Hp)(R:It->Hp->Prop),Inv X Zb Z H s->wi Z H R->
  wpAny (model X.prog X.w) X.A (eval iter X.env) (λv s1=>wpAny (model X.prog X.w) X.A (pyIter v) (dM X Zb Z tg R) X.xe s1) X.xe s
theorem Nt{o:Obj}{n:String}{vs:Array Value}{Q:Unit->Shared->Prop}(ho:s.heap.get? it=some o)(b:o.cls=.type n)(hd:o.data=.fields vs)
  (hn:["enumerate","zip","dict_itemiterator","dict_reverseitemiterator","odict_iterator","itertools.zip_longest","itertools.pairwise"].contains n=false) (a:Q () s):wpAny M A (letOwnedTupleGo tg (.ref it) u) Q E s:=by
 unfold letOwnedTupleGo;cases tg <;> first
  |exact oo a
  | (cases u <;> first
    |exact oo a
    | (
      refine lr (wpAny_load ho ?_);rw[b,hd];show wpAny M A (if(["enumerate","zip","dict_itemiterator","dict_reverseitemiterator","odict_iterator","itertools.zip_longest","itertools.pairwise"].contains n && vs[0]? == some (rawInt _))=true then _ else _) Q E s
      rw[mY (by intro h;rw[hn,Bool.false_and]at h;cases h)];exact oo a))
def fP(K:ZEe)(a:Addr):It:=
 ⟨λi H=>∃xs x,AJ K H a xs/\xs[i]?=some x,λi H x H'=>H'=H/\∀xs,AJ K H a xs->xs[i]?=some x,λi H=>∃xs,AJ K H a xs/\xs.length<=i⟩
def zH(K:ZEe)(a:Addr):It:=
 ⟨λi H=>∃xs x,AA K H a xs/\xs[i]?=some x,λi H x H'=>H'=H/\∀xs,AA K H a xs->xs[i]?=some x,λi H=>∃xs,AA K H a xs/\xs.length<=i⟩
def LH(lo:Int)(n:Nat):It:=⟨λi _=>i<n,λi H x H'=>H'=H/\x=.int (lo+i),λi _=>n<=i⟩
theorem M6{P:Program}{K:ZEe}(a it:Addr):Turn P w K tg (fP K a) [it] it (λi h=>h.IsListIter it a i) where
 mem:=by simp
 obj:=λi h st b f=>by
  have e:b=it:=by simpa using f
  subst e;obtain⟨o,e,c,d⟩:=st;exact⟨o,e,λv z=>by rw[d]at z;cases z⟩
 keep:=λi h h' st k=>st.at λo e=>k it (by simp) o e
 item:=by
  intro X n hw q B i Zb s Z H E I j st m;subst n hw q;obtain⟨xs,x,g,hx⟩:=m;obtain⟨A5,l,p,hz⟩:=I.list g;obtain⟨u,G,D⟩:=l.get hx;obtain⟨f0,A,J,y,t,r⟩:=j it (by simp);refine wpAny_pyNext_list_item st p.isList (x:=u) (by simpa using G) λh' Ct C=>?_
  have M:Inv X Zb Z H { s with heap:=h' }:=I.turned (t':=s.toks) (λb o f e=>(C.2 b f).trans e) f0 A y t r
  obtain⟨o,e,c,d⟩:=id Ct;exact⟨u,rfl,Nt (s:={ s with heap:=h' }) e c d (by decide) ⟨x,H,M,D,⟨rfl,λys F=>by rw[I.dw F g];exact hx⟩,Ct,λb f=>(j b f).1⟩⟩
 done:=by
  intro X n hw q B i Zb s Z H E I j st m;subst n hw q;obtain⟨xs,g,hx⟩:=m;obtain⟨A5,l,p,hz⟩:=I.list g;obtain⟨f0,A,J,y,t,r⟩:=j it (by simp);have N:=l.length;exact wpAny_pyNext_list_end (I.ok.hd B) st p.isList (by simp;omega) λh' L=>⟨rfl,I.turned (t':=s.toks) (λb o f e=>L b o f e) f0 A y t r⟩
 self:=λ_ _ _ _ _ st h=>wpAny_pyIter_listiter st h
theorem NA{P:Program}{K:ZEe}(a it:Addr):Turn P w K tg (zH K a) [it] it (λi h=>h.IsTupleIter it a i) where
 mem:=by simp
 obj:=λi h st b f=>by
  have e:b=it:=by simpa using f
  subst e;obtain⟨o,e,c,d⟩:=st;exact⟨o,e,λv z=>by rw[d]at z;cases z⟩
 keep:=λi h h' st k=>st.at λo e=>k it (by simp) o e
 item:=by
  intro X n hw q B i Zb s Z H E I j st m;subst n hw q;obtain⟨xs,x,g,hx⟩:=m;obtain⟨A5,l,p,hz⟩:=I.tuple g;obtain⟨u,G,D⟩:=l.get hx;obtain⟨f0,A,J,y,t,r⟩:=j it (by simp);refine wpAny_pyNext_tuple_item st (show s.heap.IsTuple a A5.toArray from p) (x:=u) (by simpa using G) λh' Ct C=>?_
  have M:Inv X Zb Z H { s with heap:=h' }:=I.turned (t':=s.toks) (λb o f e=>(C.2 b f).trans e) f0 A y t r
  obtain⟨o,e,c,d⟩:=id Ct;exact⟨u,rfl,Nt (s:={ s with heap:=h' }) e c d (by decide) ⟨x,H,M,D,⟨rfl,λys F=>by rw[I.OL F g];exact hx⟩,Ct,λb f=>(j b f).1⟩⟩
 done:=by
  intro X n hw q B i Zb s Z H E I j st m;subst n hw q;obtain⟨xs,g,hx⟩:=m;obtain⟨A5,l,p,hz⟩:=I.tuple g;obtain⟨f0,A,J,y,t,r⟩:=j it (by simp);have N:=l.length;exact wpAny_pyNext_tuple_end (I.ok.hd B) st (show s.heap.IsTuple a A5.toArray from p) (by simp;omega) λh' L=>⟨rfl,I.turned (t':=s.toks) (λb o f e=>L b o f e) f0 A y t r⟩
 self:=λ_ _ _ _ _ st h=>wpAny_pyIter_tupleiter st h
theorem ZCc{P:Program}{K:ZEe}(it:Addr)(lo:Int)(n:Nat):Turn P w K tg (LH lo n) [it] it (λi h=>IsRangeIter h it (lo+(i:Nat) * 1) ((n:Int) - (i:Nat)) 1) where
 mem:=by simp
 obj:=λi h st b a=>by
  have e:b=it:=by simpa using a
  subst e;exact⟨_,st,λv z=>by
   have r:Data.fields _=Data.cell v:=z;cases r⟩
 keep:=λi h h' st k=>k it (by simp) _ st
 item:=by
  intro X g hw j f i Zb s Z H E I c st d;subst g hw j;obtain⟨f0,q,x,p,m,l⟩:=c it (by simp);have W:=Walks.range (prog:=X.prog) (w:=X.w) (I.ok.hd f) it lo 1 n;refine W.item i s _ _ d st λv h' tk u Ct kk=>?_;obtain⟨t,rfl⟩:=u;have A:Inv X Zb Z H { s with heap:=h',toks:=tk }:=I.turned (λb o a e=>kk b o (by simpa using a) e) f0 q p m l
  refine⟨_,rfl,Nt (s:={ s with heap:=h',toks:=tk }) (n:="range_iterator") Ct rfl rfl (by decide) ⟨.int (lo+i),H,A,⟨t,?_⟩,⟨rfl,rfl⟩,Ct,λb a=>(c b a).1⟩⟩
  rw[Int.mul_one]
 done:=by
  intro X g hw j f i Zb s Z H E I c st d;subst g hw j;obtain⟨f0,q,x,p,m,l⟩:=c it (by simp);exact wpAny_pyNext_range_end (I.ok.hd f) st (by have:n<=i:=d;omega) λh' y=>⟨rfl,I.turned (t':=s.toks) (λb o a e=>y b o a e) f0 q p m l⟩
 self:=λ_ _ _ _ _ st h=>wpAny_pyIter_rangeiter st h
def VF(K:ZEe)(tl:TE):TI:=λZ H R=>tl Z H λx H1=>∃a,x=.ref a/\(∃xs,AJ K H1 a xs)/\R (fP K a) H1
theorem aU{R:It->Hp->Prop}{lo hi:Int}{t u v:Tok}(I:Inv X Zb Z H s)(h1:-(2 ^ 62)<=lo)(h2:lo<2 ^ 62)(f:-(2 ^ 62)<=hi)(d:hi<2 ^ 62)
  (q:R (LH lo (hi - lo).toNat) H):wpAny (model X.prog X.w) X.A (pyIter (.ref s.heap.objs.size)) (dM X Zb Z tg R) E { s with heap:=s.heap.push { cls:=.type "range", data:=.fields #[.int lo t,.int hi u,.int 1 v] },toks:=tk }:=by
 refine wpAny_pyIter_range (IsRange.new ..) (small_one h1 h2 f d) ?_;have a:Inv X Zb Z H { s with heap:=s.heap.push { cls:=.type "range", data:=.fields #[.int lo t,.int hi u,.int 1 v] },toks:=tk }:=I.kept λb o e=>BZ _ e
 refine⟨(s.heap.push { cls:=.type "range", data:=.fields #[.int lo t,.int hi u,.int 1 v] }).objs.size,[(s.heap.push { cls:=.type "range", data:=.fields #[.int lo t,.int hi u,.int 1 v] }).objs.size],_,_,H,rfl,
  a.kept (t':=tk) λb o e=>BZ _ e,ZCc _ lo (hi - lo).toNat,?_,λb c=>?_,q⟩
 .have h:lo+((0:Nat):Int) * 1=lo:=by simp
  have g:(((hi - lo).toNat:Nat):Int) - ((0:Nat):Int)=Builtin.Range.rangeSize lo hi 1:=by rw[rangeSize_one];split <;> omega
  show IsRangeIter _ _ (lo+((0:Nat):Int) * 1) ((((hi - lo).toNat:Nat):Int) - ((0:Nat):Int)) 1;rw[h,g];exact CA _ rfl
 .have e:b=(s.heap.push { cls:=.type "range", data:=.fields #[.int lo t,.int hi u,.int 1 v] }).objs.size:=by simpa using c
  subst e;exact a.Ko (Ap _) (a.AN.fresh (Ap _))
def Vg(ta:TA):TI:=λZ H R=>ta Z H λvs H1=>∃j:Int,vs=[.int j]/\-(2 ^ 62)<=j/\j<2 ^ 62/\R (LH 0 j.toNat) H1
def TV(ta:TA):TI:=λZ H R=>ta Z H λvs H1=>∃i j:Int,vs=[.int i,.int j]/\(-(2 ^ 62)<=i/\i<2 ^ 62/\-(2 ^ 62)<=j/\j<2 ^ 62)/\R (LH i (j - i).toNat) H1
def QP(wi:TI)(g:TG)(tb:TS):TS:=λD Z H=>wi Z H λJ H1=>∃W:Nat->Nat->St->Hp->Prop,(∃m,W 0 m Z H1)/\∀i m Z H,W i m Z H->
 (J.stop i H/\D.nx Z H)∨(J.go i H/\∃N:St->Hp->Prop,(∀ σ' H',N σ' H'->∃a,a < m/\W (i+1) a σ' H')/\∀x H',J.FC i H x H'->g x Z H' λσ2 H2=>tb { D with nx:=N,ct:=N,bk:=D.nx } σ2 H2)
noncomputable def NI(fp:List Addr)(h:Heap):ZEf:=fp.filterMap λb=>(h.get? b).map λo=>(b,o)
theorem Q7{h:Heap}{o:Obj}(a:b∈fp)(e:h.get? b=some o):(b,o)∈NI fp h:=List.mem_filterMap.mpr ⟨b,a,by rw[e];rfl⟩
theorem vf{h:Heap}{p:Addr×Obj}(a:p∈NI fp h):p.1∈fp/\h.get? p.1=some p.2:=by
 obtain⟨b,c,e⟩:=List.mem_filterMap.mp a;cases q:h.get? b with
 |none=>rw[q]at e;cases e
 |some o=>
  rw[q]at e;have d:(b,o)=p:=BL e;subst d;exact⟨c,q⟩
theorem Inv.pinned(I:Inv X Zb Z H s)(g:∀b∈fp,EI X Zb H b)(ho:∀b∈fp,∃o,s.heap.get? b=some o/\∀v,o.data≠.cell v):Inv X (Zb++NI fp s.heap) Z H s:=
 I.il λp f=>(List.mem_append.mp f).elim (λz=>I.pin p (Eg _ z)) λz=>by
  obtain⟨a,e⟩:=vf z;obtain⟨f0,i,h,_⟩:=g p.1 a;obtain⟨o,c,d⟩:=ho p.1 a;rw[e]at c;cases c;exact⟨e,f0,i,h,d⟩
theorem Inv.Og{pl:ZEf}(I:Inv X (Zb++pl) Z H s):Inv X Zb Z H s:=I.il λp a=>I.pin p (Eg _ (Hz _ a))
theorem kG{lo:Int}{g:TG}{tb:TS}{D:Ends}(Pv:Nat->St->Hp->Prop)(d:Pv 0 Z H)
  (hs:∀i Z H,i<n->Pv i Z H->g (.int (lo+i)) Z H λσ2 H2=>tb { D with nx:=Pv (i+1),ct:=Pv (i+1),bk:=D.nx } σ2 H2) (hd:∀ Z H,Pv n Z H->D.nx Z H) :
  ∃W:Nat->Nat->St->Hp->Prop,(∃m,W 0 m Z H)/\∀i m Z H,W i m Z H->
   ((LH lo n).stop i H/\D.nx Z H)∨((LH lo n).go i H/\∃N:St->Hp->Prop,(∀ σ' H',N σ' H'->∃b,b < m/\W (i+1) b σ' H')/\∀x H',(LH lo n).FC i H x H'->g x Z H' λσ2 H2=>tb { D with nx:=N,ct:=N,bk:=D.nx } σ2 H2):=by
 refine⟨λi m Z H=>m=n - i/\i<=n/\Pv i Z H,⟨n,by simp,Bm _,d⟩,?_⟩;rintro i m Z H⟨rfl,hi,p⟩
 by_cases a:i<n
 .refine .inr ⟨a,Pv (i+1),λσ' H' c=>⟨n - (i+1),by omega,rfl,a,c⟩,λx H' y=>?_⟩;obtain⟨e,y⟩:=y;subst e y;exact hs i Z _ a p
 .have e:i=n:=by omega
  subst e;exact .inl ⟨Ap _,hd Z H p⟩
abbrev R2:=V->V->Hp->VK->Prop
def BH(X:Cx)(f:Value->Value->Sem Value)(r:R2):Prop:=
 ∀(Zb:ZEf)(s:Shared)(Z:St)(H:Hp)(x y:V)(v u:Value)(Q:VK),Inv X Zb Z H s->RelV x v->RelV y u->r x y H Q->
  wpAny (model X.prog X.w) X.A (f v u) (EP X Zb Z Q) X.xe s
def Qe(X:Cx)(f:Value->Sem Value)(r:V->Hp->VK->Prop):Prop:=
 ∀(Zb:ZEf)(s:Shared)(Z:St)(H:Hp)(x:V)(v:Value)(Q:VK),Inv X Zb Z H s->RelV x v->r x H Q->
  wpAny (model X.prog X.w) X.A (f v) (EP X Zb Z Q) X.xe s
def D7(X:Cx)(f:Value)(r:List V->Hp->VK->Prop):Prop:=
 ∀(Zb:ZEf)(s:Shared)(Z:St)(H:Hp)(xs:List V)(us:List Value)(Q:VK),Inv X Zb Z H s->Vals xs us->r xs H Q->
  wpAny (model X.prog X.w) X.A (call f us) (EP X Zb Z Q) X.xe s
def Br(r:R2)(ta tb:TE):TE:=λZ H Q=>ta Z H λx H1=>tb Z H1 λy H2=>r x y H2 Q
def OT(r:V->Hp->VK->Prop)(ta:TE):TE:=λZ H Q=>ta Z H λx H1=>r x H1 Q
def rI(C:Int->Int->Prop)(g:Int->Int->V):R2:=λx y H Q=>∃i j,x=.int i/\y=.int j/\C i j/\Q (g i j) H
def GF(g:Int->Int->V):R2:=λx y H Q=>∃i j,x=.int i/\y=.int j/\Q (g i j) H
def rU(g:Int->V):V->Hp->VK->Prop:=λx H Q=>∃i,x=.int i/\Q (g i) H
section
variable{a b c:Expr}
theorem YN(m:PE X a ta)(l:PE X b tb){R:V->V->Hp->Prop}(I:Inv X Zb Z H s)
  (h:ta Z H λx H1=>tb Z H1 λy H2=>R x y H2)
  (k:∀v u s2 x y H2,Inv X Zb Z H2 s2->RelV x v->RelV y u->R x y H2->wpAny (model X.prog X.w) X.A (f v u) Q X.xe s2) :
  wpAny (model X.prog X.w) X.A (eval a X.env) (λv d=>wpAny (model X.prog X.w) X.A (eval b X.env) (λu c=>wpAny (model X.prog X.w) X.A (f v u) Q X.xe c) X.xe d) X.xe s:=by
 refine AR (m Zb s Z H _ I h) λv s1 Nn=>?_;obtain⟨x,H1,I1,g,j⟩:=Nn;refine AR (l Zb s1 Z H1 _ I1 j) λu s2 Y9=>?_;obtain⟨y,H2,I2,e,i⟩:=Y9;exact k v u s2 x y H2 I2 g e i
theorem Pu{C:Int->Int->Prop}{g:Int->Int->Int}
  (rule:∀(i j:Int)(t u:Tok)(s:Shared)(Q:Value->Shared->Prop)(E:Value->Shared->Prop),C i j->Q (.int (g i j) s.toks) { s with toks:=s.toks+1 }->wpAny (model X.prog X.w) X.A (f (.int i t) (.int j u)) Q E s) :
  BH X f (rI C λi j=>.int (g i j)):=by
 intro Zb s Z H x y v u Q I b a h;obtain⟨i,j,rfl,rfl,c,q⟩:=h;obtain⟨t,rfl⟩:=b;obtain⟨t',rfl⟩:=a;exact rule i j t t' s _ _ c ⟨.int (g i j),H,I.tok _,⟨_,rfl⟩,q⟩
theorem c8{g:Int->Int->Int}
  (rule:∀(i j:Int)(t u:Tok)(s:Shared)(Q:Value->Shared->Prop)(E:Value->Shared->Prop),Q (.int (g i j) s.toks) { s with toks:=s.toks+1 }->wpAny (model X.prog X.w) X.A (f (.int i t) (.int j u)) Q E s) :
  BH X f (GF λi j=>.int (g i j)):=by
 intro Zb s Z H x y v u Q I b a h;obtain⟨i,j,rfl,rfl,q⟩:=h;obtain⟨t,rfl⟩:=b;obtain⟨t',rfl⟩:=a;exact rule i j t t' s _ _ ⟨.int (g i j),H,I.tok _,⟨_,rfl⟩,q⟩
theorem RT{g:Int->Int->Bool}
  (rule:∀(i j:Int)(t u:Tok)(s:Shared)(Q:Value->Shared->Prop)(E:Value->Shared->Prop),Q (.bool (g i j)) s->wpAny (model X.prog X.w) X.A (f (.int i t) (.int j u)) Q E s) :
  BH X f (GF λi j=>.bl (g i j)):=by
 intro Zb s Z H x y v u Q I b a h;obtain⟨i,j,rfl,rfl,q⟩:=h;obtain⟨t,rfl⟩:=b;obtain⟨t',rfl⟩:=a;exact rule i j t t' s _ _ ⟨.bl (g i j),H,I,rfl,q⟩
def lA(i j:Int):Prop:=0<=j/\j<=1000000/\i.natAbs<2 ^ 64
theorem E9:BH X (binaryOp .Add) (GF λi j=>.int (i+j)):=c8 λ_ _ _ _ _ _ _ q=>add_int q
theorem O3:BH X (binaryOp .Sub) (GF λi j=>.int (i - j)):=c8 λ_ _ _ _ _ _ _ q=>sub_int q
theorem Ja:BH X (binaryOp .Mod) (rI (λ_ j=>0<j) λi j=>.int (i % j)):=Pu λi j _ _ _ _ _ a q=>by
 have h1:(0:Int)<j:=a;exact mod_int' (by omega) (by rw[Int.fmod_eq_emod_of_nonneg i (by omega)];exact q)
theorem M8:BH X (binaryOp .Pow) (rI lA λi j=>.int (i ^ j.toNat)):=Pu λ_ _ _ _ _ _ _ a q=>pow_int_small a.1 a.2.1 a.2.2 q
theorem rP{f:Value->Sem Value}{g:Int->Int}
  (rule:∀(i:Int)(t:Tok)(s:Shared)(Q:Value->Shared->Prop)(E:Value->Shared->Prop),Q (.int (g i) s.toks) { s with toks:=s.toks+1 }->wpAny (model X.prog X.w) X.A (f (.int i t)) Q E s) :
  Qe X f (rU λi=>.int (g i)):=by
 intro Zb s Z H x v Q I a h;obtain⟨i,rfl,q⟩:=h;obtain⟨t,rfl⟩:=a;exact rule i t s _ _ ⟨.int (g i),H,I.tok _,⟨_,rfl⟩,q⟩
theorem xH:Qe X (unaryOp .USub) (rU λi=>.int (-i)):=rP λ_ _ _ _ _ q=>neg_int q
end
noncomputable def Rc:V->V->Bool
 | .AE,.AE=>true | .AE,.int _=>true | .int _,.AE=>true | .AE,.bl _=>true | .bl _,.AE=>true | .AE,.str _=>true | .str _,.AE=>true
 | .int _,.int _=>true | .bl _,.bl _=>true | .str _,.str _=>true | .Gk _,.Gk _=>true
 | .int _,.str _=>true | .str _,.int _=>true | .bl _,.str _=>true | .str _,.bl _=>true
 |_,_=>false
def Zi:R2:=λx y H Q=>Rc x y=true/\Q (.bl (decide (x=y))) H
def ZX:R2:=λx y H Q=>Rc x y=true/\Q (.bl (!decide (x=y))) H
theorem bx{i j:Int}:decide (V.int i=V.int j)=(i == j):=by
 rw[PL];simp
theorem aa{i j:Bool}:decide (V.bl i=V.bl j)=(i == j):=by
 rw[PL];simp
theorem bw{i j:Str}:decide (V.str i=V.str j)=(i == j):=by
 rw[PL];simp
theorem h8{i j:Array UInt8}:decide (V.Gk i=V.Gk j)=(i.toList == j.toList):=by
 rw[PL];cases i;cases j;simp
section
variable{a b c:Expr}
theorem Bn{Q:VK}{k k':Bool}(I:Inv X Zb Z H s)(q:Q (.bl k) H)(e:k=k'):EP X Zb Z Q (.bool k') s:=by
 subst e;exact⟨.bl k,H,I,rfl,q⟩
theorem BO:BH X (compareOp .Eq) Zi:=by
 intro Zb s Z H x y v u Q I b a h;obtain⟨hs,q⟩:=h;cases x with
 |AE=>
  cases b;cases y with
  |AE=>cases a;exact PySem.EqNone.eq_none_none (Bn I q (by simp))
  |bl j=>cases a;exact PySem.EqNone.eq_none_bool (Bn I q (by simp))
  |int j=>obtain⟨t',rfl⟩:=a;exact PySem.EqNone.eq_none_int (Bn I q (by simp))
  |str j=>obtain⟨t',rfl⟩:=a;exact PySem.EqNone.eq_none_str (Bn I q (by simp))
  |_=>exact absurd (show false=true from hs) DS
 |bl i=>
  cases b;cases y with
  |AE=>cases a;exact PySem.EqNone.eq_bool_none (Bn I q (by simp))
  |bl j=>cases a;exact eq_bool (Bn I q aa)
  |str j=>obtain⟨t',rfl⟩:=a;exact PySem.EqMixed.eq_bool_str (Bn I q (by simp))
  |_=>exact absurd (show false=true from hs) DS
 |int i=>
  obtain⟨t,rfl⟩:=b;cases y with
  |AE=>cases a;exact PySem.EqNone.eq_int_none (Bn I q (by simp))
  |int j=>obtain⟨t',rfl⟩:=a;exact eq_int (Bn I q bx)
  |str j=>obtain⟨t',rfl⟩:=a;exact PySem.EqMixed.eq_int_str (Bn I q (by simp))
  |_=>exact absurd (show false=true from hs) DS
 |str i=>
  obtain⟨t,rfl⟩:=b;cases y with
  |AE=>cases a;exact PySem.EqNone.eq_str_none (Bn I q (by simp))
  |bl j=>cases a;exact PySem.EqMixed.eq_str_bool (Bn I q (by simp))
  |int j=>obtain⟨t',rfl⟩:=a;exact PySem.EqMixed.eq_str_int (Bn I q (by simp))
  |str j=>obtain⟨t',rfl⟩:=a;exact eq_str (Bn I q bw)
  |_=>exact absurd (show false=true from hs) DS
 |Gk i=>
  obtain⟨t,rfl⟩:=b;cases y with
  |Gk j=>obtain⟨t',rfl⟩:=a;exact PySem.W.eq_bytes (Bn I q h8)
  |_=>exact absurd (show false=true from hs) DS
 |_=>cases y <;> exact absurd (show false=true from hs) DS
theorem Io:BH X (compareOp .NotEq) ZX:=by
 intro Zb s Z H x y v u Q I b a h;obtain⟨hs,q⟩:=h;cases x with
 |AE=>
  cases b;cases y with
  |AE=>cases a;exact PySem.EqNone.ne_none_none (Bn I q (by simp))
  |bl j=>cases a;exact PySem.EqNone.ne_none_bool (Bn I q (by simp))
  |int j=>obtain⟨t',rfl⟩:=a;exact PySem.EqNone.ne_none_int (Bn I q (by simp))
  |str j=>obtain⟨t',rfl⟩:=a;exact PySem.EqNone.ne_none_str (Bn I q (by simp))
  |_=>exact absurd (show false=true from hs) DS
 |bl i=>
  cases b;cases y with
  |AE=>cases a;exact PySem.EqNone.ne_bool_none (Bn I q (by simp))
  |bl j=>cases a;exact ne_bool (Bn I q (sA not aa))
  |str j=>obtain⟨t',rfl⟩:=a;exact PySem.EqMixed.ne_bool_str (Bn I q (by simp))
  |_=>exact absurd (show false=true from hs) DS
 |int i=>
  obtain⟨t,rfl⟩:=b;cases y with
  |AE=>cases a;exact PySem.EqNone.ne_int_none (Bn I q (by simp))
  |int j=>obtain⟨t',rfl⟩:=a;exact ne_int (Bn I q (sA not bx))
  |str j=>obtain⟨t',rfl⟩:=a;exact PySem.EqMixed.ne_int_str (Bn I q (by simp))
  |_=>exact absurd (show false=true from hs) DS
 |str i=>
  obtain⟨t,rfl⟩:=b;cases y with
  |AE=>cases a;exact PySem.EqNone.ne_str_none (Bn I q (by simp))
  |bl j=>cases a;exact PySem.EqMixed.ne_str_bool (Bn I q (by simp))
  |int j=>obtain⟨t',rfl⟩:=a;exact PySem.EqMixed.ne_str_int (Bn I q (by simp))
  |str j=>obtain⟨t',rfl⟩:=a;exact ne_str (Bn I q (sA not bw))
  |_=>exact absurd (show false=true from hs) DS
 |Gk i=>
  obtain⟨t,rfl⟩:=b;cases y with
  |Gk j=>obtain⟨t',rfl⟩:=a;exact PySem.W.ne_bytes (Bn I q (sA not h8))
  |_=>exact absurd (show false=true from hs) DS
 |_=>cases y <;> exact absurd (show false=true from hs) DS
theorem Fc:BH X (compareOp .Lt) (GF λi j=>.bl (decide (i<j))):=RT λ_ _ _ _ _ _ _ q=>lt_int q
theorem Dv:BH X (compareOp .LtE) (GF λi j=>.bl (decide (i<=j))):=RT λ_ _ _ _ _ _ _ q=>le_int q
theorem KO:BH X (compareOp .Gt) (GF λi j=>.bl (decide (j<i))):=RT λ_ _ _ _ _ _ _ q=>gt_int q
theorem MU:BH X (compareOp .GtE) (GF λi j=>.bl (decide (j<=i))):=RT λ_ _ _ _ _ _ _ q=>ge_int q
theorem e9:BH X (compareOp .In) (λx y H Q=>∃i j,x=.str i/\y=.str j/\Q (.bl (!(Builtin.Str.occurrences j i 0 j.length 1).isEmpty)) H):=by
 intro Zb s Z H x y v u Q I b a h;obtain⟨i,j,rfl,rfl,q⟩:=h;obtain⟨t,rfl⟩:=b;obtain⟨t',rfl⟩:=a;exact in_str (Bn I q rfl)
theorem ZCt:BH X (compareOp .Is) (λx y H Q=>y=.AE/\Q (.bl (decide (x=.AE))) H):=by
 intro Zb s Z H x y v u Q I a b h;obtain⟨rfl,q⟩:=h;cases b;refine is_none_gen (Bn I q ?_);cases x <;> first
  | (cases a;rfl)
  | (obtain⟨t,rfl⟩:=a;rfl)
theorem gY(b:Expr)(h:op≠.In:=by decide)(h2:op≠.NotIn:=by decide):behindInMarks op b=false:=by
 have c:(op == CmpOp.In)=false:=by cases op <;> first|rfl|exact absurd rfl h
 have a:(op == CmpOp.NotIn)=false:=by cases op <;> first|rfl|exact absurd rfl h2
 cases b <;> simp[behindInMarks,c,a]
def Lj(t:TE):TT:=λZ H Q=>t Z H λx H'=>∃k,x=.bl k/\Q k H'
theorem qx{r:R2}(ho:BH X (compareOp op) r)(o:PE X a ta)(n:PE X b tb)(m:behindInMarks op b=false):PT X (.Compare a [op] [b] pos) (Lj (Br r ta tb)):=by
 intro Zb s Z H Q I h;refine wpAny_isTrue_Compare1 (AR (o Zb s Z H _ I h) λv s1⟨x,H1,I1,g,l⟩=>AR (n Zb s1 Z H1 _ I1 l) λu s2⟨y,H2,I2,f,j⟩=>
  AR (ho Zb s2 Z H2 x y v u _ I2 g f j) λc p⟨z,H3,I3,d,k,e,i⟩=>?_) m
 subst e;cases d;exact tL ⟨H3,I3,i⟩
def Oj(r b:R2)(ta tb tc:TE):TE:=λZ H Q=>ta Z H λx H1=>tb Z H1 λy H2=>r x y H2 λz H3=>∃k,z=.bl k/\
 (if k=true then tc Z H3 λa H4=>b y a H4 Q else Q (.bl false) H3)
theorem Ju:(sizeLine:Nat)<2 ^ 63:=by rw[sizeLine_eq];decide
theorem d8:BH X (binaryOp .Add) (λx y H Q=>∃i j,x=.str i/\y=.str j/\i.length+j.length<=sizeLine/\Q (.str (i++j)) H):=by
 intro Zb s Z H x y v u Q I b a h;obtain⟨i,j,rfl,rfl,hz,q⟩:=h;obtain⟨t,rfl⟩:=b;obtain⟨t',rfl⟩:=a;exact add_str (λt' tk=>⟨.str (i++j),H,I.tok _,⟨_,rfl⟩,q⟩) hz
theorem vals1{x:V}(r:Vals [x] us):∃u,us=[u]/\RelV x u:=by
 cases r with
 |cons b a=>cases a;exact⟨_,rfl,b⟩
theorem vals2{x:V}(r:Vals [x,y] us):∃u a,us=[u,a]/\RelV x u/\RelV y a:=by
 cases r with
 |cons e d=>
  cases d with
  |cons c b=>cases b;exact⟨_,_,rfl,e,c⟩
theorem yN(b:X.calm=true):D7 X (.builtin "max") (λxs H Q=>∃i j,xs=[.int i,.int j]/\Q (.int (if j > i then j else i)) H):=by
 intro Zb s Z H xs us Q I r h;obtain⟨i,j,rfl,q⟩:=h;obtain⟨u,c,rfl,⟨t,rfl⟩,⟨t',rfl⟩⟩:=vals2 r;refine max_two_ints (I.ok.hd b) λh' tk k=>⟨_,H,I.kept k,?_,q⟩
 by_cases a:j > i
 .rw[md a,md a];exact⟨_,rfl⟩
 .rw[mY a,mY a];exact⟨_,rfl⟩
theorem uQ(b:X.calm=true):D7 X (.builtin "min") (λxs H Q=>∃i j,xs=[.int i,.int j]/\Q (.int (if j<i then j else i)) H):=by
 intro Zb s Z H xs us Q I r h;obtain⟨i,j,rfl,q⟩:=h;obtain⟨u,c,rfl,⟨t,rfl⟩,⟨t',rfl⟩⟩:=vals2 r;refine min_two_ints (I.ok.hd b) λh' tk k=>⟨_,H,I.kept k,?_,q⟩
 by_cases a:j<i
 .rw[md a,md a];exact⟨_,rfl⟩
 .rw[mY a,mY a];exact⟨_,rfl⟩
theorem RP:D7 X (.type "int") (λxs H Q=>(∃i,xs=[.int i]/\Q (.int i) H)∨∃k,xs=[.bl k]/\Q (.int (if k then 1 else 0)) H):=by
 intro Zb s Z H xs us Q I r h;rcases h with⟨i,rfl,q⟩|⟨k,rfl,q⟩
 .obtain⟨u,rfl,t,rfl⟩:=vals1 r;exact call_int_int ⟨.int i,H,I,⟨_,rfl⟩,q⟩
 .obtain⟨u,rfl,a⟩:=vals1 r;cases a;exact call_int_bool ⟨.int (if k then 1 else 0),H,I.tok _,⟨_,rfl⟩,q⟩
end
structure KL (h:Heap) (x dx C:Addr) (mA:ZEg):Prop where
 obj:h.get? x=some (PySem.W.instObj C dx)
 ns:h.Ns1 dx mA
 ne:dx≠x
theorem nB{h:Heap}(n:h.Ns1 dx mA):∃b,h.get? dx=some b/\∀name,PySem.W.lookIn name b=some (mA name):=by
 obtain⟨o,es,j,ho,hd,g,_,f⟩:=n;refine⟨o,ho,λname=>?_⟩;have e:=f name;unfold nsFind findBy at e;rw[<- Array.find?_toList]at e;unfold PySem.W.lookIn;rw[hd];dsimp only;split
 .rename_i y q;rw[q]at e;exact sA some e
 .rename_i q;rw[q]at e;have a:es.toList.any (·.refKey)=false:=by
   rw[ZDV];intro y d;obtain⟨z,t,c⟩:=g y (Array.mem_toList_iff.mp d);simp[DictEntry.refKey,c]
  have i:¬ es.toList.any (·.refKey)=true:=by rw[a];exact DS
  rw[mY i];exact sA some e
theorem KL.look{h:Heap}{x:Addr}(I:KL h x dx C mA):∃a,PySem.W.InstAt h x (PySem.W.instObj C dx) C (some a)/\∀name,PySem.W.lookIn name a=some (mA name):=
 let ⟨a,ho,hl⟩:=nB I.ns
 ⟨a,⟨I.obj,rfl,rfl,ho⟩,hl⟩
section
variable{K:ZEe}{x f:Addr}{v:Value}
theorem get_map{a:Bool}(X:K.In s.heap)(I:KL s.heap x dx C mA)(d:PySem.W.plainGet K C name=true)(hh:PySem.W.hasDictIn K C=true)
  (e:PySem.W.findIn K (.ref C) name=some none) (b:mA name=some v) (IB:PySem.W.handedIn v=true) (h:Q v { s with toks:=s.toks+1 }) :
  wpAny (model prog w) A (getAttr (.ref x) name a) Q E s:=by
 obtain⟨f,J,c⟩:=I.look;exact PySem.W.get_value X J (kF d).1 (PySem.W.findObj_own hh e rfl (by rw[c,b])) IB h
theorem vM{Q:Value×List Value->Shared->Prop}(X:K.In s.heap)(I:KL s.heap x dx C mA)(a:PySem.W.plainGet K C name=true)
  (g:PySem.W.findIn K (.ref C) name=some (some (.ref f))) (d:PySem.W.isFn K (.ref f)=true) (c:mA name=none) (h:Q (.ref f,[.ref x]) s) :
  wpAny (model prog w) A (getMethod (.ref x) name pl) Q E s:=by
 obtain⟨b,J,e⟩:=I.look;exact PySem.W.method_fn X J (kF a).1 (kF a).2 g (beq_iff_eq.mp d) (by show(PySem.W.lookIn name b).map (·.isSome)=some false;rw[e,c];rfl) h
theorem ZA0{Q:Unit->Shared->Prop}(X:K.In s.heap)(I:KL s.heap x dx C mA)
  (hs:PySem.W.findIn K (.ref C) "__setattr__"=some (some (.builtin "object.__setattr__"))) (g:PySem.W.plainOver K C=true) (f:PySem.W.takerIn K C name=some none) (hh:PySem.W.hasDictIn K C=true)
  (hw:PySem.Within mA ns) (hsz:ns.length<=sizeLine)
  (h:∀h',KL h' x dx C (λy=>if y=name then some v else mA y)->Heap.SameBut dx s.heap h'->Q () { s with heap:=h',toks:=s.toks+2 }) :
  wpAny (model prog w) A (setAttr (.ref x) name v) Q E s:=by
 obtain⟨l,J,n⟩:=I.look;refine PySem.W.set_plain X J hs (PySem.W.osa_open (s:={ s with toks:=s.toks+1 }) (r:=none) X J g f λb=>?_)
 obtain⟨cd,i,FR⟩:=PySem.W.any_some hh;have hx:s.heap.get? x=some ⟨.ref C,some dx,.plain,#[]⟩:=I.obj;refine lr (oo (lr (lr (wpAny_loadPart hx (lr (PySem.W.Looks.here (s:={ s with toks:=s.toks+1 }) (PySem.W.looks_clsIn X i) ?_))))))
 rw[FR];refine oo (a:=some dx) (lr (oo (lr ?_)));refine wpAny_nsSet1 (s:={ s with toks:=s.toks+1 }) I.ns λh' Hn CU=>?_
 obtain⟨m,j,k,c,d,e⟩:=Hn.count (PySem.Within.cons name v hw);refine lr (wpAny_lookBehind c (by rw[d];exact pastItsLine_dict (Cs e (by rw[Cc];omega))) ?_);exact oo (h _ ⟨(CU.2 _ (BP I.ne)).trans I.obj,Hn,I.ne⟩ CU)
theorem xy{R:Result->Shared->Prop}{vs:List Value}(X:K.In s.heap)(a:PySem.W.makesIn K C=true)
  (hi:PySem.W.findIn K (.ref C) "__init__"=some (some (.ref f))) (b:PySem.W.typeIn K (.ref f)=some (.type "function"))
  (h:codeAny (model prog w) (A.under (.builtin "type.__call__" ⟨.ref C::vs,kw⟩)) (.call (.ref f) ⟨.ref (s.heap.objs.size+1)::vs,kw⟩) (PySem.W.InitBack (s.heap.objs.size+1) R)
   { s with heap:=(s.heap.push PySem.W.emptyDict).push (PySem.W.instObj C s.heap.objs.size) }) :
  codeAny (model prog w) A (.call (.ref C) ⟨vs,kw⟩) R s:=by
 obtain⟨hh,g,d,t,os⟩:=s;exact PySem.W.make_core (PySem.W.makes_of X a) (PySem.W.looks_findIn X hi) (λself=>PySem.W.bind_fn X self b) (.inl rfl) h
end
noncomputable def DC(f:Str)(v:V):List (Str×V)->List (Str×V)
 | []=>[(f,v)]
 | (g,x)::r=>if g=f then(g,v)::r else(g,x)::DC f v r
theorem cJ(f g:Str)(v:V):∀fs:List (Str×V),(DC f v fs).lookup g=if g=f then some v else fs.lookup g
 | []=>by
  show List.lookup g [(f,v)]=_
  by_cases h:g=f
  .have a:(g == f)=true:=beq_iff_eq.mpr h;simp only[List.lookup,a,md h]
  .have a:(g == f)=false:=beq_eq_false_iff_ne.mpr h;simp only[List.lookup,a,mY h]
 | (k,x)::r=>by
  have c:=cJ f g v r;rw[show DC f v ((k,x)::r)=(if k=f then(k,v)::r else(k,x)::DC f v r)from rfl]
  by_cases b:k=f
  .rw[md b]
   by_cases h:g=k
   .have a:(g == k)=true:=beq_iff_eq.mpr h;simp only[List.lookup,a,md (h.trans b)]
   .have a:(g == k)=false:=beq_eq_false_iff_ne.mpr h;simp only[List.lookup,a,mY (λe:g=f=>h (e.trans b.symm))]
  .rw[mY b]
   by_cases h:g=k
   .have a:(g == k)=true:=beq_iff_eq.mpr h;simp only[List.lookup,a,mY (λe:g=f=>b (h.symm.trans e))]
   .have a:(g == k)=false:=beq_eq_false_iff_ne.mpr h;simp only[List.lookup,a];exact c
theorem XU(f:Str)(v:V):∀fs:List (Str×V),f∈(DC f v fs).map (·.1)/\∀g,g∈fs.map (·.1)->g∈(DC f v fs).map (·.1)
 | []=>⟨by simp[DC],λg h=>by simp at h⟩
 | (k,x)::r=>by
  obtain⟨i1,i2⟩:=XU f v r;rw[show DC f v ((k,x)::r)=(if k=f then(k,v)::r else(k,x)::DC f v r)from rfl]
  by_cases a:k=f
  .rw[md a];subst a;exact⟨by simp,λg h=>by simpa using h⟩
  .rw[mY a];refine⟨?_,λg h=>?_⟩
   .rw[Bv];exact DK _ i1
   .rw[Bv]at h ⊢;rcases List.mem_cons.mp h with e|e
    .exact List.mem_cons.mpr (.inl e)
    .exact DK _ (i2 g e)
theorem jT(f:Str)(v:V):∀fs:List (Str×V),(DC f v fs).length<=fs.length+1
 | []=>by simp[DC]
 | (k,x)::r=>by
  have b:=jT f v r;rw[show DC f v ((k,x)::r)=(if k=f then(k,v)::r else(k,x)::DC f v r)from rfl]
  by_cases a:k=f
  .rw[md a,Cc,Cc];omega
  .rw[mY a,Cc,Cc];omega
theorem EB.some_of{o:Option Value}(r:EB (some v) o):∃u,o=some u/\RelV v u:=by
 cases o with
 |none=>exact(show False from r).elim
 |some u=>exact⟨u,rfl,r⟩
theorem EB.none_of{o:Option Value}(r:EB none o):o=none:=by
 cases o with
 |none=>rfl
 |some u=>exact(show False from r).elim
theorem pb(r:RelV v u):PySem.W.handedIn u=true:=by
 cases v with
 |AE=>cases(show u=Value.none from r);rfl
 |bl b=>cases(show u=Value.bool b from r);rfl
 |int i=>obtain⟨t,e⟩:=(show ∃t,u=Value.int i t from r);cases e;rfl
 |str x=>obtain⟨t,e⟩:=(show ∃t,u=Value.str x t from r);cases e;rfl
 |Gk b=>obtain⟨t,e⟩:=(show ∃t,u=Value.bytes b t from r);cases e;rfl
 |K0 b=>obtain⟨t,e⟩:=(show ∃t,u=Value.float b t from r);cases e;rfl
 |ref a=>cases(show u=Value.ref a from r);rfl
 |ty n=>cases(show u=Value.type n from r);rfl
section
variable{P:Program}{h:Heap}{fs Mm:List (Str×V)}
theorem Rr(AN:Bk P w H h)(e:H a=some (.ins C dx fs)):∃mA,KL h a dx C mA/\(∀f,EB (fs.lookup f) (mA f))/\PySem.Within mA (fs.map (·.1))/\fs.length<=1000/\H dx=some (.own a):=by
 obtain⟨d,z,ne,ob,mA,n,r,q⟩:=(show C1 P w H h a (.ins C dx fs)from AN a _ e);exact⟨mA,⟨ob,n,ne⟩,r,q,z,d⟩
end
structure Bt (K:ZEe) (C:Addr):Prop where
 pg:PySem.W.plainGet K C Str.empty=true
 hd:PySem.W.hasDictIn K C=true
 po:PySem.W.plainOver K C=true
 sa:PySem.W.findIn K (.ref C) "__setattr__"=some (some (.builtin "object.__setattr__"))
theorem Bt.get{K:ZEe}{C:Addr}(c:Bt K C)(f:Str):PySem.W.plainGet K C f=true:=c.pg
def BM(K:ZEe)(C:Addr)(f:Str):Prop:=PySem.W.findIn K (.ref C) f=some none
theorem BM.pN{K:ZEe}{f:Str}(n:BM K C f):PySem.W.takerIn K C f=some none:=by
 unfold PySem.W.takerIn;rw[show PySem.W.findIn K (.ref C) f=some none from n];rfl
structure ME (K:ZEe) (C:Addr) (f:Str) (v:V) (u:Value):Prop where
 at_:PySem.W.findIn K (.ref C) f=some (some u)
 rel:RelV v u
 get:PySem.W.specialIn K u "__get__"=some none
 cp:PySem.W.copiedNames.contains f=false
structure Meth (K:ZEe) (C:Addr) (m:Str) (f:Addr):Prop where
 at_:PySem.W.findIn K (.ref C) m=some (some (.ref f))
 fn:PySem.W.isFn K (.ref f)=true
 kp:PySem.W.keepIn K (.ref f)=true
section
variable{fs:List (Str×V)}{f:Str}
theorem i9{b:Bool}(I:Inv X Zb Z H s)(e:H a=some (.ins C dx fs))(c:Bt X.K C)(n:BM X.K C f)(l:fs.lookup f=some v)
  (h:∀u s',Inv X Zb Z H s'->RelV v u->Q u s'):wpAny (model X.prog X.w) A (getAttr (.ref a) f b) Q E s:=by
 obtain⟨mA,O,r,_,_,_⟩:=Rr I.AN e;obtain⟨u,g,d⟩:=EB.some_of (v:=v) (o:=mA f) (by rw[<- l];exact r f);exact get_map I.CV O (c.get f) c.hd n g (pb d) (h u _ (I.tok _) d)
theorem xk{g:Addr}{Q:Value×List Value->Shared->Prop}(I:Inv X Zb Z H s)(e:H a=some (.ins C dx fs))(c:Bt X.K C)(k:Meth X.K C m g)(l:fs.lookup m=none)
  (h:Q (.ref g,[.ref a]) s):wpAny (model X.prog X.w) A (getMethod (.ref a) m pl) Q E s:=by
 obtain⟨mA,O,r,_,_,_⟩:=Rr I.AN e;have hn:mA m=none:=EB.none_of (by rw[<- l];exact r m);exact vM I.CV O (c.get m) k.at_ k.fn hn h
theorem aT{Q:Unit->Shared->Prop}(I:Inv X Zb Z H s)(e:H a=some (.ins C dx fs))(c:Bt X.K C)(n:BM X.K C f)(l:fs.length<1000)(i:RelV y u)
  (h:∀s',Inv X Zb Z (upd H a (.ins C dx (DC f y fs))) s'->Q () s'):wpAny (model X.prog X.w) A (setAttr (.ref a) f u) Q E s:=by
 obtain⟨mA,O,r,wi,_,ho⟩:=Rr I.AN e;have hz:(fs.map (·.1)).length<=sizeLine:=by rw[AW,sizeLine_eq];omega
 refine ZA0 I.CV O c.sa c.po n.pN c.hd wi hz λh' O' d=>h _ ?_;have hd:∃o,h'.get? dx=some o:=let ⟨o,_,_,e',_⟩:=O'.ns;⟨o,e'⟩;refine I.write (x:=a) (e:=dx) (by rw[e];exact True.intro) (.inr ho) (λb q k z=>(d.2 b k).trans z) hd ?_;refine⟨by rw[Af O.ne];exact ho,?_,O.ne,O'.obj,_,O'.ns,λg=>?_,λg j=>?_⟩
 .have:=jT f y fs;omega
 .show EB ((DC f y fs).lookup g) (if g=f then some u else mA g)
  rw[cJ]
  by_cases q:g=f
  .rw[md q,md q];exact i
  .rw[mY q,mY q];exact r g
 .by_cases q:g=f
  .rw[q];exact(XU f y fs).1
  .refine(XU f y fs).2 g (wi g λz=>j ?_);show(if g=f then some u else mA g)=none
   rw[mY q];exact z
theorem Inv.made(I:Inv X Zb Z H s):Inv X Zb Z (upd (upd H s.heap.objs.size (.own (s.heap.objs.size+1))) (s.heap.objs.size+1) (.ins C s.heap.objs.size []))
  { s with heap:=(s.heap.push PySem.W.emptyDict).push (PySem.W.instObj C s.heap.objs.size) }:=by
 have c:(s.heap.push PySem.W.emptyDict).get? s.heap.objs.size=some PySem.W.emptyDict:=CA s.heap rfl;have h:((s.heap.push PySem.W.emptyDict).push (PySem.W.instObj C s.heap.objs.size)).get? (s.heap.objs.size+1)=some (PySem.W.instObj C s.heap.objs.size):=by
  have:=CA (s.heap.push PySem.W.emptyDict) (o:=PySem.W.instObj C s.heap.objs.size) rfl
  rwa [Hx]at this
 have g:(s.heap.push PySem.W.emptyDict).Ns s.heap.objs.size (λ_=>none):=⟨PySem.W.emptyDict,#[],_,c,rfl,(λe f=>absurd f (by simp)),λ_=>rfl⟩;have i:=I.laid (a:=s.heap.objs.size) (o:=.own (s.heap.objs.size+1)) (h':=s.heap.push PySem.W.emptyDict) (t':=s.toks) (λb u q=>BZ _ q) (Ap _) ⟨_,c⟩;refine i.laid (a:=s.heap.objs.size+1) (o:=.ins C s.heap.objs.size []) (t':=s.toks) (λb u q=>BZ _ q) (jx (Hx _ _)) ?_;have ne:s.heap.objs.size≠s.heap.objs.size+1:=C0 (ZA _);refine⟨by rw[Af ne,AH],Bm _,ne,h,λ_=>none,(Heap.Ns1.of_empty g).at λo q=>BZ _ q,λ_=>True.intro,λy d=>absurd rfl d⟩
theorem ub{env:Env}(b:attributeBase e f env (eval e env)=eval e env)
  (h:wpAny (model prog w) A (eval e env) (λo a=>wpAny (model prog w) A (getAttr o f true) Q E a) E s):wpAny (model prog w) A (eval (.Attribute e f pos) env) Q E s:=
 Attribute_any_ h (by rw[arm_eval_Attribute,b])
end
def Jx(K:ZEe)(ta:TE)(f:Str):TE:=λZ H Q=>ta Z H λx H1=>∃a C dx fs v,x=.ref a/\H1 a=some (.ins C dx fs)/\Bt K C/\BM K C f/\fs.lookup f=some v/\Q v H1
def Yi(K:ZEe)(ta tv:TE)(f:Str):TS:=λD Z H=>tv Z H λy H1=>ta Z H1 λx H2=>∃a C dx fs,x=.ref a/\H2 a=some (.ins C dx fs)/\Bt K C/\BM K C f/\fs.length<1000/\
 D.nx Z (upd H2 a (.ins C dx (DC f y fs)))
def gz(X:Cx)(op:Operator)(a:V->V->Hp->VK->Prop):Prop:=
 ∀(Zb:ZEf)(s:Shared)(Z:St)(H:Hp)(x y:V)(u v:Value)(Q:VK),Inv X Zb Z H s->RelV x u->RelV y v->a x y H Q->wpAny (model X.prog X.w) X.A (inplaceOp op u v) (EP X Zb Z Q) X.xe s
def X2(K:ZEe)(ta tv:TE)(b:V->V->Hp->VK->Prop)(f:Str):TS:=λD Z H=>ta Z H λx H1=>∃a C dx fs v,x=.ref a/\H1 a=some (.ins C dx fs)/\Bt K C/\BM K C f/\fs.lookup f=some v/\
 tv Z H1 λy H2=>b v y H2 λz H3=>∃ID Mm,H3 a=some (.ins C ID Mm)/\Mm.length<1000/\D.nx Z (upd H3 a (.ins C ID (DC f z Mm)))
section
variable{o value:Expr}{f:Str}{pos' P1:Pos}{tv:TE}
variable{b:Bool}
inductive Ei (K:ZEe) (H:Hp):V->Value->Prop where
 |AE:Ei K H .AE (.type "NoneType")
 |bl (x:Bool):Ei K H (.bl x) (.type "bool")
 |int (i:Int):Ei K H (.int i) (.type "int")
 |str (x:Str):Ei K H (.str x) (.type "str")
 |K0 (x:UInt64):Ei K H (.K0 x) (.type "float")
 |lst {a:Addr}{xs:List V}(e:H a=some (.lst xs)):Ei K H (.ref a) (.type "list")
 |CM {a:Addr}{o:Obj}{xs:List V}(e:H a=some (.CM o (.lst xs))):Ei K H (.ref a) (.type "list")
 |tup {a:Addr}{xs:List V}(e:H a=some (.tup xs)):Ei K H (.ref a) (.type "tuple")
 |dK {a:Addr}{A3:List (Key×V)}(e:H a=some (.dK A3)):Ei K H (.ref a) (.type "dict")
 |dT {a:Addr}{A3:List (List Key×V)}(e:H a=some (.dT A3)):Ei K H (.ref a) (.type "dict")
 |ins {a C dx:Addr}{fs:List (Str×V)}(e:H a=some (.ins C dx fs)) (cl:Bt K C) (ha:PySem.W.findIn K (.ref C) "__class__"=some (some (.builtin "object.__class__")))
   (hn:PySem.W.specialIn K (.builtin "object.__class__") "__get__"=some (some (.builtin "getset_descriptor.__get__"))) (Jf:PySem.W.takesIn K (.builtin "object.__class__")=some true)
   (hm:PySem.W.mroIn K C (.type "object")=some true):Ei K H (.ref a) (.ref C)
theorem zh{x:V}{t:Value}(I:Inv X Zb Z H s)(d:RelV x u)(ty:Ei X.K H x t)(e:PySem.W.kitOne X.K t c=some b)(h:∀tk,Q (.bool b) { s with toks:=tk }):
  wpAny (model X.prog X.w) A (call (.builtin "isinstance") [u,c]) Q E s:=by
 cases ty with
 |AE=>cases(show u=Value.none from d);exact IA PySem.W.kitx_none I.CV True.intro e (λz=>nomatch z) h
 |bl y=>cases(show u=Value.bool y from d);exact IA PySem.W.kitx_bool I.CV True.intro e (λz=>nomatch z) h
 |int i=>obtain⟨t,q⟩:=(show ∃t,u=Value.int i t from d);cases q;exact IA PySem.W.kitx_int I.CV True.intro e (λz=>nomatch z) h
 |str y=>obtain⟨t,q⟩:=(show ∃t,u=Value.str y t from d);cases q;exact IA PySem.W.kitx_str I.CV True.intro e (λz=>nomatch z) h
 |K0 y=>obtain⟨t,q⟩:=(show ∃t,u=Value.float y t from d);cases q;exact IA PySem.W.kitx_float I.CV True.intro e (λz=>nomatch z) h
 |@lst a xs ea=>
  cases(show u=Value.ref a from d);obtain⟨_,_,n,_,h1⟩:=(show C1 X.prog X.w H s.heap a (.lst xs)from I.AN a _ ea);exact IA ZE0 I.CV ⟨_,h1,rfl⟩ e (λz=>nomatch z) h
 |@CM a ob xs ea=>
  cases(show u=Value.ref a from d);obtain⟨_,_,_,n,_,h1⟩:=(show C1 X.prog X.w H s.heap a (.CM ob (.lst xs))from I.AN a _ ea);exact IA ZE0 I.CV ⟨_,h1,rfl⟩ e (λz=>nomatch z) h
 |@tup a xs ea=>
  cases(show u=Value.ref a from d);obtain⟨_,_,_,p⟩:=(show C1 X.prog X.w H s.heap a (.tup xs)from I.AN a _ ea);obtain⟨o,h1,h2,_⟩:=p.1;exact IA PySem.W.kitx_tuple I.CV ⟨o,h1,h2⟩ e (λz=>nomatch z) h
 |@dK a A3 ea=>
  cases(show u=Value.ref a from d);obtain⟨_,_,vs,_,p⟩:=(show C1 X.prog X.w H s.heap a (.dK A3)from I.AN a _ ea);obtain⟨o,es,j,h1,h2,_⟩:=p;exact IA ZDz I.CV ⟨o,h1,h2.1⟩ e (λz=>nomatch z) h
 |@dT a A3 ea=>
  cases(show u=Value.ref a from d);obtain⟨_,_,xs,_,o,es,j,h1,h2,_⟩:=(show C1 X.prog X.w H s.heap a (.dT A3)from I.AN a _ ea);exact IA ZDz I.CV ⟨o,h1,h2.1⟩ e (λz=>nomatch z) h
 |@ins a C dx fs ea cl g hn Jf f=>
  cases(show u=Value.ref a from d);obtain⟨mA,O,_⟩:=Rr I.AN ea;obtain⟨k,J,_⟩:=O.look;exact IA (PySem.W.kitx_own (cl.get _) cl.hd g hn Jf f) I.CV J e (λz=>nomatch z) h
end
structure Bp (k:Nat) (A:Around):Prop where
 hd:A.handled=none
 dp:A.depth+3 * k+5<recursionLimit
 un:A.units+16 * k+200<cLine
theorem Bp.mono{k:Nat}(r:Bp k A)(h:j<=k):Bp j A:=⟨r.hd,by have:=r.dp;omega,by have:=r.un;omega⟩
theorem Bp.deeper{k:Nat}(r:Bp (k+1) A)(env:Env):Bp k (A.deeper env):=
 ⟨r.hd,by have:=r.dp;show A.depth+1+3 * k+5<_;omega,by have:=r.un;show A.units+3+16 * k+200<_;omega⟩
theorem pV:(A.under (.builtin "type.__call__" ⟨.ref C::us,kw⟩)).depth=A.depth+1:=by
 first|rfl|simp[Around.under,Code.weight,Code.isCreation,Code.isGuard,Code.isCaller,Code.frames,Code.isFrame,guardIds]
theorem ve:(A.under (.builtin "type.__call__" ⟨.ref C::us,kw⟩)).units=A.units+1:=by
 first|rfl|simp[Around.under,Code.cUnits,Code.frames,Code.isFrame]
theorem Bp.make{k:Nat}(r:Bp (k+1) A)(C:Addr)(us:List Value)(kw:List (Str×Value)):Bp k (A.under (.builtin "type.__call__" ⟨.ref C::us,kw⟩)):=
 ⟨r.hd,by have:=r.dp;rw[pV];omega,by have:=r.un;rw[ve];omega⟩
theorem Bp.depth{k:Nat}(r:Bp k A):A.depth<recursionLimit:=by have:=r.dp;omega
theorem Bp.units{k:Nat}(r:Bp k A):A.units+64<cLine:=by have:=r.un;omega
theorem Bp.IM{k:Nat}(r:Bp k A):A.units<cLine:=by have:=r.un;omega
def B5:TA:=λ_ H Q=>Q [] H
def AU(ta:TE)(tr:TA):TA:=λZ H Q=>ta Z H λx H1=>tr Z H1 λxs H2=>Q (x::xs) H2
section
variable{t:TA}
theorem wm(f:PE X e te)(hr:PA X es t)(hs:starEach (e::es) X.env=(false,eval e X.env)::starEach es X.env:=by rfl):PA X (e::es) (AU te t):=by
 intro pos Zb s Z H Q I h;rw[hs];show wpAny _ _ (spliced ((false,eval e X.env)::backTo pos (starEach es X.env))) _ _ s;refine jh (AR (f Zb s Z H _ I h) λu s1 Nn=>?_);obtain⟨x,H1,I1,b,d⟩:=Nn;exact AR (hr pos Zb s1 Z H1 _ I1 d) λus s2 AG=>by obtain⟨xs,H2,I2,a,c⟩:=AG;exact⟨x::xs,H2,I2,.cons b a,c⟩
def NX(t:TA):TE:=λZ H Q=>t Z H λxs H1=>xs.length<=sizeLine/\∀p,H1 p=none->Q (.ref p) (upd H1 p (.tup xs))
def Sb(t:TA):TE:=λZ H Q=>t Z H λxs H1=>xs.length<=sizeLine/\∀p,H1 p=none->Q (.ref p) (upd H1 p (.lst xs))
theorem ZAl{x1}(h:PA X es t):PE X (.Tuple es x1 pos) (NX t):=by
 intro Zb s Z H Q I c;refine wpAny_Tuple_spliced (AR (h pos Zb s Z H _ I c) λus s1⟨xs,H1,I1,r,z,q⟩=>⟨by rw[<- r.length];exact z,?_⟩);have d:H1 s1.heap.objs.size=none:=I1.AN.fresh (Ap _);refine⟨.ref s1.heap.objs.size,upd H1 s1.heap.objs.size (.tup xs),I1.laid (t':=s1.toks) (λb u e=>BZ _ e) (Ap _) ?_,rfl,q _ d⟩;exact⟨z,us,r,⟨_,CA _ rfl,rfl,_,rfl⟩,λS6 a=>by rw[CA _ rfl]at a;cases a;rfl⟩
theorem km(h:PA X es t):PE X (.List es pos) (Sb t):=by
 intro Zb s Z H Q I a;refine wpAny_List_spliced (AR (h pos Zb s Z H _ I a) λus s1⟨xs,H1,I1,r,z,q⟩=>⟨by rw[<- r.length];exact z,?_⟩);have c:H1 s1.heap.objs.size=none:=I1.AN.fresh (Ap _);refine⟨.ref s1.heap.objs.size,upd H1 s1.heap.objs.size (.lst xs),I1.laid (t':=s1.toks) (λb u e=>BZ _ e) (Ap _) ?_,rfl,q _ c⟩;exact⟨z,us,0,r,CA _ rfl⟩
end
abbrev Sp:=List V->Hp->VK->XK->Prop
abbrev Gd:=List Env->Hp->Shared->XK->Value->Shared->Prop
variable{CX:Gd}
structure L8 (P:Program) (w:World) (K:ZEe) (mg:ZEg) (Zu:Heap) (A:Around) (outer:List Env) (s:Shared) (H:Hp):Prop where
 frames:A.frames=some outer
 mod:Mod K mg Zu
 bs:∀b o,Zu.get? b=some o->s.heap.get? b=some o/\H b=none
 Ga:Zu.objs.size<=s.heap.objs.size
 Ek:s.heap.FunFrames Zu outer
 Hr:∀b∈D3 outer,H b=none
 AN:Bk P w H s.heap
 bare:AllBare s.gens
def CE(outer:List Env)(P:Program)(w:World)(H:Hp)(s:Shared)(Q:VK)(u:Value)(s':Shared):Prop:=
 ∃v H',s'.os=s.os/\AllBare s'.gens/\Un (D3 outer) [] H H' s.heap s'.heap/\Bk P w H' s'.heap/\RelV v u/\Q v H'
def CR(CX:Gd)(outer:List Env)(P:Program)(w:World)(H:Hp)(s:Shared)(Q:VK)(E:XK)(r:Result)(s':Shared):Prop:=
 match r with
 | .ok (.ret u)=>CE outer P w H s Q u s'
 | .ok _=>False
 | .error e=>CX outer H s E e s'
structure DN (P:Program) (w:World) (K:ZEe) (mg:ZEg) (Zu:Heap) (CX:Gd) (k:Nat) (f:Addr) (fd:FuncData) (ps:List Str) (sp:Sp):Prop where
 len:∀vs H Q E,sp vs H Q E->vs.length=ps.length
 run:∀(A:Around)(outer:List Env)(s:Shared)(H:Hp)(args:Args)(us:List Value)(vs:List V)(Q:VK)(E:XK),Bp k A->L8 P w K mg Zu A outer s H->BindsTo s fd args (ps.zip us)->Vals vs us->sp vs H Q E->
  codeAny (model P w) A (.call (.ref f) args) (CR CX outer P w H s Q E) s
theorem DN.mono{P:Program}{K:ZEe}{k:Nat}{f:Addr}{sp:Sp}(F:DN P w K mg Zu CX j f fd ps sp)(h:j<=k):
  DN P w K mg Zu CX k f fd ps sp:=⟨F.len,λA outer s H args us vs Q E hr=>F.run A outer s H args us vs Q E (hr.mono h)⟩
theorem L8.make{P:Program}{K:ZEe}(e:L8 P w K mg Zu A outer s H)(C:Addr)(us:List Value)(kw:List (Str×Value)):
  L8 P w K mg Zu (A.under (.builtin "type.__call__" ⟨.ref C::us,kw⟩)) outer s H:=⟨by first|exact e.frames|(simpa[Around.under,Code.envs,Code.isFrame,pushEnvs]using e.frames),e.mod,e.bs,e.Ga,e.Ek,e.Hr,e.AN,e.bare⟩
theorem Inv.fH(I:Inv X Zb Z H s):L8 X.prog X.w X.K X.mg X.base X.A X.stack s H:=
 ⟨I.ok.frames,I.ok.mod,I.bs,Cs I.ok.Ga I.sz,I.stack,I.TJ,I.AN,I.bare⟩
theorem Inv.after{Q:VK}(I:Inv X Zb Z H s)(h:CE X.stack X.prog X.w H s Q u s'):EP X Zb Z Q u s':=by
 obtain⟨v,H',os,bare,un,AN,r,q⟩:=h;obtain⟨hh,g,d,t,Xm⟩:=s';obtain rfl:Xm=s.os:=os;exact⟨v,H',I.call (h':=hh) (g':=g) (d':=d) (t':=t) (ch:=[]) un AN bare (λb z=>absurd z (by simp)),r,q⟩
def C9(sp:Sp)(Dc:List V)(E:XK)(t:TA):TE:=λZ H Q=>t Z H λvs H1=>sp (vs++Dc) H1 Q E
def Lf(C:Addr)(m:Str)(sp:Sp)(Dc:List V)(E:XK)(ta:TE)(t:TA):TE:=λZ H Q=>ta Z H λx H1=>∃a dx fs,x=.ref a/\H1 a=some (.ins C dx fs)/\fs.lookup m=none/\
 t Z H1 λvs H2=>sp (x::(vs++Dc)) H2 Q E
def XE(C:Addr)(sp:Sp)(Dc:List V)(E:XK)(t:TA):TE:=λZ H Q=>t Z H λvs H1=>∀x dx,H1 x=none->H1 dx=none->dx≠x->
 sp (.ref x::(vs++Dc)) (upd (upd H1 dx (.own x)) x (.ins C dx [])) (λv H2=>v=.AE/\Q (.ref x) H2) E
def Binds(K:ZEe)(fd:FuncData)(ps:List Str)(ds:List Value):Prop:=
 ∀(s:Shared)(us:List Value),K.In s.heap->(us++ds).length=ps.length->BindsTo s fd ⟨us,[]⟩ (ps.zip (us++ds))
theorem Binds.all{K:ZEe}(h:∀us:List Value,us.length=ps.length->bindArgs fd ⟨us,[]⟩=pure (ps.zip us)):Binds K fd ps []:=λs us _ a=>by
 rw[GA]at a ⊢;exact .of_eq (h us a)
def Passes(CX:Gd)(X:Cx)(E:XK):Prop:=∀(Zb:ZEf)(Z:St)(H:Hp)(s:Shared)(e:Value)(s':Shared),Inv X Zb Z H s->CX X.stack H s E e s'->X.xe e s'
section
variable{k:Nat}{f:Addr}{sp:Sp}{E:XK}{p apos:Pos}{o:Expr}{t:TA}
theorem dI{Q:VK}(F:DN X.prog X.w X.K X.mg X.base CX k f fd ps sp)(hr:Bp k X.A)(d:Binds X.K fd ps ds)(hd:Vals Dc ds)(hx:Passes CX X E)
  (I:Inv X Zb Z H s) (r:Vals vs us) (h:sp (vs++Dc) H Q E):wpAny (model X.prog X.w) X.A (call (.ref f) us) (EP X Zb Z Q) X.xe s:=by
 have b:Vals (vs++Dc) (us++ds):=r.append hd;have c:(us++ds).length=ps.length:=by rw[<- b.length];exact F.len _ _ _ _ h
 refine wpAny_call (z6 (F.run X.A X.stack s H ⟨us,[]⟩ (us++ds) (vs++Dc) Q E hr I.fH (d s us I.CV c) b h) λr s' a=>?_);cases r with
 |error e=>exact hx Zb Z H s e s' I a
 |ok g=>
  cases g with
  |ret u=>exact I.after a
  |next=>exact False.elim a
  |brk=>exact False.elim a
  |cont=>exact False.elim a
theorem qm(F:DN X.prog X.w X.K X.mg X.base CX k f fd ps sp)(hr:Bp k X.A)(c:Gl X x)(a:X.mg x=some (.ref f))(b:PySem.W.keepIn X.K (.ref f)=true)(d:Binds X.K fd ps ds)(hd:Vals Dc ds)(hx:Passes CX X E)
  (g:PA X (e::es) t) (CJ:(x == ("__debug__":Str))=false:=by decide) (he:starEach (e::es) X.env=(false,eval e X.env)::starEach es X.env:=by rfl) (CF:(backTo pos (starEach es X.env)).any (·.1)=false:=by rfl) :
  PE X (.Call (.Name x p) (e::es) [] pos) (C9 sp Dc E t):=by
 intro Zb s Z H Q I h;refine tQ (QC I c a ?_ CJ);refine kE (h₀:=X.base) I.ok.mod.Of b (AR (g pos Zb s Z H _ I h) λus s1⟨vs,H1,I1,r,q⟩=>⟨I1.CV,?_⟩) he CF;exact dI F hr d hd hx I1 r q
theorem va(i:PE X o ta)(c:Bt X.K C)(b:Meth X.K C m f)(F:DN X.prog X.w X.K X.mg X.base CX k f fd ps sp)(hr:Bp k X.A)(j:Binds X.K fd ps ds)(hd:Vals Dc ds)(hx:Passes CX X E)(n:PA X (e::es) t)
  (BY:starEach (e::es) X.env=(false,eval e X.env)::starEach es X.env:=by rfl) (CF:(backTo pos (starEach es X.env)).any (·.1)=false:=by rfl)
  (ht:eval (.Call (.Attribute o m apos) (e::es) [] pos) X.env=(do
   let ov <- eval o X.env
   standAt apos.atName
   let (f,first) <- holding [ov] (getMethod ov m pl)
   callWith pos f first (backTo pos (starEach (e::es) X.env)) (backToKw pos (keywordEach [] X.env))):=by rfl) :
  PE X (.Call (.Attribute o m apos) (e::es) [] pos) (Lf C m sp Dc E ta t):=by
 intro Zb s Z H Q I h;refine PySem.W.methodCall_KW (pl:=pl) (AR (i Zb s Z H _ I h) λu s1⟨x,H1,I1,d,a,dx,fs,ex,ea,l,q⟩=>?_) ht;subst ex;obtain rfl:u=Value.ref a:=d;refine xk I1 ea c b l ?_;refine kE (first:=[.ref a]) (h₀:=X.base) I.ok.mod.Of b.kp (AR (n pos Zb s1 Z H1 _ I1 q) λus s2⟨vs,H2,I2,r,g⟩=>⟨I2.CV,?_⟩) BY CF
 exact dI (us:=.ref a::us) (vs:=.ref a::vs) F hr j hd hx I2 (.cons rfl r) g
structure Mk (K:ZEe) (C f:Addr):Prop where
 makes:PySem.W.makesIn K C=true
 init:PySem.W.findIn K (.ref C) "__init__"=some (some (.ref f))
 fn:PySem.W.isFn K (.ref f)=true
 kp:PySem.W.keepIn K (.ref C)=true
theorem l9{Q:VK}(M:Mk X.K C f)(F:DN X.prog X.w X.K X.mg X.base CX k f fd ps sp)(hr:Bp (k+1) X.A)(j:Binds X.K fd ps ds)(hd:Vals Dc ds)
  (hx:Passes CX X E) (I:Inv X Zb Z H s) (r:Vals vs us)
  (h:∀x dx,H x=none->H dx=none->dx≠x->sp (.ref x::(vs++Dc)) (upd (upd H dx (.own x)) x (.ins C dx [])) (λv H2=>v=.AE/\Q (.ref x) H2) E) :
  wpAny (model X.prog X.w) X.A (call (.ref C) us) (EP X Zb Z Q) X.xe s:=by
 have c:=h (s.heap.objs.size+1) s.heap.objs.size (I.AN.fresh (Gr _)) (I.AN.fresh (Ap _)) (C0 (ZA _));have a:=Inv.made (C:=C) I;have b:Vals (V.ref (s.heap.objs.size+1)::(vs++Dc)) (Value.ref (s.heap.objs.size+1)::(us++ds)):=.cons rfl (r.append hd);have i:(Value.ref (s.heap.objs.size+1)::us++ds).length=ps.length:=by
  have e:=b.length;rw[F.len _ _ _ _ c]at e;exact e.symm
 refine wpAny_call (xy (f:=f) I.CV M.makes M.init (beq_iff_eq.mp M.fn) (z6 (F.run _ X.stack _ _ ⟨Value.ref (s.heap.objs.size+1)::us,[]⟩ (Value.ref (s.heap.objs.size+1)::(us++ds)) _ _ E (hr.make C us [])
  (a.fH.make C us []) (j _ (Value.ref (s.heap.objs.size+1)::us) a.CV i) b c) λr s' Im=>?_))
 cases r with
 |error e=>exact hx Zb Z _ _ e s' a Im
 |ok l=>
  cases l with
  |ret u=>
   obtain⟨v,H',I3,d,m,g⟩:=a.after Im;subst m;exact⟨d,⟨V.ref (s.heap.objs.size+1),H',I3,rfl,g⟩⟩
  |next=>exact False.elim Im
  |brk=>exact False.elim Im
  |cont=>exact False.elim Im
theorem uF(M:Mk X.K C f)(F:DN X.prog X.w X.K X.mg X.base CX k f fd ps sp)(hr:Bp (k+1) X.A)(b:Gl X x)(a:X.mg x=some (.ref C))(c:Binds X.K fd ps ds)(hd:Vals Dc ds)(hx:Passes CX X E)
  (d:PA X (e::es) t) (CJ:(x == ("__debug__":Str))=false:=by decide) (he:starEach (e::es) X.env=(false,eval e X.env)::starEach es X.env:=by rfl) (CF:(backTo pos (starEach es X.env)).any (·.1)=false:=by rfl) :
  PE X (.Call (.Name x p) (e::es) [] pos) (XE C sp Dc E t):=by
 intro Zb s Z H Q I h;refine tQ (QC I b a ?_ CJ);refine kE (h₀:=X.base) I.ok.mod.Of M.kp (AR (d pos Zb s Z H _ I h) λus s1⟨vs,H1,I1,r,q⟩=>⟨I1.CV,?_⟩) he CF;exact l9 M F hr c hd hx I1 r q
variable{kws:List Keyword}{tk:TA}{nm:Option Str}{g:List Value->List Value->List Value}{gV:List V->List V->List V}
end
structure Aw (N P:List Str) (sc:Scope):Prop where
 kind:sc.kind=.function
 co:sc.isCoroutine=false
 gen:sc.isGenerator=false
 nd:N.Nodup
 pre:N.take P.length=P
 par:∀x∈P,sc.names.lookup x=some .local∨sc.names.lookup x=some .cell
 ZC0:∀y∈sc.names,y.2≠.free
theorem Za{a:Str->Option NameKind}{x:Str}:∀{binds:List (Str×Value)}{m:ZEg},(∀v,(x,v)∉binds)->bindL a binds m x=m x
 | [],_,_=>rfl
 | (n,v)::r,m,h=>by
  unfold bindL;rw[Za λw hw=>h w (DK _ hw)];split
  .have:x≠n:=by rintro rfl;exact h v Cz
   simp[this]
  .rfl
theorem bX{a:Str->Option NameKind}{x:Str}:∀{binds:List (Str×Value)}{m:ZEg},(∀v,(x,v)∉binds)->bindC a binds m x=m x
 | [],_,_=>rfl
 | (n,v)::r,m,h=>by
  unfold bindC;rw[bX λw hw=>h w (DK _ hw)];split
  .rfl
  .have:x≠n:=by rintro rfl;exact h v Cz
   simp[this]
theorem cb{a:Str->Option NameKind}{x:Str}{v:Value}:∀{P:List Str}{vs:List Value}{i:Nat}{m:ZEg},P.Nodup->P[i]?=some x->vs[i]?=some v->a x=some .local->
  bindL a (P.zip vs) m x=some v
 | [],_,_,_,_,h,_,_=>by simp at h
 |_::_,[],_,_,_,_,h,_=>by simp at h
 |p::P,w::vs,0,m,nd,h1,h2,hk=>by
  simp at h1 h2;subst h1;subst h2;show bindL a ((p,w)::P.zip vs) m p=_;unfold bindL;rw[Za λv b=>(List.nodup_cons.mp nd).1 (Z7 b).1,md hk];simp
 |p::P,w::vs,i+1,m,nd,h1,h2,hk=>by
  show bindL a ((p,w)::P.zip vs) m x=_;unfold bindL;exact cb (i:=i) (List.nodup_cons.mp nd).2 (by simpa using h1) (by simpa using h2) hk
theorem Zd{a:Str->Option NameKind}{x:Str}{v:Value}:∀{P:List Str}{vs:List Value}{i:Nat}{m:ZEg},P.Nodup->P[i]?=some x->vs[i]?=some v->a x≠some .local->
  bindC a (P.zip vs) m x=some v
 | [],_,_,_,_,h,_,_=>by simp at h
 |_::_,[],_,_,_,_,h,_=>by simp at h
 |p::P,w::vs,0,m,nd,h1,h2,hk=>by
  simp at h1 h2;subst h1;subst h2;show bindC a ((p,w)::P.zip vs) m p=_;unfold bindC;rw[bX λv b=>(List.nodup_cons.mp nd).1 (Z7 b).1,mY hk];simp
 |p::P,w::vs,i+1,m,nd,h1,h2,hk=>by
  show bindC a ((p,w)::P.zip vs) m x=_;unfold bindC;exact Zd (i:=i) (List.nodup_cons.mp nd).2 (by simpa using h1) (by simpa using h2) hk
noncomputable def start(N:List Str)(vs:List V):St:=vs.map some++List.replicate (N.length - vs.length) none
noncomputable def LF(CX:Gd)(P:Program)(w:World)(K:ZEe)(mg:ZEg)(Zu:Heap)(N:List Str)(qual:Str)(scope:Scope)(f:Addr)(cd:Value)(A:Around)(outer:List Env)(s:Shared)(H:Hp)(E:XK):Cx where
 prog:=P
 w:=w
 K:=K
 mg:=mg
 base:=Zu
 A:=A.deeper (envOfC qual scope s.heap.objs.size f cd)
 N:=N
 s₀:=s
 H₀:=H
 env:=envOfC qual scope s.heap.objs.size f cd
 outer:=outer
 stack:=envOfC qual scope s.heap.objs.size f cd::outer
 ex:=[]
 calm:=true
 fn:=λ_=>true
 pn:=[]
 xe:=λe s'=>wpAny (model P w) (A.deeper (envOfC qual scope s.heap.objs.size f cd)) (leaving (envOfC qual scope s.heap.objs.size f cd) e) (λ_ OK=>CX outer H s E e OK) (λa OK=>CX outer H s E a OK) s'
theorem ia(h:sc.names.lookup x=some .cell):∃c,(cellsFrom n sc.names []).lookup x=some c:=by
 have q:=ZDy sc.names n [] (.inl h);exact Option.isSome_iff_exists.mp q
theorem zj{P:Program}{K:ZEe}{f:Addr}{s1:Shared}{E:XK}
  (S:Aw N ps scope) (hd:A.handled=none) (e0:L8 P w K mg Zu A outer s H) (C:vs.length=ps.length) (r:Vals vs us)
  (x:InCallC s s.heap.objs.size (bindL (envOfC qual scope s.heap.objs.size f cd).kindOf (ps.zip us) λ_=>none) (cellsFrom (s.heap.objs.size+1) scope.names []) (bindC (envOfC qual scope s.heap.objs.size f cd).kindOf (ps.zip us) λ_=>none) s1) :
  Inv (LF CX P w K mg Zu N qual scope f cd A outer s H E) [] (start N vs) H s1:=by
 have F:ps.length<=N.length:=by have:=sA List.length S.pre;rw[CK]at this;omega
 obtain⟨h1,tk,rfl,m⟩:=x.done;have j:∀b:Addr,b∉(LF CX P w K mg Zu N qual scope f cd A outer s H E).ex:=λb z=>absurd (show b∈([]:List Addr)from z) (by simp);refine⟨⟨e0.mod,S.kind,rfl,rfl,Ap _,λy z c h1 h2=>?_,λy d=>?_,λy c _ h=>?_,λ_=>hd,Around.frames_deeper e0.frames,.inr ⟨rfl,rfl⟩,λb z=>absurd z (j b),e0.bs,e0.Ga,λb _ _=>j b,λb z=>absurd z (j b),e0.Ek,e0.Hr⟩,
  rfl,e0.bare,Un.kept m,⟨_,x.toInCall.ns,λi y v h1 h2 D=>?_⟩,λy c h=>⟨_,x.cell y c h⟩,e0.AN.fresh (Ap _),λy c h=>?_,λp g=>absurd (show p∈([]:ZEf)from g) (by simp),e0.AN.kept m,?_⟩
 .exact name_of_addr x.apart (LR h1) (LR h2)
 .have d:scope.names.lookup y=some .cell∨scope.names.lookup y=some .free:=d;rcases d with d|d
  .exact ia d
  .exact absurd rfl (S.ZC0 _ (LR d))
 .exact T4 (x.above y c (LR h))
 .have hi:i<vs.length:=by
   unfold start at h2
   by_cases hi:i<vs.length
   .exact hi
   .rw[JA (by simpa using hi)]at h2
    rw[jo]at h2;split at h2 <;> cases h2
  have B:vs[i]?=some v:=by
   unfold start at h2;rw[Hc (by simpa using hi),BG]at h2
   cases e:vs[i]? with
   |none=>rw[e]at h2;cases h2
   |some a=>rw[e]at h2;cases h2;rfl
  obtain⟨u,l,t⟩:=r.get B;have g:ps[i]?=some y:=by
   rw[<- S.pre,List.getElem?_take_of_lt (by omega)];exact h1
  have o:ps.Nodup:=by rw[<- S.pre];exact S.nd.sublist (List.take_sublist _ _)
  refine⟨u,t,?_⟩;rcases S.par y (Cr g)with k|k
  .exact .inl ⟨k,cb o g l k⟩
  .obtain⟨c,e⟩:=ia (n:=s.heap.objs.size+1) k;refine .inr ⟨.inl k,c,e,?_⟩;have q:=x.cell y c e;rw[Zd o g l (by show scope.names.lookup y≠_;rw[k];decide)]at q;exact q
 .exact e0.AN.fresh (T4 (x.above y c (LR h)))
 .unfold start;show _=N.length;rw[Bu,AW,jr];omega
theorem lV{P:Program}{K:ZEe}{k:Nat}{f:Addr}{a:Arguments}{body:List Stmt}{j kV d i Ae ct B:Value}{l z:Option Addr}
  {Jm:Array (Option Value)}{sp:Sp}(C:K.lookup f=some ⟨B,z,.func (PySem.W.fnOf name qual a body scope j kV d i l Ae ct),Jm⟩) (Gu:PySem.W.codeIn K Ae qual=true) (S:Aw N ps scope)
  (len:∀vs H Q E,sp vs H Q E->vs.length=ps.length)
  (P7:∀(A:Around)(outer:List Env)(s:Shared)(H:Hp)(vs:List V)(Q:VK)(E:XK),Bp k (A.deeper (envOfC qual scope s.heap.objs.size f Ae))->sp vs H Q E->
   ∃t,Dd (LF CX P w K mg Zu N qual scope f Ae A outer s H E) body t/\t { nx:=λ_ H'=>Q .AE H',rt:=Q } (start N vs) H) :
  DN P w K mg Zu CX (k+1) f (PySem.W.fnOf name qual a body scope j kV d i l Ae ct) ps sp:=by
 refine⟨len,λA outer s H args us vs Q E hr e0 O r G0=>?_⟩;have L:=len _ _ _ _ G0;have m:K.In s.heap:=e0.mod.Of.keeps λb o e=>(e0.bs b o e).1;have h:s.heap.NoLimit:=e0.mod.nolimit.keeps λb o e=>(e0.bs b o e).1;have p:∀y∈ps.zip us,scope.names.lookup y.1=some .local∨(scope.names.lookup y.1=some .cell/\((cellsFrom (s.heap.objs.size+1) scope.names []).lookup y.1).isSome=true):=λ⟨n,v⟩D=>by
  rcases S.par n (Z7 D).1 with q|q
  .exact .inl q
  .exact .inr ⟨q,ZDy _ _ _ (.inl q)⟩
 refine codeAny_call_function hr.depth (m _ _ C) rfl S.co S.gen rfl (PySem.W.codeRec_of m Gu) (O _ _ _ _ ?_);refine wpAny_newFunctionEnv_cells S.kind p λenv M s1 x=>?_;subst M;refine⟨h.keeps x.toInCall.keep,codeAny_func ?_⟩;obtain⟨t,F,G⟩:=P7 A outer s H vs Q E (hr.deeper _) G0;have I:Inv (LF CX P w K mg Zu N qual scope f Ae A outer s H E) [] (start N vs) H s1:=zj S hr.hd e0 L r x;refine qr (F [] s1 (start N vs) H _ I G) (λR s' hs=>?_) λe s' hs=>hs;have c:∀{σ':St}{H':Hp}{v:V}{u:Value},Inv (LF CX P w K mg Zu N qual scope f Ae A outer s H E) [] σ' H' s'->RelV v u->Q v H'->CE outer P w H s Q u s':=
  λ{σ' H' v u}J g q=>⟨v,H',J.os,J.bare,J.base,J.AN,g,q⟩
 cases R with
 |ret u=>
  obtain⟨v,σ',H',J,g,q⟩:=hs;exact c J g q
 |next=>
  obtain⟨σ',H',J,q⟩:=hs;exact c (v:=V.AE) (u:=Value.none) J rfl q
 |brk=>
  obtain⟨_,_,_,q⟩:=hs;exact False.elim q
 |cont=>
  obtain⟨_,_,_,q⟩:=hs;exact False.elim q
section
variable{p:Pos}{t:TA}{id T:String}{r:List V->Hp->VK->Prop}
def DD(r:List V->Hp->VK->Prop)(t:TA):TE:=λZ H Q=>t Z H λvs H1=>r vs H1 Q
end
end L2
namespace HT
variable{E Q:Value->Shared->Prop}{sl t:Addr}{v vl vu:Value}{hi o:Option Int}
section
open PySem.SeqAt
open PySem.AutoSeq1 (wpAny_loadPart')
open PySem.MeetsSeq PySem.MeetsSeq2 PySem.MeetsSeq3
end
section
variable{prog:Program}{w:World}{A:Around}{s:Shared}
theorem wc{b:Addr}{vs ws:List Value}(g:IsTup s.heap t vs.toArray)(h:IsTup s.heap b ws.toArray)(d:vs≠[])
  (h1:ws=[]->Q (.ref t) s) (h2:ws≠[]->Q (.ref s.heap.objs.size) { s with heap:=s.heap.push { cls:=.type "tuple", data:=.seq (vs++ws).toArray } })
  (hsz:vs.length+ws.length<=sizeLine):wpAny (model prog w) A (binaryOp .Add (.ref t) (.ref b)) Q E s:=by
 obtain⟨⟨cls,dd,data,sl⟩,ho,f,n,hd⟩:=id g;obtain⟨⟨i,Pk,c,Iu⟩,L6,KQ,n2,a⟩:=id h;simp only at f hd KQ a;subst f hd KQ a;have e:vs.toArray++ws.toArray=(vs++ws).toArray:=by simp
 by_cases hw:ws=[]
 .exact concat_meets ⟨_,ho,rfl⟩ ⟨_,L6,rfl⟩ z5 seq_tuple_add kD kC (kB _ _)
   (tuple_addW1 t b vs.toArray ws.toArray n n2 dd Pk sl Iu (by simpa using d) (by simp[hw])) ⟨ho,L6,h1 hw⟩
 .refine concat_meets ⟨_,ho,rfl⟩ ⟨_,L6,rfl⟩ z5 seq_tuple_add kD kC (kB _ _)
   (tuple_addW2 t b vs.toArray ws.toArray n n2 dd Pk sl Iu (by simpa using d) (by simpa using hw) (by rw[Bl,Bl];exact hsz)) ⟨ho,L6,?_⟩
  rw[e];exact h2 hw
noncomputable def Aq(n d:Nat):Option Int->Nat
 |none=>d
 |some v=>if v<0 then(v+(n:Int)).toNat else min v.toNat n
theorem dU(n d:Nat):Aq n d none=d:=rfl
theorem Qz(n d k:Nat):Aq n d (some (k:Int))=min k n:=by
 show(if(k:Int)<0 then((k:Int)+(n:Int)).toNat else min (k:Int).toNat n)=min k n
 rw[mY (by omega),Sn]
theorem lg(n d:Nat)(hd:d<=n)(o:Option Int):Aq n d o<=n:=by
 cases o with
 |none=>exact hd
 |some v=>
  show(if v<0 then(v+(n:Int)).toNat else min v.toNat n)<=n
  by_cases a:v<0
  .rw[md a];omega
  .rw[mY a];exact ZDn _ _
theorem aw(v:Int)(n d:Nat):(if v<0 then max (v+(n:Int)) 0 else min v (n:Int))=((Aq n d (some v):Nat):Int):=by
 show(if v<0 then max (v+(n:Int)) 0 else min v (n:Int))=(((if v<0 then(v+(n:Int)).toNat else min v.toNat n):Nat):Int)
 by_cases a:v<0
 .simp only[md a];omega
 .simp only[mY a];omega
theorem uW(lo hi:Option Int)(n:Nat):Builtin.Slice.sliceAdjust lo hi 1 (n:Int)=(((Aq n 0 lo:Nat):Int),((Aq n n hi:Nat):Int)):=by
 have h1:¬ ((1:Int)<0):=by omega
 unfold Builtin.Slice.sliceAdjust;simp only[h1,yT];refine Prod.ext ?_ ?_
 .cases lo with
  |none=>rfl
  |some v=>exact aw v n 0
 .cases hi with
  |none=>rfl
  |some v=>exact aw v n n
theorem qC(i j:Nat):Builtin.Slice.slicePlaces (i:Int) (j:Int) 1=j - i:=by
 unfold Builtin.Slice.slicePlaces;have h1:(1:Int) > 0:=by omega
 simp only[h1,zy,Int.ediv_one];split <;> omega
theorem cH{Q:Option Int->Shared->Prop}(p:IsPart v o)(h:Q o s):wpAny (model prog w) A (Builtin.Slice.slicePartIndex v) Q E s:=by
 cases p with
 |none=>exact slicePart_none h
 |int i t=>exact slicePart_int h
theorem gM{lo:Option Int}{n:Nat}{Q:Int×Int×Nat->Shared->Prop}(hs:s.heap.IsSliceOf sl vl vu .none)(pl:IsPart vl lo)(a:IsPart vu hi)
  (h:Q (((Aq n 0 lo:Nat):Int),1,Aq n n hi - Aq n 0 lo) s):wpAny (model prog w) A (Builtin.Slice.sliceApplied (.ref sl) (pure (n:Int))) Q E s:=by
 obtain⟨os,Kv,Qr,OM⟩:=id hs;unfold Builtin.Slice.sliceApplied Builtin.Slice.sliceFields;refine lr (lr (vT Kv OM (x:=vl) rfl (lr (vT Kv OM (x:=vu) rfl (lr (vT Kv OM (x:=.none) rfl (oo ?_)))))));refine lr (slicePart_none ?_);show wpAny _ _ (if((1:Int) == 0)=true then _ else _) _ _ s
 rw[mY (by decide)];refine lr (cH pl (lr (cH a (lr (oo ?_)))));show wpAny _ _ (match Builtin.Slice.sliceAdjust lo hi 1 (n:Int)with|(lo,hi)=>pure (lo,(1:Int),Builtin.Slice.slicePlaces lo hi 1)) _ _ s
 rw[uW lo hi n];show wpAny _ _ (pure (((Aq n 0 lo:Nat):Int),(1:Int),Builtin.Slice.slicePlaces ((Aq n 0 lo:Nat):Int) ((Aq n n hi:Nat):Int) 1)) _ _ s;rw[qC];exact oo h
theorem ZB6(xs:Array Value)(i k:Nat):((List.range k).filterMap λ(m:Nat)=>xs[((i:Int)+(m:Int) * 1).toNat]?).toArray=((xs.toList.drop i).take k).toArray:=by
 have e:(λ(m:Nat)=>xs[((i:Int)+(m:Int) * 1).toNat]?)=λm=>xs[i+m]?:=by
  funext m
  have:((i:Int)+(m:Int) * 1).toNat=i+m:=by omega
  rw[this]
 rw[e];have:=pick_run xs i k;rw[List.filterMap_map]at this;have a:((λx=>xs[x]?) ∘ λx=>i+x)=λm=>xs[i+m]?:=rfl;rw[a]at this;rw[this]
theorem ZCA{items:Array Value}{lo:Option Int}(a:IsTup s.heap t items)(hs:s.heap.IsSliceOf sl vl vu .none)(pl:IsPart vl lo)(c:IsPart vu hi)
  (hw:¬ (Aq items.size 0 lo=0/\Aq items.size items.size hi=items.size))
  (h:Q (.ref s.heap.objs.size) { s with heap:=s.heap.push { cls:=.type "tuple", data:=.seq ((items.toList.drop (Aq items.size 0 lo)).take (Aq items.size items.size hi - Aq items.size 0 lo)).toArray } })
  (hsz:items.size<=sizeLine):wpAny (model prog w) A (getItem (.ref t) (.ref sl)) Q E s:=by
 have b:sizeOk (.seq ((items.toList.drop (Aq items.size 0 lo)).take (Aq items.size items.size hi - Aq items.size 0 lo)).toArray):=by
  show((items.toList.drop (Aq items.size 0 lo)).take (Aq items.size items.size hi - Aq items.size 0 lo)).toArray.size<=sizeLine;rw[Bl,CK,FA,N2];omega
 have i:Aq items.size items.size hi<=items.size:=lg _ _ (Ap _) hi;obtain⟨os,Kv,Qr,OM⟩:=id hs;have d:s.TypeIs (.ref sl) "slice" := ⟨os,Kv,Qr⟩;unfold getItem
 try with_reducible refine uI ?_
 first|refine lr (oo ?_)|skip
 refine lr (wpAny_sequenceKey a.typeIs (by decide) ?_);refine lr (wpAny_callSpecial?_slot (name:=Str.ofString "__getitem__") a.typeIs ZG
  (yx ZG a.typeIs entry_tuple_getitem ?_ (args_tuple_getitem _ _)))
 show wpAny _ _ (Builtin.Tuple.tupleItemsOf (.ref t) >>= _) _ _ s;refine lr (tupleItemsOf_ a ?_);refine lr (uM d ?_);rw[md (by decide)];refine lr (gM hs pl c ?_);have e:¬ ((((Aq items.size 0 lo:Nat):Int) == 0 && (1:Int) == 1 && (Aq items.size items.size hi - Aq items.size 0 lo) == items.size)=true):=by
  intro q;rw[Ez,Ez]at q;have g:((Aq items.size 0 lo:Nat):Int)=0:=eq_of_beq q.1.1;have f:Aq items.size items.size hi - Aq items.size 0 lo=items.size:=eq_of_beq q.2;exact hw ⟨by omega,by omega⟩
 show wpAny _ _ (if(((Aq items.size 0 lo:Nat):Int) == 0 && (1:Int) == 1 && (Aq items.size items.size hi - Aq items.size 0 lo) == items.size)=true then _ else _) _ _ s
 rw[mY e,ZB6]
 first
  |exact lr (m:=Builtin.Tuple.tupleExact _) (uB (oo ⟨_,rfl,oo h⟩) b)
  |exact lr (m:=Builtin.Tuple.tupleExact _) (uB (lr (oo (oo ⟨_,rfl,oo h⟩))) b)
  |exact lr (lr (m:=Builtin.Tuple.tupleExact _) (uB (oo (oo ⟨_,rfl,oo h⟩)) b))
  |exact lr (lr (m:=Builtin.Tuple.tupleExact _) (uB (oo ⟨_,rfl,oo h⟩) b))
end
end HT
namespace L2
variable{X:Cx}{pos:Pos}{xs ys:List V}{A5 its' us:List Value}{α:Type}{j n t':Nat}{i:Int}{Zb:ZEf}{Z:St}{H:Hp}{s:Shared}{A:Around}{x y:V}{u v:Value}{T:String}
abbrev TO:=St->Hp->(Option Int->Hp->Prop)->Prop
def PO(X:Cx)(e:Option Expr)(t:TO):Prop:=
 ∀(Zb:ZEf)(s:Shared)(Z:St)(H:Hp)(Q:Option Int->Hp->Prop),Inv X Zb Z H s->t Z H Q->
  wpAny (model X.prog X.w) X.A (evalPart e X.env) (λu s'=>∃o H',Inv X Zb Z H' s'/\IsPart u o/\Q o H') X.xe s
def aQ:TO:=λ_ H Q=>Q none H
def Oz(t:TE):TO:=λZ H Q=>t Z H λx H1=>∃i,x=.int i/\Q (some i) H1
section
variable{e:Expr}{te:TE}{lo hi:Option Expr}{tl th:TO}{p2:Pos}
def KH(X:Cx)(r:V->Option Int->Option Int->Hp->VK->Prop):Prop:=
 ∀(Zb:ZEf)(s:Shared)(Z:St)(H:Hp)(x:V)(v vl vu:Value)(lo hi:Option Int)(sl:Addr)(Q:VK),Inv X Zb Z H s->RelV x v->s.heap.IsSliceOf sl vl vu .none->IsPart vl lo->IsPart vu hi->r x lo hi H Q->
  ∃T id,typeLookup (.type T) "__getitem__"=pure (some (.builtin id))/\s.TypeIs v T/\wpAny (model X.prog X.w) X.A (getItem v (.ref sl)) (EP X Zb Z Q) X.xe s
def i3(r:V->Option Int->Option Int->Hp->VK->Prop)(te:TE)(tl th:TO):TE:=λZ H Q=>te Z H λx H1=>tl Z H1 λl H2=>th Z H2 λu H3=>r x l u H3 Q
def Cg(xs:List V)(lo hi:Option Int):List V:=(xs.drop (HT.Aq xs.length 0 lo)).take (HT.Aq xs.length xs.length hi - HT.Aq xs.length 0 lo)
theorem dz(xs:List V)(lo hi:Option Int):(Cg xs lo hi).length<=xs.length:=by
 unfold Cg;rw[CK,FA];omega
def mU(K:ZEe):V->Option Int->Option Int->Hp->VK->Prop:=λx lo hi H Q=>∃a xs,x=.ref a/\AA K H a xs/\
 ¬ (HT.Aq xs.length 0 lo=0/\HT.Aq xs.length xs.length hi=xs.length)/\∀p,H p=none->Q (.ref p) (upd H p (.tup (Cg xs lo hi)))
theorem eB:KH X (mU X.K):=by
 intro Zb s Z H x v vl vu lo hi sl Q I f hs pl g h;obtain⟨a,xs,rfl,hx,hw,q⟩:=h;cases f;obtain⟨A5,r,d,hz⟩:=I.tuple hx;have c:A5.toArray.size=xs.length:=by rw[Bl];exact r.length.symm
 refine⟨"tuple", _,PyProof.Rows.slot_tuple_getitem.lookup,d.typeIs,?_⟩;refine HT.ZCA d hs pl g (by rw[c];exact hw) ?_ (by rw[c];exact hz);rw[c];refine⟨.ref s.heap.objs.size,_,I.laid (t':=s.toks) (o:=.tup (Cg xs lo hi)) (λb ob q=>BZ _ q) (Ap _) ?_,rfl,q _ (I.AN.fresh (Ap _))⟩;exact⟨Cs (dz xs lo hi) hz,_,(r.drop (HT.Aq xs.length 0 lo)).take (HT.Aq xs.length xs.length hi - HT.Aq xs.length 0 lo),⟨IsTup.new _ _,λS6 e=>by rw[CA _ rfl]at e;cases e;rfl⟩⟩
def y0(K:ZEe):R2:=λx y H Q=>∃a b xs ys,x=.ref a/\y=.ref b/\AA K H a xs/\AA K H b ys/\xs≠[]/\xs.length+ys.length<=sizeLine/\
 (ys=[]->Q (.ref a) H)/\(ys≠[]->∀p,H p=none->Q (.ref p) (upd H p (.tup (xs++ys))))
theorem Vals.QU(r:Vals xs us):us=[]↔xs=[]:=by
 cases r with
 |nil=>simp
 |cons _ _=>simp
theorem sg:BH X (binaryOp .Add) (y0 X.K):=by
 intro Zb s Z H x y v u Q I g f h;obtain⟨a,b,xs,ys,rfl,rfl,m,l,hx,hz,j,i⟩:=h;cases g;cases f;obtain⟨A5,d,k,_⟩:=I.tuple m;obtain⟨Bd,c,p2,_⟩:=I.tuple l;refine HT.wc k p2 (λz=>hx (d.QU.mp z)) (λz=>⟨.ref a,H,I,rfl,j (c.QU.mp z)⟩) (λz=>?_) (by rw[<- d.length,<- c.length];exact hz);refine⟨.ref s.heap.objs.size,_,I.laid (t':=s.toks) (o:=.tup (xs++ys)) (λb ob q=>BZ _ q) (Ap _) ?_,rfl,i (λw=>z (c.QU.mpr w)) _ (I.AN.fresh (Ap _))⟩;exact⟨by rw[Bu];exact hz,_,d.append c,⟨IsTup.new _ _,λS6 e=>by rw[CA _ rfl]at e;cases e;rfl⟩⟩
end
noncomputable def GU(n:Nat)(i:Int):Option Nat:=if 0<=i then(if i<n then some i.toNat else none)else if -(n:Int)<=i then some (i+n).toNat else none
def Bf(xs:List α)(i:Int):Option α:=(GU xs.length i).bind λj=>xs[j]?
theorem iP(h:GU n i=some j):seqIndex? i n=some j/\j<n/\-(n:Int)<=i/\i<n:=by
 unfold GU at h
 by_cases a:0<=i
 .rw[md a]at h
  by_cases h1:i<n
  .rw[md h1]at h;have e:i.toNat=j:=BL h;exact⟨by rw[seqIndex_of a h1,e],by omega,by omega,h1⟩
  .rw[mY h1]at h;cases h
 .rw[mY a]at h
  by_cases h1:-(n:Int)<=i
  .rw[md h1]at h;have e:(i+n).toNat=j:=BL h;exact⟨by rw[seqIndex_neg (by omega) h1,e],by omega,h1,by omega⟩
  .rw[mY h1]at h;cases h
theorem WX{xs:List α}{v:α}(h:Bf xs i=some v):∃j,seqIndex? i xs.length=some j/\xs[j]?=some v/\j<xs.length/\-(xs.length:Int)<=i/\i<xs.length:=by
 unfold Bf at h;cases e:GU xs.length i with
 |none=>rw[e]at h;cases h
 |some j=>
  rw[e]at h;obtain⟨h1,h2,b,a⟩:=iP e;exact⟨j,h1,h,h2,b,a⟩
theorem TB{xs:List α}{v:α}(h:xs[j]?=some v):Bf xs (j:Int)=some v:=by
 have a:j<xs.length:=(List.getElem?_eq_some_iff.mp h).1;have e:GU xs.length (j:Int)=some j:=by
  unfold GU;rw[md (by omega),md (by omega)];simp
 unfold Bf;rw[e];exact h
def Y2(b:Expr):Prop:=∀o i,subscripted b false o i=operate [o,i] (getItem o i)
def HZ(X:Cx)(r:R2):Prop:=
 ∀(value a:Expr)(Zb:ZEf)(s:Shared)(Z:St)(H:Hp)(x y:V)(v u:Value)(Q:VK),Inv X Zb Z H s->RelV x v->RelV y u->r x y H Q->
  subscripted a false v u=operate [v,u] (getItem v u)->wpAny (model X.prog X.w) X.A (subscriptTail value a v u) (EP X Zb Z Q) X.xe s
def MZ(X:Cx)(id:String)(r:V->List V->Hp->VK->Prop):Prop:=
 ∀(Zb:ZEf)(s:Shared)(Z:St)(H:Hp)(x:V)(xs:List V)(v:Value)(us:List Value)(Q:VK),Inv X Zb Z H s->RelV x v->Vals xs us->r x xs H Q->
  wpAny (model X.prog X.w) X.A (call (.builtin id) (v::us)) (EP X Zb Z Q) X.xe s
section
variable{a b:Expr}{ta tb:TE}
def RW(K:ZEe):R2:=λx y H Q=>∃p xs i v,x=.ref p/\y=.int i/\AJ K H p xs/\Bf xs i=some v/\Q v H
def Ht(K:ZEe):R2:=λx y H Q=>∃p xs i v,x=.ref p/\y=.int i/\AA K H p xs/\Bf xs i=some v/\Q v H
def pf:R2:=λx y H Q=>∃z i c,x=.str z/\y=.int i/\z.length<=sizeLine/\Bf z.cps.toList i=some c/\Q (.str ⟨#[c]⟩) H
theorem EV:HZ X (RW X.K):=by
 intro value b Zb s Z H x y v u Q I g f h hs;obtain⟨p,xs,i,z,rfl,rfl,k,m,q⟩:=h;cases g;obtain⟨t,rfl⟩:=f;obtain⟨A5,r,pl,hz⟩:=I.list k;obtain⟨j,h1,h2,o,n,h5⟩:=WX m;obtain⟨w,e,Fo⟩:=r.get h2;have l:=r.length;have hn:=Ju;have a:EP X Zb Z Q w s:=⟨z,H,I,Fo,q⟩
 by_cases d:0<=i
 .have c:i.toNat=j:=by
   rw[seqIndex_of d h5]at h1;exact BL h1
  exact item_listR pl.isList d (by omega) (by rw[c];simpa using e) a hs
 .have c:(i+(A5.toArray.size:Int)).toNat=j:=by
   rw[seqIndex_neg (by omega) n]at h1;rw[Bl,<- l];exact BL h1
  exact subscriptTail_builtinR (x:=w) pl.isList.typeIs slot_list_getitem.lookup
   (wpAny_getItem_list_neg (Q:=λr s'=>r=w/\EP X Zb Z Q r s') pl.isList (by omega) (by rw[Bl] <;> omega) (by omega) (by rw[c];simpa using e) ⟨rfl,a⟩) hs
theorem AL:HZ X (Ht X.K):=by
 intro value a Zb s Z H x y v u Q I d c h hs;obtain⟨p,xs,i,z,rfl,rfl,e,g,q⟩:=h;cases d;obtain⟨t,rfl⟩:=c;obtain⟨A5,r,pl,hz⟩:=I.tuple e;obtain⟨j,h1,h2,m,l,h5⟩:=WX g;obtain⟨w,k,Fo⟩:=r.get h2;have f:=r.length;have hn:=Ju;have b:EP X Zb Z Q w s:=⟨z,H,I,Fo,q⟩;exact subscriptTail_builtinR (x:=w) pl.typeIs slot_tuple_getitem.lookup
  (getItem_tuple (j:=j) (Q:=λr s'=>r=w/\EP X Zb Z Q r s') pl (by omega) (by omega) (by rw[Bl,<- f];exact h1) (by simpa using k) ⟨rfl,b⟩) hs
theorem nr:HZ X pf:=by
 intro value a Zb s Z H x y v u Q I d b h hs;obtain⟨z,i,c,rfl,rfl,hz,f,q⟩:=h;obtain⟨t,rfl⟩:=d;obtain⟨t',rfl⟩:=b;obtain⟨j,h1,h2,m,g,h5⟩:=WX f;have e:z.cps.toList.length=z.length:=by simp[Str.length]
 rw[e]at h1 g h5;have hn:=Ju;exact tail_any (typeIs_str s z t) slot_str_getitem.lookup (getItem_str (c:=c) (by
  have l:decide (i < -(2 ^ 63:Int))=false:=qX (by omega);have k:decide (i>=2 ^ 63)=false:=qX (by omega);rw[l,k,Bool.or_false]) (by rw[h1];simpa using h2) ⟨.str ⟨#[c]⟩,H,I.tok _,⟨_,rfl⟩,q⟩) hs
theorem lT(A5:List Value)(n j:Nat)(u:Value):Obj.mapSeq (·.setIfInBounds j u) { cls:=.type "list", data:=.seq A5.toArray n }={ cls:=.type "list", data:=.seq (A5.set j u).toArray n }:=by
 simp[Obj.mapSeq]
theorem Inv.lst{Zb:ZEf}{Z:St}{H:Hp}{s:Shared}{p:Addr}{xs:List V}(I:Inv X Zb Z H s)(h:H p=some (.lst xs)):
  ∃(A5:List Value)(n:Nat),Vals xs A5/\s.heap.get? p=some { cls:=.type "list", data:=.seq A5.toArray n }/\xs.length<=sizeLine:=by
 obtain⟨z,A5,n,r,e⟩:=I.AN p _ h;exact⟨A5,n,r,e,z⟩
theorem Inv.ZAv{p:Addr}{a:Nat}{f:Obj->Obj}(I:Inv X Zb Z H s)(h:H p=some (.lst xs))
  (ho:s.heap.get? p=some { cls:=.type "list", data:=.seq A5.toArray n }) (hf:f { cls:=.type "list", data:=.seq A5.toArray n }={ cls:=.type "list", data:=.seq its'.toArray a }) (r:Vals ys its') (hz:ys.length<=sizeLine) (t:Nat) :
  Inv X Zb Z (upd H p (.lst ys)) { s with heap:=s.heap.update p f,toks:=t }:=by
 have e:(s.heap.update p f).get? p=some { cls:=.type "list", data:=.seq its'.toArray a }:=by
  rw[K2 f ho (by rw[hf] <;> rfl),hf]
 refine I.write (x:=p) (e:=p) (by rw[h];trivial) (.inl rfl) (λb u c q=>(Gn _ _ (BP c)).trans q) ⟨_,e⟩ ?_;exact⟨hz,its',a,r,e⟩
def jD:V->V->V->Hp->(Hp->Prop)->Prop:=λo i v H Q=>∃p xs k j,o=.ref p/\i=.int k/\H p=some (.lst xs)/\GU xs.length k=some j/\Q (upd H p (.lst (xs.set j v)))
theorem set_list:X4 X jD:=by
 intro Zb s Z H o i v y z u Q I m w l h;obtain⟨p,xs,k,j,rfl,rfl,c,x,q⟩:=h;cases m;obtain⟨t,rfl⟩:=w;obtain⟨A5,n,r,ho,hz⟩:=I.lst c;obtain⟨h1,h2,e,d⟩:=iP x;have a:=r.length;have hn:=Ju;have g:Inv X Zb Z (upd H p (.lst (xs.set j v))) { s with heap:=s.heap.update p (Obj.mapSeq (·.setIfInBounds j u)) }:=
  I.ZAv c ho (lT A5 n j u) (r.set l j) (by rw[LM];exact hz) s.toks
 by_cases f:0<=k
 .have b:k.toNat=j:=by
   rw[seqIndex_of f d]at h1;exact BL h1
  exact PySem.W.ki_setAt ho f (by omega) (by rw[Bl,<- a];exact d) (by rw[b];exact⟨_,g,q⟩)
 .have b:(k+(A5.toArray.size:Int)).toNat=j:=by
   rw[seqIndex_neg (by omega) e]at h1;rw[Bl,<- a];exact BL h1
  exact PySem.W.ki_setBack ho (by omega) (by rw[Bl,<- a];exact e) (by omega) (by rw[b];exact⟨_,g,q⟩)
theorem ZC8(lo hi:Option Int)(n:Nat):(sliceBounds lo hi none n).1=((HT.Aq n 0 lo:Nat):Int)/\(sliceBounds lo hi none n).2.1=((HT.Aq n n hi:Nat):Int)/\(sliceBounds lo hi none n).2.2=1:=by
 refine⟨?_,?_,rfl⟩
 .cases lo with
  |none=>simp[sliceBounds,HT.Aq]
  |some i=>
   simp only[sliceBounds,HT.Aq,ZDp,show(1:Int) > 0 by decide,zy]
   by_cases h:i<0
   .simp only[h,zy] <;> omega
   .simp only[h,yT] <;> omega
 .cases hi with
  |none=>simp[sliceBounds,HT.Aq]
  |some i=>
   simp only[sliceBounds,HT.Aq,ZDp,show(1:Int) > 0 by decide,zy]
   by_cases h:i<0
   .simp only[h,zy] <;> omega
   .simp only[h,yT] <;> omega
theorem ZBY(A5:List Value)(lo hi:Option Int):slicePick A5.toArray lo hi none=((A5.drop (HT.Aq A5.length 0 lo)).take (HT.Aq A5.length A5.length hi - HT.Aq A5.length 0 lo)).toArray:=by
 obtain⟨h1,h2,a⟩:=ZC8 lo hi A5.toArray.size;unfold slicePick;rw[h1,h2,a];simp only[sliceRange_one,pick_run,Bl] <;> rfl
def ZCX(K:ZEe):V->Option Int->Option Int->Hp->VK->Prop:=λx lo hi H Q=>∃a xs,x=.ref a/\AJ K H a xs/\∀p,H p=none->Q (.ref p) (upd H p (.lst (Cg xs lo hi)))
theorem MW:KH X (ZCX X.K):=by
 intro Zb s Z H x v vl vu lo hi sl Q I e hs pl f h;obtain⟨a,xs,rfl,hx,q⟩:=h;cases e;obtain⟨A5,r,d,hz⟩:=I.list hx;have c:=r.length;refine⟨"list", _,slot_list_getitem.lookup,d.isList.typeIs,?_⟩;refine xj d.isList hs pl f .none (by simp) ?_ (by rw[Bl] <;> omega)
 rw[ZBY,<- c];refine⟨.ref s.heap.objs.size,_,I.laid (t':=s.toks) (o:=.lst (Cg xs lo hi)) (λb ob q=>BZ _ q) (Ap _) ?_,rfl,q _ (I.AN.fresh (Ap _))⟩;exact⟨Cs (dz xs lo hi) hz,_,0,(r.drop (HT.Aq xs.length 0 lo)).take (HT.Aq xs.length xs.length hi - HT.Aq xs.length 0 lo),CA _ rfl⟩
noncomputable def Ec:V->Bool
 | .AE=>true
 | .bl _=>true
 | .int _=>true
 | .str _=>true
 |_=>false
noncomputable def Dl:V->V->Bool
 | .AE,.AE=>true
 | .bl a,.bl b=>a == b
 | .bl a,.int b=>(if a then 1 else 0) == b
 | .int a,.bl b=>a == (if b then 1 else 0)
 | .int a,.int b=>a == b
 | .str a,.str b=>a == b
 |_,_=>false
theorem Qd(d:RelV y u)(c:RelV x v)(f:Ec y=true)(e:Ec x=true):SeqAt.EqAt A s u v (Dl y x):=by
 cases y with
 |AE=>
  cases d;cases x with
  |AE=>cases c;exact SeqAt.EqAt.same _
  |bl b=>cases c;exact SeqAt.EqAt.none_bool b
  |int b=>obtain⟨t,rfl⟩:=c;exact SeqAt.EqAt.none_int b t
  |str b=>obtain⟨t,rfl⟩:=c;exact SeqAt.EqAt.none_str b t
  |_=>exact absurd (show false=true from e) DS
 |bl a=>
  cases d;cases x with
  |AE=>cases c;exact SeqAt.EqAt.bool_none a
  |bl b=>cases c;exact SeqAt.EqAt.bool_bool a b
  |int b=>obtain⟨t,rfl⟩:=c;exact SeqAt.EqAt.bool_int a b t
  |str b=>obtain⟨t,rfl⟩:=c;exact SeqAt.EqAt.bool_str a b t
  |_=>exact absurd (show false=true from e) DS
 |int a=>
  obtain⟨t',rfl⟩:=d;cases x with
  |AE=>cases c;exact SeqAt.EqAt.int_none a t'
  |bl b=>cases c;exact SeqAt.EqAt.int_bool a t' b
  |int b=>obtain⟨t,rfl⟩:=c;exact SeqAt.EqAt.int_int a t' b t
  |str b=>obtain⟨t,rfl⟩:=c;exact SeqAt.EqAt.int_str a t' b t
  |_=>exact absurd (show false=true from e) DS
 |str a=>
  obtain⟨t',rfl⟩:=d;cases x with
  |AE=>cases c;exact SeqAt.EqAt.str_none a t'
  |bl b=>cases c;exact SeqAt.EqAt.str_bool a t' b
  |int b=>obtain⟨t,rfl⟩:=c;exact SeqAt.EqAt.str_int a t' b t
  |str b=>obtain⟨t,rfl⟩:=c;exact SeqAt.EqAt.str_str a t' b t
  |_=>exact absurd (show false=true from e) DS
 |_=>exact absurd (show false=true from f) DS
def E2(x:V)(u:Value):Bool:=match u with
 | .none=>Dl .AE x
 | .bool b=>Dl (.bl b) x
 | .int i _=>Dl (.int i) x
 | .str z _=>Dl (.str z) x
 |_=>false
theorem bI(r:RelV y u)(f:Ec y=true):E2 x u=Dl y x:=by
 cases y with
 |AE=>cases r;rfl
 |bl b=>cases r;rfl
 |int i=>obtain⟨t,rfl⟩:=r;rfl
 |str z=>obtain⟨t,rfl⟩:=r;rfl
 |_=>exact absurd (show false=true from f) DS
theorem OB{x:V}:∀{xs:List V}{us:List Value},Vals xs us->xs.all Ec=true->us.any (E2 x)=xs.any λy=>Dl y x
 |_,_,.nil,_=>rfl
 |y::xs,u::us,.cons r t,f=>by
  rw[So,Ez]at f;rw[N3,N3,bI r f.1,OB t f.2]
theorem K5{A:Around}{s:Shared}{x:V}{v:Value}(b:RelV x v)(c:Ec x=true):∀{xs:List V}{us:List Value},Vals xs us->xs.all Ec=true->∀u∈us,SeqAt.EqAt A s u v (E2 x u)
 |_,_,.nil,_=>λu a=>by cases a
 |y::xs,u::us,.cons r t,f=>λd a=>by
  rw[So,Ez]at f;rcases List.mem_cons.mp a with rfl|a
  .rw[bI r f.1];exact Qd r b f.1 c
  .exact K5 b c t f.2 d a
def ES(x:V)(xs:List V):Bool:=xs.any λy=>Dl y x
def LD(K:ZEe)(neg:Bool):R2:=λx y H Q=>∃p xs,y=.ref p/\(AJ K H p xs∨AA K H p xs)/\Ec x=true/\xs.all Ec=true/\Q (.bl (if neg then !ES x xs else ES x xs)) H
theorem Ld:BH X (compareOp .In) (LD X.K false):=by
 intro Zb s Z H x y v u Q I b d h;obtain⟨p,xs,rfl,a,c,fs,q⟩:=h;cases d;rcases a with a|a
 .obtain⟨A5,r,pl,hz⟩:=I.list a;refine SeqAt.in_listAt (E2 x) pl.isList (λw hw=>K5 b c r fs w (by simpa using hw)) ⟨.bl _,H,I,rfl,?_⟩
  rw[show A5.toArray.any (E2 x)=A5.any (E2 x) by simp,OB r fs];exact q
 .obtain⟨A5,r,pl,hz⟩:=I.tuple a;refine SeqAt.in_tupleAt (E2 x) pl (λw hw=>K5 b c r fs w (by simpa using hw)) ⟨.bl _,H,I,rfl,?_⟩
  rw[show A5.toArray.any (E2 x)=A5.any (E2 x) by simp,OB r fs];exact q
theorem LA:BH X (compareOp .NotIn) (LD X.K true):=by
 intro Zb s Z H x y v u Q I b d h;obtain⟨p,xs,rfl,a,c,fs,q⟩:=h;cases d;rcases a with a|a
 .obtain⟨A5,r,pl,hz⟩:=I.list a;refine SeqAt.notIn_listAt (E2 x) pl.isList (λw hw=>K5 b c r fs w (by simpa using hw)) ⟨.bl _,H,I,rfl,?_⟩
  rw[show A5.toArray.any (E2 x)=A5.any (E2 x) by simp,OB r fs];exact q
 .obtain⟨A5,r,pl,hz⟩:=I.tuple a;refine SeqAt.notIn_tupleAt (E2 x) pl (λw hw=>K5 b c r fs w (by simpa using hw)) ⟨.bl _,H,I,rfl,?_⟩
  rw[show A5.toArray.any (E2 x)=A5.any (E2 x) by simp,OB r fs];exact q
theorem Eb:D7 X (.builtin "len") (λxs H Q=>∃p ys,xs=[.ref p]/\(AJ X.K H p ys∨AA X.K H p ys)/\Q (.int ys.length) H):=by
 intro Zb s Z H xs us Q I r h;obtain⟨p,ys,rfl,b,q⟩:=h;obtain⟨u,rfl,d⟩:=vals1 r;cases d;have hn:=Ju;rcases b with b|b
 .obtain⟨A5,c,pl,hz⟩:=I.list b;have a:=c.length;exact Calls.call_len_list pl.isList (by simp only[Bl] <;> omega) ⟨.int ys.length,H,I.tok _,⟨s.toks+1,by rw[Bl,a]⟩,q⟩
 .obtain⟨A5,c,pl,hz⟩:=I.tuple b;have a:=c.length;exact len_tuple pl (by simp only[Bl] <;> omega) ⟨.int ys.length,H,I.tok _,⟨s.toks+1,by rw[Bl,a]⟩,q⟩
theorem Y0:D7 X (.builtin "len") (λxs H Q=>∃z,xs=[.str z]/\z.length<=sizeLine/\Q (.int z.length) H):=by
 intro Zb s Z H xs us Q I r h;obtain⟨z,rfl,hz,q⟩:=h;obtain⟨u,rfl,t,rfl⟩:=vals1 r;have hn:=Ju;exact len_str (by omega) ⟨.int z.length,H,I.tok _,⟨_,rfl⟩,q⟩
theorem IJ:D7 X (.type "list") (λxs H Q=>∃p ys,xs=[.ref p]/\(AJ X.K H p ys∨AA X.K H p ys)/\∀l,H l=none->Q (.ref l) (upd H l (.lst ys))):=by
 intro Zb s Z H xs us Q I r h;obtain⟨p,ys,rfl,d,q⟩:=h;obtain⟨u,rfl,j⟩:=vals1 r;cases j;have g:∀(A5:List Value),Vals ys A5->ys.length<=sizeLine->∀(h':Heap)(c:Nat),(∀b o',s.heap.get? b=some o'->h'.get? b=some o')->
   h'.get? s.heap.objs.size=some { cls:=.type "list", dict:=none,data:=.seq A5.toArray c,slots:=#[] }->EP X Zb Z Q (.ref s.heap.objs.size) { s with heap:=h' }:=λA5 a hz h' c kp e=>
  ⟨.ref s.heap.objs.size,_,I.laid (t':=s.toks) kp (Ap _) (show C1 X.prog X.w _ h' _ (.lst ys)from⟨hz,A5,c,a,e⟩),rfl,q _ (I.AN.fresh (Ap _))⟩
 rcases d with d|d
 .obtain⟨A5,a,pl,hz⟩:=I.list d;have f:=a.length;obtain⟨o,ho,i,n,hd⟩:=pl.isList;exact call_list_seq p (.inl rfl) ho i hd (λh' c kp e=>g A5 a hz h' c kp e) (by simp only[Bl] <;> omega)
 .obtain⟨A5,a,pl,hz⟩:=I.tuple d;have f:=a.length;obtain⟨o,ho,i,n,hd⟩:=pl;exact call_list_seq p (.inr rfl) ho i hd (λh' c kp e=>g A5 a hz h' c kp e) (by simp only[Bl] <;> omega)
theorem J7:D7 X (.type "tuple") (λxs H Q=>∃p ys,xs=[.ref p]/\((AJ X.K H p ys/\∀l,H l=none->Q (.ref l) (upd H l (.tup ys)))∨(AA X.K H p ys/\Q (.ref p) H))):=by
 intro Zb s Z H xs us Q I r h;obtain⟨p,ys,rfl,h⟩:=h;obtain⟨u,rfl,i⟩:=vals1 r;cases i;rcases h with⟨c,q⟩|⟨c,q⟩
 .obtain⟨A5,a,pl,hz⟩:=I.list c;have d:=a.length;refine call_tuple_list pl.isList (λh' kp=>?_) (by simp only[Bl] <;> omega)
  have g:Inv X Zb Z H { s with heap:=h' }:=I.kept (t':=s.toks) kp
  have j:Inv X Zb Z (upd H h'.objs.size (.tup ys)) { s with heap:=h'.push { cls:=.type "tuple", data:=.seq A5.toArray } }:=
   g.laid (t':=s.toks) (λb o e=>BZ _ e) (Ap _) (show C1 X.prog X.w _ _ _ (.tup ys)from⟨hz,A5,a,⟨IsTup.new _ _,λS6 f=>by rw[CA _ rfl]at f;cases f;rfl⟩⟩)
  exact⟨.ref h'.objs.size,_,j,rfl,q _ (g.AN.fresh (Ap _))⟩
 .obtain⟨A5,a,pl,hz⟩:=I.tuple c;exact call_tuple_same pl ⟨.ref p,H,I,rfl,q⟩
def Mn(K:ZEe)(T:String)(x:V)(H:Hp):Prop:=match x with
 | .str _=>T="str"
 | .int _=>T="int"
 | .ref p=>(T="list" /\ ∃xs,AJ K H p xs)∨(T="tuple" /\ ∃o,K.lookup p=some o/\o.cls=.type "tuple" /\ o.dict=none)∨
   (T="dict" /\ ((∃A3,H p=some (.dK A3))∨∃A3,H p=some (.dT A3)))∨(T="set" /\ ∃S n,H p=some (.set S n))∨(T="tuple" /\ ∃xs,H p=some (.tup xs))
 |_=>False
theorem vR(I:Inv X Zb Z H s)(r:RelV x v)(ty:Mn X.K T x H):
  s.TypeIs v T/\∀a,v=.ref a->∃ob,s.heap.get? a=some ob/\ob.dict=none:=by
 cases x with
 |str z=>
  obtain⟨t,rfl⟩:=r;cases(show T="str" from ty);exact⟨typeIs_str s z t,λ_ e=>nomatch e⟩
 |int i=>
  obtain⟨t,rfl⟩:=r;cases(show T="int" from ty);exact⟨typeIs_int s i t,λ_ e=>nomatch e⟩
 |ref p=>
  cases r;rcases ty with⟨rfl,xs,f⟩|⟨rfl,o,b,g,hd⟩|⟨rfl,b⟩|⟨rfl,S,n,b⟩|⟨rfl,xs,b⟩
  .obtain⟨A5,_,pl,_⟩:=I.list f;refine⟨pl.isList.typeIs,λa e=>?_⟩;cases e;obtain⟨o,n,e,c,hd,_⟩:=pl;exact⟨o,e,hd⟩
  .refine⟨⟨o,I.CV p o b,g⟩,λa e=>?_⟩;cases e;exact⟨o,I.CV _ o b,hd⟩
  .have z:∃o,s.heap.get? p=some o/\o.ExactDict:=by
    rcases b with⟨A3,b⟩|⟨A3,b⟩
    .obtain⟨_,_,_,_,o,_,_,e,ex,_⟩:=I.AN p _ b;exact⟨o,e,ex⟩
    .obtain⟨_,_,_,_,o,_,_,e,ex,_⟩:=I.AN p _ b;exact⟨o,e,ex⟩
   obtain⟨o,e,ex⟩:=z;refine⟨⟨o,e,ex.1⟩,λa d=>?_⟩;cases d;exact⟨o,e,ex.2.1⟩
  .obtain⟨o,_,_,_,e,ex,_⟩:=I.AN p _ b;refine⟨⟨o,e,ex.1⟩,λa d=>?_⟩;cases d;exact⟨o,e,ex.2.1⟩
  .obtain⟨_,A5,_,⟨o,e,c,_⟩,h⟩:=I.AN p _ b;refine⟨⟨o,e,c⟩,λa d=>?_⟩;cases d;exact⟨o,e,h o e⟩
 |_=>exact False.elim ty
def NW(K:ZEe)(T:String)(r:V->List V->Hp->VK->Prop)(to:TE)(t:TA):TE:=λZ H Q=>to Z H λx H1=>Mn K T x H1/\t Z H1 λxs H2=>r x xs H2 Q
variable{o e:Expr}{es:List Expr}{to:TE}{t:TA}{name:Str}{apos Bz:Pos}{id:String}{r:V->List V->Hp->VK->Prop}
end
def eA(X:Cx)(id:String)(r:V->List V->Hp->VK->Prop):Prop:=
 ∀(Zb:ZEf)(s:Shared)(Z:St)(H:Hp)(x:V)(xs:List V)(v:Value)(us:List Value)(Q:VK),Inv X Zb Z H s->RelV x v->Vals xs us->r x xs H Q->
  wpAny (model X.prog X.w) X.A (call (.builtin id) (v::us)) (EP X Zb Z Q) X.xe s
theorem Vals.one:∀{x:V}{us:List Value},Vals [x] us->∃u,us=[u]/\RelV x u:=λr=>vals1 r
theorem Vals.two:∀{x y:V}{us:List Value},Vals [x,y] us->∃u v,us=[u,v]/\RelV x u/\RelV y v:=λr=>vals2 r
theorem Vals.reverse(h:Vals xs us):Vals xs.reverse us.reverse:=by
 induction h with
 |nil=>exact .nil
 |cons r t a=>rw[ZDi,ZDi];exact Vals.append a (.cons r .nil)
section
variable{l b:Addr}{zs:List V}
theorem Inv.gE{f:Array Value->Array Value}(I:Inv X Zb Z H s)(c:H l=some (.lst xs))
  (e:s.heap.get? l=some { cls:=.type "list", data:=.seq A5.toArray n }) (hf:f A5.toArray=its'.toArray) (hv:Vals ys its') (hz:ys.length<=sizeLine) :
  Inv X Zb Z (upd H l (.lst ys)) { s with heap:=s.heap.update l (Obj.mapSeq f),toks:=t' }:=by
 have q:=PySem.IsL.update e f;rw[hf]at q;refine I.write (x:=l) (e:=l) (by rw[c];exact trivial) (.inl rfl) (λd u b a=>(Gn s.heap (Obj.mapSeq f) (BP b)).trans a) ⟨_,q⟩ ?_;exact⟨hz,its',_,hv,q⟩
theorem Inv.Uk(I:Inv X Zb Z H s)(a:Vals ys A5)(hz:ys.length<=sizeLine):
  Inv X Zb Z (upd H s.heap.objs.size (.lst ys)) { s with heap:=s.heap.push { cls:=.type "list", data:=.seq A5.toArray },toks:=t' }:=
 I.laid (λ_ _ q=>BZ _ q) (Ap _) ⟨hz,A5,0,a,CA _ rfl⟩
theorem Inv.fresh(I:Inv X Zb Z H s):H s.heap.objs.size=none:=I.AN.fresh (Ap _)
theorem Inv.Rg(I:Inv X Zb Z H s)(a:H l=some (.lst xs)):xs.length<=sizeLine/\∃(A5:List Value)(n:Nat),Vals xs A5/\xs.length=A5.length/\s.heap.get? l=some { cls:=.type "list", data:=.seq A5.toArray n }:=by
 obtain⟨z,A5,n,r,e⟩:=I.AN l _ a;exact⟨z,A5,n,r,r.length,e⟩
def Py:V->List V->Hp->VK->Prop:=λx vs H Q=>∃l xs y,x=.ref l/\vs=[y]/\H l=some (.lst xs)/\xs.length<sizeLine/\Q .AE (upd H l (.lst (xs++[y])))
theorem bN:eA X "list.append" Py:=by
 intro Zb s Z H x vs v us Q I b c h;obtain⟨l,xs,y,rfl,rfl,a,hz,q⟩:=h;cases b;obtain⟨u,rfl,d⟩:=c.one;obtain⟨z,A5,n,r,f,e⟩:=I.Rg a;refine call_meets F.slot_list_append ⟨_,e,rfl⟩ F.entry_list_append (F.args_list_append_2 _ _) (PySem.list_append l A5.toArray n u (by rw[Bl];omega)) ⟨e,?_⟩;refine⟨.AE,_,I.gE (its':=A5++[u]) a e (by simp) (r.append (.cons d .nil)) ?_,rfl,q⟩;rw[Bu,N5];omega
def cT:R2:=λx y H Q=>∃l b xs zs,x=.ref l/\y=.ref b/\H l=some (.lst xs)/\H b=some (.lst zs)/\xs.length+zs.length<=sizeLine/\∀p,H p=none->Q (.ref p) (upd H p (.lst (xs++zs)))
theorem JW:BH X (binaryOp .Add) cT:=by
 intro Zb s Z H x y v u Q I c a h;obtain⟨l,b,xs,zs,rfl,rfl,f,g,hz,q⟩:=h;cases c;cases a;obtain⟨z,A5,n,r,k,e⟩:=I.Rg f;obtain⟨j,Bd,n2,d,Et,i⟩:=I.Rg g;refine PySem.P.add_list e i ?_ (by rw[Bl,Bl];omega);have ea:A5.toArray++Bd.toArray=(A5++Bd).toArray:=by simp
 rw[ea];exact⟨.ref _,_,I.Uk (t':=s.toks) (r.append d) (by rw[Bu];omega),rfl,q _ I.fresh⟩
variable{prog:Program}{w:World}{E:Value->Shared->Prop}
set_option maxRecDepth 100000 in
end
end L2
namespace iO
open PySem.W PySem.Calls
variable{l:OpenLaw}{n:Nat}{prog q:Program}
theorem ZBl{P:Params}{h:Heap}:∀(ns:List Int)(vs:List Value),WellAll P h vs (ns.map WData.int)->IntsAre vs ns:=by
 intro ns
 induction ns with
 |nil=>
  intro vs w;rw[PU]at w;cases w;exact .nil
 |cons n ns c=>
  intro vs w;rw[Bv]at w;cases w with
  |cons a b=>
   cases a;exact .cons _ _ (c _ b)
theorem ZAJ(hn:l.most=some n){P:Params}{h:Heap}{args:List WData}{vals:List Value}
  (Lc:l.row.toRowW.claim.pre args=true) (VB:WellAll P h vals args) :
  ∃a vs ns,vals=[Value.ref a]/\args=[WData.list (ns.map WData.int)]/\h.get? a=some { cls:=.type "list", data:=.seq vs.toArray }/\IntsAre vs ns/\ns.length<=n:=by
 have e:WShape.hasAll [] args [.list .int]=true:=(pre_splitW Lc).1;have f:l.pre.holds [] { args:=args }=true:=(pre_splitW Lc).2;obtain⟨d,r,rfl,h1,h2⟩:=hasAllW_cons e;obtain rfl:=hasAllW_nil h2;obtain⟨xs,rfl,k⟩:=hasW_list h1;obtain⟨ns,rfl⟩:=items_int k;have b:ns.length<=n:=by
  unfold OpenLaw.pre at f;have c:(WTm.not (.lt (.lit (.int (n:Int))) (.len (.arg 0)))).holds [] { args:=[.list (ns.map .int)] }=true:=by
   have c:=(holds_andW f).1;rw[hn]at c;exact c
  have h5:=condW_of c (w_not (w_lt w_lit (w_len_list (w_arg rfl))));rw[AW]at h5;refine ZDl λq=>?_;have j:(n:Int)<((ns.length:Nat):Int):=by omega
  first
   | (rw[lx j]at h5;exact absurd h5 (by decide))
   | (simp at h5;omega)
 cases VB with
 |cons i g=>
  cases g;cases i with
  |list ho JY=>exact⟨_,_,ns,rfl,rfl,ho,ZBl ns _ JY,b⟩
theorem xw(l:OpenLaw)(args:List WData):l.row.toRowW.claim.post args (.bool true) args=true:=
 postW_of (r:=l.row.toRowW) (X:=(true == true))
  (show WShape.has [] (.bool true) .bool=true by first|rfl|decide|simp[WShape.has,WShape.arms,WShape.armsAll])
  (show(WTm.eq .res (.lit (.bool true))).value [] { args:=args,res:=some (.bool true),after:=args }=some (.bool (true == true))from w_eq_bool (w_res rfl) w_lit) rfl
theorem tf{loose:List Str}{XP:(ZEg)->Heap->Prop}{YP:World->Heap->Prop}{d:DefRec}
  (hn:l.most=some n) (Om:d.params.defaults=[])
  (call:∀(w:World)(s₀ b:Shared)(mg j:ZEg)(h:Addr)(o:Obj)(i cd e:Value)(a:Addr)(vs:List Value)(ns:List Int),
   Ground q loose [] XP w s₀ mg j b.heap->YP w b.heap->
   b.heap.get? h=some o->o.data=.func (docDef d.name d.params d.body d.scope i cd e)->b.heap.CodeRec cd d.name->mg d.name=some (.ref h)->
   b.heap.get? a=some { cls:=.type "list", data:=.seq vs.toArray }->IntsAre vs ns->ns.length<=n->b.gens=#[]->
   codeAny (model l.prog w) callerA (.call (.ref h) ⟨[.ref a],[]⟩) (λr s'=>r=.ok (.ret (.bool true))/\OldK b.heap s'.heap/\s'.os=b.os/\AllBare s'.gens) b) :
  WalkO q loose XP YP l.row.toRowW d [] (λf vs=>PySem.call f vs):=by
 intro w s₀ b mg j G Y h o i cd e y kV ho hd Gu k Nc u args vals as Lc ZE4 m VB t;obtain rfl:y=.none:=Dflts.none k Om;obtain rfl:kV=.none:=Dflts.noKw k;obtain⟨a,vs,ns,rfl,rfl,XT,c,g⟩:=ZAJ hn Lc VB;refine enter_call (z6 (call w s₀ b mg j h o i cd e a vs ns G Y ho (fd_plain hd) Gu Nc XT c g u) λr s' p=>?_);obtain⟨rfl,h2,x,v⟩:=p;exact⟨.inl ⟨.bool true,.bool true,[],rfl,λ_=>rfl,.bool true,xw l _,λ_=>⟨List.Pairwise.nil,λ_ s=>(nomatch s)⟩⟩,h2,x,v⟩
end iO
namespace L2
variable{w:World}{mg:ZEg}{a f:Addr}{fd:FuncData}{qual x:Str}{sp:Sp}{loose ps:List Str}{X:Cx}{A B c:Prop}
theorem iN:∀{vs:List Value}{ns:List Int},IntsAre vs ns->Vals (ns.map V.int) vs
 |_,_,.nil=>.nil
 |_,_,.cons n t h=>.cons ⟨t,rfl⟩ (iN h)
def Wr(H:Hp):Prop:=∀b,H b=none∨∃o xs,H b=some (.CM o (.lst xs))
theorem lM{P:Program}{K:ZEe}{t:ZEg}{CX:Gd}{k:Nat}{A:Addr}{c:Shared}{vs:List Value}{ns:List Int}
  (KX:K.In c.heap) (MV:c.heap.Ns mainGlobals mg) (f:c.heap.Ns builtinsNs t) (S:∀x:Str,x ≠"__name__" -> t x=bootBuiltins x) (R:c.heap.NoLimit) (T:c.gens=#[])
  (l:c.heap.get? a=some { cls:=.type "list", data:=.seq vs.toArray }) (hi:IntsAre vs ns) (hl:ns.length<=sizeLine) (hr:Bp k callerA)
  (F:∀Zu:Heap,K.In Zu->Zu.Ns mainGlobals mg->DN P w K mg Zu CX k A fd [x] sp) (nc:∀(s:Shared)(u:Value),BindsTo s fd ⟨[u],[]⟩ [(x,u)])
  (G0:∀H:Hp,Wr H->AJ K H a (ns.map V.int)->sp [.ref a] H (λv _=>v=.bl true) λ_ _ _=>False)
  (Us:∀H e s',CX [] H c (λ_ _ _=>False) e s'->False) :
  codeAny (model P w) callerA (.call (.ref A) ⟨[.ref a],[]⟩) (λr s'=>r=.ok (.ret (.bool true))/\OldK c.heap s'.heap/\s'.os=c.os/\AllBare s'.gens) c:=by
 have D:=iN hi;have C:=hi.length
 -- from an abstract heap in ZEF nothing but HD fW may be tracked
 have g:∀H:Hp,Wr H->AJ K H a (ns.map V.int)->Bk P w H c.heap->(∀b,H b≠none->b=a)->(H a≠none->K.lookup a=none)->
   codeAny (model P w) callerA (.call (.ref A) ⟨[.ref a],[]⟩) (λr s'=>r=.ok (.ret (.bool true))/\OldK c.heap s'.heap/\s'.os=c.os/\AllBare s'.gens) c:=by
  intro H I U AN J X;have G:∀{b:Addr}{o:Obj},c.heap.get? b=some o->H b=none->(Iw c.heap H).get? b=some o:=λe n=>mM e n;have Na:∀{b:Addr}{o:Obj}{es:Array DictEntry}{j:Nat},c.heap.get? b=some o->o.data=.dict es j->H b=none:=λ{b o es j}e d=>by
   cases q:H b with
   |none=>rfl
   |some u=>
    have B:b=a:=J b (by rw[q];simp);subst B;rw[l]at e;cases e;have d':Data.seq vs.toArray _=Data.dict es j:=d;cases d'
  have p:∀{b:Addr}{m:ZEg},c.heap.Ns b m->(Iw c.heap H).Ns b m:=λ{b m}AG=>by obtain⟨o,es,j,e,d,r⟩:=AG;exact⟨o,es,j,G e (Na e d),d,r⟩
  have E:K.In (Iw c.heap H):=λb o e=>G (KX b o e) (by
   cases q:H b with
   |none=>rfl
   |some u=>
    have B:b=a:=J b (by rw[q];simp);subst B;rw[X (by rw[q];simp)]at e;cases e)
  have W:Mod K mg (Iw c.heap H):=⟨E,p MV,⟨t,p f,S⟩,let ⟨mc,h1,h2⟩:=R;⟨mc,p h1,h2⟩⟩;have e0:L8 P w K mg (Iw c.heap H) callerA [] c H:=⟨rfl,W,λb o e=>vX e,jx (rh _ _),trivial,λb f=>absurd (show b∈([]:List Addr)from f) (by simp),AN,.of_eq T⟩;refine z6 ((F _ E (p MV)).run callerA [] c H ⟨[.ref a],[]⟩ [.ref a] [.ref a] _ _ hr e0 (nc c (.ref a)) (.cons rfl .nil) (G0 H I U)) λr s' h=>?_;cases r with
  |error e=>exact(Us H e s' h).elim
  |ok Y=>
   cases Y with
   |next=>exact False.elim h
   |brk=>exact False.elim h
   |cont=>exact False.elim h
   |ret u=>
    obtain⟨v,H',os,bare,un,Q,N,q⟩:=h;have O:v=.bl true:=q;subst O;obtain rfl:u=Value.bool true:=N;refine⟨rfl,OldK.of_keep λb o e=>?_,os,bare⟩;cases q:H b with
    |none=>exact un.keep b o e q (by intro z;exact absurd (show b∈([]:List Addr)from z) (by simp)) (by simp)
    |some u=>
     rcases I b with z|⟨ob,xs,z⟩
     .rw[q]at z;cases z
     .have M:=un.Ge b ob _ z;obtain⟨L,_⟩:=AN b _ z;obtain⟨σ,_⟩:=Q b _ M;rw[e]at L;cases L;exact σ
 cases y:K.lookup a with
 |some o=>
  -- HD fW is one of HD ZES own objects
  have e:=KX a o y;rw[l]at e;cases e;refine g (λ_=>none) (λ_=>.inl rfl) (.inr ⟨_,vs.toArray,_,y,rfl,rfl,rfl,by rw[Bl,C];exact hl,by simpa using D⟩) (λb u z=>by have i:(none:Option HO)=some u:=z;cases i) (λb z=>absurd rfl z) λz=>absurd rfl z
 |none=>
  refine g (λb=>if b=a then some (.CM { cls:=.type "list", data:=.seq vs.toArray } (.lst (ns.map V.int)))else none) (λb=>?_) (.inl (.inr ⟨{ cls:=.type "list", data:=.seq vs.toArray },md rfl⟩)) (λb u z=>?_) (λb z=>?_) λ_=>y
  .by_cases f:b=a
   .exact .inr ⟨_,_,md f⟩
   .exact .inl (mY f)
  .by_cases f:b=a
   .have i:=(md f).symm.trans z;cases i;subst f;exact⟨l,by rw[AW];exact hl,vs,_,D,l⟩
   .have i:=(mY f).symm.trans z;cases i
  .by_cases f:b=a
   .exact f
   .exact absurd (mY f) z
theorem ZA4{l:PySem.W.OpenLaw}{n k:Nat}{q:Program}{XP:(ZEg)->Heap->Prop}{YP:World->Heap->Prop}{d:DefRec}{K:Params->ZEe}{CX:World->Gd}{sp:World->Sp}
  (hn:l.most=some n) (Hn:n<=sizeLine) (Om:d.params.defaults=[]) (hr:Bp k callerA)
  (y:∀(w:World)(h:Heap),YP w h->(K w.params).In h)
  (F:∀(w:World)(mg:ZEg)(j:Addr)(h:Heap),(K w.params).In h->h.Ns mainGlobals mg->mg d.name=some (.ref j)->
   ∃fd:FuncData,(∀(s:Shared)(u:Value),BindsTo s fd ⟨[u],[]⟩ [(x,u)])/\
    ∀Zu:Heap,(K w.params).In Zu->Zu.Ns mainGlobals mg->DN l.prog w (K w.params) mg Zu (CX w) k j fd [x] (sp w))
  (G0:∀(w:World)(H:Hp)(a:Addr)(ns:List Int),ns.length<=n->Wr H->AJ (K w.params) H a (ns.map V.int)->sp w [.ref a] H (λv _=>v=.bl true) λ_ _ _=>False)
  (Us:∀(w:World)(H:Hp)(s:Shared)(e:Value)(s':Shared),CX w [] H s (λ_ _ _=>False) e s'->False) :
  PySem.W.WalkO q loose XP YP l.row.toRowW d [] (λf vs=>PySem.call f vs):=by
 refine iO.tf hn Om λw s₀ p mg E j o D cd C a vs ns G Y ho hd Gu Nc XT i c r=>?_;have m:=y w _ Y;obtain⟨fd,t,B⟩:=F w mg j _ m G.T.g Nc;exact lM m G.T.g G.T.b G.T.builtins G.T.nolimit r XT i (Cs c Hn) hr B t (λH A z=>G0 w H a ns c A z) λH e s'=>Us w H p e s'
noncomputable def P4(s:Stmt):Arguments:=match s with
 | .FunctionDef _ a _ _ _ _ _ _ _ _=>a
 |_=>{ posonlyargs:=[],args:=[],vararg:=none,kwonlyargs:=[],kw_defaults:=[],kwarg:=none,defaults:=[] }
def K4(s:Stmt):List Stmt:=match s with
 | .FunctionDef _ _ b _ _ _ _ _ _ _=>b
 |_=>[]
noncomputable def Ag(s:Stmt):Scope:=match s with
 | .FunctionDef _ _ _ _ _ _ sc _ _ _=>sc
 |_=>{ kind:=.function,names:=[],isGenerator:=false,isCoroutine:=false }
abbrev G3:Gd:=λ_ _ _ _ _ _=>False
abbrev E0:XK:=λ_ _ _=>False
theorem Vx:Passes G3 X E0:=λ_ _ _ _ _ _ _ h=>h.elim
structure AK (K:ZEe) (x qual:Str) (st:Stmt) (f:Addr) (fd:FuncData):Prop where
 ex:∃(oc:Value)(od:Option Addr)(kV doc pm:Value)(an:Option Addr)(Ae ct:Value)(Jm:Array (Option Value)),
  fd=PySem.W.fnOf x qual (P4 st) (K4 st) (Ag st) .none kV doc pm an Ae ct/\K.lookup f=some ⟨oc,od,.func fd,Jm⟩/\PySem.W.codeIn K Ae qual=true
 kp:PySem.W.keepIn K (.ref f)=true
section
variable{P:Program}{K:ZEe}{Zu:Heap}
theorem AK.ok{st:Stmt}{N:List Str}{k:Nat}(F:AK K x qual st f fd)(S:Aw N ps (Ag st))(len:∀vs H Q E,sp vs H Q E->vs.length=ps.length)
  (P7:∀(Ae:Value)(A:Around)(outer:List Env)(s:Shared)(H:Hp)(vs:List V)(Q:VK)(E:XK),Bp k (A.deeper (envOfC qual (Ag st) s.heap.objs.size f Ae))->sp vs H Q E->
   ∃t,Dd (LF G3 P w K mg Zu N qual (Ag st) f Ae A outer s H E).OC (K4 st) t/\t { nx:=λ_ H'=>Q .AE H',rt:=Q } (start N vs) H):DN P w K mg Zu G3 (k+1) f fd ps sp:=by
 obtain⟨e,d,kV,b,c,g,Ae,ct,Jm,rfl,a,Gu⟩:=F.ex;refine lV a Gu S len λA outer s H vs Q E hr G0=>?_;obtain⟨t,h,q⟩:=P7 Ae A outer s H vs Q E hr G0;exact⟨t,h.OC,q⟩
theorem AK.binds{st:Stmt}(F:AK K x qual st f fd)
  (h:∀(kV a b:Value)(c:Option Addr)(Ae ct:Value)(us:List Value),us.length=ps.length->bindArgs (PySem.W.fnOf x qual (P4 st) (K4 st) (Ag st) .none kV a b c Ae ct) ⟨us,[]⟩=pure (ps.zip us)):Binds K fd ps []:=by
 obtain⟨e,d,kV,a,b,c,Ae,ct,Jm,rfl,g,Gu⟩:=F.ex;exact .all (h kV a b c Ae ct)
theorem ZCy{st:Stmt}{g:Value}{e d:Option Addr}{Jm:Array (Option Value)}{kV a b Ae ct:Value}(l:K.lookup f=some ⟨g,e,.func (PySem.W.fnOf x qual (P4 st) (K4 st) (Ag st) .none kV a b d Ae ct),Jm⟩)
  (c:PySem.W.codeIn K Ae qual=true) (k:PySem.W.keepIn K (.ref f)=true):AK K x qual st f (PySem.W.fnOf x qual (P4 st) (K4 st) (Ag st) .none kV a b d Ae ct):=⟨⟨g,e,kV,a,b,d,Ae,ct,Jm,rfl,l,c⟩,k⟩
end
theorem B8{A:Around}{k:Nat}(hr:Bp k A):A.units+1<cLine:=JB (Nat.add_le_add_left (by decide:1<=64) _) hr.units
theorem Cv(h:B):if false=true then A else B:=by
 rw[mY DS];exact h
theorem JO(h:A):if true=true then A else B:=by
 rw[md rfl];exact h
theorem Am[Decidable c](h1:c->A)(h2:¬ c->B):if c then A else B:=by
 by_cases h:c
 .rw[md h];exact h1 h
 .rw[mY h];exact h2 h
theorem R9[Decidable c](a:c)(h:B):if(!decide c)=true then A else B:=by
 rw[lx a];exact Cv h
def A8(H H':Hp):Prop:=∀b o,H b=some o->H' b=some o
theorem A8.refl(H:Hp):A8 H H:=λ_ _ h=>h
theorem A8.trans{H H1 H2:Hp}(a:A8 H H1)(b:A8 H1 H2):A8 H H2:=λc o h=>b c o (a c o h)
theorem A8.seq{K:ZEe}{H H':Hp}{xs:List V}(e:A8 H H')(h:AJ K H a xs):AJ K H' a xs:=by
 rcases h with(h|⟨o,h⟩)|h
 .exact .inl (.inl (e _ _ h))
 .exact .inl (.inr ⟨o,e _ _ h⟩)
 .exact .inr h
end L2
set_option maxHeartbeats 4000000
namespace L2
variable{α:Type}{outer scope:Scope}{env:Env}{X Y:Cx}{c elt tg:Expr}{A:Around}{E:Value->Shared->Prop}{s s2 s4:Shared}{cl closure:List (Str×Addr)}{qual x y z:Str}{ce:Option Str}{C a acc it n p:Addr}{w:World}{es ifs:List Expr}{Jg pos px py:Pos}{R:Result->Shared->Prop}{Zb:ZEf}{ws Z:St}{H H' H1 H2 H4:Hp}{js:List Nat}{tt:TT}{te:TE}{J:It}{tn:Nat->Heap->Prop}{i j n0 t' tk:Nat}{v:Value}{wi:TI}{CW:It->St->Hp->Addr->VK->Prop}{N:List Str}{tp:Bool}{xs ys:List V}{A5:List Value}
theorem rY{β:Type}{l:List α}{f:α->β->Sem (ForInStep β)}(g:β->α->β)(h:∀x∈l,∀c,f x c=pure (.yield (g c x))):∀c,forIn l c f=pure (l.foldl g c):=by
 induction l with
 |nil=>intro c;rfl
 |cons x l a=>
  intro c;rw[List.forIn_cons,h x Cz,pure_bind];exact a (λy b=>h y (DK _ b)) (g c x)
noncomputable def Kd(cells:List (Str×Addr))(cs:List (Str×Addr))(x:Str×NameKind):List (Str×Addr):=
 if x.2=.free then(x.1,(cells.lookup x.1).getD 0)::cs else cs
def C3(cells:List (Str×Addr))(names:List (Str×NameKind)):List (Str×Addr):=names.foldl (Kd cells) []
theorem qt(h:∀x∈scope.names,x.2=.free->(env.cells.lookup x.1).isSome=true):closureFor scope env=pure (C3 env.cells scope.names):=by
 simp only[closureFor];rw[rY (Kd env.cells) (λx hx c=>by
  obtain⟨n,k⟩:=x;unfold Kd
  by_cases b:k=NameKind.free
  .subst b;have q:=h _ hx rfl;obtain⟨a,f⟩:=Option.isSome_iff_exists.mp q;have d:env.cells.lookup n=some a:=f;have e:cellOf env n=pure a:=by unfold cellOf;rw[d]
   simp[e,d]
  .have:(k == NameKind.free)=false:=by simpa using b
   simp[this,b])]
 rfl
theorem Ze{cells:List (Str×Addr)}:∀(names:List (Str×NameKind))(acc:List (Str×Addr)),(∀y∈names,y.2=.free->(cells.lookup y.1).isSome=true)->
  (∀x c,acc.lookup x=some c->cells.lookup x=some c)->∀x c,(names.foldl (Kd cells) acc).lookup x=some c->cells.lookup x=some c
 | [],acc,_,ha,x,c,e=>ha x c e
 | (n,k)::r,acc,hs,ha,x,c,e=>by
  rw[List.foldl_cons]at e;refine Ze r _ (λy f=>hs y (DK _ f)) (λx c e=>?_) x c e;unfold Kd at e
  by_cases b:k=NameKind.free
  .rw[md b]at e;have q:=hs _ Cz b;obtain⟨a,q⟩:=Option.isSome_iff_exists.mp q;have d:cells.lookup n=some a:=q;rw[Hd]at e
   by_cases hx:x=n
   .subst hx;simp only[rQ,d,ZDq]at e;rw[d,<- e]
   .have g:(x == n)=false:=by simpa using hx
    rw[g]at e;exact ha x c e
  .rw[mY b]at e;exact ha x c e
theorem YU{cells:List (Str×Addr)}{x:Str}:∀(names:List (Str×NameKind))(acc:List (Str×Addr)),((acc.lookup x).isSome=true∨(x,NameKind.free)∈names)->
  ((names.foldl (Kd cells) acc).lookup x).isSome=true
 | [],acc,h=>by
  rcases h with h|h
  .exact h
  .cases h
 | (n,k)::r,acc,h=>by
  rw[List.foldl_cons];refine YU r _ ?_;unfold Kd;rcases h with h|h
  .refine .inl ?_;split
   .rw[Hd];split
    .rfl
    .exact h
   .exact h
  .rcases List.mem_cons.mp h with e|h
   .cases e;refine .inl ?_;rw[md rfl,Hd];simp
   .exact .inr h
theorem Px{env:Env}:∀(names:List (Str×NameKind))(x:Str),
  (names.map λ(n,k)=>if(k == NameKind.free && env.scope.kind == .function && env.kindOf n == some .cell)then(n,NameKind.cell)else(n,k)).lookup x =
   (names.lookup x).map λk=>if(k == NameKind.free && env.scope.kind == .function && env.kindOf x == some .cell)then NameKind.cell else k
 | [],x=>rfl
 | (n,k)::r,x=>by
  have c:=Px (env:=env) r x;rw[Bv]
  by_cases a:(k == NameKind.free && env.scope.kind == .function && env.kindOf n == some .cell)=true
  .show List.lookup x ((if(k == NameKind.free && env.scope.kind == .function && env.kindOf n == some .cell)=true then(n,NameKind.cell)else(n,k))::_)=_
   rw[md a,Hd,Hd]
   by_cases hx:x=n
   .subst hx;simp only[rQ,ZF];rw[md a]
   .have b:(x == n)=false:=by simpa using hx
    rw[b];exact c
  .show List.lookup x ((if(k == NameKind.free && env.scope.kind == .function && env.kindOf n == some .cell)=true then(n,NameKind.cell)else(n,k))::_)=_
   rw[mY a,Hd,Hd]
   by_cases hx:x=n
   .subst hx;simp only[rQ,ZF];rw[mY a]
   .have b:(x == n)=false:=by simpa using hx
    rw[b];exact c
noncomputable abbrev GX(X:Cx)(N:List Str)(scope:Scope)(cl:List (Str×Addr))(C:Addr)(s:Shared)(H:Hp)(fp:List Addr):Cx:=
 { X with N:=N,s₀:=s,H₀:=H,env:=compEnvC scope cl C X.env,outer:=X.stack,ex:=fp,fn:=λ_=>false,pn:=[],xe:=λ_ _=>False }
def BW(js:List Nat)(Z:St):St:=js.map λj=>(Z[j]?).join
structure E6 (N:List Str) (outer scope:Scope) (x:Str) (AZ:List Str) (js:List Nat):Prop where
 kind:scope.kind=.function
 L1:∀y∈scope.names,y.2≠.cell
 loc:∀y∈scope.names,y.2=.local->scope.names.lookup y.1=some .local
 KN:scope.names.lookup x=some .local
 at':js.map (λj=>N[j]?)=AZ.map some
 cell:∀y∈AZ,outer.names.lookup y=some .cell
 free:∀y∈AZ,scope.names.lookup y=some .free
 all:∀y∈scope.names,y.2=.free->outer.names.lookup y.1=some .cell
 nd:(AZ++[x]).Nodup
def Hm(X:Cx)(ifs:List Expr)(t:TT):Prop:=
 ∀(Zb:ZEf)(s:Shared)(Z:St)(H:Hp)(Q:Bool->Hp->Prop),Inv X Zb Z H s->t Z H Q->
  wpAny (model X.prog X.w) X.A (forIn ifs true λc r=>if r=true then do let ok <- isTrue c X.env (eval c X.env);pure (ForInStep.yield ok)else pure (ForInStep.yield r)) (TP X Zb Z Q) X.xe s
def M5:TT:=λ_ H Q=>Q true H
theorem vh{t:TT}(a:PT X c t):Hm X [c] t:=λZb s Z H Q I h=>by
 rw[List.forIn_cons];refine lr ?_;rw[md rfl];refine lr (AR (a Zb s Z H Q I h) λb s1 q=>oo ?_);show wpAny _ _ (forIn [] b _) _ _ s1;rw[jn];exact oo q
def K6(J:It)(js:List Nat)(tt:TT)(te:TE)(Z:St)(H1:Hp)(acc:Addr)(Q:VK):Prop:=
 ∃W:Nat->Nat->Hp->Prop,(∃m,W 0 m (upd H1 acc (.lst [])))/\∀i m H2,W i m H2->
  (J.stop i H2/\Q (.ref acc) H2)∨(J.go i H2/\∀x H3,J.FC i H2 x H3->tt (BW js Z++[some x]) H3 λb H4=>
   if b=true then te (BW js Z++[some x]) H4 λy H5=>∃ys,H5 acc=some (.lst ys)/\ys.length<sizeLine/\∃a,a < m/\W (i+1) a (upd H5 acc (.lst (ys++[y])))
   else ∃a,a < m/\W (i+1) a H4)
def Ks(wi:TI)(js:List Nat)(tt:TT)(te:TE):TE:=λZ H Q=>wi Z H λJ H1=>∀acc,H1 acc=none->K6 J js tt te Z H1 acc Q
theorem uD(l:List α)(a b:α):(l++[a]).set l.length b=l++[b]:=by
 induction l with
 |nil=>rfl
 |cons x l c=>simp[c]
noncomputable def Hk:Option Str->Addr->List (Str×Addr)
 |none,_=>[]
 |some x,n=>[(x,n)]
noncomputable def R8:Option Str->Heap->Heap
 |none,h=>h
 |some _,h=>h.push { cls:=.type "cell", data:=.cell none }
structure Eh (N:List Str) (outer scope:Scope) (ce:Option Str) (zs AZ:List Str) (js:List Nat):Prop where
 kind:scope.kind=.function
 loc:∀y∈scope.names,y.2=.local->scope.names.lookup y.1=some .local
 one:∀y∈scope.names,y.2=.cell->ce=some y.1
 sub:∀x,ce=some x->x∈zs
 cf:∀(n:Nat)(cl:List (Str×Addr)),cellsFrom n scope.names cl=Hk ce n++cl
 pc:∀h:Heap,pushCells h scope.names=R8 ce h
 at':js.map (λj=>N[j]?)=AZ.map some
 cell:∀y∈AZ,outer.names.lookup y=some .cell
 free:∀y∈AZ,scope.names.lookup y=some .free
 all:∀y∈scope.names,y.2=.free->outer.names.lookup y.1=some .cell
 nd:(AZ++zs).Nodup
abbrev FD(X:Cx)(N:List Str)(scope:Scope)(ce:Option Str)(cl:List (Str×Addr))(C:Addr)(s:Shared)(H:Hp)(fp:List Addr):Cx:=
 { X with N:=N,s₀:=s,H₀:=H,env:=compEnvC scope (Hk ce (C+1)++cl) C X.env,outer:=X.stack,ex:=fp,fn:=λy=>ce == some y,pn:=[],xe:=λ_ _=>False }
theorem rH{M:Model}{a:Addr}{b:Option Addr}{c:Value}{outer:Env}{Q:Env->Shared->Prop}
  (cf:∀(n:Nat)(cl:List (Str×Addr)),cellsFrom n scope.names cl=Hk ce n++cl) (pc:∀h:Heap,pushCells h scope.names=R8 ce h)
  (d:Q (newEnv scope s.heap.objs.size a (Hk ce (s.heap.objs.size+1)++closure) qual b c (some outer) builtinsNs) { s with heap:=R8 ce (s.heap.push { cls:=.type "dict", data:=.dict #[] }) }) :
  wpAny M A (newFunctionEnv scope a closure [] qual b c (some outer)) Q E s:=by
 simp only[newFunctionEnv,ZDr,zy];refine lr (wpAny_alloc ?_);refine lr (wpAny_layCells _ (λname kind cells=>by cases e:kind == NameKind.cell <;> simp[e]) _ _ _ _ ?_)
 rw[cf,pc];rw[show({ s with heap:=s.heap.push { cls:=.type "dict", data:=.dict #[] } }:Shared).heap.objs.size=s.heap.objs.size+1 from Hx ..]
 refine lr ?_;rw[jn];exact oo (oo d)
theorem kJ{c:Addr}(h:(Hk ce n++cl).lookup y=some c):(ce=some y/\c=n)∨(ce≠some y/\cl.lookup y=some c):=by
 cases ce with
 |none=>exact .inr ⟨λz=>(by cases z),h⟩
 |some x=>
  have h:((x,n)::cl).lookup y=some c:=h;rw[Hd]at h
  by_cases e:y=x
  .subst e;simp only[rQ]at h;exact .inl ⟨rfl,(BL h).symm⟩
  .have a:(y == x)=false:=by simpa using e
   rw[a]at h;exact .inr ⟨λz=>e (BL z).symm,h⟩
theorem hG(h:ce≠some y):(Hk ce n++cl).lookup y=cl.lookup y:=by
 cases ce with
 |none=>rfl
 |some x=>
  show((x,n)::cl).lookup y=_;have a:(y == x)=false:=beq_eq_false_iff_ne.mpr λz=>h (by rw[z]);rw[Hd,a]
theorem ZCk:(Hk (some x) n++cl).lookup x=some n:=by
 show((x,n)::cl).lookup x=_;rw[Hd,rQ]
theorem mX{prog:Program}{iter:Expr}{it acc:Value}(I:Nat->Shared->Prop)
  (turn:∀n s,I n s->wpAny (model prog w) A (pyNext it) (λr s1=>match r with
   |none=>R (.ok .next) s1
   |some v=>wpAny (model prog w) A (letOwnedTupleGo tg it v) (λ_ s2=>wpAny (model prog w) A (assign tg env v) (λ_ f=>
     wpAny (model prog w) A (forIn ifs true λc r=>if r=true then do let ok <- isTrue c env (eval c env);pure (ForInStep.yield ok)else pure (ForInStep.yield r)) (λok s4=>if ok=true then
      wpAny (model prog w) A (eval elt env) (λx d=>wpAny (model prog w) A (call (.builtin "list.append") [acc,x]) (λ_ b=>∃m,m<n/\I m b) (notedBy (model prog w) A env λe s'=>R (.error e) s') d) (notedBy (model prog w) A env λe s'=>R (.error e) s') s4
      else ∃m,m<n/\I m s4) (notedBy (model prog w) A env λe s'=>R (.error e) s') f)
     (notedBy (model prog w) A env λe s'=>R (.error e) s') s2) (notedBy (model prog w) A env λe s'=>R (.error e) s') s1) (notedBy (model prog w) A env λe s'=>R (.error e) s') s)
  (n:Nat) (h:I n s):codeAny (model prog w) A (.compLoop (.ListComp elt [⟨tg,iter,ifs,0⟩] scope pos) 0 it acc env) R s:=by
 refine codeAny_loop rfl I (λn s o=>(show wpAny _ A ((compTurn (.ListComp elt [⟨tg,iter,ifs,0⟩] scope pos) 0 it acc env).onRaise (λx=>do noteFrame x env;theTreesLotGoes x)) _ _ s from wpAny_noted ?_)) n h
 rw[compTurn_list];refine lr (wpAny_standAt (lr (qr (turn n s o) (λr s1 g=>?_) λ_ _ z=>z)));cases r with
 |none=>exact oo g
 |some v=>
  refine lr (qr g (λ_ s2 l=>lr (qr l (λ_ f k=>lr (qr k (λok s4 a=>?_) λ_ _ z=>z)) λ_ _ z=>z)) λ_ _ z=>z);cases ok with
  |false=>
   rw[mY (by decide)]at a;exact lr (oo (oo ⟨rfl,a⟩))
  |true=>
   rw[md rfl]at a;exact lr (lr (qr a (λx d j=>lr (qr j (λ_ b i=>oo (oo ⟨rfl,i⟩)) λ_ _ z=>z)) λ_ _ z=>z))
abbrev W6(tt:TT)(te:TE)(acc:Addr)(W:Nat->Nat->Hp->Prop)(i m:Nat)(Z:St)(H:Hp):Prop:=
 tt Z H λb H4=>if b=true then te Z H4 λy H5=>∃ys,H5 acc=some (.lst ys)/\ys.length<sizeLine/\∃m',m' < m/\W (i+1) m' (upd H5 acc (.lst (ys++[y])))
  else ∃m',m' < m/\W (i+1) m' H4
def PJ(g:TG)(n:Nat)(J:It)(js:List Nat)(tt:TT)(te:TE)(Z:St)(H1:Hp)(acc:Addr)(Q:VK):Prop:=
 ∃W:Nat->Nat->Hp->Prop,(∃m,W 0 m (upd H1 acc (.lst [])))/\∀i m H2,W i m H2->
  (J.stop i H2/\Q (.ref acc) H2)∨(J.go i H2/\∀x H3,J.FC i H2 x H3->∀ws,ws.length=n->g x (BW js Z++ws) H3 λσ8 H8=>∃us,us.length=n/\σ8=BW js Z++us/\W6 tt te acc W i m σ8 H8)
def fQ(CW:It->St->Hp->Addr->VK->Prop)(wi:TI):TE:=λZ H Q=>wi Z H λJ H1=>∀acc,H1 acc=none->CW J Z H1 acc Q
section
variable{iter:Expr}{zs AZ:List Str}{fp:List Addr}{g:TG}
theorem mr(h:scope.names.lookup x=some .cell):(relabel scope env).names.lookup x=some .cell:=by
 refine(Px (env:=env) scope.names x).trans ?_;rw[h];simp
theorem my{n:Nat}{v:V}(h:(List.replicate n (none:Option V))[i]?=some (some v)):False:=by
 rw[jo]at h
 by_cases c:i<n
 .rw[md c]at h;cases h
 .rw[mY c]at h;cases h
theorem kN(S:Eh X.N X.env.scope scope ce zs AZ js)(I3:Inv X Zb Z H2 s2)(G:∀b∈fp,EI X Zb H2 b)(M:∀b∈fp,b<s2.heap.objs.size){h1:Heap}
  {m:ZEg}(MV:h1.Ns s2.heap.objs.size m) (A:∀b o,s2.heap.get? b=some o->h1.get? b=some o) (F:∀x,ce=some x->h1.IsCell (s2.heap.objs.size+1) none) :
  Inv (FD X (AZ++zs) scope ce (C3 X.env.cells scope.names) s2.heap.objs.size s2 H2 fp) [] (BW js Z++List.replicate zs.length none) H2 { s2 with heap:=h1,toks:=t' }:=by
 have R:∀y∈scope.names,y.2=.free->(X.env.cells.lookup y.1).isSome=true:=λy g D=>by
  obtain⟨c,e⟩:=I3.ok.has y.1 (.inl (S.all y g D));rw[e];rfl
 have P:∀y c,(C3 X.env.cells scope.names).lookup y=some c->X.env.cells.lookup y=some c:=Ze scope.names [] R (λ_ _ e=>by cases e);have L:∀y k,(relabel scope X.env).names.lookup y=some k->k=.cell∨k=.free->scope.names.lookup y=some .free∨ce=some y:=λy k e D=>by
  have t:=(Px (env:=X.env) scope.names y).symm.trans e;cases q:scope.names.lookup y with
  |none=>rw[q]at t;cases t
  |some k0=>
   rw[q]at t;cases k0 with
   |free=>exact .inl rfl
   |cell=>exact .inr (S.one _ (LR q) rfl)
   |_=>simp at t;rcases D with rfl|rfl <;> cases t
 have n:js.length=AZ.length:=by have:=sA List.length S.at';simpa using this
 have O:∀y c,X.env.cells.lookup y=some c->c<s2.heap.objs.size:=λy c e=>by
  obtain⟨v,o,ho,_⟩:=I3.cell y c e;exact BE ho
 have f:∀c v,s2.heap.IsCell c v->h1.IsCell c v:=λc v AG=>by obtain⟨o,ho,hd⟩:=AG;exact⟨o,A c o ho,hd⟩
 have B:∀y c,(Hk ce (s2.heap.objs.size+1)++C3 X.env.cells scope.names).lookup y=some c->(ce=some y/\c=s2.heap.objs.size+1)∨(ce≠some y/\X.env.cells.lookup y=some c):=λy c e=>(kJ e).imp id λz=>⟨z.1,P y c z.2⟩;have T:∀y∈AZ,ce≠some y:=λy g z=>(List.nodup_append.mp S.nd).2.2 y g y (S.sub y z) rfl;refine⟨⟨I3.ok.mod,S.kind,I3.ok.glob,I3.ok.blt,Ap _,λy z c K E=>?_,λy g=>?_,λy c J e=>?_,I3.ok.hd,I3.ok.frames,.inl rfl,λb s=>⟨C0 (M b s),λy c e=>?_⟩,
  λb o e=>I3.bs b o e,Cs I3.ok.Ga I3.sz,λb o e s=>?_,λb s hs=>?_,I3.stack,I3.TJ⟩,rfl,I3.bare,Un.kept A,⟨m,MV,λi y v K E e3=>?_⟩,λy c e=>?_,I3.AN.fresh (Ap _),λy c e=>?_,λp V=>(by cases V),I3.AN.kept A,?_⟩
 .rcases B y c K with⟨a1,rfl⟩|⟨_,Ck⟩
  .rcases B z _ E with⟨a2,_⟩|⟨_,El⟩
   .exact BL (a1.symm.trans a2)
   .exact absurd (O z _ El) (ZDo (Gr _))
  .rcases B z c E with⟨_,rfl⟩|⟨_,El⟩
   .exact absurd (O y _ Ck) (ZDo (Gr _))
   .exact I3.ok.inj y z c Ck El
 .have J:scope.names.lookup y=some .free∨ce=some y:=g.elim (λg=>L y _ g (.inl rfl)) λg=>L y _ g (.inr rfl);show ∃c,List.lookup y (Hk ce (s2.heap.objs.size+1)++C3 X.env.cells scope.names)=some c
  by_cases ex:ce=some y
  .rw[ex];exact⟨_,ZCk⟩
  .rw[hG ex];exact Option.isSome_iff_exists.mp (YU scope.names [] (.inr (LR (J.resolve_right ex))))
 .rcases B y c e with⟨_,rfl⟩|⟨n1,_⟩
  .exact Gr _
  .exact absurd (eq_of_beq J) n1
 .rcases B y c e with⟨_,rfl⟩|⟨_,Ck⟩
  .exact N8 (N7 (M b s))
  .exact(G b s).2.2.2.2.1 y c Ck
 .rcases(G b s).2.2.2.1 with z|z
  .exact I3.ok.JV b o e z
  .exact absurd (DT (DT (BE e) I3.ok.Ga) z) (LQ _)
 .rcases List.mem_cons.mp (I3.Qb b hs)with z|z
  .exact(G b s).2.1 z
  .exact(G b s).2.2.1 z
 .have F:(BW js Z).length=AZ.length:=by unfold BW;rw[AW,n]
  have hi:i<AZ.length:=by
   by_cases hi:i<AZ.length
   .exact hi
   .have d:(BW js Z++List.replicate zs.length none)[i]?=some (some v):=E;rw[JA (by rw[F];omega),F]at d;exact(my d).elim
  have H:AZ[i]?=some y:=by
   have H:(AZ++zs)[i]?=some y:=K
   rwa [Hc hi]at H
  have d:(BW js Z)[i]?=some (some v):=by
   have d:(BW js Z++List.replicate zs.length none)[i]?=some (some v):=E
   rwa [Hc (by rw[F];exact hi)]at d
  have C:y∈AZ:=Cr H;unfold BW at d;rw[BG]at d;cases I:js[i]? with
  |none=>rw[I]at d;cases d
  |some j=>
   rw[I]at d;have Y:X.N[j]?=some y:=by
    have q:=sA (λl=>l[i]?) S.at';simp only[BG,I,H,ZF]at q;exact BL q
   have hσ:Z[j]?=some (some v):=by
    simp only[ZF,Option.some.injEq]at d;cases q:Z[j]? with
    |none=>rw[q]at d;cases d
    |some w=>rw[q]at d;simp at d;rw[d]
   obtain⟨m0,W,U⟩:=I3.loc;obtain⟨u,r,l⟩:=U j y v Y hσ (.inr (.inl (S.cell y C)));refine⟨u,r,?_⟩;rcases l with⟨k,_⟩|⟨_,c,e,z⟩
   .have k':X.env.scope.names.lookup y=some .local:=k;rw[S.cell y C]at k';cases k'
   .have Ul:X.env.kindOf y=some .cell:=S.cell y C;have D:(relabel scope X.env).names.lookup y=some .cell:=by
     refine(Px (env:=X.env) scope.names y).trans ?_;rw[S.free y C];simp[I3.ok.kind,Ul]
    obtain⟨σ,t⟩:=Option.isSome_iff_exists.mp (YU (cells:=X.env.cells) scope.names [] (.inr (LR (S.free y C))));have Q:=P y σ t;rw[e]at Q;cases Q;exact .inr ⟨.inl D,c,(hG (T y C)).trans t,f c _ z⟩
 .rcases B y c e with⟨a,rfl⟩|⟨_,Ck⟩
  .exact⟨none,F _ a⟩
  .obtain⟨v,z⟩:=I3.cell y c Ck;exact⟨v,f c v z⟩
 .rcases B y c e with⟨_,rfl⟩|⟨_,Ck⟩
  .exact I3.AN.fresh (Gr _)
  .exact I3.EU y c Ck
 .show(BW js Z++List.replicate zs.length none).length=(AZ++zs).length;unfold BW;simp[n]
theorem ZDN(h:Y.prog=X.prog)(hw:Y.w=X.w)(O:Y.K=X.K)(hA:Y.A=X.A)(mK:Y.xe=λ_ _=>False)(N:Y.calm=true)
  (hg:PG Y tg g) (DW:Hm Y ifs tt) (Di:PE Y elt te)
  (T:Turn X.prog X.w X.K tg J fp it tn) (p:∀b∈fp,Y.Ok->EI Y [] (λ_=>none) b)
  (W:Nat->Nat->Hp->Prop) (Q:VK)
  (turn:∀i m H2,W i m H2->(J.stop i H2/\Q (.ref acc) H2)∨(J.go i H2/\∀x H3,J.FC i H2 x H3->∀ws,ws.length=n0->g x (BW js Z++ws) H3 λσ8 H8=>∃us,us.length=n0/\σ8=BW js Z++us/\W6 tt te acc W i m σ8 H8))
  (I4:Inv Y [] (BW js Z++ws) H4 s4) (S9:tn 0 s4.heap) (xu:∀b∈fp,H4 b=none) (L:Nat) (w4:W 0 L H4)
  (t:ws.length=n0) (hR:∀H' s' ws,Inv Y [] (BW js Z++ws) H' s'->Q (.ref acc) H'->R (.ok .next) s') :
  codeAny (model X.prog X.w) X.A (.compLoop (.ListComp elt [⟨tg,iter,ifs,0⟩] scope pos) 0 (.ref it) (.ref acc) Y.env) R s4:=by
 have AN:=I4.ok;have F:∀{H':Hp},(∀b∈fp,H' b=none)->∀b∈fp,EI Y [] H' b:=λhn b c=>⟨hn b c,(p b c AN).2⟩;rw[<- h,<- hw,<- hA];have j:∀{σ:Value->Shared->Prop}v s,Y.xe v s->σ v s:=λv s z=>by rw[mK]at z;exact z.elim
 refine mX (λn s'=>∃i ws H',ws.length=n0/\Inv Y [] (BW js Z++ws) H' s'/\tn i s'.heap/\(∀b∈fp,H' b=none)/\W i n H') ?_ L ⟨0,ws,H4,t,I4,S9,xu,w4⟩;rintro n I⟨i,U,H5,yg,I5,Md,RC,w5⟩;rcases turn i n H5 w5 with⟨stop,q⟩|⟨go,step⟩
 .have d:=T.done Y h hw O N i [] I _ H5 (λ_ _=>False) I5 (F RC) Md stop;rw[<- h,<- hw]at d;refine qr d (λr H⟨hr,I6⟩=>?_) λ_ _ z=>z.elim;subst hr;exact hR H5 H U I6 q
 .have d:=T.item Y h hw O N i [] I _ H5 (λ_ _=>False) I5 (F RC) Md go;rw[<- h,<- hw]at d;refine qr d (λr H⟨u,hr,h6⟩=>?_) λ_ _ z=>z.elim;subst hr;refine qr h6 (λ_ G⟨v,H7,I7,r7,y7,Xq,D⟩=>?_) λ_ _ z=>z.elim;have vx:=I7.pinned (F D) (T.obj _ _ Xq);refine qr (hg _ G _ H7 v u _ vx r7 (step v H7 y7 U yg)) (λ_ s8⟨σ8,H8,I8,us,P,e8,B⟩=>?_) j;subst e8;have a:∀{σa:St}{Ha:Hp}{sa:Shared},Inv Y ([]++NI fp G.heap) σa Ha sa->tn (i+1) sa.heap/\(∀b∈fp,Ha b=none):=λ{σa Ha sa}Ia=>by
   refine⟨T.keep _ _ _ Xq λb c o e=>(Ia.pin (b,o) (Eg _ (Eg _ (Q7 c e)))).1,λb c=>?_⟩;obtain⟨o,e,d⟩:=T.obj _ _ Xq b c;exact(Ia.pin (b,o) (Eg _ (Eg _ (Q7 c e)))).2.1
  refine qr (DW _ s8 _ H8 _ I8 B) (λb s9⟨H9,I9,l⟩=>?_) j;cases b with
  |false=>
   have k:∃f,f < n/\W (i+1) f H9:=l;obtain⟨f,C,w9⟩:=k;rw[mY (by decide)];exact⟨f,C,i+1,_,H9,P,I9.Og,(a I9).1,(a I9).2,w9⟩
  |true=>
   rw[md rfl];rw[md rfl]at l;refine qr (Di _ s9 _ H9 _ I9 l) (λV Cn⟨y,M,vC,p8,ys,Au,hz,f,C,ot⟩=>?_) j;refine qr (bN (X:=Y) _ Cn _ M (.ref acc) [y] (.ref acc) [V] (λ_ S=>S=upd M acc (.lst (ys++[y]))) vC rfl (.cons p8 .nil) ⟨acc,ys,y,rfl,rfl,Au,hz,rfl⟩)
    (λ_ ND⟨_,S,YT,_,E⟩=>?_) j
   subst E;exact⟨f,C,i+1,_,_,P,YT.Og,(a YT).1,(a YT).2,ot⟩
theorem fS{RR:Value->Addr->Result->Shared->Prop}(L:X.calm=true)(S:Eh X.N X.env.scope scope ce zs AZ js)
  (I:∀C s H,PG (FD X (AZ++zs) scope ce (C3 X.env.cells scope.names) C s H fp) tg g)
  (DW:∀C s H,Hm (FD X (AZ++zs) scope ce (C3 X.env.cells scope.names) C s H fp) ifs tt) (Di:∀C s H,PE (FD X (AZ++zs) scope ce (C3 X.env.cells scope.names) C s H fp) elt te)
  (T:Turn X.prog X.w X.K tg J fp it tn) (I2:Inv X Zb Z H2 s2) (JE:tn 0 s2.heap) (k:∀b∈fp,EI X Zb H2 b) (Q:VK) (M:∀acc,H2 acc=none->PJ g zs.length J js tt te Z H2 acc Q)
  (j:∀acc C H' s' m,Inv X Zb Z H' s'->EI X Zb H' C->s'.heap.Ns C m->Q (.ref acc) H'->RR (.ref acc) C (.ok .next) s') :
  wpAny (model X.prog X.w) X.A (newList []) (λacc a=>wpAny (model X.prog X.w) X.A (newFunctionEnv scope X.env.globals (C3 X.env.cells scope.names) [] X.env.qual none .none (some X.env)) (λr s4=>
   codeAny (model X.prog X.w) X.A (.compStart (.ListComp elt [⟨tg,iter,ifs,0⟩] scope pos) 0 (.ref it) acc { r with scope:=relabel scope X.env }) (RR acc r.locals) s4) E a) E s2:=by
 refine uB (rH S.cf S.pc ?_);have i:Inv X Zb Z (upd H2 s2.heap.objs.size (.lst [])) { s2 with heap:=s2.heap.push { cls:=.type "list", data:=.seq ([]:List Value).toArray } }:=I2.Uk (t':=s2.toks) .nil (Bm _)
 have v:∀b∈fp,b<s2.heap.objs.size:=λb c=>by
  obtain⟨o,e,_⟩:=T.obj _ _ JE b c;exact BE e
 have hsz:(s2.heap.push { cls:=.type "list", data:=.seq ([]:List Value).toArray }).objs.size=s2.heap.objs.size+1:=Hx ..;have f:∀b∈fp,EI X Zb (upd H2 s2.heap.objs.size (.lst [])) b:=λb c=>⟨by rw[Af (C0 (v b c))];exact(k b c).1,(k b c).2⟩;generalize D:({ s2 with heap:=s2.heap.push { cls:=.type "list", data:=.seq ([]:List Value).toArray } }:Shared)=a at i ⊢
 have t:a.heap=s2.heap.push { cls:=.type "list", data:=.seq ([]:List Value).toArray }:=by rw[<- D]
 have y:∀b∈fp,b<a.heap.objs.size:=λb c=>by rw[t,hsz];exact N7 (v b c)
 generalize l:R8 ce (a.heap.push { cls:=.type "dict", data:=.dict #[] })=h1;have n:∀b o,(a.heap.push { cls:=.type "dict", data:=.dict #[] }).get? b=some o->h1.get? b=some o:=λb o e=>by
  rw[<- l];cases ce with
  |none=>exact e
  |some _=>exact BZ _ e
 have h:∀b o,a.heap.get? b=some o->h1.get? b=some o:=λb o e=>n b o (BZ _ e);have z:∀b o,s2.heap.get? b=some o->h1.get? b=some o:=λb o e=>h b o (by rw[t];exact BZ _ e);have O:h1.Ns a.heap.objs.size (λ_=>none):=(Heap.Ns.new a.heap (.type "dict")).keeps n;have P:∀x,ce=some x->h1.IsCell (a.heap.objs.size+1) none:=λx hx=>by
  subst hx;rw[<- l];have e:(a.heap.push { cls:=.type "dict", data:=.dict #[] }).objs.size=a.heap.objs.size+1:=Hx ..;exact⟨_,by rw[<- e];exact CA _ rfl,rfl⟩
 have R:=kN S i f y O h P (t':=a.toks);have u:tn 0 h1:=T.keep _ _ _ JE λb _ o e=>z b o e;obtain⟨W,⟨F,B⟩,turn⟩:=M s2.heap.objs.size (I2.AN.fresh (Ap _));have d:codeAny (model X.prog X.w) X.A (.compLoop (.ListComp elt [⟨tg,iter,ifs,0⟩] scope pos) 0 (.ref it) (.ref s2.heap.objs.size) (compEnvC scope (Hk ce (a.heap.objs.size+1)++C3 X.env.cells scope.names) a.heap.objs.size X.env))
   (RR (.ref s2.heap.objs.size) a.heap.objs.size) { a with heap:=h1 }:=by
  refine ZDN (X:=X) (Y:=FD X (AZ++zs) scope ce (C3 X.env.cells scope.names) a.heap.objs.size a (upd H2 s2.heap.objs.size (.lst [])) fp) (acc:=s2.heap.objs.size) (Q:=Q) rfl rfl rfl rfl rfl L (I _ _ _) (DW _ _ _) (Di _ _ _) T (λb c ok=>⟨rfl,(ok.Kx b c).1,ok.JD b c,.inl c,(ok.Kx b c).2,λp G=>by cases G⟩) W turn R u (λb c=>(f b c).1) F B (jr ..) λH' s' w I' q=>?_;obtain⟨m,hn,_⟩:=I'.loc;exact j _ _ H' s' m (i.ZCv (ch:=fp) I'.os I'.base I'.AN I'.bare λb c=>⟨(f b c).2.2.2.1,(f b c).2.1,(f b c).2.2.2.2.1,(f b c).2.2.2.2.2⟩) (i.Ko (Ap _) I'.free) hn q
 exact codeAny_compStart_list d (T.self X.A 0 _ _ _ u d)
theorem dX(S:Eh X.N X.env.scope scope ce zs AZ js)(I:Inv X Zb Z H s):closureFor scope X.env=pure (C3 X.env.cells scope.names):=qt λy a b=>by
 obtain⟨c,e⟩:=I.ok.has y.1 (.inl (S.all y a b));rw[e];rfl
theorem i8(j:∀J Z H1 acc Q,CW J Z H1 acc Q->PJ g zs.length J js tt te Z H1 acc Q)(d:X.calm=true)(S:Eh X.N X.env.scope scope ce zs AZ js)(hi:PI X tg iter wi)
  (c:∀fp C s H,PG (FD X (AZ++zs) scope ce (C3 X.env.cells scope.names) C s H fp) tg g)
  (DW:∀fp C s H,Hm (FD X (AZ++zs) scope ce (C3 X.env.cells scope.names) C s H fp) ifs tt) (Di:∀fp C s H,PE (FD X (AZ++zs) scope ce (C3 X.env.cells scope.names) C s H fp) elt te)
  (hs:∀v,foldedSetIterable iter X.env v=pure v):PE X (.ListComp elt [⟨tg,iter,ifs,0⟩] scope pos) (fQ CW wi):=by
 intro Zb s Z H Q I h;rw[eval_ListComp];refine y4 (use:=none) rfl hs (dX S I) S.kind S.loc (AR (hi Zb s Z H _ I h) λv s1 h1=>AR h1 λRZ s2 h2=>?_);obtain⟨it,fp,tn,J,H2,e,I2,T,JE,k,hw⟩:=h2;subst e;refine fS (RR:=λacc C=>compPost (model X.prog X.w) X.A X.xe none (EP X Zb Z Q) acc C) d S (c fp) (DW fp) (Di fp) T I2 JE k Q (λacc i=>j _ _ _ _ _ (hw acc i)) λacc C H' s' m I' a hn q=>⟨m,hn,λh' Ue=>?_⟩;exact⟨.ref acc,H',I'.turned (t':=s'.toks) (λb o f e=>(Ue.2 b f).trans e) a.1 a.2.1 a.2.2.2.1 a.2.2.2.2.1 a.2.2.2.2.2,rfl,q⟩
theorem zq(t:∀J Z H1 acc Q,CW J Z H1 acc Q->PJ g zs.length J js tt te Z H1 acc Q)(u:X.N.Nodup)(E7:X.N[i]?=some y)(j:Loc X.env.scope y)(p:X.calm=true)(S:Eh X.N X.env.scope scope ce zs AZ js)(hi:PI X tg iter wi)
  (l:∀fp C s H,PG (FD X (AZ++zs) scope ce (C3 X.env.cells scope.names) C s H fp) tg g)
  (DW:∀fp C s H,Hm (FD X (AZ++zs) scope ce (C3 X.env.cells scope.names) C s H fp) ifs tt) (Di:∀fp C s H,PE (FD X (AZ++zs) scope ce (C3 X.env.cells scope.names) C s H fp) elt te)
  (NO:swapsWith (.ListComp elt [⟨tg,iter,ifs,0⟩] scope pos) (some (.Name y py)) Jg.line X.env=pure true)
  (n:X.fn y=true∨X.env.scope.names.lookup y=some .local)
  (hs:∀v,foldedSetIterable iter X.env v=pure v):PS X (.Assign [.Name y py] (.ListComp elt [⟨tg,iter,ifs,0⟩] scope pos) Jg) (En (fQ CW wi) (C7 i)):=by
 intro Zb s Z H D I h;rw[exec_Assign_Name_used _ _ _ _ NO];refine lr (wpAny_standAt (lr ?_));show wpAny _ X.A (do let _ <- comprehension (.ListComp elt [⟨tg,iter,ifs,0⟩] scope pos) scope X.env _ (newList []) false (eval iter X.env) (some (assign (.Name y py) X.env))) _ _ s
 refine lr (qr (y4 (use:=some (assign (.Name y py) X.env)) (Q:=λ_ s'=>SP X Zb D .next s') rfl hs (dX S I) S.kind S.loc
  (AR (hi Zb s Z H _ I h) λv s1 h1=>AR h1 λRZ s2 h2=>?_)) (λ_ s' k=>oo (oo k)) λ_ _ e=>e)
 obtain⟨it,fp,tn,J,H2,e,I2,T,JE,x,hw⟩:=h2;subst e;refine fS (RR:=λacc C=>compPost (model X.prog X.w) X.A X.xe (some (assign (.Name y py) X.env)) (λ_ s'=>SP X Zb D .next s') acc C) p S (l fp) (DW fp) (Di fp) T I2 JE x _ (λacc d=>t _ _ _ _ _ (hw acc d)) λacc C H' s' m I' c hn q=>?_;show wpAny _ X.A (assign (.Name y py) X.env (.ref acc)) _ _ s';refine wpAny_assign_Name (dH (v:=.ref acc) I' u E7 j rfl (λOK I''⟨a,f,d⟩=>?_) n);have B:C≠a:=by
  rcases d with z|z
  .rw[z];exact c.2.1
  .exact(c.2.2.2.2.1 y a z).symm
 refine⟨m,hn.sameBut f B,λh' Ue=>?_⟩;exact⟨_,H',I''.turned (t':=OK.toks) (λb o r e=>(Ue.2 b r).trans e) c.1 c.2.1 c.2.2.2.1 c.2.2.2.2.1 c.2.2.2.2.2,q⟩
theorem fk{n:Nat}{cl:List (Str×Addr)}:∀{names:List (Str×NameKind)},(∀y∈names,y.2≠.cell)->cellsFrom n names cl=cl
 | [],_=>rfl
 | (x,k)::r,h=>by
  have b:(k == NameKind.cell)=false:=beq_eq_false_iff_ne.mpr (h _ Cz);rw[cellsFrom,b];exact fk λy a=>h y (DK _ a)
theorem h7{a:Heap}:∀{names:List (Str×NameKind)},(∀y∈names,y.2≠.cell)->pushCells a names=a
 | [],_=>rfl
 | (x,k)::r,h=>by
  have c:(k == NameKind.cell)=false:=beq_eq_false_iff_ne.mpr (h _ Cz);rw[pushCells,c];exact h7 λy b=>h y (DK _ b)
theorem Eh.eV(kind:scope.kind=.function)(L1:∀y∈scope.names,y.2≠.cell)(loc:∀y∈scope.names,y.2=.local->scope.names.lookup y.1=some .local)
  (at':js.map (λj=>N[j]?)=AZ.map some) (cell:∀y∈AZ,outer.names.lookup y=some .cell) (free:∀y∈AZ,scope.names.lookup y=some .free)
  (all:∀y∈scope.names,y.2=.free->outer.names.lookup y.1=some .cell) (nd:(AZ++zs).Nodup):Eh N outer scope none zs AZ js:=
 ⟨kind,loc,λy a e=>absurd e (L1 y a),λx e=>(by cases e),λn cl=>fk L1,λh=>h7 L1,at',cell,free,all,nd⟩
theorem Eh.len(S:Eh N outer scope ce zs AZ js)(Z:St):(BW js Z).length=AZ.length:=by
 unfold BW;rw[AW];have:=sA List.length S.at';simpa using this
theorem cF(S:Eh N outer scope ce [x] AZ js)(J:It)(Z:St)(H1:Hp)(acc:Addr)(Q:VK)(h:K6 J js tt te Z H1 acc Q):PJ (C7 AZ.length) 1 J js tt te Z H1 acc Q:=by
 obtain⟨W,a,h⟩:=h;refine⟨W,a,λi m H2 w=>(h i m H2 w).imp id λz=>⟨z.1,λx H3 y ws hw=>?_⟩⟩
 match ws,hw with
 | [w],_=>
  have e:(BW js Z++[w]).set AZ.length (some x)=BW js Z++[some x]:=by rw[<- S.len Z];exact uD _ _ _
  exact⟨[some x],rfl,e,by rw[e];exact z.2 x H3 y⟩
theorem gc(S:Eh X.N X.env.scope scope ce [x] AZ js)(hx:scope.names.lookup x=some .local∨(ce=some x/\scope.names.lookup x=some .cell)):
  PG (FD X (AZ++[x]) scope ce cl C s H fp) (.Name x px) (C7 AZ.length):=
 YL S.nd (by simp) (hx.imp (λh=>uX h) λh=>mr h.2) (hx.symm.imp (λh=>by show(ce == some x)=true;rw[h.1];exact rQ _) λh=>uX h)
inductive KJ:List Str->List Expr->Prop
 |nil:KJ [] []
 |cons {x:Str}{zs:List Str}{p:Pos}{es:List Expr}:KJ zs es->KJ (x::zs) (.Name x p::es)
def Mr(i:Nat):Nat->HV
 | 0=>K7
 |n+1=>FP (C7 i) (Mr (i+1) n)
theorem ZT{Q:St->Hp->Prop}{H:Hp}:∀{us:List V}{l ws:St},ws.length=us.length->Q (l++us.map some) H->Mr l.length us.length us (l++ws) H Q
 | [],l,ws,h,q=>by
  rw[List.length_eq_zero_iff.mp h];exact⟨rfl,q⟩
 |u::us,l,w::ws,h,q=>by
  refine⟨u,us,rfl,?_⟩;show Mr (l.length+1) us.length us ((l++w::ws).set l.length (some u)) H Q;have e:(l++w::ws).set l.length (some u)=(l++[some u])++ws:=by
   rw[ZDj _ _ (Ap _),k6];simp
  have a:l.length+1=(l++[some u]).length:=by simp
  rw[e,a];refine ZT (l:=l++[some u]) (by simpa using h) ?_
  rw[Bc];exact q
theorem bM{X:Cx}(a:X.N.Nodup):∀{zs:List Str}{es:List Expr}{i:Nat},KJ zs es->(∀(j:Nat)x,zs[j]?=some x->X.N[i+j]?=some x/\Loc X.env.scope x/\X.env.scope.names.lookup x=some .local)->Mj X es (Mr i zs.length)
 |_,_,_,.nil,_=>eI
 |_,_,i,.cons (x:=x) (zs:=zs) r,h=>by
  obtain⟨h1,h2,c⟩:=h 0 _ rfl;refine aA (YL a h1 h2 (.inr c)) (bM a r λj y b=>?_);have:=h (j+1) y b
  rwa [show i+(j+1)=i+1+j by omega]at this
def VU(K:ZEe)(n:Nat)(J:It)(js:List Nat)(tt:TT)(te:TE)(Z:St)(H1:Hp)(acc:Addr)(Q:VK):Prop:=
 ∃W:Nat->Nat->Hp->Prop,(∃m,W 0 m (upd H1 acc (.lst [])))/\∀i m H2,W i m H2->
  (J.stop i H2/\Q (.ref acc) H2)∨(J.go i H2/\∀x H3,J.FC i H2 x H3->∃a us,x=.ref a/\AA K H3 a us/\us.length=n/\W6 tt te acc W i m (BW js Z++us.map some) H3)
theorem yD{K:ZEe}(S:Eh N outer scope ce zs AZ js)(J:It)(Z:St)(H1:Hp)(acc:Addr)(Q:VK)(h:VU K zs.length J js tt te Z H1 acc Q):PJ (JI K zs.length (Mr AZ.length zs.length)) zs.length J js tt te Z H1 acc Q:=by
 obtain⟨W,c,h⟩:=h;refine⟨W,c,λi m H2 w=>(h i m H2 w).imp id λz=>⟨z.1,λx H3 y ws hw=>?_⟩⟩;obtain⟨a,us,e,hs,b,q⟩:=z.2 x H3 y;refine⟨a,us,e,hs,b,?_⟩;rw[<- b,<- S.len Z];exact ZT (by rw[hw,b]) ⟨us.map some,AW ..,rfl,q⟩
theorem kO{tp:Pos}(c:X.calm=true)(S:Eh X.N X.env.scope scope ce zs AZ js)(KN:∀x∈zs,scope.names.lookup x=some .local)(Nx:KJ zs es)(M0:∀e,(assignEach es e).length=zs.length)(Hn:∀e,(assignEach es e).findIdx? (·.1)=none):
  PG (FD X (AZ++zs) scope ce cl C s H fp) (.Tuple es tk tp) (JI X.K zs.length (Mr AZ.length zs.length)):=
 Zo (X:=FD X (AZ++zs) scope ce cl C s H fp) c (bM S.nd (i:=AZ.length) Nx λj y b=>by
  have a:=Cr b;exact⟨by show(AZ++zs)[AZ.length+j]?=_;rw[JA (by omega),Nat.add_sub_cancel_left];exact b,.inl (uX (KN y a)),uX (KN y a)⟩) (M0 _) (Hn _)
theorem E6.G(S:E6 N outer scope x AZ js):Eh N outer scope none [x] AZ js:=.eV S.kind S.L1 S.loc S.at' S.cell S.free S.all S.nd
theorem qG(a:X.calm=true)(S:E6 X.N X.env.scope scope x AZ js)(hi:PI X (.Name x px) iter wi)
  (DW:∀fp C s H,Hm (GX X (AZ++[x]) scope (C3 X.env.cells scope.names) C s H fp) ifs tt) (Di:∀fp C s H,PE (GX X (AZ++[x]) scope (C3 X.env.cells scope.names) C s H fp) elt te)
  (hs:∀v,foldedSetIterable iter X.env v=pure v:=by intro _;rfl):PE X (.ListComp elt [⟨.Name x px,iter,ifs,0⟩] scope pos) (Ks wi js tt te):=
 i8 (CW:=λJ Z H1 acc Q=>K6 J js tt te Z H1 acc Q) (cF S.G) a S.G hi (λ_ _ _ _=>gc S.G (.inl S.KN)) DW Di hs
theorem ZAa(c:X.N.Nodup)(E7:X.N[i]?=some y)(a:Loc X.env.scope y)(b:X.calm=true)(S:E6 X.N X.env.scope scope x AZ js)(hi:PI X (.Name x px) iter wi)
  (DW:∀fp C s H,Hm (GX X (AZ++[x]) scope (C3 X.env.cells scope.names) C s H fp) ifs tt) (Di:∀fp C s H,PE (GX X (AZ++[x]) scope (C3 X.env.cells scope.names) C s H fp) elt te)
  (NO:swapsWith (.ListComp elt [⟨.Name x px,iter,ifs,0⟩] scope pos) (some (.Name y py)) Jg.line X.env=pure true:=by rfl)
  (hf:X.fn y=true∨X.env.scope.names.lookup y=some .local:=by first|exact .inl rfl|exact .inr rfl|assumption)
  (hs:∀v,foldedSetIterable iter X.env v=pure v:=by intro _;rfl):PS X (.Assign [.Name y py] (.ListComp elt [⟨.Name x px,iter,ifs,0⟩] scope pos) Jg) (En (Ks wi js tt te) (C7 i)):=
 zq (CW:=λJ Z H1 acc Q=>K6 J js tt te Z H1 acc Q) (cF S.G) c E7 a b S.G hi (λ_ _ _ _=>gc S.G (.inl S.KN)) DW Di NO hf hs
end
def Df(K:ZEe)(tp:Bool)(H:Hp)(a:Addr)(xs:List V):Prop:=match tp with
 |false=>AJ K H a xs
 |true=>AA K H a xs
theorem Df.or{K:ZEe}(h:Df K tp H a xs):AJ K H a xs∨AA K H a xs:=by
 cases tp
 .exact .inl h
 .exact .inr h
noncomputable def OI(K:ZEe)(tp:Bool)(a:Addr)(xs:List V):It:=
 ⟨λi H=>Df K tp H a xs/\i<xs.length,λi H x H'=>H'=H/\xs[i]?=some x,λi H=>Df K tp H a xs/\xs.length<=i⟩
theorem ZDM{P:Program}{K:ZEe}(a it:Addr)(xs:List V):Turn P w K tg (OI K false a xs) [it] it (λi h=>h.IsListIter it a i) where
 mem:=by simp
 obj:=(M6 (P:=P) (w:=w) (K:=K) (tg:=tg) a it).obj
 keep:=(M6 (P:=P) (w:=w) (K:=K) (tg:=tg) a it).keep
 item:=by
  intro X f hw g d i Zb s Z H E I c st b;obtain⟨j,hi⟩:=b;refine AR ((M6 (P:=P) (w:=w) (K:=K) (tg:=tg) a it).item X f hw g d i Zb s Z H E I c st ⟨xs,xs[i],j,by simp[hi]⟩) λr s1 AG=>by obtain⟨u,e,h⟩:=AG;exact⟨u,e,AR h λ_ s2 DJ=>by obtain⟨x,H',I',k,y,Ct,l⟩:=DJ;exact⟨x,H',I',k,⟨y.1,y.2 xs j⟩,Ct,l⟩⟩
 done:=by
  intro X f hw g d i Zb s Z H E I c st b;exact(M6 (P:=P) (w:=w) (K:=K) (tg:=tg) a it).done X f hw g d i Zb s Z H E I c st ⟨xs,b.1,b.2⟩
 self:=(M6 (P:=P) (w:=w) (K:=K) (tg:=tg) a it).self
theorem yI{P:Program}{K:ZEe}(a it:Addr)(xs:List V):Turn P w K tg (OI K true a xs) [it] it (λi h=>h.IsTupleIter it a i) where
 mem:=by simp
 obj:=(NA (P:=P) (w:=w) (K:=K) (tg:=tg) a it).obj
 keep:=(NA (P:=P) (w:=w) (K:=K) (tg:=tg) a it).keep
 item:=by
  intro X f hw g d i Zb s Z H E I c st b;obtain⟨j,hi⟩:=b;refine AR ((NA (P:=P) (w:=w) (K:=K) (tg:=tg) a it).item X f hw g d i Zb s Z H E I c st ⟨xs,xs[i],j,by simp[hi]⟩) λr s1 AG=>by obtain⟨u,e,h⟩:=AG;exact⟨u,e,AR h λ_ s2 DJ=>by obtain⟨x,H',I',k,y,Ct,l⟩:=DJ;exact⟨x,H',I',k,⟨y.1,y.2 xs j⟩,Ct,l⟩⟩
 done:=by
  intro X f hw g d i Zb s Z H E I c st b;exact(NA (P:=P) (w:=w) (K:=K) (tg:=tg) a it).done X f hw g d i Zb s Z H E I c st ⟨xs,b.1,b.2⟩
 self:=(NA (P:=P) (w:=w) (K:=K) (tg:=tg) a it).self
def Y7(K:ZEe)(tl:TE):TI:=λZ H R=>tl Z H λx H1=>∃tp a xs,x=.ref a/\Df K tp H1 a xs/\R (OI K tp a xs) H1
def Xi(z:Str):It:=⟨λi _=>i<z.cps.size,λi H x H'=>H'=H/\∃c,z.cps[i]?=some c/\x=.str ⟨#[c]⟩,λi _=>i=z.cps.size⟩
theorem Zc{P:Program}{K:ZEe}{t:Tok}{ty:String}
  (hn:["enumerate","zip","dict_itemiterator","dict_reverseitemiterator","odict_iterator","itertools.zip_longest","itertools.pairwise"].contains ty=false)
  (W:∀A:Around,A.handled=none->Walks P w A it [it] [it] z.cps.size (SignAt z) (λi h=>h.IsStrIter it ty z t i))
  (self:∀(A:Around)(i:Nat)(s:Shared)(Q:Value->Shared->Prop)(E:Value->Shared->Prop),s.heap.IsStrIter it ty z t i->Q (.ref it) s->wpAny (model P w) A (pyIter (.ref it)) Q E s) :
  Turn P w K tg (Xi z) [it] it (λi h=>h.IsStrIter it ty z t i) where
 mem:=by simp
 obj:=λi h st b a=>by
  have e:b=it:=by simpa using a
  subst e;obtain⟨o,e,c,d⟩:=st;exact⟨o,e,λv z=>by rw[d]at z;cases z⟩
 keep:=λi h h' st k=>let ⟨o,e,r⟩:=st;⟨o,k it (by simp) o e,r⟩
 item:=by
  intro X l hw m j i Zb s Z H E I f st g;subst l hw m;obtain⟨f0,x,C,q,p,n⟩:=f it (by simp);refine(W X.A (I.ok.hd j)).item i s _ _ g st λv h' tk⟨c,u,Rb,B⟩Ct kp=>?_;subst B;have D:Inv X Zb Z H { s with heap:=h',toks:=tk }:=I.turned (t':=tk) (λb o a e=>kp b o (by simpa using a) e) f0 x q p n
  obtain⟨o,e,cl,d⟩:=id Ct;exact⟨_,rfl,Nt (s:={ s with heap:=h',toks:=tk }) e cl d hn ⟨.str ⟨#[c]⟩,H,D,⟨u,rfl⟩,⟨rfl,c,Rb,rfl⟩,Ct,λb a=>(f b a).1⟩⟩
 done:=by
  intro X l hw m j i Zb s Z H E I f st g;subst l hw m;obtain⟨f0,x,C,q,p,n⟩:=f it (by simp);have y:i=z.cps.size:=g;subst y;exact(W X.A (I.ok.hd j)).done s _ _ st λh' tk kp=>⟨rfl,I.turned (t':=tk) (λb o a e=>kp b o (by simpa using a) e) f0 x q p n⟩
 self:=self
def iG(tl:TE):TI:=λZ H R=>tl Z H λx H1=>∃z,x=.str z/\R (Xi z) H1
theorem Ah(h:H p=none)(o:HO):A8 H (upd H p o):=λb u q=>by rw[Af (E8 q h)];exact q
theorem A8.uw{K:ZEe}(e:A8 H H')(h:AA K H a xs):AA K H' a xs:=by
 rcases h with(h|⟨o,h⟩)|h
 .exact .inl (.inl (e _ _ h))
 .exact .inl (.inr ⟨o,e _ _ h⟩)
 .exact .inr h
theorem A8.sq{K:ZEe}(e:A8 H H')(h:Df K tp H a xs):Df K tp H' a xs:=by
 cases tp
 .exact A8.seq e h
 .exact A8.uw e h
theorem j4{Q:VK}(xs:List V)(f:V->Bool)(g:V->V)(Au:H1 acc=none)(hz:xs.length<=sizeLine)
  (n:∀i H,A8 H1 H->i<xs.length->J.go i H) (BY:∀H,A8 H1 H->J.stop xs.length H) (p:∀i H x H',J.FC i H x H'->H'=H/\xs[i]?=some x)
  (r:∀(i:Nat)(x:V)(H':Hp)(Q':Bool->Hp->Prop),xs[i]?=some x->A8 H1 H'->(∀EJ,A8 H' EJ->Q' (f x) EJ)->tt (BW js Z++[some x]) H' Q')
  (s:∀(i:Nat)(x:V)(H':Hp)(Q':VK),xs[i]?=some x->f x=true->A8 H1 H'->(∀EJ,A8 H' EJ->Q' (g x) EJ)->te (BW js Z++[some x]) H' Q')
  (hd:∀H',A8 H1 H'->H' acc=some (.lst ((xs.filter f).map g))->Q (.ref acc) H'):K6 J js tt te Z H1 acc Q:=by
 refine⟨λi m H=>m=xs.length - i/\i<=xs.length/\A8 H1 H/\H acc=some (.lst (((xs.take i).filter f).map g)),⟨xs.length,by simp,Bm _,Ah Au _,AH⟩,?_⟩;rintro i m H2⟨rfl,hi,a,j⟩
 by_cases h:i<xs.length
 .refine .inr ⟨n i H2 a h,λx H3 y=>?_⟩;obtain⟨e,hx⟩:=p i H2 x H3 y;subst e;have w:(xs.take (i+1))=xs.take i++[x]:=by
   have u:xs[i]=x:=by
    rw[BA h]at hx;exact BL hx
   rw[Sz h,u]
  have l:List.filter f (xs.take (i+1))=(xs.take i).filter f++(if f x=true then[x]else[]):=by
   rw[w,Sq];congr 1
   by_cases c:f x=true <;> simp[c]
  refine r i x _ _ hx a λH4 s4=>?_
  by_cases c:f x=true
  .rw[md c];refine s i x H4 _ hx c (a.trans s4) λH5 k=>?_;have d:(((xs.take i).filter f).map g).length<sizeLine:=by
    rw[AW];have:=PR f (xs.take i);rw[CK]at this;omega
   refine⟨_,k _ _ (s4 _ _ j),d,xs.length - (i+1),by omega,rfl,h,λb o q=>?_,?_⟩
   .have t:b≠acc:=by rintro rfl;rw[Au]at q;cases q
    rw[Af t];exact k _ _ (s4 _ _ (a b o q))
   .rw[AH,l,md c,E4];rfl
  .have v:f x=false:=by simpa using c
   rw[v];rw[mY (by decide)];refine⟨xs.length - (i+1),by omega,rfl,h,a.trans s4,?_⟩;rw[l,mY c,GA];exact s4 _ _ j
 .have e:i=xs.length:=by omega
  subst e;refine .inl ⟨BY H2 a,hd H2 a ?_⟩;rw[LP]at j;exact j
theorem N1{K:ZEe}{Q:VK}(f:V->Bool)(g:V->V)(b:Df K tp H1 a xs)(Au:H1 acc=none)(hz:xs.length<=sizeLine)
  (c:∀(i:Nat)(x:V)(H':Hp)(Q':Bool->Hp->Prop),xs[i]?=some x->A8 H1 H'->(∀EJ,A8 H' EJ->Q' (f x) EJ)->tt (BW js Z++[some x]) H' Q')
  (d:∀(i:Nat)(x:V)(H':Hp)(Q':VK),xs[i]?=some x->f x=true->A8 H1 H'->(∀EJ,A8 H' EJ->Q' (g x) EJ)->te (BW js Z++[some x]) H' Q')
  (hd:∀H',A8 H1 H'->H' acc=some (.lst ((xs.filter f).map g))->Q (.ref acc) H'):K6 (OI K tp a xs) js tt te Z H1 acc Q:=
 j4 xs f g Au hz (λi H s hi=>⟨s.sq b,hi⟩) (λH s=>⟨s.sq b,Ap _⟩) (λi H x H' y=>y) c d hd
def Gb(z:Str):List V:=z.cps.toList.map λc=>.str ⟨#[c]⟩
theorem YE(z:Str):(Gb z).length=z.cps.size:=by unfold Gb;simp
theorem fe{Q:VK}(f:V->Bool)(g:V->V)(Au:H1 acc=none)(hz:z.cps.size<=sizeLine)
  (a:∀(i:Nat)(x:V)(H':Hp)(Q':Bool->Hp->Prop),(Gb z)[i]?=some x->A8 H1 H'->(∀EJ,A8 H' EJ->Q' (f x) EJ)->tt (BW js Z++[some x]) H' Q')
  (b:∀(i:Nat)(x:V)(H':Hp)(Q':VK),(Gb z)[i]?=some x->f x=true->A8 H1 H'->(∀EJ,A8 H' EJ->Q' (g x) EJ)->te (BW js Z++[some x]) H' Q')
  (hd:∀H',A8 H1 H'->H' acc=some (.lst (((Gb z).filter f).map g))->Q (.ref acc) H'):K6 (Xi z) js tt te Z H1 acc Q:=by
 refine j4 (Gb z) f g Au (by rw[YE];exact hz) (λi H s hi=>?_) (λH s=>?_) (λi H x H' y=>?_) a b hd
 .rw[YE]at hi;exact hi
 .show(Gb z).length=z.cps.size;exact YE z
 .obtain⟨e,c,d,hx⟩:=y;refine⟨e,?_⟩;subst hx;unfold Gb;rw[BG,je,d];rfl
def FI(xs ys:List V):Bool:=xs.length == ys.length && (List.range xs.length).all λj=>Dl (xs.getD j .AE) (ys.getD j .AE)
theorem Oe{x:V}(h:xs[j]?=some x):xs.getD j .AE=x:=by rw[N4,h];rfl
theorem bA{x:V}(h:xs.all Ec=true)(e:xs[j]?=some x):Ec x=true:=List.all_eq_true.mp h x (Cr e)
theorem Rt{Bd:List Value}(d:Vals xs A5)(c:Vals ys Bd)(k:xs.all Ec=true)(i:ys.all Ec=true):
  ∀j(h1:j<A5.toArray.size)(h2:j<Bd.toArray.size),SeqAt.EqAt A s A5.toArray[j] Bd.toArray[j] (Dl (xs.getD j .AE) (ys.getD j .AE)):=λj h1 h2=>by
 have l1:=d.length;have l2:=c.length;have o:j<A5.length:=by simpa using h1
 have n:j<Bd.length:=by simpa using h2
 have b:xs[j]?=some (xs[j]'(by omega)):=BA _;have a:ys[j]?=some (ys[j]'(by omega)):=BA _;obtain⟨u,f,h⟩:=d.get b;obtain⟨v,e,g⟩:=c.get a;rw[BA o]at f;rw[BA n]at e;have l:A5[j]=u:=BL f;have m:Bd[j]=v:=BL e;rw[Oe b,Oe a];have q:=Qd (A:=A) (s:=s) h g (bA k b) (bA i a);rw[<- l,<- m]at q
 simpa using q
def Ov(K:ZEe)(neg:Bool):R2:=λx y H Q=>∃p q xs ys,x=.ref p/\y=.ref q/\((AJ K H p xs/\AJ K H q ys)∨(AA K H p xs/\AA K H q ys))/\xs.all Ec=true/\ys.all Ec=true/\
 Q (.bl (if neg then !FI xs ys else FI xs ys)) H
theorem ML(h:xs.length≠ys.length):FI xs ys=false:=by
 unfold FI;have:(xs.length == ys.length)=false:=by simpa using h
 rw[this,Bool.false_and]
theorem Mg(h:xs.length=ys.length):FI xs ys=(List.range xs.length).all λj=>Dl (xs.getD j .AE) (ys.getD j .AE):=by
 unfold FI;have:(xs.length == ys.length)=true:=by simpa using h
 rw[this,Yu]
theorem R3(g:X.A.units<cLine):BH X (compareOp .Eq) (Ov X.K false):=by
 intro Zb s Z H x y v u Q I t r h;obtain⟨p,q,xs,ys,rfl,rfl,w,m,l,z⟩:=h;cases t;cases r;have b:Q (.bl (FI xs ys)) H:=z;rcases w with⟨k,i⟩|⟨k,i⟩
 .obtain⟨A5,d,f,o⟩:=I.list k;obtain⟨Bd,c,p2,n⟩:=I.list i;have l1:=d.length;have l2:=c.length
  by_cases a:xs.length=ys.length
  .refine SeqAt.eq_listAt (e:=λj=>Dl (xs.getD j .AE) (ys.getD j .AE)) f.isList p2.isList (by simp;omega) g (Rt d c m l) ⟨.bl _,H,I,rfl,?_⟩;rw[Mg a]at b;simp only[Bl,<- l1];exact b
  .rw[ML a]at b;exact SeqAt.eq_list_lengthsAt f.isList p2.isList (by simp;omega) g ⟨.bl false,H,I,rfl,b⟩
 .obtain⟨A5,d,f,o⟩:=I.tuple k;obtain⟨Bd,c,p2,n⟩:=I.tuple i;have l1:=d.length;have l2:=c.length;refine SeqAt.eq_tupleAt (e:=λj=>Dl (xs.getD j .AE) (ys.getD j .AE)) f p2 g (Rt d c m l) ⟨.bl _,H,I,rfl,?_⟩;simp only[Bl,<- l1,<- l2]
  by_cases a:xs.length=ys.length
  .rw[Mg a]at b;have:(xs.length == ys.length)=true:=by simpa using a
   rw[this,jf,<- a,jz];exact b
  .rw[ML a]at b;have:(xs.length == ys.length)=false:=by simpa using a
   rw[this,Yt];exact b
theorem Ow(g:X.A.units<cLine):BH X (compareOp .NotEq) (Ov X.K true):=by
 intro Zb s Z H x y v u Q I t r h;obtain⟨p,q,xs,ys,rfl,rfl,w,m,l,z⟩:=h;cases t;cases r;have b:Q (.bl (!FI xs ys)) H:=z;rcases w with⟨k,i⟩|⟨k,i⟩
 .obtain⟨A5,d,f,o⟩:=I.list k;obtain⟨Bd,c,p2,n⟩:=I.list i;have l1:=d.length;have l2:=c.length
  by_cases a:xs.length=ys.length
  .refine SeqAt.RcNeAt.lists (e:=λj=>Dl (xs.getD j .AE) (ys.getD j .AE)) f.isList p2.isList (by simp;omega) g (Rt d c m l) _ _ _ _ ⟨.bl _,H,I,rfl,?_⟩;rw[Mg a]at b;simp only[Bl,<- l1];exact b
  .rw[ML a]at b;exact SeqAt.RcNeAt.lists_lengths f.isList p2.isList (by simp;omega) g _ _ _ _ ⟨.bl true,H,I,rfl,b⟩
 .obtain⟨A5,d,f,o⟩:=I.tuple k;obtain⟨Bd,c,p2,n⟩:=I.tuple i;have l1:=d.length;have l2:=c.length;refine SeqAt.RcNeAt.tuples (e:=λj=>Dl (xs.getD j .AE) (ys.getD j .AE)) f p2 g (Rt d c m l) _ _ _ _ ⟨.bl _,H,I,rfl,?_⟩;simp only[Bl,<- l1,<- l2]
  by_cases a:xs.length=ys.length
  .rw[Mg a]at b;have:(xs.length == ys.length)=true:=by simpa using a
   rw[this,jf,<- a,jz];exact b
  .rw[ML a]at b;have:(xs.length == ys.length)=false:=by simpa using a
   rw[this,Yt];exact b
theorem ZAj:D7 X (.builtin "isinstance") (λxs H Q=>∃x n t b,xs=[x,.ty n]/\Ei X.K H x t/\PySem.W.kitOne X.K t (.type n)=some b/\Q (.bl b) H):=by
 intro Zb s Z H xs us Q I r h;obtain⟨x,n,t,b,rfl,ty,e,q⟩:=h;obtain⟨u,c,rfl,a,rt⟩:=vals2 r;cases rt;exact zh I a ty e λtk=>⟨.bl b,H,I.tok tk,rfl,q⟩
theorem ZDL{bs:List Bool}(r:Vals (bs.map V.bl) A5)(e:A5[i]?=some v):v=.bool (bs.getD i false):=by
 have c:=r.length;rw[AW]at c;have hi:i<A5.length:=(List.getElem?_eq_some_iff.mp e).1;have d:(bs.map V.bl)[i]?=some (.bl (bs[i]'(by omega))):=by rw[BG,BA (by omega)];rfl
 obtain⟨u,a,b⟩:=r.get d;rw[e]at a;cases a;cases b;rw[N4,BA (by omega)];rfl
theorem range_all(bs:List Bool):(List.range bs.length).all (λi=>bs.getD i false)=bs.all id:=by
 rw[PL,J9,J9];constructor
 .intro h x hx;obtain⟨i,hi,rfl⟩:=List.mem_iff_getElem.mp hx;have:=h i (List.mem_range.mpr hi);rw[N4,BA hi]at this;exact this
 .intro h i hi;rw[N4,BA (List.mem_range.mp hi)];exact h _ (PQ _)
theorem LU(j:X.calm=true):D7 X (.builtin "all") (λxs H Q=>∃(p:Addr)(bs:List Bool),xs=[.ref p]/\AJ X.K H p (bs.map V.bl)/\Q (.bl (bs.all id)) H):=by
 intro Zb s Z H xs us Q I r h;obtain⟨p,bs,rfl,g,q⟩:=h;obtain⟨u,rfl,d⟩:=vals1 r;cases d;obtain⟨A5,a,pl,hz⟩:=I.list g;have c:=a.length;rw[AW]at c;refine call_all_walk (wa pl.isList ?_);obtain⟨o,n,ho,_⟩:=id pl;have l:p≠s.heap.objs.size:=C0 (BE ho);refine⟨s.heap.objs.size,_,_,_,_,_,λi=>bs.getD i false,rfl,Walks.list (by rw[Around.in1_handled];exact I.ok.hd j) _ p l A5.toArray,⟨⟨_,CA _ rfl,rfl,rfl⟩,pl.isList.push _⟩,λi v s' Q' E' f DY=>?_,λh' tk kp=>?_⟩
 .have k:v=.bool (bs.getD i false):=ZDL a (by simpa using f)
  rw[k];exact tL DY
 .refine⟨.bl _,H,I.kept (t':=tk) λb ob e=>kp b ob (by simpa using C0 (BE e)) (BZ _ e),rfl,?_⟩
  rw[Bl,<- c,range_all];exact q
def iR:V->List V->Hp->VK->Prop:=λx vs H Q=>∃(l:Addr)(xs:List V)(j:Int)(y:V),x=.ref l/\vs=[.int j,y]/\H l=some (.lst xs)/\0<=j/\j<=xs.length/\xs.length<sizeLine/\Q .AE (upd H l (.lst (xs.take j.toNat++y::xs.drop j.toNat)))
theorem lG:eA X "list.insert" iR:=by
 intro Zb s Z H x vs v us Q I d f h;obtain⟨l,xs,j,y,rfl,rfl,b,p,o,hz,q⟩:=h;cases d;obtain⟨A,a,rfl,g,c⟩:=f.two;obtain⟨t,rfl⟩:=g;obtain⟨z,A5,n,r,m,e⟩:=I.Rg b;have h2:j<2 ^ 63:=by
  have B:(xs.length:Int)<=(sizeLine:Int):=Int.ofNat_le.mpr z;have C:((sizeLine:Nat):Int)<2 ^ 63:=by exact_mod_cast Ju
  omega
 have i:(!Builtin.List.listFitsIndex j)=true->False:=by
  have h1:Builtin.List.listFitsIndex j=true:=by
   unfold Builtin.List.listFitsIndex;rw[Ez];exact⟨lx (by omega),lx h2⟩
  rw[h1];exact λh=>nomatch h
 have w:A5.toArray.size<=sizeLine:=Cs (jx (List.size_toArray.trans m.symm)) z;refine call_meets ZDw ⟨_,e,rfl⟩ PySem.F.entry_list_insert (PySem.F.args_list_insert_3 _ _ _) (PySem.AutoSeq1.list_insert_list_int_val_1 l A5.toArray n j t a i w) ⟨e,?_⟩;refine⟨.AE,_,I.gE (its':=A5.take j.toNat++a::A5.drop j.toNat) b e ?_ ((r.take _).append (.cons c (r.drop _))) ?_,rfl,q⟩
 .have u:¬ (j<0):=by omega
  have k:min j.toNat A5.toArray.size=j.toNat:=by simp;omega
  simp only[u,yT,k];apply Array.toList_inj.mp;simp;exact Sy (by simp)
 .rw[Bu,Cc,CK,FA];omega
def yJ:V->Option Int->Option Int->Hp->VK->Prop:=λx lo hi H Q=>∃z,x=.str z/\z.length<=sizeLine/\Q (.str (Txt.slice z lo hi)) H
theorem part_of{o:Option Int}(p:IsPart v o):∃l:Option (Int×Tok),v=partValue l/\l.map (·.1)=o:=by
 cases p with
 |none=>exact⟨none,rfl,rfl⟩
 |int i t=>exact⟨some (i,t),rfl,rfl⟩
theorem fb:KH X yJ:=by
 intro Zb s Z H x v vl vu lo hi sl Q I a hs pl b h;obtain⟨z,rfl,hz,q⟩:=h;obtain⟨t,rfl⟩:=a;obtain⟨l,rfl,d⟩:=part_of pl;obtain⟨u,rfl,c⟩:=part_of b;subst d;subst c;refine⟨"str", _,F.slot_str_getitem.lookup,typeIs_str _ _ _,wpAny_getItem_str_slice (l:=l) (u:=u) (st:=none) hs rfl (post_val_or_str ⟨Cs (Txt.slice_le z _ _) hz,λt' k=>?_⟩)⟩;exact⟨.str _,H,I.tok k,⟨t',rfl⟩,q⟩
end L2
set_option exponentiation.threshold 5000
namespace L2
variable{f p:Addr}{H:Hp}
def A9(P:Program)(w:World)(K:ZEe)(mg:ZEg)(Zu:Heap)(x:Str)(k:Nat)(ps:List Str)(sp:Sp):Prop:=
 ∃f fd,DN P w K mg Zu G3 k f fd ps sp/\Binds K fd ps []/\PySem.W.keepIn K (.ref f)=true/\mg x=some (.ref f)
section
variable{P:Program}{w:World}{K:ZEe}{mg:ZEg}{Zu:Heap}{x qual:Str}{k:Nat}{ps:List Str}{sp:Sp}{st:Stmt}{fd:FuncData}
theorem A9.mk(F:AK K x qual st f fd)(b:Binds K fd ps [])(m:mg x=some (.ref f))(h:DN P w K mg Zu G3 k f fd ps sp):A9 P w K mg Zu x k ps sp:=⟨f,fd,h,b,F.kp,m⟩
variable{X:Cx}{j:Nat}{p pos:Pos}{e:Expr}{es:List Expr}{t:TA}
def Wf(K:ZEe):List V->Hp->VK->Prop:=λxs H Q=>∃(p:Addr)(ys:List V),xs=[.ref p]/\(AJ K H p ys∨AA K H p ys)/\Q (.int ys.length) H
theorem D1:D7 X (.builtin "len") (Wf X.K):=Eb
def Qk(K:ZEe):List V->Hp->VK->Prop:=λxs H Q=>∃(x:V)(n:String)(t:Value)(b:Bool),xs=[x,.ty n]/\Ei K H x t/\PySem.W.kitOne K t (.type n)=some b/\Q (.bl b) H
theorem IW:D7 X (.builtin "isinstance") (Qk X.K):=ZAj
theorem Nj:MZ X "list.append" Py:=bN
theorem ZAU:MZ X "list.insert" iR:=lG
def o8(i j:Int):Prop:=i.natAbs<2 ^ 1000/\j.natAbs<2 ^ 1000
theorem Zg{n:Nat}(h:n<2 ^ 1000):n.log2<1000:=by
 rcases Nat.eq_zero_or_pos n with e|e
 .subst e;exact(show(0:Nat).log2<1000 by decide)
 .exact(Nat.log2_lt (N8 e)).mpr h
theorem bits_le{i:Int}(h:i.natAbs<2 ^ 1000):Builtin.Int.intBits i<=2 ^ 20:=by
 unfold Builtin.Int.intBits;split
 .exact Bm _
 .have:=Zg h;have e:(2:Nat) ^ 20=1048576:=by decide
  omega
theorem K9:BH X (binaryOp .Mult) (rI o8 λi j=>.int (i * j)):=Pu λ_ _ _ _ _ _ _ a q=>mul_int q (.of_bits (bits_le a.1) (bits_le a.2))
theorem VD:BH X (binaryOp .FloorDiv) (rI (λ_ j=>0<j/\j.natAbs<2 ^ 1000) λi j=>.int (i / j)):=Pu λi j _ _ _ _ _ a q=>by
 have h1:(0:Int)<j:=a.1;have h2:=Zg a.2;exact floordiv_int (by omega) (by rw[Int.fdiv_eq_ediv_of_nonneg i (by omega)];exact q) (.inl (PyProof.noPylong_of_log2 (by omega)))
theorem lW{body rest:List Stmt}{t u:TS}(e:body=st::rest)(h:PS X st t)(h2:Dd X rest u):Dd X body (Oq t u):=by rw[e];exact pU h h2
def WS(t:TS):TS:=λD Z H=>∃J:St->Hp->Prop,t { D with nx:=J } Z H/\∀ σ' H',J σ' H'->D.nx σ' H'
end
def Gj(p:Addr)(H H':Hp):Prop:=∀b o,b≠p->H b=some o->H' b=some o
theorem Gj.trans{H1 H2:Hp}(a:Gj p H H1)(b:Gj p H1 H2):Gj p H H2:=λc o d e=>b c o d (a c o d e)
theorem Gj.of{H':Hp}(a:A8 H H'):Gj p H H':=λc o _ e=>a c o e
theorem Gj.upd{o:HO}:Gj p H (upd H p o):=λc u a e=>by rw[Af a];exact e
end L2
set_option maxHeartbeats 8000000
namespace L2
variable{ss:List Str}
noncomputable def uG(P:Program)(w:World)(a:Addr)(f:Str->Bool)(n:Nat):HO:=.ext λh=>h.SetOf (strKind P w) a f n
section
variable{X:Cx}
theorem df{A5:List Value}(r:Vals (ss.map V.str) A5){i:Nat}{v:Value}(e:A5[i]?=some v):∃(h:i<ss.length)(t:Tok),v=.str ss[i] t:=by
 have d:=r.length;rw[AW]at d;have hi:i<A5.length:=(List.getElem?_eq_some_iff.mp e).1;have b:i<ss.length:=by omega
 have f:(ss.map V.str)[i]?=some (.str ss[i]):=by rw[BG,BA b];rfl
 obtain⟨u,a,c⟩:=r.get f;rw[e]at a;cases a;obtain⟨t,q⟩:=c;exact⟨b,t,q⟩
end
end L2
set_option maxHeartbeats 4000000
namespace L2
variable{X:Cx}{a c e l o tg:Expr}{es ifs:List Expr}{body rest:List Stmt}{ta te tl to:TE}{t tb:TS}{tc tt:TT}{p pos pos' px:Pos}{name x y:Str}{Eu op:CmpOp}{r:List V->Hp->VK->Prop}{i j n:Nat}{ps ss:List Str}{sp:Sp}{T:String}{wi:TI}{g:TG}{w:World}{I f:Addr}{E Q:Value->Shared->Prop}
structure QE (X:Cx) (e:Expr) (t:TE):Prop where h:PE X e t
structure QT (X:Cx) (e:Expr) (t:TT):Prop where h:PT X e t
structure QW (X:Cx) (e:Expr) (t:TT):Prop where h:PW X e t
structure QA (X:Cx) (es:List Expr) (t:TA):Prop where h:PA X es t
structure QS (X:Cx) (st:Stmt) (t:TS):Prop where h:PS X st t
structure Gv (X:Cx) (st:List Stmt) (t:TS):Prop where h:Dd X st t
structure QG (X:Cx) (tg:Expr) (t:TG):Prop where h:PG X tg t
structure Sl (X:Cx) (ts:List Expr) (t:HV):Prop where h:Mj X ts t
structure QI (X:Cx) (tg iter:Expr) (wi:TI):Prop where h:PI X tg iter wi
structure P9 (X:Cx) (ifs:List Expr) (t:TT):Prop where h:Hm X ifs t
structure QO (X:Cx) (e:Option Expr) (t:TO):Prop where h:PO X e t
section
variable{b:Expr}{rest:List Expr}{tb tc:TE}{tA Ic:TT}{t:TA}{p2 apos Bz:Pos}
theorem qv(i:Nat)(k:X.N[i]?=some x:=by rfl)(hv:Uz X.env.scope x:=by first|exact Or.inl rfl|exact Or.inr (Or.inl rfl)|exact Or.inr (Or.inr rfl))(hd:(x == ("__debug__":Str))=false:=by decide)
  (Gu:(x == ("__classdict__":Str))=false:=by decide):QE X (.Name x pos) (B1 i):=⟨by
 intro Zb s Z H Q I h;obtain⟨v,e,h⟩:=h;obtain⟨m,hn,j⟩:=I.loc;obtain⟨u,r,l⟩:=j i x v k e hv;have b:EP X Zb Z Q u s:=⟨v,H,I,r,h⟩;rcases l with⟨a,g⟩|⟨a,c,d,f⟩
 .exact wpAny_Name (wpAny_loadName_local I.ok.kind a hn g b) hd
 .rcases a with a|a
  .exact wpAny_Name (wpAny_loadName_cell I.ok.kind a d f b) hd
  .exact wpAny_Name (wpAny_loadName_free I.ok.kind a d f b Gu) hd⟩
theorem A6{i j pos}:QE X (.Constant (.int i) j pos) (tC (.int i)):=⟨λ_ _ _ H _ I h=>wpAny_Constant_int ⟨.int i,H,I.tok _,⟨_,rfl⟩,h⟩⟩
theorem CZ{b j pos}:QE X (.Constant (.bool b) j pos) (tC (.bl b)):=⟨λ_ _ _ H _ I h=>Constant_bool ⟨.bl b,H,I,rfl,h⟩⟩
theorem X8{j pos}:QE X (.Constant .none j pos) (tC .AE):=⟨λ_ _ _ H _ I h=>Constant_none ⟨.AE,H,I,rfl,h⟩⟩
theorem AY{x j pos}:QE X (.Constant (.str x) j pos) (tC (.str x)):=⟨λ_ _ _ H _ I h=>Calls.Constant_str ⟨.str x,H,I.tok _,⟨_,rfl⟩,h⟩⟩
theorem Nv{v:V}{u:Value}(b:Gl X x)(a:X.mg x=some u)(r:RelV v u)(hd:(x == ("__debug__":Str))=false:=by decide):QE X (.Name x pos) (tC v):=⟨λ_ _ _ H _ I h=>QC I b a ⟨v,H,I,r,h⟩ hd⟩
theorem IQ(T:String)(a:X.mg x=none)(b:Gl X x:=by rfl)(hv:bootBuiltins x=some (.type T):=by decide +kernel)(hn:x ≠"__name__" := by decide)(hd:(x == ("__debug__":Str))=false:=by decide):
  QE X (.Name x pos) (tC (.ty T)):=⟨ZBa b a hv rfl hn hd⟩
theorem B2{op:Operator}{r:R2}(ho:BH X (binaryOp op) r)(d:QE X a ta)(c:QE X b tb):QE X (.BinOp a op b pos) (Br r ta tb):=⟨by
 have d:=d.h;have c:=c.h;intro Zb s Z H Q I h;exact wpAny_BinOp (YN d c I h λv u s2 x y H2 I2 f e q=>ho Zb s2 Z H2 x y v u Q I2 f e q)⟩
theorem ZBM{op:UnaryOp}{r:V->Hp->VK->Prop}(ho:Qe X (unaryOp op) r)(b:QE X a ta):QE X (.UnaryOp op a pos) (OT r ta):=⟨by
 have b:=b.h;intro Zb s Z H Q I h;exact UnaryOp_ (AR (b Zb s Z H _ I h) λv s1 AG=>by obtain⟨x,H1,I1,c,d⟩:=AG;exact ho Zb s1 Z H1 x v Q I1 c d)⟩
theorem pR{r:R2}(ho:BH X (compareOp op) r)(d:QE X a ta)(c:QE X b tb)(g:behindInMarks op b=false):QE X (.Compare a [op] [b] pos) (Br r ta tb):=⟨by
 have d:=d.h;have c:=c.h;intro Zb s Z H Q I h;exact wpAny_Compare1 (YN d c I h λv u s2 x y H2 I2 f e q=>ho Zb s2 Z H2 x y v u Q I2 f e q) g⟩
theorem ZBv{r:R2}(ho:BH X (compareOp op) r)(e:QE X a ta)(d:QE X b tb)(c:behindInMarks op b=false):QT X (.Compare a [op] [b] pos) (Lj (Br r ta tb)):=⟨qx ho e.h d.h c⟩
theorem MT{r l:R2}(ho:BH X (compareOp op) r)(Ds:BH X (compareOp Eu) l)(i:QE X a ta)(g:QE X b tb)(f:QE X c tc)
  (D:lastMarks [op,Eu] [b,c]=false:=by with_unfolding_all rfl):QE X (.Compare a [op,Eu] [b,c] pos) (Oj r l ta tb tc):=⟨by
 have i:=i.h;have g:=g.h;have f:=f.h;intro Zb s Z H Q I h;refine Compare_chain (AR (i Zb s Z H _ I h) λv s1⟨x,H1,I1,w,C⟩=>chain_link (AR (g Zb s1 Z H1 _ I1 C) λu s2⟨y,H2,I2,j,B⟩=>
  AR (ho Zb s2 Z H2 x y v u _ I2 w j B) λd p⟨z,H3,I3,t,k,e,m⟩=>?_)) D
 subst e;cases t;refine tL ?_;cases k with
 |false=>exact ite_ff ⟨.bl false,H3,I3,rfl,m⟩
 |true=>exact ite_tt (chain_last (AR (f Zb p Z H3 _ I3 m) λo s4⟨n,H4,I4,q,A⟩=>Ds Zb s4 Z H4 y n u o Q I4 j q A))⟩
theorem SS{r l:R2}(ho:BH X (compareOp op) r)(Ds:BH X (compareOp Eu) l)(i:QE X a ta)(g:QE X b tb)(f:QE X c tc)
  (G:lastMarks [op,Eu] [b,c]=false:=by with_unfolding_all rfl):QT X (.Compare a [op,Eu] [b,c] pos) (Lj (Oj r l ta tb tc)):=⟨by
 have i:=i.h;have g:=g.h;have f:=f.h;intro Zb s Z H Q I h;refine isTrue_chain (AR (i Zb s Z H _ I h) λv s1⟨x,H1,I1,A,E⟩=>test_link (AR (g Zb s1 Z H1 _ I1 E) λu s2⟨y,H2,I2,j,D⟩=>
  AR (ho Zb s2 Z H2 x y v u _ I2 A j D) λd p⟨z,H3,I3,w,k,e,m⟩=>?_)) G
 subst e;cases w;refine tL ?_;cases k with
 |false=>
  obtain⟨k',K,F⟩:=m;cases K;exact ite_ff ⟨H3,I3,F⟩
 |true=>
  refine ite_tt (test_last (AR (f Zb p Z H3 _ I3 m) λo s4⟨n,H4,I4,t,C⟩=>AR (Ds Zb s4 Z H4 y n u o _ I4 j t C) λd' M ZBs=>?_));obtain⟨L,H5,I5,q,k2,J,B⟩:=ZBs;subst J;cases q;exact tL ⟨H5,I5,B⟩⟩
theorem Iy{op}(h:QE X a ta):QE X (.BoolOp op [a] pos) ta:=⟨by have h:=h.h;exact λZb s Z H Q I hw=>BoolOp_one (h Zb s Z H Q I hw)⟩
theorem JN(f:QE X a ta)(e:QE X (.BoolOp .And (b::rest) pos) tb):QE X (.BoolOp .And (a::b::rest) pos) (VI ta tb):=⟨by
 have f:=f.h;have e:=e.h;intro Zb s Z H Q I h;refine BoolOp_and (AR (f Zb s Z H _ I h) λv s1 Dj=>?_);obtain⟨x,H1,I1,g,d⟩:=Dj;obtain⟨c,rfl,d⟩:=d;cases g;refine tL ?_;cases c with
 |true=>exact e Zb s1 Z H1 Q I1 d
 |false=>exact⟨.bl false,H1,I1,rfl,d⟩⟩
theorem dA(f:QE X a ta)(e:QE X (.BoolOp .Or (b::rest) pos) tb):QE X (.BoolOp .Or (a::b::rest) pos) (W5 ta tb):=⟨by
 have f:=f.h;have e:=e.h;intro Zb s Z H Q I h;refine BoolOp_or (AR (f Zb s Z H _ I h) λv s1 Dj=>?_);obtain⟨x,H1,I1,g,d⟩:=Dj;obtain⟨c,rfl,d⟩:=d;cases g;refine tL ?_;cases c with
 |false=>exact e Zb s1 Z H1 Q I1 d
 |true=>exact⟨.bl true,H1,I1,rfl,d⟩⟩
theorem ZCR(d:QE X a ta):QE X (.UnaryOp .Not a pos) (V0 ta):=⟨by
 have d:=d.h;intro Zb s Z H Q I h;refine UnaryOp_ (AR (d Zb s Z H _ I h) λv s1 Dj=>?_);obtain⟨x,H1,I1,e,b⟩:=Dj;obtain⟨c,rfl,b⟩:=b;cases e;exact not_of (tL ⟨.bl (!c),H1,I1,rfl,b⟩)⟩
theorem GI(b:QT X a tA):QW X (.BoolOp .And [a] pos) tA:=⟨by
 have b:=b.h;intro d Zb s Z H Q I h;refine isTrue_and (AR (b Zb s Z H Q I h) λc s1 e=>?_);cases c with
 |true=>exact isTrue_and_nil e
 |false=>exact e⟩
theorem FX(b:QT X a tA):QW X (.BoolOp .Or [a] pos) tA:=⟨by
 have b:=b.h;intro d Zb s Z H Q I h;refine isTrue_or (AR (b Zb s Z H Q I h) λc s1 e=>?_);cases c with
 |false=>exact isTrue_or_nil e
 |true=>exact e⟩
theorem GH(e:QT X a tA)(d:QW X (.BoolOp .And (b::rest) pos) Ic):QW X (.BoolOp .And (a::b::rest) pos) (Pd tA Ic):=⟨by
 have e:=e.h;have d:=d.h;intro g Zb s Z H Q I h;refine isTrue_and (AR (e Zb s Z H _ I h) λc s1 Dj=>?_);obtain⟨H1,I1,f⟩:=Dj;cases c with
 |true=>exact d g Zb s1 Z H1 Q I1 f
 |false=>exact⟨H1,I1,f⟩⟩
theorem DQ(e:QT X a tA)(d:QW X (.BoolOp .Or (b::rest) pos) Ic):QW X (.BoolOp .Or (a::b::rest) pos) (Vs tA Ic):=⟨by
 have e:=e.h;have d:=d.h;intro g Zb s Z H Q I h;refine isTrue_or (AR (e Zb s Z H _ I h) λc s1 Dj=>?_);obtain⟨H1,I1,f⟩:=Dj;cases c with
 |true=>exact⟨H1,I1,f⟩
 |false=>exact d g Zb s1 Z H1 Q I1 f⟩
theorem QW.pt{t:TT}(h:QW X e t):QT X e t:=⟨h.h.pt⟩
theorem Dh(b:QT X a tA):QT X (.UnaryOp .Not a pos) (R5 tA):=⟨by
 have b:=b.h;intro Zb s Z H Q I h;exact isTrue_not (b Zb s Z H (λc H1=>Q (!c) H1) I h)⟩
theorem Ed(h:QE X e te)(f:∀a,isTrue e X.env a=(do let v <- a;standAt e.pos;holding [v] (truthy v)):=by intro _;rfl):QT X e (tB te):=⟨by
 have h:=h.h;intro Zb s Z H Q I hw;refine isTrue_plain (AR (h Zb s Z H _ I hw) λv s1⟨x,H1,I1,b,c⟩=>?_) (f _);obtain⟨d,rfl,q⟩:=c;cases b;exact tL ⟨H1,I1,q⟩⟩
theorem A4:QA X [] B5:=⟨λ_ _ _ _ H Q I h=>ji ⟨[],H,I,.nil,h⟩⟩
theorem A0(a:QE X e te)(hr:QA X es t)(hs:starEach (e::es) X.env=(false,eval e X.env)::starEach es X.env:=by rfl):QA X (e::es) (AU te t):=⟨wm a.h hr.h hs⟩
theorem BV{x1}(h:QA X es t):QE X (.Tuple es x1 pos) (NX t):=⟨ZAl h.h⟩
theorem Fb(h:QA X es t):QE X (.List es pos) (Sb t):=⟨km h.h⟩
theorem HQ:QO X none aQ:=⟨by
 intro Zb s Z H Q I h;rw[evalPart_none];exact oo ⟨none,H,I,.none,h⟩⟩
theorem Ea(h:QE X e te):QO X (some e) (Oz te):=⟨by
 have h:=h.h;intro Zb s Z H Q I hw;rw[evalPart_some];refine AR (h Zb s Z H _ I hw) λu s1 a=>?_;obtain⟨x,H1,I1,b,c⟩:=a;obtain⟨i,rfl,q⟩:=c;obtain⟨t,rfl⟩:=b;exact⟨some i,H1,I1,.int i t,q⟩⟩
theorem Fs{r:V->Option Int->Option Int->Hp->VK->Prop}{lo hi:Option Expr}{tl th:TO}(hr:KH X r)(f:QE X e te)(d:QO X lo tl)(c:QO X hi th):QE X (.Subscript e (.Slice lo hi none p2) pos) (i3 r te tl th):=⟨by
 have f:=f.h;have d:=d.h;have c:=c.h;intro Zb s Z H Q I h;refine Subscript_ (AR (f Zb s Z H _ I h) λv s1 Dj=>?_);obtain⟨x,H1,I1,g,k⟩:=Dj;refine wpAny_Slice (AR (d Zb s1 Z H1 _ I1 k) λvl s2⟨l,H2,I2,pl,j⟩=>AR (c Zb s2 Z H2 _ I2 j) λvu a Nn=>?_);obtain⟨u,H3,I3,m,i⟩:=Nn;rw[evalPart_none];refine oo ?_;have t:Inv X Zb Z H3 { a with heap:=a.heap.push { cls:=.type "slice", data:=.fields #[vl,vu,.none] } }:=I3.kept (t':=a.toks) λb ob q=>BZ _ q
 obtain⟨T,id,p,n,o⟩:=hr Zb { a with heap:=a.heap.push { cls:=.type "slice", data:=.fields #[vl,vu,.none] } } Z H3 x v vl vu l u a.heap.objs.size Q t g (Heap.IsSliceOf.new ..) pl m i
 show wpAny (model X.prog X.w) X.A (subscriptTail e (.Slice lo hi none p2) v (.ref a.heap.objs.size)) (EP X Zb Z Q) X.xe { a with heap:=a.heap.push { cls:=.type "slice", data:=.fields #[vl,vu,.none] } }
 exact tail_any (ops:=[.ref a.heap.objs.size,v]) n p o (by with_unfolding_all rfl)⟩
theorem ZAZ{r:R2}(hr:HZ X r)(d:QE X a ta)(c:QE X b tb)(hs:Y2 b):QE X (.Subscript a b pos) (Br r ta tb):=⟨by
 have d:=d.h;have c:=c.h;intro Zb s Z H Q I h;exact Subscript_ (YN d c I h λv u s2 x y H2 I2 f e q=>hr a b Zb s2 Z H2 x y v u Q I2 f e q (hs _ _))⟩
theorem zV{k:Nat}(h:A9 X.prog X.w X.K X.mg X.base x k ps sp)(hr:Bp j X.A)(c:k<=j)(a:QA X (e::es) t)(d:Gl X x:=by rfl)(CJ:(x == ("__debug__":Str))=false:=by decide)
  (he:starEach (e::es) X.env=(false,eval e X.env)::starEach es X.env:=by rfl) (CF:(backTo pos (starEach es X.env)).any (·.1)=false:=by rfl):QE X (.Call (.Name x p) (e::es) [] pos) (C9 sp [] E0 t):=⟨by
 have a:=a.h;obtain⟨f,fd,F,b,kp,m⟩:=h;exact qm (F.mono c) hr d m kp b .nil Vx a CJ he CF⟩
theorem xr{id:String}(i:D7 X (.builtin id) r)(g:Gl X x)(f:X.mg x=none)(d:bootBuiltins x=some (.builtin id))(a:QA X (e::es) t)(hn:x ≠"__name__" := by decide)(CJ:(x == ("__debug__":Str))=false:=by decide)
  (he:starEach (e::es) X.env=(false,eval e X.env)::starEach es X.env:=by rfl) (CF:(backTo pos (starEach es X.env)).any (·.1)=false:=by rfl):QE X (.Call (.Name x p) (e::es) [] pos) (DD r t):=⟨by
 have a:=a.h;intro Zb s Z H Q I h;refine tQ (Jj I g f d ?_ hn CJ);exact PyProof.Rows.callWith_builtin1 (AR (a pos Zb s Z H _ I h) λus s1 AG=>by obtain⟨vs,H1,I1,b,c⟩:=AG;exact i Zb s1 Z H1 vs us Q I1 b c) he CF⟩
theorem zT(i:D7 X (.type T) r)(g:Gl X x)(f:X.mg x=none)(d:bootBuiltins x=some (.type T))(a:QA X (e::es) t)(hn:x ≠"__name__" := by decide)(CJ:(x == ("__debug__":Str))=false:=by decide)
  (he:starEach (e::es) X.env=(false,eval e X.env)::starEach es X.env:=by rfl) (CF:(backTo pos (starEach es X.env)).any (·.1)=false:=by rfl):QE X (.Call (.Name x p) (e::es) [] pos) (DD r t):=⟨by
 have a:=a.h;intro Zb s Z H Q I h;refine tQ (Jj I g f d ?_ hn CJ);exact Pa (AR (a pos Zb s Z H _ I h) λus s1 AG=>by obtain⟨vs,H1,I1,b,c⟩:=AG;exact i Zb s1 Z H1 vs us Q I1 b c) he CF⟩
theorem HP{id:String}{r:V->List V->Hp->VK->Prop}(i:PlainAttrs T)(slot:Slot T name id)(TL:typeOf (.builtin id)=pure (.type "method_descriptor"))(j:MZ X id r)(ho:QE X o to)(a:QA X (e::es) t)
  (P5:attributeBase o name X.env (eval o X.env)=eval o X.env:=by rfl)
  (Tr:((backTo Bz (starEach (e::es) X.env)).all (λx=>!x.1) && (backToKw Bz (keywordEach [] X.env)).all (λx=>x.1.isSome)
   && decide ((e::es).length+([]:List Keyword).length+(if([]:List Keyword).isEmpty then 0 else 1)<30))=true:=by rfl)
  (O9:(apos.endLine == Bz.line)=true:=by rfl) (hs:starEach (e::es) X.env=(false,eval e X.env)::starEach es X.env:=by rfl) (YG:(backTo Bz (starEach es X.env)).any (·.1)=false:=by rfl) :
  QE X (.Call (.Attribute o name apos) (e::es) [] Bz) (NW X.K T r to t):=⟨by
 have ho:=ho.h;have a:=a.h;intro Zb s Z H Q I h;refine wpAny_Call_method_late P5 Tr O9 rfl (AR (ho Zb s Z H _ I h) λv s1 ZCU=>?_);obtain⟨x,H1,I1,b,ty,g⟩:=ZCU;obtain⟨h1,h2⟩:=vR I1 b ty;refine⟨T,id,i,slot,TL,h1,h2,?_⟩;have c:=a Bz Zb s1 Z H1 _ I1 g;rw[hs]at c ⊢;refine jg (by show(false || (backTo Bz (starEach es X.env)).any (·.1))=false;rw[YG] <;> rfl) (Calls.evalArgs_plain ?_)
 exact AR c λus s2 AG=>by obtain⟨vs,H2,I2,d,f⟩:=AG;exact j Zb s2 Z H2 x vs v us Q I2 b d f⟩
variable{elt iter:Expr}{scope:Scope}{AZ:List Str}{js:List Nat}
theorem G8(d:QE X l tl):QI X tg l (Y7 X.K tl):=⟨by
 have d:=d.h;intro Zb s Z H R I h;refine AR (d Zb s Z H _ I h) λv s1⟨x,H1,I1,i,j⟩=>?_;obtain⟨tp,a,xs,e,f,q⟩:=j;subst e;cases i;have c:∀b∈[s1.heap.objs.size],EI X Zb H1 b:=λb k=>by
  have e:b=s1.heap.objs.size:=by simpa using k
  subst e;exact I1.Ko (Ap _) (I1.AN.fresh (Ap _))
 cases tp with
 |false=>
  obtain⟨A5,g,p,hz⟩:=I1.list f;refine wa p.isList ?_;exact⟨s1.heap.objs.size,[s1.heap.objs.size],_,_,H1,rfl,I1.kept (t':=s1.toks) λb o e=>BZ _ e,ZDM a _ xs,⟨_,CA _ rfl,rfl,rfl⟩,c,q⟩
 |true=>
  obtain⟨A5,g,p,hz⟩:=I1.tuple f;refine wpAny_pyIter_tuple (show s1.heap.IsTuple a A5.toArray from p) ?_;exact⟨s1.heap.objs.size,[s1.heap.objs.size],_,_,H1,rfl,I1.kept (t':=s1.toks) λb o e=>BZ _ e,yI a _ xs,⟨_,CA _ rfl,rfl,rfl⟩,c,q⟩⟩
theorem gD(c:QE X l tl):QI X tg l (iG tl):=⟨by
 have c:=c.h;intro Zb s Z H R I h;refine AR (c Zb s Z H _ I h) λv s1⟨x,H1,I1,g,i⟩=>?_;obtain⟨z,e,q⟩:=i;subst e;obtain⟨t,rfl⟩:=g;have a:∀b∈[s1.heap.objs.size],EI X Zb H1 b:=λb j=>by
  have e:b=s1.heap.objs.size:=by simpa using j
  subst e;exact I1.Ko (Ap _) (I1.AN.fresh (Ap _))
 have kp:∀(ob:Obj),Inv X Zb Z H1 { s1 with heap:=s1.heap.push ob }:=λob=>I1.kept (t':=s1.toks) λb o e=>BZ _ e
 cases f:z.cps.all (· < 128)
 .refine wpAny_pyIter_wide f ?_;exact⟨s1.heap.objs.size,[s1.heap.objs.size],_,_,H1,rfl,kp _,Zc (t:=t) (by decide) (λA' d=>Walks.strWide d _ z t) (λ_ _ _ _ _ st h=>wpAny_pyIter_striter_wide st h),⟨_,CA _ rfl,rfl,rfl⟩,a,q⟩
 .refine wpAny_pyIter_ascii f ?_;exact⟨s1.heap.objs.size,[s1.heap.objs.size],_,_,H1,rfl,kp _,Zc (t:=t) (by decide) (λA' d=>Walks.strAscii d _ z t) (λ_ _ _ _ _ st h=>wpAny_pyIter_striter_ascii st h),⟨_,CA _ rfl,rfl,rfl⟩,a,q⟩⟩
theorem Yf{ta:TA}(k:Gl X "range")(i:X.mg "range"=none)(c:QA X [a] ta)(hs:starEach [a] X.env=[(false,eval a X.env)]:=by rfl):QI X tg (.Call (.Name "range" p) [a] [] pos) (Vg ta):=⟨by
 have c:=c.h;intro Zb s Z H R I h;refine Call_ (Jj I k i boot_range (Pa (AR (c pos Zb s Z H _ I h) λus s1⟨vs,H1,I1,f,b⟩=>?_) hs rfl));obtain⟨j,e,b,g,q⟩:=b;subst e;cases f with
 |cons r d=>
  cases d;obtain⟨t,rfl⟩:=r;exact call_range_1 (aU I1 (by omega) (by omega) b g (by simpa using q))⟩
theorem Mq:P9 X [] M5:=⟨λZb s Z H Q I h=>by
 rw[jn];exact oo ⟨H,I,h⟩⟩
theorem Km{t:TT}(a:QT X c t):P9 X [c] t:=⟨vh a.h⟩
theorem Hi(a:X.calm=true)(S:E6 X.N X.env.scope scope x AZ js)(hi:QI X (.Name x px) iter wi)
  (DW:∀fp C s H,P9 (GX X (AZ++[x]) scope (C3 X.env.cells scope.names) C s H fp) ifs tt) (Di:∀fp C s H,QE (GX X (AZ++[x]) scope (C3 X.env.cells scope.names) C s H fp) elt te)
  (hs:∀v,foldedSetIterable iter X.env v=pure v:=by intro _;rfl):QE X (.ListComp elt [⟨.Name x px,iter,ifs,0⟩] scope pos) (Ks wi js tt te):=⟨qG a S hi.h (λfp C s H=>(DW fp C s H).h) (λfp C s H=>(Di fp C s H).h) hs⟩
theorem kr{py Jg:Pos}(c:X.N.Nodup)(E7:X.N[i]?=some y)(a:Loc X.env.scope y)(b:X.calm=true)(S:E6 X.N X.env.scope scope x AZ js)(hi:QI X (.Name x px) iter wi)
  (DW:∀fp C s H,P9 (GX X (AZ++[x]) scope (C3 X.env.cells scope.names) C s H fp) ifs tt) (Di:∀fp C s H,QE (GX X (AZ++[x]) scope (C3 X.env.cells scope.names) C s H fp) elt te)
  (NO:swapsWith (.ListComp elt [⟨.Name x px,iter,ifs,0⟩] scope pos) (some (.Name y py)) Jg.line X.env=pure true:=by rfl)
  (hf:X.fn y=true∨X.env.scope.names.lookup y=some .local:=by first|exact .inl rfl|exact .inr rfl|assumption)
  (hs:∀v,foldedSetIterable iter X.env v=pure v:=by intro _;rfl):QS X (.Assign [.Name y py] (.ListComp elt [⟨.Name x px,iter,ifs,0⟩] scope pos) Jg) (En (Ks wi js tt te) (C7 i)):=
 ⟨ZAa c E7 a b S hi.h (λfp C s H=>(DW fp C s H).h) (λfp C s H=>(Di fp C s H).h) NO hf hs⟩
theorem ZBB(b:X.N.Nodup)(hi:X.N[i]?=some x)(hx:Loc X.env.scope x)(a:X.fn x=true∨X.env.scope.names.lookup x=some .local:=by first|exact .inl rfl|exact .inr rfl|assumption):QG X (.Name x pos) (C7 i):=⟨YL b hi hx a⟩
theorem JL:Sl X [] K7:=⟨eI⟩
theorem Cu{t:TG}{u:HV}(h1:QG X e t)(h2:Sl X es u)
  (hs:(assignEach (e::es) X.env).map (·.2)=assign e X.env::(assignEach es X.env).map (·.2):=by rfl):Sl X (e::es) (FP t u):=⟨aA h1.h h2.h hs⟩
theorem Js{k:Nat}{t:HV}(a:X.calm=true)(h:Sl X es t)(hn:(assignEach es X.env).length=n:=by rfl)(BY:(assignEach es X.env).findIdx? (·.1)=none:=by rfl):QG X (.Tuple es k pos) (JI X.K n t):=⟨Zo a h.h hn BY⟩
theorem Xf{i:Expr}{ti:TE}{t:Qx}(ho:QE X o to)(hi:QE X i ti)(hs:X4 X t)
  (l:∀v,assign (.Subscript o i pos) X.env v=(do
   let a <- holding [v] (eval o X.env)
   let b <- holding [v,a] (eval i X.env)
   standAt pos
   holding [v,a,b] (setItem a b v)
   release [v,a,b] []):=by intro _;rfl):QG X (.Subscript o i pos) (Tv to ti t):=⟨by
 have ho:=ho.h;have hi:=hi.h;intro Zb s Z H v u Q I r h;rw[l];refine lr (uI (AR (ho Zb s Z H _ I h) λa s1 c=>?_));obtain⟨x,H1,I1,e,j⟩:=c;refine lr (uI (AR (hi Zb s1 Z H1 _ I1 j) λb s2 Vv=>?_));obtain⟨y,H2,I2,d,g⟩:=Vv;refine lr (wpAny_standAt (lr (uI (AR (hs Zb s2 Z H2 x y v a b u _ I2 e d r g) λ_ m k=>?_))));obtain⟨H3,I3,f⟩:=k;exact wpAny_release ⟨Z,H3,I3,f⟩⟩
end
section
variable{st:Stmt}{u:TS}
theorem Ao:Gv X [] Yk:=⟨λ_ _ Z H _ I h=>vE ⟨Z,H,I,h⟩⟩
theorem AB(e:body=st::rest)(h:QS X st t)(h2:Gv X rest u):Gv X body (Oq t u):=⟨lW e h.h h2.h⟩
theorem AD(e:body=[st])(h:QS X st t):Gv X body t:=⟨by have h:=h.h;rw[e];exact lb h⟩
theorem Hb:QS X st iC:=⟨λ_ _ _ _ _ _ h=>h.elim⟩
theorem DR(a:QE X e te)(hs:swapsWith e none pos.line X.env=pure false:=by rfl):QS X (.Expr e pos) (JT te):=⟨by
 have a:=a.h;intro Zb s Z H D I h;exact wpAny_Expr_any (AR (a Zb s Z H _ I h) λv s1 AG=>by obtain⟨x,H1,I1,c,b⟩:=AG;exact⟨Z,H1,I1,b⟩) I.quiet hs⟩
theorem AX(a:QE X e te):QS X (.Return (some e) pos) (HJ te):=⟨by
 have a:=a.h;intro Zb s Z H D I h;exact wpAny_Return_some (AR (a Zb s Z H _ I h) λv s1 AG=>by obtain⟨x,H1,I1,b,c⟩:=AG;exact⟨x,Z,H1,I1,b,c⟩)⟩
theorem Aj{a b:List Stmt}(e:QT X c tc)(g:Gv X a t)(f:Gv X b u):QS X (.If c a b pos) (Qu tc t u):=⟨by
 have e:=e.h;have g:=g.h;have f:=f.h;intro Zb s Z H D I h;refine wpAny_If (AR (e Zb s Z H _ I h) λd s1 Dj=>?_);obtain⟨H1,I1,i⟩:=Dj;cases d with
 |true=>exact g Zb s1 Z H1 D I1 i
 |false=>exact f Zb s1 Z H1 D I1 i⟩
theorem Jh(b:QE X e te)(a:QG X tg g)(hs:swapsWithSole [tg] e pos.line X.env=pure false:=by rfl)(hw:swappedStores [tg] e X.env=pure none:=by rfl)
  (h1:(assignEach [tg] X.env).map (·.2)=[assign tg X.env]:=by rfl):QS X (.Assign [tg] e pos) (En te g):=⟨by
 have b:=b.h;have a:=a.h;intro Zb s Z H D I h;refine wpAny_Assign_stores (AR (b Zb s Z H _ I h) λv s1⟨x,H1,I1,c,d⟩=>?_) hs hw;rw[h1];exact AR (a Zb s1 Z H1 x v _ I1 c d) λ_ s2 q=>q⟩
theorem ue(d:X.N.Nodup)(hi:X.N[i]?=some x)(hx:Loc X.env.scope x)(a:QE X e te)(hs:swapsWith e (some (.Name x pos')) pos.line X.env=pure false:=by rfl)(hf:X.fn x=true∨X.env.scope.names.lookup x=some .local:=by first|exact .inl rfl|exact .inr rfl|assumption):
  QS X (.Assign [.Name x pos'] e pos) (En te (C7 i)):=⟨by
 have a:=a.h;intro Zb s Z H D I h;refine wpAny_Assign_Name (AR (a Zb s Z H _ I h) λv s1⟨y,H1,I1,b,c⟩=>?_) hs;exact fv I1 d hi hx b (λs2 I2=>⟨_,H1,I2,c⟩) hf⟩
theorem eJ(m:PassesOwn (model X.prog X.w) X.A X.env X.xe)(k:QT X c tc)(l:Gv X body tb):QS X (.While c body [] pos) (j6 tc tb):=⟨by
 have k:=k.h;have l:=l.h;intro Zb s Z H D I h;obtain⟨W,⟨t,r⟩,turn⟩:=h;refine wpAny_While (codeAny_whileLoop (λn s'=>∃ σ' H',Inv X Zb σ' H' s'/\W n σ' H') ?_ t ⟨Z,H,I,r⟩);rintro n s1⟨σ1,H1,I1,q⟩;refine uK m (AR (k Zb s1 σ1 H1 _ I1 (turn n σ1 H1 q)) λb s2 p=>?_);obtain⟨H2,I2,d⟩:=p;cases b with
 |true=>
  obtain⟨N,o,d⟩:=d;rw[md rfl];refine uK m (AR (l Zb s2 σ1 H2 _ I2 d) λf u a=>?_);cases f with
  |next=>
   obtain⟨σ3,H3,I3,g⟩:=a;obtain⟨i,j,e⟩:=o σ3 H3 g;exact⟨i,j,σ3,H3,I3,e⟩
  |cont=>
   obtain⟨σ3,H3,I3,g⟩:=a;obtain⟨i,j,e⟩:=o σ3 H3 g;exact⟨i,j,σ3,H3,I3,e⟩
  |brk=>exact a
  |ret v=>exact a
 |false=>
  rw[mY DS];exact vE ⟨σ1,H2,I2,d⟩⟩
theorem J2{iter:Expr}(l:PassesOwn (model X.prog X.w) X.A X.env X.xe)(B:X.calm=true)(hi:QI X tg iter wi)(q:QG X tg g)(a:Gv X body tb)
  (hs:∀x,foldedSetIterable iter X.env x=pure x:=by intro _;rfl):QS X (.For tg iter body [] pos) (QP wi g tb):=⟨by
 have hi:=hi.h;have q:=q.h;have a:=a.h;intro Zb s Z H D I h;refine wpAny_For (AR (hi Zb s Z H _ I h) λv s1 h1=>AR h1 λRZ s2 h2=>?_) hs;obtain⟨it,fp,tn,J,H2,e,I2,T,JE,C,W,⟨σ,M⟩,turn⟩:=h2;subst e
 -- m8 stays true of HD ZEX objects through HD loop
 have t:∀{H':Hp},(∀b∈fp,H' b=none)->∀b∈fp,EI X Zb H' b:=λhn b a=>⟨hn b a,(C b a).2⟩;refine codeAny_forLoop_any (λn s'=>∃i σ' H',Inv X Zb σ' H' s'/\tn i s'.heap/\(∀b∈fp,H' b=none)/\W i n σ' H') ?_ σ ⟨0,Z,H2,I2,JE,λb a=>(C b a).1,M⟩;rintro n z⟨i,σ3,H3,I3,ZV,E,L⟩;rcases turn i n σ3 H3 L with⟨stop,U⟩|⟨go,N,hN,step⟩
 .refine uK l (AR (T.done X rfl rfl rfl B i Zb z σ3 H3 X.xe I3 (t E) ZV stop) λr s4 Vv=>?_);obtain⟨hr,I4⟩:=Vv;subst hr;exact vE ⟨σ3,H3,I4,U⟩
 .refine uK l (AR (T.item X rfl rfl rfl B i Zb z σ3 H3 X.xe I3 (t E) ZV go) λr s4 Y=>?_);obtain⟨u,hr,h4⟩:=Y;subst hr;refine uK l (AR h4 λ_ y O=>?_);obtain⟨x,H5,I5,S,F,Md,RC⟩:=O;have P:=I5.pinned (t RC) (T.obj _ _ Md);refine uK l (AR (q _ y σ3 H5 x u _ P S (step x H5 F)) λ_ Q ZD4=>?_);obtain⟨σ6,H6,I6,V⟩:=ZD4;refine uK l (AR (a _ Q σ6 H6 _ I6 V) λf p j=>?_);have c:∀{σ7:St}{H7:Hp},Inv X (Zb++NI fp y.heap) σ7 H7 p->N σ7 H7->∃m,m<n/\∃i σ' H',Inv X Zb σ' H' p/\tn i p.heap/\(∀b∈fp,H' b=none)/\W i m σ' H':=λ{σ7 H7}I7 k=>by
   obtain⟨m',hm,K⟩:=hN σ7 H7 k;refine⟨m',hm,i+1,σ7,H7,I7.Og,T.keep _ _ _ Md λb a o e=>(I7.pin (b,o) (Eg _ (Eg _ (Q7 a e)))).1,λb a=>?_,K⟩;obtain⟨o,e,d⟩:=T.obj _ _ Md b a;exact(I7.pin (b,o) (Eg _ (Eg _ (Q7 a e)))).2.1
  cases f with
  |next=>obtain⟨σ7,H7,I7,k⟩:=j;exact c I7 k
  |cont=>obtain⟨σ7,H7,I7,k⟩:=j;exact c I7 k
  |brk=>obtain⟨σ7,H7,I7,j⟩:=j;exact⟨σ7,H7,I7.Og,j⟩
  |ret v=>obtain⟨G,σ7,H7,I7,R,j⟩:=j;exact⟨G,σ7,H7,I7.Og,R,j⟩⟩
theorem Ca(h:QS X st t):QS X st (WS t):=⟨by
 have h:=h.h;intro Zb s Z H D I hw;obtain⟨J,h1,h2⟩:=hw;refine AR (h Zb s Z H _ I h1) λf s' q=>?_;cases f with
 |next=>obtain⟨σ',H',I',q⟩:=q;exact⟨σ',H',I',h2 σ' H' q⟩
 |ret v=>exact q
 |brk=>exact q
 |cont=>exact q⟩
end
theorem AK.B4{P:Program}{K:ZEe}{mg:ZEg}{Zu:Heap}{qual:Str}{st:Stmt}{fd:FuncData}{N:List Str}{k:Nat}(F:AK K x qual st f fd)(S:Aw N ps (Ag st))(len:∀vs H Q E,sp vs H Q E->vs.length=ps.length)
  (P7:∀(Ae:Value)(A:Around)(outer:List Env)(s:Shared)(H:Hp)(vs:List V)(Q:VK)(E:XK),Bp k (A.deeper (envOfC qual (Ag st) s.heap.objs.size f Ae))->sp vs H Q E->
   ∃t,Gv (LF G3 P w K mg Zu N qual (Ag st) f Ae A outer s H E).OC (K4 st) t/\t { nx:=λ_ H'=>Q .AE H',rt:=Q } (start N vs) H):DN P w K mg Zu G3 (k+1) f fd ps sp:=
 F.ok S len λAe A outer s H vs Q E hr h=>let ⟨t,q,r⟩:=P7 Ae A outer s H vs Q E hr h;⟨t,q.h,r⟩
section
variable{b:Expr}{tb:TE}{t:TA}
theorem As{id:String}(c:D7 X (.builtin id) r)(a:X.mg x=none)(d:QA X (e::es) t)(b:Gl X x:=by rfl)(hv:bootBuiltins x=some (.builtin id):=by decide +kernel)(hn:x ≠"__name__" := by decide)(CJ:(x == ("__debug__":Str))=false:=by decide)
  (he:starEach (e::es) X.env=(false,eval e X.env)::starEach es X.env:=by rfl) (CF:(backTo pos (starEach es X.env)).any (·.1)=false:=by rfl):QE X (.Call (.Name x p) (e::es) [] pos) (DD r t):=xr c b a hv d hn CJ he CF
theorem CS(c:D7 X (.type T) r)(a:X.mg x=none)(d:QA X (e::es) t)(b:Gl X x:=by rfl)(hv:bootBuiltins x=some (.type T):=by decide +kernel)(hn:x ≠"__name__" := by decide)(CJ:(x == ("__debug__":Str))=false:=by decide)
  (he:starEach (e::es) X.env=(false,eval e X.env)::starEach es X.env:=by rfl) (CF:(backTo pos (starEach es X.env)).any (·.1)=false:=by rfl):QE X (.Call (.Name x p) (e::es) [] pos) (DD r t):=zT c b a hv d hn CJ he CF
theorem AF{r:R2}(hr:HZ X r)(d:QE X a ta)(c:QE X b tb)(hs:Y2 b:=by exact λ_ _=>rfl):QE X (.Subscript a b pos) (Br r ta tb):=ZAZ hr d c hs
theorem AV{k:Nat}(h:A9 X.prog X.w X.K X.mg X.base x k ps sp)(hr:Bp j X.A)(b:QA X (e::es) t)(a:k<=j:=by decide)(hg:Gl X x:=by rfl)(CJ:(x == ("__debug__":Str))=false:=by decide)
  (he:starEach (e::es) X.env=(false,eval e X.env)::starEach es X.env:=by rfl) (CF:(backTo pos (starEach es X.env)).any (·.1)=false:=by rfl):QE X (.Call (.Name x p) (e::es) [] pos) (C9 sp [] E0 t):=zV h hr a b hg CJ he CF
theorem HR{r:R2}(ho:BH X (compareOp op) r)(e:QE X a ta)(d:QE X b tb)(c:behindInMarks op b=false:=by first|exact gY _|with_unfolding_all rfl):QE X (.Compare a [op] [b] pos) (Br r ta tb):=pR ho e d c
theorem Aa{r:R2}(ho:BH X (compareOp op) r)(e:QE X a ta)(d:QE X b tb)(c:behindInMarks op b=false:=by first|exact gY _|with_unfolding_all rfl):QT X (.Compare a [op] [b] pos) (Lj (Br r ta tb)):=ZBv ho e d c
theorem Az(i:Nat)(b:X.N.Nodup)(a:QE X e te)(hi:X.N[i]?=some x:=by rfl)(hx:Loc X.env.scope x:=by first|exact Or.inl rfl|exact Or.inr rfl)(hs:swapsWith e (some (.Name x pos')) pos.line X.env=pure false:=by rfl)(hf:X.fn x=true∨X.env.scope.names.lookup x=some .local:=by first|exact .inl rfl|exact .inr rfl|assumption):
  QS X (.Assign [.Name x pos'] e pos) (En te (C7 i)):=ue b hi hx a hs hf
theorem C6(i:Nat)(a:X.N.Nodup)(hi:X.N[i]?=some x:=by rfl)(hx:Loc X.env.scope x:=by first|exact Or.inl rfl|exact Or.inr rfl)(hf:X.fn x=true∨X.env.scope.names.lookup x=some .local:=by first|exact .inl rfl|exact .inr rfl|assumption):QG X (.Name x pos) (C7 i):=ZBB a hi hx hf
theorem RS{t:Tok}:E2 (.str x) (.str y t)=(y == x):=rfl
theorem XI(x:Str):∀(ss:List Str)(m:Nat)(b:m<ss.length),m<ss.idxOf x->ss[m]≠x
 | [],_,b,_=>absurd b (Nat.not_lt_zero _)
 |a::r,m,b,h=>by
  rw[jq]at h
  by_cases e:a=x
  .have:(a == x)=true:=by simpa using e
   rw[this]at h;exact absurd h (Nat.not_lt_zero _)
  .have c:(a == x)=false:=by simpa using e
   rw[c]at h;cases m with
   |zero=>exact e
   |succ k=>
    have h':k+1<r.idxOf x+1:=h;exact XI x r k (by simpa using b) (by omega)
theorem MG(h:x∈ss):∃a:ss.idxOf x<ss.length,ss[ss.idxOf x]=x/\∀m(b:m<ss.length),m<ss.idxOf x->ss[m]≠x:=by
 have a:ss.idxOf x<ss.length:=List.idxOf_lt_length_iff.mpr h;exact⟨a,Z3 a,λm b Ac=>XI x ss m b Ac⟩
def b9(K:ZEe):V->List V->Hp->VK->Prop:=λx vs H Q=>∃(l:Addr)(ss:List Str)(y:Str),x=.ref l/\vs=[.str y]/\AJ K H l (ss.map V.str)/\y∈ss/\Q (.int (ss.idxOf y:Nat)) H
theorem Rk:MZ X "list.index" (b9 X.K):=by
 intro Zb s Z H x vs v us Q I g i h;obtain⟨l,ss,y,rfl,rfl,o,k,q⟩:=h;cases g;obtain⟨u,rfl,j⟩:=i.one;obtain⟨A5,r,pl,hz⟩:=I.list o;obtain⟨⟨c,d,E,sl⟩,n,ho,b,hd,KR⟩:=id pl;simp only at b hd KR;subst b;subst hd;subst KR;have p:=r.length;rw[AW]at p;obtain⟨C,Tf,Kh⟩:=MG k;have at':∀(m:Nat)(a:m<A5.toArray.size),∃t,A5.toArray[m]=.str (ss[m]'(by simp at a;omega)) t:=λm a=>by
  have A:m<A5.length:=by simpa using a
  obtain⟨h2,t,e⟩:=df r (BA A);exact⟨t,by simpa using e⟩
 have f:ss.idxOf y<A5.toArray.size:=by simp;omega
 refine call_meets T6 ⟨_,ho,rfl⟩ PySem.F.entry_list_index (PySem.F.args_list_index_2 _ _) (SeqAt.list_indexAt l A5.toArray n none sl u (E2 (.str y)) (ss.idxOf y) f ?_ ?_ (λm a Ac=>?_)) ⟨ho,λz Uw=>K5 j rfl r (by
   rw[J9];intro w hw;obtain⟨B,_,rfl⟩:=List.mem_map.mp hw;rfl) z (by simpa using Uw),?_⟩
 .have h1:ss.length<=sizeLine:=by rw[AW]at hz;exact hz
  have h2:=Ju;have D:((sizeLine:Nat):Int)<2 ^ 63:=by exact_mod_cast h2
  omega
 .obtain⟨t,e⟩:=at' _ f;rw[e,RS];simpa using Tf
 .obtain⟨t,e⟩:=at' _ a;rw[e,RS];have:=Kh m (by simp at a;omega) Ac
  simpa using this
 .exact⟨.int _,H,I.tok _,⟨_,rfl⟩,q⟩
theorem ZAp(l:Addr)(items:Array Value)(n:Nat)(dd:Option Addr)(sl:Array (Option Value))(x:Value)(e:Value->Bool)(j:Nat)(v:j<items.size)(c:e items[j]=true)(Kh:∀m(u:m<items.size),m<j->e items[m]=false):
  Meets (Builtin.«tuple.index» ⟨[.ref l,x],[]⟩)
   (λA R s=>s.heap.get? l=some { cls:=.type "tuple", dict:=dd,data:=.seq items n,slots:=sl }/\(∀y,y∈items->SeqAt.EqAt A.in1 s y x (e y))/\R (.ok (.ret (.int j s.toks))) { s with toks:=s.toks+1 }):=by
 refine Meets.of_wp λprog w A R s h=>?_;obtain⟨k,g,d,tk,os⟩:=s;obtain⟨o,p,h⟩:=h
 wp_walk using AutoSeq1.wpAny_loadPart' o
 show wpAny _ _ (forIn [:min items.size items.size] ((none:Option Fin),()) (λ(i:Nat)(_:Option Fin×Unit)=>match items[i]? with
  |some y=>(do let b <- eqBool y x;if b=true then do let r <- retInt ((i:Nat):Int);pure (ForInStep.done (some r,()))else pure (ForInStep.yield (none,())))
  |_=>pure (ForInStep.yield (none,())))) _ _ _
 rw[Std.Legacy.Range.forIn_eq_forIn_range'];have hsz:([:min items.size items.size]:Std.Legacy.Range).size=items.size:=by simp[Std.Legacy.Range.size]
 show wpAny _ _ (forIn (List.range' 0 ([:min items.size items.size]:Std.Legacy.Range).size 1) _ _) _ _ _;rw[hsz];refine wpAny_forIn_list _ (λrest b s'=>b=(none,())/\s'=⟨k,g,d,tk,os⟩/\∃i,rest=List.range' i (items.size - i) 1/\i<=j) _ ?_ ?_ _ _ ⟨rfl,rfl,0,rfl,Bm _⟩
 .rintro i rest b s'⟨rfl,rfl,a,hr,HE⟩;have f:a < items.size:=by omega
  have t:List.range' a (items.size - a) 1=a::List.range' (a+1) (items.size - (a+1)) 1:=by
   have:items.size - a=(items.size - (a+1))+1:=by omega
   rw[this,List.range'_succ]
  rw[t]at hr;injection hr with wQ Qf
  subst wQ;subst Qf;have hi:items[i]?=some items[i]:=by simp[f]
  rw[hi];refine lr (p _ (Array.getElem_mem f) prog w _ _ ?_)
  by_cases q:i=j
  .subst q;rw[c,md rfl]
   wp_walk
   exact⟨_,rfl,h⟩
  .rw[Kh i f (by omega),mY (by decide)];exact oo ⟨rfl,rfl,i+1,rfl,by omega⟩
 .rintro b s'⟨rfl,rfl,i,hr,HE⟩;have:0<(List.range' i (items.size - i) 1).length:=by rw[List.length_range'];omega
  rw[<- hr]at this;exact absurd this (by simp)
def rZ(K:ZEe):V->List V->Hp->VK->Prop:=λx vs H Q=>∃(l:Addr)(ss:List Str)(y:Str),x=.ref l/\vs=[.str y]/\AA K H l (ss.map V.str)/\y∈ss/\Q (.int (ss.idxOf y:Nat)) H
theorem ZAw:MZ X "tuple.index" (rZ X.K):=by
 intro Zb s Z H x vs v us Q I g i h;obtain⟨l,ss,y,rfl,rfl,o,k,q⟩:=h;cases g;obtain⟨u,rfl,j⟩:=i.one;obtain⟨A5,r,pl,hz⟩:=I.tuple o;obtain⟨⟨c,d,D,sl⟩,ho,b,n,KR⟩:=id pl;simp only at b KR;subst b;subst KR;have p:=r.length;rw[AW]at p;obtain⟨C,Tf,Kh⟩:=MG k;have at':∀(m:Nat)(a:m<A5.toArray.size),∃t,A5.toArray[m]=.str (ss[m]'(by simp at a;omega)) t:=λm a=>by
  have A:m<A5.length:=by simpa using a
  obtain⟨h2,t,e⟩:=df r (BA A);exact⟨t,by simpa using e⟩
 have f:ss.idxOf y<A5.toArray.size:=by simp;omega
 refine call_meets ZDx ⟨_,ho,rfl⟩ PySem.F.entry_tuple_index (PySem.F.args_tuple_index_2 _ _) (ZAp l A5.toArray n d sl u (E2 (.str y)) (ss.idxOf y) f ?_ (λm a Ac=>?_)) ⟨ho,λz Uw=>K5 j rfl r (by
   rw[J9];intro w hw;obtain⟨B,_,rfl⟩:=List.mem_map.mp hw;rfl) z (by simpa using Uw),?_⟩
 .obtain⟨t,e⟩:=at' _ f;rw[e,RS];simpa using Tf
 .obtain⟨t,e⟩:=at' _ a;rw[e,RS];have:=Kh m (by simp at a;omega) Ac
  simpa using this
 .exact⟨.int _,H,I.tok _,⟨_,rfl⟩,q⟩
def yP(t u:TE):TE:=λZ H Q=>t Z H Q∨u Z H Q
theorem sN{t u:TE}(h:QE X e t)(h2:QE X e u):QE X e (yP t u):=⟨λZb s Z H Q I q=>q.elim (h.h Zb s Z H Q I) (h2.h Zb s Z H Q I)⟩
end
theorem ye:typeLookup (.type "list_reverseiterator") "__len__"=pure none:=by rw[z7,vO];kernel_rfl
theorem oM:typeLookup (.type "list_reverseiterator") "__length_hint__"=pure (some (.builtin "list_reverseiterator.__length_hint__")):=by rw[z7,vO];kernel_rfl
section
variable{prog:Program}{A:Around}{s:Shared}{R:Result->Shared->Prop}
variable{fp wr:List Addr}{G:Array GenState->Array GenState->Prop}{P:Nat->Value->Prop}{St:Nat->Shared->Prop}
theorem xO(W:WalksS prog w A.in1 I fp wr G n P St)(c:∀i s,St i s->s.TypeIs (.ref I) "list_reverseiterator")(S:Addr)(res:Value)(m:Nat)(BY:St 0 s)(G4:S∉fp)(l:I∈fp)
  (k:s.heap.get? S=some { cls:=.type "list", data:=.seq #[] m })
  (hR:∀s' Dp a,Moved (S::wr) G s s'->s'.heap.get? S=some { cls:=.type "list", dict:=none,data:=.seq Dp a,slots:=#[] }->ItemsOf P Dp n->R (.ok (.ret res)) s') (hn:n<=sizeLine) :
  wpAny (model prog w) A.in1 (Builtin.List.listExtendWith (.ref S) (.ref I) res)
   (λd s'=>match d with | .done f=>R (.ok f) s' | .again a=>a.quiet=true/\codeAny (model prog w) A a R s') (λe s'=>R (.error e) s') s:=by
 have h:S≠I:=λe=>G4 (e▸l);unfold Builtin.List.listExtendWith;refine lr (uM (c 0 _ BY) ?_);have h1:Builtin.List.listSameRef (.ref S) (.ref I)=false:=by simp[Builtin.List.listSameRef,h]
 rw[mY (by rw[h1];decide)];refine lr (W.self 0 _ _ _ BY ?_);refine lr (uI ?_);unfold Builtin.List.listLengthHint;refine lr (v9 (c 0 _ BY) ye ?_);show wpAny _ A.in1 (specialOf (Value.ref I) (Str.ofString "__length_hint__") >>= _) _ _ _;refine lr (v9 (c 0 _ BY) oM ?_);generalize g:("list_reverseiterator.__length_hint__":String)=NS
 wp_delta
 rw[show splitId NS=some ("list_reverseiterator","__length_hint__")from by subst g;decide +kernel];subst g;refine lr (yw (b:=true) (c 0 _ BY) (by rw[zc];kernel_rfl) ?_);refine oo ?_;rw[mY (by decide)];refine oo ⟨xP F.plain_extend_loop _,vU W hn _ G4 _ n 0 _ _ _ rfl (Bm _) BY k (ItemsOf.nil P) λs' Dp a j EZ Au=>?_⟩;exact hR s' Dp a j EZ Au
theorem w6(W:WalksS prog w A.in1 I fp wr G n P St)(m:∀i s,St i s->s.TypeIs (.ref I) "list_reverseiterator")(S:Addr)(BY:St 0 s)(G4:S∉fp)(p:I∈fp)
  (g:s.heap.get? S=some { cls:=.type "list", data:=.seq #[] })
  (hR:∀s' Dp a,Moved (S::wr) G s s'->s'.heap.get? S=some { cls:=.type "list", dict:=none,data:=.seq Dp a,slots:=#[] }->ItemsOf P Dp n->R (.ok (.ret .none)) s') (hn:n<=sizeLine) :
  wpAny (model prog w) A.in1 (Builtin.«list.__init__» ⟨[.ref S,.ref I],[]⟩)
   (λj s'=>match j with | .done f=>R (.ok f) s' | .again a=>a.quiet=true/\codeAny (model prog w) A a R s') (λe s'=>R (.error e) s') s:=by
 show wpAny _ A.in1 (do let old <- Builtin.List.listItems (.ref S);Builtin.List.listUpdate (.ref S) (λ_=>#[]);letGo old.toList.reverse;Builtin.List.listExtendWith (.ref S) (.ref I) .none) _ _ s
 refine lr ?_;unfold Builtin.List.listItems;refine lr (wpAny_seqItems g rfl (oo ?_));show wpAny _ A.in1 (updateSeq S (λ_=>#[]) >>= λ_=>letGo (#[]:Array Value).toList.reverse >>= λ_=>Builtin.List.listExtendWith (.ref S) (.ref I) .none) _ _ s;refine lr (uT g rfl ?_);have d:=K2 (Obj.mapSeq (λ_=>(#[]:Array Value))) g rfl;have k:∀b o,b≠S->s.heap.get? b=some o->(s.heap.update S (Obj.mapSeq (λ_=>(#[]:Array Value)))).get? b=some o:=
  λb o c e=>(Gn _ _ (BP c)).trans e
 refine lr (wpAny_letGo ?_);refine xO (hn:=hn) W m S .none _ (W.frame 0 s _ s.toks BY (Ap _) λb c o e=>k b o (λh=>G4 (h▸c)) e) G4 p d λs' Dp a l EZ Au=>?_;exact hR s' Dp a (Moved.trans W.gtrans ((Moved.refl W.grefl).then_heap (Ap _) λb o c e=>k b o (λh=>c (h▸Cz)) e) l) EZ Au
theorem ZAE(W:WalksS prog w A.in1.in1 I fp wr G n P St)(j:∀i s,St i s->s.TypeIs (.ref I) "list_reverseiterator")(BY:St 0 s)(g:∀b∈fp,b<s.heap.objs.size)(l:I∈fp)
  (k:∀s' Dp c,Moved (s.heap.objs.size::wr) G { s with heap:=s.heap.push { cls:=.type "list", data:=.seq #[] } } s'->
   s'.heap.get? s.heap.objs.size=some { cls:=.type "list", dict:=none,data:=.seq Dp c,slots:=#[] }->ItemsOf P Dp n->Q (.ref s.heap.objs.size) s') (hn:n<=sizeLine) :
  wpAny (model prog w) A (call (.type "list") [.ref I]) Q E s:=by
 have m:s.heap.objs.size∉fp:=λa=>LQ _ (g _ a);refine callType_codes (Q₁:=λobj d=>obj=.ref s.heap.objs.size/\d={ s with heap:=s.heap.push { cls:=.type "list", data:=.seq #[] } }) F.called_list (F.typeCall_list_1 _) F.entry_list_init
  (code_list_new _ ⟨rfl,rfl⟩) λobj d h=>?_
 obtain⟨rfl,rfl⟩:=h;have f:(s.heap.push { cls:=.type "list", data:=.seq #[] }).get? s.heap.objs.size=some { cls:=.type "list", data:=.seq #[] }:=CA _ rfl;refine⟨⟨_,f,rfl⟩,F.args_list_init_2 _ _,w6 (hn:=hn) W j _ (W.frame 0 s _ s.toks BY (Ap _) λb _ o e=>BZ _ e) m l f λs' Dp c a EZ Au=>?_⟩;exact⟨rfl,k s' Dp c a EZ Au⟩
variable{l:Addr}{items:Array Value}
end
end L2
namespace HT
variable{E Q:Value->Shared->Prop}
section
variable{prog:Program}{w:World}{A:Around}{s:Shared}
theorem pP{t sl:Addr}{items:Array Value}{vl vu:Value}{lo hi:Option Int}(a:IsTup s.heap t items)(hs:s.heap.IsSliceOf sl vl vu .none)(pl:IsPart vl lo)(c:IsPart vu hi)
  (hw:Aq items.size 0 lo=0/\Aq items.size items.size hi=items.size) (h:Q (.ref t) s):wpAny (model prog w) A (getItem (.ref t) (.ref sl)) Q E s:=by
 obtain⟨os,Kv,Qr,OM⟩:=id hs;have d:s.TypeIs (.ref sl) "slice" := ⟨os,Kv,Qr⟩;unfold getItem
 try with_reducible refine uI ?_
 first|refine lr (oo ?_)|skip
 refine lr (wpAny_sequenceKey a.typeIs (by decide) ?_);refine lr (wpAny_callSpecial?_slot (name:=Str.ofString "__getitem__") a.typeIs ZG
  (yx ZG a.typeIs entry_tuple_getitem ?_ (args_tuple_getitem _ _)))
 show wpAny _ _ (Builtin.Tuple.tupleItemsOf (.ref t) >>= _) _ _ s;refine lr (tupleItemsOf_ a ?_);refine lr (uM d ?_);rw[md (by decide)];refine lr (gM hs pl c ?_);have b:((((Aq items.size 0 lo:Nat):Int) == 0 && (1:Int) == 1 && (Aq items.size items.size hi - Aq items.size 0 lo) == items.size)=true):=by
  rw[hw.1,hw.2];simp
 first
 |rw[md b]
 |simp only[b,zy]
 refine lr ?_;unfold Builtin.Tuple.tupleIsExact;refine lr (uM a.typeIs (oo ?_));rw[md (by decide)];exact lr (wpAny_rule (oo ⟨_,rfl,oo h⟩))
end
end HT
namespace L2
variable{X:Cx}{xs ys:List V}{A5 vs:List Value}{Zb:ZEf}{Z:St}{H:Hp}{s:Shared}{h':Heap}{e k1 n t':Nat}{fp:List Addr}{I a:Addr}{w:World}{es:List Expr}{AI ss:List Str}{Pc Q:List Value->Shared->Prop}
section
def ZBK(K:ZEe):V->Option Int->Option Int->Hp->VK->Prop:=λx lo hi H Q=>∃a xs,x=.ref a/\AA K H a xs/\
 ((HT.Aq xs.length 0 lo=0/\HT.Aq xs.length xs.length hi=xs.length)->Q (.ref a) H)/\(¬ (HT.Aq xs.length 0 lo=0/\HT.Aq xs.length xs.length hi=xs.length)->∀p,H p=none->Q (.ref p) (upd H p (.tup (Cg xs lo hi))))
theorem ka:KH X (ZBK X.K):=by
 intro Zb s Z H x v vl vu lo hi sl Q I c hs pl d h;obtain⟨a,xs,rfl,hx,g,f⟩:=h
 by_cases hw:HT.Aq xs.length 0 lo=0/\HT.Aq xs.length xs.length hi=xs.length
 .cases c;obtain⟨A5,r,e,hz⟩:=I.tuple hx;have b:A5.toArray.size=xs.length:=by rw[Bl];exact r.length.symm
  refine⟨"tuple", _,PyProof.Rows.slot_tuple_getitem.lookup,e.typeIs,?_⟩;exact HT.pP e hs pl d (by rw[b];exact hw) ⟨.ref a,H,I,rfl,g hw⟩
 .exact eB Zb s Z H _ v vl vu lo hi sl Q I c hs pl d ⟨a,xs,rfl,hx,hw,f hw⟩
def zR(K:ZEe):V->Option Int->Option Int->Hp->VK->Prop:=λx lo hi H Q=>∃a tp xs,x=.ref a/\Df K tp H a xs/\∀p H',A8 H H'->Df K tp H' p (Cg xs lo hi)->Q (.ref p) H'
theorem pO{lo hi:Option Int}(h:HT.Aq xs.length 0 lo=0/\HT.Aq xs.length xs.length hi=xs.length):Cg xs lo hi=xs:=by
 unfold Cg;rw[h.1,h.2];simp
theorem PB:KH X (zR X.K):=by
 intro Zb s Z H x v vl vu lo hi sl Q I c hs pl d h;obtain⟨a,tp,xs,rfl,hx,q⟩:=h;cases tp with
 |false=>exact MW Zb s Z H _ v vl vu lo hi sl Q I c hs pl d ⟨a,xs,rfl,hx,λp b=>q p _ (Ah b _) (AJ.of AH)⟩
 |true=>exact ka Zb s Z H _ v vl vu lo hi sl Q I c hs pl d ⟨a,xs,rfl,hx,λhw=>q a H (A8.refl _) (by rw[pO hw];exact hx),λ_ p b=>q p _ (Ah b _) (AA.of AH)⟩
theorem ZCE(r:Vals ys A5){acc:Array Value}(h:ItemsOf (λi v=>A5.toArray[A5.toArray.size - 1 - i]?=some v) acc A5.toArray.size):∃us:List Value,Vals ys.reverse us/\acc=us.toArray:=by
 have e:acc=A5.reverse.toArray:=by
  apply Array.toList_inj.mp;rw[List.toList_toArray];apply Z0;intro i;have hs:acc.size=A5.length:=by rw[h.1];simp
  by_cases hi:i<A5.length
  .have h1:acc.toList[i]?=some (acc[i]'(by omega)):=by simp
   have h2:=h.2 i (acc[i]'(by omega)) (by simp);rw[h1,ZDa hi];simp at h2;rw[<- h2]
  .have h1:acc.toList[i]?=none:=LK (by simp;omega);have h2:A5.reverse[i]?=none:=LK (by simp;omega);rw[h1,h2]
 exact⟨A5.reverse,r.reverse,e⟩
theorem Inv.ZAx(I:Inv X Zb Z H s)(d:∀b∈fp,EI X Zb H b)(k:∀b o,b∉fp->s.heap.get? b=some o->h'.get? b=some o):
  Inv X Zb Z H { s with heap:=h',toks:=t' }:=by
 have f:∀b u,H b=some u->b∉fp:=λb u e z=>by rw[(d b z).1]at e;cases e
 refine I.step (g':=s.gens) (d':=s.drawn) (ch:=fp) (λb h=>?_) (λb o _ _ a e _=>k b o a e) (λb o _ _ a e _=>⟨o.slots,k b o a e⟩) (λ_ _ _ _ n=>n)
  (λb o a e=>⟨o,k b o a e⟩) (λ_ _ e=>e) (λ_ _ _ e=>e) (λb ps e=>⟨#[],by rw[e];simp⟩) (λm g=>?_) (λb u e=>?_) I.bare
 .obtain⟨_,h1,_,j,i,h5⟩:=d b h;exact⟨j,h1,i,h5⟩
 .obtain⟨o,es,l,ho,r⟩:=g;exact⟨o,es,l,k _ o (λz=>(d _ z).2.1 rfl) ho,r⟩
 .refine(I.AN b u e).Hg (λc v a q=>k c v ?_ q) (λ_ q=>q) λ_ _ q=>q;rcases a with z|z
  .rw[z];exact f b u e
  .exact f c _ z
theorem Inv.vI{o:HO}(I:Inv X Zb Z H s)(i:∀b∈fp,EI X Zb H b)(k:∀b o,b∉fp->s.heap.get? b=some o->h'.get? b=some o)
  (j:s.heap.objs.size<=a) (g:C1 X.prog X.w (upd H a o) h' a o):Inv X Zb Z (upd H a o) { s with heap:=h',toks:=t' }:=by
 have hn:H a=none:=I.AN.fresh j;have l:∀b u,H b=some u->b∉fp:=λb u e z=>by rw[(i b z).1]at e;cases e
 have ne:∀b u,H b=some u->b≠a:=λb u e=>E8 e hn;have h:∀b u,s.heap.get? b=some u->b≠a:=λb u e=>C0 (DT (BE e) j);refine I.step (g':=s.gens) (d':=s.drawn) (ch:=fp) (λb f=>?_) (λb o _ _ d e _=>k b o d e) (λb o _ _ d e _=>⟨o.slots,k b o d e⟩) (λb o _ e n=>by rw[Af (h b o e)];exact n)
  (λb o d e=>⟨o,k b o d e⟩) (λb _ e=>by rw[Af (ne b _ e)];exact e) (λb _ _ e=>by rw[Af (ne b _ e)];exact e) (λb ps e=>⟨#[],by rw[Af (ne b _ e),e];simp⟩) (λm p=>?_) (λb u e=>?_) I.bare
 .obtain⟨_,h1,_,x,t,h5⟩:=i b f;exact⟨x,h1,t,h5⟩
 .obtain⟨o,es,y,ho,r⟩:=p;exact⟨o,es,y,k _ o (λz=>(i _ z).2.1 rfl) ho,r⟩
 .by_cases f:b=a
  .subst f;rw[AH]at e;cases e;exact g
  .rw[Af f]at e;refine(I.AN b u e).Hg (λc v d q=>k c v ?_ q) (λc q=>by rw[Af (ne c _ q)];exact q) λc _ q=>by rw[Af (ne c _ q)];exact q
   rcases d with z|z
   .rw[z];exact l b u e
   .exact l c _ z
def gv(K:ZEe)(a:Addr)(xs:List V):It:=
 ⟨λi H=>AJ K H a xs/\i<xs.length,λi H x H'=>∃p y,xs[i]?=some y/\x=.ref p/\H p=none/\H'=upd H p (.tup [.int i,y]),λi H=>AJ K H a xs/\xs.length<=i⟩
theorem xU{P:Program}{K:ZEe}{L:Pos}(a e it:Addr)(xs:List V)(D:e≠it):
  Turn P w K (.Tuple es k1 L) (gv K a xs) [e,it] e (λi h=>(∃c,IsEnum h e it i c)/\h.IsListIter it a i) where
 mem:=by simp
 obj:=λi h st b g=>by
  obtain⟨⟨c,h1⟩,o,h2,_,d⟩:=st;rcases List.mem_cons.mp g with z|z
  .subst z;exact⟨_,h1,λv z=>by cases z⟩
  .have:b=it:=by simpa using z
   subst this;exact⟨o,h2,λv z=>by rw[d]at z;cases z⟩
 keep:=λi h h' st k=>⟨let ⟨c,h1⟩:=st.1;⟨c,k e (by simp) _ h1⟩,st.2.at λo q=>k it (by simp) o q⟩
 item:=by
  intro X y hw A C i Zb s Z H E I l st t;subst y hw A;obtain⟨n,hi⟩:=t;obtain⟨⟨c,j⟩,f⟩:=st;obtain⟨A5,m,p,hz⟩:=I.list n;obtain⟨u,N,J⟩:=m.get (BA hi);refine wpAny_pyNext_enum_item j f p.isList (x:=u) (by simpa using N) D λh1 JP ZCi OO M r=>⟨_,rfl,?_⟩
  refine wpAny_letOwnedTupleGo_enum JP λh2 Ll CU=>?_;have G:e<s.heap.objs.size:=BE j;have F:h2.get? s.heap.objs.size=some { cls:=.type "tuple", data:=.seq #[.int i s.toks,u] }:=(CU.2 _ (N8 G)).trans OO;have kp:∀b o,b∉[e,it]->s.heap.get? b=some o->h2.get? b=some o:=λb o g q=>by
   have B:b≠e/\b≠it:=by simpa using g
   exact(CU.2 b B.1).trans (r b o B.1 B.2 q)
  refine⟨.ref s.heap.objs.size,_,I.vI (t':=s.toks+1) (a:=s.heap.objs.size) (o:=.tup [.int i,xs[i]]) l kp (Ap _) ?_,rfl,⟨_,_,BA hi,rfl,I.AN.fresh (Ap _),rfl⟩,⟨⟨_,Ll⟩,ZCi.at λo q=>(CU.2 it (BP D)).trans q⟩,λb g=>?_⟩
  .exact⟨(by show 2<=sizeLine;decide),[.int i s.toks,u],.cons ⟨_,rfl⟩ (.cons J .nil),⟨_,F,rfl,_,rfl⟩,λob q=>by rw[F]at q;cases q;rfl⟩
  .have Q:b<s.heap.objs.size:=by
    rcases List.mem_cons.mp g with z|z
    .rw[z];exact G
    .have:b=it:=by simpa using z
     obtain⟨o,q,_⟩:=f;rw[this];exact BE q
   rw[Af (C0 Q)];exact(l b g).1
 done:=by
  intro X y hw A C i Zb s Z H E I l st t;subst y hw A;obtain⟨n,hx⟩:=t;obtain⟨⟨c,j⟩,f⟩:=st;obtain⟨A5,m,p,hz⟩:=I.list n;have R:=m.length;exact wpAny_pyNext_enum_end (I.ok.hd C) j f p.isList (by simp;omega) λh' O=>⟨rfl,I.ZAx (t':=s.toks) l λb o g q=>O b o (λz=>g (by simp[z])) q⟩
 self:=λ_ _ _ _ _ st h=>let ⟨⟨_,j⟩,_⟩:=st;wpAny_pyIter_enum j h
def VL(K:ZEe)(t:TA):TI:=λZ H R=>t Z H λvs H1=>∃a xs,vs=[.ref a]/\AJ K H1 a xs/\R (gv K a xs) H1
theorem ux{k p pos:Pos}{l:Expr}{t:TA}(o:Gl X "enumerate")(n:X.mg "enumerate"=none)(d:QA X [l] t)(hs:starEach [l] X.env=[(false,eval l X.env)]:=by rfl):
  QI X (.Tuple es k1 k) (.Call (.Name "enumerate" p) [l] [] pos) (VL X.K t):=⟨by
 have d:=d.h;intro Zb s Z H R I h;refine tQ (Jj I o n (show bootBuiltins "enumerate"=some (.type "enumerate") by decide +kernel) ?_ (by decide) (by decide));refine Pa (AR (d pos Zb s Z H _ I h) λus s1⟨vs,H1,I1,i,j⟩=>?_) hs rfl;obtain⟨a,xs,rfl,m,q⟩:=j;obtain⟨u,rfl,g⟩:=vals1 i;cases g;obtain⟨A5,w,p,hz⟩:=I1.list m;refine call_enumerate_list p.isList λh' e c hsz kp=>?_;refine wpAny_pyIter_enum e ?_;have v:s1.heap.objs.size+1≠s1.heap.objs.size:=Nat.succ_ne_self _;refine⟨s1.heap.objs.size+1,[s1.heap.objs.size+1,s1.heap.objs.size],_,_,H1,rfl,I1.kept (t':=s1.toks) kp,xU a _ _ xs v,⟨⟨_,e⟩,c⟩,λb r=>?_,q⟩;have f:s1.heap.objs.size<=b:=by
  rcases List.mem_cons.mp r with z|z
  .rw[z];exact Gr _
  .have:b=s1.heap.objs.size:=by simpa using z
   rw[this];exact Ap _
 exact I1.Ko f (I1.AN.fresh f)⟩
variable{prog:Program}{A:Around}{E:Value->Shared->Prop}
variable{R:Result->Shared->Prop}{wr:List Addr}{G:Array GenState->Array GenState->Prop}{P:Nat->Value->Prop}{St:Nat->Shared->Prop}
theorem Inv.drew(I:Inv X Zb Z H s)(d:Drawn):Inv X Zb Z H { s with drawn:=d }:=
 I.step (h':=s.heap) (g':=s.gens) (t':=s.toks) (d':=d) (ch:=[]) (λ_ z=>nomatch z) (λb o _ _ _ e _=>e) (λb o _ _ _ e _=>⟨o.slots,e⟩) (λ_ _ _ _ n=>n) (λb o _ e=>⟨o,e⟩) (λ_ _ e=>e) (λ_ _ _ e=>e) (λb ps e=>⟨#[],by rw[e];simp⟩) (λm a=>a) I.AN I.bare
theorem ZC1{l:Addr}(a:IsTup s.heap l vs.toArray)(h:Q vs { s with heap:=(s.heap.push (seqObj "list" #[] 0)).update s.heap.objs.size (Obj.mapSeq (·++vs.toArray)) })(hsz:vs.length<=sizeLine):
  wpAny (model prog w) A (collect (.ref l)) Q E s:=by
 obtain⟨o,ho,b,n,hd⟩:=id a;unfold collect;refine lr (wpAny_runValue (wV entry_proto_collect' ?_));show wpAny _ _ (newList [] >>= λx=>again (.builtin "list.__iadd__" ⟨[x,.ref l],[]⟩)) _ _ s;refine lr (wpAny_newList ?_);refine oo ⟨Code.quiet_builtin _ (by decide +kernel),wV entry_list_iadd' ?_⟩;show wpAny _ _ (Builtin.List.listExtendWith (.ref s.heap.objs.size) (.ref l) (.ref s.heap.objs.size)) _ _ { s with heap:=s.heap.push (seqObj "list" #[] 0) }
 unfold Builtin.List.listExtendWith;have g:(s.heap.push (seqObj "list" #[] 0)).get? l=some o:=BZ _ ho;refine lr (uM (T:="tuple") ⟨o,g,b⟩ ?_);rw[md (by simp)];refine lr (listItems_at g hd ?_);refine lr (listItems_at (xs:=#[]) (n:=0) (CA _ rfl) rfl ?_);rw[mY (by simp)];refine lr (listUpdate_at (xs:=#[]) (n:=0) (CA _ rfl) rfl ?_ (Bm _) (by show(#[]++vs.toArray).size<=sizeLine+1;simp only[Array.size_append,Bl,Z5];omega));refine oo ?_;show wpAny (model prog w) A (load s.heap.objs.size >>= λo=>(match o.data with | .seq xs _=>pure xs.toList|_=>unsupported "internal:collect")) Q E _
 refine lr (wpAny_load (get?_update_seq (CA _ rfl) _) ?_);show wpAny _ _ (pure ((#[]:Array Value)++vs.toArray).toList) Q E _;have e:((#[]:Array Value)++vs.toArray).toList=vs:=by simp
 rw[e];exact oo h
theorem ir{v:Value}{Q:Value->Shared->Prop}
  (i:∀(A1:Around)(E1:Value->Shared->Prop)(Q1:List Value->Shared->Prop),A1.handled=A.handled->(∀vs s1,Pc vs s1->Q1 vs s1)->wpAny (model prog w) A1 (collect v) Q1 E1 s)
  (h:∀vs s1,Pc vs s1->vs.length<64/\∃ss,StrsAre vs ss/\∀out AI e h',(∀b o,s1.heap.get? b=some o->h'.get? b=some o)->h'.get? s1.heap.objs.size=some (seqObj "list" out e)->StrsAre out.toList AI->AI.Perm ss->sortedS AI=true->Q (.ref s1.heap.objs.size) { s1 with heap:=h' }) :
  wpAny (model prog w) A (call (.builtin "sorted") [v]) Q E s:=by
 refine Calls.call_function_entry kind_sorted plain_sorted entry_sorted (args_sorted1 _) ?_;unfold Builtin.«sorted»;refine lr (m:=checkCount "sorted" 1 1 _) (oo ?_);refine lr (i _ _ _ rfl λvs s1 f=>?_);obtain⟨GJ,ss,J4,k⟩:=h vs s1 f;refine lr (wpAny_newList ?_);have a:(s1.heap.push (seqObj "list" vs.toArray 0)).get? s1.heap.objs.size=some (seqObj "list" vs.toArray 0):=CA _ rfl;refine lr (uI (yx slot_list_sort ⟨_,a,rfl⟩ entry_list_sort (list_sort_treeK (s:={ s1 with heap:=s1.heap.push (seqObj "list" vs.toArray 0) }) strKind_oneLt a J4.keysOf (λt r rest e=>keyKind_strs (by rw[<- e];exact J4)) GJ λCt q p=>⟨_,rfl,?_⟩) (args_list_sort _)))
 obtain⟨AI,n,l,j⟩:=sorted_out_str J4 q p;obtain⟨e,g⟩:=sortedHeap_at (out:=(arrOf Ct).map (·.2)) a
 refine oo ⟨_,rfl,k _ AI e _ (λb o c=>?_) g n l j⟩;have d:=BE c;rw[sortedHeap_old (C0 d) (by rw[Hx];exact N7 d)];exact BZ _ c
end
theorem jb:∀{ss:List Str}{us:List Value},Vals (ss.map V.str) us->StrsAre us ss
 | [],_,.nil=>.nil
 |x::r,_,.cons ⟨t,e⟩ h=>by rw[e];exact .cons x t (jb h)
theorem jR:∀{ss:List Str}{us:List Value},StrsAre us ss->Vals (ss.map V.str) us
 |_,_,.nil=>.nil
 |_,_,.cons x t h=>.cons ⟨t,rfl⟩ (jR h)
theorem gJ{s1:Shared}{Q:VK}(I:Inv X Zb Z H s)(d:s1.gens=s.gens)(ho:s1.os=s.os)(c:∀b o,s.heap.get? b=some o->s1.heap.get? b=some o)(hs:s.heap.objs.size<=s1.heap.objs.size)
  {out:Array Value}(kp:∀b o,s1.heap.get? b=some o->h'.get? b=some o) (f:h'.get? s1.heap.objs.size=some (seqObj "list" out e)) (g:StrsAre out.toList AI) (GJ:AI.length<64)
  (q:∀l,H l=none->Q (.ref l) (upd H l (.lst (AI.map V.str)))):EP X Zb Z Q (.ref s1.heap.objs.size) { s1 with heap:=h' }:=by
 obtain⟨h1,g1,h,t1,i⟩:=s1;simp only at d ho c hs kp f;subst d;subst ho;refine⟨.ref _,_,(I.drew h).laid (a:=h1.objs.size) (h':=h') (t':=t1) (o:=.lst (AI.map V.str)) (λb o q=>kp b o (c b o q)) hs ?_,rfl,q _ (I.AN.fresh hs)⟩;refine⟨?_,out.toList,e,jR g,by simpa[seqObj]using f⟩
 rw[AW];exact Cs (T4 GJ) (by decide +kernel)
def Zf(K:ZEe):List V->Hp->VK->Prop:=λxs H Q=>∃(p:Addr)(tp:Bool)(ss:List Str),xs=[.ref p]/\Df K tp H p (ss.map V.str)/\ss.length<64/\∀l AI,H l=none->AI.Perm ss->sortedS AI=true->Q (.ref l) (upd H l (.lst (AI.map V.str)))
theorem R6:D7 X (.builtin "sorted") (Zf X.K):=by
 intro Zb s Z H xs us Q I r h;obtain⟨p,tp,ss,rfl,f,GJ,q⟩:=h;obtain⟨u,rfl,j⟩:=vals1 r;cases j;have d:∀A5:List Value,Vals (ss.map V.str) A5->(∀(A1:Around)(E1:Value->Shared->Prop)(Q1:List Value->Shared->Prop),Q1 A5 { s with heap:=(s.heap.push (seqObj "list" #[] 0)).update s.heap.objs.size (Obj.mapSeq (·++A5.toArray)) }->wpAny (model X.prog X.w) A1 (collect (.ref p)) Q1 E1 s)->
   wpAny (model X.prog X.w) X.A (call (.builtin "sorted") [.ref p]) (EP X Zb Z Q) X.xe s:=by
  intro A5 c ZB1;have a:=c.length;rw[AW]at a;refine ir (Pc:=λvs s1=>vs=A5/\s1={ s with heap:=(s.heap.push (seqObj "list" #[] 0)).update s.heap.objs.size (Obj.mapSeq (·++A5.toArray)) }) (λA1 E1 Q1 _ k=>ZB1 A1 E1 Q1 (k _ _ ⟨rfl,rfl⟩)) ?_
  rintro vs s1⟨rfl,rfl⟩;refine⟨by omega,ss,jb c,λout AI e h' kp n t g hs=>?_⟩;refine gJ (s1:={ s with heap:=(s.heap.push (seqObj "list" #[] 0)).update s.heap.objs.size (Obj.mapSeq (·++vs.toArray)) }) I rfl rfl (λb o i=>?_) (by show s.heap.objs.size<=((s.heap.push (seqObj "list" #[] 0)).update s.heap.objs.size (Obj.mapSeq (·++vs.toArray))).objs.size;rw[Heap.size_update,Hx];exact Gr _) kp n t (by rw[g.length_eq];exact GJ) λl m=>q l AI m g hs
  show((s.heap.push _).update _ _).get? b=some o;rw[Heap.get?_update_ne _ _ _ _ (C0 (BE i))];exact BZ _ i
 cases tp with
 |false=>
  obtain⟨A5,c,pl,hz⟩:=I.list f;have a:=c.length;exact d A5 c λA1 E1 Q1 k=>collect_list pl.isList k (by omega)
 |true=>
  obtain⟨A5,c,pl,hz⟩:=I.tuple f;have a:=c.length;exact d A5 c λA1 E1 Q1 k=>ZC1 pl k (by omega)
end L2
namespace MA
noncomputable def OD:Nat->Nat->List Nat
 | 0,n=>[97+n]
 |k+1,n=>if n<26 then[97+n]else(97+n % 26)::OD k (n / 26)
theorem KZ:∀(k:Nat){n:Nat},n<26->OD k n=[97+n]
 | 0,_,_=>rfl
 |_+1,_,h=>md h
theorem fV:∀(k j n:Nat),n<=k->n<=j->OD k n=OD j n
 | 0,j,n,h,_=>by rw[KZ 0 (JB h (by decide)),KZ j (JB h (by decide))]
 |k+1,0,n,_,h=>by rw[KZ (k+1) (JB h (by decide)),KZ 0 (JB h (by decide))]
 |k+1,j+1,n,h1,h2=>by
  by_cases c:n<26
  .rw[KZ _ c,KZ _ c]
  .have d:n / 26<n:=Nat.div_lt_self (DT (by decide) (ZDl c)) (by decide);show(if n<26 then _ else _)=(if n<26 then _ else _)
   rw[mY c,mY c,fV k j (n / 26) (jy (DT d h1)) (jy (DT d h2))]
def lets(n:Nat):List Nat:=OD n n
noncomputable def vals:List Nat->Nat
 | []=>0
 |c::r=>(c - 97)+26 * vals r
theorem MH{n:Nat}(h:n<26):lets n=[97+n]:=KZ n h
theorem P2{n:Nat}(h:¬ n<26):lets n=(97+n % 26)::lets (n / 26):=by
 cases n with
 |zero=>exact absurd (by decide) h
 |succ k=>
  have d:(k+1) / 26<k+1:=Nat.div_lt_self (Nat.succ_pos k) (by decide);show(if k+1<26 then _ else _)=_
  rw[mY h,fV k ((k+1) / 26) ((k+1) / 26) (jy d) (Ap _)];rfl
theorem av:∀n,vals (lets n)=n:=by
 intro n
 induction n using Nat.strongRecOn with
 |_ n a=>
  by_cases h:n<26
  .rw[MH h];simp[vals]
  .rw[P2 h];have:=a (n / 26) (by omega);simp only[vals,this];omega
theorem zQ{a b:Nat}(h:lets a=lets b):a=b:=by rw[<- av a,h,av]
theorem Wj(n:Nat):1<=(lets n).length:=by
 by_cases h:n<26
 .rw[MH h];simp
 .rw[P2 h];simp
theorem Q5:∀(k n:Nat),n<26 ^ (k+1)->(lets n).length<=k+1
 | 0,n,h=>by rw[MH (by simpa using h)];simp
 |k+1,n,h=>by
  by_cases h1:n<26
  .rw[MH h1];simp
  .rw[P2 h1];have:=Q5 k (n / 26) (by rw[Nat.pow_succ]at h;exact Nat.div_lt_of_lt_mul (by rw[Nat.mul_comm];exact h));simp only[Cc];omega
theorem qF:∀n,∀c∈lets n,97<=c/\c<=122:=by
 intro n
 induction n using Nat.strongRecOn with
 |_ n b=>
  by_cases h:n<26
  .rw[MH h];intro c a;simp at a;omega
  .rw[P2 h];intro c a;rcases List.mem_cons.mp a with e|e
   .omega
   .exact b (n / 26) (by omega) c e
theorem dq{α:Type}[DecidableEq α]:∀(k:Nat)(f:Nat->α)(l:List α),(∀i j,i<k->j<k->f i=f j->i=j)->(∀i,i<k->f i∈l)->k<=l.length
 | 0,_,_,_,_=>Bm _
 |k+1,f,l,hi,hm=>by
  have h1:=hm k (ZA k);have:=dq k f (l.erase (f k)) (λi j a b e=>hi i j (by omega) (by omega) e) (λi a=>by
   have c:f i≠f k:=λe=>by have:=hi i k (by omega) (by omega) e;omega
   exact(ZDf c).mpr (hm i (by omega)))
  rw[ZDd h1]at this;have d:=ZDe h1;omega
end MA
namespace Lw
open L2
variable{a l p:Addr}{H H' H2:Hp}{xs:List V}{o:HO}{α:Type}{hi i m n:Nat}{ns ss:List Str}{x y z:Str}{j r:Int}{A B c:Prop}
def Bi(H:Hp)(p:Addr):Prop:=∃a b:Int,H p=some (.lst [.int a,.int b])/\0<=a/\a<10 ^ 256/\0<=b/\b<2147483647
structure BC (p:Addr) (H H':Hp):Prop where
 AQ:Bi H' p
 same:Gj p H H'
theorem BC.trans{H1:Hp}(a:BC p H H1)(b:BC p H1 H2):BC p H H2:=⟨b.AQ,a.same.trans b.same⟩
theorem BC.of(h:Bi H p)(s:A8 H H'):BC p H H':=by
 obtain⟨a,b,e,r⟩:=h;exact⟨⟨a,b,s _ _ e,r⟩,Gj.of s⟩
theorem BC.NL{K:ZEe}(s:BC p H H')(h:AJ K H a xs)(Ax:a≠p):AJ K H' a xs:=by
 rcases h with(h|⟨o,h⟩)|h
 .exact .inl (.inl (s.same _ _ Ax h))
 .exact .inl (.inr ⟨o,s.same _ _ Ax h⟩)
 .exact .inr h
theorem BC.at'(s:BC p H H')(h:H a=some o)(Ax:a≠p):H' a=some o:=s.same _ _ Ax h
theorem M4{a:Int}(c:-(10 ^ 20)<a)(h1:a<10 ^ 20):a.natAbs<2 ^ 1000:=by
 have b:a.natAbs<10 ^ 20:=by omega
 exact Nat.lt_trans b (by decide +kernel)
def Yp(K:ZEe):Sp:=λvs H Q _=>∃(a:Addr)(ns:List Int)(k:Int),vs=[.ref a,.int k]/\AJ K H a (ns.map V.int)/\0<=k/\k<=1000/\∀p H',H p=none->A8 H H'->Bi H' p->Q (.ref p) H'
def Jv:Sp:=λvs H Q _=>∃(p:Addr)(m:Int),vs=[.ref p,.int m]/\Bi H p/\0<m/\m<10 ^ 18/\∀r H',0<=r->r<m->BC p H H'->Q (.int r) H'
def D5(l:List Nat):Str:=⟨l.toArray⟩
def aO:Sp:=λvs H Q _=>∃r:Int,vs=[.int r]/\0<=r/\r<26 ^ 8/\∀H',A8 H H'->Q (.str (D5 (MA.lets r.toNat))) H'
theorem NZ{xs:List α}{k:Int}{v:α}(b:0<=k)(h:xs[k.toNat]?=some v):Bf xs k=some v:=by
 have a:k=((k.toNat:Nat):Int):=by omega
 have q:=TB h;rw[<- a]at q;exact q
abbrev Hv:Str:="abcdefghijklmnopqrstuvwxyz"
theorem oP:∀j,j<26->Hv.cps.toList[j]?=some (97+j):=by decide +kernel
theorem fN{k:Int}(a:0<=k)(h1:k<26):Bf Hv.cps.toList k=some (97+k.toNat):=NZ a (oP _ (by omega))
theorem jZ(l:List Nat)(c:Nat):D5 l++(⟨#[c]⟩:Str)=D5 (l++[c]):=by
 show(⟨l.toArray++#[c]⟩:Str)=⟨(l++[c]).toArray⟩;simp
theorem Ri(l:List Nat):(D5 l).length=l.length:=by simp[D5,Str.length]
theorem ZQ{l:List Nat}:(V.str (D5 l)=V.str (Str.ofString ""))↔l=[]:=by
 constructor
 .intro h;injection h with h
  have h2:=sA (λx=>x.cps.toList) h;have e:(Str.ofString "").cps.toList=[]:=by decide +kernel
  rw[e]at h2
  simpa[D5]using h2
 .rintro rfl;rfl
theorem small(h:n<=100000):n<=sizeLine:=Cs h (by decide +kernel)
theorem fO{k:Nat}{pre:List Nat}(h:pre++MA.lets k=MA.lets n):(0<k / 26->(pre++[97+k % 26])++MA.lets (k / 26)=MA.lets n)/\(k / 26=0->pre++[97+k % 26]=MA.lets n):=by
 constructor
 .intro h1;rw[MA.P2 (by omega)]at h;rw[<- h,Bc];rfl
 .intro h1;have h2:k<26:=by omega
  rw[MA.MH h2]at h;rw[<- h,Nat.mod_eq_of_lt h2]
def Nm(x:Str):Prop:=1<=x.length/\x.length<=8/\∀c∈x.cps.toList,97<=c/\c<=122
instance (x:Str):Decidable (Nm x):=by unfold Nm;exact inferInstance
theorem HM(x:Str):x.length=x.cps.toList.length:=by simp[Str.length]
theorem Wu(h:n<26 ^ 8):Nm (D5 (MA.lets n)):=by
 refine⟨by rw[Ri];exact MA.Wj n,by rw[Ri];exact MA.Q5 7 n h,λc a=>MA.qF n c (by simpa[D5]using a)⟩
noncomputable def menu:List Str:=["put","take","none","ahead","all","over","next","a","ab","abc","abcdefgh","b","step"]
theorem ZCF:∀x∈menu,Nm x:=by decide +kernel
noncomputable def RA:List V:=[.str "put",.str "take",.str "none",.str "ahead",.str "all",.str "over",.str "next",.str "a",.str "ab",.str "abc",.str "abcdefgh",.str "b",.str "step"]
theorem qe{i:Int}(a:0<=i)(h1:i<13):∃x,Bf RA i=some (.str x)/\Nm x:=by
 have b:menu.length=13:=rfl;have hi:i.toNat<menu.length:=by omega
 have e:RA=menu.map V.str:=rfl;refine⟨menu[i.toNat],NZ a ?_,ZCF _ (PQ hi)⟩;rw[e,BG,BA hi];rfl
theorem NV{i:Int}(a:0<=i)(h1:i<ns.length):∃x,Bf (ns.map V.str) i=some (.str x)/\x∈ns/\ns[i.toNat]?=some x:=by
 have hi:i.toNat<ns.length:=by omega
 exact⟨ns[i.toNat],NZ a (by rw[BG,BA hi];rfl),PQ hi,BA hi⟩
theorem Fi(ns:List Str):(ns.map V.str).all Ec=true:=by
 rw[J9];intro x hx;obtain⟨y,_,rfl⟩:=List.mem_map.mp hx;rfl
theorem Kc(x:Str)(ns:List Str):ES (.str x) (ns.map V.str)=decide (x∈ns):=by
 unfold ES;rw[PL,List.any_eq_true,decide_eq_true_iff];constructor
 .rintro⟨v,b,h⟩;obtain⟨y,a,rfl⟩:=List.mem_map.mp b;have h':(y == x)=true:=h;have:y=x:=by simpa using h'
  rw[<- this];exact a
 .intro h;exact⟨.str x,List.mem_map.mpr ⟨x,h,rfl⟩,by show(x == x)=true;simp⟩
theorem Nd(xs:List V):FI xs []=decide (xs=[]):=by
 cases xs with
 |nil=>rfl
 |cons x r=>rw[ML (by simp)];simp
theorem sQ(h:x.cps.toList=y.cps.toList):x=y:=by
 cases x;cases y;simp only[Str.mk.injEq];exact Array.toList_inj.mp h
theorem ZAb(z:Str){a b:Nat}{lo hi:Option Int}(Dq:a<=b)(c:b<=z.length)(e:Builtin.Str.strSliceIndices lo hi 1 z.length=Builtin.Str.strSliceIndices (some (a:Int)) (some (b:Int)) 1 z.length):
  (Txt.slice z lo hi).cps.toList=(z.cps.toList.drop a).take (b - a):=by
 have q:=StrLaws.sliced_plain z Dq c;rw[<- e]at q;unfold Txt.slice;split
 .rename_i h;have d:(Builtin.Str.strSliceIndices lo hi 1 z.length).length=z.length:=by simpa using h
  rw[e,StrLaws.strSliceIndices_plain Dq c,AW,List.length_range]at d;have h1:a=0:=by omega
  have h2:b=z.length:=by omega
  subst h1;subst h2;rw[jk,k8,HM,LP]
 .rw[<- q]
theorem oI(h:0<=j):max (0:Int) (min j (n:Int))=max 0 (min ((min j.toNat n:Nat):Int) (n:Int)):=by
 have e:((min j.toNat n:Nat):Int)=min j n:=by
  rcases Z9 j.toNat n with c|c
  .rw[PY c,jj h,Int.min_eq_left (by have:=Int.ofNat_le.mpr c;rw[jj h]at this;exact this)]
  .rw[ZD c,Int.min_eq_right (by have:=Int.ofNat_le.mpr c;rw[jj h]at this;exact this)]
 rw[e,Int.min_assoc,Int.min_self]
theorem lZ(z:Str)(h:0<=j):(Txt.slice z none (some j)).cps.toList=z.cps.toList.take j.toNat:=by
 have e:=ZAb z (a:=0) (b:=min j.toNat z.length) (lo:=none) (hi:=some j) (Bm _) (ZDn _ _) (by
  have h1:¬ j<0:=by omega
  have h2:¬ (((min j.toNat z.length:Nat):Int)<0):=Int.not_lt.mpr (ZDT _);have c:max (0:Int) (min j (z.length:Int))=max 0 (min ((min j.toNat z.length:Nat):Int) (z.length:Int)):=oI h;simp only[Builtin.Str.strSliceIndices,h1,h2,yT,c];rfl)
 rw[e,jk,k8];rcases Z9 j.toNat z.length with h1|h1
 .rw[PY h1]
 .rw[ZD h1,HM,LP,Sy (by rw[<- HM];exact h1)]
theorem hZ(h:1<=j)(b:j<=8)(hz:1<=z.length)(a:∀c∈z.cps.toList,97<=c/\c<=122):Nm (Txt.slice z none (some j)):=by
 have e:=lZ z (j:=j) (by omega);refine⟨?_,?_,λc Fh=>a c ?_⟩
 .rw[HM,e,CK,<- HM];omega
 .rw[HM,e,CK];omega
 .rw[e]at Fh;exact ZDg Fh
theorem bh(x y:Str):(x++y).cps.toList=x.cps.toList++y.cps.toList:=by
 show(x.cps++y.cps).toList=_;simp
theorem ZL(x y:Str):(x++y).length=x.length+y.length:=by rw[HM,bh,Bu,<- HM,<- HM]
def O8(K:ZEe):Sp:=λvs H Q _=>∃(p q:Addr)(ns:List Str),vs=[.ref p,.ref q]/\Bi H p/\H q=some (.lst (ns.map V.str))/\q≠p/\(∀x∈ns,Nm x)/\ns.length<=1000/\∀x H',Nm x->x∉ns->BC p H H'->Q (.str x) H'
theorem ZCT{k:Nat}(h:∀j,j<k->D5 (MA.lets j)∈ns):k<=ns.length:=
 MA.dq k (λj=>D5 (MA.lets j)) ns (λi j _ _ e=>MA.zQ (by
  have:=sA (λx=>x.cps.toList) e
  simpa[D5]using this)) h
theorem kK:1000<26 ^ 8:=by decide +kernel
theorem wM:(1000:Int)<26 ^ 8:=by decide +kernel
theorem rX:(26:Int) ^ (8:Int).toNat - 26<26 ^ 8:=by decide +kernel
theorem rG:(26:Int)<26 ^ 8:=by decide +kernel
theorem q8:(0:Int)<26 ^ (8:Int).toNat - 26:=by decide +kernel
theorem xY:(26:Int) ^ (8:Int).toNat - 26<10 ^ 18:=by decide +kernel
theorem Zm(a:0<=r)(h:r<26 ^ 8):r.toNat<26 ^ 8:=by omega
theorem BC.upd(s:BC p H H2)(h:H l=none)(Ax:l≠p):BC p H (upd H2 l o):=by
 obtain⟨a,b,e,r⟩:=s.AQ;refine⟨⟨a,b,by rw[Af (BP Ax)];exact e,r⟩,λc u d q=>?_⟩;rw[Af (E8 q h)];exact s.same c u d q
theorem BC.none(s:BC p H H2)(h:H2 l=none):H l=none:=by
 cases q:H l with
 |none=>rfl
 |some o=>
  by_cases e:l=p
  .obtain⟨a,b,c,_⟩:=s.AQ;rw[<- e,h]at c;cases c
  .rw[s.same l o e q]at h;cases h
theorem Bi.ne(h:Bi H p)(a:H l=none):l≠p:=by
 obtain⟨_,_,e,_⟩:=h;exact(E8 e a).symm
theorem A8.none(s:A8 H H2)(h:H2 l=none):H l=none:=by
 cases q:H l with
 |none=>rfl
 |some o=>rw[s l o q]at h;cases h
def dD:Sp:=λvs H Q _=>∃(p:Addr)(m:Int),vs=[.ref p,.int m]/\Bi H p/\0<=m/\m<=100/\
 ∀l H'(ns:List Str),H l=none->BC p H H'->H' l=some (.lst (ns.map V.str))->(ns.length:Int)=m->(∀x∈ns,Nm x)->ns.Nodup->Q (.ref l) H'
def Xs:Sp:=λvs H Q _=>∃(p:Addr)(m:Int),vs=[.ref p,.int m]/\Bi H p/\1<=m/\m<=100/\
 ∀l H'(ns:List Str),H l=none->BC p H H'->H' l=some (.lst (ns.map V.str))->(ns.length:Int)<=m->(∀x∈ns,Nm x)->ns.Nodup->Q (.ref l) H'
theorem Pj{l:List α}{x:α}(h:l.Nodup)(hx:x∉l):(l++[x]).Nodup:=by
 rw[CG];exact⟨h,by simp,λa d b c=>by
  have:b=x:=by simpa using c
  subst this;rintro rfl;exact hx d⟩
theorem zb{m:Int}(b:0<=j)(h1:j<3)(a:1<=m):∃k:Int,Bf [V.int 0,V.int 1,V.int m] j=some (.int k)/\0<=k/\k<=m:=by
 have:j=0∨j=1∨j=2:=by omega
 rcases this with rfl|rfl|rfl
 .exact⟨0,rfl,by omega,by omega⟩
 .exact⟨1,rfl,by omega,by omega⟩
 .exact⟨m,rfl,by omega,by omega⟩
noncomputable def Ki(c:Nat):Bool:=!(Builtin.Str.occurrences Hv ⟨#[c]⟩ 0 Hv.length 1).isEmpty
def isNm(x:Str):Bool:=decide ((1:Int)<=x.length) && (decide ((x.length:Int)<=8) && x.cps.toList.all Ki)
def LC:Sp:=λvs H Q _=>∃x:Str,vs=[.str x]/\x.length<=1000/\∀H',A8 H H'->Q (.bl (isNm x)) H'
theorem nO(l:List α):l.filter (λ_=>true)=l:=List.filter_eq_self.mpr λ_ _=>rfl
noncomputable def Uc:V->V
 | .str y=>.bl (!(Builtin.Str.occurrences Hv y 0 Hv.length 1).isEmpty)
 |_=>.bl false
theorem aN(x:Str):((Gb x).filter (λ_=>true)).map Uc=(x.cps.toList.map Ki).map V.bl:=by
 unfold Gb;rw[nO,Gp,Gp];rfl
theorem signs_get{v:V}(h:(Gb x)[i]?=some v):∃c,v=.str ⟨#[c]⟩:=by
 unfold Gb at h;rw[BG]at h;cases q:x.cps.toList[i]? with
 |none=>rw[q]at h;cases h
 |some c=>rw[q]at h;simp at h;exact⟨c,h.symm⟩
theorem all_map(f:α->Bool)(l:List α):(l.map f).all id=l.all f:=by rw[List.all_map];rfl
theorem LV{v:V}(h:(ss.map V.str)[i]?=some v):∃x,v=.str x/\x∈ss:=by
 rw[BG]at h;cases q:ss[i]? with
 |none=>rw[q]at h;cases h
 |some x=>rw[q]at h;simp at h;exact⟨x,h.symm,Cr q⟩
theorem sO(xs:List Str):FI (xs.map V.str) (xs.map V.str)=true:=by
 rw[Mg rfl,J9];intro j a;have b:j<xs.length:=by simpa using a
 have e:(xs.map V.str)[j]?=some (.str xs[j]):=by rw[BG,BA b];rfl
 rw[Oe e];show(xs[j] == xs[j])=true;simp
theorem Jc(K:ZEe)(t:String):PySem.W.kitOne K (.type t) (.type t)=some true:=by
 unfold PySem.W.kitOne;rw[md (by simp)]
def P6(K:ZEe):Sp:=λvs H Q _=>∃(a:Addr)(ns:List Int),vs=[.ref a]/\AJ K H a (ns.map V.int)/\ns.length<=63/\∀H',Q (.bl true) H'
inductive AO where
 |put (x:Str) (i:Nat)|take (x:Str)|move (x:Str) (i:Nat)|turn (lo hi:Nat)
noncomputable def AO.vals:AO->List V
 | .put x i=>[.str "put",.str x,.int i]
 | .take x=>[.str "take",.str x]
 | .move x i=>[.str "move",.str x,.int i]
 | .turn lo hi=>[.str "turn",.int lo,.int hi]
def AO.Ok(m:Nat)(ns:List Str):AO->Prop
 | .put x i=>Nm x/\x∉ns/\i<=ns.length/\ns.length<m
 | .take x=>x∈ns
 | .move x i=>x∈ns/\i<ns.length
 | .turn lo hi=>lo<=hi/\hi<=ns.length
noncomputable def ins(ns:List Str)(x:Str)(i:Nat):List Str:=ns.take i++x::ns.drop i
def wo(ns:List Str)(x:Str):List Str:=ns.filter λy=>!decide (y=x)
noncomputable def FH(ns:List Str)(lo hi:Nat):List Str:=ns.take lo++((ns.drop lo).take (hi - lo)).reverse++ns.drop hi
def AO.done(ns:List Str):AO->List Str
 | .put x i=>ins ns x i
 | .take x=>wo ns x
 | .move x i=>ins (wo ns x) x i
 | .turn lo hi=>FH ns lo hi
theorem SK(h:x∉ns):wo ns x=ns:=by
 unfold wo;rw[ZDY];intro y a;have:y≠x:=λe=>h (e▸a);simp[this]
theorem Jw:y∈wo ns x↔y∈ns/\y≠x:=by
 unfold wo;rw[jw];simp
theorem ag(h:ns.Nodup):(wo ns x).Nodup:=h.filter _
theorem mH(as bs:List Str)(x:Str):wo (as++bs) x=wo as x++wo bs x:=by unfold wo;rw[Sq]
theorem qD(bs:List Str)(x:Str):wo (x::bs) x=wo bs x:=by unfold wo;rw[Z2];simp
theorem Uo(h:x∈ns):ns=ns.take (ns.idxOf x)++x::ns.drop (ns.idxOf x+1):=by
 have a:ns.idxOf x<ns.length:=List.idxOf_lt_length_iff.mpr h;have e:ns[ns.idxOf x]=x:=Z3 a
 conv=>lhs;rw[<- LO (ns.idxOf x) ns,Yz a,e]
theorem ZCZ(h:x∈ns):x∉ns.take (ns.idxOf x):=by
 intro a;obtain⟨m,OZ,e⟩:=List.mem_iff_getElem.mp a;rw[CK]at OZ;rw[List.getElem_take]at e;exact XI x ns m (by omega) (by omega) e
theorem me(h:x∈ns)(nd:ns.Nodup):x∉ns.drop (ns.idxOf x+1):=by
 rw[Uo h]at nd;have h2:=(List.nodup_append.mp nd).2.1;exact(List.nodup_cons.mp h2).1
theorem pB(h:x∈ns)(nd:ns.Nodup):wo ns x=ns.take (ns.idxOf x)++ns.drop (ns.idxOf x+1):=by
 conv=>lhs;rw[Uo h]
 rw[mH,qD,SK (ZCZ h),SK (me h nd)]
theorem NQ(h:x∈ns)(nd:ns.Nodup):(wo ns x).length+1=ns.length:=by
 have a:ns.idxOf x<ns.length:=List.idxOf_lt_length_iff.mpr h;rw[pB h nd,Bu,CK,FA];omega
theorem RK:(ins ns x i).length=ns.length+1:=by
 unfold ins;rw[Bu,Cc,CK,FA];omega
theorem RH:y∈ins ns x i↔y=x∨y∈ns:=by
 unfold ins;rw[Hy,Gq];have:y∈ns↔y∈ns.take i∨y∈ns.drop i:=by rw[<- Hy,LO]
 rw[this];constructor
 .rintro(h|h|h)
  .exact .inr (.inl h)
  .exact .inl h
  .exact .inr (.inr h)
 .rintro(h|h|h)
  .exact .inr (.inl h)
  .exact .inl h
  .exact .inr (.inr h)
theorem Xo(h:ns.Nodup)(hx:x∉ns):(ins ns x i).Nodup:=by
 unfold ins;have e:(ns.take i++ns.drop i).Nodup:=by rw[LO];exact h
 obtain⟨h1,h2,f⟩:=List.nodup_append.mp e;rw[CG];refine⟨h1,List.nodup_cons.mpr ⟨λz=>hx (List.mem_of_mem_drop z),h2⟩,λa c b d=>?_⟩;rcases List.mem_cons.mp d with z|z
 .rw[z];rintro rfl;exact hx (ZDg c)
 .exact f a c b z
theorem jI{lo:Nat}(h1:lo<=hi)(h2:hi<=ns.length):(FH ns lo hi).length=ns.length:=by
 unfold FH;rw[Bu,Bu,LL,CK,CK,FA,FA];omega
theorem dk{lo:Nat}(h1:lo<=hi):ns=ns.take lo++(ns.drop lo).take (hi - lo)++ns.drop hi:=by
 have:ns.drop hi=(ns.drop lo).drop (hi - lo):=by rw[List.drop_drop];congr 1;omega
 rw[this,Bc,LO,LO]
theorem Zr{lo:Nat}(h1:lo<=hi):y∈FH ns lo hi↔y∈ns:=by
 conv=>rhs;rw[dk (ns:=ns) h1]
 unfold FH;simp only[Hy,List.mem_reverse]
theorem lN{lo:Nat}(h1:lo<=hi)(nd:ns.Nodup):(FH ns lo hi).Nodup:=by
 have p:List.Perm (FH ns lo hi) ns:=by
  conv=>rhs;rw[dk (ns:=ns) h1]
  unfold FH;exact((List.reverse_perm _).append_left _).append_right _
 exact p.nodup_iff.mpr nd
theorem AO.step{d:AO}(h:d.Ok m ns)(nd:ns.Nodup)(b:∀x∈ns,Nm x)(c:ns.length<=m):
  (d.done ns).Nodup/\(∀x∈d.done ns,Nm x)/\(d.done ns).length<=m:=by
 cases d with
 |put x i=>
  obtain⟨h1,h2,g,f⟩:=h;refine⟨Xo nd h2,λy a=>?_,?_⟩
  .rcases RH.mp a with e|e
   .rw[e];exact h1
   .exact b y e
  .show(ins ns x i).length<=m;rw[RK];omega
 |take x=>
  refine⟨ag nd,λy a=>b y (Jw.mp a).1,?_⟩;have:=NQ h nd;show(wo ns x).length<=m;omega
 |move x i=>
  obtain⟨h1,h2⟩:=h;refine⟨Xo (ag nd) (λz=>(Jw.mp z).2 rfl),λy a=>?_,?_⟩
  .rcases RH.mp a with e|e
   .rw[e];exact b x h1
   .exact b y (Jw.mp e).1
  .have:=NQ h1 nd;show(ins (wo ns x) x i).length<=m;rw[RK];omega
 |turn lo hi=>
  obtain⟨h1,h2⟩:=h;exact⟨lN h1 nd,λy a=>b y ((Zr h1).mp a),by show(FH ns lo hi).length<=m;rw[jI h1 h2];exact c⟩
theorem Rf(xs:List V)(i:Nat):Cg xs none (some (i:Int))=xs.take i:=by
 unfold Cg;rw[HT.dU,HT.Qz,jk,k8];rcases Z9 i xs.length with h|h
 .rw[PY h]
 .rw[ZD h,LP,Sy h]
theorem RO(xs:List V)(i:Nat):Cg xs (some (i:Int)) none=xs.drop i:=by
 unfold Cg;rw[HT.dU,HT.Qz];rcases Z9 i xs.length with h|h
 .rw[PY h,Sy (by rw[FA];omega)]
 .rw[ZD h,k6,List.take_zero,List.drop_of_length_le h]
theorem c5(xs:List V){j:Nat}(hi:i<=j)(a:j<=xs.length):Cg xs (some (i:Int)) (some (j:Int))=(xs.drop i).take (j - i):=by
 unfold Cg;rw[HT.Qz,HT.Qz,PY a,PY (Cs hi a)]
noncomputable def BU(tp:Bool)(xs:List V):HO:=match tp with
 |false=>.lst xs
 |true=>.tup xs
theorem BU.sq{K:ZEe}{tp:Bool}(h:H a=some (BU tp xs)):Df K tp H a xs:=by
 cases tp
 .exact AJ.of h
 .exact AA.of h
def Oh:Sp:=λvs H Q _=>∃(a:Addr)(tp:Bool)(ns:List Str)(x:Str),vs=[.ref a,.str x]/\H a=some (BU tp (ns.map V.str))/\x∈ns/\Q (.int (ns.idxOf x:Nat)) H
def aM:Sp:=λvs H Q _=>∃(a:Addr)(tp:Bool)(ns:List Str)(x:Str)(i:Nat),vs=[.ref a,.str x,.int i]/\H a=some (BU tp (ns.map V.str))/\(AO.put x i).Ok 40 ns/\∀H',A8 H H'->Q .AE H'
def iy:Sp:=λvs H Q _=>∃(a:Addr)(tp:Bool)(ns:List Str)(x:Str)(i:Nat),vs=[.ref a,.str x,.int i]/\H a=some (BU tp (ns.map V.str))/\(AO.move x i).Ok 40 ns/\Q .AE H
def eh:Sp:=λvs H Q _=>∃(a:Addr)(tp:Bool)(ns:List Str)(lo hi:Nat),vs=[.ref a,.int lo,.int hi]/\H a=some (BU tp (ns.map V.str))/\(AO.turn lo hi).Ok 40 ns/\Q .AE H
def bD:Sp:=λvs H Q _=>∃(a t:Addr)(tp:Bool)(ns:List Str)(d:AO),vs=[.ref a,.ref t]/\H a=some (BU tp (ns.map V.str))/\H t=some (.tup d.vals)/\d.Ok 40 ns/\∀H',A8 H H'->Q .AE H'
def LS(H:Hp)(Q:VK)(ns:List Str):Prop:=∀l H',H l=none->A8 H H'->H' l=some (.lst (ns.map V.str))->Q (.ref l) H'
def gq:Sp:=λvs H Q _=>∃(a:Addr)(tp:Bool)(ns:List Str)(x:Str)(i:Nat),vs=[.ref a,.str x,.int i]/\H a=some (BU tp (ns.map V.str))/\ns.length<=1000/\LS H Q (ins ns x i)
def aY:Sp:=λvs H Q _=>∃(a:Addr)(tp:Bool)(ns:List Str)(x:Str),vs=[.ref a,.str x]/\H a=some (BU tp (ns.map V.str))/\ns.length<=1000/\LS H Q (wo ns x)
def XC:Sp:=λvs H Q _=>∃(a t:Addr)(ns:List Str)(d:AO),vs=[.ref a,.ref t]/\H a=some (.lst (ns.map V.str))/\H t=some (.tup d.vals)/\d.Ok 40 ns/\ns.length<=40/\ns.Nodup/\LS H Q (d.done ns)
def QJ:Sp:=λvs H Q _=>∃(p a:Addr)(m:Nat)(ns:List Str),vs=[.ref p,.ref a,.int m]/\Bi H p/\H a=some (.lst (ns.map V.str))/\a≠p/\(∀x∈ns,Nm x)/\ns.length<=m/\1<=m/\m<=100/\
 ∀(d:AO)t H',H t=none->BC p H H'->H' t=some (.tup d.vals)->d.Ok m ns->Q (.ref t) H'
theorem Hh[Decidable c](h:c)(a:A):if c then A else B:=by rw[md h];exact a
theorem B0[Decidable c](h:¬ c)(b:B):if c then A else B:=by rw[mY h];exact b
theorem ZB5:∀j,j<26->Ki (97+j)=true:=by decide +kernel
theorem VC(h:Nm x):isNm x=true:=by
 obtain⟨h1,h2,f⟩:=h;unfold isNm;rw[lx (by omega),lx (by omega),Yu,Yu,J9];intro c d;obtain⟨a,b⟩:=f c d;have:=ZB5 (c - 97) (by omega);have e:97+(c - 97)=c:=by omega
 rw[e]at this;exact this
theorem Dm(ns:List Str):(ns.map V.str).length=ns.length:=AW _
noncomputable def He(y:V):V->Bool:=λv=>!decide (v=y)
theorem Oc(ns:List Str)(x:Str):((ns.map V.str).filter (He (.str x))).map (λv=>v)=(wo ns x).map V.str:=by
 unfold wo He;rw[jt,jm]
 congr 1
 apply ZDX;intro y _;simp
theorem oh(ns:List Str)(i:Int):((ns.map V.str).filter (He (.int i))).map (λv=>v)=ns.map V.str:=by
 unfold He;rw[jt,ZDY];intro v a;obtain⟨y,_,rfl⟩:=List.mem_map.mp a;rfl
theorem ZBg(s:A8 H H')(h:H l=none):A8 H (upd H' l o):=λb u q=>by rw[Af (E8 q h)];exact s b u q
theorem ZBd(K:ZEe):PySem.W.kitOne K (.type "int") (.type "bool")=some false:=by
 unfold PySem.W.kitOne;rw[mY (by decide)];with_unfolding_all rfl
end Lw
namespace Fz
open L2 Lw
variable{F F' H H':Hp}{v:V}{C5 vs:List V}{i i0 j:Nat}{t:TA}{a l:Addr}{r:List V->Hp->VK->Prop}{Z τ:L2.St}{o:HO}{ta tb tc te:TE}{b neg tp:Bool}{f:Int->Int->Bool}{g:TG}{u:TS}{n:String}{wi:TI}{A:List Addr}{Q:VK}{X:XK}
inductive PV where
 |AE|bl (b:Bool)|int (i:Int)|str (x:Str)|lst (xs:List PV)|tup (xs:List PV)
 |Ai (ks:List Key) (xs:List PV)|obj (C:Addr) (ns:List Str) (xs:List PV)|exc (C:Addr) (ns:List Str) (xs:List PV)|con (a:Addr) (xs:List PV)
variable{p:PV}{ps xs:List PV}
def Pq(a C:Addr)(dx:Option Addr):HO:=.ext λh=>∃ob vs,h.get? a=some ob/\ob.cls=.ref C/\ob.dict=dx/\ob.data=.fields vs
mutual
inductive Rep (F:Hp):V->PV->Prop where
 |AE:Rep F .AE .AE
 |bl (b:Bool):Rep F (.bl b) (.bl b)
 |int (i:Int):Rep F (.int i) (.int i)
 |str (x:Str):Rep F (.str x) (.str x)
 |lst {a:Addr}{vs:List V}{xs:List PV}:F a=some (.lst vs)->Ad F vs xs->Rep F (.ref a) (.lst xs)
 |tup {a:Addr}{vs:List V}{xs:List PV}:F a=some (.tup vs)->Ad F vs xs->Rep F (.ref a) (.tup xs)
 |Ai {a:Addr}{ks:List Key}{vs:List V}{xs:List PV}:F a=some (.dK (ks.zip vs))->ks.length=vs.length->Ad F vs xs->Rep F (.ref a) (.Ai ks xs)
 |obj {a C dx:Addr}{ns:List Str}{vs:List V}{xs:List PV}:F a=some (.ins C dx (ns.zip vs))->F dx=some (.own a)->ns.length=vs.length->Ad F vs xs->Rep F (.ref a) (.obj C ns xs)
 |con {a:Addr}{xs:List PV}:Rep F (.ref a) (.con a xs)
 |R7 {a C:Addr}:F a=some (Pq a C none)->Rep F (.ref a) (.exc C [] [])
 |exc {a C dx:Addr}{ns:List Str}{vs:List V}{xs:List PV}:F a=some (Pq a C (some dx))->F dx=some (.xd (ns.zip vs))->ns.length=vs.length->Ad F vs xs->Rep F (.ref a) (.exc C ns xs)
inductive Ad (F:Hp):List V->List PV->Prop where
 |nil:Ad F [] []
 |cons {v:V}{p:PV}{vs:List V}{ps:List PV}:Rep F v p->Ad F vs ps->Ad F (v::vs) (p::ps)
end
theorem Rep.mono(s:A8 F F')(r:Rep F v p):Rep F' v p:=
 Rep.rec (motive_1:=λv p _=>Rep F' v p) (motive_2:=λvs ps _=>Ad F' vs ps) .AE .bl .int .str (λh _ i=>.lst (s _ _ h) i) (λh _ i=>.tup (s _ _ h) i) (λh e _ i=>.Ai (s _ _ h) e i) (λh h2 e _ i=>.obj (s _ _ h) (s _ _ h2) e i) .con (λh=>.R7 (s _ _ h)) (λh h2 e _ i=>.exc (s _ _ h) (s _ _ h2) e i) .nil (λ_ _ i k=>.cons i k) r
def z8(F:Hp)(v:V):PV->Prop
 | .AE=>v=.AE
 | .bl b=>v=.bl b
 | .int i=>v=.int i
 | .str x=>v=.str x
 | .lst xs=>∃a vs,v=.ref a/\F a=some (.lst vs)/\Ad F vs xs
 | .tup xs=>∃a vs,v=.ref a/\F a=some (.tup vs)/\Ad F vs xs
 | .Ai ks xs=>∃a vs,v=.ref a/\F a=some (.dK (ks.zip vs))/\ks.length=vs.length/\Ad F vs xs
 | .obj C ns xs=>∃a dx vs,v=.ref a/\F a=some (.ins C dx (ns.zip vs))/\F dx=some (.own a)/\ns.length=vs.length/\Ad F vs xs
 | .con a _=>v=.ref a
 | .exc C ns xs=>(∃a,v=.ref a/\F a=some (Pq a C none)/\ns=[]/\xs=[])∨∃a dx vs,v=.ref a/\F a=some (Pq a C (some dx))/\F dx=some (.xd (ns.zip vs))/\ns.length=vs.length/\Ad F vs xs
theorem Rep.inv(r:Rep F v p):z8 F v p:=by
 cases r with
 |lst h r=>exact⟨_,_,rfl,h,r⟩
 |tup h r=>exact⟨_,_,rfl,h,r⟩
 |Ai h l r=>exact⟨_,_,rfl,h,l,r⟩
 |obj h h2 l r=>exact⟨_,_,_,rfl,h,h2,l,r⟩
 |R7 h=>exact .inl ⟨_,rfl,h,rfl,rfl⟩
 |exc h h2 l r=>exact .inr ⟨_,_,_,rfl,h,h2,l,r⟩
 |_=>exact rfl
theorem Ad.inv(r:Ad F vs (p::ps)):∃v ws,vs=v::ws/\Rep F v p/\Ad F ws ps:=by
 cases r with
 |cons r t=>exact⟨_,_,rfl,r,t⟩
theorem Ad.D8(r:Ad F vs []):vs=[]:=by
 cases r;rfl
theorem Ad.mono(s:A8 F F')(r:Ad F vs ps):Ad F' vs ps:=by
 induction ps generalizing vs with
 |nil=>cases r.D8;exact .nil
 |cons p ps c=>obtain⟨v,ws,rfl,a,b⟩:=r.inv;exact .cons (a.mono s) (c b)
theorem Ad.length{F:Hp}{vs:List V}{ps:List PV}(r:Ad F vs ps):vs.length=ps.length:=by
 induction ps generalizing vs with
 |nil=>cases r.D8;rfl
 |cons p ps c=>obtain⟨v,ws,rfl,a,b⟩:=r.inv;exact sA (· + 1) (c b)
theorem Ad.get{F:Hp}{vs:List V}{ps:List PV}{i:Nat}{p:PV}(r:Ad F vs ps)(e:ps[i]?=some p):∃v,vs[i]?=some v/\Rep F v p:=by
 induction ps generalizing vs i with
 |nil=>cases e
 |cons q ps c=>
  obtain⟨v,ws,rfl,a,b⟩:=r.inv;cases i with
  |zero=>cases e;exact⟨_,rfl,a⟩
  |succ i=>exact c (vs:=ws) (i:=i) b e
theorem Ad.get'(r:Ad F vs ps)(e:vs[i]?=some v):∃p,ps[i]?=some p/\Rep F v p:=by
 induction ps generalizing vs i with
 |nil=>cases r.D8;cases e
 |cons q ps c=>
  obtain⟨u,ws,rfl,a,b⟩:=r.inv;cases i with
  |zero=>cases e;exact⟨_,rfl,a⟩
  |succ i=>exact c (vs:=ws) (i:=i) b e
theorem Ad.append{ws:List V}{c:List PV}(r:Ad F vs ps)(s:Ad F ws c):Ad F (vs++ws) (ps++c):=by
 induction ps generalizing vs with
 |nil=>cases r.D8;exact s
 |cons p ps d=>obtain⟨v,us,rfl,a,b⟩:=r.inv;exact .cons a (d b)
theorem Ad.one(r:Rep F v p):Ad F [v] [p]:=.cons r .nil
noncomputable def flat:PV->Bool
 | .lst _=>false
 | .tup _=>false
 | .Ai _ _=>false
 | .obj _ _ _=>false
 | .exc _ _ _=>false
 | .con _ _=>false
 |_=>true
noncomputable def enc:PV->V
 | .bl b=>.bl b
 | .int i=>.int i
 | .str x=>.str x
 |_=>.AE
theorem Rep.enc(h:flat p=true)(r:Rep F v p):v=enc p:=by
 cases r <;> first|rfl|cases h
theorem kX(h:flat p=true):Rep F (enc p) p:=by
 cases p with
 |AE=>exact .AE
 |bl b=>exact .bl b
 |int i=>exact .int i
 |str x=>exact .str x
 |lst xs=>cases h
 |tup xs=>cases h
 |Ai ks xs=>cases h
 |obj C ns xs=>cases h
 |exc C ns xs=>cases h
 |con a xs=>cases h
theorem Ad.enc(h:ps.all flat=true)(r:Ad F vs ps):vs=ps.map enc:=by
 induction ps generalizing vs with
 |nil=>exact r.D8
 |cons p ps c=>
  obtain⟨v,us,rfl,a,b⟩:=r.inv;rw[So,Ez]at h;rw[Bv,<- Rep.enc h.1 a,<- c h.2 b]
theorem iQ(h:ps.all flat=true):Ad F (ps.map enc) ps:=by
 induction ps with
 |nil=>exact .nil
 |cons p r a=>
  rw[So,Ez]at h;exact .cons (kX h.1) (a h.2)
theorem Qc(h:flat p=true):Ec (Fz.enc p)=true:=by cases p <;> first|rfl|cases h
theorem iE(ns:List Str):(ns.map PV.str).all flat=true:=by
 rw[J9];intro x hx;obtain⟨y,_,rfl⟩:=List.mem_map.mp hx;rfl
theorem sL(ns:List Bool):(ns.map PV.bl).all flat=true:=by
 rw[J9];intro x hx;obtain⟨y,_,rfl⟩:=List.mem_map.mp hx;rfl
theorem UM(ns:List Str):(ns.map PV.str).map Fz.enc=ns.map V.str:=by rw[Gp];rfl
theorem yl(ns:List Bool):(ns.map PV.bl).map Fz.enc=ns.map V.bl:=by rw[Gp];rfl
theorem Ad.strs{ns:List Str}(r:Ad F vs (ns.map PV.str)):vs=ns.map V.str:=(r.enc (iE ns)).trans (UM ns)
theorem MF(ns:List Str):Ad F (ns.map V.str) (ns.map PV.str):=by rw[<- UM];exact iQ (iE ns)
theorem Ad.bls{ns:List Bool}(r:Ad F vs (ns.map PV.bl)):vs=ns.map V.bl:=(r.enc (sL ns)).trans (yl ns)
inductive NK where
 |lst|Ai (ks:List Key)|obj (C dx:Addr) (ns:List Str)
noncomputable def NK.ho:NK->List V->HO
 | .lst,vs=>.lst vs
 | .Ai ks,vs=>.dK (ks.zip vs)
 | .obj C dx ns,vs=>.ins C dx (ns.zip vs)
noncomputable def NK.more:NK->List Addr
 | .obj _ dx _=>[dx]
 |_=>[]
def NK.side(k:NK)(a:Addr)(H:Hp):Prop:=match k with
 | .obj _ dx _=>H dx=some (.own a)
 |_=>True
def NK.fit(k:NK)(n:Nat):Prop:=match k with
 | .Ai ks=>ks.length=n
 | .obj _ _ ns=>ns.length=n
 |_=>True
inductive OV where
 |fz (p:PV)
 |tp (xs:List OV)
 |nd (k:NK) (a:Addr) (xs:List OV)
variable{ts:List OV}
mutual
def OV.addrs:OV->List Addr
 | .fz _=>[]
 | .tp xs=>OV.Al xs
 | .nd k a xs=>a::(k.more++OV.Al xs)
def OV.Al:List OV->List Addr
 | []=>[]
 |x::r=>x.addrs++OV.Al r
end
mutual
def OV.pv:OV->PV
 | .fz p=>p
 | .tp xs=>.tup (OV.Bg xs)
 | .nd .lst _ xs=>.lst (OV.Bg xs)
 | .nd (.Ai ks) _ xs=>.Ai ks (OV.Bg xs)
 | .nd (.obj C _ ns) _ xs=>.obj C ns (OV.Bg xs)
def OV.Bg:List OV->List PV
 | []=>[]
 |x::r=>x.pv::OV.Bg r
end
mutual
inductive B9 (F H:Hp):V->OV->Prop where
 |fz {v:V}{p:PV}:Rep F v p->B9 F H v (.fz p)
 |tp {a:Addr}{vs:List V}{xs:List OV}:F a=some (.tup vs)->BD F H vs xs->B9 F H (.ref a) (.tp xs)
 |nd {k:NK}{a:Addr}{vs:List V}{xs:List OV}:H a=some (k.ho vs)->k.side a H->k.fit vs.length->BD F H vs xs->B9 F H (.ref a) (.nd k a xs)
inductive BD (F H:Hp):List V->List OV->Prop where
 |nil:BD F H [] []
 |cons {v:V}{t:OV}{vs:List V}{ts:List OV}:B9 F H v t->BD F H vs ts->BD F H (v::vs) (t::ts)
end
def qH(F H:Hp)(v:V):OV->Prop
 | .fz p=>Rep F v p
 | .tp xs=>∃a vs,v=.ref a/\F a=some (.tup vs)/\BD F H vs xs
 | .nd k a xs=>∃vs,v=.ref a/\H a=some (k.ho vs)/\k.side a H/\k.fit vs.length/\BD F H vs xs
theorem B9.inv{t:OV}(r:B9 F H v t):qH F H v t:=by
 cases r with
 |fz r=>exact r
 |tp h r=>exact⟨_,_,rfl,h,r⟩
 |nd h a b r=>exact⟨_,rfl,h,a,b,r⟩
theorem BD.inv{t:OV}(r:BD F H vs (t::ts)):∃v ws,vs=v::ws/\B9 F H v t/\BD F H ws ts:=by
 cases r with
 |cons r t=>exact⟨_,_,rfl,r,t⟩
theorem BD.D8(r:BD F H vs []):vs=[]:=by
 cases r;rfl
theorem OV.Cj{k:NK}{xs:List OV}:(OV.nd k a xs).addrs=a::(k.more++OV.Al xs):=by rw[OV.addrs]
theorem OV.FO{xs:List OV}:(OV.tp xs).addrs=OV.Al xs:=by rw[OV.addrs]
theorem OV.GW:(OV.fz p).addrs=[]:=by rw[OV.addrs]
theorem OV.CC{x:OV}{r:List OV}:OV.Al (x::r)=x.addrs++OV.Al r:=by rw[OV.Al]
theorem OV.Gi:OV.Al []=[]:=by rw[OV.Al]
theorem NK.iB{k:NK}(h:k.side a H)(s:∀b∈k.more,∀o,H b=some o->H' b=some o):k.side a H':=by
 cases k with
 |obj C dx ns=>exact s dx (by simp[NK.more]) _ h
 |_=>trivial
theorem B9.mono(f:A8 F F'){t:OV}(r:B9 F H v t):(∀a∈t.addrs,∀o,H a=some o->H' a=some o)->B9 F' H' v t:=
 B9.rec (motive_1:=λv t _=>(∀a∈t.addrs,∀o,H a=some o->H' a=some o)->B9 F' H' v t) (motive_2:=λvs ts _=>(∀a∈OV.Al ts,∀o,H a=some o->H' a=some o)->BD F' H' vs ts)
  (λr _=>.fz (r.mono f))
  (λh _ i s=>.tp (f _ _ h) (i (by rw[OV.FO]at s;exact s)))
  (λh d g _ i s=>by
   rw[OV.Cj]at s;exact .nd (s _ Cz _ h) (NK.iB d λb e=>s b (DK _ (Hz _ e))) g (i λa c=>s a (DK _ (Eg _ c))))
  (λ_=>.nil)
  (λ_ _ i k s=>by
   rw[OV.CC]at s;exact .cons (i λa c=>s a (Hz _ c)) (k λa c=>s a (Eg _ c)))
  r
theorem BD.mono(f:A8 F F')(r:BD F H vs ts)(s:∀a∈OV.Al ts,∀o,H a=some o->H' a=some o):BD F' H' vs ts:=by
 induction ts generalizing vs with
 |nil=>cases r.D8;exact .nil
 |cons p ps d=>
  obtain⟨v,ws,rfl,a,b⟩:=r.inv;rw[OV.CC]at s;exact .cons (a.mono f λa c=>s a (Hz _ c)) (d b λa c=>s a (Eg _ c))
theorem B9.there{t:OV}(r:B9 F H v t):∀a∈t.addrs,H a≠none:=
 B9.rec (motive_1:=λv t _=>∀a∈t.addrs,H a≠none) (motive_2:=λvs ts _=>∀a∈OV.Al ts,H a≠none)
  (λ_ a c=>by rw[OV.GW]at c;cases c)
  (λ_ _ i a c=>i a (by rw[OV.FO]at c;exact c))
  (λ{k b vs xs}h d f _ i a c=>by
   rw[OV.Cj,Gq,Hy]at c;rcases c with rfl|c|c
   .rw[h];exact λz=>by cases z
   .cases k with
    |obj C dx ns=>
     have e:a=dx:=List.mem_singleton.mp c;rw[e,show H dx=some (.own b)from d];exact λz=>by cases z
    |_=>cases c
   .exact i a c)
  (λa c=>by rw[OV.Gi]at c;cases c)
  (λ_ _ i k a c=>by
   rw[OV.CC,Hy]at c;exact c.elim (i a) (k a))
  r
theorem BD.there(r:BD F H vs ts):∀a∈OV.Al ts,H a≠none:=by
 induction ts generalizing vs with
 |nil=>intro a c;rw[OV.Gi]at c;cases c
 |cons p ps d=>
  obtain⟨v,ws,rfl,x,b⟩:=r.inv;intro a c;rw[OV.CC,Hy]at c;exact c.elim (x.there a) (d b a)
theorem BD.length{F H:Hp}{vs:List V}{ts:List OV}(r:BD F H vs ts):vs.length=ts.length:=by
 induction ts generalizing vs with
 |nil=>cases r.D8;rfl
 |cons p ps c=>obtain⟨v,ws,rfl,a,b⟩:=r.inv;exact sA (· + 1) (c b)
inductive Slot where
 |any|is (p:PV)|own (xs:List PV)|AQ|sq (tp:Bool) (xs:List PV)|raw (P:Hp->V->Prop)|ow (lt:Bool) (t:OV)
variable{ss:List Slot}{s:Slot}{R0 nx:List Slot->Prop}
structure Ent0 where
 A:List Addr
 F0:Hp
 H0:Hp
 B:List Addr
variable{E:Ent0}
abbrev E3(A:List Addr)(F H:Hp):Ent0:=⟨A,F,H,[]⟩
def Ok(E:Ent0)(F H:Hp):Slot->Option (Option V)->Prop
 | .any,_=>True
 | .is p,o=>∃v,o=some (some v)/\Rep F v p
 | .own xs,o=>∃l vs,o=some (some (.ref l))/\F l=none/\E.H0 l=none/\H l=some (.lst vs)/\Ad F vs xs
 | .AQ,o=>∃l,o=some (some (.ref l))/\F l=none/\(E.H0 l=none∨l∈E.A)/\Bi H l
 | .sq true xs,o=>∃v,o=some (some v)/\Rep F v (.tup xs)
 | .sq false xs,o=>∃l vs,o=some (some (.ref l))/\(l∉E.A/\l∉E.B)/\E.H0 l=some (.lst vs)/\Ad F vs xs
 | .raw P,o=>∃v,o=some (some v)/\P F v/\∀F F',A8 F F'->P F v->P F' v
 | .ow lt t,o=>∃v,o=some (some v)/\B9 F H v t/\t.addrs.Nodup/\∀a∈t.addrs,F a=none/\(E.H0 a=none∨(lt=true/\a∈E.B))
def BI:Slot->Option (Option V)->Addr->Prop
 | .own _,o,l=>o=some (some (.ref l))
 | .AQ,o,l=>o=some (some (.ref l))
 | .ow _ t,_,l=>l∈t.addrs
 |_,_,_=>False
structure Fin (E:Ent0) (F H:Hp):Prop where
 fh:A8 F H
 f0:A8 E.F0 F
 keep:∀a o,(a∉E.A/\a∉E.B)->E.H0 a=some o->H a=some o
 fresh:∀a o,F a=some o->E.F0 a=some o∨E.H0 a=none
 GG:∀a,a∈E.A->Bi H a
 K3:∀a,a∈E.A->F a=none
 a0:∀a,a∈E.A->E.H0 a≠none
 bF:∀a,a∈E.B->F a=none
 bH:∀a,a∈E.B->H a≠none
 b0:∀a,a∈E.B->E.H0 a≠none/\a∉E.A
structure Sg (E:Ent0) (ss:List Slot) (Z:L2.St) (F H:Hp):Prop extends Fin E F H where
 len:ss.length=Z.length
 ok:∀(i:Nat)s,ss[i]?=some s->Ok E F H s Z[i]?
 By:∀(i j:Nat)s u l,i≠j->ss[i]?=some s->ss[j]?=some u->BI s Z[i]? l->¬ BI u Z[j]? l
structure Ex where
 C:Addr
 ns:List Str
 xs:List PV
def Ex.at(x:Ex)(F:Hp)(C:Value)(dx:Option Addr):Prop:=
 C=.ref x.C/\((x.ns=[]/\x.xs=[]/\dx=none)∨∃a vs,dx=some a/\F a=some (.xd (x.ns.zip vs))/\x.ns.length=vs.length/\Ad F vs x.xs)
class Xw where
 e:L2.St->XK
 J:List Slot->Prop
 D:Ex->Prop
structure Ent [Xw] extends Ent0 where
 hx:∀(ss:List Slot)(Z:L2.St)(F H:Hp)(x:Ex)(C:Value)(dx:Option Addr),Xw.J ss->Sg toEnt0 ss Z F H->Xw.D x->x.at F C dx->Xw.e Z C dx H
instance [Xw]:CoeOut Ent Ent0:=⟨Ent.toEnt0⟩
instance jC:Xw:=⟨λ_=>E0,λ_=>True,λ_=>False⟩
def CQ(ss:List Slot)(Z:L2.St)(a:Addr):Prop:=∀i:Nat,ss[i]?=some .AQ->Z[i]?≠some (some (.ref a))
structure Mv (E:Ent0) (ss:List Slot) (Z:L2.St) (F H F' H':Hp):Prop where
 st:Sg E ss Z F' H'
 ff:A8 F F'
 hh:∀a o,CQ ss Z a->H a=some o->H' a=some o
 nn:∀a o,F' a=some o->F a=some o∨H a=none
theorem Sg.Le(S:Sg E ss Z F H)(h:H l=none):CQ ss Z l:=λi hi e=>by
 obtain⟨c,b,_,_,_,_,a,_⟩:=S.ok i _ hi;rw[e]at b;cases b;rw[h]at a;cases a
theorem Mv.none(m:Mv E ss Z F H F' H')(h:H' a=none):H a=none:=by
 cases e:H a with
 |none=>rfl
 |some o=>rw[m.hh a o (m.st.Le h) e]at h;cases h
theorem Mv.refl{E:Ent0}{ss:List Slot}{Z:L2.St}{F H:Hp}(S:Sg E ss Z F H):Mv E ss Z F H F H:=⟨S,A8.refl _,λ_ _ _ e=>e,λ_ _ e=>.inl e⟩
theorem Mv.trans{F1 H1 F2 H2:Hp}(a:Mv E ss Z F H F1 H1)(b:Mv E ss Z F1 H1 F2 H2):Mv E ss Z F H F2 H2:=
 ⟨b.st,a.ff.trans b.ff,λc o n e=>b.hh c o n (a.hh c o n e),λc o e=>(b.nn c o e).elim (λe=>a.nn c o e) λe=>.inr (a.none e)⟩
theorem Sg.Ew(S:Sg E ss Z F H){p:Addr}(h:H p=none):E.H0 p=none:=by
 cases e:E.H0 p with
 |none=>rfl
 |some o=>
  by_cases q:p∈E.A
  .obtain⟨_,_,b,_⟩:=S.GG p q;rw[h]at b;cases b
  .by_cases a:p∈E.B
   .exact absurd h (S.bH p a)
   .rw[S.keep p o ⟨q,a⟩ e]at h;cases h
theorem Sg.Bj(S:Sg E ss Z F H){p:Addr}(h:H p=none):F p=none:=A8.none S.fh h
theorem Bi.keep(h:Bi H l)(k:∀o,H l=some o->H' l=some o):Bi H' l:=by
 obtain⟨a,b,e,r⟩:=h;exact⟨a,b,k _ e,r⟩
theorem Sg.ck(S:Sg E ss Z F H)(h:F l=some o):CQ ss Z l:=λi hi e=>by
 obtain⟨c,b,a,_⟩:=S.ok i _ hi;rw[e]at b;cases b;rw[h]at a;cases a
theorem Sg.gC(S:Sg E ss Z F H)(b:l∉E.A)(h:E.H0 l=some o):CQ ss Z l:=λi hi e=>by
 obtain⟨c,a,_,q,_⟩:=S.ok i _ hi;rw[e]at a;cases a;rcases q with q|q
 .rw[h]at q;cases q
 .exact b q
theorem Sg.nH(S:Sg E ss Z F H)(h:l∈E.B):CQ ss Z l:=λi hi e=>by
 obtain⟨d,a,_,q,_⟩:=S.ok i _ hi;rw[e]at a;cases a;obtain⟨c,b⟩:=S.b0 l h;rcases q with q|q
 .exact c q
 .exact b q
theorem Sg.Dt(S:Sg E ss Z F H)(h:ss[i]?=some s)(m:BI s Z[i]? l):H l≠none:=by
 have k:=S.ok i s h;cases s with
 |own xs=>obtain⟨c,vs,a,_,_,b,_⟩:=k;rw[show Z[i]?=some (some (.ref l))from m]at a;cases a;rw[b];simp
 |AQ=>obtain⟨c,a,_,_,_,_,b,_⟩:=k;rw[show Z[i]?=some (some (.ref l))from m]at a;cases a;rw[b];simp
 |ow lt t=>obtain⟨v,_,r,_⟩:=k;exact r.there l m
 |_=>cases m
theorem Sg.qh(S:Sg E ss Z F H)(h:ss[i]?=some s)(m:BI s Z[i]? l):F l=none:=by
 have k:=S.ok i s h;cases s with
 |own xs=>obtain⟨c,vs,a,b,_⟩:=k;rw[show Z[i]?=some (some (.ref l))from m]at a;cases a;exact b
 |AQ=>obtain⟨c,a,b,_⟩:=k;rw[show Z[i]?=some (some (.ref l))from m]at a;cases a;exact b
 |ow lt t=>obtain⟨v,_,r,_,q⟩:=k;exact(q l m).1
 |_=>cases m
theorem Sg.NC(S:Sg E ss Z F H)(h:ss[i]?=some s)(a:H l=none):¬ BI s Z[i]? l:=λm=>S.Dt h m a
theorem Sg.MI(S:Sg E ss Z F H)(h:ss[i]?=some s)(m:BI s Z[i]? l)(np:s≠.AQ):CQ ss Z l:=λj a b=>
 S.By i j s _ l (by rintro rfl;rw[h]at a;exact np (BL a)) h a m b
theorem Ok.go(S:Sg E ss Z F H){i:Nat}{s:Slot}(hi:ss[i]?=some s)(ff:A8 F F')(f:∀a o,BI s Z[i]? a->H a=some o->H' a=some o)(Bj:∀a,H a≠none->F a=none->F' a=none)(np:s≠.AQ):Ok E F' H' s Z[i]?:=by
 have k:=S.ok i s hi;cases s with
 |any=>trivial
 |is p=>obtain⟨v,e,r⟩:=k;exact⟨v,e,r.mono ff⟩
 |own xs=>
  obtain⟨l,vs,e,d,c,g,r⟩:=k;exact⟨l,vs,e,Bj l (by rw[g];simp) d,c,f l _ e g,r.mono ff⟩
 |AQ=>exact absurd rfl np
 |sq tp xs=>
  cases tp with
  |true=>obtain⟨v,e,r⟩:=k;exact⟨v,e,r.mono ff⟩
  |false=>obtain⟨l,vs,e,d,c,r⟩:=k;exact⟨l,vs,e,d,c,r.mono ff⟩
 |raw P=>obtain⟨v,e,r,st⟩:=k;exact⟨v,e,st _ _ ff r,st⟩
 |ow lt t=>
  obtain⟨v,e,r,nd,q⟩:=k;exact⟨v,e,r.mono ff λa b o=>f a o b,nd,λa b=>⟨Bj a (r.there a b) (q a b).1,(q a b).2⟩⟩
theorem Sg.step(S:Sg E ss Z F H)(ff:A8 F F')(fh:A8 F' H')(c:∀a o,CQ ss Z a->H a=some o->H' a=some o)(hn:∀a o,F' a=some o->F a=some o∨H a=none)
  (g:∀(i:Nat)l,ss[i]?=some .AQ->Z[i]?=some (some (.ref l))->Bi H' l):Mv E ss Z F H F' H':=by
 have Bj:∀a,H a≠none->F a=none->F' a=none:=λa h1 h2=>by
  cases e:F' a with
  |none=>rfl
  |some o=>
   rcases hn a o e with q|q
   .rw[h2]at q;cases q
   .exact absurd q h1
 have h:∀a,Bi H a->CQ ss Z a->Bi H' a:=λa p n=>Bi.keep p λo e=>c a o n e;refine⟨⟨⟨fh,S.f0.trans ff,λa o b e=>?_,λa o e=>?_,λa b=>?_,λa b=>?_,S.a0,λa d=>Bj a (S.bH a d) (S.bF a d),λa d=>?_,S.b0⟩,S.len,λi s hi=>?_,S.By⟩,ff,c,hn⟩
 .exact c a o (S.gC b.1 e) (S.keep a o b e)
 .rcases hn a o e with q|q
  .exact S.fresh a o q
  .exact .inr (S.Ew q)
 .by_cases q:∃i:Nat,ss[i]?=some .AQ/\Z[i]?=some (some (.ref a))
  .obtain⟨i,k,j⟩:=q;exact g i a k j
  .exact h a (S.GG a b) λi h1 h2=>q ⟨i,h1,h2⟩
 .refine Bj a ?_ (S.K3 a b);obtain⟨_,_,f,_⟩:=S.GG a b;rw[f];simp
 .obtain⟨o,e⟩:=Option.ne_none_iff_exists'.mp (S.bH a d);rw[c a o (S.nH d) e];simp
 .by_cases np:s=.AQ
  .subst np;obtain⟨l,e,f,u,t⟩:=S.ok i _ hi;have v:=t;obtain⟨_,_,r,_⟩:=v;exact⟨l,e,Bj l (by rw[r];simp) f,u,g i l hi e⟩
  .exact Ok.go S hi ff (λa o m=>c a o (S.MI hi m np)) Bj np
theorem Sg.EL(S:Sg E ss Z F H)(hi:ss[i]?=some .AQ)(e:Z[i]?=some (some (.ref l))):Bi H l:=by
 obtain⟨b,a,_,_,p⟩:=S.ok i _ hi;rw[e]at a;cases a;exact p
theorem Sg.alloc(S:Sg E ss Z F H){p:Addr}(h:H p=none)(o:HO):Mv E ss Z F H (upd F p o) (upd H p o):=by
 refine S.step (Ah (S.Bj h) _) (λa u e=>?_) (λa u _ e=>Ah h o a u e) (λa u e=>?_) λi l hi e=>Bi.keep (S.EL hi e) λu e=>Ah h o l u e
 .by_cases q:a=p
  .subst q;rw[AH]at e ⊢;exact e
  .rw[Af q]at e ⊢;exact S.fh a u e
 .by_cases q:a=p
  .subst q;exact .inr h
  .rw[Af q]at e;exact .inl e
theorem Sg.make(S:Sg E ss Z F H){p:Addr}(h:H p=none)(o:HO):Mv E ss Z F H F (upd H p o):=
 S.step (A8.refl _) (S.fh.trans (Ah h o)) (λa u _ e=>Ah h o a u e) (λa u e=>.inl e) λi l hi e=>Bi.keep (S.EL hi e) λu e=>Ah h o l u e
theorem Sg.grow(S:Sg E ss Z F H)(s:A8 H H'):Mv E ss Z F H F H':=
 S.step (A8.refl _) (S.fh.trans s) (λa u _ e=>s a u e) (λa u e=>.inl e) λi l hi e=>Bi.keep (S.EL hi e) λu e=>s l u e
theorem Sg.setG(S:Sg E ss Z F H)(AN:Ok E F H s (some (some v)))(f:∀l,BI s (some (some v)) l->∀(i:Nat)u,i≠j->ss[i]?=some u->¬ BI u Z[i]? l):Sg E (ss.set j s) (Z.set j (some v)) F H:=by
 refine⟨S.toFin,by rw[LM,LM];exact S.len,λi u hi=>?_,λi k u w l Ql hi b d c=>?_⟩
 .by_cases q:i=j
  .subst q;have a:i<ss.length:=by have:=(List.getElem?_eq_some_iff.mp hi).1;simpa using this
   rw[Cq a]at hi;cases hi;rw[Cq (by rw[<- S.len];exact a)];exact AN
  .rw[Cb (BP q)]at hi ⊢;exact S.ok i u hi
 .by_cases q:i=j
  .subst q;have a:i<ss.length:=by have:=(List.getElem?_eq_some_iff.mp hi).1;simpa using this
   rw[Cq a]at hi;rw[Cq (by rw[<- S.len];exact a)]at d;cases hi;rw[Cb Ql]at b c;exact f l d k w (BP Ql) b c
  .rw[Cb (BP q)]at hi d
   by_cases e:k=j
   .subst e;have a:k<ss.length:=by have:=(List.getElem?_eq_some_iff.mp b).1;simpa using this
    rw[Cq a]at b;cases b;rw[Cq (by rw[<- S.len];exact a)]at c;exact f l c i u Ql hi d
   .rw[Cb (BP e)]at b c;exact S.By i k u w l Ql hi b d c
theorem Sg.Er(S:Sg E ss Z F H)(r:Rep F v p):Sg E (ss.set j (.is p)) (Z.set j (some v)) F H:=S.setG ⟨v,rfl,r⟩ λ_ h=>by cases h
def Sv(ss:List Slot)(Z:L2.St)(F H:Hp)(v:V):Bool->List PV->Prop
 |true,xs=>Rep F v (.tup xs)
 |false,xs=>∃l vs,v=.ref l/\CQ ss Z l/\H l=some (.lst vs)/\Ad F vs xs
def Fv(E:Ent0)(F:Hp)(v:V):Bool->List PV->Prop
 |true,xs=>Rep F v (.tup xs)
 |false,xs=>∃l vs,v=.ref l/\(F l=some (.lst vs)∨((l∉E.A/\l∉E.B)/\E.H0 l=some (.lst vs)))/\Ad F vs xs
structure Wp [Xw] (ss:List Slot) (t:TE) (k:PV->Prop):Prop where
 go:∀(E:Ent)(Z:L2.St)(F H:Hp)(Q:VK),Sg E ss Z F H->(∀v p F' H',Mv E ss Z F H F' H'->Rep F' v p->k p->Q v H')->t Z H Q
structure Wn [Xw] (ss:List Slot) (t:TE) (k:List PV->Prop):Prop where
 go:∀(E:Ent)(Z:L2.St)(F H:Hp)(Q:VK),Sg E ss Z F H->(∀l vs xs F' H',Mv E ss Z F H F' H'->F' l=none->H l=none->H' l=some (.lst vs)->Ad F' vs xs->k xs->Q (.ref l) H')->t Z H Q
structure Wq [Xw] (ss:List Slot) (t:TE) (k:Bool->List PV->Prop):Prop where
 go:∀(E:Ent)(Z:L2.St)(F H:Hp)(Q:VK),Sg E ss Z F H->(∀v tp xs F' H',Mv E ss Z F H F' H'->Sv ss Z F' H' v tp xs->k tp xs->Q v H')->t Z H Q
structure Wz [Xw] (ss:List Slot) (t:TE) (k:Bool->List PV->Prop):Prop where
 go:∀(E:Ent)(Z:L2.St)(F H:Hp)(Q:VK),Sg E ss Z F H->(∀v tp xs F' H',Mv E ss Z F H F' H'->Fv E F' v tp xs->k tp xs->Q v H')->t Z H Q
structure Wt [Xw] (ss:List Slot) (t:TT) (k:Bool->Prop):Prop where
 go:∀(E:Ent)(Z:L2.St)(F H:Hp)(Q:Bool->Hp->Prop),Sg E ss Z F H->(∀b F' H',Mv E ss Z F H F' H'->k b->Q b H')->t Z H Q
def Av(ss:List Slot)(Z:L2.St)(F H:Hp)(v:V):Slot->Prop
 | .is p=>Rep F v p
 | .sq tp xs=>Sv ss Z F H v tp xs
 | .raw P=>P F v/\∀F F',A8 F F'->P F v->P F' v
 |_=>False
inductive Hf (ss:List Slot) (Z:L2.St) (F H:Hp):List V->List Slot->Prop where
 |nil:Hf ss Z F H [] []
 |cons {v:V}{s:Slot}{vs:List V}{l:List Slot}:Av ss Z F H v s->Hf ss Z F H vs l->Hf ss Z F H (v::vs) (s::l)
structure Wa [Xw] (ss:List Slot) (t:TA) (k:List Slot->Prop):Prop where
 go:∀(E:Ent)(Z:L2.St)(F H:Hp)(Q:List V->Hp->Prop),Sg E ss Z F H->(∀vs l F' H',Mv E ss Z F H F' H'->Hf ss Z F' H' vs l->k l->Q vs H')->t Z H Q
inductive Ar where
 |is (k:PV->Prop)|new (k:List PV->Prop)|AQ|ow (k:OV->Prop)|mt (k:PV->OV->Prop)|mZ (k:PV->OV->OV->Prop)
noncomputable def OV.val:OV->V
 | .nd _ a _=>.ref a
 |_=>.AE
def Ar.ok(R:Ar)(E:Ent0)(F' H':Hp)(v:V):Prop:=match R with
 | .is k=>∃p,Rep F' v p/\k p
 | .new k=>∃l vs xs,v=.ref l/\F' l=none/\E.H0 l=none/\H' l=some (.lst vs)/\Ad F' vs xs/\k xs
 | .AQ=>∃l,v=.ref l/\F' l=none/\E.H0 l=none/\Bi H' l
 | .ow k=>∃t,B9 F' H' v t/\t.addrs.Nodup/\(∀a∈t.addrs,F' a=none/\E.H0 a=none)/\k t
 | .mt k=>∃p t,Rep F' v p/\B9 F' H' t.val t/\t.addrs.Nodup/\(∀a∈t.addrs,F' a=none/\(E.H0 a=none∨a∈E.B))/\k p t
 | .mZ k=>∃p t u,Rep F' v p/\B9 F' H' t.val t/\B9 F' H' u.val u/\(t.addrs++u.addrs).Nodup/\(∀a∈t.addrs++u.addrs,F' a=none/\(E.H0 a=none∨a∈E.B))/\k p t u
structure Ws [Xw] (ss:List Slot) (t:TS) (nx:List Slot->Prop) (R:Ar):Prop where
 go:∀(E:Ent)(D:Ends)(Z:L2.St)(F H:Hp),Sg E ss Z F H->(∀AI σ' F' H',nx AI->Sg E AI σ' F' H'->A8 F F'->D.nx σ' H')->(∀v F' H',Fin E F' H'->R.ok E F' H' v->D.rt v H')->t D Z H
section
variable[Xw]
variable{K:ZEe}{k:PV->Prop}{R:Ar}
theorem Sv.mv(h:Sv ss Z F H v tp xs)(m:Mv E ss Z F H F' H'):Sv ss Z F' H' v tp xs:=by
 cases tp with
 |true=>exact Rep.mono m.ff h
 |false=>
  obtain⟨l,vs,e,n,r,q⟩:=h;exact⟨l,vs,e,n,m.hh l _ n r,q.mono m.ff⟩
theorem Sv.seq(S:Sg E ss Z F H)(h:Sv ss Z F H v tp xs):∃l vs,v=.ref l/\H l=some (BU tp vs)/\Ad F vs xs:=by
 cases tp with
 |true=>cases h with|tup e r=>exact⟨_,_,rfl,S.fh _ _ e,r⟩
 |false=>obtain⟨l,vs,e,_,r,q⟩:=h;exact⟨l,vs,e,r,q⟩
theorem Fv.sv(S:Sg E ss Z F H)(h:Fv E F v tp xs):Sv ss Z F H v tp xs:=by
 cases tp with
 |true=>exact h
 |false=>
  obtain⟨l,vs,e,h1|⟨a,h1⟩,r⟩:=h
  .exact⟨l,vs,e,S.ck h1,S.fh _ _ h1,r⟩
  .exact⟨l,vs,e,S.gC a.1 h1,S.keep _ _ a h1,r⟩
theorem AS(h:ss[i]?=some (.is p))(b:k p):Wp ss (B1 i) k:=⟨λE Z F H Q S q=>by
 obtain⟨v,a,r⟩:=S.ok i _ h;exact⟨v,a,q v p F H (.refl S) r b⟩⟩
theorem BQ{i:Int}(a:k (.int i)):Wp ss (tC (.int i)) k:=⟨λE Z F H Q S q=>q _ _ F H (.refl S) (.int i) a⟩
theorem FN{x:Str}(a:k (.str x)):Wp ss (tC (.str x)) k:=⟨λE Z F H Q S q=>q _ _ F H (.refl S) (.str x) a⟩
theorem Ce(a:k (.bl b)):Wp ss (tC (.bl b)) k:=⟨λE Z F H Q S q=>q _ _ F H (.refl S) (.bl b) a⟩
theorem nj(a:k .AE):Wp ss (tC .AE) k:=⟨λE Z F H Q S q=>q _ _ F H (.refl S) .AE a⟩
theorem EE(h:Wn ss te (λxs=>k (.lst xs))):Wp ss te k:=⟨λE Z F H Q S q=>h.go E Z F H Q S λl vs xs F' H' m c f DG r kk=>by
 have b:=m.st;have fr:Mv E ss Z F H (upd F' l (.lst vs)) H':=by
  have A:∀a,H' a≠none->a≠l->F' a=none->upd F' l (.lst vs) a=none:=λa _ h1 h2=>by rw[Af h1];exact h2
  refine⟨⟨⟨λa u e=>?_,b.f0.trans (Ah c _),b.keep,λa u e=>?_,b.GG,λa z=>?_,b.a0,λa y=>?_,b.bH,b.b0⟩,b.len,λi s hi=>?_,b.By⟩,m.ff.trans (Ah c _),m.hh,λa u e=>?_⟩
  .by_cases q:a=l
   .subst q;rw[AH]at e;rw[<- e];exact DG
   .rw[Af q]at e;exact b.fh a u e
  .by_cases q:a=l
   .subst q;exact .inr (S.Ew f)
   .rw[Af q]at e;exact b.fresh a u e
  .by_cases q:a=l
   .subst q;obtain⟨_,_,e,_⟩:=S.GG _ z;rw[f]at e;cases e
   .rw[Af q];exact b.K3 a z
  .by_cases q:a=l
   .subst q;exact absurd f (S.bH _ y)
   .rw[Af q];exact b.bF a y
  .have x:∀a,BI s Z[i]? a->a≠l:=by
    rintro a m rfl;exact S.NC hi f m
   have kk:=b.ok i s hi;cases s with
   |any=>trivial
   |is p=>obtain⟨v,e,r⟩:=kk;exact⟨v,e,r.mono (Ah c _)⟩
   |own ys=>
    obtain⟨d,ws,e,j,g,w,r⟩:=kk;exact⟨d,ws,e,by rw[Af (x d e)];exact j,g,w,r.mono (Ah c _)⟩
   |AQ=>
    obtain⟨d,e,j,g,w⟩:=kk;exact⟨d,e,by rw[Af (x d e)];exact j,g,w⟩
   |sq tp ys=>
    cases tp with
    |true=>obtain⟨v,e,r⟩:=kk;exact⟨v,e,r.mono (Ah c _)⟩
    |false=>obtain⟨d,ws,e,j,g,r⟩:=kk;exact⟨d,ws,e,j,g,r.mono (Ah c _)⟩
   |raw P=>obtain⟨v,e,r,st⟩:=kk;exact⟨v,e,st _ _ (Ah c _) r,st⟩
   |ow lt t=>
    obtain⟨v,e,r,nd,q⟩:=kk;exact⟨v,e,r.mono (Ah c _) λa _ o h=>h,nd,λa n=>⟨by rw[Af (x a n)];exact(q a n).1,(q a n).2⟩⟩
  .by_cases q:a=l
   .subst q;exact .inr f
   .rw[Af q]at e;exact m.nn a u e
 exact q _ _ _ _ fr (.lst AH (r.mono (Ah c _))) kk⟩
theorem BS{k:Bool->List PV->Prop}(h:Wp ss te (λp=>∃xs,(p=.lst xs/\k false xs)∨(p=.tup xs/\k true xs))):Wq ss te k:=⟨λE Z F H Q S q=>h.go E Z F H Q S λv p F' H' m r AG=>by
 obtain⟨xs,h⟩:=AG;rcases h with⟨rfl,kk⟩|⟨rfl,kk⟩
 .cases r with|lst h r=>exact q _ false xs F' H' m ⟨_,_,rfl,m.st.ck h,m.st.fh _ _ h,r⟩ kk
 .exact q v true xs F' H' m r kk⟩
theorem Jl{k:Bool->List PV->Prop}(h:ss[i]?=some (.is (.lst xs)))(a:k false xs):Wq ss (B1 i) k:=BS (AS h ⟨xs,.inl ⟨rfl,a⟩⟩)
theorem EC{k:Bool->List PV->Prop}(h:ss[i]?=some (.is (.tup xs)))(a:k true xs):Wq ss (B1 i) k:=BS (AS h ⟨xs,.inr ⟨rfl,a⟩⟩)
theorem j9{k:Bool->List PV->Prop}(h:ss[i]?=some (.own xs))(a:k false xs):Wq ss (B1 i) k:=⟨λE Z F H Q S q=>by
 obtain⟨l,vs,e,d,c,b,r⟩:=S.ok i _ h;exact⟨_,e,q _ false xs F H (.refl S) ⟨l,vs,rfl,S.MI h e (by simp),b,r⟩ a⟩⟩
theorem az{k:Bool->List PV->Prop}(h:ss[i]?=some (.sq tp xs))(a:k tp xs):Wz ss (B1 i) k:=⟨λE Z F H Q S q=>by
 have kk:=S.ok i _ h;cases tp with
 |true=>obtain⟨v,e,r⟩:=kk;exact⟨_,e,q _ true xs F H (.refl S) r a⟩
 |false=>
  obtain⟨l,vs,e,b,c,r⟩:=kk;exact⟨_,e,q _ false xs F H (.refl S) ⟨l,vs,rfl,.inr ⟨b,c⟩,r⟩ a⟩⟩
theorem Il{k:Bool->List PV->Prop}(h:Wp ss te (λp=>∃xs,(p=.lst xs/\k false xs)∨(p=.tup xs/\k true xs))):Wz ss te k:=⟨λE Z F H Q S q=>h.go E Z F H Q S λv p F' H' m r AG=>by
 obtain⟨xs,h⟩:=AG;rcases h with⟨rfl,kk⟩|⟨rfl,kk⟩
 .cases r with|lst h r=>exact q _ false xs F' H' m ⟨_,_,rfl,.inl h,r⟩ kk
 .exact q _ true xs F' H' m r kk⟩
theorem ZCz{k:Bool->List PV->Prop}(h:Wz ss te k):Wq ss te k:=⟨λE Z F H Q S q=>h.go E Z F H Q S λv tp xs F' H' m f kk=>q v tp xs F' H' m (f.sv m.st) kk⟩
theorem qL{k:Bool->List PV->Prop}(h:ss[i]?=some (.sq tp xs))(a:k tp xs):Wq ss (B1 i) k:=ZCz (az h a)
theorem Wk{f:Int->Int->Int}(h:Wp ss ta λx=>∃i,x=.int i/\Wp ss tb λy=>∃j,y=.int j/\k (.int (f i j))):Wp ss (Br (GF λi j=>.int (f i j)) ta tb) k:=⟨λE Z F H Q S q=>
 h.go E Z F H _ S λv p F1 H1 a c AG=>by
  obtain⟨i,g,h2⟩:=AG;subst g;cases c.inv;exact h2.go E Z F1 H1 _ a.st λl p2 F2 H2 d b DJ=>by
   obtain⟨j,e,kk⟩:=DJ;subst e;cases b.inv;exact⟨i,j,rfl,rfl,q _ _ F2 H2 (a.trans d) (.int _) kk⟩⟩
theorem FZ(h:Wp ss ta λx=>∃i,x=.int i/\Wp ss tb λy=>∃j,y=.int j/\k (.bl (f i j))):Wp ss (Br (GF λi j=>.bl (f i j)) ta tb) k:=⟨λE Z F H Q S q=>
 h.go E Z F H _ S λv p F1 H1 a c AG=>by
  obtain⟨i,g,h2⟩:=AG;subst g;cases c.inv;exact h2.go E Z F1 H1 _ a.st λl p2 F2 H2 d b DJ=>by
   obtain⟨j,e,kk⟩:=DJ;subst e;cases b.inv;exact⟨i,j,rfl,rfl,q _ _ F2 H2 (a.trans d) (.bl _) kk⟩⟩
theorem ay{f:Int->Int}(h:Wp ss ta λx=>∃i,x=.int i/\k (.int (f i))):Wp ss (OT (rU λi=>.int (f i)) ta) k:=⟨λE Z F H Q S q=>
 h.go E Z F H _ S λv p F1 H1 b a AG=>by
  obtain⟨i,c,kk⟩:=AG;subst c;cases a.inv;exact⟨i,rfl,q _ _ F1 H1 b (.int _) kk⟩⟩
noncomputable def alike:PV->PV->Bool
 | .int i,.int j=>decide (i=j)
 | .str i,.str j=>decide (i=j)
 | .bl i,.bl j=>decide (i=j)
 | .AE,.AE=>true
 |_,_=>false
def Mh(p q:PV):Bool:=flat p && flat q && Rc (Fz.enc p) (Fz.enc q)
theorem jc{q:PV}(h:Mh p q=true):decide (Fz.enc p=Fz.enc q)=alike p q:=by
 unfold Mh at h;rw[Ez,Ez]at h;obtain⟨⟨h1,h2⟩,a⟩:=h;cases p <;> first|exact Bool.noConfusion h1|skip
 all_goals cases q <;> first|exact Bool.noConfusion h2|exact Bool.noConfusion a|rfl|exact decide_eq_decide.mpr ⟨λe=>by injection e,sA _⟩
theorem y6(h:Wp ss ta λx=>Wp ss tb λy=>Mh x y=true/\k (.bl (alike x y))):Wp ss (Br Zi ta tb) k:=⟨λE Z F H Q S q=>
 h.go E Z F H _ S λv p F1 H1 a c h2=>h2.go E Z F1 H1 _ a.st λf p2 F2 H2 d b AG=>by
  obtain⟨sc,kk⟩:=AG;have e:=sc;unfold Mh at sc;rw[Ez,Ez]at sc;rw[c.enc sc.1.1,b.enc sc.1.2];refine⟨sc.2,?_⟩;rw[jc e];exact q _ _ F2 H2 (a.trans d) (.bl _) kk⟩
theorem uk(h:Wp ss ta λx=>Wp ss tb λy=>Mh x y=true/\k (.bl (!alike x y))):Wp ss (Br ZX ta tb) k:=⟨λE Z F H Q S q=>
 h.go E Z F H _ S λv p F1 H1 a c h2=>h2.go E Z F1 H1 _ a.st λf p2 F2 H2 d b AG=>by
  obtain⟨sc,kk⟩:=AG;have e:=sc;unfold Mh at sc;rw[Ez,Ez]at sc;rw[c.enc sc.1.1,b.enc sc.1.2];refine⟨sc.2,?_⟩;rw[jc e];exact q _ _ F2 H2 (a.trans d) (.bl _) kk⟩
theorem QZ(h:Wp ss ta λx=>∃c,x=.bl c/\if c=true then Wp ss tb k else k (.bl false)):Wp ss (VI ta tb) k:=⟨λE Z F H Q S q=>
 h.go E Z F H _ S λv p F1 H1 a d AG=>by
  obtain⟨c,e,h2⟩:=AG;subst e;cases d.inv;refine⟨c,rfl,?_⟩;cases c with
  |true=>rw[md rfl]at h2 ⊢;exact h2.go E Z F1 H1 _ a.st λg p2 F2 H2 f b kk=>q _ _ F2 H2 (a.trans f) b kk
  |false=>rw[mY (by decide)]at h2 ⊢;exact q _ _ F1 H1 a (.bl _) h2⟩
theorem yW(h:Wp ss ta λx=>∃c,x=.bl c/\if c=true then k (.bl true)else Wp ss tb k):Wp ss (W5 ta tb) k:=⟨λE Z F H Q S q=>
 h.go E Z F H _ S λv p F1 H1 a d AG=>by
  obtain⟨c,e,h2⟩:=AG;subst e;cases d.inv;refine⟨c,rfl,?_⟩;cases c with
  |true=>rw[md rfl]at h2 ⊢;exact q _ _ F1 H1 a (.bl _) h2
  |false=>rw[mY (by decide)]at h2 ⊢;exact h2.go E Z F1 H1 _ a.st λg p2 F2 H2 f b kk=>q _ _ F2 H2 (a.trans f) b kk⟩
theorem j3(h:Wp ss ta λx=>∃c,x=.bl c/\k (.bl (!c))):Wp ss (V0 ta) k:=⟨λE Z F H Q S q=>
 h.go E Z F H _ S λv p F1 H1 b a AG=>by obtain⟨c,e,kk⟩:=AG;subst e;cases a.inv;exact⟨c,rfl,q _ _ F1 H1 b (.bl _) kk⟩⟩
theorem rA{g:Int->Int->Bool}(h:Wp ss ta λx=>∃i,x=.int i/\Wp ss tb λy=>∃j,y=.int j/\if f i j=true then Wp ss tc (λz=>∃l,z=.int l/\k (.bl (g j l)))else k (.bl false)):
  Wp ss (Oj (GF λi j=>.bl (f i j)) (GF λi j=>.bl (g i j)) ta tb tc) k:=⟨λE Z F H Q S q=>
 h.go E Z F H _ S λv p F1 H1 d n AG=>by
  obtain⟨i,t,h2⟩:=AG;subst t;cases n.inv;exact h2.go E Z F1 H1 _ d.st λw p2 F2 H2 b m DJ=>by
   obtain⟨j,s,a⟩:=DJ;subst s;cases m.inv;refine⟨i,j,rfl,rfl,f i j,rfl,?_⟩;cases c:f i j with
   |true=>
    rw[c,md rfl]at a;rw[md rfl];exact a.go E Z F2 H2 _ b.st λu A F3 H3 o e XW=>by
     obtain⟨l,r,kk⟩:=XW;subst r;cases e.inv;exact⟨j,l,rfl,rfl,q _ _ F3 H3 (d.trans (b.trans o)) (.bl _) kk⟩
   |false=>
    rw[c,mY (by decide)]at a;rw[mY (by decide)];exact q _ _ F2 H2 (d.trans b) (.bl _) a⟩
theorem D0{k:Bool->Prop}(h:Wp ss te λx=>∃c,x=.bl c/\k c):Wt ss (Lj te) k:=⟨λE Z F H Q S q=>
 h.go E Z F H _ S λv p F1 H1 b a AG=>by obtain⟨c,e,kk⟩:=AG;subst e;cases a.inv;exact⟨c,rfl,q _ F1 H1 b kk⟩⟩
theorem Dk{k:Bool->Prop}(h:Wp ss te λx=>∃c,x=.bl c/\k c):Wt ss (tB te) k:=⟨λE Z F H Q S q=>
 h.go E Z F H _ S λv p F1 H1 b a AG=>by obtain⟨c,e,kk⟩:=AG;subst e;cases a.inv;exact⟨c,rfl,q _ F1 H1 b kk⟩⟩
theorem fF{k:Bool->Prop}(h:k true):Wt ss M5 k:=⟨λE Z F H Q S q=>q _ F H (.refl S) h⟩
theorem G6{t:TT}{k:Bool->Prop}(h:Wt ss t λc=>k (!c)):Wt ss (R5 t) k:=⟨λE Z F H Q S q=>h.go E Z F H _ S λc F1 H1 a kk=>q _ F1 H1 a kk⟩
theorem ZD1{t u:TT}{k:Bool->Prop}(h:Wt ss t λc=>if c=true then Wt ss u k else k false):Wt ss (Pd t u) k:=⟨λE Z F H Q S q=>
 h.go E Z F H _ S λc F1 H1 a h2=>by
  show if c=true then _ else _
  cases c with
  |true=>rw[md rfl]at h2 ⊢;exact h2.go E Z F1 H1 _ a.st λd F2 H2 b kk=>q _ F2 H2 (a.trans b) kk
  |false=>rw[mY (by decide)]at h2 ⊢;exact q _ F1 H1 a h2⟩
theorem Fe{t u:TT}{k:Bool->Prop}(h:Wt ss t λc=>if c=true then k true else Wt ss u k):Wt ss (Vs t u) k:=⟨λE Z F H Q S q=>
 h.go E Z F H _ S λc F1 H1 a h2=>by
  show if c=true then _ else _
  cases c with
  |true=>rw[md rfl]at h2 ⊢;exact q _ F1 H1 a h2
  |false=>rw[mY (by decide)]at h2 ⊢;exact h2.go E Z F1 H1 _ a.st λd F2 H2 b kk=>q _ F2 H2 (a.trans b) kk⟩
end
structure We [Xw] (ss:List Slot) (t:TA) (k:List PV->Prop):Prop where
 go:∀(E:Ent)(Z:L2.St)(F H:Hp)(Q:List V->Hp->Prop),Sg E ss Z F H->(∀vs ps F' H',Mv E ss Z F H F' H'->Ad F' vs ps->k ps->Q vs H')->t Z H Q
structure Wo [Xw] (ss:List Slot) (t:TO) (k:Option Int->Prop):Prop where
 go:∀(E:Ent)(Z:L2.St)(F H:Hp)(Q:Option Int->Hp->Prop),Sg E ss Z F H->(∀o F' H',Mv E ss Z F H F' H'->k o->Q o H')->t Z H Q
section
variable[Xw]
variable{K:ZEe}{k:PV->Prop}{R:Ar}
theorem HA{k:List PV->Prop}(h:k []):We ss B5 k:=⟨λE Z F H Q S q=>q _ _ F H (.refl S) .nil h⟩
theorem HY{k:List PV->Prop}(h:Wp ss te λp=>We ss t λps=>k (p::ps)):We ss (AU te t) k:=⟨λE Z F H Q S q=>
 h.go E Z F H _ S λv p F1 H1 b d h2=>h2.go E Z F1 H1 _ b.st λvs ps F2 H2 a c kk=>q _ _ F2 H2 (b.trans a) (.cons (d.mono a.ff) c) kk⟩
theorem EA{k:List Slot->Prop}(h:k []):Wa ss B5 k:=⟨λE Z F H Q S q=>q _ _ F H (.refl S) .nil h⟩
theorem CP{k:List Slot->Prop}(h:Wp ss te λp=>Wa ss t λl=>k (.is p::l)):Wa ss (AU te t) k:=⟨λE Z F H Q S q=>
 h.go E Z F H _ S λv p F1 H1 b d h2=>h2.go E Z F1 H1 _ b.st λvs l F2 H2 a c kk=>q _ _ F2 H2 (b.trans a) (.cons (s:=.is p) (d.mono a.ff) c) kk⟩
theorem bP{k:List Slot->Prop}(h:Wq ss te λtp xs=>Wa ss t λl=>k (.sq tp xs::l)):Wa ss (AU te t) k:=⟨λE Z F H Q S q=>
 h.go E Z F H _ S λv tp xs F1 H1 b d h2=>h2.go E Z F1 H1 _ b.st λvs l F2 H2 a c kk=>q _ _ F2 H2 (b.trans a) (.cons (s:=.sq tp xs) (d.mv a) c) kk⟩
theorem rf{k:List Slot->Prop}{P:Hp->V->Prop}(hi:ss[i]?=some (.raw P))(h:Wa ss t λl=>k (.raw P::l)):Wa ss (AU (B1 i) t) k:=⟨λE Z F H Q S q=>by
 obtain⟨v,e,r,st⟩:=S.ok i _ hi;exact⟨v,e,h.go E Z F H _ S λvs l F2 H2 a b kk=>q _ _ F2 H2 a (.cons (s:=.raw P) ⟨st _ _ a.ff r,st⟩ b) kk⟩⟩
theorem iV{k:Option Int->Prop}(h:Wp ss te λp=>∃i,p=.int i/\k (some i)):Wo ss (Oz te) k:=⟨λE Z F H Q S q=>
 h.go E Z F H _ S λv p F1 H1 b a AG=>by obtain⟨i,e,kk⟩:=AG;subst e;cases a.inv;exact⟨i,rfl,q _ F1 H1 b kk⟩⟩
theorem Lb{n:Nat}(h:n<=99999):n<sizeLine:=DT (Nat.lt_succ_of_le h) (small (Ap 100000))
theorem Lz(h:We ss t λps=>ps.length<=100000/\k (.tup ps)):Wp ss (NX t) k:=⟨λE Z F H Q S q=>
 h.go E Z F H _ S λvs ps F1 H1 d b AG=>by obtain⟨hz,kk⟩:=AG;exact⟨small (by rw[b.length];exact hz),λa e=>by
  have c:=d.st.alloc e (.tup vs);exact q _ _ _ _ (d.trans c) (.tup AH (b.mono c.ff)) kk⟩⟩
theorem Qi{k:List PV->Prop}(h:We ss t λps=>ps.length<=100000/\k ps):Wn ss (Sb t) k:=⟨λE Z F H Q S q=>
 h.go E Z F H _ S λvs ps F1 H1 b d AG=>by obtain⟨hz,kk⟩:=AG;exact⟨small (by rw[d.length];exact hz),λa c=>by
  have f:=b.st.make c (.lst vs);refine q a vs ps F1 _ (b.trans f) (b.st.Bj c) ?_ AH d kk;cases e:H a with
  |none=>rfl
  |some o=>rw[b.hh a o (b.st.Le c) e]at c;cases c⟩⟩
theorem Cy(h:Wq ss te λ_ xs=>k (.int xs.length)):Wp ss (DD (Wf K) (AU te B5)) k:=⟨λE Z F H Q S q=>
 h.go E Z F H _ S λv tp xs F1 H1 a sv kk=>by
  obtain⟨l,vs,rfl,b,r⟩:=sv.seq a.st;refine⟨l,vs,rfl,(BU.sq (K:=K) b).or,?_⟩;rw[r.length];exact q _ _ F1 H1 a (.int _) kk⟩
theorem Ad.Bf{i:Int}(r:Ad F vs xs)(h:L2.Bf xs i=some p):∃u,L2.Bf vs i=some u/\Rep F u p:=by
 unfold L2.Bf at h ⊢;rw[r.length];cases e:GU xs.length i with
 |none=>rw[e]at h;cases h
 |some j=>
  rw[e]at h;exact r.get h
theorem gn(h:Wq ss ta λtp xs=>tp=false/\Wp ss tb λy=>∃i p,y=.int i/\L2.Bf xs i=some p/\k p):Wp ss (Br (RW K) ta tb) k:=⟨λE Z F H Q S q=>
 h.go E Z F H _ S λv tp xs F1 H1 b sv⟨m,h2⟩=>h2.go E Z F1 H1 _ b.st λn p2 F2 H2 a d⟨i,p,e,j,kk⟩=>by
  subst e;cases d.inv;subst m;obtain⟨l,vs,rfl,g,r⟩:=(sv.mv a).seq a.st;obtain⟨u,f,c⟩:=r.Bf j;exact⟨l,vs,i,u,rfl,rfl,AJ.of g,f,q _ _ F2 H2 (b.trans a) c kk⟩⟩
theorem Dz(h:Wq ss ta λtp xs=>tp=true/\Wp ss tb λy=>∃i p,y=.int i/\L2.Bf xs i=some p/\k p):Wp ss (Br (Ht K) ta tb) k:=⟨λE Z F H Q S q=>
 h.go E Z F H _ S λv tp xs F1 H1 b sv⟨m,h2⟩=>h2.go E Z F1 H1 _ b.st λn p2 F2 H2 a d⟨i,p,e,j,kk⟩=>by
  subst e;cases d.inv;subst m;obtain⟨l,vs,rfl,g,r⟩:=(sv.mv a).seq a.st;obtain⟨u,f,c⟩:=r.Bf j;exact⟨l,vs,i,u,rfl,rfl,AA.of g,f,q _ _ F2 H2 (b.trans a) c kk⟩⟩
theorem eX(h:Wp ss ta λp=>∃x,p=.str x/\Wq ss tb λ_ ys=>∃ns:List Str,ys=ns.map PV.str/\k (.bl (if neg then !decide (x∈ns)else decide (x∈ns)))):Wp ss (Br (LD K neg) ta tb) k:=⟨λE Z F H Q S q=>
 h.go E Z F H _ S λv p F1 H1 b d AG=>by
  obtain⟨x,e,h2⟩:=AG;subst e;cases d.inv;exact h2.go E Z F1 H1 _ b.st λg tp ys F2 H2 a sv DJ=>by
   obtain⟨ns,f,kk⟩:=DJ;subst f;obtain⟨l,vs,rfl,c,r⟩:=sv.seq a.st;rw[r.strs]at c;refine⟨l,_,rfl,(BU.sq (K:=K) c).or,rfl,Fi ns,?_⟩;rw[Kc];exact q _ _ F2 H2 (b.trans a) (.bl _) kk⟩
theorem KI{k:List PV->Prop}(hr:r=λxs H Q=>∃p ys,xs=[.ref p]/\(AJ K H p ys∨AA K H p ys)/\∀l,H l=none->Q (.ref l) (upd H l (.lst ys)))(h:Wq ss te λ_ xs=>k xs):Wn ss (DD r (AU te B5)) k:=⟨λE Z F H Q S q=>
 h.go E Z F H _ S λv tp xs F1 H1 b sv kk=>by
  subst hr;obtain⟨l,vs,rfl,e,r⟩:=sv.seq b.st;refine⟨l,vs,rfl,(BU.sq (K:=K) e).or,λa c=>?_⟩;have d:=b.st.make c (.lst vs);exact q a vs xs F1 _ (b.trans d) (b.st.Bj c) (b.none c) AH r kk⟩
theorem VX(hr:r=λxs H Q=>∃p ys,xs=[.ref p]/\((AJ K H p ys/\∀l,H l=none->Q (.ref l) (upd H l (.tup ys)))∨(AA K H p ys/\Q (.ref p) H)))(h:Wq ss te λ_ xs=>k (.tup xs)):Wp ss (DD r (AU te B5)) k:=⟨λE Z F H Q S q=>
 h.go E Z F H _ S λv tp xs F1 H1 b sv kk=>by
  subst hr;cases tp with
  |false=>
   obtain⟨l,vs,rfl,f,r⟩:=sv.seq b.st;refine⟨l,vs,rfl,.inl ⟨AJ.of f,λa g=>?_⟩⟩;have c:=b.st.alloc g (.tup vs);exact q _ _ _ _ (b.trans c) (.tup AH (r.mono c.ff)) kk
  |true=>
   have d:Rep F1 v (.tup xs):=sv;cases d with
   |tup e r=>exact⟨_,_,rfl,.inr ⟨AA.of (b.st.fh _ _ e),q _ _ F1 H1 b (.tup e r) kk⟩⟩⟩
theorem gA{k:List PV->Prop}(h:Wq ss ta λtp xs=>tp=false/\Wq ss tb λCD ys=>CD=false/\xs.length+ys.length<=100000/\k (xs++ys)):Wn ss (Br cT ta tb) k:=⟨λE Z F H Q S q=>
 h.go E Z F H _ S λv tp xs F1 H1 c sv⟨j,h2⟩=>h2.go E Z F1 H1 _ c.st λm CD ys F2 H2 b YK⟨f,hz,kk⟩=>by
  subst j;subst f;obtain⟨l,vs,rfl,i,r⟩:=(sv.mv b).seq b.st;obtain⟨l2,Jr,rfl,Et,e⟩:=YK.seq b.st;refine⟨l,l2,vs,Jr,rfl,rfl,i,Et,small (by rw[r.length,e.length];exact hz),λa d=>?_⟩;have g:=b.st.make d (.lst (vs++Jr));exact q a _ _ F2 _ (c.trans (b.trans g)) (b.st.Bj d) ((c.trans b).none d) AH (r.append e) kk⟩
noncomputable def zG(tp:Bool)(xs:List PV):PV:=if tp then .tup xs else .lst xs
theorem zm{k:List PV->Prop}(h:Wq ss te λ_ xs=>∃ns:List Str,xs=ns.map PV.str/\ns.length<64/\∀Bx:List Str,Bx.Perm ns->sortedS Bx=true->k (Bx.map PV.str)):Wn ss (DD (Zf K) (AU te B5)) k:=⟨λE Z F H Q S q=>
 h.go E Z F H _ S λv tp xs F1 H1 b sv AG=>by
  obtain⟨ns,e,hz,kk⟩:=AG;subst e;obtain⟨l,vs,rfl,d,r⟩:=sv.seq b.st;rw[r.strs]at d;refine⟨l,tp,ns,rfl,BU.sq d,hz,λa Bx c g hs=>?_⟩;have f:=b.st.make c (.lst (Bx.map V.str));exact q a _ _ F1 _ (b.trans f) (b.st.Bj c) (b.none c) AH (MF Bx) (kk Bx g hs)⟩
theorem wX(xs ys:List Str):FI (xs.map V.str) (ys.map V.str)=decide (xs=ys):=by
 by_cases h:xs=ys
 .subst h;rw[sO,lx rfl]
 .rw[qX h]
  by_cases a:xs.length=ys.length
  .rw[Mg (by simpa using a)]
   cases c:(List.range (xs.map V.str).length).all λj=>Dl ((xs.map V.str).getD j .AE) ((ys.map V.str).getD j .AE)with
   |false=>rfl
   |true=>
    exfalso;apply h;apply List.ext_getElem a;intro j h1 h2;have q:=List.all_eq_true.mp c j (List.mem_range.mpr (by simpa using h1))
    have e:(xs.map V.str)[j]?=some (.str xs[j]):=by rw[BG,BA h1];rfl
    have d:(ys.map V.str)[j]?=some (.str ys[j]):=by rw[BG,BA h2];rfl
    rw[Oe e,Oe d]at q;have b:(xs[j] == ys[j])=true:=q
    simpa using b
  .rw[ML (by simpa using a)]
theorem bC(h:Wq ss ta λtp xs=>∃ns:List Str,xs=ns.map PV.str/\Wq ss tb λCD ys=>CD=tp/\∃a:List Str,ys=a.map PV.str/\k (.bl (if neg then !decide (ns=a)else decide (ns=a)))):Wp ss (Br (Ov K neg) ta tb) k:=⟨λE Z F H Q S q=>
 h.go E Z F H _ S λv tp xs F1 H1 c sv⟨ns,i,h2⟩=>h2.go E Z F1 H1 _ c.st λj CD ys F2 H2 b YK⟨f,a,g,kk⟩=>by
  subst i;subst g;subst f;obtain⟨l,vs,rfl,d,r⟩:=(sv.mv b).seq b.st;obtain⟨l2,Jr,rfl,Et,e⟩:=YK.seq b.st;rw[r.strs]at d;rw[e.strs]at Et;refine⟨l,l2,ns.map V.str,a.map V.str,rfl,rfl,?_,Fi _,Fi _,?_⟩
  .cases CD
   .exact .inl ⟨AJ.of d,AJ.of Et⟩
   .exact .inr ⟨AA.of d,AA.of Et⟩
  .rw[wX];cases neg
   .exact q _ _ F2 H2 (c.trans b) (.bl _) kk
   .exact q _ _ F2 H2 (c.trans b) (.bl _) kk⟩
theorem Vn(hr:r=λxs H Q=>∃(p:Addr)(bs:List Bool),xs=[.ref p]/\AJ K H p (bs.map V.bl)/\Q (.bl (bs.all id)) H)(h:Wq ss te λtp xs=>tp=false/\∃bs:List Bool,xs=bs.map PV.bl/\k (.bl (bs.all id))):Wp ss (DD r (AU te B5)) k:=⟨λE Z F H Q S q=>
 h.go E Z F H _ S λv tp xs F1 H1 a sv AG=>by
  obtain⟨c,bs,e,kk⟩:=AG;subst hr;subst e;subst c;obtain⟨l,vs,rfl,b,r⟩:=sv.seq a.st;rw[r.bls]at b;exact⟨l,bs,rfl,AJ.of b,q _ _ F1 H1 a (.bl _) kk⟩⟩
noncomputable def tyP:PV->String
 | .AE => "NoneType"
 | .bl _ => "bool"
 | .int _ => "int"
 | .str _ => "str"
 | .lst _ => "list"
 | .tup _ => "tuple"
 | .Ai _ _ => "dict"
 |_ => ""
def Mn:PV->Value
 | .obj _ _ _=>.none
 | .exc _ _ _=>.none
 | .con _ _=>.none
 |p=>.type (tyP p)
theorem SH(h:PySem.W.kitOne K .none (.type n)=some b):False:=by
 unfold PySem.W.kitOne PySem.W.kitCls PySem.W.subIn at h;simp at h
theorem Rep.x6(s:A8 F H)(r:Rep F v p)(a:PySem.W.kitOne K (Mn p) (.type n)=some b):Ei K H v (Mn p):=by
 cases r with
 |AE=>exact .AE
 |bl b=>exact .bl b
 |int i=>exact .int i
 |str x=>exact .str x
 |lst h _=>exact .lst (s _ _ h)
 |tup h _=>exact .tup (s _ _ h)
 |Ai h _ _=>exact .dK (s _ _ h)
 |obj _ _ _ _=>exact(SH a).elim
 |R7 _=>exact(SH a).elim
 |con=>exact(SH a).elim
 |exc _ _ _ _=>exact(SH a).elim
theorem K8(h:Wp ss te λp=>∃b,PySem.W.kitOne K (Mn p) (.type n)=some b/\k (.bl b)):Wp ss (DD (Qk K) (AU te (AU (tC (.ty n)) B5))) k:=⟨λE Z F H Q S q=>
 h.go E Z F H _ S λv p F1 H1 a r AG=>by obtain⟨b,c,kk⟩:=AG;exact⟨v,n,_,b,rfl,r.x6 a.st.fh c,c,q _ _ F1 H1 a (.bl _) kk⟩⟩
theorem gj(h:Wq ss te λtp xs=>∃b,PySem.W.kitOne K (.type (tyP (zG tp xs))) (.type n)=some b/\k (.bl b)):Wp ss (DD (Qk K) (AU te (AU (tC (.ty n)) B5))) k:=⟨λE Z F H Q S q=>
 h.go E Z F H _ S λv tp xs F1 H1 a sv AG=>by
  obtain⟨b,d,kk⟩:=AG;obtain⟨l,vs,rfl,c,r⟩:=sv.seq a.st;refine⟨_,n,_,b,rfl,?_,d,q _ _ F1 H1 a (.bl _) kk⟩;cases tp
  .exact .lst c
  .exact .tup c⟩
theorem tP(hr:r=λxs H Q=>∃i j,xs=[.int i,.int j]/\Q (.int (if j > i then j else i)) H)(h:Wp ss ta λx=>∃i,x=.int i/\Wp ss tb λy=>∃j,y=.int j/\k (.int (if j > i then j else i))):Wp ss (DD r (AU ta (AU tb B5))) k:=⟨λE Z F H Q S q=>
 h.go E Z F H _ S λv p F1 H1 a c AG=>by
  obtain⟨i,f,h2⟩:=AG;subst hr;subst f;cases c.inv;exact h2.go E Z F1 H1 _ a.st λg p2 F2 H2 d b DJ=>by
   obtain⟨j,e,kk⟩:=DJ;subst e;cases b.inv;exact⟨i,j,rfl,q _ _ F2 H2 (a.trans d) (.int _) kk⟩⟩
theorem ZCH(hr:r=λxs H Q=>∃i j,xs=[.int i,.int j]/\Q (.int (if j<i then j else i)) H)(h:Wp ss ta λx=>∃i,x=.int i/\Wp ss tb λy=>∃j,y=.int j/\k (.int (if j<i then j else i))):Wp ss (DD r (AU ta (AU tb B5))) k:=⟨λE Z F H Q S q=>
 h.go E Z F H _ S λv p F1 H1 a c AG=>by
  obtain⟨i,f,h2⟩:=AG;subst hr;subst f;cases c.inv;exact h2.go E Z F1 H1 _ a.st λg p2 F2 H2 d b DJ=>by
   obtain⟨j,e,kk⟩:=DJ;subst e;cases b.inv;exact⟨i,j,rfl,q _ _ F2 H2 (a.trans d) (.int _) kk⟩⟩
end
structure Src (E:Ent0) (F1:Hp) (J:It) (xs:List PV):Prop where
 go:∀(ss:List Slot)(Z:L2.St)(F H:Hp)(i:Nat),A8 F1 F->Sg E ss Z F H->i<xs.length->J.go i H
 stop:∀(ss:List Slot)(Z:L2.St)(F H:Hp),A8 F1 F->Sg E ss Z F H->J.stop xs.length H
 FC:∀(ss:List Slot)(Z:L2.St)(F H:Hp)(i:Nat)(x:V)(H':Hp),A8 F1 F->Sg E ss Z F H->i<xs.length->J.FC i H x H'->∃p F',xs[i]?=some p/\Mv E ss Z F H F' H'/\Rep F' x p
structure Wi [Xw] (ss:List Slot) (wi:TI) (k:List PV->Prop):Prop where
 go:∀(E:Ent)(Z:L2.St)(F H:Hp)(R:It->Hp->Prop),Sg E ss Z F H->(∀J xs F' H',Mv E ss Z F H F' H'->Src E F' J xs->k xs->R J H')->wi Z H R
structure Wg [Xw] (ss:List Slot) (g:TG) (p:PV) (k:List Slot->Prop):Prop where
 go:∀(E:Ent)(Z:L2.St)(F H:Hp)(v:V)(Q:L2.St->Hp->Prop),Sg E ss Z F H->Rep F v p->(∀AI σ',k AI->Sg E AI σ' F H->Q σ' H)->g v Z H Q
section
variable[Xw]
variable{K:ZEe}{k:PV->Prop}{R:Ar}
theorem gR(h:∀(ss:List Slot)(Z:L2.St)(F H:Hp),A8 F' F->Sg E ss Z F H->H l=some (BU tp vs))(r:Ad F' vs xs):Src E F' (OI K tp l vs) xs where
 go:=λss Z F H i s S hi=>⟨BU.sq (h ss Z F H s S),by rw[r.length];exact hi⟩
 stop:=λss Z F H s S=>⟨BU.sq (h ss Z F H s S),by rw[r.length];exact Ap _⟩
 FC:=λss Z F H i x H' s S hi y=>by
  obtain⟨e,hx⟩:=y;subst e;obtain⟨p,b,a⟩:=r.get' hx;exact⟨p,F,b,.refl S,a.mono s⟩
theorem Kl{k:List PV->Prop}(h:Wz ss te λ_ xs=>k xs):Wi ss (Y7 K te) k:=⟨λE Z F H R S q=>
 h.go E Z F H _ S λv tp xs F1 H1 a f kk=>by
  cases tp with
  |true=>
   have c:Rep F1 v (.tup xs):=f;cases c with
   |tup e r=>exact⟨true,_,_,rfl,AA.of (a.st.fh _ _ e),q _ _ F1 H1 a (gR (tp:=true) (λss Z F H s S=>S.fh _ _ (s _ _ e)) r) kk⟩
  |false=>
   obtain⟨l,vs,rfl,h1,r⟩:=f;have b:∀(ss:List Slot)(Z:L2.St)(F H:Hp),A8 F1 F->Sg E ss Z F H->H l=some (.lst vs):=λss Z F H s S=>by
    rcases h1 with h1|⟨hA,h1⟩
    .exact S.fh _ _ (s _ _ h1)
    .exact S.keep _ _ hA h1
   exact⟨false,l,vs,rfl,AJ.of (b ss Z F1 H1 (A8.refl _) a.st),q _ _ F1 H1 a (gR (tp:=false) b r) kk⟩⟩
def Jq(n:Nat):List PV:=(List.range n).map λi:Nat=>PV.int (i:Int)
theorem OU(n:Nat):(Jq n).length=n:=by simp[Jq]
theorem gI{n:Nat}(h:(Jq n)[i]?=some p):i<n/\p=.int (i:Int):=by
 have hi:i<n:=by have:=(List.getElem?_eq_some_iff.mp h).1;rwa [OU]at this
 unfold Jq at h;rw[BG,Sr hi]at h;exact⟨hi,(BL h).symm⟩
theorem ZAf{k:List PV->Prop}(h:Wp ss te λp=>∃j:Int,p=.int j/\j<=1000000/\-1000000<=j/\k (Jq j.toNat)):Wi ss (Vg (AU te B5)) k:=⟨λE Z F H R S q=>
 h.go E Z F H _ S λv p F1 H1 a r AG=>by
  obtain⟨j,e,h1,h2,kk⟩:=AG;subst e;cases r.inv;refine⟨j,rfl,by omega,by omega,q _ (Jq j.toNat) F1 H1 a ⟨λss Z F H i s S hi=>?_,λss Z F H s S=>?_,λss Z F H i x H' s S hi y=>?_⟩ kk⟩
  .rw[OU]at hi;exact hi
  .show _<=_;rw[OU];exact Ap _
  .obtain⟨e,hx⟩:=y;subst e;subst hx;rw[OU]at hi;refine⟨.int (i:Int),F,?_,.refl S,?_⟩
   .unfold Jq;rw[BG,Sr hi];rfl
   .rw[Int.zero_add];exact .int _⟩
theorem Nb{k:List Slot->Prop}(h:k (ss.set j (.is p))):Wg ss (C7 j) p k:=⟨λE Z F H v Q S r q=>q _ _ h (S.Er r)⟩
theorem mS{k:List Slot->Prop}(h:∃a b,p=.tup [a,b]/\k ((ss.set i (.is a)).set j (.is b))):Wg ss (JI K 2 (FP (C7 i) (FP (C7 j) K7))) p k:=⟨λE Z F H v Q S r q=>by
 obtain⟨a,b,rfl,kk⟩:=h;obtain⟨_,_,rfl,e,r⟩:=r.inv;obtain⟨_,_,rfl,d,r⟩:=r.inv;obtain⟨_,_,rfl,c,r⟩:=r.inv;obtain rfl:=r.D8;exact⟨_,_,rfl,AA.of (S.fh _ _ e),rfl,_,_,rfl,_,_,rfl,rfl,q _ _ kk ((S.Er d).Er c)⟩⟩
theorem kj{l:Nat}{k:List Slot->Prop}(h:∃a b c,p=.tup [a,b,c]/\k (((ss.set i (.is a)).set j (.is b)).set l (.is c))):Wg ss (JI K 3 (FP (C7 i) (FP (C7 j) (FP (C7 l) K7)))) p k:=⟨λE Z F H v Q S r q=>by
 obtain⟨a,b,c,rfl,kk⟩:=h;obtain⟨_,_,rfl,e,r⟩:=r.inv;obtain⟨_,_,rfl,g,r⟩:=r.inv;obtain⟨_,_,rfl,f,r⟩:=r.inv;obtain⟨_,_,rfl,d,r⟩:=r.inv;obtain rfl:=r.D8;exact⟨_,_,rfl,AA.of (S.fh _ _ e),rfl,_,_,rfl,_,_,rfl,_,_,rfl,rfl,q _ _ kk (((S.Er g).Er f).Er d)⟩⟩
theorem An{t:TS}(h:Ws ss t (λAI=>Ws AI u nx R) R):Ws ss (Oq t u) nx R:=⟨λE D Z F H S hn hr=>
 h.go E { D with nx:=u D } Z F H S (λAI σ' F' H' w S' s=>w.go E D σ' F' H' S' (λCd σ2 F2 H2 n2 S2 s2=>hn Cd σ2 F2 H2 n2 S2 (s.trans s2)) hr) hr⟩
theorem Ep{t:TS}(h:Ws ss t nx R):Ws ss (WS t) nx R:=⟨λE D Z F H S hn hr=>⟨D.nx,h.go E { D with nx:=D.nx } Z F H S hn hr,λ_ _ q=>q⟩⟩
theorem Ws.mono{t:TS}(h:Ws ss t nx R)(i:∀s,nx s->R0 s):Ws ss t R0 R:=⟨λE D Z F H S hn hr=>h.go E D Z F H S (λAI σ' F' H' n=>hn AI σ' F' H' (i _ n)) hr⟩
theorem yQ{t:TS}(J:List Slot->Prop)(h:Ws ss t J R)(h2:∀AI,J AI->Ws AI u nx R):Ws ss (Oq t u) nx R:=An (h.mono h2)
theorem Kn(h:Wp ss te λp=>nx (ss.set i (.is p))):Ws ss (En te (C7 i)) nx R:=⟨λE D Z F H S hn hr=>
 h.go E Z F H _ S λv p F1 H1 a r kk=>hn _ _ F1 H1 kk (a.st.Er r) a.ff⟩
theorem iS(h:Wp ss te λp=>Wg ss g p nx):Ws ss (En te g) nx R:=⟨λE D Z F H S hn hr=>
 h.go E Z F H _ S λv p F1 H1 a r kk=>kk.go E Z F1 H1 v _ a.st r λAI σ' n S'=>hn _ _ F1 H1 n S' a.ff⟩
theorem L3(h:Wn ss te λxs=>nx (ss.set i (.own xs))):Ws ss (En te (C7 i)) nx R:=⟨λE D Z F H S hn hr=>
 h.go E Z F H _ S λl vs xs F1 H1 a f b NB r kk=>hn _ _ F1 H1 kk (a.st.setG ⟨l,vs,rfl,f,S.Ew b,NB,r⟩ λg e j u _ d c=>by cases e;exact S.NC d b c) a.ff⟩
theorem FQ(h:Wp ss te k):Ws ss (HJ te) nx (.is k):=⟨λE D Z F H S hn hr=>
 h.go E Z F H _ S λv p F1 H1 a r kk=>hr v F1 H1 a.st.toFin ⟨p,r,kk⟩⟩
theorem C2{c:TT}{t:TS}(h:Wt ss c λb=>if b=true then Ws ss t nx R else Ws ss u nx R):Ws ss (Qu c t u) nx R:=⟨λE D Z F H S hn hr=>
 h.go E Z F H _ S λb F1 H1 a w=>by
  show if b=true then _ else _
  cases b with
  |true=>rw[md rfl]at w ⊢;exact w.go E D Z F1 H1 a.st (λCd σ2 F2 H2 n S2 s2=>hn Cd σ2 F2 H2 n S2 (a.ff.trans s2)) hr
  |false=>rw[mY (by decide)]at w ⊢;exact w.go E D Z F1 H1 a.st (λCd σ2 F2 H2 n S2 s2=>hn Cd σ2 F2 H2 n S2 (a.ff.trans s2)) hr⟩
theorem B7(h:nx ss):Ws ss Yk nx R:=⟨λE D Z F H S hn hr=>hn ss Z F H h S (A8.refl _)⟩
theorem Sg.drop(S:Sg E ss Z F H)(i:Nat):Sg E (ss.set i .any) Z F H:=by
 have DE:∀(j:Nat)u,(ss.set i .any)[j]?=some u->u=.any∨ss[j]?=some u:=λj u a=>by
  by_cases q:j=i
  .subst q;have e:j<ss.length:=by have:=(List.getElem?_eq_some_iff.mp a).1;simpa using this
   rw[Cq e]at a;exact .inl (BL a).symm
  .rw[Cb (BP q)]at a;exact .inr a
 refine⟨S.toFin,by rw[LM];exact S.len,λj u a=>?_,λj k u w l QV a d c b=>?_⟩
 .rcases DE j u a with rfl|h
  .trivial
  .exact S.ok j u h
 .rcases DE j u a with rfl|h
  .cases c
  .rcases DE k w d with rfl|h2
   .cases b
   .exact S.By j k u w l QV h h2 c b
theorem NT(e:Z[i]?=some (some v)):Z.set i (some v)=Z:=by
 apply Z0;intro j
 by_cases q:j=i
 .subst q;rw[Cq (List.getElem?_eq_some_iff.mp e).1,e]
 .rw[Cb (BP q)]
theorem Sg.Po(S:Sg E ss Z F H)(j:F a=none)(c:E.H0 a=none∨a∈E.B)(hn:∀(i:Nat)s,ss[i]?=some s->¬ BI s Z[i]? a):Sg E ss Z F (upd H a o):=by
 have f:∀b u,b≠a->H b=some u->upd H a o b=some u:=λb u h e=>by rw[Af h];exact e
 refine⟨⟨λb u e=>?_,S.f0,λb u d e=>?_,S.fresh,λb d=>?_,S.K3,S.a0,S.bF,λb g=>?_,S.b0⟩,S.len,λi s hi=>?_,S.By⟩
 .exact f b u (E8 e j) (S.fh b u e)
 .refine f b u ?_ (S.keep b u d e);rintro rfl;rcases c with c|c
  .rw[c]at e;cases e
  .exact d.2 c
 .refine Bi.keep (S.GG b d) λu e=>f b u ?_ e;rintro rfl;rcases c with c|c
  .exact S.a0 _ d c
  .exact(S.b0 _ c).2 d
 .by_cases q:b=a
  .subst q;rw[AH];simp
  .rw[Af q];exact S.bH b g
 .by_cases np:s=.AQ
  .subst np;obtain⟨l,e,p,n,k⟩:=S.ok i _ hi;exact⟨l,e,p,n,Bi.keep k λu h=>f l u (by rintro rfl;exact hn i _ hi e) h⟩
  .exact Ok.go S hi (A8.refl _) (λb u m h=>f b u (by rintro rfl;exact hn i _ hi m) h) (λ_ _ h=>h) np
theorem Sg.put(S:Sg E ss Z F H){ys:List PV}(hi:ss[i]?=some (.own xs))(e:Z[i]?=some (some (.ref l)))(f:F l=none)(d:E.H0 l=none)(r:Ad F C5 ys):Sg E (ss.set i (.own ys)) Z F (upd H l (.lst C5)):=by
 have a:∀(j:Nat)s,(ss.set i .any)[j]?=some s->¬ BI s Z[j]? l:=λj s b c=>by
  by_cases q:j=i
  .subst q;have p:j<ss.length:=(List.getElem?_eq_some_iff.mp hi).1;rw[Cq p]at b;cases b;cases c
  .rw[Cb (BP q)]at b;exact S.By j i s _ l q b hi c e
 have n:=(S.drop i).Po (o:=.lst C5) f (.inl d) a;have g:=n.setG (j:=i) (s:=.own ys) (v:=.ref l) ⟨l,C5,rfl,f,d,AH,r⟩ λt m j u b k h=>by cases m;exact a j u k h
 rw[NT e,PX]at g;exact g
theorem eW(hi:ss[i]?=some (.own xs))(h:Wp ss te λp=>xs.length<=99999/\nx (ss.set i (.own (xs++[p])))):Ws ss (JT (NW K "list" Py (B1 i) (AU te B5))) nx R:=⟨λE D Z F H S hn hr=>by
 obtain⟨l,vs,e,k,j,f,r⟩:=S.ok i _ hi;refine⟨_,e,.inl ⟨rfl,_,AJ.of f⟩,h.go E Z F H _ S λv p F1 H1 a d⟨hz,kk⟩=>?_⟩;obtain⟨g,C5,c,Ee,CN,UK,b⟩:=a.st.ok i _ hi;rw[e]at c;cases c;refine⟨l,C5,v,rfl,rfl,UK,Lb (by rw[b.length];exact hz),?_⟩;exact hn _ Z F1 _ kk (a.st.put hi e Ee CN (b.append (.one d))) a.ff⟩
noncomputable def Bs(F H:Hp)(as:List Addr):Hp:=λa=>if a∈as then H a else F a
theorem Sg.lay(S:Sg E ss Z F H)(as:List Addr)(g:∀a∈as,F a=none/\E.H0 a=none/\H a≠none)(hn:∀a∈as,∀(i:Nat)s,ss[i]?=some s->¬ BI s Z[i]? a):Sg E ss Z (Bs F H as) H/\A8 F (Bs F H as):=by
 have x:∀a,a∈as->Bs F H as a=H a:=λa h=>md h;have j:∀a,a∉as->Bs F H as a=F a:=λa h=>mY h;have ff:A8 F (Bs F H as):=λa o e=>by
  by_cases q:a∈as
  .rw[(g a q).1]at e;cases e
  .rw[j a q];exact e
 have f:∀a,a∉as->F a=none->Bs F H as a=none:=λa q h=>by rw[j a q];exact h
 refine⟨⟨⟨λa o e=>?_,S.f0.trans ff,S.keep,λa o e=>?_,S.GG,λa w=>?_,S.a0,λa u=>?_,S.bH,S.b0⟩,S.len,λi s hi=>?_,S.By⟩,ff⟩
 .by_cases q:a∈as
  .rw[x a q]at e;exact e
  .rw[j a q]at e;exact S.fh a o e
 .by_cases q:a∈as
  .exact .inr (g a q).2.1
  .rw[j a q]at e;exact S.fresh a o e
 .exact f a (λq=>S.a0 a w (g a q).2.1) (S.K3 a w)
 .exact f a (λq=>(S.b0 a u).1 (g a q).2.1) (S.bF a u)
 .have l:∀a,BI s Z[i]? a->a∉as:=λa m q=>hn a q i s hi m;have kk:=S.ok i s hi;cases s with
  |any=>trivial
  |is p=>obtain⟨v,e,r⟩:=kk;exact⟨v,e,r.mono ff⟩
  |own ys=>
   obtain⟨b,ws,q,d,c,k,r⟩:=kk;exact⟨b,ws,q,f b (l b q) d,c,k,r.mono ff⟩
  |AQ=>
   obtain⟨b,q,d,c,k⟩:=kk;exact⟨b,q,f b (l b q) d,c,k⟩
  |sq tp ys=>
   cases tp with
   |true=>obtain⟨v,e,r⟩:=kk;exact⟨v,e,r.mono ff⟩
   |false=>obtain⟨b,ws,q,d,c,r⟩:=kk;exact⟨b,ws,q,d,c,r.mono ff⟩
  |raw P=>obtain⟨v,e,r,st⟩:=kk;exact⟨v,e,st _ _ ff r,st⟩
  |ow lt t=>
   obtain⟨v,e,r,nd,q⟩:=kk;exact⟨v,e,r.mono ff λa _ o h=>h,nd,λa n=>⟨f a (l a n) (q a n).1,(q a n).2⟩⟩
theorem KG{t:TS}(i:Nat)(hi:ss[i]?=some (.own xs))(h:Ws (ss.set i (.is (.lst xs))) t nx R):Ws ss t nx R:=⟨λE D Z F H S hn hr=>by
 obtain⟨l,vs,e,k,g,f,r⟩:=S.ok i _ hi;have one:∀a,a∈[l]->a=l:=λa h=>by simpa using h
 obtain⟨S1,d⟩:=(S.drop i).lay [l] (λa h=>by rw[one a h,f];exact⟨k,g,by simp⟩) λa h j s b m=>by
  rw[one a h]at m
  by_cases q:j=i
  .subst q;rw[Cq (List.getElem?_eq_some_iff.mp hi).1]at b;cases b;cases m
  .rw[Cb (BP q)]at b;exact S.By j i s _ l q b hi m e
 have c:=S1.Er (j:=i) (v:=.ref l) (p:=.lst xs) (.lst (by unfold Bs;rw[md (by simp)];exact f) (r.mono d));rw[NT e,PX]at c;exact h.go E D Z _ H c (λCd σ2 F2 H2 n c s2=>hn Cd σ2 F2 H2 n c (d.trans s2)) hr⟩
theorem KY{tb:TS}(I:List PV->Nat->List Slot->Prop)(h:Wi ss wi λxs=>I xs 0 ss/\(∀(i:Nat)p AI,xs[i]?=some p->I xs i AI->Wg AI g p λCd=>Ws Cd tb (I xs (i+1)) R)/\∀AI,I xs xs.length AI->nx AI):Ws ss (QP wi g tb) nx R:=⟨λE D Z F H S hn hr=>
 h.go E Z F H _ S λJ xs F1 H1 k d AG=>by
  obtain⟨i0,hs,hd⟩:=AG;refine⟨λi m σ' H'=>m=xs.length - i/\i<=xs.length/\∃AI F',I xs i AI/\Sg E AI σ' F' H'/\A8 F1 F',⟨_,rfl,Bm _,ss,F1,i0,k.st,A8.refl _⟩,?_⟩;rintro i m σ' H'⟨rfl,hi,AI,F',l,S',s'⟩
  by_cases f:i<xs.length
  .refine .inr ⟨d.go AI σ' F' H' i s' S' f,λσ2 H2=>∃Cd F2,I xs (i+1) Cd/\Sg E Cd σ2 F2 H2/\A8 F1 F2,λσ2 H2 DJ=>by obtain⟨Cd,F2,a,b,c⟩:=DJ;exact⟨_,by omega,rfl,f,Cd,F2,a,b,c⟩,λx H3 y=>?_⟩;obtain⟨p,F3,s,j,q⟩:=d.FC AI σ' F' H' i x H3 s' S' f y;refine(hs i p AI s l).go E σ' F3 H3 x _ j.st q λn σ4 w S4=>?_;exact w.go E _ σ4 F3 H3 S4 (λXt σ5 F5 H5 r S5 o=>⟨Xt,F5,r,S5,(s'.trans j.ff).trans o⟩) hr
  .have e:i=xs.length:=by omega
   subst e;exact .inl ⟨d.stop AI σ' F' H' s' S',hn AI σ' F' H' (hd AI l) S' (k.ff.trans s')⟩⟩
end
def DP(js:List Nat)(ss:List Slot):List Slot:=js.map λj=>(ss[j]?).getD .any
def R4(js:List Nat)(ss:List Slot):Bool:=js.all λj=>match ss[j]? with
 |some .AQ=>false
 |_=>true
section
variable[Xw]
variable{K:ZEe}{js:List Nat}
theorem ZAz(h:js[i]?=some j)(e:(DP js ss)[i]?=some s):s=(ss[j]?).getD .any:=by
 unfold DP at e;rw[BG,h]at e;exact(BL e).symm
theorem Sg.AZ(S:Sg E ss Z F H)(nd:js.Nodup)(r:Ad F vs ps):Sg E (DP js ss++ps.map .is) (BW js Z++vs.map some) F H:=by
 have d:(DP js ss).length=js.length:=by simp[DP]
 have f:(BW js Z).length=js.length:=by simp[BW]
 have DE:∀(i:Nat)(hi:i<js.length),(DP js ss++ps.map .is)[i]?=some ((ss[js[i]]?).getD .any)/\(BW js Z++vs.map some)[i]?=some ((Z[js[i]]?).join):=λi hi=>by
  rw[Hc (by rw[d];exact hi),Hc (by rw[f];exact hi)];unfold DP BW;rw[BG,BG,BA hi];exact⟨rfl,rfl⟩
 have c:∀(i:Nat)s,js.length<=i->(DP js ss++ps.map .is)[i]?=some s->∃p v,s=.is p/\(BW js Z++vs.map some)[i]?=some (some v)/\Rep F v p:=λi s hi e=>by
  rw[JA (by rw[d];exact hi),d,BG]at e;rw[JA (by rw[f];exact hi),f,BG];cases q:ps[i - js.length]? with
  |none=>rw[q]at e;cases e
  |some p=>
   rw[q]at e;obtain⟨v,h,g⟩:=r.get q;rw[h];exact⟨p,v,(BL e).symm,rfl,g⟩
 have D:∀(s:Slot)(m:Nat)(l:Addr),BI s (some (Z[m]?).join) l->BI s Z[m]? l:=λs m l o=>by
  have n:∀l,some (Z[m]?).join=some (some (V.ref l))->Z[m]?=some (some (.ref l)):=λl e=>by
   cases q:Z[m]? with
   |none=>rw[q]at e;cases e
   |some o=>rw[q]at e;cases o with
    |none=>cases e
    |some v=>simpa using e
  cases s with
  |own xs=>exact n l o
  |AQ=>exact n l o
  |ow lt t=>exact o
  |_=>exact o
 have k:∀(i:Nat)s l,(DP js ss++ps.map .is)[i]?=some s->BI s (BW js Z++vs.map some)[i]? l->∃hi:i<js.length,ss[js[i]]?=some s/\BI s Z[js[i]]? l:=λi s l e m=>by
  by_cases hi:i<js.length
  .rw[(DE i hi).2]at m;refine⟨hi,?_,D s _ l m⟩;rw[(DE i hi).1]at e;cases q:ss[js[i]]? with
   |none=>rw[q]at e;cases e;cases m
   |some u=>rw[q]at e;exact e
  .obtain⟨p,v,rfl,_⟩:=c i s (by omega) e;cases m
 refine⟨S.toFin,?_,λi s e=>?_,λi j s u l HE hi C B A=>?_⟩
 .rw[Bu,Bu,d,f,AW,AW,r.length]
 .by_cases hi:i<js.length
  .obtain⟨a,b⟩:=DE i hi;rw[a]at e;rw[b];cases q:ss[js[i]]? with
   |none=>rw[q]at e;cases e;trivial
   |some u=>
    rw[q]at e;have G:u=s:=BL e;subst G;have kk:=S.ok _ _ q;cases u with
    |any=>trivial
    |is p=>obtain⟨v,e,r⟩:=kk;rw[e];exact⟨v,rfl,r⟩
    |own xs=>obtain⟨l,vs,e,r⟩:=kk;rw[e];exact⟨l,vs,rfl,r⟩
    |AQ=>obtain⟨l,e,r⟩:=kk;rw[e];exact⟨l,rfl,r⟩
    |sq tp xs=>
     cases tp with
     |true=>obtain⟨v,e,r⟩:=kk;rw[e];exact⟨v,rfl,r⟩
     |false=>obtain⟨l,vs,e,r⟩:=kk;rw[e];exact⟨l,vs,rfl,r⟩
    |raw P=>obtain⟨v,e,r⟩:=kk;rw[e];exact⟨v,rfl,r⟩
    |ow lt t=>obtain⟨v,e,r⟩:=kk;rw[e];exact⟨v,rfl,r⟩
  .obtain⟨p,v,rfl,h,g⟩:=c i s (by omega) e;rw[h];exact⟨v,rfl,g⟩
 .obtain⟨J,x,z⟩:=k i s l hi B;obtain⟨I,w,y⟩:=k j u l C A;refine S.By js[i] js[j] s u l (λe=>HE ?_) x w z y;exact(ZDb nd).mp e
theorem Mv.out(S:Sg E ss Z F H)(np:R4 js ss=true)(m:Mv E (DP js ss++ps.map .is) τ F H F' H'):Mv E ss Z F H F' H':=by
 have nn:∀a,CQ (DP js ss++ps.map .is) τ a:=λa i hi _=>by
  by_cases h:i<(DP js ss).length
  .rw[Hc h]at hi;have c:i<js.length:=by simpa[DP]using h
   have q:=ZAz (BA c) hi;have z:=List.all_eq_true.mp np js[i] (PQ c);cases w:ss[js[i]]? with
   |none=>rw[w]at q;cases q
   |some u=>rw[w]at q z;cases q;cases z
  .rw[JA (by omega),BG]at hi;cases w:ps[i - (DP js ss).length]? with
   |none=>rw[w]at hi;cases hi
   |some p=>rw[w]at hi;cases hi
 have b:∀a o,H a=some o->H' a=some o:=λa o e=>m.hh a o (nn a) e;exact S.step m.ff m.st.fh (λa o _ e=>b a o e) m.nn λi l hi e=>Bi.keep (S.EL hi e) λo e=>b l o e
theorem d7{tt:TT}{k:List PV->Prop}(f:PV->Bool)(g:PV->PV)
  (h:Wi ss wi λxs=>xs.length<=100000/\(∀x∈xs,Wt (DP js ss++[.is x]) tt λb=>b=f x)/\(∀x∈xs,f x=true->Wp (DP js ss++[.is x]) te λp=>p=g x)/\k ((xs.filter f).map g))
  (nd:js.Nodup:=by decide) (np:R4 js ss=true:=by rfl):Wn ss (Ks wi js tt te) k:=⟨λE Z F H Q S q=>
 h.go E Z F H _ S λJ xs F1 H1 d C⟨hz,U,V,kk⟩acc Au=>by
  have P:CQ ss Z acc:=d.st.Le Au;have Ua:=d.st.Ew Au;have σ:∀(i:Nat)s,ss[i]?=some s->¬ BI s Z[i]? acc:=λi s hi=>d.st.NC hi Au;refine⟨λi m H2=>m=xs.length - i/\i<=xs.length/\∃F2 vs,Mv E ss Z F1 H1 F2 H2/\F2 acc=none/\H2 acc=some (.lst vs)/\Ad F2 vs (((xs.take i).filter f).map g),⟨_,rfl,Bm _,F1,[],d.st.make Au _,d.st.Bj Au,AH,.nil⟩,?_⟩;rintro i m H2⟨rfl,hi,F2,vs,c,K,z,t⟩
  by_cases r:i<xs.length
  .refine .inr ⟨C.go ss Z F2 H2 i c.ff c.st r,λx H3 y=>?_⟩;obtain⟨p,F3,G,u,I⟩:=C.FC ss Z F2 H2 i x H3 c.ff c.st r y;have M:p∈xs:=Cr G;have Jf:(xs.take (i+1))=xs.take i++[p]:=by
    have Y:xs[i]=p:=by rw[BA r]at G;exact BL G
    rw[Sz r,Y]
   have L:List.filter f (xs.take (i+1))=(xs.take i).filter f++(if f p=true then[p]else[]):=by
    rw[Jf,Sq];congr 1
    by_cases j:f p=true <;> simp[j]
   have N:∀{F4:Hp},(∀a o,F4 a=some o->F2 a=some o∨H2 a=none)->F4 acc=none:=λ{F4}n=>by
    cases e:F4 acc with
    |none=>rfl
    |some o=>
     rcases n acc o e with w|w
     .rw[K]at w;cases w
     .rw[z]at w;cases w
   have S3:=u.st.AZ (js:=js) nd (.one I);refine(U p M).go E _ F3 H3 _ S3 λb F4 H4 D W=>?_;have l:=u.trans (D.out (ps:=[p]) u.st np);show if b=true then _ else _
   rw[W]
   by_cases j:f p=true
   .rw[md j];have S4:=l.st.AZ (js:=js) nd (.one (I.mono (D.out (ps:=[p]) u.st np).ff));refine(V p M j).go E _ F4 H4 _ S4 λw pw F5 H5 R OX X=>?_;have T:=D.out (ps:=[p]) u.st np;have UN:=R.out (ps:=[p]) l.st np;have A:=l.trans UN;have Tj:=A.hh acc _ P z;have O:=N A.nn;have v:vs.length<=99999:=by
     rw[t.length,AW];have:=PR f (xs.take i);rw[CK]at this;omega
    refine⟨vs,Tj,Lb v,xs.length - (i+1),by omega,rfl,r,F5,vs++[w],?_,O,AH,?_⟩
    .have B:=c.trans A;refine⟨B.st.Po O (.inl Ua) σ,B.ff,λa o n e=>?_,B.nn⟩;rw[Af (E8 e Au)];exact B.hh a o n e
    .rw[L,md j,E4];rw[X]at OX;exact(t.mono A.ff).append (.one OX)
   .have OH:f p=false:=by simpa using j
    rw[OH,mY (by decide)];refine⟨xs.length - (i+1),by omega,rfl,r,F4,vs,c.trans l,N l.nn,l.hh acc _ P z,?_⟩;rw[L,mY j,GA];exact t.mono l.ff
  .have e:i=xs.length:=by omega
   subst e;refine .inl ⟨C.stop ss Z F2 H2 c.ff c.st,q acc vs _ F2 H2 (d.trans c) K (d.none Au) z ?_ kk⟩;rw[LP]at t;exact t⟩
end
abbrev Pre:=List Slot->Ar->Prop
def BN(pre:Pre):Sp:=λvs H Q _=>∃(ss:List Slot)(R:Ar)(F:Hp)(A:List Addr),pre ss R/\Sg (E3 A F H) ss (vs.map some) F H/\∀v F' H',Fin (E3 A F H) F' H'->R.ok (E3 A F H) F' H' v->Q v H'
section
variable[Xw]
variable{pre:Pre}{k:PV->Prop}
theorem Hf.at{l:List Slot}(h:Hf ss Z F H vs l):∀{i:Nat}{s:Slot},l[i]?=some s->∃v,vs[i]?=some v/\Av ss Z F H v s:=by
 induction h with
 |nil=>intro i s e;simp at e
 |cons a _ b=>
  intro i s e;cases i with
  |zero=>simp at e;subst e;exact⟨_,rfl,a⟩
  |succ i=>exact b (by simpa using e)
theorem Hf.len{l:List Slot}(h:Hf ss Z F H vs l):l.length=vs.length:=by
 induction h with
 |nil=>rfl
 |cons a _ b=>rw[Cc,Cc,b]
theorem Av.ok(S:Sg E ss Z F H)(a:Av ss Z F H v s)(b:∀l,CQ ss Z l->l∉A):Ok (E3 A F H) F H s (some (some v))/\∀o l,¬ BI s o l:=by
 cases s with
 |is p=>exact⟨⟨v,rfl,a⟩,λ_ _ z=>z⟩
 |sq tp xs=>
  cases tp with
  |true=>exact⟨⟨v,rfl,a⟩,λ_ _ z=>z⟩
  |false=>obtain⟨l,vs,rfl,n,h,r⟩:=a;exact⟨⟨l,vs,rfl,⟨b l n,B3⟩,h,r⟩,λ_ _ z=>z⟩
 |raw P=>exact⟨⟨v,rfl,a⟩,λ_ _ z=>z⟩
 |any=>exact a.elim
 |own xs=>exact a.elim
 |AQ=>exact a.elim
 |ow lt t=>exact a.elim
theorem Sg.eQ(S:Sg E ss Z F H){l:List Slot}(a:Hf ss Z F H vs l):Sg (E3 [] F H) l (vs.map some) F H:=by
 have nn:∀{p:Prop}(a:Addr),a∈([]:List Addr)->p:=λa h=>absurd h B3;refine⟨⟨S.fh,A8.refl _,λ_ _ _ e=>e,λ_ _ e=>.inl e,λa h=>nn a h,λa h=>nn a h,λa h=>nn a h,λa h=>nn a h,λa h=>nn a h,λa h=>nn a h⟩,by rw[AW];exact a.len,λi s hi=>?_,λi j s u l HE hi f c d=>?_⟩
 .obtain⟨v,b,q⟩:=a.at hi;rw[BG,b];exact(q.ok S λ_ _ h=>absurd h B3).1
 .obtain⟨v,b,q⟩:=a.at hi;exact(q.ok S (A:=[]) λ_ _ h=>absurd h B3).2 _ _ c
theorem Sg.pE(S:Sg E ss Z F H){p:Addr}(hi:ss[i0]?=some .AQ)(e:Z[i0]?=some (some (.ref p))){l:List Slot}(a:Hf ss Z F H vs l):Sg (E3 [p] F H) (.AQ::l) ((V.ref p::vs).map some) F H:=by
 obtain⟨w,g,fp,_,b⟩:=S.ok i0 _ hi;rw[e]at g;cases g;have f:∀l,CQ ss Z l->l∉[p]:=λl n h=>by
  have:l=p:=by simpa using h
  subst this;exact n i0 hi e
 have one:∀a,a∈[p]->a=p:=λa h=>by simpa using h
 have nn:∀{p:Prop}(a:Addr),a∈([]:List Addr)->p:=λa h=>absurd h B3;refine⟨⟨S.fh,A8.refl _,λ_ _ _ e=>e,λ_ _ e=>.inl e,λa h=>(one a h)▸b,λa h=>(one a h)▸fp,λa h=>?_,λa h=>nn a h,λa h=>nn a h,λa h=>nn a h⟩,by rw[AW,Cc,Cc];rw[a.len],λi s hi=>?_,λi j s u c HE hi t r k=>?_⟩
 .rw[one a h];obtain⟨_,_,q,_⟩:=b;show H p≠none;rw[q];simp
 .cases i with
  |zero=>simp at hi;subst hi;exact⟨p,rfl,fp,.inr (by simp),b⟩
  |succ i=>
   obtain⟨v,d,q⟩:=a.at (i:=i) (s:=s) (by simpa using hi)
   have:((V.ref p::vs).map some)[i+1]?=some (some v):=by rw[Bv,List.getElem?_cons_succ,BG,d];rfl
   rw[this];exact(q.ok S f).1
 .have z:∀(i:Nat)s o c,(Slot.AQ::l)[i]?=some s->BI s o c->i=0:=λi s o c h m=>by
   cases i with
   |zero=>rfl
   |succ i=>
    obtain⟨v,d,q⟩:=a.at (i:=i) (s:=s) (by simpa using h)
    exact((q.ok S f).2 _ _ m).elim
  exact absurd ((z i s _ _ hi r).trans (z j u _ _ t k).symm) HE
theorem Sg.back(S:Sg E ss Z F H)(d:∀a,a∈A->∃i:Nat,ss[i]?=some .AQ/\Z[i]?=some (some (.ref a)))(f:Fin (E3 A F H) F' H'):Mv E ss Z F H F' H':=by
 refine S.step f.f0 f.fh (λa o n e=>f.keep a o ⟨λh=>?_,B3⟩ e) f.fresh λi l hi e=>?_
 .obtain⟨i,c,b⟩:=d a h;exact n i c b
 .by_cases q:l∈A
  .exact f.GG l q
  .exact Bi.keep (S.EL hi e) λo e=>f.keep l o ⟨q,B3⟩ e
theorem wp_call(h:Wa ss t λl=>∃k',pre l (.is k')/\∀p,k' p->k p):Wp ss (C9 (BN pre) [] E0 t) k:=⟨λE Z F H Q S q=>
 h.go E Z F H _ S λvs l F1 H1 b a⟨k',c,kk⟩=>by
  rw[GA];refine⟨l,.is k',F1,[],c,b.st.eQ a,λv F' H' f⟨p,r,kp⟩=>?_⟩;exact q v p F' H' (b.trans (b.st.back (λ_ h=>absurd h B3) f)) r (kk p kp)⟩
theorem d6(hi:ss[i]?=some .AQ)(h:Wa ss t λl=>∃k',pre (.AQ::l) (.is k')/\∀p,k' p->k p):Wp ss (C9 (BN pre) [] E0 (AU (B1 i) t)) k:=⟨λE Z F H Q S q=>by
 obtain⟨p,e,_⟩:=S.ok i _ hi;refine⟨_,e,h.go E Z F H _ S λvs l F1 H1 b a⟨k',c,kk⟩=>?_⟩;show BN pre ((V.ref p::vs)++[]) H1 Q E0;rw[GA];refine⟨.AQ::l,.is k',F1,[p],c,b.st.pE hi e a,λv F' H' f⟨pv,r,kp⟩=>?_⟩;exact q v pv F' H' (b.trans (b.st.back (A:=[p]) (λa h=>⟨i,hi,(show a=p from by simpa using h)▸e⟩) f)) r (kk pv kp)⟩
theorem Sg.grown(S:Sg E ss Z F H)(n:Nat):Sg E (ss++List.replicate n .any) (Z++List.replicate n none) F H:=by
 have DE:∀(i:Nat)s,(ss++List.replicate n .any)[i]?=some s->s≠.any->ss[i]?=some s/\(Z++List.replicate n none)[i]?=Z[i]?:=λi s e hs=>by
  by_cases h:i<ss.length
  .rw[Hc h]at e;rw[Hc (by rw[<- S.len];exact h)];exact⟨e,rfl⟩
  .rw[JA (by omega),jo]at e;split at e
   .exact absurd (BL e).symm hs
   .cases e
 refine⟨S.toFin,by simp[S.len],λi s e=>?_,λi j s u l HE hi m g f=>?_⟩
 .cases s with
  |any=>trivial
  |_=>obtain⟨a,b⟩:=DE i _ e (by simp);rw[b];exact S.ok i _ a
 .have ns:s≠.any:=by rintro rfl;cases g
  have k:u≠.any:=by rintro rfl;cases f
  obtain⟨a,b⟩:=DE i s hi ns;obtain⟨c,d⟩:=DE j u m k;rw[b]at g;rw[d]at f;exact S.By i j s u l HE a c g f
end
section
variable{pre:Pre}{k:PV->Prop}
def Rv(E:Ent0):Ent:=⟨E,λ_ _ _ _ _ _ _ _ _ d=>d.elim⟩
theorem GN{N:List Str}{n:Nat}{t:TS}(h:BN pre vs H Q X)(c:∀ss R,pre ss R->ss.length=n)
  (hw:∀ss R,pre ss R->Ws (ss++List.replicate (N.length - n) .any) t (λ_=>∃k,R=.is k/\k .AE) R):t { nx:=λ_ H'=>Q .AE H',rt:=Q } (L2.start N vs) H:=by
 obtain⟨ss,R,F,A,a,S,q⟩:=h;have e:vs.length=n:=by have:=S.len;rw[AW]at this;rw[<- this];exact c ss R a
 unfold L2.start;rw[e];refine(hw ss R a).go (Rv (E3 A F H)) _ _ F H (S.grown _) (λAI σ' F' H'⟨k,e,b⟩S' _=>?_) λv F' H' f ok=>q v F' H' f ok;subst e;exact q .AE F' H' S'.toFin ⟨.AE,.AE,b⟩
theorem Gg{n:Nat}(b:∀ss R,pre ss R->ss.length=n)(h:BN pre vs H Q X):vs.length=n:=by
 obtain⟨ss,R,F,A,a,S,q⟩:=h;have:=S.len;rw[AW]at this;rw[<- this];exact b ss R a
end
end Fz
namespace Lw
open L2
variable{Fy l ns ss:List Str}{r x:Str}
theorem PH:∀l:List Nat,¬ l<l
 | [],h=>by simp at h
 |a::r,h=>by
  rw[Yy]at h;rcases h with h|⟨_,h⟩
  .omega
  .exact PH r h
theorem Qo:∀{a b c:List Nat},a<b->b<c->a<c
 |_,[],_,h,_=>by simp at h
 |_,_::_,[],_,h=>by simp at h
 | [],_::_,_::_,_,_=>by simp
 |a::r,b::s,c::t,h,h'=>by
  rw[Yy]at h h' ⊢;rcases h with h|⟨rfl,h⟩
  .rcases h' with h'|⟨rfl,h'⟩
   .left;omega
   .left;exact h
  .rcases h' with h'|⟨rfl,h'⟩
   .left;exact h'
   .right;exact⟨rfl,Qo h h'⟩
theorem cY:∀a b:List Nat,a<b∨a=b∨b<a
 | [],[]=>.inr (.inl rfl)
 | [],_::_=>.inl (by simp)
 |_::_,[]=>.inr (.inr (by simp))
 |a::r,b::s=>by
  rw[Yy,Yy];rcases ZC a b with h|rfl|h
  .exact .inl (.inl h)
  .rcases cY r s with h|rfl|h
   .exact .inl (.inr ⟨rfl,h⟩)
   .exact .inr (.inl rfl)
   .exact .inr (.inr (.inr ⟨rfl,h⟩))
  .exact .inr (.inr (.inl h))
abbrev Ih(a b:Str):Prop:=a.cps.toList<b.cps.toList
theorem TQ(a b:Str):Ih a b∨a=b∨Ih b a:=by
 rcases cY a.cps.toList b.cps.toList with h|h|h
 .exact .inl h
 .exact .inr (.inl (sQ h))
 .exact .inr (.inr h)
abbrev Up(ss:List Str):Prop:=ss.Pairwise Ih
theorem fX(h:Up ss):ss.Nodup:=by
 refine List.Pairwise.imp (λ{a b}(Dq:Ih a b)(e:a=b)=>?_) h;subst e;exact PH _ Dq
theorem fj:∀(l:List Str)(p:Str),risingS p l=true->(∀x∈l,¬ Ih x p)/\l.Pairwise λa b=>¬ Ih b a
 | [],p,_=>⟨λx hx=>absurd hx (by simp),.nil⟩
 |y::r,p,h=>by
  have h1:(!ltCps y.cps.toList p.cps.toList && risingS y r)=true:=h;rw[Ez,ltCps_eq]at h1;have c:¬ Ih y p:=by
   intro z;rw[lx z]at h1;exact absurd h1.1 (by decide)
  obtain⟨h2,d⟩:=fj r y h1.2;refine⟨λx hx=>?_,List.pairwise_cons.mpr ⟨λx hx=>h2 x hx,d⟩⟩;rcases List.mem_cons.mp hx with rfl|hx
  .exact c
  .intro z;rcases TQ y p with q|q|q
   .exact c q
   .exact h2 x hx (q▸z)
   .exact h2 x hx (Qo z q)
theorem pC(h:sortedS l=true):l.Pairwise λa b=>¬ Ih b a:=by
 cases l with
 |nil=>exact .nil
 |cons x r=>
  obtain⟨h1,h2⟩:=fj r x h;exact List.pairwise_cons.mpr ⟨h1,h2⟩
theorem jE(h:sortedS l=true)(nd:l.Nodup):Up l:=by
 have w:=pC h;have q:=List.Pairwise.and w nd;refine q.imp λ{a b}Dq=>?_;rcases TQ a b with z|z|z
 .exact z
 .exact absurd z Dq.2
 .exact absurd z Dq.1
theorem UP:∀{as bs:List Str},Up as->Up bs->(∀x,x∈as↔x∈bs)->as=bs
 | [],[],_,_,_=>rfl
 | [],b::bs,_,_,h=>absurd ((h b).mpr Cz) (by simp)
 |a::as,[],_,_,h=>absurd ((h a).mp Cz) (by simp)
 |a::as,b::bs,ha,hb,h=>by
  obtain⟨d,g⟩:=List.pairwise_cons.mp ha;obtain⟨c,f⟩:=List.pairwise_cons.mp hb;have e:a=b:=by
   rcases List.mem_cons.mp ((h a).mp Cz)with z|z
   .exact z
   .rcases List.mem_cons.mp ((h b).mpr Cz)with y|y
    .exact y.symm
    .exact absurd (Qo (d b y) (c a z)) (PH _)
  subst e
  congr 1
  refine UP g f λx=>⟨λhx=>?_,λhx=>?_⟩
  .rcases List.mem_cons.mp ((h x).mp (DK _ hx))with z|z
   .exact absurd (z▸d x hx) (PH _)
   .exact z
  .rcases List.mem_cons.mp ((h x).mpr (DK _ hx))with z|z
   .exact absurd (z▸c x hx) (PH _)
   .exact z
theorem J3:∀{as bs:List Str},as.Nodup->(∀x∈as,x∈bs)->as.length<=bs.length
 | [],_,_,_=>Bm _
 |a::as,bs,nd,h=>by
  obtain⟨h1,h2⟩:=List.nodup_cons.mp nd;have b:=h a Cz;have q:=J3 (bs:=bs.erase a) h2 λx hx=>(ZDf (λe:x=a=>h1 (by rw[<- e];exact hx))).mpr (h x (DK _ hx));have e:=ZDd b;have p:=ZDe b;simp only[Cc];omega
noncomputable def FY:List Str:=["none","ahead","all"]
theorem cI{j:Int}(c:0<=j)(h1:j<3):∃r,Bf (FY.map V.str) j=some (.str r)/\r∈FY:=by
 obtain⟨x,a,b,_⟩:=NV (ns:=FY) c h1;exact⟨x,a,b⟩
noncomputable def MP(ss:List Str)(x:Str):Bool:=decide (x∈ss)
def FE(ns:List Str)(g:Nat)(ss:List Str):List Str:=(ns.drop g).filter (MP ss)++(ns.take g).filter (MP ss)
theorem qJ(ns:List Str)(g:Nat)(ss:List Str):(ns.drop g++ns.take g).filter (MP ss)=FE ns g ss:=Sq ..
theorem Rj{g:Nat}:x∈FE ns g ss↔x∈ns/\x∈ss:=by
 unfold FE;rw[Hy,jw,jw];have e:(x∈ns)↔(x∈ns.take g∨x∈ns.drop g):=by
  rw[<- Hy,LO]
 unfold MP;simp only[decide_eq_true_eq];rw[e];constructor
 .rintro(⟨a,b⟩|⟨a,b⟩)
  .exact⟨.inr a,b⟩
  .exact⟨.inl a,b⟩
 .rintro⟨a|a,b⟩
  .exact .inr ⟨a,b⟩
  .exact .inl ⟨a,b⟩
theorem m7(ns ss:List Str):((ns.map V.str).filter (λv=>ES v (ss.map V.str))).map (λv=>v)=(ns.filter (MP ss)).map V.str:=by
 rw[jt,jm]
 congr 1
 apply ZDX;intro y _;show ES (.str y) (ss.map V.str)=MP ss y;rw[Kc];rfl
def WR(H:Hp)(t:Addr)(r:Str)(g:Int)(ss:List Str):Prop:=∃c,H t=some (.tup [.str r,.int g,.ref c])/\H c=some (.tup (ss.map V.str))
structure DM (ns:List Str) (r:Str) (g:Int) (ss:List Str):Prop where
 rule:r∈FY
 g0:0<=g
 g1:g<=(ns.length:Int)
 up:Up ss
 sub:∀x∈ss,x∈ns
theorem X3(x:Str)(h:Up ss):Up (wo ss x):=h.filter _
theorem DM.step{g:Int}(h:DM ns r g ss)(hx:x∈ns):DM ns r ((ns.idxOf x:Nat)+1) (wo ss x):=by
 have b:ns.idxOf x<ns.length:=List.idxOf_lt_length_iff.mpr hx;exact⟨h.rule,by omega,by omega,X3 x h.up,λy a=>h.sub y (Jw.mp a).1⟩
def XJ(K:ZEe):Sp:=λvs H Q _=>∃(c:Addr)(ss:List Str)(x:Str),vs=[.ref c,.str x]/\AA K H c (ss.map V.str)/\ss.length<=1000/\∀l H',H l=none->A8 H H'->H' l=some (.tup ((wo ss x).map V.str))->Q (.ref l) H'
def Qy(ns:List Str)(g:Nat)(ss:List Str):Option Str:=(FE ns g ss).head?
def bu(ns:List Str)(g:Nat)(ss:List Str):Nat:=match Qy ns g ss with
 |none=>g
 |some x=>ns.idxOf x+1
def c6(ns:List Str)(g:Nat)(ss:List Str):List Str:=match Qy ns g ss with
 |none=>ss
 |some x=>wo ss x
theorem Ti:Bf ((x::Fy).map V.str) 0=some (.str x):=NZ (by decide) rfl
structure Ent where
 a:Addr
 ns:List Str
 t:Addr
 r:Str
 g:Nat
 ss:List Str
end Lw
namespace L2
section
variable{X:Cx}
def za(K:ZEe):R2:=λx y H Q=>∃a b xs ys,x=.ref a/\y=.ref b/\AA K H a xs/\AA K H b ys/\ys≠[]/\xs.length+ys.length<=sizeLine/\∀p H',A8 H H'->AA K H' p (xs++ys)->Q (.ref p) H'
theorem ai:BH X (binaryOp .Add) (za X.K):=by
 intro Zb s Z H x y v u Q I i g h;obtain⟨a,b,xs,ys,rfl,rfl,k,d,o,hz,q⟩:=h
 by_cases hx:xs=[]
 .subst hx;cases i;cases g;obtain⟨A5,l,m,_⟩:=I.tuple k;obtain⟨Bd,t,p2,_⟩:=I.tuple d;obtain⟨⟨cls,dd,data,sl⟩,ho,j,n,hd⟩:=id m;obtain⟨⟨w,Pk,f,Iu⟩,L6,KQ,n2,c⟩:=id p2;simp only at j hd KQ c;subst j hd KQ c;have e:A5=[]:=l.QU.mpr rfl;exact concat_meets ⟨_,ho,rfl⟩ ⟨_,L6,rfl⟩ z5 seq_tuple_add kD kC (kB _ _)
   (tuple_addW0 a b A5.toArray Bd.toArray n n2 dd Pk sl Iu (by simp[e])) ⟨ho,L6,⟨.ref b,H,I,rfl,q b H (A8.refl _) d⟩⟩
 .exact sg Zb s Z H _ _ _ _ Q I i g ⟨a,b,xs,ys,rfl,rfl,k,d,hx,hz,λe=>absurd e o,λ_ p r=>q p _ (Ah r _) (AA.of AH)⟩
end
end L2
namespace Lw
open L2
variable{ns rs ss:List Str}{r x:Str}{g i:Nat}{d:AO}
def FT(i g:Nat):Nat:=if i<g then g+1 else g
def EW(p g:Nat):Nat:=if p<g then g - 1 else g
def AO.gap(ns:List Str)(g:Nat):AO->Nat
 | .put _ i=>FT i g
 | .take x=>EW (ns.idxOf x) g
 | .move x i=>FT i (EW (ns.idxOf x) g)
 | .turn _ _=>g
def G2:List Str->Str->List Str
 | [],x=>[x]
 |y::r,x=>if Ih x y then x::y::r else y::G2 r x
def DL(r:Str)(g i:Nat):Bool:=if decide (V.str r=V.str "all")=true then true else if decide (V.str r=V.str "ahead")=true then decide ((g:Int)<=(i:Int))else false
def AO.Ff(r:Str)(g:Nat)(ss:List Str):AO->List Str
 | .put x i=>if DL r g i=true then G2 ss x else ss
 | .take x=>wo ss x
 | .move _ _=>ss
 | .turn _ _=>ss
theorem NY{x k:Str}:∀{ss:List Str},k∈G2 ss x↔k=x∨k∈ss
 | []=>by simp[G2]
 |y::r=>by
  unfold G2;split
  .simp
  .rw[Gq,NY (ss:=r),Gq];constructor
   .rintro(h|h|h)
    .exact .inr (.inl h)
    .exact .inl h
    .exact .inr (.inr h)
   .rintro(h|h|h)
    .exact .inr (.inl h)
    .exact .inl h
    .exact .inr (.inr h)
theorem Q3{x:Str}:∀{ss:List Str},Up ss->x∉ss->Up (G2 ss x)
 | [],_,_=>List.pairwise_singleton _ _
 |y::r,h,hx=>by
  obtain⟨h1,h2⟩:=List.pairwise_cons.mp h;unfold G2;split
  .next c=>exact List.pairwise_cons.mpr ⟨λk a=>(List.mem_cons.mp a).elim (λe=>by rw[e];exact c) λa=>Qo c (h1 k a),h⟩
  .next c=>
   refine List.pairwise_cons.mpr ⟨λk a=>?_,Q3 h2 λb=>hx (DK _ b)⟩;rcases NY.mp a with rfl|a
   .rcases TQ k y with z|z|z
    .exact absurd z c
    .exact absurd (by rw[z];exact Cz) hx
    .exact z
   .exact h1 k a
theorem TN{ts:List Str}(a:ts.Perm (ss++[x]))(hs:sortedS ts=true)(h:Up ss)(hx:x∉ss):ts=G2 ss x:=by
 have nd:ts.Nodup:=a.nodup_iff.mpr (Pj (fX h) hx);refine UP (jE hs nd) (Q3 h hx) λk=>?_;rw[a.mem_iff,NY,Hy,List.mem_singleton];exact or_comm
theorem DM.len{g:Int}(h:DM ns r g ss):ss.length<=ns.length:=J3 (fX h.up) h.sub
theorem DM.led(h:DM ns r g ss)(ok:d.Ok 40 ns)(nd:ns.Nodup):DM (d.done ns) r (d.gap ns g:Nat) (d.Ff r g ss):=by
 have g1:=h.g1;cases d with
 |put x i=>
  obtain⟨h1,h2,o,n⟩:=ok;refine⟨h.rule,by omega,?_,?_,?_⟩
  .show((FT i g:Nat):Int)<=((ins ns x i).length:Int);rw[RK];unfold FT;split <;> omega
  .show Up (if DL r g i=true then G2 ss x else ss)
   split
   .exact Q3 h.up λj=>h2 (h.sub x j)
   .exact h.up
  .intro k c;show k∈ins ns x i;rw[RH];have f:k∈(if DL r g i=true then G2 ss x else ss):=c
   split at f
   .rcases NY.mp f with z|z
    .exact .inl z
    .exact .inr (h.sub k z)
   .exact .inr (h.sub k f)
 |take x=>
  have hx:x∈ns:=ok;have l:=NQ hx nd;have m:ns.idxOf x<ns.length:=List.idxOf_lt_length_iff.mpr hx;refine⟨h.rule,by omega,?_,X3 x h.up,λk c=>?_⟩
  .show((EW (ns.idxOf x) g:Nat):Int)<=((wo ns x).length:Int);unfold EW;split <;> omega
  .obtain⟨a,b⟩:=Jw.mp (show k∈wo ss x from c);exact Jw.mpr ⟨h.sub k a,b⟩
 |move x i=>
  obtain⟨hx,hi⟩:=ok;have l:=NQ hx nd;have m:ns.idxOf x<ns.length:=List.idxOf_lt_length_iff.mpr hx;refine⟨h.rule,by omega,?_,h.up,λk c=>?_⟩
  .show((FT i (EW (ns.idxOf x) g):Nat):Int)<=((ins (wo ns x) x i).length:Int);rw[RK];unfold FT EW;split <;> split <;> omega
  .show k∈ins (wo ns x) x i;rw[RH,Jw]
   by_cases e:k=x
   .exact .inl e
   .exact .inr ⟨h.sub k c,e⟩
 |turn lo hi=>
  obtain⟨h1,h2⟩:=ok;refine⟨h.rule,by omega,?_,h.up,λk c=>(Zr h1).mpr (h.sub k c)⟩;show((g:Nat):Int)<=((FH ns lo hi).length:Int);rw[jI h1 h2];exact g1
def gF:Sp:=λvs H Q _=>∃(g i:Nat),vs=[.int g,.int i]/\Q (.int (FT i g:Nat)) H
def aj:Sp:=λvs H Q _=>∃(g p:Nat),vs=[.int g,.int p]/\Q (.int (EW p g:Nat)) H
def eP:Sp:=λvs H Q _=>∃(a t:Addr)(ns:List Str)(g:Nat)(d:AO),vs=[.ref a,.int g,.ref t]/\H a=some (.lst (ns.map V.str))/\H t=some (.tup d.vals)/\d.Ok 40 ns/\∀H',A8 H H'->Q (.int (d.gap ns g:Nat)) H'
def cW:Sp:=λvs H Q _=>∃(t:Addr)(r:Str)(g i:Nat)(c:Addr),vs=[.ref t,.int i]/\H t=some (.tup [.str r,.int g,.ref c])/\Q (.bl (DL r g i)) H
theorem TM{g:Int}(h:DM ns r g ss)(ok:d.Ok 40 ns):∀x i,d=.put x i->x∉ss:=by
 rintro x i rfl a;exact ok.2.1 (h.sub x a)
theorem mn(p g:Nat):((g:Int) - (if decide ((p:Int)<(g:Int))=true then 1 else 0))=((EW p g:Nat):Int):=by
 unfold EW
 by_cases h:p<g
 .rw[md h,md (lx (by omega))];omega
 .rw[mY h,mY (by simp;omega)];omega
theorem qI(i g:Nat):((g:Int)+(if decide ((i:Int)<(g:Int))=true then 1 else 0))=((FT i g:Nat):Int):=by
 unfold FT
 by_cases h:i<g
 .rw[md h,md (lx (by omega))];omega
 .rw[mY h,mY (by simp;omega)];omega
noncomputable def AO.kind:AO->Str
 | .put _ _ => "put"
 | .take _ => "take"
 | .move _ _ => "move"
 | .turn _ _ => "turn"
theorem HK(d:AO):Bf d.vals 0=some (.str d.kind):=by cases d <;> rfl
noncomputable def AO.NM(ns:List Str)(g:Nat):AO->Nat
 | .take x=>EW (ns.idxOf x) g
 | .move x _=>EW (ns.idxOf x) g
 |_=>g
theorem pS(g:Nat)(ok:d.Ok 40 ns)(h:ES (.str d.kind) [.str "take",.str "move"]=true):∃x,Bf d.vals 1=some (.str x)/\x∈ns/\d.NM ns g=EW (ns.idxOf x) g:=by
 cases d with
 |put x i=>(simp only[AO.kind]at h;exact absurd h (by decide +kernel))
 |take x=>exact⟨x,rfl,ok,rfl⟩
 |move x i=>exact⟨x,rfl,ok.1,rfl⟩
 |turn lo hi=>(simp only[AO.kind]at h;exact absurd h (by decide +kernel))
theorem uA(g:Nat)(h:¬ ES (.str d.kind) [.str "take",.str "move"]=true):d.NM ns g=g:=by
 cases d with
 |put x i=>rfl
 |take x=>exact absurd (by simp only[AO.kind];decide +kernel) h
 |move x i=>exact absurd (by simp only[AO.kind];decide +kernel) h
 |turn lo hi=>rfl
theorem kx(g:Nat)(h:ES (.str d.kind) [.str "put",.str "move"]=true):∃i:Nat,Bf d.vals 2=some (.int i)/\d.gap ns g=FT i (d.NM ns g):=by
 cases d with
 |put x i=>exact⟨i,rfl,rfl⟩
 |take x=>(simp only[AO.kind]at h;exact absurd h (by decide +kernel))
 |move x i=>exact⟨i,rfl,rfl⟩
 |turn lo hi=>(simp only[AO.kind]at h;exact absurd h (by decide +kernel))
theorem vP(g:Nat)(h:¬ ES (.str d.kind) [.str "put",.str "move"]=true):d.gap ns g=d.NM ns g:=by
 cases d with
 |put x i=>exact absurd (by simp only[AO.kind];decide +kernel) h
 |take x=>rfl
 |move x i=>exact absurd (by simp only[AO.kind];decide +kernel) h
 |turn lo hi=>rfl
noncomputable def AO.Sk(ss:List Str):AO->List Str
 | .take x=>wo ss x
 |_=>ss
theorem vV{r:Str}{g:Nat}(h:decide (V.str d.kind=V.str "take")=true):∃x,Bf d.vals 1=some (.str x)/\d.Sk ss=wo ss x:=by
 cases d with
 |take x=>exact⟨x,rfl,rfl⟩
 |_=>
  have h':=mi h;injection h' with h2
  exact absurd h2 (by simp only[AO.kind];decide +kernel)
theorem ZM(h:¬ decide (V.str d.kind=V.str "take")=true):d.Sk ss=ss:=by
 cases d with
 |take x=>exact absurd (by simp only[AO.kind];decide +kernel) h
 |_=>rfl
theorem US(h:decide (V.str d.kind=V.str "put")=true):∃x i,d=.put x i:=by
 cases d with
 |put x i=>exact⟨x,i,rfl⟩
 |_=>
  have h':=mi h;injection h' with h2
  exact absurd h2 (by simp only[AO.kind];decide +kernel)
theorem ie(h:¬ decide (V.str d.kind=V.str "put")=true):d.Ff r g ss=d.Sk ss:=by
 cases d with
 |put x i=>exact absurd (by simp only[AO.kind];decide +kernel) h
 |_=>rfl
theorem Ww(h:DL r g i=true):AO.Ff r g ss (.put x i)=G2 ss x:=by show(if _ then _ else _)=_;rw[md h]
theorem YO(h:DL r g i=false):AO.Ff r g ss (.put x i)=ss:=by show(if _ then _ else _)=_;rw[mY (by rw[h];decide)]
theorem WD(h:decide (V.str d.kind=V.str "take")=true):∃x,d=.take x:=by
 cases d with
 |take x=>exact⟨x,rfl⟩
 |_=>
  have h':=mi h;injection h' with h2
  exact absurd h2 (by simp only[AO.kind];decide +kernel)
theorem ZAd(h:decide (V.str d.kind=V.str "move")=true):∃x i,d=.move x i:=by
 cases d with
 |move x i=>exact⟨x,i,rfl⟩
 |_=>
  have h':=mi h;injection h' with h2
  exact absurd h2 (by simp only[AO.kind];decide +kernel)
theorem kL(h1:¬ decide (V.str d.kind=V.str "put")=true)(h2:¬ decide (V.str d.kind=V.str "take")=true)(a:¬ decide (V.str d.kind=V.str "move")=true):∃lo hi,d=.turn lo hi:=by
 cases d with
 |put x i=>exact absurd (by simp only[AO.kind];decide +kernel) h1
 |take x=>exact absurd (by simp only[AO.kind];decide +kernel) h2
 |move x i=>exact absurd (by simp only[AO.kind];decide +kernel) a
 |turn lo hi=>exact⟨lo,hi,rfl⟩
theorem yX(h1:¬ decide (V.str d.kind=V.str "put")=true)(h2:¬ decide (V.str d.kind=V.str "take")=true):d.Ff r g ss=ss:=by
 rw[ie h1,ZM h2]
noncomputable def AO.v1:AO->V
 | .put x _=>.str x
 | .take x=>.str x
 | .move x _=>.str x
 | .turn lo _=>.int lo
theorem cP(d:AO):Bf d.vals 1=some d.v1:=by cases d <;> rfl
theorem ZCM(y:Str)(d:AO):Rc (.str y) d.v1=true:=by cases d <;> rfl
noncomputable def AO.made(ns:List Str):AO->List Str
 | .put x _=>wo ns x
 | .take x=>wo ns x
 | .move x _=>wo ns x
 | .turn _ _=>ns
theorem y3(ns:List Str)(d:AO):((ns.map V.str).filter (He d.v1)).map (λv=>v)=(d.made ns).map V.str:=by
 cases d with
 |turn lo hi=>exact oh ns lo
 |_=>exact Oc ns _
theorem zP(ns:List Str)(d:AO):(d.made ns).length<=ns.length:=by
 cases d with
 |turn lo hi=>exact Ap _
 |_=>exact PR _ _
theorem lF(h:decide (V.str d.kind=V.str "turn")=true):∃lo hi,d=.turn lo hi:=by
 cases d with
 |turn lo hi=>exact⟨lo,hi,rfl⟩
 |_=>
  have h':=mi h;injection h' with h2
  exact absurd h2 (by simp only[AO.kind];decide +kernel)
theorem u9(h:¬ (!decide (V.str d.kind=V.str "take"))=true):d.done ns=d.made ns:=by
 have h':decide (V.str d.kind=V.str "take")=true:=by simpa using h
 obtain⟨x,rfl⟩:=WD h';rfl
theorem ZBy(ok:d.Ok 40 ns)(nd:ns.Nodup)(h1:¬ decide (V.str d.kind=V.str "turn")=true)(h2:(!decide (V.str d.kind=V.str "take"))=true):
  ∃(x:Str)(i:Nat),Bf d.vals 2=some (.int i)/\d.v1=.str x/\i<=(d.made ns).length/\d.done ns=ins (d.made ns) x i:=by
 cases d with
 |put x i=>
  refine⟨x,i,rfl,rfl,?_,?_⟩
  .show i<=(wo ns x).length;rw[SK ok.2.1];exact ok.2.2.1
  .show ins ns x i=ins (wo ns x) x i;rw[SK ok.2.1]
 |take x=>exact absurd h2 (by simp only[AO.kind];decide +kernel)
 |move x i=>
  refine⟨x,i,rfl,rfl,?_,rfl⟩;show i<=(wo ns x).length;have:=NQ ok.1 nd;have:=ok.2;omega
 |turn lo hi=>exact absurd (by simp only[AO.kind];decide +kernel) h1
def gP:Sp:=λvs H Q _=>∃r:Str,vs=[.str r]/\r∈FY/\Q .AE H
theorem MG(nd:rs.Nodup)(h:rs[g]?=some x):rs.idxOf x=g:=by
 obtain⟨d,e⟩:=List.getElem?_eq_some_iff.mp h;have hx:x∈rs:=Cr h;have a:rs.idxOf x<rs.length:=List.idxOf_lt_length_iff.mpr hx;have f:rs[rs.idxOf x]=x:=Z3 a;have b:=List.pairwise_iff_getElem.mp nd;rcases ZC (rs.idxOf x) g with c|c|c
 .exact absurd (f.trans e.symm) (b _ _ a d c)
 .exact c
 .exact absurd (e.trans f.symm) (b _ _ d a c)
end Lw
namespace L2
section
variable{X:Cx}{Zb:ZEf}{Z:St}{H2:Hp}{s2:Shared}{elt iter:Expr}{x z:Str}{px pz tp pos:Pos}{tk:Nat}{scope:Scope}{AZ:List Str}{js:List Nat}{te:TE}{J:It}{fp:List Addr}{it:Addr}
 {tn:Nat->Heap->Prop}
end
end L2
namespace Fz
open L2 Lw
variable{E:Ent0}{ss:List Slot}{Z:L2.St}{F F' H H':Hp}{js:List Nat}{ta tb te:TE}{nx:List Slot->Prop}{R:Ar}{i:Nat}{ns:List Int}{wi:TI}{α:Type}
section
variable[Xw]
variable{K:ZEe}{k:PV->Prop}
theorem Sg.Ru(S:Sg E ss Z F H){p:Addr}(hi:ss[i]?=some .AQ)(e:Z[i]?=some (some (.ref p)))(s:BC p H H'):Mv E ss Z F H F H':=by
 obtain⟨g,b,fp,_,f⟩:=S.ok i _ hi;rw[e]at b;cases b;refine S.step (A8.refl _) (λa o q=>s.same a o (E8 q fp) (S.fh a o q)) (λa o n q=>s.same a o (λz=>?_) q) (λa o q=>.inl q) λj l c d=>?_
 .rw[z]at n;exact n i hi e
 .by_cases z:l=p
  .rw[z];exact s.AQ
  .exact Bi.keep (S.EL c d) λo q=>s.same l o z q
theorem w8(hi:ss[i]?=some .AQ)(h:Wp ss te λx=>∃m,x=.int m/\0<m/\m<10 ^ 18/\∀r:Int,0<=r->r<m->k (.int r)):Wp ss (C9 Jv [] E0 (AU (B1 i) (AU te B5))) k:=⟨λE Z F H Q S q=>by
 obtain⟨p,e,_⟩:=S.ok i _ hi;refine⟨_,e,h.go E Z F H _ S λv x F1 H1 a r⟨m,f,d,OW,kk⟩=>?_⟩;subst f;cases r.inv;exact⟨p,m,rfl,a.st.EL hi e,d,OW,λr H2 c b s=>q _ _ F1 H2 (a.trans (a.st.Ru hi e s)) (.int r) (kk r c b)⟩⟩
theorem nX{sp:Sp}{k:List PV->Prop}(G0:sp=Xs)(hi:ss[i]?=some .AQ)(h:Wp ss te λx=>∃m,x=.int m/\1<=m/\m<=100/\∀ns:List Str,(ns.length:Int)<=m->(∀x∈ns,Nm x)->ns.Nodup->k (ns.map PV.str)):Wn ss (C9 sp [] E0 (AU (B1 i) (AU te B5))) k:=⟨λE Z F H Q S q=>by
 subst G0;obtain⟨p,e,_⟩:=S.ok i _ hi;refine⟨_,e,h.go E Z F H _ S λv x F1 H1 a r⟨m,g,d,OW,kk⟩=>?_⟩;subst g;cases r.inv;refine⟨p,m,rfl,a.st.EL hi e,d,OW,λl H2 ns b s Et hz f nd=>?_⟩;have c:=a.st.Ru hi e s;exact q l _ _ F1 H2 (a.trans c) (a.st.Bj b) (a.none b) Et (MF ns) (kk ns hz f nd)⟩
def Co(K:ZEe)(ns:List Int):Hp->V->Prop:=λF v=>∃a,v=.ref a/\AJ K F a (ns.map V.int)
theorem KD(K:ZEe)(ns:List Int):∀(v:V)(F F':Hp),A8 F F'->Co K ns F v->Co K ns F' v:=λv F F' s AG=>by obtain⟨a,e,h⟩:=AG;exact⟨a,e,by
 rcases h with(h|⟨o,h⟩)|h
 .exact .inl (.inl (s _ _ h))
 .exact .inl (.inr ⟨o,s _ _ h⟩)
 .exact .inr h⟩
theorem ZAP(hi:ss[i]?=some (.raw (Co K ns)))(h:k (.int ns.length)):Wp ss (DD (Wf K) (AU (B1 i) B5)) k:=⟨λE Z F H Q S q=>by
 obtain⟨v,e,⟨a,c,b⟩,st⟩:=S.ok i _ hi;subst c;obtain⟨d,ea,Im⟩:=KD K ns _ F H S.fh ⟨a,rfl,b⟩;cases ea;refine⟨_,e,a,_,rfl,.inl Im,?_⟩;rw[AW];exact q _ _ F H (.refl S) (.int _) h⟩
theorem qk{j:Nat}(hi:ss[i]?=some (.raw (Co K ns)))(h:Wp ss te λx=>∃m,x=.int m/\0<=m/\m<=1000/\nx (ss.set j .AQ)):Ws ss (En (C9 (Yp K) [] E0 (AU (B1 i) (AU te B5))) (C7 j)) nx R:=⟨λE D Z F H S hn hr=>by
 obtain⟨v,e,⟨a,w,A⟩,st⟩:=S.ok i _ hi;subst w;refine⟨_,e,h.go E Z F H _ S λv x F1 H1 c r⟨m,y,q,OW,kk⟩=>?_⟩;subst y;cases r.inv;obtain⟨z,f,g,_⟩:=c.st.ok i _ hi;rw[e]at f;cases f;obtain⟨B,ea,Im⟩:=KD K ns _ F1 H1 c.st.fh g;cases ea;refine⟨a,ns,m,rfl,Im,q,OW,λp H2 d s k=>?_⟩;have o:=c.st.grow s;exact hn _ _ F1 H2 kk (o.st.setG ⟨p,rfl,c.st.Bj d,.inl (c.st.Ew d),k⟩ λl e b u _ t n=>by cases e;exact c.st.NC t d n) c.ff⟩
end
section
variable{K:ZEe}
theorem uz{N:List Str}{vs:List V}{Q:VK}{X:XK}{t:TS}(h:P6 K vs H Q X)(hw:∀ns:List Int,ns.length<=63->Ws (.raw (Co K ns)::List.replicate (N.length - 1) .any) t (λ_=>False) (.is λp=>p=.bl true)):t { nx:=λ_ H'=>Q .AE H',rt:=Q } (L2.start N vs) H:=by
 obtain⟨a,ns,rfl,c,Ou,q⟩:=h;have S:Sg (E3 [] H H) [.raw (Co K ns)] [some (.ref a)] H H:=by
  have nn:∀{p:Prop}(a:Addr),a∈([]:List Addr)->p:=λa h=>absurd h B3;refine⟨⟨A8.refl _,A8.refl _,λ_ _ _ e=>e,λ_ _ e=>.inl e,λa h=>nn a h,λa h=>nn a h,λa h=>nn a h,λa h=>nn a h,λa h=>nn a h,λa h=>nn a h⟩,rfl,λi s hi=>?_,λi j s u l HE hi d b=>?_⟩
  .cases i with
   |zero=>cases hi;exact⟨_,rfl,⟨a,rfl,c⟩,KD K ns _⟩
   |succ i=>simp at hi
  .cases i with
   |zero=>cases hi;cases b
   |succ i=>simp at hi
 refine(hw ns Ou).go (Rv (E3 [] H H)) _ _ H H (S.grown _) (λ_ _ _ _ h=>h.elim) λv F' H' f ok=>?_;obtain⟨p,r,rfl⟩:=ok;cases r.inv;exact q H'
end
section
variable[Xw]
variable{K:ZEe}{k:PV->Prop}
theorem Wi.mono{k k':List PV->Prop}(h:Wi ss wi k)(i:∀xs,k xs->k' xs):Wi ss wi k':=⟨λE Z F H R S q=>h.go E Z F H R S λJ xs F' H' m s kk=>q J xs F' H' m s (i xs kk)⟩
theorem ar{tt:TT}{k:List PV->Prop}(c:α->PV)(f:α->Bool)(g:α->PV)
  (h:Wi ss wi λxs=>∃ns:List α,xs=ns.map c/\ns.length<=100000/\(∀x∈ns,Wt (DP js ss++[.is (c x)]) tt λb=>b=f x)/\(∀x∈ns,f x=true->Wp (DP js ss++[.is (c x)]) te λp=>p=g x)/\k ((ns.filter f).map g))
  (inj:∀x y,c x=c y->x=y) (nd:js.Nodup:=by decide) (np:R4 js ss=true:=by rfl):Wn ss (Ks wi js tt te) k:=by
 by_cases hα:Nonempty α
 .obtain⟨j⟩:=hα;have inv:∀p:PV,∃x:α,∀y,c y=p->y=x:=λp=>by
   by_cases q:∃y,c y=p
   .obtain⟨y,a⟩:=q;exact⟨y,λz hz=>inj _ _ (hz.trans a.symm)⟩
   .exact⟨j,λy a=>absurd ⟨y,a⟩ q⟩
  let d:PV->α:=λp=>Classical.choose (inv p)
  have hd:∀x,d (c x)=x:=λx=>(Classical.choose_spec (inv (c x)) x rfl).symm;refine d7 (λp=>f (d p)) (λp=>g (d p)) (h.mono λxs⟨ns,e,hz,h1,h2,kk⟩=>?_) nd np;subst e;refine⟨by rw[AW];exact hz,λx hx=>?_,λx hx i=>?_,?_⟩
  .obtain⟨y,a,rfl⟩:=List.mem_map.mp hx;rw[hd];exact h1 y a
  .obtain⟨y,a,rfl⟩:=List.mem_map.mp hx;rw[hd]at i ⊢;exact h2 y a i
  .have e:((ns.map c).filter λp=>f (d p)).map (λp=>g (d p))=(ns.filter f).map g:=by
    rw[jm,Gp]
    congr 1
    .funext x;show g (d (c x))=g x;rw[hd]
    .congr 1;funext x;show f (d (c x))=f x;rw[hd]
   rw[e];exact kk
 .refine d7 (λ_=>true) (λp=>p) (h.mono λxs⟨ns,e,hz,h1,h2,kk⟩=>?_) nd np;have l:ns=[]:=by
   cases ns with
   |nil=>rfl
   |cons x r=>exact absurd ⟨x⟩ hα
  subst l;subst e;exact⟨by simp,λx hx=>absurd hx (by simp),λx hx=>absurd hx (by simp),kk⟩
theorem str_inj:∀x y:Str,PV.str x=PV.str y->x=y:=λ_ _ e=>by injection e
theorem kd(h:Wp ss ta λp=>∃x,p=.str x/\Wq ss tb λ_ ys=>∃ns:List Str,ys=ns.map PV.str/\k (.bl (decide (x∈ns)))):Wp ss (Br (LD K false) ta tb) k:=eX h
theorem WG(h:Wp ss ta λp=>∃x,p=.str x/\Wq ss tb λ_ ys=>∃ns:List Str,ys=ns.map PV.str/\k (.bl (!decide (x∈ns)))):Wp ss (Br (LD K true) ta tb) k:=eX h
theorem xC(h:Wq ss ta λtp xs=>∃ns:List Str,xs=ns.map PV.str/\Wq ss tb λCD ys=>CD=tp/\∃a:List Str,ys=a.map PV.str/\k (.bl (decide (ns=a)))):Wp ss (Br (Ov K false) ta tb) k:=bC h
theorem cj(h:Wq ss ta λtp xs=>∃ns:List Str,xs=ns.map PV.str/\Wq ss tb λCD ys=>CD=tp/\∃a:List Str,ys=a.map PV.str/\k (.bl (!decide (ns=a)))):Wp ss (Br (Ov K true) ta tb) k:=bC h
theorem ZCn(g:α->Bool)(xs:List α):xs.map (λx=>PV.bl (g x))=(xs.map g).map PV.bl:=by rw[Gp];rfl
end
end Fz
namespace Fz
open L2 Lw
variable{xs:List PV}{i:Nat}
section
variable[Xw]
variable{E:Ent0}{ss:List Slot}{Z:L2.St}{F H F' H':Hp}{K:ZEe}{js:List Nat}{ta tb te:TE}{k:PV->Prop}{nx:List Slot->Prop}{R:Ar}{ys:List PV}
theorem jN(h:Wq ss ta λtp xs=>tp=false/\∃ns:List Str,xs=ns.map PV.str/\Wp ss tb λp=>∃x,p=.str x/\x∈ns/\k (.int (ns.idxOf x:Nat))):Wp ss (NW K "list" (b9 K) ta (AU tb B5)) k:=⟨λE Z F H Q S q=>
 h.go E Z F H _ S λv tp xs F1 H1 b sv⟨g,ns,e,h2⟩=>by
  subst e;subst g;obtain⟨l,vs,rfl,f,r⟩:=sv.seq b.st;refine⟨.inl ⟨rfl,_,AJ.of f⟩,h2.go E Z F1 H1 _ b.st λm p2 F2 H2 a c⟨x,i,hx,kk⟩=>?_⟩;subst i;cases c.inv;obtain⟨n,C5,j,DG,d⟩:=(sv.mv a).seq a.st;cases j;rw[d.strs]at DG;exact⟨l,ns,x,rfl,rfl,AJ.of DG,hx,q _ _ F2 H2 (b.trans a) (.int _) kk⟩⟩
noncomputable def Kf(xs:List PV):List PV:=(List.range xs.length).map λi:Nat=>.tup [.int (i:Int),xs.getD i .AE]
theorem SX(xs:List PV):(Kf xs).length=xs.length:=by simp[Kf]
theorem ik{x:PV}(h:xs[i]?=some x):(Kf xs)[i]?=some (.tup [.int (i:Int),x]):=by
 have hi:i<xs.length:=(List.getElem?_eq_some_iff.mp h).1;unfold Kf;rw[BG,Sr hi];show some (PV.tup [PV.int (i:Int),xs.getD i PV.AE])=_;rw[N4,h];rfl
theorem ZCo{p:PV}(h:(Kf xs)[i]?=some p):∃x,xs[i]?=some x/\p=.tup [.int (i:Int),x]:=by
 have hi:i<xs.length:=by have:=(List.getElem?_eq_some_iff.mp h).1;rwa [SX]at this
 have e:=BA hi;refine⟨xs[i],e,?_⟩;rw[ik e]at h;exact(BL h).symm
theorem tT{r:List V->Hp->VK->Prop}(hr:r=λxs H Q=>(∃i,xs=[.int i]/\Q (.int i) H)∨∃k,xs=[.bl k]/\Q (.int (if k then 1 else 0)) H)(h:Wp ss te λp=>∃b,p=.bl b/\k (.int (if b then 1 else 0))):Wp ss (DD r (AU te B5)) k:=⟨λE Z F H Q S q=>
 h.go E Z F H _ S λv p F1 H1 a r AG=>by
  obtain⟨b,e,kk⟩:=AG;subst hr;subst e;cases r.inv;exact .inr ⟨b,rfl,q _ _ F1 H1 a (.int _) kk⟩⟩
end
theorem ED{c A B:Prop}[Decidable c](h:c)(a:A):if c then A else B:=by rw[md h];exact a
end Fz
namespace L2
theorem ZCJ{X:Cx}{tg:Expr}{a b:Expr}{ta:TA}{p pos:Pos}(u:Gl X "range")(o:X.mg "range"=none)(f:QA X [a,b] ta)(hs:starEach [a,b] X.env=[(false,eval a X.env),(false,eval b X.env)]:=by rfl)(CU:starEach [b] X.env=[(false,eval b X.env)]:=by rfl):QI X tg (.Call (.Name "range" p) [a,b] [] pos) (TV ta):=⟨by
 have f:=f.h;intro Zb s Z H R I h;refine Call_ (Jj I u o boot_range (Pa (AR (f pos Zb s Z H _ I h) λus s1⟨vs,H1,I1,g,d⟩=>?_) (by rw[hs,CU]) (by rw[CU];rfl)));obtain⟨i,j,e,⟨d,n,m,l⟩,q⟩:=d;subst e;cases g with
 |cons r c=>
  cases c with
  |cons k c=>
   cases c;obtain⟨t,rfl⟩:=r;obtain⟨t',rfl⟩:=k;exact call_range_2 (aU I1 d n m l q)⟩
end L2
namespace Fz
open L2 Lw
variable{d:AO}{t:Addr}
section
variable[Xw]
variable{E:Ent0}{ss:List Slot}{Z:L2.St}{F H F' H':Hp}{K:ZEe}{js:List Nat}{ta tb tc te:TE}{k:PV->Prop}{nx:List Slot->Prop}{R:Ar}{xs ys:List PV}
noncomputable def L9(i:Int)(n:Nat):List PV:=(List.range n).map λj:Nat=>PV.int (i+(j:Int))
theorem OA(i:Int)(n:Nat):(L9 i n).length=n:=by simp[L9]
theorem zZ{i:Int}{n j:Nat}{p:PV}(h:(L9 i n)[j]?=some p):j<n/\p=.int (i+(j:Int)):=by
 have a:j<n:=by have:=(List.getElem?_eq_some_iff.mp h).1;rwa [OA]at this
 unfold L9 at h;rw[BG,Sr a]at h;exact⟨a,(BL h).symm⟩
theorem ZBG{k:List PV->Prop}(h:Wp ss ta λp=>∃i:Int,p=.int i/\Wp ss tb λp=>∃j:Int,p=.int j/\(i<=1000000/\-1000000<=i/\j<=1000000/\-1000000<=j)/\k (L9 i (j - i).toNat)):Wi ss (TV (AU ta (AU tb B5))) k:=⟨λE Z F H R S q=>
 h.go E Z F H _ S λv p F1 H1 a r AG=>by
  obtain⟨i,e,h2⟩:=AG;subst e;cases r.inv;exact h2.go E Z F1 H1 _ a.st λf p2 F2 H2 c b DJ=>by
   obtain⟨j,d,g,kk⟩:=DJ;subst d;cases b.inv;refine⟨i,j,rfl,by omega,q _ (L9 i (j - i).toNat) F2 H2 (a.trans c) ⟨λss Z F H n s S hn=>?_,λss Z F H s S=>?_,λss Z F H n x H' s S hn y=>?_⟩ kk⟩
   .rw[OA]at hn;exact hn
   .show _<=_;rw[OA];exact Ap _
   .obtain⟨e,hx⟩:=y;subst e;subst hx;rw[OA]at hn;refine⟨.int (i+(n:Int)),F,?_,.refl S,.int _⟩;unfold L9;rw[BG,Sr hn];rfl⟩
noncomputable def dP:AO->PV
 | .put x i=>.tup [.str "put",.str x,.int i]
 | .take x=>.tup [.str "take",.str x]
 | .move x i=>.tup [.str "move",.str x,.int i]
 | .turn lo hi=>.tup [.str "turn",.int lo,.int hi]
theorem yo(h:F t=some (.tup d.vals)):Rep F (.ref t) (dP d):=by
 cases d with
 |put x i=>exact .tup h (.cons (.str _) (.cons (.str _) (.one (.int _))))
 |take x=>exact .tup h (.cons (.str _) (.one (.str _)))
 |move x i=>exact .tup h (.cons (.str _) (.cons (.str _) (.one (.int _))))
 |turn lo hi=>exact .tup h (.cons (.str _) (.cons (.int _) (.one (.int _))))
theorem SM{v:V}(r:Rep F v (dP d)):∃t,v=.ref t/\F t=some (.tup d.vals):=by
 cases d <;> (obtain⟨a,vs,rfl,h,b⟩:=r.inv;cases b.enc rfl;exact⟨a,rfl,h⟩)
theorem Sg.adopt(S:Sg E ss Z F H)(m:Mv E ss Z F H F H'){o:HO}(b:H t=none)(e:H' t=some o):Mv E ss Z F H (upd F t o) H':=by
 have fn:=S.Bj b;refine S.step (Ah fn o) (λa u q=>?_) m.hh (λa u q=>?_) λi l hi c=>m.st.EL hi c
 .by_cases z:a=t
  .subst z;rw[AH]at q;rw[<- q];exact e
  .rw[Af z]at q;exact m.st.fh a u q
 .by_cases z:a=t
  .subst z;exact .inr b
  .rw[Af z]at q;exact .inl q
theorem iM{i:Nat}(hi:ss[i]?=some .AQ)(h:Wq ss ta λtp xs=>tp=false/\∃ns:List Str,xs=ns.map PV.str/\Wp ss tb λp=>∃m:Nat,p=.int m/\(∀x∈ns,Nm x)/\ns.length<=m/\1<=m/\m<=100/\∀d:AO,d.Ok m ns->k (dP d)):
  Wp ss (C9 QJ [] E0 (AU (B1 i) (AU ta (AU tb B5)))) k:=⟨λE Z F H Q S q=>by
 obtain⟨p,e,_⟩:=S.ok i _ hi;refine⟨_,e,h.go E Z F H _ S λv tp xs F1 H1 b sv⟨w,ns,ex,h2⟩=>h2.go E Z F1 H1 _ b.st λB p2 F2 H2 a f⟨m,y,n,hz,h1,o,kk⟩=>?_⟩;subst w;subst ex;subst y;cases f.inv;obtain⟨l,vs,u,hn,c,r⟩:=sv.mv a;subst u;rw[r.strs]at c;refine⟨p,l,m,ns,rfl,a.st.EL hi e,c,λz=>hn i hi (z▸e),n,hz,h1,o,λd t H3 j s A hd=>?_⟩;have g:=a.st.adopt (a.st.Ru hi e s) j A;exact q _ _ _ H3 (b.trans (a.trans g)) (yo AH) (kk d hd)⟩
theorem cw{k:List PV->Prop}(h:Wq ss ta λtp xs=>tp=false/\∃ns:List Str,xs=ns.map PV.str/\Wp ss tb λp=>∃d:AO,p=dP d/\d.Ok 40 ns/\ns.length<=40/\ns.Nodup/\k ((d.done ns).map PV.str)):
  Wn ss (C9 XC [] E0 (AU ta (AU tb B5))) k:=⟨λE Z F H Q S q=>
 h.go E Z F H _ S λv tp xs F1 H1 c sv⟨e,ns,ex,h2⟩=>h2.go E Z F1 H1 _ c.st λw p2 F2 H2 b i⟨d,o,hd,hz,nd,kk⟩=>by
  subst e;subst ex;subst o;obtain⟨l,vs,n,f,r⟩:=(sv.mv b).seq b.st;subst n;rw[r.strs]at f;obtain⟨t,e,m⟩:=SM i;subst e;refine⟨l,t,ns,d,rfl,f,b.st.fh _ _ m,hd,hz,nd,λa H3 g s u=>?_⟩;have j:=b.st.grow s;exact q a _ _ F2 H3 (c.trans (b.trans j)) (b.st.Bj g) ((c.trans b).none g) u (MF _) kk⟩
end
end Fz
namespace Lw
open L2
variable{c t:Addr}{r:Str}{g:Int}{ss:List Str}
def dB:Sp:=λvs H Q _=>∃(a t:Addr)(tp:Bool)(ns:List Str)(g:Nat)(d:AO),vs=[.ref a,.int g,.ref t]/\H a=some (BU tp (ns.map V.str))/\H t=some (.tup d.vals)/\d.Ok 40 ns/\Q (.int (d.gap ns g:Nat)) H
def Dg(H:Hp)(t c:Addr)(r:Str)(g:Int)(ss:List Str):Prop:=H t=some (.tup [.str r,.int g,.ref c])/\H c=some (.tup (ss.map V.str))
theorem Dg.h{H:Hp}(h:Dg H t c r g ss):WR H t r g ss:=⟨c,h⟩
theorem Dg.same{H H':Hp}(s:A8 H H')(h:Dg H t c r g ss):Dg H' t c r g ss:=⟨s _ _ h.1,s _ _ h.2⟩
def bG:Sp:=λvs H Q _=>∃(tl td c0:Addr)(r:Str)(g:Nat)(ss:List Str)(d:AO),vs=[.ref tl,.ref td]/\Dg H tl c0 r g ss/\H td=some (.tup d.vals)/\ss.length<=60/\Up ss/\(∀x i,d=.put x i->x∉ss)/\
 ∀c H',(H c=none∨c=c0)->A8 H H'->H' c=some (.tup ((d.Ff r g ss).map V.str))->Q (.ref c) H'
def Xy:Sp:=λvs H Q _=>∃(a tl td c0:Addr)(tp:Bool)(ns:List Str)(r:Str)(g:Nat)(ss:List Str)(d:AO),vs=[.ref a,.ref tl,.ref td]/\H a=some (BU tp (ns.map V.str))/\Dg H tl c0 r g ss/\H td=some (.tup d.vals)/\d.Ok 40 ns/\DM ns r g ss/\ns.length<=40/\
 ∀t' b H',H t'=none->(H b=none∨b=c0)->A8 H H'->Dg H' t' b r (d.gap ns g:Nat) (d.Ff r g ss)->Q (.ref t') H'
def W8:Sp:=λvs H Q _=>∃(a tl td c0:Addr)(ns:List Str)(r:Str)(g:Nat)(ss:List Str)(d:AO),vs=[.ref a,.ref tl,.ref td]/\H a=some (.lst (ns.map V.str))/\Dg H tl c0 r g ss/\H td=some (.tup d.vals)/\d.Ok 40 ns/\DM ns r g ss/\ns.length<=40/\
 ∀t' b H',H t'=none->(H b=none∨b=c0)->A8 H H'->Dg H' t' b r (d.gap ns g:Nat) (d.Ff r g ss)->Q (.ref t') H'
def U4(K:ZEe):Sp:=λvs H Q _=>∃(a:Addr)(tp:Bool)(ns:List Str)(t:Addr)(r:Str)(g:Nat)(ss:List Str)(x:Str),vs=[.ref a,.ref t,.str x]/\H a=some (BU tp (ns.map V.str))/\WR H t r g ss/\ss.length<64/\x∈ns/\
 ∀t' b H',H t'=none->H b=none->A8 H H'->Dg H' t' b r ((ns.idxOf x:Nat)+1) (wo ss x)->Q (.ref t') H'
def gi(H H':Hp)(t' t:Addr)(ns:List Str)(r:Str)(g:Nat)(ss:List Str):Prop:=
 (FE ns g ss=[]/\H' t'=some (.tup [.AE,.ref t]))∨∃x Fy t2 a,FE ns g ss=x::Fy/\H t2=none/\H a=none/\H' t'=some (.tup [.str x,.ref t2])/\Dg H' t2 a r ((ns.idxOf x:Nat)+1) (wo ss x)
def Xj:Sp:=λvs H Q _=>∃(a:Addr)(ns:List Str)(t:Addr)(r:Str)(g:Nat)(ss:List Str),vs=[.ref a,.ref t]/\H a=some (.lst (ns.map V.str))/\WR H t r g ss/\ss.length<64/\ns.length<=1000/\
 ∀t' H',H t'=none->A8 H H'->gi H H' t' t ns r g ss->Q (.ref t') H'
def UE(K:ZEe):Sp:=λvs H Q _=>∃(a:Addr)(tp:Bool)(ns:List Str)(r:Str),vs=[.ref a,.str r]/\Df K tp H a (ns.map V.str)/\r∈FY/\ns.length<64/\∀t c H' ts,H t=none->H c=none->A8 H H'->ts.Perm ns->sortedS ts=true->Dg H' t c r (0:Nat) ts->Q (.ref t) H'
end Lw
namespace Fz
open L2 Lw
variable{E:Ent0}{ss:List Slot}{Z:L2.St}{F F' F0 F1 H H' H0:Hp}{js m p:List Nat}{ta tb tc te ti:TE}{nx:List Slot->Prop}{R:Ar}{n t u x y:OV}{o:HO}{v:V}{r:Str}{g i j:Nat}{cs ns:List Str}{a b c:Addr}{bg ps xs ys:List PV}{C5 vs ws:List V}{A:Around}{A5 Bd:List Value}{CD tp:Bool}{q:PV}{tr:TA}{us:List OV}{pre:Pre}
def CY(r:Str)(g:Nat)(ss:List Str):PV:=.tup [.str r,.int g,.tup (ss.map .str)]
section
variable[Xw]
variable{K:ZEe}{k:PV->Prop}
theorem Mv.adopt(m:Mv E ss Z F H F1 H')(S:Sg E ss Z F H){t:Addr}(c:H t=Option.none)(e:H' t=some o):Mv E ss Z F H (upd F1 t o) H':=by
 have b:A8 F1 (upd F1 t o):=λa u q=>by
  by_cases z:a=t
  .subst z;have w:=m.st.fh _ _ q;rw[e]at w;rw[AH];exact w
  .rw[Af z];exact q
 refine S.step (m.ff.trans b) (λa u q=>?_) m.hh (λa u q=>?_) λi l hi d=>m.st.EL hi d
 .by_cases z:a=t
  .subst z;rw[AH]at q;rw[<- q];exact e
  .rw[Af z]at q;exact m.st.fh a u q
 .by_cases z:a=t
  .subst z;exact .inr c
  .rw[Af z]at q;exact m.nn a u q
theorem SG(h:Rep F v (CY r g cs)):∃t c,v=.ref t/\Dg F t c r g cs:=by
 obtain⟨_,_,rfl,e,q⟩:=h.inv;obtain⟨_,_,rfl,a,q⟩:=q.inv;obtain⟨_,_,rfl,b,q⟩:=q.inv;obtain⟨_,_,rfl,c,q⟩:=q.inv;cases q;cases a;cases b;obtain⟨_,_,rfl,d,f⟩:=c.inv;rw[f.strs]at d;exact⟨_,_,rfl,e,d⟩
theorem VE{t:Addr}(h:Dg F t c r g cs):Rep F (.ref t) (CY r g cs):=.tup h.1 (.cons (.str _) (.cons (.int _) (.one (.tup h.2 (MF cs)))))
theorem Mv.Qp(m:Mv E ss Z F H F1 H')(S:Sg E ss Z F H){t c0:Addr}(j:H t=Option.none)(d:H c=Option.none∨c=c0)(k:F c0=some o)(e:Dg H' t c r g cs):∃F2,Mv E ss Z F H F2 H'/\A8 F1 F2/\Rep F2 (.ref t) (CY r g cs):=by
 have b:∃F2,Mv E ss Z F H F2 H'/\A8 F1 F2/\F2 c=some (.tup (cs.map V.str)):=by
  rcases d with d|rfl
  .refine⟨_,m.adopt S d e.2,λa u q=>?_,AH⟩
   by_cases z:a=c
   .subst z;have w:=m.st.fh _ _ q;rw[e.2]at w;rw[AH];exact w
   .rw[Af z];exact q
  .refine⟨F1,m,A8.refl _,?_⟩;have w:=m.ff _ _ k;have f:=m.st.fh _ _ w;rw[e.2]at f;rw[w,<- f]
 obtain⟨F2,i,s2,KQ⟩:=b;have h:A8 F2 (upd F2 t (.tup [.str r,.int g,.ref c])):=λa u q=>by
  by_cases z:a=t
  .subst z;have w:=i.st.fh _ _ q;rw[e.1]at w;rw[AH];exact w
  .rw[Af z];exact q
 exact⟨_,i.adopt S j e.1,s2.trans h,VE ⟨AH,h _ _ KQ⟩⟩
theorem mh(h:Wq ss ta λtp xs=>∃ns:List Str,xs=ns.map PV.str/\Wp ss tb λp=>∃(r:Str)(g:Nat)(cs:List Str),p=CY r g cs/\Wp ss tc λp2=>∃d:AO,p2=dP d/\d.Ok 40 ns/\DM ns r g cs/\ns.length<=40/\k (CY r (d.gap ns g) (d.Ff r g cs))):
  Wp ss (C9 Xy [] E0 (AU ta (AU tb (AU tc B5)))) k:=⟨λE Z F H Q S q=>
 h.go E Z F H _ S λv tp xs F1 H1 c sv⟨ns,ex,h2⟩=>h2.go E Z F1 H1 _ c.st λB p2 F2 H2 b n⟨r,g,cs,x,u⟩=>u.go E Z F2 H2 _ b.st λA C F3 H3 a m⟨d,y,hd,w,hz,kk⟩=>by
  subst ex;subst x;subst y;obtain⟨l,vs,rfl,f,i⟩:=(sv.mv (b.trans a)).seq a.st;rw[i.strs]at f;obtain⟨tl,c0,rfl,e⟩:=SG (n.mono a.ff);obtain⟨t,rfl,s⟩:=SM m;refine⟨l,tl,t,c0,tp,ns,r,g,cs,d,rfl,f,e.same a.st.fh,a.st.fh _ _ s,hd,w,hz,λt' D H4 GR Fh s4 z=>?_⟩;obtain⟨F4,o,_,j⟩:=(a.st.grow s4).Qp a.st GR Fh e.2 z;exact q _ _ F4 H4 (c.trans (b.trans (a.trans o))) j kk⟩
theorem sZ(h:Wq ss ta λtp xs=>tp=false/\∃ns:List Str,xs=ns.map PV.str/\Wp ss tb λp=>∃(r:Str)(g:Nat)(cs:List Str),p=CY r g cs/\Wp ss tc λp2=>∃d:AO,p2=dP d/\d.Ok 40 ns/\DM ns r g cs/\ns.length<=40/\k (CY r (d.gap ns g) (d.Ff r g cs))):
  Wp ss (C9 W8 [] E0 (AU ta (AU tb (AU tc B5)))) k:=⟨λE Z F H Q S q=>
 h.go E Z F H _ S λv tp xs F1 H1 c sv⟨x,ns,ex,h2⟩=>h2.go E Z F1 H1 _ c.st λC p2 F2 H2 b n⟨r,g,cs,y,u⟩=>u.go E Z F2 H2 _ b.st λB D F3 H3 a m⟨d,z,hd,w,hz,kk⟩=>by
  subst x;subst ex;subst y;subst z;obtain⟨l,vs,rfl,f,i⟩:=(sv.mv (b.trans a)).seq a.st;rw[i.strs]at f;obtain⟨tl,c0,rfl,e⟩:=SG (n.mono a.ff);obtain⟨t,rfl,s⟩:=SM m;refine⟨l,tl,t,c0,ns,r,g,cs,d,rfl,f,e.same a.st.fh,a.st.fh _ _ s,hd,w,hz,λt' G H4 GR Fh s4 A=>?_⟩;obtain⟨F4,o,_,j⟩:=(a.st.grow s4).Qp a.st GR Fh e.2 A;exact q _ _ F4 H4 (c.trans (b.trans (a.trans o))) j kk⟩
def LZ(ns:List Str)(r:Str)(g:Nat)(cs:List Str):PV:=match FE ns g cs with
 | []=>.tup [.AE,CY r g cs]
 |x::_=>.tup [.str x,CY r (ns.idxOf x+1) (wo cs x)]
theorem Mv.vN(m:Mv E ss Z F H F1 H')(S:Sg E ss Z F H){t t':Addr}(d:H t'=Option.none)(i:Dg F t c r g cs)(e:gi H H' t' t ns r g cs):∃F2,Mv E ss Z F H F2 H'/\Rep F2 (.ref t') (LZ ns r g cs):=by
 rcases e with⟨f,e⟩|⟨x,Fy,t2,n,f,h2,l,e,k⟩
 .refine⟨_,m.adopt S d e,?_⟩;have b:=(m.adopt S d e).ff;unfold LZ;rw[f];exact .tup AH (.cons .AE (.one (VE (i.same b))))
 .have o:Dg H' t2 n r ((ns.idxOf x+1:Nat):Int) (wo cs x):=k;obtain⟨F2,h,_,j⟩:=m.Qp S h2 (.inl l) i.1 o;refine⟨_,h.adopt S d e,?_⟩;have b:A8 F2 (upd F2 t' (.tup [.str x,.ref t2])):=λa u q=>by
   by_cases z:a=t'
   .subst z;have w:=h.st.fh _ _ q;rw[e]at w;rw[AH];exact w
   .rw[Af z];exact q
  unfold LZ;rw[f];exact .tup AH (.cons (.str _) (.one (j.mono b)))
theorem xD(h:Wq ss ta λtp xs=>tp=false/\∃ns:List Str,xs=ns.map PV.str/\Wp ss tb λp=>∃(r:Str)(g:Nat)(cs:List Str),p=CY r g cs/\DM ns r g cs/\ns.length<=60/\k (LZ ns r g cs)):
  Wp ss (C9 Xj [] E0 (AU ta (AU tb B5))) k:=⟨λE Z F H Q S q=>
 h.go E Z F H _ S λv tp xs F1 H1 b sv⟨o,ns,ex,h2⟩=>h2.go E Z F1 H1 _ b.st λu p2 F2 H2 a j⟨r,g,cs,s,n,hz,kk⟩=>by
  subst o;subst ex;subst s;obtain⟨l,vs,rfl,e,f⟩:=(sv.mv a).seq a.st;rw[f.strs]at e;obtain⟨tl,c0,rfl,c⟩:=SG j;have d:=n.len;refine⟨l,ns,tl,r,g,cs,rfl,e,(c.same a.st.fh).h,by omega,by omega,λt' H4 GR s4 t=>?_⟩;obtain⟨F4,m,i⟩:=(a.st.grow s4).vN a.st GR c t;exact q _ _ F4 H4 (b.trans (a.trans m)) i kk⟩
theorem nJ(h:Wq ss ta λtp xs=>∃ns:List Str,xs=ns.map PV.str/\Wp ss tb λp=>∃r:Str,p=.str r/\r∈FY/\ns.length<64/\∀ts:List Str,ts.Perm ns->sortedS ts=true->k (CY r 0 ts)):
  Wp ss (C9 (UE K) [] E0 (AU ta (AU tb B5))) k:=⟨λE Z F H Q S q=>
 h.go E Z F H _ S λv tp xs F1 H1 c sv⟨ns,ex,h2⟩=>h2.go E Z F1 H1 _ c.st λt p2 F2 H2 a i⟨r,o,hr,hz,kk⟩=>by
  subst ex;subst o;cases i.inv;obtain⟨l,vs,rfl,d,f⟩:=(sv.mv a).seq a.st;rw[f.strs]at d;refine⟨l,tp,ns,r,rfl,BU.sq d,hr,hz,λt' e H4 ts GR Fh s4 j st s=>?_⟩;have b:Dg H4 t' e r ((0:Nat):Int) ts:=s;have n:=(a.st.grow s4).adopt a.st Fh b.2;obtain⟨F4,m,_,g⟩:∃F4,Mv E ss Z F2 H2 F4 H4/\True/\Rep F4 (.ref t') (CY r 0 ts):=by
   refine⟨_,n.adopt a.st GR b.1,trivial,VE ⟨AH,?_⟩⟩
   by_cases z:e=t'
   .subst z;rw[AH];exact b.1.symm.trans b.2
   .rw[Af z,AH]
  exact q _ _ F4 H4 (c.trans (a.trans m)) g (kk ts j st)⟩
theorem jW{n:Nat}(h:j<n):GU n (j:Int)=some j:=by
 unfold GU;simp;omega
theorem Ad.set:∀{xs:List PV}(j:Nat){v:V}{p:PV},Ad F vs xs->Rep F v p->Ad F (vs.set j v) (xs.set j p):=by
 intro xs
 induction vs generalizing xs with
 |nil=>intro j v p h r;cases h;exact .nil
 |cons a vs c=>
  intro j v p h r;cases h with
  |cons b t=>
   cases j with
   |zero=>exact .cons r t
   |succ j=>exact .cons b (c j t r)
end
mutual
def C4:PV->PV->Bool
 | .lst xs,.lst ys=>Cm xs ys
 | .tup xs,.tup ys=>Cm xs ys
 | .tup xs,.con _ ys=>Cm xs ys
 | .con _ xs,.tup ys=>Cm xs ys
 | .con _ xs,.con _ ys=>Cm xs ys
 | .AE,.AE=>true
 | .bl a,.bl b=>a == b
 | .bl a,.int b=>(if a then 1 else 0) == b
 | .int a,.bl b=>a == (if b then 1 else 0)
 | .int a,.int b=>a == b
 | .str a,.str b=>a == b
 |_,_=>false
def Cm:List PV->List PV->Bool
 | [],[]=>true
 |x::r,y::t=>C4 x y && Cm r t
 |_,_=>false
end
theorem S8(x y:PV)(r t:List PV):Cm (x::r) (y::t)=(C4 x y && Cm r t):=by rw[Cm]
theorem XR:∀(xs ys:List PV),xs.length≠ys.length->Cm xs ys=false
 | [],[],h=>absurd rfl h
 | [],_::_,_=>by rw[Cm];all_goals simp
 |_::_,[],_=>by rw[Cm];all_goals simp
 |x::r,y::t,h=>by rw[S8,XR r t (by simpa using h),Yt]
theorem UT:∀(xs ys:List PV),xs.length=ys.length->Cm xs ys=(List.range xs.length).all λj=>C4 (xs.getD j .AE) (ys.getD j .AE)
 | [],[],_=>by rw[Cm];rfl
 |x::r,y::t,h=>by
  rw[S8,UT r t (by simpa using h),Cc,List.range_succ_eq_map,So,List.all_map]
  rfl
def dat(K:ZEe):Nat->PV->Prop
 |_,.AE=>True
 |_,.bl _=>True
 |_,.int _=>True
 |_,.str _=>True
 |d+1,.lst xs=>∀x∈xs,dat K d x
 |d+1,.tup xs=>∀x∈xs,dat K d x
 |d+1,.con a xs=>(∀x∈xs,dat K d x)/\xs.all flat=true/\∀H,AA K H a (xs.map Fz.enc)
 |_,_=>False
inductive GQ (K:ZEe) (H:Hp):V->PV->Bool->Addr->List V->List PV->Prop where
 |lst {a:Addr}{vs:List V}{xs:List PV}:AJ K H a vs->Ad H vs xs->GQ K H (.ref a) (.lst xs) false a vs xs
 |tup {a:Addr}{vs:List V}{xs:List PV}:AA K H a vs->Ad H vs xs->GQ K H (.ref a) (.tup xs) true a vs xs
 |con {a:Addr}{vs:List V}{xs:List PV}:AA K H a vs->Ad H vs xs->GQ K H (.ref a) (.con a xs) true a vs xs
theorem G9{K:ZEe}:∀{d:Nat}{x:V}{p:PV},dat K d p->Rep H x p->(flat p=true/\x=Fz.enc p)∨∃d' tp a vs xs,d=d'+1/\GQ K H x p tp a vs xs/\∀y∈xs,dat K d' y:=by
 intro d x p h r;cases r with
 |AE=>exact .inl ⟨rfl,rfl⟩
 |bl b=>exact .inl ⟨rfl,rfl⟩
 |int b=>exact .inl ⟨rfl,rfl⟩
 |str b=>exact .inl ⟨rfl,rfl⟩
 |lst e r=>cases d with
  |zero=>exact h.elim
  |succ d=>exact .inr ⟨d,_,_,_,_,rfl,.lst (AJ.of e) r,h⟩
 |tup e r=>cases d with
  |zero=>exact h.elim
  |succ d=>exact .inr ⟨d,_,_,_,_,rfl,.tup (AA.of e) r,h⟩
 |con=>cases d with
  |zero=>exact h.elim
  |succ d=>obtain⟨h1,h2,c⟩:=h;exact .inr ⟨d,_,_,_,_,rfl,.con (c H) (iQ h2),h1⟩
 |Ai _ _ _=>cases d <;> exact h.elim
 |obj _ _ _ _=>cases d <;> exact h.elim
 |R7 _=>cases d <;> exact h.elim
 |exc _ _ _ _=>cases d <;> exact h.elim
section
variable{X:Cx}{Zb:ZEf}{s:Shared}
theorem ZA1(d:Vals vs A5)(c:Vals ws Bd)(f:Ad H vs xs)(e:Ad H ws ys)
  (h:∀(x y:V)(p q:PV)(u v:Value),p∈xs->q∈ys->Rep H x p->Rep H y q->RelV x u->RelV y v->SeqAt.EqAt A s u v (C4 p q)) :
  ∀j(h1:j<A5.toArray.size)(h2:j<Bd.toArray.size),SeqAt.EqAt A s A5.toArray[j] Bd.toArray[j] ((λj=>C4 (xs.getD j .AE) (ys.getD j .AE)) j):=λj h1 h2=>by
 have l1:=d.length;have l2:=c.length;have D:=f.length;have C:=e.length;have B:j<A5.length:=by simpa using h1
 have z:j<Bd.length:=by simpa using h2
 have b:j<xs.length:=by omega
 have a:j<ys.length:=by omega
 obtain⟨x,hx,m⟩:=f.get (i:=j) (p:=xs[j]) (BA b);obtain⟨y,r,l⟩:=e.get (i:=j) (p:=ys[j]) (BA a);obtain⟨u,k,o⟩:=d.get hx;obtain⟨v,g,n⟩:=c.get r;rw[BA B]at k;rw[BA z]at g;have t:A5[j]=u:=BL k;have w:Bd[j]=v:=BL g;have q:=h x y _ _ u v (PQ b) (PQ a) m l o n;rw[<- t,<- w]at q;show SeqAt.EqAt A s _ _ (C4 (xs.getD j .AE) (ys.getD j .AE));rw[N4,BA b,N4,BA a]
 simpa using q
theorem SV{p:PV}{x:V}(h:GQ X.K H x p tp a vs xs)(f:flat q=true):C4 p q=false/\C4 q p=false:=by
 cases h <;> cases q <;> first|exact Bool.noConfusion f|exact⟨rfl,rfl⟩
theorem WT{p:PV}{x y:V}(h:GQ X.K H x p tp a vs xs)(h2:GQ X.K H y q CD b ws ys):C4 p q=(if tp=CD then Cm xs ys else false):=by
 cases h <;> cases h2 <;> rfl
theorem Sd{p:PV}(h:flat p=true)(h2:flat q=true):C4 p q=Dl (Fz.enc p) (Fz.enc q):=by
 cases p <;> cases q <;> first|exact Bool.noConfusion h|exact Bool.noConfusion h2|rfl
theorem ZCm{p:PV}{u v:Value}(h:flat p=true)(h2:flat q=true)(b:RelV (Fz.enc p) u)(a:RelV (Fz.enc q) v):SeqAt.RcAt A s u v (C4 p q)/\SeqAt.RcNeAt A s u v (!C4 p q):=by
 cases p <;> first|exact Bool.noConfusion h|skip
 all_goals cases q <;> first|exact Bool.noConfusion h2|skip
 .cases b;cases a;exact⟨.none_none,.none_none⟩
 .cases b;cases a;exact⟨.none_bool _,.none_bool _⟩
 .cases b;obtain⟨t,rfl⟩:=a;exact⟨.none_int _ _,.none_int _ _⟩
 .cases b;obtain⟨t,rfl⟩:=a;exact⟨.none_str _ _,.none_str _ _⟩
 .cases b;cases a;exact⟨.bool_none _,.bool_none _⟩
 .cases b;cases a;exact⟨.bool_bool _ _,.bool_bool _ _⟩
 .cases b;obtain⟨t,rfl⟩:=a;exact⟨.bool_int _ _ _,.bool_int _ _ _⟩
 .cases b;obtain⟨t,rfl⟩:=a;exact⟨.bool_str _ _ _,.bool_str _ _ _⟩
 .obtain⟨t,rfl⟩:=b;cases a;exact⟨.int_none _ _,.int_none _ _⟩
 .obtain⟨t,rfl⟩:=b;cases a;exact⟨.int_bool _ _ _,.int_bool _ _ _⟩
 .obtain⟨t,rfl⟩:=b;obtain⟨t2,rfl⟩:=a;exact⟨.int_int _ _ _ _,.int_int _ _ _ _⟩
 .obtain⟨t,rfl⟩:=b;obtain⟨t2,rfl⟩:=a;exact⟨.int_str _ _ _ _,.int_str _ _ _ _⟩
 .obtain⟨t,rfl⟩:=b;cases a;exact⟨.str_none _ _,.str_none _ _⟩
 .obtain⟨t,rfl⟩:=b;cases a;exact⟨.str_bool _ _ _,.str_bool _ _ _⟩
 .obtain⟨t,rfl⟩:=b;obtain⟨t2,rfl⟩:=a;exact⟨.str_int _ _ _ _,.str_int _ _ _ _⟩
 .obtain⟨t,rfl⟩:=b;obtain⟨t2,rfl⟩:=a;exact⟨.str_str _ _ _ _,.str_str _ _ _ _⟩
def Rq(h:Heap)(tp:Bool)(a:Addr)(A5:Array Value):Prop:=if tp then IsTup h a A5 else h.IsList a A5
theorem GQ.GK(I:Inv X Zb Z H s){x:V}{p:PV}(h:GQ X.K H x p tp a vs xs):∃A5:List Value,x=.ref a/\Vals vs A5/\Rq s.heap tp a A5.toArray/\Ad H vs xs:=by
 cases h with
 |lst h r=>obtain⟨A5,b,c,_⟩:=I.list h;exact⟨A5,rfl,b,c.isList,r⟩
 |tup h r=>obtain⟨A5,b,c,_⟩:=I.tuple h;exact⟨A5,rfl,b,c,r⟩
 |con h r=>obtain⟨A5,b,c,_⟩:=I.tuple h;exact⟨A5,rfl,b,c,r⟩
theorem Qq{A5:Array Value}{v:Value}(h:Rq s.heap tp a A5)(f:flat q=true)(c:RelV (Fz.enc q) v)(b:A.units<cLine):
  (SeqAt.EqAt A s (.ref a) v false/\SeqAt.EqAt A s v (.ref a) false)/\(SeqAt.RcAt A s (.ref a) v false/\SeqAt.RcAt A s v (.ref a) false)/\(SeqAt.RcNeAt A s (.ref a) v true/\SeqAt.RcNeAt A s v (.ref a) true):=by
 cases tp with
 |false=>
  have h':s.heap.IsList a A5:=h;cases q <;> first|exact Bool.noConfusion f|skip
  .cases c;exact⟨⟨.list_none h' b,.none_list h' b⟩,⟨.list_none h' b,.none_list h' b⟩,⟨.list_none h' b,.none_list h' b⟩⟩
  .cases c;exact⟨⟨.list_bool _ h' b,.bool_list _ h' b⟩,⟨.list_bool _ h' b,.bool_list _ h' b⟩,⟨.list_bool _ h' b,.bool_list _ h' b⟩⟩
  .obtain⟨t,rfl⟩:=c;exact⟨⟨.list_int _ _ h' b,.int_list _ _ h' b⟩,⟨.list_int _ _ h' b,.int_list _ _ h' b⟩,⟨.list_int _ _ h' b,.int_list _ _ h' b⟩⟩
  .obtain⟨t,rfl⟩:=c;exact⟨⟨.list_str _ _ h' b,.str_list _ _ h' b⟩,⟨.list_str _ _ h' b,.str_list _ _ h' b⟩,⟨.list_str _ _ h' b,.str_list _ _ h' b⟩⟩
 |true=>
  have h':IsTup s.heap a A5:=h;cases q <;> first|exact Bool.noConfusion f|skip
  .cases c;exact⟨⟨.tuple_none h' b,.none_tuple h' b⟩,⟨.tuple_none h' b,.none_tuple h' b⟩,⟨.tuple_none h' b,.none_tuple h' b⟩⟩
  .cases c;exact⟨⟨.tuple_bool _ h' b,.bool_tuple _ h' b⟩,⟨.tuple_bool _ h' b,.bool_tuple _ h' b⟩,⟨.tuple_bool _ h' b,.bool_tuple _ h' b⟩⟩
  .obtain⟨t,rfl⟩:=c;exact⟨⟨.tuple_int _ _ h' b,.int_tuple _ _ h' b⟩,⟨.tuple_int _ _ h' b,.int_tuple _ _ h' b⟩,⟨.tuple_int _ _ h' b,.int_tuple _ _ h' b⟩⟩
  .obtain⟨t,rfl⟩:=c;exact⟨⟨.tuple_str _ _ h' b,.str_tuple _ _ h' b⟩,⟨.tuple_str _ _ h' b,.str_tuple _ _ h' b⟩,⟨.tuple_str _ _ h' b,.str_tuple _ _ h' b⟩⟩
theorem GQ.inj(I:Inv X Zb Z H s){x y:V}{p q:PV}{tp CD:Bool}{a:Addr}{vs ws:List V}{xs ys:List PV}(h:GQ X.K H x p tp a vs xs)(h2:GQ X.K H y q CD a ws ys):tp=CD/\vs=ws:=by
 have b:∀{vs ws:List V},AJ X.K H a vs->AA X.K H a ws->False:=λ{vs ws}h1 h2=>by
  obtain⟨A5,_,g,_⟩:=I.list h1;obtain⟨Bd,_,p2,_⟩:=I.tuple h2;obtain⟨o,n,e,c,_⟩:=g;obtain⟨i,d,f,_⟩:=p2;rw[e]at d;cases d;rw[c]at f;exact absurd f (by decide)
 cases h with
 |lst h r=>cases h2 with
  |lst h2 _=>exact⟨rfl,I.dw h h2⟩
  |tup h2 _=>exact(b h h2).elim
  |con h2 _=>exact(b h h2).elim
 |tup h r=>cases h2 with
  |lst h2 _=>exact(b h2 h).elim
  |tup h2 _=>exact⟨rfl,I.OL h h2⟩
  |con h2 _=>exact⟨rfl,I.OL h h2⟩
 |con h r=>cases h2 with
  |lst h2 _=>exact(b h2 h).elim
  |tup h2 _=>exact⟨rfl,I.OL h h2⟩
  |con h2 _=>exact⟨rfl,I.OL h h2⟩
theorem bB{p:PV}(h:flat p=true):Dl (Fz.enc p) (Fz.enc p)=true:=by cases p <;> first|exact Bool.noConfusion h|exact rQ _|rfl
theorem wq(i:∀(x:V)(p q:PV),Rep H x p->Rep H x q->dat X.K d p->dat X.K d q->C4 p q=true)(f:Ad H vs xs)(c:Ad H vs ys)(h1:∀x∈xs,dat X.K d x)(h2:∀y∈ys,dat X.K d y):Cm xs ys=true:=by
 induction xs generalizing vs ys with
 |nil=>
  cases f.D8;cases ys with
  |nil=>rfl
  |cons y t=>obtain⟨v,ws,e,_⟩:=c.inv;cases e
 |cons x xs g=>
  obtain⟨v,ws,rfl,a,b⟩:=f.inv;cases ys with
  |nil=>have e:=c.D8;cases e
  |cons y t=>
   obtain⟨l,h,e,k,j⟩:=c.inv;cases e;rw[S8,i _ _ _ a k (h1 _ Cz) (h2 _ Cz),g b j (λx hx=>h1 x (DK _ hx)) (λx hx=>h2 x (DK _ hx))];rfl
theorem lh(I:Inv X Zb Z H s):∀(d:Nat)(x:V)(p q:PV),Rep H x p->Rep H x q->dat X.K d p->dat X.K d q->C4 p q=true:=λd=>by
 induction d with
 |zero=>
  intro x p q l h h1 h2;rcases G9 h1 l with⟨j,k⟩|⟨d',_,_,_,_,e,_⟩
  .rcases G9 h2 h with⟨c,g⟩|⟨d',_,_,_,_,e,_⟩
   .rw[Sd j c,<- k,g];exact bB c
   .cases e
  .cases e
 |succ d r=>
  intro x p q l h h1 h2;rcases G9 h1 l with⟨j,k⟩|⟨w,tp,a,vs,xs,e,i,k1⟩
  .rcases G9 h2 h with⟨c,g⟩|⟨v,CD,b,ws,ys,e,f,k2⟩
   .rw[Sd j c,<- k,g];exact bB c
   .obtain⟨_,ex,_⟩:=f.GK I;subst ex;cases p <;> first|(cases j;done)|(cases k;done)
  .cases e;rcases G9 h2 h with⟨c,g⟩|⟨v,CD,b,ws,ys,e,f,k2⟩
   .obtain⟨_,ex,_⟩:=i.GK I;subst ex;cases q <;> first|(cases c;done)|(cases g;done)
   .cases e;obtain⟨_,ex,_,_,o⟩:=i.GK I;obtain⟨_,m,_,_,n⟩:=f.GK I;rw[ex]at m;cases m;obtain⟨u,t⟩:=i.inj I f;subst t;rw[WT i f,md u];exact wq r o n k1 k2
theorem tj(b:Vals vs A5)(a:Vals ws Bd)(d:Ad H vs xs)(c:Ad H ws ys):A5.toArray.size=xs.length/\Bd.toArray.size=ys.length:=by
 have l1:=b.length;have l2:=a.length;have f:=d.length;have e:=c.length;simp only[Bl];omega
theorem fq(h1:Rq s.heap tp a A5.toArray)(h2:Rq s.heap CD b Bd.toArray)(m:Vals vs A5)(l:Vals ws Bd)(o:Ad H vs xs)(n:Ad H ws ys)(c:A.units<cLine)
  (h:∀(x y:V)(p q:PV)(u v:Value),p∈xs->q∈ys->Rep H x p->Rep H y q->RelV x u->RelV y v->SeqAt.EqAt A.in1 s u v (C4 p q)) :
  SeqAt.RcAt A s (.ref a) (.ref b) (if tp=CD then Cm xs ys else false)/\SeqAt.RcNeAt A s (.ref a) (.ref b) (!(if tp=CD then Cm xs ys else false)):=by
 obtain⟨i,k⟩:=tj m l o n;have it:=ZA1 (A:=A.in1) m l o n h;cases tp with
 |false=>cases CD with
  |false=>
   rw[md rfl];have g:s.heap.IsList a A5.toArray:=h1;have f:s.heap.IsList b Bd.toArray:=h2
   by_cases d:xs.length=ys.length
   .rw[UT xs ys d,<- i];exact⟨.lists g f (by omega) c it,.lists g f (by omega) c it⟩
   .rw[XR xs ys d];have r:(A5.toArray.size != Bd.toArray.size)=true:=by simp only[bne_iff_ne,ne_eq];omega
    exact⟨.lists_lengths g f r c,.lists_lengths g f r c⟩
  |true=>rw[mY (by decide)];exact⟨.list_tuple h1 h2 c,.list_tuple h1 h2 c⟩
 |true=>cases CD with
  |false=>rw[mY (by decide)];exact⟨.tuple_list h1 h2 c,.tuple_list h1 h2 c⟩
  |true=>
   rw[md rfl];have g:IsTup s.heap a A5.toArray:=h1;have f:IsTup s.heap b Bd.toArray:=h2;have e:((List.range (min A5.toArray.size Bd.toArray.size)).all (λj=>C4 (xs.getD j .AE) (ys.getD j .AE)) && A5.toArray.size == Bd.toArray.size)=Cm xs ys:=by
    by_cases d:xs.length=ys.length
    .rw[UT xs ys d,i,k,<- d,jz,rQ,jf]
    .rw[XR xs ys d,i,k,show(xs.length == ys.length)=false from by simpa using d,Yt]
   have k1:=SeqAt.RcAt.tuples (A:=A) (e:=λj=>C4 (xs.getD j .AE) (ys.getD j .AE)) g f c it;have k2:=SeqAt.RcNeAt.tuples (A:=A) (e:=λj=>C4 (xs.getD j .AE) (ys.getD j .AE)) g f c it;rw[e]at k1 k2;exact⟨k1,k2⟩
theorem zp(I:Inv X Zb Z H s):∀(d:Nat)(x y:V)(p q:PV),Rep H x p->Rep H y q->dat X.K d p->dat X.K d q->∀(A:Around)(u v:Value),RelV x u->RelV y v->A.units+d<cLine->SeqAt.EqAt A s u v (C4 p q):=λd=>by
 induction d with
 |zero=>
  intro x y p q k h h1 h2 A u v f c F;rcases G9 h1 k with⟨i,o⟩|⟨_,_,_,_,_,e,_⟩
  .rcases G9 h2 h with⟨g,m⟩|⟨_,_,_,_,_,e,_⟩
   .subst o;subst m;rw[Sd i g];exact Qd f c (Qc i) (Qc g)
   .cases e
  .cases e
 |succ d E=>
  intro x y p q k h h1 h2 A u v f c F;rcases G9 h1 k with⟨i,o⟩|⟨M,tp,a,vs,xs,e,n,k1⟩
  .rcases G9 h2 h with⟨g,m⟩|⟨L,CD,b,ws,ys,e,l,k2⟩
   .subst o;subst m;rw[Sd i g];exact Qd f c (Qc i) (Qc g)
   .obtain⟨A5,r,_,j,_⟩:=l.GK I;subst o;subst r;cases(show v=Value.ref b from c);rw[(SV l i).2];exact(Qq j i f (by omega)).1.2
  .cases e;rcases G9 h2 h with⟨g,m⟩|⟨L,CD,b,ws,ys,e,l,k2⟩
   .obtain⟨A5,ex,_,j,_⟩:=n.GK I;subst m;subst ex;cases(show u=Value.ref a from f);rw[(SV n g).1];exact(Qq j g c (by omega)).1.1
   .cases e;obtain⟨A5,ex,v1,D,z⟩:=n.GK I;obtain⟨Bd,r,B,C,w⟩:=l.GK I;subst ex;subst r;cases(show u=Value.ref a from f);cases(show v=Value.ref b from c)
    by_cases t:a=b
    .subst t;rw[lh I (d+1) _ p q k h h1 h2];exact .same _
    .rw[WT n l];refine SeqAt.EqAt.of_refs t (fq D C v1 B z w (by omega) λx y p q u v J G k h f c=>?_).1;exact E x y p q k h (k1 p J) (k2 q G) A.in1 u v f c (by show A.units+1+d<cLine;omega)
theorem Zy(I:Inv X Zb Z H s)(d:Nat)(x y:V)(p q:PV)(m:Rep H x p)(i:Rep H y q)(h1:dat X.K d p)(h2:dat X.K d q)(A:Around)(u v:Value)(f:RelV x u)(c:RelV y v)(L:A.units+d<cLine):SeqAt.RcAt A s u v (C4 p q)/\SeqAt.RcNeAt A s u v (!C4 p q):=by
 rcases G9 h1 m with⟨n,r⟩|⟨t,tp,a,vs,xs,e,k,k1⟩
 .rcases G9 h2 i with⟨l,h⟩|⟨J,CD,b,ws,ys,e,g,k2⟩
  .subst r;subst h;exact ZCm n l f c
  .obtain⟨A5,o,_,j,_⟩:=g.GK I;subst r;subst o;cases(show v=Value.ref b from c);rw[(SV g n).2];have z:=Qq (A:=A) j n f (by omega);exact⟨z.2.1.2,z.2.2.2⟩
 .rcases G9 h2 i with⟨l,h⟩|⟨J,CD,b,ws,ys,h,g,k2⟩
  .obtain⟨A5,ex,_,j,_⟩:=k.GK I;subst h;subst ex;cases(show u=Value.ref a from f);rw[(SV k l).1];have z:=Qq (A:=A) j l c (by omega);exact⟨z.2.1.1,z.2.2.1⟩
  .subst e;cases h;obtain⟨A5,ex,v1,E,B⟩:=k.GK I;obtain⟨Bd,o,C,D,w⟩:=g.GK I;subst ex;subst o;cases(show u=Value.ref a from f);cases(show v=Value.ref b from c);rw[WT k g];exact fq E D v1 C B w (by omega) λx y p q u v G F m i f c=>zp I t x y p q m i (k1 p G) (k2 q F) A.in1 u v f c (by show A.units+1+t<cLine;omega)
def RE(K:ZEe)(neg:Bool):R2:=λx y H Q=>∃p q,Rep H x p/\Rep H y q/\dat K 40 p/\dat K 40 q/\Q (.bl (if neg then !C4 p q else C4 p q)) H
theorem ZCx(i:X.A.units+64<cLine):BH X (compareOp .Eq) (RE X.K false):=by
 intro Zb s Z H x y v u Q I b a h;obtain⟨p,q,d,c,g,f,e⟩:=h;exact(Zy I 40 x y p q d c g f X.A _ _ b a (by omega)).1 _ _ _ _ ⟨.bl (C4 p q),H,I,rfl,e⟩
theorem QD(i:X.A.units+64<cLine):BH X (compareOp .NotEq) (RE X.K true):=by
 intro Zb s Z H x y v u Q I b a h;obtain⟨p,q,d,c,g,f,e⟩:=h;exact(Zy I 40 x y p q d c g f X.A _ _ b a (by omega)).2 _ _ _ _ ⟨.bl (!C4 p q),H,I,rfl,e⟩
end
section
variable[Xw]
variable{K:ZEe}{k:PV->Prop}
theorem fT(h:Wp ss ta λp=>Wp ss tb λq=>dat K 40 p/\dat K 40 q/\k (.bl (C4 p q))):Wp ss (Br (RE K false) ta tb) k:=⟨λE Z F H Q S q=>
 h.go E Z F H _ S λv p F1 H1 b d h2=>h2.go E Z F1 H1 _ b.st λg p2 F2 H2 a c⟨f,e,kk⟩=>
  ⟨p,p2,(d.mono a.ff).mono a.st.fh,c.mono a.st.fh,f,e,q _ _ F2 H2 (b.trans a) (.bl _) kk⟩⟩
theorem OJ(h:Wp ss ta λp=>Wp ss tb λq=>dat K 40 p/\dat K 40 q/\k (.bl (!C4 p q))):Wp ss (Br (RE K true) ta tb) k:=⟨λE Z F H Q S q=>
 h.go E Z F H _ S λv p F1 H1 b d h2=>h2.go E Z F1 H1 _ b.st λg p2 F2 H2 a c⟨f,e,kk⟩=>
  ⟨p,p2,(d.mono a.ff).mono a.st.fh,c.mono a.st.fh,f,e,q _ _ F2 H2 (b.trans a) (.bl _) kk⟩⟩
end
noncomputable def OV.at(t:OV):List Nat->Option OV
 | []=>some t
 |j::p=>match t with
  | .nd _ _ xs=>(xs[j]?).bind λx=>OV.at x p
  | .tp xs=>(xs[j]?).bind λx=>OV.at x p
  | .fz _=>none
noncomputable def OV.put(t:OV)(l:List Nat)(n:OV):OV:=match l with
 | []=>n
 |j::p=>match t with
  | .nd k a xs=>match xs[j]? with
   |some x=>.nd k a (xs.set j (OV.put x p n))
   |none=>.nd k a xs
  | .tp xs=>match xs[j]? with
   |some x=>.tp (xs.set j (OV.put x p n))
   |none=>.tp xs
  | .fz q=>.fz q
theorem OV.GV:t.at []=some t:=by rw[OV.at]
theorem OV.J1{k:NK}{xs:List OV}:(OV.nd k a xs).at (j::p)=(xs[j]?).bind λx=>x.at p:=by rw[OV.at]
theorem OV.IV{xs:List OV}:(OV.tp xs).at (j::p)=(xs[j]?).bind λx=>x.at p:=by rw[OV.at]
theorem OV.EY:t.put [] n=n:=by rw[OV.put]
theorem OV.Hl{k:NK}{xs:List OV}(h:xs[j]?=some x):(OV.nd k a xs).put (j::p) n=.nd k a (xs.set j (x.put p n)):=by rw[OV.put,h]
theorem OV.MC{xs:List OV}(h:xs[j]?=some x):(OV.tp xs).put (j::p) n=.tp (xs.set j (x.put p n)):=by rw[OV.put,h]
theorem OV.MM{u w:OV}:∀{p:List Nat}{t:OV}{j:Nat},t.at p=some u->u.at [j]=some w->t.at (p++[j])=some w
 | [],t,j,h,h2=>by rw[OV.GV]at h;cases h;exact h2
 |i::p,.nd k a xs,j,h,h2=>by
  rw[OV.J1]at h;rw[Yx,OV.J1];cases e:xs[i]? with
  |none=>rw[e]at h;cases h
  |some x=>rw[e]at h;exact OV.MM (t:=x) h h2
 |i::p,.tp xs,j,h,h2=>by
  rw[OV.IV]at h;rw[Yx,OV.IV];cases e:xs[i]? with
  |none=>rw[e]at h;cases h
  |some x=>rw[e]at h;exact OV.MM (t:=x) h h2
 |i::p,.fz q,j,h,h2=>by rw[OV.at]at h;cases h
theorem IE:∀{xs:List OV}{j:Nat}{x:OV},xs[j]?=some x->∃l r,OV.Al xs=l++x.addrs++r/\∀y:OV,OV.Al (xs.set j y)=l++y.addrs++r
 |x::xs,0,z,h=>by
  simp at h;subst h;exact⟨[],OV.Al xs,by rw[OV.CC];rfl,λy=>by rw[Z8,OV.CC];rfl⟩
 |x::xs,j+1,z,h=>by
  obtain⟨l,r,b,a⟩:=IE (xs:=xs) (j:=j) (x:=z) (by simpa using h)
  refine⟨x.addrs++l,r,by rw[OV.CC,b];simp[Bc],λy=>by rw[Sw,OV.CC,a];simp[Bc]⟩
theorem OV.split{u:OV}:∀{p:List Nat}{t:OV},t.at p=some u->∃l r,t.addrs=l++u.addrs++r/\∀n:OV,(t.put p n).addrs=l++n.addrs++r
 | [],t,h=>by rw[OV.GV]at h;cases h;exact⟨[],[],by simp,λn=>by rw[OV.EY];simp⟩
 |j::p,.nd k a xs,h=>by
  rw[OV.J1]at h;cases e:xs[j]? with
  |none=>rw[e]at h;cases h
  |some x=>
   rw[e]at h;obtain⟨l,r,g,f⟩:=IE e;obtain⟨l2,b,d,c⟩:=OV.split (t:=x) h;refine⟨a::(k.more++(l++l2)),b++r,by rw[OV.Cj,g,d];simp[Bc],λn=>by rw[OV.Hl e,OV.Cj,f,c];simp[Bc]⟩
 |j::p,.tp xs,h=>by
  rw[OV.IV]at h;cases e:xs[j]? with
  |none=>rw[e]at h;cases h
  |some x=>
   rw[e]at h;obtain⟨l,r,g,f⟩:=IE e;obtain⟨l2,b,d,c⟩:=OV.split (t:=x) h;refine⟨l++l2,b++r,by rw[OV.FO,g,d];simp[Bc],λn=>by rw[OV.MC e,OV.FO,f,c];simp[Bc]⟩
 |j::p,.fz q,h=>by rw[OV.at]at h;cases h
theorem BD.get{F H:Hp}{vs:List V}{ts:List OV}{j:Nat}{t:OV}(r:BD F H vs ts)(e:ts[j]?=some t):∃v,vs[j]?=some v/\B9 F H v t:=by
 induction ts generalizing vs j with
 |nil=>cases e
 |cons q ps c=>
  obtain⟨v,ws,rfl,a,b⟩:=r.inv;cases j with
  |zero=>cases e;exact⟨_,rfl,a⟩
  |succ j=>exact c (vs:=ws) (j:=j) b e
theorem BD.append{xs ys:List OV}(r:BD F H vs xs)(s:BD F H ws ys):BD F H (vs++ws) (xs++ys):=by
 induction xs generalizing vs with
 |nil=>cases r.D8;exact s
 |cons p ps c=>obtain⟨v,us,rfl,a,b⟩:=r.inv;exact .cons a (c b)
theorem BD.one(r:B9 F H v t):BD F H [v] [t]:=.cons r .nil
theorem VZ(r:Ad F vs xs):BD F H vs (xs.map .fz):=by
 induction xs generalizing vs with
 |nil=>cases r.D8;exact .nil
 |cons p ps c=>obtain⟨v,us,rfl,a,b⟩:=r.inv;exact .cons (.fz a) (c b)
theorem BD.cu(r:BD F H vs (xs.map .fz)):Ad F vs xs:=by
 induction xs generalizing vs with
 |nil=>cases r.D8;exact .nil
 |cons p ps c=>obtain⟨v,us,rfl,a,b⟩:=r.inv;exact .cons a.inv (c b)
theorem Qs:∀(xs:List PV),OV.Al (xs.map .fz)=[]
 | []=>by rw[PU,OV.Al]
 |x::r=>by rw[Bv,OV.CC,OV.GW,Qs r];rfl
theorem BD.set{xs:List OV}(j:Nat)(r:BD F H vs xs)(q:B9 F H v t):BD F H (vs.set j v) (xs.set j t):=by
 induction xs generalizing vs j with
 |nil=>cases r.D8;exact .nil
 |cons p ps c=>
  obtain⟨u,us,rfl,a,b⟩:=r.inv;cases j with
  |zero=>exact .cons q b
  |succ j=>exact .cons a (c j b)
theorem BD.swap{xs:List OV}(r:BD F H vs xs)(h:xs[j]?=some x)(f:vs[j]?=some v)(e:∀l r,OV.Al xs=l++x.addrs++r->(∀z:OV,OV.Al (xs.set j z)=l++z.addrs++r)->∀b∈l++r,∀o,H b=some o->H' b=some o)(g:B9 F H' v y):BD F H' vs (xs.set j y):=by
 induction xs generalizing vs j with
 |nil=>cases h
 |cons p ps m=>
  obtain⟨u,us,rfl,a,b⟩:=r.inv;cases j with
  |zero=>
   cases h;cases f;refine .cons g (b.mono (A8.refl _) λc d o=>e [] (OV.Al ps) (by rw[OV.CC];rfl) (λz=>by rw[Z8,OV.CC];rfl) c d o)
  |succ j=>
   rw[Sw];obtain⟨l,q,s,n⟩:=IE (xs:=ps) (j:=j) h;refine .cons (a.mono (A8.refl _) λc d o=>e (p.addrs++l) q (by rw[OV.CC,s,Bc,Bc,Bc]) (λz=>by rw[Sw,OV.CC,n,Bc,Bc,Bc]) c (Hz _ (Hz _ d)) o) (m (vs:=us) (j:=j) b h f λk i Ee CN c d o=>?_);refine e (p.addrs++k) i (by rw[OV.CC,Ee,Bc,Bc,Bc]) (λz=>by rw[Sw,OV.CC,CN,Bc,Bc,Bc]) c ?_ o;rcases List.mem_append.mp d with hz|hz
   .exact Hz _ (Eg _ hz)
   .exact Eg _ hz
theorem B9.at{F H:Hp}{u:OV}:∀{p:List Nat}{t:OV}{v:V},B9 F H v t->t.at p=some u->∃w,B9 F H w u/\∀(H':Hp)(n:OV),B9 F H' w n->(∀l r,t.addrs=l++u.addrs++r->(∀n:OV,(t.put p n).addrs=l++n.addrs++r)->∀b∈l++r,∀o,H b=some o->H' b=some o)->B9 F H' v (t.put p n)
 | [],t,v,h,e=>by rw[OV.GV]at e;cases e;exact⟨v,h,λH' n r _=>by rw[OV.EY];exact r⟩
 |j::p,.fz q,v,h,e=>by rw[OV.at]at e;cases e
 |j::p,.nd k a xs,_,.nd h sd ft r,e=>by
  rw[OV.J1]at e;cases ex:xs[j]? with
  |none=>rw[ex]at e;cases e
  |some x=>
   rw[ex]at e;obtain⟨I,Xz,C⟩:=r.get ex;obtain⟨w,d,go⟩:=B9.at (t:=x) C e;refine⟨w,d,λH' n B y=>?_⟩;obtain⟨l2,A,G,E⟩:=OV.split e;have i:∀l r,OV.Al xs=l++x.addrs++r->(∀z:OV,OV.Al (xs.set j z)=l++z.addrs++r)->∀b,b∈(a::(k.more++(l++l2)))++(A++r)->∀o,H b=some o->H' b=some o:=λl r s m b c o=>
    y (a::(k.more++(l++l2))) (A++r) (by rw[OV.Cj,s,G];simp[Bc]) (λn=>by rw[OV.Hl ex,OV.Cj,m,E];simp[Bc]) b c o
   obtain⟨l,q,s,m⟩:=IE ex;rw[OV.Hl ex];refine .nd (i l q s m a (by simp) _ h) (NK.iB sd λb c=>i l q s m b (by simp[c])) ft ?_;refine r.swap ex Xz (λg f Ee CN b c o=>i g f Ee CN b (by rcases List.mem_append.mp c with hz|hz <;> simp[hz]) o) ?_
   refine go H' n B λg f g1 D b c o=>?_;refine y (a::(k.more++(l++g))) (f++q) (by rw[OV.Cj,s,g1];simp[Bc]) (λn=>by rw[OV.Hl ex,OV.Cj,m,D];simp[Bc]) b (by rcases List.mem_append.mp c with hz|hz <;> simp[hz]) o
 |j::p,.tp xs,_,.tp h r,e=>by
  rw[OV.IV]at e;cases ex:xs[j]? with
  |none=>rw[ex]at e;cases e
  |some x=>
   rw[ex]at e;obtain⟨I,Xz,C⟩:=r.get ex;obtain⟨w,d,go⟩:=B9.at (t:=x) C e;refine⟨w,d,λH' n B y=>?_⟩;obtain⟨l2,A,G,E⟩:=OV.split e;obtain⟨l,q,s,m⟩:=IE ex;rw[OV.MC ex];refine .tp h (r.swap ex Xz (λg f Ee CN b c o=>?_) (go H' n B λg f g1 D b c o=>?_))
   .exact y (g++l2) (A++f) (by rw[OV.FO,Ee,G];simp[Bc]) (λn=>by rw[OV.MC ex,OV.FO,CN,E];simp[Bc]) b (by rcases List.mem_append.mp c with hz|hz <;> simp[hz]) o
   .exact y (l++g) (f++q) (by rw[OV.FO,s,g1];simp[Bc]) (λn=>by rw[OV.MC ex,OV.FO,m,D];simp[Bc]) b (by rcases List.mem_append.mp c with hz|hz <;> simp[hz]) o
theorem RI{l u r n:List Addr}(h:(l++u++r).Nodup)(hn:n.Nodup)(hd:∀b∈n,b∈u∨b∉l++u++r):(l++n++r).Nodup:=by
 rw[CG]at h ⊢;obtain⟨h1,h2,f⟩:=h;rw[CG]at h1 ⊢;obtain⟨i,j,g⟩:=h1;refine⟨⟨i,hn,λa c b d e=>?_⟩,h2,λa c b d e=>?_⟩
 .subst e;rcases hd a d with z|z
  .exact g a c a z rfl
  .exact z (by simp[c])
 .subst e;rcases List.mem_append.mp c with c|c
  .exact f a (by simp[c]) a d rfl
  .rcases hd a c with z|z
   .exact f a (by simp[z]) a d rfl
   .exact z (by simp[d])
theorem Sg.Y4(S:Sg E ss Z F H){k:NK}{xs:List OV}{ho:HO}{lt:Bool}(hi:ss[i]?=some (.ow lt t))(Ay:t.at p=some (.nd k a xs))(hn:B9 F (upd H a ho) (.ref a) n)(nd:n.addrs.Nodup)
  (ZK:∀b∈n.addrs,b∈(OV.nd k a xs).addrs∨(F b=none/\E.H0 b=none/\∀(j:Nat)s,ss[j]?=some s->¬ BI s Z[j]? b)):Sg E (ss.set i (.ow lt (t.put p n))) Z F (upd H a ho):=by
 obtain⟨v,e,r,Ug,q⟩:=S.ok i _ hi;obtain⟨l,I,g,C⟩:=OV.split Ay;have f:a∈(OV.nd k a xs).addrs:=by rw[OV.Cj];simp
 have u:∀b∈(OV.nd k a xs).addrs,b∈t.addrs:=λb c=>by rw[g];simp[c]
 have R:∀b∈n.addrs,b∈(OV.nd k a xs).addrs∨b∉t.addrs:=λb c=>(ZK b c).imp id λz m=>z.2.2 i _ hi m;obtain⟨w,x,go⟩:=r.at Ay;have K:w=.ref a:=by cases x;rfl
 subst K;have h:∀(j:Nat)s,(ss.set i .any)[j]?=some s->∀b,b∈t.addrs->¬ BI s Z[j]? b:=λj s d b c m=>by
  by_cases z:j=i
  .subst z;rw[Cq (List.getElem?_eq_some_iff.mp hi).1]at d;cases d;cases m
  .rw[Cb (BP z)]at d;exact S.By j i s _ b z d hi m c
 have Q:=(S.drop i).Po (o:=ho) (q a (u a f)).1 ((q a (u a f)).2.imp id λz=>z.2) λj s d=>h j s d a (u a f);have A:=Ug;rw[g,CG,CG]at A;obtain⟨⟨_,_,M⟩,_,L⟩:=A;have P:∀b,b∈l++I->b≠a:=λb c z=>by
  subst z;rcases List.mem_append.mp c with c|c
  .exact M b c b f rfl
  .exact L b (by simp[f]) b c rfl
 have J:B9 F (upd H a ho) v (t.put p n):=go _ n hn λU T g1 V b c o y=>by
  rw[Af ?_];exact y;rintro rfl;have B:=Ug;rw[g1,CG,CG]at B;obtain⟨⟨_,_,O⟩,_,N⟩:=B;rcases List.mem_append.mp c with c|c
  .exact O b c b f rfl
  .exact N b (by simp[f]) b c rfl
 have D:∀b∈(t.put p n).addrs,b∈t.addrs∨(F b=none/\E.H0 b=none/\∀(j:Nat)s,ss[j]?=some s->¬ BI s Z[j]? b):=λb c=>by
  rw[C]at c;rcases List.mem_append.mp c with c|c
  .rcases List.mem_append.mp c with c|c
   .exact .inl (by rw[g];simp[c])
   .exact(ZK b c).imp (u b) id
  .exact .inl (by rw[g];simp[c])
 have G:=Q.setG (j:=i) (s:=.ow lt (t.put p n)) (v:=v) ⟨v,rfl,J,by rw[C];exact RI (g▸Ug) nd λb c=>(R b c).imp id (by rw[g];exact id),λb c=>(D b c).elim (q b) λz=>⟨z.1,.inl z.2.1⟩⟩ λb c j s d hs m=>by
  rcases D b c with z|z
  .exact h j s hs b z m
  .rw[Cb (BP d)]at hs;exact z.2.2 j s hs m
 rw[NT e,PX]at G;exact G
structure Wl [Xw] (ss:List Slot) (i:Nat) (t:OV) (te:TE) (k:List Nat->OV->Prop):Prop where
 hi:∃lt,ss[i]?=some (.ow lt t)
 go:∀(E:Ent)(Z:L2.St)(F H:Hp)(Q:VK),Sg E ss Z F H->(∀v p u F' H',Mv E ss Z F H F' H'->B9 F' H' v u->t.at p=some u->k p u->Q v H')->te Z H Q
noncomputable def DO:List Nat->List Slot->List Slot
 | [],ss=>ss
 |i::m,ss=>DO m (ss.set i .any)
structure Wx [Xw] (ss:List Slot) (te:TE) (k:List Nat->OV->Prop):Prop where
 go:∀(E:Ent)(Z:L2.St)(F H:Hp)(Q:VK),Sg E ss Z F H->(∀v m u F' H',Mv E ss Z F H F' H'->B9 F' H' v u->u.addrs.Nodup->(∀a∈u.addrs,F' a=none/\E.H0 a=none/\((∃i∈m,∃s,s≠Slot.AQ/\ss[i]?=some s/\BI s Z[i]? a)∨H a=none))->k m u->Q v H')->te Z H Q
structure JG [Xw] (ss:List Slot) (te:TA) (k:List Nat->List OV->Prop):Prop where
 go:∀(E:Ent)(Z:L2.St)(F H:Hp)(Q:List V->Hp->Prop),Sg E ss Z F H->(∀vs m us F' H',Mv E ss Z F H F' H'->BD F' H' vs us->(OV.Al us).Nodup->(∀a∈OV.Al us,F' a=none/\E.H0 a=none/\((∃i∈m,∃s,s≠Slot.AQ/\ss[i]?=some s/\BI s Z[i]? a)∨H a=none))->k m us->Q vs H')->te Z H Q
section
variable[Xw]
variable{K:ZEe}{k:PV->Prop}
theorem OV.IZ(h:t.at p=some u):∀a∈u.addrs,a∈t.addrs:=λa b=>by
 obtain⟨l,r,e,_⟩:=OV.split h;rw[e];simp[b]
theorem B9.mv(r:B9 F H v u)(S:Sg E ss Z F H)(hi:∃lt,ss[i]?=some (.ow lt t))(h:t.at p=some u)(m:Mv E ss Z F H F' H'):B9 F' H' v u:=
 r.mono m.ff λa b o e=>m.hh a o (S.MI hi.choose_spec (OV.IZ h a b) (by simp)) e
theorem CL{lt:Bool}{k:List Nat->OV->Prop}(hi:ss[i]?=some (.ow lt t))(a:k [] t):Wl ss i t (B1 i) k:=⟨⟨lt,hi⟩,λE Z F H Q S q=>by
 obtain⟨v,e,r,_,_⟩:=S.ok i _ hi;exact⟨v,e,q v [] t F H (.refl S) r OV.GV a⟩⟩
theorem MJ{k:List Nat->OV->Prop}(h:Wl ss i t ta λp u=>∃a xs,u=.nd .lst a xs/\Wp ss tb λq=>∃(j:Int)(n:Nat)(w:OV),q=.int j/\GU xs.length j=some n/\xs[n]?=some w/\k (p++[n]) w):Wl ss i t (Br (RW K) ta tb) k:=⟨h.hi,λE Z F H Q S q=>
 h.go E Z F H _ S λv p u F1 H1 b m h1⟨a,xs,r,h2⟩=>h2.go E Z F1 H1 _ b.st λs p2 F2 H2 d l⟨j,n,w,e,hn,hw,kk⟩=>by
  subst e;cases l.inv;have g:=m.mv b.st h.hi h1 d;subst r;obtain⟨_,rfl,o,y,z,c⟩:=g.inv;obtain⟨x,hx,f⟩:=c.get hw;refine⟨a,_,j,x,rfl,rfl,AJ.of o,?_,q x (p++[n]) w F2 H2 (b.trans d) f (OV.MM h1 (by rw[OV.J1,hw];exact OV.GV)) kk⟩;unfold L2.Bf;rw[c.length,hn];exact hx⟩
theorem O7{k:List Nat->OV->Prop}(h:Wl ss i t ta λp u=>∃xs,u=.tp xs/\Wp ss tb λq=>∃(j:Int)(n:Nat)(w:OV),q=.int j/\GU xs.length j=some n/\xs[n]?=some w/\k (p++[n]) w):Wl ss i t (Br (Ht K) ta tb) k:=⟨h.hi,λE Z F H Q S q=>
 h.go E Z F H _ S λv p u F1 H1 b l h1⟨xs,o,h2⟩=>h2.go E Z F1 H1 _ b.st λr p2 F2 H2 a g⟨j,n,w,e,hn,hw,kk⟩=>by
  subst e;cases g.inv;have f:=l.mv b.st h.hi h1 a;subst o;obtain⟨_,_,rfl,m,c⟩:=f.inv;obtain⟨x,hx,d⟩:=c.get hw;refine⟨_,_,j,x,rfl,rfl,AA.of (a.st.fh _ _ m),?_,q x (p++[n]) w F2 H2 (b.trans a) d (OV.MM h1 (by rw[OV.IV,hw];exact OV.GV)) kk⟩;unfold L2.Bf;rw[c.length,hn];exact hx⟩
theorem Dy(h:Wl ss i t te λ_ u=>∃p,u=.fz p/\k p):Wp ss te k:=⟨λE Z F H Q S q=>
 h.go E Z F H _ S λv p u F1 H1 b a h1 AG=>by obtain⟨p,c,kk⟩:=AG;subst c;cases a with|fz r=>exact q v p F1 H1 b r kk⟩
theorem JH{k:Bool->List PV->Prop}(h:Wl ss i t te λ_ u=>∃a ps,u=.nd .lst a (ps.map .fz)/\k false ps):Wq ss te k:=⟨λE Z F H Q S q=>
 h.go E Z F H _ S λv p u F1 H1 b d h1 AG=>by
  obtain⟨a,ps,f,kk⟩:=AG;subst f;have np:CQ ss Z a:=b.st.MI h.hi.choose_spec (OV.IZ h1 a (by rw[OV.Cj];simp)) (by simp);obtain⟨_,rfl,e,g,j,c⟩:=d.inv;exact q _ false ps F1 H1 b ⟨a,_,rfl,np,e,c.cu⟩ kk⟩
theorem DU{k:List Nat->OV->Prop}(h:Wp ss te λp=>k [] (.fz p)):Wx ss te k:=⟨λE Z F H Q S q=>
 h.go E Z F H _ S λv p F1 H1 c r kk=>q v [] (.fz p) F1 H1 c (.fz r) (by rw[OV.GW];exact LN) (λa b=>by rw[OV.GW]at b;cases b) kk⟩
theorem Rn(a:Addr)(xs:List PV):(OV.nd .lst a (xs.map .fz)).addrs=[a]:=by rw[OV.Cj,Qs];rfl
theorem Zj{k:List Nat->OV->Prop}(h:Wn ss te λxs=>∀l,k [] (.nd .lst l (xs.map .fz))):Wx ss te k:=⟨λE Z F H Q S q=>
 h.go E Z F H _ S λl vs xs F1 H1 d f b NB r kk=>q _ [] _ F1 H1 d (.nd (k:=.lst) NB trivial trivial (VZ r)) (by rw[Rn];simp) (λa c=>by
  rw[Rn]at c;have e:a=l:=by simpa using c
  subst e;exact⟨f,S.Ew b,.inr b⟩) (kk l)⟩
theorem wI{k:List Nat->OV->Prop}(hi:ss[i]?=some (.own xs))(h:∀l,k [i] (.nd .lst l (xs.map .fz))):Wx ss (B1 i) k:=⟨λE Z F H Q S q=>by
 obtain⟨l,vs,e,f,d,c,r⟩:=S.ok i _ hi;refine⟨_,e,q _ [i] _ F H (.refl S) (.nd (k:=.lst) c trivial trivial (VZ r)) (by rw[Rn];simp) (λa b=>?_) (h l)⟩;rw[Rn]at b;have ea:a=l:=by simpa using b
 subst ea;exact⟨f,d,.inl ⟨i,by simp,_,by simp,hi,e⟩⟩⟩
theorem Nl{k:List Nat->List OV->Prop}(h:k [] []):JG ss B5 k:=⟨λE Z F H Q S q=>q _ [] [] F H (.refl S) .nil (by rw[OV.Gi];exact LN) (λa b=>by rw[OV.Gi]at b;cases b) h⟩
theorem oF{k:List Nat->OV->Prop}(hi:ss[i]?=some (.ow false t))(h:k [i] t):Wx ss (B1 i) k:=⟨λE Z F H Q S q=>by
 obtain⟨v,e,r,nd,c⟩:=S.ok i _ hi;refine⟨_,e,q v [i] t F H (.refl S) r nd (λa b=>⟨(c a b).1,?_,.inl ⟨i,by simp,_,by simp,hi,b⟩⟩) h⟩;exact(c a b).2.elim id λz=>by cases z.1⟩
theorem Wx.wB(S:Sg E ss Z F H)(h:(∃i∈m,∃s,s≠Slot.AQ/\ss[i]?=some s/\BI s Z[i]? a)∨H a=none):CQ ss Z a:=by
 rcases h with⟨j,_,s,b,hs,o⟩|z
 .exact S.MI hs o b
 .exact S.Le z
theorem Mv.ZAD(m:Mv E ss Z F H F' H')(h:F a=Option.none)(h2:H a≠Option.none):F' a=Option.none:=by
 cases e:F' a with
 |none=>rfl
 |some o=>
  rcases m.nn a o e with z|z
  .rw[h]at z;cases z
  .exact absurd z h2
theorem Gx{k:List Nat->List OV->Prop}(h:Wx ss te λm u=>JG ss tr λd us=>(∀i∈m,i∉d)/\k (m++d) (u::us)):JG ss (AU te tr) k:=⟨λE Z F H Q S q=>
 h.go E Z F H _ S λv m u F1 H1 n l Fl r h2=>h2.go E Z F1 H1 _ n.st λvs y us F2 H2 d A Gy x AG=>by
  obtain⟨G,kk⟩:=AG;have np:∀a∈u.addrs,CQ ss Z a:=λa c=>Wx.wB S (r a c).2.2;refine q (v::vs) (m++y) (u::us) F2 H2 (n.trans d) (.cons (l.mono d.ff λa c o e=>d.hh a o (np a c) e) A) ?_ (λa c=>?_) kk
  .rw[OV.CC,CG];refine⟨Fl,Gy,λa c b D e=>?_⟩;subst e;rcases(x a D).2.2 with⟨C,B,s2,J,CU,t⟩|z
   .rcases(r a c).2.2 with⟨j,g,s,I,hs,o⟩|z
    .exact S.By j C s s2 a (by rintro rfl;exact G j g B) hs CU o t
    .exact S.Dt CU t z
   .exact l.there a c z
  .rw[OV.CC]at c;rcases List.mem_append.mp c with c|c
   .obtain⟨f,p,w⟩:=r a c;exact⟨d.ZAD f (l.there a c),p,w.imp (λDJ=>by obtain⟨j,g,z⟩:=DJ;exact⟨j,by simp[g],z⟩) id⟩
   .obtain⟨f,p,w⟩:=x a c;exact⟨f,p,w.imp (λXW=>by obtain⟨j,g,z⟩:=XW;exact⟨j,by simp[g],z⟩) n.none⟩⟩
theorem qN{k:List Nat->OV->Prop}(h:JG ss tr λm us=>us.length<=100000/\k m (.tp us)):Wx ss (NX tr) k:=⟨λE Z F H Q S q=>
 h.go E Z F H _ S λvs m us F1 H1 i c Fl l AG=>by obtain⟨hz,kk⟩:=AG;exact⟨small (by rw[c.length];exact hz),λp d=>by
  have g:=i.st.alloc d (.tup vs);refine q _ m (.tp us) _ _ (i.trans g) (.tp AH (c.mono g.ff λa b o e=>by rw[Af (by rintro rfl;exact c.there _ b d)];exact e)) (by rw[OV.FO];exact Fl) (λa b=>?_) kk;rw[OV.FO]at b;obtain⟨f,j,w⟩:=l a b;exact⟨by rw[Af (by rintro rfl;exact c.there _ b d)];exact f,j,w⟩⟩⟩
theorem dm{k:List Nat->OV->Prop}(h:JG ss tr λm us=>us.length<=100000/\∀l,k m (.nd .lst l us)):Wx ss (Sb tr) k:=⟨λE Z F H Q S q=>
 h.go E Z F H _ S λvs m us F1 H1 c g Fl r AG=>by obtain⟨hz,kk⟩:=AG;exact⟨small (by rw[g.length];exact hz),λp d=>by
  have i:=c.st.make d (.lst vs);have j:p∉OV.Al us:=λb=>g.there _ b d;refine q _ m (.nd .lst p us) _ _ (c.trans i) (.nd (k:=.lst) AH trivial trivial (g.mono i.ff λa b o e=>by rw[Af (by rintro rfl;exact j b)];exact e)) ?_ (λa b=>?_) (kk p)
  .rw[OV.Cj];exact List.nodup_cons.mpr ⟨j,Fl⟩
  .rw[OV.Cj]at b;rcases List.mem_cons.mp b with e|b
   .subst e;exact⟨c.st.Bj d,c.st.Ew d,.inr (c.none d)⟩
   .obtain⟨f,n,w⟩:=r a b;exact⟨f,n,w⟩⟩⟩
theorem O4{j:Nat}{s:Slot}:∀{m:List Nat}{ss:List Slot},(DO m ss)[j]?=some s->s=.any∨(ss[j]?=some s/\j∉m)
 | [],ss,h=>.inr ⟨h,by simp⟩
 |i::m,ss,h=>by
  rcases O4 (m:=m) (ss:=ss.set i .any) h with e|⟨e,hm⟩
  .exact .inl e
  .by_cases q:j=i
   .subst q;have a:j<ss.length:=by have:=(List.getElem?_eq_some_iff.mp e).1;simpa using this
    rw[Cq a]at e;exact .inl (BL e).symm
   .rw[Cb (BP q)]at e;exact .inr ⟨e,by simp[q,hm]⟩
theorem Sg.DO{E:Ent0}{Z:L2.St}{F H:Hp}:∀(m:List Nat){ss:List Slot},Sg E ss Z F H->Sg E (Fz.DO m ss) Z F H
 | [],_,S=>S
 |i::m,_,S=>Sg.DO m (S.drop i)
theorem Sg.jK(S0:Sg E ss Z F0 H0)(S:Sg E ss Z F H)(r:B9 F H v u)(nd:u.addrs.Nodup)(c:∀a∈u.addrs,F a=none/\E.H0 a=none/\((∃i∈m,∃s,s≠Slot.AQ/\ss[i]?=some s/\BI s Z[i]? a)∨H0 a=none)):
  Sg E ((Fz.DO m ss).set j (.ow false u)) (Z.set j (some v)) F H:=by
 refine(S.DO m).setG ⟨v,rfl,r,nd,λa b=>⟨(c a b).1,.inl (c a b).2.1⟩⟩ λa b i s HE hs o=>?_;rcases O4 hs with e|⟨HU,hm⟩
 .subst e;cases o
 .rcases(c a b).2.2 with⟨i2,GD,s2,_,CU,d⟩|z
  .exact S.By i i2 s s2 a (by rintro rfl;exact hm GD) HU CU o d
  .exact S0.Dt HU o z
theorem Qv(h:Wx ss te λm u=>nx ((Fz.DO m ss).set j (.ow false u))):Ws ss (En te (C7 j)) nx R:=⟨λE D Z F H S hn hr=>
 h.go E Z F H _ S λv m u F1 H1 a r nd b kk=>hn _ _ F1 H1 kk (Sg.jK S a.st r nd b) a.ff⟩
theorem B9.rep(ff:A8 F F1):∀{v:V}{t:OV},B9 F H v t->(∀a∈t.addrs,∀o,H a=some o->F1 a=some o)->Rep F1 v t.pv:=by
 intro v t r h;exact B9.rec (motive_1:=λv t _=>(∀a∈t.addrs,∀o,H a=some o->F1 a=some o)->Rep F1 v t.pv) (motive_2:=λvs ts _=>(∀a∈OV.Al ts,∀o,H a=some o->F1 a=some o)->Ad F1 vs (OV.Bg ts))
  (λ{v p}r _=>by rw[OV.pv];exact r.mono ff)
  (λ{a vs xs}e _ c h=>by rw[OV.pv];exact .tup (ff _ _ e) (c (by rw[OV.FO]at h;exact h)))
  (λ{k a vs xs}e i g _ c h=>by
   rw[OV.Cj]at h;have f:=c λa b=>h a (by simp[b]);have d:=h a (by simp) _ e;cases k with
   |lst=>rw[OV.pv];exact .lst d f
   |Ai ks=>rw[OV.pv];exact .Ai d g f
   |obj C dx ns=>rw[OV.pv];exact .obj d (h dx (by simp[NK.more]) _ i) g f)
  (λ_=>by rw[OV.Bg];exact .nil)
  (λ_ _ VP YM h=>by
   rw[OV.CC]at h;rw[OV.Bg];exact .cons (VP λa b=>h a (by simp[b])) (YM λa b=>h a (by simp[b])))
  r h
theorem zW{t':TS}(i:Nat)(hi:ss[i]?=some (.ow false t))(h:Ws (ss.set i (.is t.pv)) t' nx R):Ws ss t' nx R:=⟨λE D Z F H S hn hr=>by
 obtain⟨v,e,r,nd,f⟩:=S.ok i _ hi;obtain⟨S1,g⟩:=(S.drop i).lay t.addrs (λa b=>⟨(f a b).1,(f a b).2.elim id (λz=>by cases z.1),r.there a b⟩) λa b j s c m=>by
  by_cases q:j=i
  .subst q;rw[Cq (List.getElem?_eq_some_iff.mp hi).1]at c;cases c;cases m
  .rw[Cb (BP q)]at c;exact S.By j i s _ a q c hi m b
 have d:=S1.Er (j:=i) (v:=v) (p:=t.pv) (r.rep g λa b o ho=>by unfold Bs;rw[md b];exact ho);rw[NT e,PX]at d;exact h.go E D Z _ H d (λCd σ2 F2 H2 n d s2=>hn Cd σ2 F2 H2 n d (g.trans s2)) hr⟩
variable{lt:Bool}
theorem Lk:(OV.nd .lst a us).addrs=a::OV.Al us:=by rw[OV.Cj];rfl
theorem Ku:∀(us ws:List OV),OV.Al (us++ws)=OV.Al us++OV.Al ws
 | [],ws=>by rw[Z6,OV.Gi,Z6]
 |u::us,ws=>by rw[Yx,OV.CC,OV.CC,Ku us ws,Bc]
theorem MN(u:OV):OV.Al [u]=u.addrs:=by rw[OV.CC,OV.Gi,GA]
theorem Sg.iA{us':List OV}(S0:Sg E ss Z F0 H0)(S:Sg E ss Z F H)(hi:ss[i]?=some (.ow lt t))(Ay:t.at p=some (.nd .lst a us))
  (d:∀a∈u.addrs,F a=none/\E.H0 a=none/\((∃i∈m,∃s,s≠Slot.AQ/\ss[i]?=some s/\BI s Z[i]? a)∨H0 a=none)) (EO:i∉m)
  (hr:BD F H C5 us') (Ox:(OV.Al us').Nodup) (J0:∀b∈OV.Al us',b∈OV.Al us∨b∈u.addrs):Sg E ((Fz.DO m ss).set i (.ow lt (t.put p (.nd .lst a us')))) Z F (upd H a (.lst C5)):=by
 have J:(Fz.DO m ss)[i]?=some (.ow lt t):=by
  have g:∀(m:List Nat)(ss:List Slot),ss[i]?=some (.ow lt t)->i∉m->(Fz.DO m ss)[i]?=some (.ow lt t):=by
   intro m
   induction m with
   |nil=>intro ss h _;exact h
   |cons j m C=>
    intro ss h f;refine C _ ?_ λz=>f (by simp[z]);rw[Cb (by rintro rfl;exact f (by simp))];exact h
  exact g m ss hi EO
 obtain⟨v,e,r,nd,q⟩:=S.ok i _ hi;have A:∀b,b∈a::OV.Al us->b∈t.addrs:=λb c=>OV.IZ Ay b (by rw[Lk];exact c);have I:∀b∈u.addrs,b∉t.addrs:=λb c z=>by
  rcases(d b c).2.2 with⟨j,D,s,_,hs,o⟩|w
  .exact S.By j i s _ b (by rintro rfl;exact EO D) hs hi o z
  .exact S0.Dt hi z w
 have x:(OV.nd .lst a us).addrs.Nodup:=by
  obtain⟨l,K,G,_⟩:=OV.split Ay;rw[G,CG,CG]at nd;exact nd.1.2.1
 rw[Lk]at x;have n:∀b∈OV.Al us',b≠a:=λb c z=>by
  subst z;rcases J0 b c with w|w
  .exact(List.nodup_cons.mp x).1 w
  .exact I b w (A b (by simp))
 refine(S.DO m).Y4 J Ay (.nd (k:=.lst) AH trivial trivial (hr.mono (A8.refl _) λb c o ho=>by rw[Af (n b c)];exact ho)) (by rw[Lk];exact List.nodup_cons.mpr ⟨λz=>n a z rfl,Ox⟩) λb c=>?_;rw[Lk]at c ⊢;rcases List.mem_cons.mp c with w|w
 .exact .inl (by simp[w])
 .rcases J0 b w with z|z
  .exact .inl (by simp[z])
  .refine .inr ⟨(d b z).1,(d b z).2.1,λj s hs o=>?_⟩;rcases O4 hs with y|⟨HU,f⟩
   .subst y;cases o
   .rcases(d b z).2.2 with⟨i2,GD,s2,_,CU,B⟩|y
    .exact S.By j i2 s s2 b (by rintro rfl;exact f GD) HU CU o B
    .exact S0.Dt HU o y
theorem ZZ(h:Wl ss i t ta λp u=>∃lt a us,ss[i]?=some (.ow lt t)/\u=.nd .lst a us/\us.length<=99999/\Wx ss te λm w=>i∉m/\nx ((DO m ss).set i (.ow lt (t.put p (.nd .lst a (us++[w])))))):Ws ss (JT (NW K "list" Py ta (AU te B5))) nx R:=⟨λE D Z F H S hn hr=>
 h.go E Z F H _ S λv p u F1 H1 c N h1⟨lt,a,us,hi,V,hz,hw⟩=>by
  subst V;cases N with
  |@nd k σ vs _ z J U n=>
   refine .inl ⟨rfl,_,AJ.of z⟩ |> λq=>⟨q,hw.go E Z F1 H1 _ c.st λG m w F2 H2 d M Gy B⟨EO,kk⟩=>?_⟩;have L:=(B9.nd (k:=.lst) z J U n).mv c.st h.hi h1 d;cases L with
   |@nd _ _ f _ O I T A=>
    refine⟨a,f,G,rfl,rfl,O,Lb (by rw[A.length];exact hz),?_⟩;refine hn _ Z F2 _ kk (Sg.iA (u:=w) c.st d.st hi h1 B EO (A.append (.one M)) ?_ λb r=>?_) (c.ff.trans d.ff)
    .rw[Ku,MN,CG];obtain⟨X,e0,Y,CT,q⟩:=d.st.ok i _ hi;have C:(OV.nd .lst a us).addrs.Nodup:=by
      obtain⟨l,n,W,_⟩:=OV.split h1;rw[W,CG,CG]at CT;exact CT.1.2.1
     rw[Lk]at C;refine⟨(List.nodup_cons.mp C).2,Gy,λx hx y P e=>?_⟩;subst e;have g:x∈t.addrs:=OV.IZ h1 x (by rw[Lk];simp[hx]);rcases(B x P).2.2 with⟨j,Q,s,_,hs,o⟩|w
     .exact c.st.By j i s _ x (by rintro rfl;exact EO Q) hs hi o g
     .exact c.st.Dt hi g w
    .rw[Ku,MN]at r;exact List.mem_append.mp r⟩
theorem Zt{k:OV->Prop}(h:Wx ss te λ_ u=>k u):Ws ss (HJ te) nx (.ow k):=⟨λE D Z F H S hn hr=>
 h.go E Z F H _ S λv m u F1 H1 d r nd b kk=>hr v F1 H1 d.st.toFin ⟨u,r,nd,λa c=>⟨(b a c).1,(b a c).2.1⟩,kk⟩⟩
theorem Nf{ta:TA}{k:List Nat->OV->Prop}(h:Wa ss ta λl=>∃k',pre l (.ow k')/\∀u,k' u->k [] u):Wx ss (C9 (BN pre) [] E0 ta) k:=⟨λE Z F H Q S q=>
 h.go E Z F H _ S λvs l F1 H1 b a⟨k',g,kk⟩=>by
  rw[GA];refine⟨l,.ow k',F1,[],g,b.st.eQ a,λv F' H' f⟨u,r,nd,c,e⟩=>?_⟩;exact q v [] u F' H' (b.trans (b.st.back (λ_ h=>absurd h B3) f)) r nd (λa d=>⟨(c a d).1,S.Ew (b.none (c a d).2),.inr (b.none (c a d).2)⟩) (kk u e)⟩
end
def ptr(a:Addr):Hp->V->Prop:=λ_ v=>v=.ref a
section
variable[Xw]
variable{K:ZEe}{k:PV->Prop}{lt:Bool}
theorem Sg.oO(S:Sg E ss Z F H)(hi:ss[i]?=some (.ow lt t))(Ay:t.at p=some (.nd .lst a (ps.map .fz)))(hr:Ad F C5 bg):Sg E (ss.set i (.ow lt (t.put p (.nd .lst a (bg.map .fz))))) Z F (upd H a (.lst C5)):=
 Sg.iA (m:=[]) (u:=.fz .AE) S S hi Ay (λa d=>by rw[OV.GW]at d;cases d) (by simp) (VZ hr) (by rw[Qs];exact LN) λb c=>by rw[Qs]at c;cases c
theorem Sg.vn(S:Sg E ss Z F H)(hi:ss[i]?=some (.ow lt t))(Ay:t.at p=some (.nd .lst a (ps.map .fz))):∃vs,H a=some (.lst vs)/\Ad F vs ps:=by
 obtain⟨v,e,r,_,_⟩:=S.ok i _ hi;obtain⟨w,b,_⟩:=r.at Ay;obtain⟨_,rfl,d,_,_,c⟩:=b.inv;exact⟨_,d,c.cu⟩
theorem Hj{k:List Nat->OV->Prop}{nk:NK}(g:ss[j]?=some (.raw (ptr a)))(hi:ss[i]?=some (.ow lt t))(Ay:t.at p=some (.nd nk a us))(f:k p (.nd nk a us)):Wl ss i t (B1 j) k:=⟨⟨lt,hi⟩,λE Z F H Q S q=>by
 obtain⟨v,e,c,_⟩:=S.ok j _ g;obtain⟨l,m,d,_,_⟩:=S.ok i _ hi;obtain⟨w,b,_⟩:=d.at Ay;have h:w=.ref a:=by cases b;rfl
 subst h;cases(show v=.ref a from c);exact⟨_,e,q _ p _ F H (.refl S) b Ay f⟩⟩
theorem yA(h:Wp ss te λq=>Wl ss i t ta λp u=>∃(lt:Bool)(a:Addr)(ps:List PV),ss[i]?=some (.ow lt t)/\u=.nd .lst a (ps.map .fz)/\Wp ss ti λl=>∃n:Nat,l=.int n/\n<ps.length/\nx (ss.set i (.ow lt (t.put p (.nd .lst a ((ps.set n q).map .fz)))))):Ws ss (En te (Tv ta ti jD)) nx R:=⟨λE D Z F H S hn hr=>
 h.go E Z F H _ S λv q F1 H1 e g h2=>h2.go E Z F1 H1 _ e.st λf p u F2 H2 c k Ay⟨lt,a,ps,hi,s,o⟩=>by
  subst s;have r:f=.ref a:=by cases k;rfl
  subst r;refine o.go E Z F2 H2 _ c.st λx y F3 H3 b j⟨n,w,OR,kk⟩=>?_;subst w;cases j;obtain⟨vs,m,d⟩:=b.st.vn hi Ay;refine⟨a,vs,_,n,rfl,rfl,m,jW (by rw[d.length];exact OR),?_⟩;exact hn _ Z F3 _ kk (b.st.oO hi Ay (d.set n (g.mono (c.ff.trans b.ff)))) (e.ff.trans (c.ff.trans b.ff))⟩
end
def DH:List Slot->L2.St->List Addr
 | .own _::ss,some (.ref l)::Z=>l::DH ss Z
 | .ow _ t::ss,_::Z=>t.addrs++DH ss Z
 |_::ss,_::Z=>DH ss Z
 |_,_=>[]
theorem iz:∀{ss:List Slot}{Z:L2.St}{a:Addr},a∈DH ss Z->∃(i:Nat)(s:Slot),ss[i]?=some s/\s≠.AQ/\BI s Z[i]? a
 | [],Z,a,h=>absurd h B3
 |s::ss,[],a,h=>by cases s <;> exact absurd h B3
 |s::ss,o::Z,a,h=>by
  have up:a∈DH ss Z->∃(i:Nat)(s':Slot),(s::ss)[i]?=some s'/\s'≠.AQ/\BI s' (o::Z)[i]? a:=λh=>by
   obtain⟨i,s',h1,h2,b⟩:=iz h;exact⟨i+1,s',by simpa using h1,h2,by simpa using b⟩
  cases s with
  |own xs=>
   cases o with
   |none=>exact up h
   |some v=>
    cases v with
    |ref l=>
     have h:a∈l::DH ss Z:=h;rcases List.mem_cons.mp h with e|h
     .subst e;exact⟨0,_,rfl,by simp,rfl⟩
     .exact up h
    |_=>exact up h
  |ow lt t=>
   have h:a∈t.addrs++DH ss Z:=h;rcases List.mem_append.mp h with h|h
   .exact⟨0,_,rfl,by simp,h⟩
   .exact up h
  |_=>exact up h
theorem dG:∀{ss:List Slot}{Z:L2.St}{i:Nat}{s:Slot}{a:Addr},ss.length=Z.length->ss[i]?=some s->s≠.AQ->BI s Z[i]? a->a∈DH ss Z
 | [],Z,i,s,a,_,h,_,_=>by simp at h
 |s0::ss,[],i,s,a,hl,_,_,_=>by simp at hl
 |s0::ss,o::Z,0,s,a,hl,h,hp,ho=>by
  simp at h;subst h;cases s0 with
  |own xs=>
   have e:o=some (.ref a):=by have:some o=some (some (V.ref a)):=ho;exact BL this
   subst e;exact Cz
  |ow lt t=>exact Hz _ ho
  |AQ=>exact absurd rfl hp
  |_=>cases ho
 |s0::ss,o::Z,i+1,s,a,hl,h,hp,ho=>by
  have q:=dG (ss:=ss) (Z:=Z) (i:=i) (a:=a) (by simpa using hl) (by simpa using h) hp (by simpa using ho)
  cases s0 with
  |own xs=>cases o with
   |none=>exact q
   |some v=>cases v with
    |ref l=>exact DK _ q
    |_=>exact q
  |ow lt t=>exact Eg _ q
  |_=>exact q
theorem B9.Zs(r:B9 F H v t):∀a∈t.addrs,∀vs,H a≠some (.tup vs):=
 B9.rec (motive_1:=λ_ t _=>∀a∈t.addrs,∀vs,H a≠some (.tup vs)) (motive_2:=λ_ ts _=>∀a∈OV.Al ts,∀vs,H a≠some (.tup vs))
  (λ_ a c _=>by rw[OV.GW]at c;cases c)
  (λ_ _ i a c vs=>by rw[OV.FO]at c;exact i a c vs)
  (λ{k}{b}{_}{_}h f _ _ i a c vs=>by
   rw[OV.Cj,Gq,Hy]at c;rcases c with rfl|c|c
   .rw[h];cases k <;> (intro z;cases z)
   .cases k with
    |obj C dx ns=>
     have e:a=dx:=List.mem_singleton.mp c;subst e;have d:H a=some (.own b):=f;rw[d];intro z;cases z
    |_=>exact absurd c B3
   .exact i a c vs)
  (λa c _=>by rw[OV.Gi]at c;cases c)
  (λ_ _ i k a c ws=>by
   rw[OV.CC,Hy]at c;rcases c with c|c
   .exact i a c ws
   .exact k a c ws)
  r
mutual
def Dr:PV->Bool
 | .lst _=>false
 | .Ai _ _=>false
 | .obj _ _ _=>false
 | .exc _ _ _=>false
 | .tup xs=>Jz xs
 |_=>true
def Jz:List PV->Bool
 | []=>true
 |x::r=>Dr x && Jz r
end
noncomputable def FW(F:Hp)(as:List Addr):Hp:=λa=>if a∈as then none else F a
theorem Rep.sub{as:List Addr}(h:∀a∈as,∀vs,F a≠some (.tup vs)):∀{v:V}{p:PV},Rep F v p->Dr p=true->Rep (FW F as) v p:=by
 intro v p r hn;exact Rep.rec (motive_1:=λv p _=>Dr p=true->Rep (FW F as) v p) (motive_2:=λvs ps _=>Jz ps=true->Ad (FW F as) vs ps)
  (λ_=>.AE) (λb _=>.bl b) (λi _=>.int i) (λx _=>.str x)
  (λ_ _ _ z=>by simp[Dr]at z)
  (λ{a vs xs}e _ c z=>.tup (by unfold FW;rw[mY (λq=>h a q vs e)];exact e) (c (by simpa[Dr]using z)))
  (λ_ _ _ _ z=>by simp[Dr]at z)
  (λ_ _ _ _ _ z=>by simp[Dr]at z)
  (λ_=>.con)
  (λ_ z=>by simp[Dr]at z)
  (λ_ _ _ _ _ z=>by simp[Dr]at z)
  (λ_=>.nil)
  (λ_ _ VP YM z=>by
   rw[Jz,Ez]at z;exact .cons (VP z.1) (YM z.2))
  r hn
structure Wb [Xw] (ss:List Slot) (ta:TA) (k:List PV->Prop):Prop where
 go:∀(E:Ent)(Z:L2.St)(F H:Hp)(Q:List V->Hp->Prop),Sg E ss Z F H->(∀vs ps F' H',Mv E ss Z F H F' H'->Ad (Bs F' H' (DH ss Z)) vs ps->k ps->Q vs H')->ta Z H Q
theorem Sg.as(S:Sg E ss Z F H)(h:a∈DH ss Z):F a=none/\H a≠none/\(∀vs,H a≠some (.tup vs))/\CQ ss Z a:=by
 obtain⟨i,s,hs,b,ho⟩:=iz h;refine⟨S.qh hs ho,S.Dt hs ho,?_,S.MI hs ho b⟩;have k:=S.ok i s hs;cases s with
 |own xs=>obtain⟨l,vs,e,_,_,c,_⟩:=k;rw[show Z[i]?=some (some (.ref a))from ho]at e;cases e;rw[c];simp
 |ow lt t=>obtain⟨v,_,r,_⟩:=k;exact r.Zs a ho
 |AQ=>exact absurd rfl b
 |_=>cases ho
theorem Sg.SO(S:Sg E ss Z F H):A8 F (Bs F H (DH ss Z))/\A8 (Bs F H (DH ss Z)) H:=by
 refine⟨λa o e=>?_,λa o e=>?_⟩
 .unfold Bs;rw[mY (λq=>by rw[(S.as q).1]at e;cases e)];exact e
 .unfold Bs at e;split at e
  .exact e
  .exact S.fh a o e
theorem Sg.lend(S:Sg E ss Z F H)(r:Ad (Bs F H (DH ss Z)) vs ps):Sg (E3 [] (Bs F H (DH ss Z)) H) (ps.map .is) (vs.map some) (Bs F H (DH ss Z)) H:=by
 have nn:∀{p:Prop}(a:Addr),a∈([]:List Addr)->p:=λa h=>absurd h B3;refine⟨⟨S.SO.2,A8.refl _,λ_ _ _ e=>e,λ_ _ e=>.inl e,λa h=>nn a h,λa h=>nn a h,λa h=>nn a h,λa h=>nn a h,λa h=>nn a h,λa h=>nn a h⟩,by rw[AW,AW,r.length],λi s hi=>?_,λi j s u l HE hi g c f=>?_⟩
 .rw[BG]at hi;cases e:ps[i]? with
  |none=>rw[e]at hi;cases hi
  |some p=>
   rw[e]at hi;obtain⟨v,d,b⟩:=r.get e;have es:Slot.is p=s:=BL hi;subst es;rw[BG,d];exact⟨v,rfl,b⟩
 .rw[BG]at hi;cases e:ps[i]? with
  |none=>rw[e]at hi;cases hi
  |some p=>rw[e]at hi;have es:Slot.is p=s:=BL hi;subst es;cases c
theorem Sg.yp(S:Sg E ss Z F H)(f:Fin (E3 [] (Bs F H (DH ss Z)) H) F' H'):Mv E ss Z F H (FW F' (DH ss Z)) H'/\∀a∈DH ss Z,∀vs,F' a≠some (.tup vs):=by
 have kp:∀a o,H a=some o->H' a=some o:=λa o e=>f.keep a o ⟨B3,B3⟩ e;refine⟨S.step (λa o e=>?_) (λa o e=>?_) (λa o _ e=>kp a o e) (λa o e=>?_) (λi l hi e=>Bi.keep (S.EL hi e) λo e=>kp l o e),λa c vs e=>?_⟩
 .unfold FW;rw[mY (λq=>by rw[(S.as q).1]at e;cases e)];exact f.f0 a o (S.SO.1 a o e)
 .unfold FW at e;split at e
  .cases e
  .exact f.fh a o e
 .unfold FW at e;split at e
  .cases e
  .rename_i q;rcases f.fresh a o e with z|z
   .left
    have b:Bs F H (DH ss Z) a=some o:=z;unfold Bs at b;rw[mY q]at b;exact b
   .exact .inr z
 .obtain⟨o,ho⟩:=Option.ne_none_iff_exists'.mp (S.as c).2.1;have z:F' a=some o:=f.f0 a o (by show Bs F H (DH ss Z) a=some o;unfold Bs;rw[md c];exact ho);rw[z]at e;cases e;exact(S.as c).2.2.1 vs ho
section
variable[Xw]
variable{K:ZEe}{k:PV->Prop}{lt:Bool}
theorem ZBE{k:List PV->Prop}(h:k []):Wb ss B5 k:=⟨λE Z F H Q S q=>q _ _ F H (.refl S) .nil h⟩
theorem ZBq{k:List PV->Prop}(h:Wp ss te λp=>Wb ss tr λps=>k (p::ps)):Wb ss (AU te tr) k:=⟨λE Z F H Q S q=>
 h.go E Z F H _ S λv p F1 H1 b d h2=>h2.go E Z F1 H1 _ b.st λvs ps F2 H2 a c kk=>q _ _ F2 H2 (b.trans a) (.cons ((d.mono a.ff).mono a.st.SO.1) c) kk⟩
theorem Pp(h:Wx ss te λm u=>m=[]/\k u.pv):Wp ss te k:=⟨λE Z F H Q S q=>
 h.go E Z F H _ S λv m u F1 H1 c r nd d AG=>by
  obtain⟨j,kk⟩:=AG;subst j;have g:∀a∈u.addrs,H a=none:=λa b=>by
   rcases(d a b).2.2 with⟨i,hi,_⟩|z
   .cases hi
   .exact z
  obtain⟨S1,f⟩:=c.st.lay u.addrs (λa b=>⟨(d a b).1,(d a b).2.1,r.there a b⟩) λa b i s hs o=>S.Dt hs o (g a b);refine q v u.pv _ H1 ⟨S1,c.ff.trans f,c.hh,λa o e=>?_⟩ (r.rep f λa b o ho=>by unfold Bs;rw[md b];exact ho) kk;unfold Bs at e;split at e
  .rename_i z;exact .inr (g a z)
  .exact c.nn a o e⟩
end
theorem Qm:∀{xs:List PV},(∀x∈xs,C4 x x=true)->Cm xs xs=true
 | [],_=>by rw[Cm]
 |x::r,h=>by rw[S8,h x (by simp),Qm (xs:=r) λy a=>h y (by simp[a])];rfl
theorem Oy{K:ZEe}:∀(d:Nat){p:PV},dat K d p->C4 p p=true:=by
 intro d
 induction d with
 |zero=>intro p h;cases p <;> first|exact h.elim|rfl|exact rQ _
 |succ d b=>
  intro p h;cases p with
  |lst xs=>show Cm xs xs=true;exact Qm λx hx=>b (h x hx)
  |tup xs=>show Cm xs xs=true;exact Qm λx hx=>b (h x hx)
  |con a xs=>show Cm xs xs=true;exact Qm λx hx=>b (h.1 x hx)
  |_=>first|exact h.elim|rfl|exact rQ _
theorem To:∀(xs:List PV),OV.Bg (xs.map .fz)=xs
 | []=>by rw[PU,OV.Bg]
 |x::r=>by rw[Bv,OV.Bg,OV.pv,To r]
theorem vg(a:Addr)(xs:List PV):(OV.nd .lst a (xs.map .fz)).pv=.lst xs:=by rw[OV.pv,To]
end Fz
namespace L2
variable{M:Model}{A:Around}{E xe:Value->Shared->Prop}{s:Shared}{Zu h':Heap}{env:Env}{l outer:List Env}{C S b ea f fI:Addr}{dd dx fr tb:Option Addr}{o oe ox:Obj}{vs:Array Value}{cd head v:Value}{w:World}{mg:ZEg}{N ps sn:List Str}{n name par qual x:Str}{scope:Scope}{H H':Hp}{X:Cx}{E':St->XK}{Bz J5 np p pos:Pos}{e e0:Expr}{es:List Expr}{t:TA}{ab zD:Bool}{prog:Program}{Zb pn:ZEf}{Z:St}{j kk:Nat}{fd:FuncData}{b0:Stmt}{M7:(St->XK)->TS}{th:TS}{sp:Sp}
structure IC (h:Heap) (ea:Addr) (C:Value) (dx tb:Option Addr):Prop where
 obj:∃oe vs,h.get? ea=some oe/\oe.cls=C/\oe.dict=dx/\oe.data=.fields vs/\1<vs.size/\vs[1]?=some (tb.elim Value.none Value.ref)
 ent:∀T,tb=some T->T≠ea/\∃oT ts,h.get? T=some oT/\oT.data=.fields ts/\3<ts.size
section
variable{L:Addr}{C:Value}{Q:Unit->Shared->Prop}
theorem kc(o:Obj)(g:Array Value->Array Value):(o.mapFields g).dict=o.dict:=by
 obtain⟨c,d,a,sl⟩:=o;cases a <;> rfl
structure Kp (l:List Env) (ea:Addr) (tb:Option Addr) (h h':Heap):Prop where
 keep:∀b o,h.get? b=some o->b∉D3 l->b≠ea->tb≠some b->h'.get? b=some o
 slot:∀b o,h.get? b=some o->b∈D3 l->∃sl,h'.get? b=some { o with slots:=sl }
 size:h.objs.size<=h'.objs.size
theorem jO(d:s.heap.FunFrames Zu (env::outer))(ho:s.heap.get? b=some o)(hd:o.data=.fields vs):b∉D3 (env::outer):=λc=>by
 obtain⟨_,u,a,hn⟩:=d.mem c;rw[ho]at a;cases a;exact hn vs hd
theorem cL{more:Bool}(Lq:A.frames=some (env::outer))(e:s.heap.FunFrames Zu (env::outer))(q:env.frame=some L)
  (f:s.heap.get? ea=some oe) (r:oe.cls=C) (L5:oe.dict=dx) (hd:oe.data=.fields vs) (hz:1<vs.size)
  (h:∀h' T,Kp (env::outer) ea none s.heap h'->s.heap.objs.size<=T->IC h' ea C dx (some T)->Q () { s with heap:=h' }) :
  wpAny M A (do
   let fr <- frameOf env
   let pl <- entryPlaceOf L more
   let b <- EntryCells.newEntry head fr Value.none (rawInt L) Value.none pl
   setField (.ref ea) 1 b) Q E s:=by
 have k:=jO e f hd;refine lr (wpAny_frameOf_fun Lq e q λg a=>?_);refine lr (wpAny_entryPlaceOf λpl p=>?_);unfold EntryCells.newEntry newFields;refine lr (uB ?_ (p.sizeOk5 _ _ _ _ _));generalize t:([head,Value.ref L,Value.none,rawInt L,Value.none]++(if pl.isEmpty then List.replicate 6 Value.none else pl)).toArray=ts
 have n:3<ts.size:=by
  rw[<- t];simp only[Bl,Bu,Cc,Z5];omega
 have j:g.get? ea=some oe:=(a.2.1 ea k).trans f;have u:(g.push { cls:=.type "traceback", dict:=none,data:=.fields ts }).get? g.objs.size=some { cls:=.type "traceback", dict:=none,data:=.fields ts }:=CA g rfl;have i:=BZ (h:=g) { cls:=.type "traceback", dict:=none,data:=.fields ts } j;have m:g.objs.size≠ea:=N8 (BE j);have l:=k9 hd (·.setIfInBounds 1 (Value.ref g.objs.size))
 have w:=K2 (Obj.mapFields (·.setIfInBounds 1 (Value.ref g.objs.size))) i (Obj.isFreed_of_fields l)
 have x:=(Gn (g.push { cls:=.type "traceback", dict:=none,data:=.fields ts }) (Obj.mapFields (·.setIfInBounds 1 (Value.ref g.objs.size))) (BP m)).trans u
 refine zY i hd hz (h _ g.objs.size ⟨λb o c LY FV _=>?_,λb o c II=>?_,?_⟩ ?_ ⟨⟨_,_,w,?_,?_,l,?_,?_⟩,λT v=>?_⟩)
 .have d:g.get? b=some o:=(a.2.1 b LY).trans c;rw[Gn _ _ (BP FV)];exact BZ _ d
 .obtain⟨sl,d⟩:=a.2.2 b o c;refine⟨sl,?_⟩;rw[Gn _ _ (by rintro rfl;exact k II)];exact BZ _ d
 .rw[Yv,Hx,a.1];exact Gr _
 .rw[a.1];exact Ap _
 .rw[Obj.cls_mapFields];exact r
 .rw[kc];exact L5
 .simpa using hz
 .simp[hz]
 .cases v;exact⟨m,_,_,x,rfl,n⟩
theorem Kp.refl{l:List Env}{ea:Addr}{tb:Option Addr}{h:Heap}:Kp l ea tb h h:=⟨λ_ _ a _ _ _=>a,λ_ o a _=>⟨o.slots,a⟩,Ap _⟩
theorem rl(Lq:A.frames=some (env::outer))(e:s.heap.FunFrames Zu (env::outer))(f:env.frame=some L)(hx:IC s.heap ea C dx tb)
  (h:∀h' T,Kp (env::outer) ea tb s.heap h'->s.heap.objs.size<=T∨tb=some T->IC h' ea C dx (some T)->Q () { s with heap:=h' }) :
  wpAny M A (noteFrame (.ref ea) env) Q E s:=by
 obtain⟨oe,vs,g,l,hd,KA,hz,h1⟩:=hx.obj;unfold noteFrame;simp only[f];refine lr (vT g KA h1 ?_);cases tb with
 |none=>
  rw[mY (by decide)];exact cL Lq e f g l hd KA hz λh' T k q=>h h' T k (.inl q)
 |some T=>
  obtain⟨Kq,n,ts,c,HS,i⟩:=hx.ent T rfl;show wpAny M A (do if(Value.ref T != Value.none)=true then _ else _) _ _ _
  rw[md (show(Value.ref T != Value.none)=true from by simp)];refine lr (vT c HS (Array.getElem?_eq_getElem i) ?_)
  by_cases j:(ts[3] == rawInt L)=true
  .rw[md j];exact oo (h s.heap T Kp.refl (.inr rfl) hx)
  rw[mY j];refine lr (zY c HS i ?_);have d:∀b,b≠T->(s.heap.update T (Obj.mapFields (·.setIfInBounds 3 Value.none))).get? b=s.heap.get? b:=λb a=>Gn _ _ (BP a)
  have m:=jO e c HS;refine cL (s:={ s with heap:=s.heap.update T (Obj.mapFields (·.setIfInBounds 3 Value.none)) }) Lq (e.of_keeps λb o a hn=>⟨o,(d b (by rintro rfl;rw[c]at a;cases a;exact hn ts HS)).trans a,rfl⟩) f ((d ea (BP Kq)).trans g) l hd KA hz λh' T' k hn x=>?_
  refine h h' T' ⟨λb o a LY FV Lh=>k.keep b o ((d b (by rintro rfl;exact Lh rfl)).trans a) LY FV (by simp),λb o a II=>k.slot b o ((d b (by rintro rfl;exact m II)).trans a) II,?_⟩ (.inl ?_) x
  .have z:=k.size;rw[show(s.heap.update T (Obj.mapFields (·.setIfInBounds 3 Value.none))).objs.size=s.heap.objs.size from Yv ..]at z
   exact z
  .have z:=hn;rw[show(s.heap.update T (Obj.mapFields (·.setIfInBounds 3 Value.none))).objs.size=s.heap.objs.size from Yv ..]at z
   exact z
theorem fG(x:IC s.heap ea C dx tb)(i:∀b∈D3 l,∃o,s.heap.get? b=some o/\∀vs,o.data≠.fields vs)
  (h:∀h',Kp l ea tb s.heap h'->IC h' ea C dx tb->Q () { s with heap:=h' }):wpAny M A (setFlight (.ref ea) fr) Q E s:=by
 obtain⟨oe,vs,g,j,hd,KA,hz,h1⟩:=x.obj;unfold setFlight;refine lr (vT g KA h1 ?_);cases tb with
 |none=>
  rw[mY (by decide)];exact oo (h s.heap Kp.refl x)
 |some T=>
  obtain⟨Kq,n,ts,c,HS,e⟩:=x.ent T rfl;rw[md (show((some T).elim Value.none Value.ref != Value.none)=true from by simp)];generalize (fr.elim Value.none λf=>rawInt f)=mk;have d:∀b,b≠T->(s.heap.update T (Obj.mapFields (·.setIfInBounds 3 mk))).get? b=s.heap.get? b:=λb a=>Gn _ _ (BP a)
  have m:=K2 (Obj.mapFields (·.setIfInBounds 3 mk)) c (Obj.isFreed_of_fields (k9 HS _))
  refine zY c HS e (h _ ⟨λb o a _ _ Lh=>(d b (by rintro rfl;exact Lh rfl)).trans a,λb o a II=>⟨o.slots,(d b ?_).trans a⟩,by rw[Yv];exact Ap _⟩ ⟨⟨oe,vs,(d ea (BP Kq)).trans g,j,hd,KA,hz,h1⟩,λT' k=>?_⟩)
  .rintro rfl;obtain⟨o',Ds,hn⟩:=i b II;rw[c]at Ds;cases Ds;exact hn ts HS
  .cases k;exact⟨Kq,_,_,m,k9 HS _,by simpa using e⟩
theorem Kp.frames{h:Heap}(k:Kp l ea tb h h')(c:h.FunFrames Zu l):∀b∈D3 l,∃o,h'.get? b=some o/\∀vs,o.data≠.fields vs:=λb a=>by
 obtain⟨_,o,ho,hn⟩:=c.mem a;obtain⟨sl,e⟩:=k.slot b o ho a;exact⟨_,e,hn⟩
theorem Kp.trans{T:Addr}{h h1 h2:Heap}(k:Kp l ea tb h h1)(c:h.objs.size<=T∨tb=some T)(k2:Kp l ea (some T) h1 h2):Kp l ea tb h h2:=
 ⟨λb o a LY FV Lh=>k2.keep b o (k.keep b o a LY FV Lh) LY FV (λz=>c.elim (λy=>absurd (BE a) (Nat.not_lt.mpr (BL z▸y))) λy=>Lh (y.trans z)),
  λb o a II=>by
  obtain⟨sl,e⟩:=k.slot b o a II;obtain⟨Iu,d⟩:=k2.slot b _ e II;exact⟨Iu,d⟩,Cs k.size k2.size⟩
theorem sj(Lq:A.frames=some (env::outer))(a:s.heap.FunFrames Zu (env::outer))(d:env.frame=some L)(hx:IC s.heap ea C dx tb)
  (h:∀h' T,Kp (env::outer) ea tb s.heap h'->s.heap.objs.size<=T∨tb=some T->IC h' ea C dx (some T)->Q () { s with heap:=h' }) :
  wpAny M A (noteFrame (.ref ea) env) (λ_ s'=>wpAny M A (setFlight (.ref ea) none) Q E s') E s:=
 rl Lq a d hx λh1 T k b x=>fG x (k.frames a) λh2 k2 c=>h h2 T (k.trans b k2) b c
end
section
variable{P:Program}{K:ZEe}{E:XK}
theorem Bk.mz{h:Heap}(ok:Bk P w H' h)(k:∀b u,H' b≠none->h.get? b=some u->h'.get? b=some u):Bk P w H' h':=λa o e=>
 (ok a o e).Hg (λb u c d=>k b u (by rcases c with rfl|c;(rw[e];simp);(rw[c];simp)) d) (λ_ z=>z) λ_ _ z=>z
def Goes(X:Cx)(E:St->XK):Prop:=∀(Zb:ZEf)(Z:St)(H':Hp)(s':Shared)(ea C:Addr)(dx tb:Option Addr),Inv X Zb Z H' s'->IC s'.heap ea (.ref C) dx tb->(H' ea=none/\X.s₀.heap.get? ea=none)->(∀T,tb=some T->H' T=none/\X.s₀.heap.get? T=none)->
 (∀p∈X.pn++Zb,p.1≠ea/\tb≠some p.1)->E Z (.ref C) dx H'->X.xe (.ref ea) s'
end
section
variable{K:ZEe}{x t:Addr}
section
open PySem.Builtin PySem.Builtin.ObjectAttr
end
end
section
variable{C:Value}
theorem Inv.jJ(I:Inv X Zb Z H s)(BY:X.stack=X.env::X.outer)(x:IC s.heap ea C dx tb)(u1:H ea=none)(u2:X.s₀.heap.get? ea=none)(g:∀T,tb=some T->H T=none/\X.s₀.heap.get? T=none)
  (w:∀p∈X.pn++Zb,p.1≠ea/\tb≠some p.1)(kp:Kp (X.env::X.outer) ea tb s.heap h'):Inv X Zb Z H { s with heap:=h' }:=by
 obtain⟨oe,vs,L,_,_,G,_⟩:=x.obj;have mem:∀b,b∈D3 (X.env::X.outer)->b=X.env.locals∨b∈X.fs:=λb a=>by
  rw[<- BY]at a;exact List.mem_cons.mp (I.Qb b a)
 have D:∀b,b=X.env.locals∨b∈X.fs->b∈D3 (X.env::X.outer):=λb a=>by
  have d:X.env.frame=some X.env.locals:=by
   rcases I.ok.Iv with e|⟨_,d⟩
   .rw[e]at BY;exact absurd (sA List.length BY) (by simp)
   .exact d
  unfold D3;rw[Z1,d];rcases a with rfl|a
  .exact Cz
  .exact DK _ a
 have f:∀b o,s.heap.get? b=some o->(∀vs,o.data≠.fields vs)->∃sl,h'.get? b=some { o with slots:=sl }:=λb o a hd=>by
  by_cases d:b∈D3 (X.env::X.outer)
  .exact kp.slot b o a d
  .refine⟨o.slots,kp.keep b o a d (by rintro rfl;rw[L]at a;cases a;exact hd _ G) λz=>?_⟩;obtain⟨_,O,ts,M,HS,_⟩:=x.ent b z;rw[M]at a;cases a;exact hd _ HS
 have h:∀b o,s.heap.get? b=some o->H b≠none->h'.get? b=some o:=λb o a hn=>kp.keep b o a (λz=>hn (I.TJ b (by rw[BY];exact z))) (λz=>hn (z▸u1)) λz=>hn (g b z).1;have j:∀b o,X.s₀.heap.get? b=some o->b≠X.env.locals:=λb o a z=>absurd (BE a) (Nat.not_lt.mpr (z▸I.ok.above));have E:∀c v,s.heap.IsCell c v->h'.IsCell c v:=λc v AG=>by
  obtain⟨o,ho,hd⟩:=AG;obtain⟨sl,h1⟩:=f c o ho (by rw[hd];intro vs z;cases z);exact⟨_,h1,hd⟩
 refine⟨I.ok,I.os,I.bare,⟨λb o a hn d hx=>?_,λb o a hn d hx=>?_,I.base.free,λb o a hx=>?_,I.base.HI,I.base.Ge,I.base.HG⟩,?_,λy c q=>?_,I.free,I.EU,λp Fp=>?_,I.AN.mz λb u hn a=>h b u a hn,I.len⟩
 .exact kp.keep b o (I.base.keep b o a hn d hx) (λz=>(mem b z).elim (j b o a) d) (by rintro rfl;rw[u2]at a;cases a) λz=>by rw[(g b z).2]at a;cases a
 .obtain⟨sl,h1⟩:=I.base.slot b o a hn d hx;obtain⟨Iu,h2⟩:=kp.slot b _ h1 (D b (.inr d));exact⟨Iu,h2⟩
 .obtain⟨t,h1⟩:=I.base.there b o a hx
  by_cases d:b∈D3 (X.env::X.outer)
  .obtain⟨Iu,h2⟩:=kp.slot b _ h1 d;exact⟨_,h2⟩
  .exact⟨t,kp.keep b t h1 d (by rintro rfl;rw[u2]at a;cases a) λz=>by rw[(g b z).2]at a;cases a⟩
 .obtain⟨m,⟨o,es,N,ho,r⟩,K⟩:=I.loc;obtain⟨sl,h1⟩:=kp.slot _ _ ho (D _ (.inl rfl));refine⟨m,⟨_,es,N,h1,r⟩,λi y v hi n J=>?_⟩;obtain⟨u,F,l⟩:=K i y v hi n J;refine⟨u,F,?_⟩;rcases l with l|⟨k,c,hc,ic⟩
  .exact .inl l
  .exact .inr ⟨k,c,hc,E c _ ic⟩
 .obtain⟨v,n⟩:=I.cell y c q;exact⟨v,E c v n⟩
 .obtain⟨h1,h2,B,A,h5⟩:=I.pin p Fp;exact⟨kp.keep _ _ h1 (λz=>(mem _ z).elim B A) (w p Fp).1 (w p Fp).2,h2,B,A,h5⟩
end
noncomputable abbrev Cx.Gm(X:Cx)(pn:ZEf)(xe:Value->Shared->Prop):Cx:={ X with pn:=pn,xe:=xe }
noncomputable abbrev Cx.Dn(X:Cx)(e:Value):Cx:={ X with A:=X.A.mark (some e),calm:=false,xe:=λ_ _=>False }
section
variable{eO:ZEf}{e:Value}
theorem Cx.Ok.Gm(ok:X.Ok):(X.Gm pn xe).Ok:=⟨ok.mod,ok.kind,ok.glob,ok.blt,ok.above,ok.inj,ok.has,ok.Je,ok.hd,ok.frames,ok.Iv,ok.Kx,ok.bs,ok.Ga,ok.JV,ok.JD,ok.Ek,ok.Hr⟩
theorem Cx.Ok.Kz(ok:(X.Gm pn xe).Ok):X.Ok:=⟨ok.mod,ok.kind,ok.glob,ok.blt,ok.above,ok.inj,ok.has,ok.Je,ok.hd,ok.frames,ok.Iv,ok.Kx,ok.bs,ok.Ga,ok.JV,ok.JD,ok.Ek,ok.Hr⟩
theorem Cx.Ok.Dn(ok:X.Ok):(X.Dn e).Ok:=⟨ok.mod,ok.kind,ok.glob,ok.blt,ok.above,ok.inj,ok.has,ok.Je,λz=>(by cases z),ok.frames,ok.Iv,ok.Kx,ok.bs,ok.Ga,ok.JV,ok.JD,ok.Ek,ok.Hr⟩
theorem Inv.Gm(I:Inv X Zb Z H s):Inv (X.Gm (X.pn++Zb) xe) [] Z H s:=⟨I.ok.Gm,I.os,I.bare,I.base,I.loc,I.cell,I.free,I.EU,λp a=>I.pin p (by simpa using a),I.AN,I.len⟩
theorem Inv.Kz(I:Inv (X.Gm (X.pn++Zb) xe) eO Z H s):Inv X Zb Z H s:=⟨I.ok.Kz,I.os,I.bare,I.base,I.loc,I.cell,I.free,I.EU,λp a=>I.pin p (Hz _ a),I.AN,I.len⟩
theorem Inv.Dn(I:Inv X Zb Z H s):Inv (X.Dn e) Zb Z H s:=⟨I.ok.Dn,I.os,I.bare,I.base,I.loc,I.cell,I.free,I.EU,I.pin,I.AN,I.len⟩
theorem Inv.Ra(ok:X.Ok)(I:Inv (X.Dn e) Zb Z H s):Inv X Zb Z H s:=⟨ok,I.os,I.bare,I.base,I.loc,I.cell,I.free,I.EU,I.pin,I.AN,I.len⟩
variable{body Dn:List Stmt}
variable{P:Program}{K:ZEe}{k:Nat}{st:Stmt}
end
end L2
namespace Fz
open L2 Lw
variable{xs:List PV}{E:Ent0}{ss:List Slot}{Z:L2.St}{F F' F1 H H':Hp}{ta tb tc te ti:TE}{tp:Bool}{nx:List Slot->Prop}{R:Ar}
structure ME (K:ZEe) (a:Addr) (xs:List PV):Prop where
 K0:xs.all flat=true
 sq:∀H,AA K H a (xs.map Fz.enc)
 ob:∃o:Obj,K.lookup a=some o/\o.cls=.type "tuple"
theorem ME.of{K:ZEe}{a:Addr}{vs:List V}(h:∀H,AA K H a vs)(e:xs.map Fz.enc=vs)(f:xs.all flat=true):ME K a xs:=by
 subst e;refine⟨f,h,?_⟩;rcases h (λ_=>none)with h|⟨o,A5,n,h1,h2,_⟩
 .rcases h with h|⟨_,h⟩
  .cases h
  .cases h
 .exact⟨o,h1,h2⟩
def Uh:Pre:=λl R=>∃(ns:List Str),l=[.sq false (ns.map .str)]/\ns.length<=1000/\R=.is λp=>p=.bl true
theorem ql{α:Type}(b:List α)(x:α)(j:Nat):(b.take j++x::b.drop j).Perm (x::b):=by
 have h:=List.perm_middle (a:=x) (l₁:=b.take j) (l₂:=b.drop j)
 rwa [LO]at h
theorem Xo{a:List Str}{x:Str}(j:Nat)(h:a.Nodup)(hx:x∉a):(a.take j++x::a.drop j).Nodup:=(ql a x j).nodup_iff.mpr (List.nodup_cons.mpr ⟨hx,h⟩)
def Xe:Pre:=λl R=>∃i:Int,l=[.is (.int i)]/\R=.is λp=>p=.bl true
section
variable[Xw]
variable{K:ZEe}{k:PV->Prop}{v:V}
variable{js:List Nat}
theorem Tw{i:Nat}(hi:ss[i]?=some .AQ)(h:Wq ss ta λtp xs=>tp=false/\∃ns:List Str,xs=ns.map PV.str/\(∀x∈ns,Nm x)/\ns.length<=1000/\∀x:Str,Nm x->x∉ns->k (.str x)):
  Wp ss (C9 (O8 K) [] E0 (AU (B1 i) (AU ta B5))) k:=⟨λE Z F H Q S q=>by
 obtain⟨p,e,_⟩:=S.ok i _ hi;refine⟨_,e,h.go E Z F H _ S λv tp xs F1 H1 a sv⟨f,ns,ex,c,hz,kk⟩=>?_⟩;subst f;subst ex;obtain⟨l,vs,d,hn,b,r⟩:=sv;subst d;rw[r.strs]at b;exact⟨p,l,ns,rfl,a.st.EL hi e,b,λz=>hn i hi (z▸e),c,hz,λx H3 hx Kt s=>q _ _ F1 H3 (a.trans (a.st.Ru hi e s)) (.str x) (kk x hx Kt)⟩⟩
def X0:Pre:=λl R=>∃(ns:List Str)(r:Str),l=[.sq false (ns.map .str),.is (.str r)]/\ns.length<64/\R=.is λp=>∃ts:List Str,ts.Perm ns/\sortedS ts=true/\p=CY r 0 ts
end
end Fz
namespace Fz
open L2 Lw
variable{E:Ent0}{AI ss:List Slot}{Z σ':L2.St}{F F' H H':Hp}{te:TE}{v:V}{nx:List Slot->Prop}{R:Ar}{pre:SQ}
@[reducible] def ZE3 (X:XK) (D:Ex->Prop):Xw:=⟨λ_=>X,λ_=>True,D⟩
@[reducible] def MD (E:Ent0) (J:List Slot->Prop) (D:Ex->Prop):Xw:=⟨λZ C dx H=>∃ss F x,J ss/\Sg E ss Z F H/\D x/\x.at F C dx,J,D⟩
noncomputable abbrev Ent0.at(E:Ent0)(F:Hp):Ent0:=⟨E.A,F,E.H0,E.B⟩
theorem Fin.un(S:Fin E F H)(f:Fin (E.at F) F' H'):Fin E F' H':=⟨f.fh,S.f0.trans f.f0,f.keep,λa o e=>(f.fresh a o e).elim (λe=>S.fresh a o e) .inr,f.GG,f.K3,f.a0,f.bF,f.bH,f.b0⟩
theorem Ok.un{G:Hp}{s:Slot}{o:Option (Option V)}:Ok (E.at G) F H s o↔Ok E F H s o:=by
 cases s with
 |sq tp xs=>cases tp <;> exact Iff.rfl
 |_=>exact Iff.rfl
theorem Sg.un(S:Sg E ss Z F H)(S':Sg (E.at F) AI σ' F' H'):Sg E AI σ' F' H':=⟨S.toFin.un S'.toFin,S'.len,λi s hi=>Ok.un.mp (S'.ok i s hi),S'.By⟩
theorem Sg.atF(S:Sg E ss Z F H):Sg (E.at F) ss Z F H:=⟨⟨S.fh,A8.refl _,S.keep,λ_ _ e=>.inl e,S.GG,S.K3,S.a0,S.bF,S.bH,S.b0⟩,S.len,λi s hi=>Ok.un.mpr (S.ok i s hi),S.By⟩
theorem Ar.un{G:Hp}(h:R.ok (E.at G) F H v):R.ok E F H v:=by
 cases R <;> exact h
end Fz
namespace Fz
open L2 Lw
variable{ss:List Slot}{ta tb tc te:TE}{cs ns:List Str}{r x:Str}{d:AO}
theorem pY{b c n:Int}(d:1<=b)(a:b<=c)(hn:0<=n):∃m:Nat,(if(if c<n then c else n) > b then(if c<n then c else n)else b)=(m:Int)/\(m:Int)<=c:=by
 have h:∀z:Int,1<=z->z<=c->∃m:Nat,z=(m:Int)/\(m:Int)<=c:=λz e h1=>⟨z.toNat,by omega,by omega⟩;apply h
 .split
  .omega
  .omega
 .split
  .split <;> omega
  .omega
section
variable[Xw]
variable{K:ZEe}{k:PV->Prop}{a:Addr}
theorem mQ{neg:Bool}(c:ME K a (ns.map .str))(h:Wp ss ta λp=>∃x,p=.str x/\k (.bl (if neg then !decide (x∈ns)else decide (x∈ns)))):Wp ss (Br (LD K neg) ta (tC (.ref a))) k:=⟨λE Z F H Q S q=>
 h.go E Z F H _ S λv p F1 H1 d b AG=>by
  obtain⟨x,e,kk⟩:=AG;subst e;cases b.inv;have sq:=c.sq H1;rw[UM]at sq;refine⟨a,ns.map V.str,rfl,.inr sq,rfl,Fi ns,?_⟩;rw[Kc];exact q _ _ F1 H1 d (.bl _) kk⟩
end
noncomputable def Oi(r:Str):Bool:=decide (r∈([("none":Str), "ahead","all"]))
theorem jA(h:x.length<=100)(hx:∀c∈x.cps.toList,c<16 ^ 8):(reprText x).length<=100000:=by
 have:=PySem.StrLaws.reprText_len x hx;omega
theorem qS(h:Nm x):(reprText x).length<=100000:=jA (Cs h.2.1 (by decide)) λc a=>JB (h.2.2 c a).2 (by decide)
section
variable[Xw]
variable{k:PV->Prop}
variable{K:ZEe}{t u:TE}{pre:SQ}{tA:TA}
theorem UQ(h:Wp ss te λp=>∃x,p=.str x/\x.length<=1000/\k (.bl (isNm x))):Wp ss (C9 LC [] E0 (AU te B5)) k:=⟨λE Z F H Q S q=>
 h.go E Z F H _ S λv p F1 H1 a r AG=>by
  obtain⟨x,e,hx,kk⟩:=AG;subst e;cases r.inv;exact⟨x,rfl,hx,λH3 s=>q _ _ F1 H3 (a.trans (a.st.grow s)) (.bl _) kk⟩⟩
end
inductive BJ where
 |put (x:Str) (i:Int)|take (x:Str)|move (x:Str) (i:Int)|turn (lo hi:Int)
def aP:BJ->PV
 | .put x i=>.tup [.str "put",.str x,.int i]
 | .take x=>.tup [.str "take",.str x]
 | .move x i=>.tup [.str "move",.str x,.int i]
 | .turn lo hi=>.tup [.str "turn",.int lo,.int hi]
structure Mu where
 noName:Addr
 there:Addr
 gone:Addr
 Pw:Addr
 full:Addr
noncomputable def Qa(C:Addr)(nm:Str):Ex:=⟨C,["name"],[.str nm]⟩
noncomputable def SA(C:Addr)(i:Int):Ex:=⟨C,["at"],[.int i]⟩
def kh(C:Addr):Ex:=⟨C,[],[]⟩
def inR(i:Int)(lo hi:Int):Prop:=lo<=i/\i<=hi
instance {i lo hi:Int}:Decidable (inR i lo hi):=by unfold inR;infer_instance
def BJ.Cw(c:Mu)(ns:List Str):BJ->Option Ex
 | .put x i=>if isNm x=false then some (Qa c.noName x)else if x∈ns then some (Qa c.there x)else if ¬ inR i 0 ns.length then some (SA c.Pw i)else if 40<=ns.length then some (kh c.full)else none
 | .take x=>if x∉ns then some (Qa c.gone x)else none
 | .move x i=>if x∉ns then some (Qa c.gone x)else if ¬ inR i 0 (ns.length - 1)then some (SA c.Pw i)else none
 | .turn lo hi=>if ¬ inR lo 0 ns.length then some (SA c.Pw lo)else if ¬ inR hi lo ns.length then some (SA c.Pw hi)else none
def DX(x:Str):Prop:=(reprText x).length<=100000/\x.length<=1000
def KS(i:Int):Prop:=i.natAbs.log2<1920
def BJ.say:BJ->Prop
 | .put x i=>DX x/\KS i
 | .take x=>DX x
 | .move x i=>DX x/\KS i
 | .turn lo hi=>KS lo/\KS hi
def BJ.Is(d:BJ)(ns:List Str)(d':AO):Prop:=aP d=dP d'/\d'.Ok 40 ns
theorem lO{c:Nat}(h:Ki c=true):97<=c/\c<=122:=by
 refine J8 λhn=>?_;have e:∀i,i<26->Hv.cps.extract i (i+1)=#[97+i]:=by decide +kernel
 have a:∀i,i+(Str.length ⟨#[c]⟩)<=Hv.length->Builtin.Str.subAt Hv ⟨#[c]⟩ i=false:=λi hi=>by
  have d:i+1<=26:=hi;show(Hv.cps.extract i (i+1) == #[c])=false;rw[e i (by omega)];cases b:(#[97+i] == #[c])with
  |false=>rfl
  |true=>
   have q:=eq_of_beq b;simp at q;exact absurd ⟨by omega,by omega⟩ hn
 unfold Ki at h;rw[PySem.W.occ_nil_of_no _ _ 1 a]at h;exact absurd h (by decide)
theorem af(h:isNm x=true):Nm x:=by
 unfold isNm at h;simp only[Ez,decide_eq_true_eq,J9]at h;obtain⟨h1,h2,b⟩:=h;exact⟨by omega,by omega,λc a=>lO (b c a)⟩
theorem BJ.good{c:Mu}{d:BJ}(h:d.Cw c ns=none):∃d':AO,d.Is ns d':=by
 cases d with
 |put x i=>
  simp only[BJ.Cw]at h;split at h
  .cases h
  .next h1=>
   split at h
   .cases h
   .next h2=>
    split at h
    .cases h
    .next h3=>
     split at h
     .cases h
     .next h4=>
      have f:inR i 0 ns.length:=Decidable.not_not.mp h3;obtain⟨a,b⟩:=f;obtain⟨n,rfl⟩:=Ef a;refine⟨.put x n,rfl,af (by cases e:isNm x <;> simp_all),h2,by omega,by omega⟩
 |take x=>
  simp only[BJ.Cw]at h;split at h
  .cases h
  .next h1=>exact⟨.take x,rfl,(Decidable.not_not.mp h1:x∈ns)⟩
 |move x i=>
  simp only[BJ.Cw]at h;split at h
  .cases h
  .next h1=>
   split at h
   .cases h
   .next h3=>
    have f:inR i 0 (ns.length - 1):=Decidable.not_not.mp h3;obtain⟨a,b⟩:=f;obtain⟨n,rfl⟩:=Ef a;exact⟨.move x n,rfl,Decidable.not_not.mp h1,by omega⟩
 |turn lo hi=>
  simp only[BJ.Cw]at h;split at h
  .cases h
  .next h1=>
   split at h
   .cases h
   .next h3=>
    have j:inR lo 0 ns.length:=Decidable.not_not.mp h1;have f:inR hi lo ns.length:=Decidable.not_not.mp h3;obtain⟨a,b⟩:=j;obtain⟨g,k⟩:=f;obtain⟨n,rfl⟩:=Ef a;obtain⟨m,rfl⟩:=Ef (Int.le_trans a g);exact⟨.turn n m,rfl,by omega,by omega⟩
noncomputable def HH:AO->BJ
 | .put x i=>.put x i
 | .take x=>.take x
 | .move x i=>.move x i
 | .turn lo hi=>.turn lo hi
theorem Va(d:AO):aP (HH d)=dP d:=by cases d <;> rfl
theorem v7{c:Mu}(h:d.Ok 40 ns):(HH d).Cw c ns=none:=by
 cases d with
 |put x i=>
  obtain⟨h1,h2,b,a⟩:=h;simp only[HH,BJ.Cw];rw[mY (by rw[VC h1];decide),mY h2,mY (Decidable.not_not.mpr ⟨by omega,by omega⟩),mY (by omega)]
 |take x=>simp only[HH,BJ.Cw];rw[mY (Decidable.not_not.mpr (show x∈ns from h))]
 |move x i=>
  obtain⟨h1,h2⟩:=h;simp only[HH,BJ.Cw];rw[mY (Decidable.not_not.mpr h1),mY (Decidable.not_not.mpr ⟨by omega,by omega⟩)]
 |turn lo hi=>
  obtain⟨h1,h2⟩:=h;simp only[HH,BJ.Cw];rw[mY (Decidable.not_not.mpr ⟨by omega,by omega⟩),mY (Decidable.not_not.mpr ⟨by omega,by omega⟩)]
theorem sX(h:d.Ok 40 ns):(HH d).Is ns d:=⟨Va d,h⟩
theorem Q2:¬ Str.ofString "put"=Str.ofString "move" := by decide +kernel
theorem xI{e:AO}(h:dP d=dP e):d=e:=by
 cases d <;> cases e <;> simp[dP]at h <;> first|(exact absurd h.1 Q2)|(exact absurd h.1.symm Q2)|(obtain⟨a,b⟩:=h;subst a;congr;omega)|(obtain⟨a,b⟩:=h;congr <;> omega)|(subst h;rfl)
theorem ng{i:Int}(h:i.natAbs<2 ^ 1000):KS i:=by
 unfold KS
 by_cases z:i.natAbs=0
 .rw[z];decide
 .have:=(Nat.log2_lt z).mpr h;omega
theorem Ph{i:Nat}(h:i<=1000000):KS i:=ng (by
 have:(1000000:Nat)<2 ^ 1000:=by decide +kernel
 show Int.natAbs (i:Int)<_;rw[Int.natAbs_natCast];omega)
theorem Jk(h:Nm x):DX x:=⟨qS h,by have:=h.2.1;omega⟩
theorem pI(h:d.Ok 40 ns)(a:∀x∈ns,Nm x)(hz:ns.length<=40):(HH d).say:=by
 cases d with
 |put x i=>exact⟨Jk h.1,Ph (by have:=h.2.2.1;omega)⟩
 |take x=>exact Jk (a x h)
 |move x i=>exact⟨Jk (a x h.1),Ph (by have:=h.2;omega)⟩
 |turn lo hi=>exact⟨Ph (by have:=h.1;have:=h.2;omega),Ph (by have:=h.2;omega)⟩
theorem YF(h:x.length<=100)(hx:∀c∈x.cps.toList,c<16 ^ 8):DX x:=⟨jA h hx,by omega⟩
theorem yf(K:ZEe){d:Nat}(r:Str)(g:Nat)(cs:List Str):dat K (d+2) (CY r g cs):=λx hx=>by
 simp only[Gq,B3,yO]at hx;rcases hx with rfl|rfl|rfl
 .trivial
 .trivial
 .intro y a;obtain⟨z,_,rfl⟩:=List.mem_map.mp a;cases d <;> trivial
theorem dE(K:ZEe)(ns:List Str):dat K 40 (.lst (ns.map .str)):=λx hx=>by obtain⟨z,_,rfl⟩:=List.mem_map.mp hx;trivial
theorem DM.step{g:Nat}(h:DM ns r g cs):DM ns r (bu ns g cs:Nat) (c6 ns g cs):=by
 unfold bu c6;cases e:Qy ns g cs with
 |none=>exact h
 |some x=>
  have c:x∈FE ns g cs:=by
   unfold Qy at e;exact List.mem_of_mem_head? (by rw[e];rfl)
  obtain⟨a,d⟩:=Rj.mp c;have:=List.idxOf_lt_length_iff.mpr a;exact⟨h.rule,by show(0:Int)<=((ns.idxOf x+1:Nat):Int);omega,by show((ns.idxOf x+1:Nat):Int)<=_;omega,X3 x h.up,λy b=>h.sub y (Jw.mp b).1⟩
section
variable[Xw]
theorem ZA3{t:TT}{k k':Bool->Prop}(h:Wt ss t k')(c:∀b,k' b->k b):Wt ss t k:=⟨λE Z F H Q S q=>h.go E Z F H Q S λb F' H' m a=>q b F' H' m (c b a)⟩
end
structure HF (m:Nat) (ns:List Str):Prop where
 len:ns.length<=m
 nm:∀x∈ns,Nm x
 nd:ns.Nodup
theorem HF.done{m:Nat}(h:HF m ns)(ok:d.Ok m ns):HF m (d.done ns):=by
 obtain⟨a,b,c⟩:=AO.step ok h.nd h.nm h.len;exact⟨c,b,a⟩
structure Lp where
 r:Str
 g:Nat
 cs:List Str
def Lp.P(l:Lp):PV:=CY l.r l.g l.cs
def FK(ns:List Str):List Str:=ns.foldr (λx r=>G2 r x) []
theorem QK{x:Str}:∀{ns:List Str},x∈FK ns↔x∈ns
 | []=>Iff.rfl
 |y::r=>by
  show x∈G2 (FK r) y↔_;rw[NY,QK (ns:=r),Gq]
theorem VS:∀{ns:List Str},ns.Nodup->Up (FK ns)
 | [],_=>List.Pairwise.nil
 |y::r,h=>by
  obtain⟨h1,h2⟩:=List.nodup_cons.mp h;exact Q3 (VS h2) λz=>h1 (QK.mp z)
theorem Rm{ts:List Str}(nd:ns.Nodup)(a:ts.Perm ns)(st:sortedS ts=true):ts=FK ns:=
 UP (jE st (a.nodup_iff.mpr nd)) (VS nd) λk=>by rw[a.mem_iff,QK]
def Lp.led(ns:List Str)(d:AO)(l:Lp):Lp:=⟨l.r,d.gap ns l.g,d.Ff l.r l.g l.cs⟩
def Lp.Good(ns:List Str)(l:Lp):Prop:=DM ns l.r l.g l.cs
theorem cI{k:Nat}(h:k<3):∃r:Str,r∈FY/\L2.Bf [PV.str "none",.str "ahead",.str "all"] (k:Int)=some (.str r):=by
 have:k=0∨k=1∨k=2:=by omega
 rcases this with rfl|rfl|rfl
 .exact⟨_,by decide,rfl⟩
 .exact⟨_,by decide,rfl⟩
 .exact⟨_,by decide,rfl⟩
end Fz
namespace L2
variable{A3:List (List Key×V)}{o:Option V}{u:Value}{v y:V}{w:World}{H H':Hp}{xs:List (List Key×Addr×Value)}{a b:Addr}{X:Cx}{Zb:ZEf}{Z:St}{s:Shared}{A:Around}{E Q:Value->Shared->Prop}{h':Heap}{e value:Expr}{pos:Pos}{td tv ty:TE}
section
variable{κ:Type}[DecidableEq κ]
noncomputable def DA(A3:List (κ×V))(k:κ):Option V:=(A3.find? λa=>decide (a.1=k)).map (·.2)
def putK(A3:List (κ×V))(k:κ)(v:V):List (κ×V):=
 if(A3.any λa=>decide (a.1=k))=true then A3.map (λa=>if a.1=k then(a.1,v)else a)else A3++[(k,v)]
noncomputable def JM(A3:List (κ×V))(k:κ):List (κ×V):=A3.filter λa=>decide (a.1≠k)
theorem Me{p:κ×V}{r:List (κ×V)}{k:κ}(e:p.1=k):DA (p::r) k=some p.2:=by simp[DA,PN,e]
theorem MQ{p:κ×V}{r:List (κ×V)}{k:κ}(e:¬ p.1=k):DA (p::r) k=DA r k:=by simp[DA,PN,e]
theorem Qh(k:κ):∀A3:List (κ×V),(A3.any λa=>decide (a.1=k))=(DA A3 k).isSome
 | []=>rfl
 |p::r=>by
  rw[N3]
  by_cases e:p.1=k
  .simp only[Me e,lx e,Bool.true_or,ZDr]
  .rw[MQ e,qX e,Bool.false_or];exact Qh k r
theorem V5(A3:List (κ×V))(k:κ)(v:V):(putK A3 k v).length<=A3.length+1:=by
 unfold putK;split
 .rw[AW];omega
 .rw[Bu,Cc,Z5];omega
theorem OP{A3:List (κ×V)}{k:κ}(v:V)(h:DA A3 k=none):putK A3 k v=A3++[(k,v)]:=by
 unfold putK;rw[Qh,h];exact mY (by decide)
theorem EB.Ol{u:Option Value}(r:EB o u):o.isSome=u.isSome:=by
 cases o with
 |none=>cases u with
  |none=>rfl
  |some _=>exact(show False from r).elim
 |some _=>cases u with
  |none=>exact(show False from r).elim
  |some _=>rfl
theorem KV.val{A3:List (κ×V)}{vs:List (κ×Value)}(r:KV A3 vs)(k:κ):EB (DA A3 k) (valueAt vs k):=by
 unfold KV at r
 induction r with
 |nil=>exact True.intro
 |@cons p q ps a h t d=>
  obtain⟨h1,h2⟩:=h
  by_cases e:p.1=k
  .have c:q.1=k:=h1.symm.trans e;have b:valueAt (q::a) k=some q.2:=by simp[valueAt,PN,c]
   rw[Me e,b];exact h2
  .have c:¬ q.1=k:=λz=>e (h1.trans z);have b:valueAt (q::a) k=valueAt a k:=by simp[valueAt,PN,c]
   rw[MQ e,b];exact d
theorem KV.any{A3:List (κ×V)}{vs:List (κ×Value)}(r:KV A3 vs)(k:κ):(A3.any λa=>decide (a.1=k))=vs.any λa=>decide (a.1=k):=by
 unfold KV at r
 induction r with
 |nil=>rfl
 |cons h t b=>rw[N3,N3,b,h.1]
theorem KV.UX{A3:List (κ×V)}{vs:List (κ×Value)}(r:KV A3 vs)(k:κ)(b:RelV y u):
  KV (A3.map λa=>if a.1=k then(a.1,y)else a) (vs.map λa=>if a.1=k then(a.1,u)else a):=by
 unfold KV at r ⊢
 induction r with
 |nil=>exact .nil
 |@cons p q ps d h t c=>
  rw[Bv,Bv];refine .cons ?_ c;obtain⟨h1,h2⟩:=h
  by_cases e:p.1=k
  .rw[md e,md (h1.symm.trans e)];exact⟨h1,b⟩
  .rw[mY e,mY (λz=>e (h1.trans z))];exact⟨h1,h2⟩
theorem KV.put{A3:List (κ×V)}{vs:List (κ×Value)}(r:KV A3 vs)(k:κ)(a:RelV y u):KV (putK A3 k y) (stored vs k u):=by
 unfold putK stored;rw[r.any k]
 by_cases e:(vs.any λb=>decide (b.1=k))=true
 .rw[md e,md e];exact r.UX k a
 .rw[mY e,mY e];exact Paired.snoc r ⟨rfl,a⟩
theorem KV.drop{A3:List (κ×V)}{vs:List (κ×Value)}(r:KV A3 vs)(k:κ):KV (JM A3 k) (without vs k):=by
 unfold KV at r ⊢;unfold JM without
 induction r with
 |nil=>exact .nil
 |@cons p q ps f h t c=>
  obtain⟨h1,h2⟩:=h;rw[Z2,Z2]
  by_cases e:p.1=k
  .have a:¬ decide (p.1≠k)=true:=by simp[e]
   have b:¬ decide (q.1≠k)=true:=by simp[h1.symm.trans e]
   rw[mY a,mY b];exact c
  .have d:¬ q.1=k:=λz=>e (h1.trans z);have a:decide (p.1≠k)=true:=by simp[e]
   have b:decide (q.1≠k)=true:=by simp[d]
   rw[md a,md b];exact .cons ⟨h1,h2⟩ c
theorem KV.keys{A3:List (κ×V)}{vs:List (κ×Value)}(r:KV A3 vs):A3.map (·.1)=vs.map (·.1):=by
 unfold KV at r
 induction r with
 |nil=>rfl
 |cons h t a=>rw[Bv,Bv,a,h.1]
theorem KV.length{A3:List (κ×V)}{vs:List (κ×Value)}(r:KV A3 vs):A3.length=vs.length:=kA r
theorem sk(A3:List (κ×V))(k:κ):(JM A3 k).length<=A3.length:=PR _ _
end
theorem LB{P:Program}{k:Key}(r:RelV (kV k) u):(Bq P w).is k u=true:=by
 cases k with
 |inl i=>obtain⟨t,e⟩:=(show ∃t,u=Value.int i t from r);subst e;exact ma P w i t
 |inr x=>obtain⟨t,e⟩:=(show ∃t,u=Value.str x t from r);subst e;exact ZCI P w x t
theorem bQ{P:Program}{w:World}:∀{ks:List Key}{us:List Value},Vals (ks.map kV) us->ItemsAre (Bq P w) ks us
 | [],_,r=>by rw[PU]at r;cases r;exact .nil
 |k::ks,_,r=>by
  rw[Bv]at r;cases r with
  |cons h t=>exact .cons (LB h) (bQ t)
abbrev KT(H:Hp):List (List Key×V)->List (List Key×Addr×Value)->Prop:=Paired λp q=>p.1=q.1/\H q.2.1=some (.tup (p.1.map kV))/\RelV p.2 q.2.2
theorem KT.val(r:KT H A3 xs)(k:List Key):EB (DA A3 k) ((atKey xs k).map (·.2)):=by
 induction r with
 |nil=>exact True.intro
 |@cons p q ps a h t d=>
  obtain⟨h1,_,h2⟩:=h
  by_cases e:p.1=k
  .have c:q.1=k:=h1.symm.trans e;have b:atKey (q::a) k=some q.2:=by simp[atKey,PN,c]
   rw[Me e,b];exact h2
  .have c:¬ q.1=k:=λz=>e (h1.trans z);have b:atKey (q::a) k=atKey a k:=by simp[atKey,PN,c]
   rw[MQ e,b];exact d
theorem KT.UX(r:KT H A3 xs)(k:List Key)(b:RelV y u):
  KT H (A3.map λa=>if a.1=k then(a.1,y)else a) (xs.map (putAt k u)):=by
 induction r with
 |nil=>exact .nil
 |@cons p q ps f h t c=>
  rw[Bv,Bv];refine .cons ?_ c;obtain⟨h1,h2,d⟩:=h;unfold putAt
  by_cases e:p.1=k
  .rw[md e,md (h1.symm.trans e)];exact⟨h1,h2,b⟩
  .rw[mY e,mY (λz=>e (h1.trans z))];exact⟨h1,h2,d⟩
theorem KT.put(r:KT H A3 xs)(k:List Key)(d:H b=some (.tup (k.map kV)))(a:RelV y u):
  KT H (putK A3 k y) (storedH xs k b u):=by
 have e:(A3.any λc=>decide (c.1=k))=(atKey xs k).isSome:=by
  rw[Qh,(r.val k).Ol,ZE]
 unfold putK storedH;rw[e]
 by_cases q:(atKey xs k).isSome=true
 .rw[md q,md q];exact r.UX k a
 .rw[mY q,mY q];exact Paired.snoc r ⟨rfl,d,a⟩
theorem KT.keeps(r:KT H A3 xs)(a:∀b ys,H b=some (.tup ys)->H' b=some (.tup ys)):KT H' A3 xs:=
 Paired.V3 r λ_ _ z=>⟨z.1,a _ _ z.2.1,z.2.2⟩
section
variable{P:Program}{h:Heap}
theorem dC{u:HO}(ok:Bk P w H h)(e:Rd H a u):C1 P w H h a u:=e.ok ok
theorem Ip{A3:List (Key×V)}(ok:Bk P w H h)(e:Rd H a (.dK A3)):A3.length<=sizeLine/\(a == sysModules)=false/\∃vs,KV A3 vs/\h.DictOf (Bq P w) a vs:=
 show C1 P w H h a (.dK A3)from dC ok e
theorem Pt{A3:List (Key×V)}(ok:Bk P w H h)(e:H a=some (.dK A3)):A3.length<=sizeLine/\(a == sysModules)=false/\∃vs,KV A3 vs/\h.DictOf (Bq P w) a vs:=Ip ok (.inl e)
theorem OG{ks:List Key}(ok:Bk P w H h)(e:H a=some (.tup (ks.map kV))):(tupleKind (Bq P w)).is h ks a:=by
 obtain⟨_,A5,r,⟨o,h1,h2,n,b⟩,_⟩:=(show C1 P w H h a (.tup (ks.map kV))from ok a _ e);exact⟨o,A5.toArray,n,h1,h2,b,by simpa using bQ r⟩
theorem MS(ok:Bk P w H h)(e:Rd H a (.dT A3)):A3.length<=sizeLine/\(a == sysModules)=false/\
  ∃xs,KT H A3 xs/\h.DictOfH (tupleKind (Bq P w)) a xs:=by
 obtain⟨z,y,xs,r,o,es,g,h1,h2,f,d,h5⟩:=(show C1 P w H h a (.dT A3)from dC ok e);refine⟨z,y,xs,r,o,es,g,h1,h2,f,d,λx hx=>?_,h5⟩;have all:∀{l:List (List Key×V)}{m:List (List Key×Addr×Value)},KT H l m->∀x∈m,(tupleKind (Bq P w)).is h x.1 x.2.1:=by
  intro l m q
  induction q with
  |nil=>intro x hx;exact nomatch hx
  |@cons p q ps i b t c=>
   intro x hx;rcases List.mem_cons.mp hx with e|hx
   .subst e;exact OG ok (by rw[<- b.1];exact b.2.1)
   .exact c x hx
 exact all r x hx
theorem ZAS(ok:Bk P w H h)(e:H a=some (.dT A3)):A3.length<=sizeLine/\(a == sysModules)=false/\
  ∃xs,KT H A3 xs/\h.DictOfH (tupleKind (Bq P w)) a xs:=MS ok (.inl e)
end
def FU(H:Hp)(a:Addr)(y:V)(r:Option V):Prop:=
 (∃A3 k,Rd H a (.dK A3)/\y=kV k/\r=DA A3 k)∨∃A3 k b,Rd H a (.dT A3)/\y=.ref b/\H b=some (.tup (k.map kV))/\r=DA A3 k
def OY(H:Hp)(a:Addr)(y v:V)(H':Hp):Prop:=
 (∃A3 k,H a=some (.dK A3)/\y=kV k/\A3.length<sizeLine/\H'=upd H a (.dK (putK A3 k v)))∨
 ∃A3 k b,H a=some (.dT A3)/\y=.ref b/\H b=some (.tup (k.map kV))/\A3.length<sizeLine/\H'=upd H a (.dT (putK A3 k v))
theorem FU.k{A3:List (Key×V)}{k:Key}(e:H a=some (.dK A3)):FU H a (kV k) (DA A3 k):=.inl ⟨A3,k,.inl e,rfl,rfl⟩
theorem OY.k{A3:List (Key×V)}{k:Key}(e:H a=some (.dK A3))(b:A3.length<sizeLine):OY H a (kV k) v (upd H a (.dK (putK A3 k v))):=.inl ⟨A3,k,e,rfl,b,rfl⟩
section
variable{r:Value}
theorem Inv.big(I:Inv X Zb Z H s):sysModules<s.heap.objs.size:=by
 have h:mainGlobals<s.heap.objs.size:=(I.mod.glob.keeps I.bk).lt;exact Nat.lt_trans (by decide) h
theorem ZAk(i:A.units+1<cLine)(I:Inv X Zb Z H s)(g:FU H a y (some v))(f:RelV y u)(h:∀c s',Inv X Zb Z H s'->RelV v c->Q c s'):
  wpAny (model X.prog X.w) A (getItem (.ref a) u) Q E s:=by
 rcases g with⟨A3,k,e,d,l⟩|⟨A3,k,b,e,d,m,l⟩
 .subst d;obtain⟨z,hd,vs,rel,dd⟩:=Ip I.AN e;obtain⟨c,hw,Fo⟩:=EB.some_of (v:=v) (o:=valueAt vs k) (by rw[l];exact rel.val k);exact wpAny_getItem_of (LB f) dd.mapOf hw (h c _ (I.tok _) Fo)
 .subst d;cases(show u=Value.ref b from f);obtain⟨z,hd,xs,rel,dd⟩:=MS I.AN e;obtain⟨c,hw,Fo⟩:=EB.some_of (v:=v) (o:=(atKey xs k).map (·.2)) (by rw[l];exact rel.val k)
  obtain⟨p,j,n⟩:=Option.map_eq_some_iff.mp hw;refine wpAny_getItem_heap (vH i) (OG I.AN m) dd j ?_;rw[n];exact h c _ (I.tok _) Fo
theorem pX(f:A.units+1<cLine)(I:Inv X Zb Z H s)(g:FU H a y o)(d:RelV y u)(h:∀s',Inv X Zb Z H s'->Q (.bool o.isSome) s'):
  wpAny (model X.prog X.w) A (compareOp .In u (.ref a)) Q E s:=by
 rcases g with⟨A3,k,e,c,l⟩|⟨A3,k,b,e,c,i,l⟩
 .subst c;obtain⟨z,hd,vs,rel,dd⟩:=Ip I.AN e;refine wpAny_in_of (LB d) hd dd.mapOf ?_;rw[<- (rel.val k).Ol,<- l];exact h _ (I.tok _)
 .subst c;cases(show u=Value.ref b from d);obtain⟨z,hd,xs,rel,dd⟩:=MS I.AN e;refine wpAny_in_heap (vH f) (OG I.AN i) hd dd ?_;have q:=(rel.val k).Ol;rw[ZE]at q;rw[<- q,<- l];exact h _ (I.tok _)
theorem tR(f:A.units+1<cLine)(I:Inv X Zb Z H s)(g:FU H a y o)(d:RelV y u)(h:∀s',Inv X Zb Z H s'->Q (.bool (!o.isSome)) s'):
  wpAny (model X.prog X.w) A (compareOp .NotIn u (.ref a)) Q E s:=by
 rcases g with⟨A3,k,e,c,l⟩|⟨A3,k,b,e,c,i,l⟩
 .subst c;obtain⟨z,hd,vs,rel,dd⟩:=Ip I.AN e;refine wpAny_notIn_of (LB d) hd dd.mapOf ?_;rw[<- (rel.val k).Ol,<- l];exact h _ (I.tok _)
 .subst c;cases(show u=Value.ref b from d);obtain⟨z,hd,xs,rel,dd⟩:=MS I.AN e;refine wpAny_notIn_heap (vH f) (OG I.AN i) hd dd ?_;have q:=(rel.val k).Ol;rw[ZE]at q;rw[<- q,<- l];exact h _ (I.tok _)
theorem N9{t':Nat}{ob:HO}(I:Inv X Zb Z H s)(d:P0 (H a))(hs:Heap.SameBut a s.heap h')(f:∃q,h'.get? a=some q)(c:C1 X.prog X.w (upd H a ob) h' a ob):
  Inv X Zb Z (upd H a ob) { s with heap:=h',toks:=t' }:=
 I.write (x:=a) (e:=a) d (.inl rfl) (λb q g z=>(hs.2 b g).trans z) f c
theorem QQ{P:Program}{A3:List (Key×V)}{vs:List (Key×Value)}(z:A3.length<=sizeLine)(hd:(a == sysModules)=false)(rel:KV A3 vs)(dd:h'.DictOf (Bq P w) a vs):
  C1 P w H' h' a (.dK A3):=⟨z,hd,vs,rel,dd⟩
theorem uY{Q:Unit->Shared->Prop}(t:A.units+1<cLine)(I:Inv X Zb Z H s)(g:OY H a y v H')(m:RelV y u)(n:RelV v r)(h:∀s',Inv X Zb Z H' s'->Q () s'):
  wpAny (model X.prog X.w) A (setItem (.ref a) u r) Q E s:=by
 rcases g with⟨A3,k,e,i,l,j⟩|⟨A3,k,b,e,i,p,l,j⟩
 .subst i j;obtain⟨z,hd,vs,rel,dd⟩:=Pt I.AN e;have hz:vs.length<=sizeLine:=by rw[<- rel.length];exact z
  have f:(putK A3 k v).length<=sizeLine:=by have:=V5 A3 k v;omega
  refine wpAny_setItem_pairs (hsz:=hz) (LB m) dd λh' Fw hs=>h _ ?_;have x:∃q,h'.get? a=some q:=let ⟨q,_,_,d,_⟩:=Fw;⟨q,d⟩;exact N9 I (by rw[e];exact True.intro) hs x (QQ f hd (rel.put k n) Fw)
 .subst i j;cases(show u=Value.ref b from m);obtain⟨z,hd,xs,rel,dd⟩:=ZAS I.AN e;have hz:xs.length<=sizeLine:=by rw[<- kA rel];exact z
  have f:(putK A3 k v).length<=sizeLine:=by have:=V5 A3 k v;omega
  refine wpAny_setItem_heap (hsz:=hz) (vH t) (OG I.AN p) dd λh' Fw hs=>h _ ?_;obtain⟨q,es,D,d,h2,C,B,_,h5⟩:=Fw;refine N9 I (by rw[e];exact True.intro) hs ⟨q,d⟩ ⟨f,hd,_,(rel.put k p n).keeps λc ys o=>?_,q,es,D,d,h2,C,B,h5⟩;rw[Af (oE o e (λz=>nomatch z))];exact o
variable{A3:List (Key×V)}{k:Key}
theorem xS{more:List Value}(I:Inv X Zb Z H s)(e:H a=some (.dK A3))(c:RelV (kV k) u)(l:DA A3 k=some v)(d:more=[]∨∃x,more=[x])
  (h:∀b s',Inv X Zb Z (upd H a (.dK (JM A3 k))) s'->RelV v b->Q b s'):wpAny (model X.prog X.w) A (call (.builtin "dict.pop") (.ref a::u::more)) Q E s:=by
 obtain⟨z,hd,vs,rel,dd⟩:=Pt I.AN e;obtain⟨b,hw,Fo⟩:=EB.some_of (v:=v) (o:=valueAt vs k) (by rw[<- l];exact rel.val k);have f:(keyPart u).isSome=true:=by
  cases k with
  |inl i=>obtain⟨t,q⟩:=(show ∃t,u=Value.int i t from c);subst q;rfl
  |inr x=>obtain⟨t,q⟩:=(show ∃t,u=Value.str x t from c);subst q;rfl
 have j:argsOk "dict.pop" ⟨.ref a::u::more,[]⟩:=by
  rcases d with q|⟨x,q⟩
  .subst q;exact PySem.F.args_dict_pop_2 _ _
  .subst q;exact PySem.F.args_dict_pop_3 _ _ _
 refine call_meetsIn ZDv dd.typeIs PySem.F.entry_dict_pop j (meets_dict_pop_there (Bq X.prog X.w) a (LB c) more d f)
  ⟨vs,b,dd,by rw[<- rel.length];exact z,hw,λh' Fw hs=>h b _ ?_ Fo⟩
 have g:∃q,h'.get? a=some q:=let ⟨q,_,_,hq,_⟩:=Fw;⟨q,hq⟩;exact N9 I (by rw[e];exact True.intro) hs g (QQ (Cs (sk A3 k) z) hd (rel.drop k) Fw)
theorem yh(I:Inv X Zb Z H s)(e:H a=some (.dK A3))(h:∀s',Inv X Zb Z (upd H a (.dK [])) s'->Q .none s'):wpAny (model X.prog X.w) A (call (.builtin "dict.clear") [.ref a]) Q E s:=by
 obtain⟨z,hd,vs,rel,dd⟩:=Pt I.AN e;refine call_meetsIn ZDu dd.typeIs PySem.F.entry_dict_clear (PySem.F.args_dict_clear_1 _) (meets_dict_clear (Bq X.prog X.w) a) ⟨vs,dd,by rw[<- rel.length];exact z,λh' Fw hs=>h _ ?_⟩;have b:∃q,h'.get? a=some q:=let ⟨q,_,_,hq,_⟩:=Fw;⟨q,hq⟩;exact N9 (t':=s.toks) I (by rw[e];exact True.intro) hs b (QQ (Bm _) hd .nil Fw)
end
def Ym(i:Expr):Prop:=∀a b,subscripted i false a b=operate [a,b] (getItem a b)
theorem ZA2{prog:Program}{env:Env}{a:Expr}{T id:String}
  (l:typeLookup (.type T) "__getitem__"=pure (some (.builtin id))) (hs:Ym a)
  (h:wpAny (model prog w) A (eval value env) (λo f=>wpAny (model prog w) A (eval a env) (λi c=>c.TypeIs o T/\wpAny (model prog w) A (getItem o i) Q E c) E f) E s) :
  wpAny (model prog w) A (eval (.Subscript value a pos) env) Q E s:=by
 refine Subscript_ (qr h (λo f k=>qr k (λi c d=>?_) λ_ _ x=>x) λ_ _ x=>x);obtain⟨g,d⟩:=d;unfold subscriptTail;refine lr ?_;rw[getitemInPython_of_ne g.not_modules];refine lr (v9 g l ?_);have b:wpAny (model prog w) A (subscripted a false o i) (λr e=>wpAny (model prog w) A (letTemporaryGo value o r >>= λ_=>pure r) Q E e) E c:=by
  rw[hs o i];exact wpAny_operating (qr d (λr e j=>lr (wpAny_letTemporaryGo (oo j))) λ_ _ x=>x)
 first
  |exact oo (lr b)
  |exact lr (oo (lr b))
  |exact lr b
theorem rM(I:Inv X Zb Z H s)(g:FU H a y o):s.TypeIs (.ref a) "dict" := by
 rcases g with⟨A3,k,e,_,_⟩|⟨A3,k,b,e,_,_,_⟩
 .obtain⟨_,_,vs,_,dd⟩:=Ip I.AN e;exact dd.typeIs
 .obtain⟨_,_,xs,_,dd⟩:=MS I.AN e;exact dd.typeIs
def Fx(td ty:TE):TE:=λZ H Q=>td Z H λx H1=>ty Z H1 λy H2=>∃a v,x=.ref a/\FU H2 a y (some v)/\Q v H2
def X7(ty td:TE):TE:=λZ H Q=>ty Z H λy H1=>td Z H1 λx H2=>∃a o,x=.ref a/\FU H2 a y o/\Q (.bl o.isSome) H2
def Qg(ty td:TE):TE:=λZ H Q=>ty Z H λy H1=>td Z H1 λx H2=>∃a o,x=.ref a/\FU H2 a y o/\Q (.bl (!o.isSome)) H2
def Q0(td ty tv:TE):TS:=λD Z H=>tv Z H λv H1=>td Z H1 λx H2=>ty Z H2 λy H3=>∃a H4,x=.ref a/\OY H3 a y v H4/\D.nx Z H4
section
variable{o i:Expr}{pos' P1:Pos}
theorem sP(j:X.A.units+1<cLine)(hi:PE X i ty)(ho:PE X o td):PC X .In i o (X7 ty td):=by
 intro Zb s Z H Q I h;refine AR (hi Zb s Z H _ I h) λl s1⟨y,H1,I1,b,e⟩=>AR (ho Zb s1 Z H1 _ I1 e) λu s2⟨x,H2,I2,c,a,f,ex,g,d⟩=>?_;subst ex;obtain rfl:u=Value.ref a:=c;exact pX j I2 g b λk I3=>⟨.bl f.isSome,H2,I3,rfl,d⟩
theorem nY(j:X.A.units+1<cLine)(hi:PE X i ty)(ho:PE X o td):PC X .NotIn i o (Qg ty td):=by
 intro Zb s Z H Q I h;refine AR (hi Zb s Z H _ I h) λl s1⟨y,H1,I1,b,e⟩=>AR (ho Zb s1 Z H1 _ I1 e) λu s2⟨x,H2,I2,c,a,f,ex,g,d⟩=>?_;subst ex;obtain rfl:u=Value.ref a:=c;exact tR j I2 g b λk I3=>⟨.bl (!f.isSome),H2,I3,rfl,d⟩
end
theorem eK{P:Program}(h:Heap)(a:sysModules<h.objs.size):C1 P w H (h.push { cls:=.type "dict", data:=.dict #[] }) h.objs.size (.dK []):=
 ⟨Bm _,beq_eq_false_iff_ne.mpr (BP (C0 a)),[],.nil,Heap.DictOf.new h⟩
def UB:TE:=λ_ H Q=>∀p,H p=none->Q (.ref p) (upd H p (.dK []))
theorem wz:PE X (.Dict [] [] pos) UB:=λZb s Z H Q I h=>
 wpAny_Dict_empty ⟨.ref s.heap.objs.size,_,I.laid (a:=s.heap.objs.size) (o:=.dK []) (t':=s.toks) (λ_ _ q=>BZ _ q) (Ap _) (eK s.heap I.big),rfl,h _ (I.AN.fresh (Ap _))⟩
def V9:List (TE×TE)->St->Hp->(List (V×V)->Hp->Prop)->Prop
 | [],_,H,Q=>Q [] H
 | (tk,tv)::r,Z,H,Q=>tk Z H λx H1=>tv Z H1 λy H2=>V9 r Z H2 λps H3=>Q ((x,y)::ps) H3
abbrev VV:List (V×V)->List (Value×Value)->Prop:=Paired λp q=>RelV p.1 q.1/\RelV p.2 q.2
def Jn(X:Cx)(pos:Pos)(keys:List (Option Expr))(values:List Expr)(Em:List (TE×TE)):Prop:=
 ∀(Zb:ZEf)(s:Shared)(Z:St)(H:Hp)(Q:List (V×V)->Hp->Prop),Inv X Zb Z H s->V9 Em Z H Q->
  wpAny (model X.prog X.w) X.A (evalPairs (pairTrees keys values X.env pos)) (λvs s'=>∃ps H',Inv X Zb Z H' s'/\VV ps vs/\Q ps H') X.xe s
theorem wb:Jn X pos [] [] []:=λZb s Z H Q I h=>pairTrees_nil_walk ⟨[],H,I,.nil,h⟩
theorem pG{k v:Expr}{ks:List (Option Expr)}{vs:List Expr}{tk:TE}{Em:List (TE×TE)}(g:PE X k tk)(f:PE X v tv)(hr:Jn X pos ks vs Em):
  Jn X pos (some k::ks) (v::vs) ((tk,tv)::Em):=λZb s Z H Q I h=>
 pairTrees_cons_walk (AR (g Zb s Z H _ I h) λu s1⟨x,H1,I1,b,e⟩=>AR (f Zb s1 Z H1 _ I1 e) λi s2⟨y,H2,I2,a,d⟩=>
  AR (hr Zb s2 Z H2 _ I2 d) λws j⟨ps,H3,I3,rel,c⟩=>⟨(x,y)::ps,H3,I3,.cons ⟨b,a⟩ rel,c⟩)
def JZ(A3 more:List (Key×V)):List (Key×V):=more.foldl (λacc a=>putK acc a.1 a.2) A3
theorem KV.merge:∀{more:List (Key×V)}{rs:List (Key×Value)}{A3:List (Key×V)}{vs:List (Key×Value)},KV more rs->KV A3 vs->KV (JZ A3 more) (merged vs rs):=by
 intro more rs A3 vs r;unfold KV at r
 induction r generalizing A3 vs with
 |nil=>intro q;exact q
 |@cons p q ps c h t b=>
  intro a;have e:KV (putK A3 p.1 p.2) (stored vs q.1 q.2):=by
   have:=a.put p.1 h.2;rw[<- h.1];exact this
  exact b e
theorem fR:∀(more A3:List (Key×V)),(JZ A3 more).length<=A3.length+more.length
 | [],A3=>by show A3.length<=A3.length+0;omega
 |p::r,A3=>by
  have h1:=fR r (putK A3 p.1 p.2);have h2:=V5 A3 p.1 p.2;show(JZ (putK A3 p.1 p.2) r).length<=_;rw[Cc];omega
theorem cS{P:Program}{w:World}:∀{A3:List (Key×V)}{ws:List (Value×Value)},VV (A3.map λd=>(kV d.1,d.2)) ws->∃rs,Carries (Bq P w) ws rs/\KV A3 rs
 | [],_,r=>by rw[PU]at r;cases r;exact⟨[],True.intro,.nil⟩
 |p::A3,_,r=>by
  rw[Bv]at r;cases r with
  |@cons a b as bs h t=>
   obtain⟨rs,c,q⟩:=cS (P:=P) (w:=w) t;obtain⟨f,e⟩:=b;exact⟨(p.1,e)::rs,⟨LB h.1,rfl,c⟩,.cons ⟨rfl,h.2⟩ q⟩
def Q9(Em:List (TE×TE)):TE:=λZ H Q=>∀p,H p=none->V9 Em Z (upd H p (.dK [])) λps H2=>H2 p=some (.dK [])/\∃A3:List (Key×V),ps=A3.map (λa=>(kV a.1,a.2))/\A3.length<=15/\Q (.ref p) (upd H2 p (.dK (JZ [] A3)))
structure M1 (X:Cx) (o:Expr) (m:Str) (apos:Pos) (e:Expr) (Bz:Pos):Prop where
 base:attributeBase o m X.env (eval o X.env)=eval o X.env
 lC:((backTo Bz (starEach [e] X.env)).all (λx=>!x.1) && (backToKw Bz (keywordEach [] X.env)).all (λx=>x.1.isSome)
  && decide (([e]:List Expr).length+([]:List Keyword).length+(if([]:List Keyword).isEmpty then 0 else 1)<30))=true
 line:(apos.endLine == Bz.line)=true
 trees:backTo Bz (starEach [e] X.env)=[(false,eval e X.env)]
def jP(H:Hp)(a:Addr):Prop:=(∃A3,Rd H a (.dK A3))∨∃A3,Rd H a (.dT A3)
theorem gh(I:Inv X Zb Z H s)(d:jP H a):
  s.TypeIs (.ref a) "dict" /\ (∀b,Value.ref a=.ref b->∃ob,s.heap.get? b=some ob/\ob.dict=none)/\(a == sysModules)=false:=by
 rcases d with⟨A3,e⟩|⟨A3,e⟩
 .obtain⟨_,hd,vs,_,dd⟩:=Ip I.AN e;refine⟨dd.typeIs,λb q=>?_,hd⟩;cases q;obtain⟨ob,_,_,h1,h2,_⟩:=dd;exact⟨ob,h1,h2.2.1⟩
 .obtain⟨_,hd,xs,_,dd⟩:=MS I.AN e;refine⟨dd.typeIs,λb q=>?_,hd⟩;cases q;obtain⟨ob,_,_,h1,h2,_⟩:=dd;exact⟨ob,h1,h2.2.1⟩
def WW(td ty:TE):TE:=λZ H Q=>td Z H λx H1=>∃a,x=.ref a/\jP H1 a/\ty Z H1 λy H2=>∃A3 k v,H2 a=some (.dK A3)/\y=kV k/\DA A3 k=some v/\Q v (upd H2 a (.dK (JM A3 k)))
end L2
namespace Fz
open L2 Lw
variable{l ss:List Slot}{F F' H H':Hp}{Z:L2.St}{i j n:Nat}{t t' u:OV}{E:Ent0}{vs:List V}{nk:NK}{a0:Addr}{us:List OV}{te:TE}{pre:Pre}{c:TT}{Q:VK}{X:XK}
def Bh(pre:Pre):Sp:=λvs H Q _=>∃(ss:List Slot)(R:Ar)(F:Hp)(A B:List Addr),pre ss R/\Sg ⟨A,F,H,B⟩ ss (vs.map some) F H/\∀v F' H',Fin ⟨A,F,H,B⟩ F' H'->R.ok ⟨A,F,H,B⟩ F' H' v->Q v H'
inductive IX (F:Hp):List V->List Slot->Prop where
 |nil:IX F [] []
 |cons {v:V}{p:PV}{vs:List V}{l:List Slot}:Rep F v p->IX F vs l->IX F (v::vs) (.is p::l)
inductive IF (Z:L2.St) (F:Hp) (i:Nat) (t:OV):List V->List Slot->Prop where
 |here {v:V}{vs:List V}{l:List Slot}:Z[i]?=some (some v)->IX F vs l->IF Z F i t (v::vs) (.ow true t::l)
 |there {v:V}{p:PV}{vs:List V}{l:List Slot}:Rep F v p->IF Z F i t vs l->IF Z F i t (v::vs) (.is p::l)
theorem IX.len:∀{vs:List V}{l:List Slot},IX F vs l->l.length=vs.length:=by
 intro vs l h
 induction h with
 |nil=>rfl
 |cons _ _ a=>rw[Cc,Cc,a]
theorem IF.len:∀{vs:List V}{l:List Slot},IF Z F i t vs l->l.length=vs.length:=by
 intro vs l h
 induction h with
 |here _ r=>rw[Cc,Cc,r.len]
 |there _ _ a=>rw[Cc,Cc,a]
theorem IX.at:∀{vs:List V}{l:List Slot},IX F vs l->∀{n:Nat}{s:Slot},l[n]?=some s->∃v p,vs[n]?=some v/\s=.is p/\Rep F v p:=by
 intro vs l h
 induction h with
 |nil=>intro n s e;rw[List.getElem?_nil]at e;cases e
 |cons r _ a=>
  intro n s e;cases n with
  |zero=>cases(show some _=some s from e);exact⟨_,_,rfl,rfl,r⟩
  |succ n=>exact a (n:=n) e
theorem IF.at:∀{vs:List V}{l:List Slot},IF Z F i t vs l->∃m:Nat,∀{n:Nat}{s:Slot},l[n]?=some s->(n=m/\s=.ow true t/\∃v,vs[n]?=some v/\Z[i]?=some (some v))∨∃v p,vs[n]?=some v/\s=.is p/\Rep F v p:=by
 intro vs l h
 induction h with
 |here e r=>
  refine⟨0,λ{n s}h=>?_⟩;cases n with
  |zero=>cases(show some _=some s from h);exact .inl ⟨rfl,rfl,_,rfl,e⟩
  |succ n=>exact .inr (r.at (n:=n) h)
 |there r _ b=>
  obtain⟨m,c⟩:=b;refine⟨m+1,λ{n s}q=>?_⟩;cases n with
  |zero=>cases(show some _=some s from q);exact .inr ⟨_,_,rfl,rfl,r⟩
  |succ n=>
   rcases c (n:=n) (s:=s) q with⟨e,es,a⟩|a
   .exact .inl ⟨sA Nat.succ e,es,a⟩
   .exact .inr a
structure Ob (E:Ent0) (ss:List Slot) (Z:L2.St) (i:Nat) (lt:Bool) (t t':OV) (F H F' H':Hp):Prop where
 st:Sg E (ss.set i (.ow lt t')) Z F' H'
 ff:A8 F F'
 hh:∀a o,CQ ss Z a->a∉t.addrs->H a=some o->H' a=some o
 nn:∀a o,F' a=some o->F a=some o∨H a=none
structure Mi [Xw] (ss:List Slot) (ta:TA) (k:List Slot->Prop):Prop where
 go:∀(E:Ent)(Z:L2.St)(F H:Hp)(Q:List V->Hp->Prop),Sg E ss Z F H->(∀vs l F' H',Mv E ss Z F H F' H'->IX F' vs l->k l->Q vs H')->ta Z H Q
structure bJ [Xw] (ss:List Slot) (i:Nat) (t:OV) (ta:TA) (k:List Slot->Prop):Prop where
 go:∀(E:Ent)(Z:L2.St)(F H:Hp)(Q:List V->Hp->Prop),Sg E ss Z F H->(∀vs l F' H',Mv E ss Z F H F' H'->IF Z F' i t vs l->k l->Q vs H')->ta Z H Q
structure Wm [Xw] (ss:List Slot) (i:Nat) (lt:Bool) (t:OV) (te:TE) (k:PV->OV->Prop):Prop where
 go:∀(E:Ent)(Z:L2.St)(F H:Hp)(Q:VK),Sg E ss Z F H->(∀v p t' F' H',Ob E ss Z i lt t t' F H F' H'->Rep F' v p->k p t'->Q v H')->te Z H Q
structure MX [Xw] (ss:List Slot) (i:Nat) (lt:Bool) (t:OV) (c:TT) (k:Bool->OV->Prop):Prop where
 go:∀(E:Ent)(Z:L2.St)(F H:Hp)(Q:Bool->Hp->Prop),Sg E ss Z F H->(∀b t' F' H',Ob E ss Z i lt t t' F H F' H'->k b t'->Q b H')->c Z H Q
theorem Sg.WE{lt:Bool}(S:Sg E ss Z F H)(hi:ss[i]?=some (.ow lt t))(a:IF Z F i t vs l):Sg ⟨[],F,H,t.addrs⟩ l (vs.map some) F H:=by
 obtain⟨q,e0,c,CT,g⟩:=S.ok i _ hi;have nn:∀{p:Prop}(a:Addr),a∈([]:List Addr)->p:=λa h=>absurd h B3;obtain⟨m,f⟩:=a.at;refine⟨⟨S.fh,A8.refl _,λ_ _ _ e=>e,λ_ _ e=>.inl e,λa h=>nn a h,λa h=>nn a h,λa h=>nn a h,λa h=>(g a h).1,λa h=>c.there a h,λa h=>⟨c.there a h,B3⟩⟩,by rw[AW];exact a.len,λn s hn=>?_,λn j s u b B hn y x w=>?_⟩
 .rcases f hn with⟨_,rfl,v,d,o⟩|⟨v,p,d,rfl,r⟩
  .rw[BG,d];rw[e0]at o;cases o;exact⟨q,rfl,c,CT,λa k=>⟨(g a k).1,.inr ⟨rfl,k⟩⟩⟩
  .rw[BG,d];exact⟨v,rfl,r⟩
 .rcases f hn with⟨A,rfl,_⟩|⟨_,_,_,rfl,_⟩
  .rcases f y with⟨z,rfl,_⟩|⟨_,_,_,rfl,_⟩
   .exact B (A.trans z.symm)
   .cases w
  .cases x
theorem Sg.Y6{lt:Bool}{DV:NK}{us':List OV}(S:Sg E ss Z F H)(hi:ss[i]?=some (.ow lt (.nd nk a0 us)))(f:Fin ⟨[],F,H,(OV.nd nk a0 us).addrs⟩ F' H')(r:B9 F' H' (.ref a0) (.nd DV a0 us'))(nd:(OV.nd DV a0 us').addrs.Nodup)(q:∀a∈(OV.nd DV a0 us').addrs,F' a=none/\(H a=none∨a∈(OV.nd nk a0 us).addrs)):
  Ob E ss Z i lt (.nd nk a0 us) (.nd DV a0 us') F H F' H':=by
 obtain⟨I,e0,K,CT,v⟩:=S.ok i _ hi;have N:I=.ref a0:=by cases K;rfl
 subst N;have G:i<ss.length:=(List.getElem?_eq_some_iff.mp hi).1;have kp:∀a o,a∉(OV.nd nk a0 us).addrs->H a=some o->H' a=some o:=λa o n e=>f.keep a o ⟨B3,n⟩ e;have Bj:∀a,H a≠none->F a=none->F' a=none:=λa h1 h2=>by
  cases e:F' a with
  |none=>rfl
  |some o=>
   rcases f.fresh a o e with z|z
   .rw[show F a=some o from z]at h2;cases h2
   .exact absurd z h1
 have J:∀a,a∈E.A->a∉(OV.nd nk a0 us).addrs:=λa h m=>by
  rcases(v a m).2 with z|⟨_,z⟩
  .exact S.a0 a h z
  .exact(S.b0 a z).2 h
 have d:∀(j:Nat)s,j≠i->ss[j]?=some s->∀a,BI s Z[j]? a->a∉(OV.nd nk a0 us).addrs:=λj s g hs a ho m=>S.By j i s _ a g hs hi ho m;refine⟨⟨⟨f.fh,S.f0.trans f.f0,λa o h e=>?_,λa o e=>?_,λa h=>?_,λa h=>?_,S.a0,λa t=>?_,λa t=>?_,S.b0⟩,by rw[LM];exact S.len,λj s g=>?_,λj k s u b QV g y x w=>?_⟩,f.f0,λa o _ n e=>kp a o n e,λa o e=>f.fresh a o e⟩
 .refine kp a o (λm=>?_) (S.keep a o h e);rcases(v a m).2 with z|⟨_,z⟩
  .rw[e]at z;cases z
  .exact h.2 z
 .rcases f.fresh a o e with z|z
  .exact S.fresh a o z
  .exact .inr (S.Ew z)
 .exact Bi.keep (S.GG a h) λo e=>kp a o (J a h) e
 .obtain⟨_,_,p,_⟩:=S.GG a h;exact Bj a (by rw[p];simp) (S.K3 a h)
 .exact Bj a (S.bH a t) (S.bF a t)
 .by_cases m:a∈(OV.nd nk a0 us).addrs
  .exact f.bH a m
  .intro z;cases e:H a with
   |none=>exact S.bH a t e
   |some o=>rw[kp a o m e]at z;cases z
 .by_cases c:j=i
  .subst c;rw[Cq G]at g;cases g;refine⟨.ref a0,e0,r,nd,λa B=>⟨(q a B).1,?_⟩⟩;rcases(q a B).2 with z|z
   .exact .inl (S.Ew z)
   .exact(v a z).2
  .rw[Cb (BP c)]at g
   by_cases np:s=.AQ
   .subst np;obtain⟨l,e,M,L,pt⟩:=S.ok j _ g;obtain⟨_,_,p,_⟩:=id pt;exact⟨l,e,Bj l (by rw[p];simp) M,L,Bi.keep pt λo z=>kp l o (d j _ c g l e) z⟩
   .exact Ok.go S g f.f0 (λa o ho e=>kp a o (d j s c g a ho) e) Bj np
 .have at_:∀(n:Nat)s,(ss.set i (.ow lt (.nd DV a0 us')))[n]?=some s->(n=i/\s=.ow lt (.nd DV a0 us'))∨(n≠i/\ss[n]?=some s):=λn s hn=>by
   by_cases c:n=i
   .subst c;rw[Cq G]at hn;exact .inl ⟨rfl,(BL hn).symm⟩
   .rw[Cb (BP c)]at hn;exact .inr ⟨c,hn⟩
  have D:∀(n:Nat)s,n≠i->ss[n]?=some s->BI s Z[n]? b->b∉(OV.nd DV a0 us').addrs:=λn s hn hs ho m=>by
   rcases(q b m).2 with z|z
   .exact S.Dt hs ho z
   .exact d n s hn hs b ho z
  rcases at_ j s g with⟨p,rfl⟩|⟨n1,h1⟩
  .rcases at_ k u y with⟨C,rfl⟩|⟨n2,h2⟩
   .exact QV (p.trans C.symm)
   .exact D k u n2 h2 w x
  .rcases at_ k u y with⟨C,rfl⟩|⟨n2,h2⟩
   .exact D j s n1 h1 x w
   .exact S.By j k s u b QV h1 h2 x w
section
variable[Xw]
variable{ta:TA}{lt:Bool}{nx:List Slot->Prop}{R:Ar}
theorem Ft{k:List Slot->Prop}(h:k []):Mi ss B5 k:=⟨λE Z F H Q S q=>q [] [] F H (Mv.refl S) .nil h⟩
theorem De{k:List Slot->Prop}(h:Wp ss te λp=>Mi ss ta λl=>k (.is p::l)):Mi ss (AU te ta) k:=⟨λE Z F H Q S q=>
 h.go E Z F H _ S λv p F1 H1 c r h2=>h2.go E Z F1 H1 _ c.st λvs l F2 H2 b a kk=>q _ _ F2 H2 (c.trans b) (.cons (r.mono b.ff) a) kk⟩
theorem OF{k:List Slot->Prop}(hi:ss[i]?=some (.ow lt t))(h:Mi ss ta λl=>k (.ow true t::l)):bJ ss i t (AU (B1 i) ta) k:=⟨λE Z F H Q S q=>by
 obtain⟨c,e0,_⟩:=S.ok i _ hi;exact⟨_,e0,h.go E Z F H _ S λvs l F2 H2 b a kk=>q _ _ F2 H2 b (.here e0 a) kk⟩⟩
theorem Mv.dJ{F1 H1 F2 H2:Hp}(hi:ss[i]?=some (.ow lt t))(a:Mv E ss Z F H F1 H1)(b:Ob E ss Z i lt t t' F1 H1 F2 H2):Ob E ss Z i lt t t' F H F2 H2:=
 ⟨b.st,a.ff.trans b.ff,λc o n z e=>b.hh c o n z (a.hh c o n e),λc o e=>(b.nn c o e).elim (λe=>a.nn c o e) λe=>.inr (a.none e)⟩
theorem Ot{k:PV->OV->Prop}(hi:ss[i]?=some (.ow lt (.nd nk a0 us)))(h:bJ ss i (.nd nk a0 us) ta λl=>∃k',pre l (.mt k')/\∀p t',k' p t'->∃DV us',t'=.nd DV a0 us'/\k p t'):Wm ss i lt (.nd nk a0 us) (C9 (Bh pre) [] E0 ta) k:=⟨λE Z F H Q S q=>
 h.go E Z F H _ S λvs l F1 H1 b a⟨k',e,kk⟩=>by
  rw[GA];refine⟨l,.mt k',F1,[],(OV.nd nk a0 us).addrs,e,b.st.WE hi a,λv F' H' f⟨p,t',r,c,nd,d,kp⟩=>?_⟩;obtain⟨DV,us',rfl,k2⟩:=kk p t' kp;exact q v p _ F' H' (b.dJ hi (b.st.Y6 hi f c nd d)) r k2⟩
theorem gx{k:Bool->OV->Prop}(h:Wm ss i lt t te λp t'=>∃c,p=.bl c/\k c t'):MX ss i lt t (tB te) k:=⟨λE Z F H Q S q=>
 h.go E Z F H _ S λv p t' F1 H1 a r AG=>by
  obtain⟨c,e,kk⟩:=AG;subst e;cases r.inv;exact⟨c,rfl,q c t' F1 H1 a kk⟩⟩
theorem cn{k:Bool->OV->Prop}(h:MX ss i lt t c λb t'=>k (!b) t'):MX ss i lt t (R5 c) k:=⟨λE Z F H Q S q=>
 h.go E Z F H _ S λb t' F1 H1 a kk=>q (!b) t' F1 H1 a kk⟩
theorem dg{u v:TS}(h:MX ss i lt t c λb t'=>if b=true then Ws (ss.set i (.ow lt t')) u nx R else Ws (ss.set i (.ow lt t')) v nx R):Ws ss (Qu c u v) nx R:=⟨λE D Z F H S hn hr=>
 h.go E Z F H _ S λb t' F1 H1 a kk=>by
  cases b with
  |true=>rw[md rfl]at kk;exact kk.go E D Z F1 H1 a.st (λAI σ' F' H' n S' s=>hn AI σ' F' H' n S' (a.ff.trans s)) hr
  |false=>rw[mY (by decide)]at kk;exact kk.go E D Z F1 H1 a.st (λAI σ' F' H' n S' s=>hn AI σ' F' H' n S' (a.ff.trans s)) hr⟩
theorem U6(h:Wm ss i lt t te λ_ t'=>nx (ss.set i (.ow lt t'))):Ws ss (JT te) nx R:=⟨λE D Z F H S hn hr=>
 h.go E Z F H _ S λv p t' F1 H1 a r kk=>hn _ Z F1 H1 kk a.st a.ff⟩
theorem Dw{k:PV->OV->Prop}(hi:ss[i]?=some (.ow lt (.nd nk a0 us)))(h:Wp ss te λp=>k p (.nd nk a0 us)):Ws ss (HJ te) nx (.mt k):=⟨λE D Z F H S hn hr=>
 h.go E Z F H _ S λv p F1 H1 d r kk=>by
  obtain⟨f,e0,b,CT,c⟩:=d.st.ok i _ hi;have g:f=.ref a0:=by cases b;rfl
  subst g;exact hr v F1 H1 d.st.toFin ⟨p,.nd nk a0 us,r,b,CT,λa e=>⟨(c a e).1,(c a e).2.imp id λz=>z.2⟩,kk⟩⟩
end
theorem Jy{N:List Str}{t:TS}(h:Bh pre vs H Q X)(b:∀ss R,pre ss R->ss.length=n)
  (hw:∀ss R,pre ss R->Ws (ss++List.replicate (N.length - n) .any) t (λ_=>False) R):t { nx:=λ_ H'=>Q .AE H',rt:=Q } (L2.start N vs) H:=by
 obtain⟨ss,R,F,A,B,a,S,q⟩:=h;have e:vs.length=n:=by have:=S.len;rw[AW]at this;rw[<- this];exact b ss R a
 unfold L2.start;rw[e];exact(hw ss R a).go (Rv ⟨A,F,H,B⟩) _ _ F H (S.grown _) (λAI σ' F' H' z S' _=>z.elim) λv F' H' f ok=>q v F' H' f ok
theorem GY(b:∀ss R,pre ss R->ss.length=n)(h:Bh pre vs H Q X):vs.length=n:=by
 obtain⟨ss,R,F,A,B,a,S,q⟩:=h;have:=S.len;rw[AW]at this;rw[<- this];exact b ss R a
theorem Sg.Yh(S:Sg E ss Z F H)(c:ss[j]?=some (.ow false u)):Sg E (ss.set j (.is u.pv)) Z (Bs F H u.addrs) H/\A8 F (Bs F H u.addrs):=by
 obtain⟨v,e,r,nd,d⟩:=S.ok j _ c;obtain⟨S1,f⟩:=(S.drop j).lay u.addrs (λa b=>⟨(d a b).1,(d a b).2.elim id (λz=>by cases z.1),r.there a b⟩) λa b n s hn m=>by
  by_cases q:n=j
  .subst q;rw[Cq (List.getElem?_eq_some_iff.mp c).1]at hn;cases hn;cases m
  .rw[Cb (BP q)]at hn;exact S.By n j s _ a q hn c m b
 have g:=S1.Er (j:=j) (v:=v) (p:=u.pv) (r.rep f λa b o ho=>by unfold Bs;rw[md b];exact ho);rw[NT e,PX]at g;exact⟨g,f⟩
theorem ZD0{p:Slot}(d:ss[j]?=some (.ow false u))(c:p≠.AQ)(a:Addr):CQ ss Z a->CQ (ss.set j p) Z a:=λn k b=>by
 by_cases q:k=j
 .subst q;rw[Cq (List.getElem?_eq_some_iff.mp d).1]at b;cases b;exact absurd rfl c
 .rw[Cb (BP q)]at b;exact n k b
theorem Sg.vZ(S:Sg E ss Z F H)(d:ss[j]?=some (.ow false u))(ff:A8 (Bs F H u.addrs) F')(fh:A8 F' H'):(∀a∈u.addrs,F' a=H a/\H' a=H a/\H a≠none)/\∀a∈u.addrs,∀ws,F' a≠some (.tup ws):=by
 obtain⟨v,e,r,nd,f⟩:=S.ok j _ d;have at_:∀a∈u.addrs,F' a=H a/\H' a=H a/\H a≠none:=λa b=>by
  cases q:H a with
  |none=>exact absurd q (r.there a b)
  |some o=>
   have c:F' a=some o:=ff a o (by unfold Bs;rw[md b];exact q);exact⟨c,fh a o c,by simp⟩
 exact⟨at_,λa b ws q=>by rw[(at_ a b).1]at q;exact r.Zs a b ws q⟩
theorem Sg.j5(S:Sg E ss Z F H)(b:ss[j]?=some (.ow false u))(m:Mv E (ss.set j (.is u.pv)) Z (Bs F H u.addrs) H F' H'):Mv E ss Z F H (FW F' u.addrs) H'/\∀a∈u.addrs,∀ws,F' a≠some (.tup ws):=by
 obtain⟨v,e,r,nd,d⟩:=S.ok j _ b;obtain⟨S2,g⟩:=S.Yh b;obtain⟨at_,f⟩:=S.vZ b m.ff m.st.fh;refine⟨S.step (λa o ea=>?_) (λa o ea=>?_) (λa o n ea=>m.hh a o (ZD0 b (λz=>by cases z) a n) ea) (λa o ea=>?_) (λk l c h=>?_),f⟩
 .unfold FW;rw[mY (λq=>by rw[(d a q).1]at ea;cases ea)];exact m.ff a o (g a o ea)
 .unfold FW at ea;split at ea
  .cases ea
  .exact m.st.fh a o ea
 .unfold FW at ea;split at ea
  .cases ea
  .rename_i q;rcases m.nn a o ea with z|z
   .unfold Bs at z;rw[mY q]at z;exact .inl z
   .exact .inr z
 .refine m.st.EL (i:=k) ?_ h;rw[Cb (λq=>by subst q;rw[b]at c;cases c)];exact c
section
variable[Xw]
variable{lt:Bool}
theorem yj{k:PV->Prop}(j:Nat)(a:ss[j]?=some (.ow false u))(h:Wp (ss.set j (.is u.pv)) te λp=>Dr p=true/\k p):Wp ss te k:=⟨λE Z F H Q S q=>by
 obtain⟨S2,d⟩:=S.Yh a;refine h.go E Z _ H Q S2 λv p F' H' m b⟨hn,kk⟩=>?_;obtain⟨M,c⟩:=S.j5 a m;exact q v p _ H' M (b.sub c hn) kk⟩
theorem wA{k:Bool->Prop}(j:Nat)(a:ss[j]?=some (.ow false u))(h:Wt (ss.set j (.is u.pv)) c k):Wt ss c k:=⟨λE Z F H Q S q=>by
 obtain⟨S2,d⟩:=S.Yh a;refine h.go E Z _ H Q S2 λb F' H' m kk=>?_;exact q b _ H' (S.j5 a m).1 kk⟩
end
end Fz
namespace L2
section
variable{X:Cx}{o i value:Expr}{td ty tv:TE}{pos pos':Pos}
theorem BR(f:X.A.units+1<cLine)(ho:QE X o td)(hi:QE X i ty)(hs:Ym i):QE X (.Subscript o i pos) (Fx td ty):=⟨by
 have ho:=ho.h;have hi:=hi.h;intro Zb s Z H Q I h;refine ZA2 PySem.F.slot_dict_getitem.lookup hs (AR (ho Zb s Z H _ I h) λu s1⟨x,H1,I1,c,e⟩=>AR (hi Zb s1 Z H1 _ I1 e) λl s2⟨y,H2,I2,b,a,v,ex,g,d⟩=>?_);subst ex;obtain rfl:u=Value.ref a:=c;exact⟨rM I2 g,ZAk f I2 g b λj k I3 Fo=>⟨v,H2,I3,Fo,d⟩⟩⟩
theorem IG(l:X.A.units+1<cLine)(ho:QE X o td)(hi:QE X i ty)(b:QE X value tv)(hs:swapsWith value (some (.Subscript o i pos')) pos.line X.env=pure false:=by rfl):
  QS X (.Assign [.Subscript o i pos'] value pos) (Q0 td ty tv):=⟨by
 have ho:=ho.h;have hi:=hi.h;have b:=b.h;intro Zb s Z H D I h;refine wpAny_Assign_Subscript (AR (b Zb s Z H _ I h) λr s1⟨v,H1,I1,e,k⟩=>AR (ho Zb s1 Z H1 _ I1 k) λu s2⟨x,H2,I2,d,j⟩=>AR (hi Zb s2 Z H2 _ I2 j) λn m⟨y,H3,I3,c,a,H4,ex,g,f⟩=>?_) hs;subst ex;obtain rfl:u=Value.ref a:=d;exact uY l I3 g c e λs4 I4=>⟨Z,H4,I4,f⟩⟩
theorem NF:QE X (.Dict [] [] pos) UB:=⟨wz⟩
end
end L2
namespace Fz
open L2 Lw
variable{F F0 H H0:Hp}{ss:List Slot}{ta td tv ty:TE}{nx:List Slot->Prop}{R:Ar}{i:Nat}{ks:List Key}{C5 vs:List V}{t u w:OV}{C a dx:Addr}{us us':List OV}{E:Ent0}{Z:L2.St}{m p:List Nat}{f:Str}{ns:List Str}{pre:Pre}
noncomputable def GZ:Key->PV
 | .inl i=>.int i
 | .inr x=>.str x
noncomputable def Hq:List Key->List PV->Key->Option PV
 |k'::ks,x::xs,k=>if k'=k then some x else Hq ks xs k
 |_,_,_=>none
def GC(ks:List Key)(k:Key):Bool:=ks.any λk'=>decide (k'=k)
def HC(ks:List Key)(k:Key):List Key:=if GC ks k=true then ks else ks++[k]
theorem Kg{v:V}{k:Key}(r:Rep F v (GZ k)):v=kV k:=by
 cases k with
 |inl i=>cases r.inv;rfl
 |inr x=>cases r.inv;rfl
theorem cx{k:Key}{y:PV}:∀{ks:List Key}{vs:List V}{xs:List PV},Ad F vs xs->ks.length=vs.length->Hq ks xs k=some y->∃v,DA (ks.zip vs) k=some v/\Rep F v y:=by
 intro ks
 induction ks with
 |nil=>intro vs xs _ _ h;cases h
 |cons k' ks d=>
  intro vs xs r e h;cases xs with
  |nil=>cases h
  |cons x xs=>
   obtain⟨v,ws,rfl,a,b⟩:=r.inv;have h:(if k'=k then some x else Hq ks xs k)=some y:=h
   rw[GB]
   by_cases c:k'=k
   .rw[md c]at h;cases h;exact⟨v,Me c,a⟩
   .rw[mY c]at h;obtain⟨w,h1,h2⟩:=d b (PZ e) h;exact⟨w,by rw[MQ c];exact h1,h2⟩
section
variable[Xw]
variable{k:PV->Prop}{lt:Bool}
theorem Iq(h:Wp ss td λp=>∃ks xs,p=.Ai ks xs/\Wp ss ty λq=>∃a y,q=GZ a/\Hq ks xs a=some y/\k y):Wp ss (Fx td ty) k:=⟨λE Z F H Q S q=>
 h.go E Z F H _ S λv p F1 H1 d i⟨ks,xs,e,h2⟩=>h2.go E Z F1 H1 _ d.st λr p2 F2 H2 c g⟨a,y,n,j,kk⟩=>by
  subst e;subst n;have o:=i.mono c.ff;cases o with
  |Ai m l f=>
   obtain⟨w,hw,b⟩:=cx f l j;refine⟨_,w,rfl,?_,q w y F2 H2 (d.trans c) b kk⟩;rw[<- hw,Kg g];exact FU.k (c.st.fh _ _ m)⟩
theorem Nr{k:List Nat->OV->Prop}(h:∀a,k [] (.nd (.Ai []) a (([]:List PV).map .fz))):Wx ss UB k:=⟨λE Z F H Q S q p b=>by
 have m:=S.make b (.dK []);refine q _ [] (.nd (.Ai []) p (([]:List PV).map .fz)) F _ m (.nd (k:=.Ai []) (vs:=[]) AH trivial rfl .nil) (by rw[OV.Cj];simp[NK.more,OV.Gi]) (λa c=>?_) (h p);rw[OV.Cj]at c;have e:a=p:=by simpa[NK.more,OV.Gi]using c
 subst e;exact⟨S.Bj b,S.Ew b,.inr b⟩⟩
theorem VT:∀{ks:List Key}{vs:List V}{a:Key},ks.length=vs.length->(ks.zip vs).any (λb=>decide (b.1=a))=GC ks a
 | [],vs,a,h=>rfl
 |k'::ks,w::vs,a,h=>by
  rw[GB,N3,VT (by simpa using h)]
  rfl
 |_::_,[],_,h=>by simp at h
noncomputable def HL:List Key->List V->Key->V->List V
 |k'::ks,x::xs,k,p=>(if k'=k then p else x)::HL ks xs k p
 |_,xs,_,_=>xs
theorem bL:∀{ks:List Key}{vs:List V}{a:Key}{v:V},(ks.zip vs).map (λb=>if b.1=a then(b.1,v)else b)=ks.zip (HL ks vs a v)
 | [],vs,a,v=>by simp
 |k'::ks,w::vs,a,v=>by
  rw[GB,Bv,bL,HL,GB]
  by_cases c:k'=a
  .rw[md c,md c]
  .rw[mY c,mY c]
 |_::_,[],_,_=>by simp[HL]
end
noncomputable def CI:List Key->Key->Option Nat
 | [],_=>none
 |k'::ks,k=>if k'=k then some 0 else(CI ks k).map (· + 1)
theorem WB:∀{ks:List Key}{a:Key}{n:Nat},CI ks a=some n->ks[n]?=some a
 | [],_,_,h=>by cases h
 |k'::ks,a,n,h=>by
  rw[CI]at h
  by_cases c:k'=a
  .rw[md c]at h;cases h;subst c;rfl
  .rw[mY c]at h;cases e:CI ks a with
   |none=>rw[e]at h;cases h
   |some m=>rw[e]at h;cases h;exact WB (ks:=ks) e
theorem Xg:∀{ks:List Key}{a:Key},(CI ks a).isSome=GC ks a
 | [],_=>rfl
 |k'::ks,a=>by
  rw[CI];unfold GC;rw[N3]
  by_cases c:k'=a
  .rw[md c,lx c];rfl
  .rw[mY c,qX c,Bool.false_or,ZE,Xg];rfl
theorem XZ:∀{ks:List Key}{vs:List V}{a:Key}{n:Nat}{v:V},CI ks a=some n->vs[n]?=some v->DA (ks.zip vs) a=some v
 | [],_,_,_,_,h,_=>by cases h
 |k'::ks,[],a,n,v,h,hv=>by simp at hv
 |k'::ks,w::vs,a,n,v,h,hv=>by
  rw[CI]at h;rw[GB]
  by_cases c:k'=a
  .rw[md c]at h;cases h;simp at hv;rw[Me c,hv]
  .rw[mY c]at h;cases e:CI ks a with
   |none=>rw[e]at h;cases h
   |some m=>
    rw[e]at h;cases h;rw[MQ c];exact XZ e (by simpa using hv)
theorem Vm{a:Key}(b:ks.length=vs.length):(DA (ks.zip vs) a).isSome=GC ks a:=by
 rw[<- Qh,VT b]
theorem fL:∀{ks:List Key}{vs:List V}{a:Key}{n:Nat}{v:V},ks.Nodup->CI ks a=some n->HL ks vs a v=vs.set n v
 | [],_,_,_,_,_,h=>by cases h
 |k'::ks,[],a,n,v,_,h=>by rw[HL];simp;simp
 |k'::ks,w::vs,a,n,v,nd,h=>by
  rw[CI]at h;obtain⟨n1,n2⟩:=List.nodup_cons.mp nd;rw[HL]
  by_cases c:k'=a
  .rw[md c]at h;cases h;rw[md c,Z8]
   congr 1
   subst c;have b:∀{ks:List Key}{vs:List V},k'∉ks->HL ks vs k' v=vs:=by
    intro ks
    induction ks with
    |nil=>intro vs _;rw[HL];simp
    |cons k2 ks d=>
     intro vs hn;cases vs with
     |nil=>rw[HL];simp
     |cons u vs=>
      rw[HL,mY (λz=>hn (by rw[z];simp)),d (λz=>hn (by simp[z]))]
   exact b n1
  .rw[mY c]at h;cases e:CI ks a with
   |none=>rw[e]at h;cases h
   |some m=>
    rw[e]at h;cases h;rw[mY c,Sw,fL n2 e]
section
variable[Xw]
variable{k:PV->Prop}
theorem Fm{k:List Nat->OV->Prop}(h:Wl ss i t td λp u=>∃ks a us,u=.nd (.Ai ks) a us/\Wp ss ty λq=>∃b n w,q=GZ b/\CI ks b=some n/\us[n]?=some w/\k (p++[n]) w):Wl ss i t (Fx td ty) k:=⟨h.hi,λE Z F H Q S q=>
 h.go E Z F H _ S λv p u F1 H1 c m h1⟨ks,a,us,r,h2⟩=>h2.go E Z F1 H1 _ c.st λs p2 F2 H2 d l⟨b,n,w,e,hn,hw,kk⟩=>by
  subst e;have j:=m.mv c.st h.hi h1 d;subst r;obtain⟨vs,rfl,o,y,z,g⟩:=j.inv;obtain⟨x,hx,f⟩:=g.get hw;refine⟨a,x,rfl,?_,q x (p++[n]) w F2 H2 (c.trans d) f (OV.MM h1 (by rw[OV.J1,hw];exact OV.GV)) kk⟩;rw[<- XZ hn hx,Kg l];exact FU.k o⟩
theorem iU(h:Wp ss ty λq=>Wl ss i t td λ_ u=>∃ks a us b,u=.nd (.Ai ks) a us/\q=GZ b/\k (.bl (GC ks b))):Wp ss (X7 ty td) k:=⟨λE Z F H Q S q=>
 h.go E Z F H _ S λv p F1 H1 c e h2=>h2.go E Z F1 H1 _ c.st λn p2 u F2 H2 f d Ay AG=>by
  obtain⟨ks,a,us,b,l,m,kk⟩:=AG;subst l;subst m;obtain⟨vs,rfl,g,o,j,r⟩:=d.inv;refine⟨a,DA (ks.zip vs) b,rfl,by rw[Kg e];exact FU.k g,?_⟩;rw[Vm j];exact q _ _ F2 H2 (c.trans f) (.bl _) kk⟩
theorem VH(h:Wp ss ty λq=>Wl ss i t td λ_ u=>∃ks a us b,u=.nd (.Ai ks) a us/\q=GZ b/\k (.bl (!GC ks b))):Wp ss (Qg ty td) k:=⟨λE Z F H Q S q=>
 h.go E Z F H _ S λv p F1 H1 c e h2=>h2.go E Z F1 H1 _ c.st λn p2 u F2 H2 f d Ay AG=>by
  obtain⟨ks,a,us,b,l,m,kk⟩:=AG;subst l;subst m;obtain⟨vs,rfl,g,o,j,r⟩:=d.inv;refine⟨a,DA (ks.zip vs) b,rfl,by rw[Kg e];exact FU.k g,?_⟩;rw[Vm j];exact q _ _ F2 H2 (c.trans f) (.bl _) kk⟩
theorem xF(h:Wp ss ty λq=>Wp ss td λu=>∃ks xs b,u=.Ai ks xs/\q=GZ b/\k (.bl (!GC ks b))):Wp ss (Qg ty td) k:=⟨λE Z F H Q S q=>
 h.go E Z F H _ S λv p F1 H1 d f h2=>h2.go E Z F1 H1 _ d.st λm u F2 H2 c e AG=>by
  obtain⟨ks,xs,b,i,j,kk⟩:=AG;subst i;subst j;cases e with
  |@Ai a _ vs _ l g n=>
   refine⟨a,DA (ks.zip vs) b,rfl,by rw[Kg f];exact FU.k (c.st.fh _ _ l),?_⟩;rw[Vm g];exact q _ _ F2 H2 (d.trans c) (.bl _) kk⟩
theorem L7:(OV.nd (.Ai ks) a us).addrs=a::OV.Al us:=by rw[OV.Cj];rfl
theorem bE{lt:Bool}:∀(m:List Nat)(ss:List Slot),ss[i]?=some (.ow lt t)->i∉m->(Fz.DO m ss)[i]?=some (.ow lt t):=by
 intro m
 induction m with
 |nil=>intro ss h _;exact h
 |cons j m b=>
  intro ss h a;refine b _ ?_ λz=>a (by simp[z]);rw[Cb (by rintro rfl;exact a (by simp))];exact h
theorem Sg.UI{lt:Bool}{ks':List Key}(S0:Sg E ss Z F0 H0)(S:Sg E ss Z F H)(hi:ss[i]?=some (.ow lt t))(Ay:t.at p=some (.nd (.Ai ks) a us))
  (d:∀a∈u.addrs,F a=none/\E.H0 a=none/\((∃i∈m,∃s,s≠Slot.AQ/\ss[i]?=some s/\BI s Z[i]? a)∨H0 a=none)) (EO:i∉m)
  (hr:BD F H C5 us') (x:ks'.length=C5.length) (Ox:(OV.Al us').Nodup) (J0:∀b∈OV.Al us',b∈OV.Al us∨b∈u.addrs):Sg E ((Fz.DO m ss).set i (.ow lt (t.put p (.nd (.Ai ks') a us')))) Z F (upd H a (.dK (ks'.zip C5))):=by
 have D:=bE m ss hi EO;obtain⟨v,e,r,nd,q⟩:=S.ok i _ hi;have h:∀b,b∈a::OV.Al us->b∈t.addrs:=λb c=>OV.IZ Ay b (by rw[L7];exact c);have C:∀b∈u.addrs,b∉t.addrs:=λb c z=>by
  rcases(d b c).2.2 with⟨j,A,s,_,hs,o⟩|w
  .exact S.By j i s _ b (by rintro rfl;exact EO A) hs hi o z
  .exact S0.Dt hi z w
 have g:(OV.nd (.Ai ks) a us).addrs.Nodup:=by
  obtain⟨l,G,B,_⟩:=OV.split Ay;rw[B,CG,CG]at nd;exact nd.1.2.1
 rw[L7]at g;have f:∀b∈OV.Al us',b≠a:=λb c z=>by
  subst z;rcases J0 b c with w|w
  .exact(List.nodup_cons.mp g).1 w
  .exact C b w (h b (by simp))
 refine(S.DO m).Y4 D Ay (.nd (k:=.Ai ks') AH trivial x (hr.mono (A8.refl _) λb c o ho=>by rw[Af (f b c)];exact ho)) (by rw[L7];exact List.nodup_cons.mpr ⟨λz=>f a z rfl,Ox⟩) λb c=>?_;rw[L7]at c ⊢;rcases List.mem_cons.mp c with w|w
 .exact .inl (by simp[w])
 .rcases J0 b w with z|z
  .exact .inl (by simp[z])
  .refine .inr ⟨(d b z).1,(d b z).2.1,λj s hs o=>?_⟩;rcases O4 hs with y|⟨HU,hm⟩
   .subst y;cases o
   .rcases(d b z).2.2 with⟨i2,GD,s2,_,CU,n⟩|y
    .exact S.By j i2 s s2 b (by rintro rfl;exact hm GD) HU CU o n
    .exact S0.Dt HU o y
def G5(ks:List Key)(us:List OV)(a:Key)(w:OV):List OV:=match CI ks a with
 |some n=>us.set n w
 |none=>us++[w]
theorem Ib(h:Wx ss tv λm w=>Wl ss i t td λp u=>∃lt a ks us,ss[i]?=some (.ow lt t)/\u=.nd (.Ai ks) a us/\us.length<=99999/\ks.Nodup/\i∉m/\Wp ss ty λq=>∃d,q=GZ d/\nx ((Fz.DO m ss).set i (.ow lt (t.put p (.nd (.Ai (HC ks d)) a (G5 ks us d w)))))):Ws ss (Q0 td ty tv) nx R:=⟨λE D Z F H S hn hr=>
 h.go E Z F H _ S λv m w F1 H1 Q P Fl J h2=>h2.go E Z F1 H1 _ Q.st λσ p u F2 H2 M O Ay⟨lt,a,ks,us,hi,eu,hz,A,EO,h3⟩=>h3.go E Z F2 H2 _ M.st λv3 q F3 H3 I r3⟨d,eq,kk⟩=>by
  subst eu;subst eq;have ev:σ=.ref a:=by cases O;rfl
  subst ev;have K:=M.trans I;have np:∀b∈w.addrs,CQ ss Z b:=λb f k A U=>by
   rcases(J b f).2.2 with⟨j,T,s,hs,J4,o⟩|z
   .exact S.By j k s _ b (λe=>by subst e;rw[J4]at A;exact hs (BL A)) J4 A o U
   .exact S.Dt A U z
  have Y:B9 F3 H3 v w:=P.mono K.ff λb f o e=>K.hh b o (np b f) e;have UW:∀b∈w.addrs,F3 b=none/\E.H0 b=none/\((∃i∈m,∃s,s≠Slot.AQ/\ss[i]?=some s/\BI s Z[i]? b)∨H b=none):=λb f=>by
   refine⟨?_,(J b f).2⟩;cases e:F3 b with
   |none=>rfl
   |some o=>
    rcases K.nn b o e with z|z
    .rw[(J b f).1]at z;cases z
    .exact absurd z (P.there b f)
  have r4:=O.mv M.st ⟨lt,hi⟩ Ay I;cases r4 with
  |@nd _ _ vs _ ha sd ft G=>
   have L:ks.length=vs.length:=ft;have vl:=G.length;have qM:(ks.zip vs).length<=99999:=by rw[N6];omega
   refine⟨a,_,rfl,by rw[Kg r3];exact OY.k ha (Lb qM),?_⟩;obtain⟨v0,e0,r0,CT,q0⟩:=I.st.ok i _ hi;have N:(OV.nd (.Ai ks) a us).addrs.Nodup:=by
    obtain⟨l,G,B,_⟩:=OV.split Ay;rw[B,CG,CG]at CT;exact CT.1.2.1
   rw[L7]at N;have g:∀b∈w.addrs,b∉OV.Al us:=λb f z=>by
    have X:b∈t.addrs:=OV.IZ Ay b (by rw[L7];simp[z]);rcases(J b f).2.2 with⟨j,T,s,_,hs,o⟩|y
    .exact S.By j i s _ b (by rintro rfl;exact EO T) hs hi o X
    .exact S.Dt hi X y
   obtain⟨C5,ep,ON,JX,Gy,sb⟩:∃C5:List V,putK (ks.zip vs) d v=(HC ks d).zip C5/\(HC ks d).length=C5.length/\BD F3 H3 C5 (G5 ks us d w)/\(OV.Al (G5 ks us d w)).Nodup/\∀b∈OV.Al (G5 ks us d w),b∈OV.Al us∨b∈w.addrs:=by
    unfold putK HC G5;rw[VT L];cases e:CI ks d with
    |some n=>
     have c:GC ks d=true:=by rw[<- Xg,e];rfl
     have Ky:n<us.length:=by
      have:=(List.getElem?_eq_some_iff.mp (WB e)).1;omega
     obtain⟨l,r,B,W⟩:=IE (BA Ky);rw[md c,md c,bL,fL A e];refine⟨vs.set n v,rfl,by rw[LM];exact L,G.set n Y,?_,λb f=>?_⟩
     .show(OV.Al (us.set n w)).Nodup;rw[W];have n1:=(List.nodup_cons.mp N).2;rw[B]at n1;exact RI n1 Fl λb f=>.inr (by rw[<- B];exact g b f)
     .have C:b∈OV.Al (us.set n w):=f;rw[W]at C;rcases List.mem_append.mp C with z|z
      .rcases List.mem_append.mp z with z|z
       .exact .inl (by rw[B];simp[z])
       .exact .inr z
      .exact .inl (by rw[B];simp[z])
    |none=>
     have c:¬ GC ks d=true:=by rw[<- Xg,e];decide
     rw[mY c,mY c];refine⟨vs++[v],by rw[List.zip_append L];rfl,by rw[Bu,Bu,L];rfl,G.append (.one Y),?_,λb f=>?_⟩
     .show(OV.Al (us++[w])).Nodup;rw[Ku,MN,CG];exact⟨(List.nodup_cons.mp N).2,Fl,λx hx y hy e=>g y hy (e▸hx)⟩
     .have C:b∈OV.Al (us++[w]):=f;rw[Ku,MN]at C;exact List.mem_append.mp C
   rw[ep];exact hn _ Z F3 _ kk (Sg.UI (u:=w) S I.st hi Ay UW EO JX ON Gy sb) (Q.ff.trans K.ff)⟩
end
noncomputable def D4:List Str->Str->Option Nat
 | [],_=>none
 |g::ns,f=>if g=f then some 0 else(D4 ns f).map (· + 1)
def Kw(ns:List Str)(f:Str):List Str:=match D4 ns f with
 |some _=>ns
 |none=>ns++[f]
def Np(ns:List Str)(us:List OV)(f:Str)(w:OV):List OV:=match D4 ns f with
 |some n=>us.set n w
 |none=>us++[w]
def JF(ns:List Str)(vs:List V)(f:Str)(w:V):List V:=match D4 ns f with
 |some n=>vs.set n w
 |none=>vs++[w]
theorem YQ:∀{ns:List Str}{f:Str}{n:Nat},D4 ns f=some n->n<ns.length
 | [],_,_,h=>by cases h
 |g::ns,f,n,h=>by
  rw[D4]at h
  by_cases c:g=f
  .rw[md c]at h;cases h;exact Nat.succ_pos _
  .rw[mY c]at h;cases e:D4 ns f with
   |none=>rw[e]at h;cases h
   |some m=>rw[e]at h;cases h;exact Nat.succ_lt_succ (YQ e)
theorem SR:∀{ns:List Str}{vs:List V}{f:Str}{n:Nat}{v:V},D4 ns f=some n->vs[n]?=some v->(ns.zip vs).lookup f=some v
 | [],_,_,_,_,h,_=>by cases h
 |g::ns,[],f,n,v,h,hv=>by simp at hv
 |g::ns,w::vs,f,n,v,h,hv=>by
  rw[D4]at h;rw[GB]
  by_cases c:g=f
  .rw[md c]at h;cases h;simp at hv;subst c;rw[List.lookup_cons_self,hv]
  .rw[mY c]at h;cases e:D4 ns f with
   |none=>rw[e]at h;cases h
   |some m=>
    rw[e]at h;cases h;rw[Hd];have:(f == g)=false:=by simpa using λz=>c z.symm
    rw[this];exact SR e (by simpa using hv)
theorem Ux:∀{ns:List Str}{vs:List V}{f:Str}{v:V},ns.length=vs.length->DC f v (ns.zip vs)=(Kw ns f).zip (JF ns vs f v)/\(Kw ns f).length=(JF ns vs f v).length
 | [],[],f,v,_=>by simp[DC,Kw,JF,D4]
 | [],_::_,_,_,h=>by simp at h
 |_::_,[],_,_,h=>by simp at h
 |g::ns,w::vs,f,v,h=>by
  obtain⟨i1,i2⟩:=Ux (ns:=ns) (vs:=vs) (f:=f) (v:=v) (by simpa using h)
  rw[GB];rw[show DC f v ((g,w)::ns.zip vs)=(if g=f then(g,v)::ns.zip vs else(g,w)::DC f v (ns.zip vs))from rfl]
  unfold Kw JF at i1 i2 ⊢;rw[D4]
  by_cases c:g=f
  .rw[md c,md c];exact⟨by simp,by simpa using h⟩
  .rw[mY c,mY c,i1];cases e:D4 ns f with
   |none=>rw[e]at i2;exact⟨by simp,by simpa using i2⟩
   |some m=>rw[e]at i2;exact⟨by simp,by simpa using i2⟩
section
variable[Xw]
variable{k:PV->Prop}{K:ZEe}
theorem Xv{k:List Nat->OV->Prop}(h:Wl ss i t ta λp u=>∃C dx ns a us n w,u=.nd (.obj C dx ns) a us/\Bt K C/\BM K C f/\D4 ns f=some n/\us[n]?=some w/\k (p++[n]) w):Wl ss i t (Jx K ta f) k:=⟨h.hi,λE Z F H Q S q=>
 h.go E Z F H _ S λv p u F1 H1 g d h1 AG=>by
  obtain⟨C,dx,ns,a,us,n,w,m,j,hn,hx,hw,kk⟩:=AG;subst m;obtain⟨vs,rfl,l,o,r,c⟩:=d.inv;obtain⟨x,e,b⟩:=c.get hw;exact⟨a,C,dx,ns.zip vs,x,rfl,l,j,hn,SR hx e,q x (p++[n]) w F1 H1 g b (OV.MM h1 (by rw[OV.J1,hw];exact OV.GV)) kk⟩⟩
theorem Ji:(OV.nd (.obj C dx ns) a us).addrs=a::dx::OV.Al us:=by rw[OV.Cj];rfl
theorem Sg.fi{lt:Bool}{Bx:List Str}(S0:Sg E ss Z F0 H0)(S:Sg E ss Z F H)(hi:ss[i]?=some (.ow lt t))(Ay:t.at p=some (.nd (.obj C dx ns) a us))(L5:H dx=some (.own a))
  (d:∀a∈u.addrs,F a=none/\E.H0 a=none/\((∃i∈m,∃s,s≠Slot.AQ/\ss[i]?=some s/\BI s Z[i]? a)∨H0 a=none)) (EO:i∉m)
  (hr:BD F H C5 us') (D:Bx.length=C5.length) (Ox:(OV.Al us').Nodup) (J0:∀b∈OV.Al us',b∈OV.Al us∨b∈u.addrs):Sg E ((Fz.DO m ss).set i (.ow lt (t.put p (.nd (.obj C dx Bx) a us')))) Z F (upd H a (.ins C dx (Bx.zip C5))):=by
 have J:=bE m ss hi EO;obtain⟨v,e,r,nd,q⟩:=S.ok i _ hi;have f:∀b,b∈a::dx::OV.Al us->b∈t.addrs:=λb c=>OV.IZ Ay b (by rw[Ji];exact c);have n:∀b∈u.addrs,b∉t.addrs:=λb c z=>by
  rcases(d b c).2.2 with⟨j,G,s,_,hs,o⟩|w
  .exact S.By j i s _ b (by rintro rfl;exact EO G) hs hi o z
  .exact S0.Dt hi z w
 have x:(OV.nd (.obj C dx ns) a us).addrs.Nodup:=by
  obtain⟨l,K,I,_⟩:=OV.split Ay;rw[I,CG,CG]at nd;exact nd.1.2.1
 rw[Ji]at x;obtain⟨n1,n2⟩:=List.nodup_cons.mp x;obtain⟨B,L⟩:=List.nodup_cons.mp n2;have g:∀b∈OV.Al us',b≠a:=λb c z=>by
  subst z;rcases J0 b c with w|w
  .exact n1 (by simp[w])
  .exact n b w (f b (by simp))
 have R0:∀b∈OV.Al us',b≠dx:=λb c z=>by
  subst z;rcases J0 b c with w|w
  .exact B w
  .exact n b w (f b (by simp))
 have h:dx≠a:=λz=>n1 (by simp[z]);refine(S.DO m).Y4 J Ay (.nd (k:=.obj C dx Bx) AH (show upd H a _ dx=some (.own a) by rw[Af h];exact L5) D (hr.mono (A8.refl _) λb c o ho=>by rw[Af (g b c)];exact ho)) (by
  rw[Ji];exact List.nodup_cons.mpr ⟨λz=>by
   rcases List.mem_cons.mp z with z|z
   .exact h z.symm
   .exact g a z rfl,List.nodup_cons.mpr ⟨λz=>R0 dx z rfl,Ox⟩⟩) λb c=>?_
 rw[Ji]at c ⊢;rcases List.mem_cons.mp c with w|w
 .exact .inl (by simp[w])
 .rcases List.mem_cons.mp w with w|w
  .exact .inl (by simp[w])
  .rcases J0 b w with z|z
   .exact .inl (by simp[z])
   .refine .inr ⟨(d b z).1,(d b z).2.1,λj s hs o=>?_⟩;rcases O4 hs with y|⟨HU,hm⟩
    .subst y;cases o
    .rcases(d b z).2.2 with⟨i2,GD,s2,_,CU,A⟩|y
     .exact S.By j i2 s s2 b (by rintro rfl;exact hm GD) HU CU o A
     .exact S0.Dt HU o y
theorem ph{F1 H1 F3 H3:Hp}{v:V}(S:Sg E ss Z F H)(JQ:Mv E ss Z F1 H1 F3 H3)(g:B9 F1 H1 v w)(f:∀a∈w.addrs,F1 a=none/\E.H0 a=none/\((∃i∈m,∃s,s≠Slot.AQ/\ss[i]?=some s/\BI s Z[i]? a)∨H a=none)):
  B9 F3 H3 v w/\∀b∈w.addrs,F3 b=none/\E.H0 b=none/\((∃i∈m,∃s,s≠Slot.AQ/\ss[i]?=some s/\BI s Z[i]? b)∨H b=none):=by
 have np:∀b∈w.addrs,CQ ss Z b:=λb c k d h=>by
  rcases(f b c).2.2 with⟨j,l,s,hs,J4,o⟩|z
  .exact S.By j k s _ b (λe=>by subst e;rw[J4]at d;exact hs (BL d)) J4 d o h
  .exact S.Dt d h z
 refine⟨g.mono JQ.ff λb c o e=>JQ.hh b o (np b c) e,λb c=>⟨?_,(f b c).2⟩⟩;cases e:F3 b with
 |none=>rfl
 |some o=>
  rcases JQ.nn b o e with z|z
  .rw[(f b c).1]at z;cases z
  .exact absurd z (g.there b c)
theorem IK(h:Wx ss tv λm w=>Wl ss i t ta λp u=>∃lt C dx ns a us,ss[i]?=some (.ow lt t)/\u=.nd (.obj C dx ns) a us/\Bt K C/\BM K C f/\ns.length<1000/\i∉m/\nx ((Fz.DO m ss).set i (.ow lt (t.put p (.nd (.obj C dx (Kw ns f)) a (Np ns us f w)))))):Ws ss (Yi K ta tv f) nx R:=⟨λE D Z F H S hn hr=>
 h.go E Z F H _ S λv m w F1 H1 I T Fl M h2=>h2.go E Z F1 H1 _ I.st λO p u F2 H2 A G Ay AG=>by
  obtain⟨lt,C,dx,ns,a,us,hi,eu,W,Tt,hz,EO,kk⟩:=AG;subst eu;have σ:O=.ref a:=by cases G;rfl
  subst σ;obtain⟨Ej,UW⟩:=ph S A T M;cases G with
  |@nd _ _ vs _ X P Y q=>
   have Hw:ns.length=vs.length:=Y;have vl:=q.length;obtain⟨ep,ON⟩:=Ux (f:=f) (v:=v) Hw;refine⟨a,C,dx,ns.zip vs,rfl,X,W,Tt,by rw[N6];omega,?_⟩;obtain⟨v0,e0,r0,CT,q0⟩:=A.st.ok i _ hi;have N:(OV.nd (.obj C dx ns) a us).addrs.Nodup:=by
    obtain⟨l,q,g,_⟩:=OV.split Ay;rw[g,CG,CG]at CT;exact CT.1.2.1
   rw[Ji]at N;have B:=(List.nodup_cons.mp (List.nodup_cons.mp N).2).2;have c:∀b∈w.addrs,b∉OV.Al us:=λb d z=>by
    have L:b∈t.addrs:=OV.IZ Ay b (by rw[Ji];simp[z]);rcases(M b d).2.2 with⟨j,V,s,_,hs,o⟩|y
    .exact S.By j i s _ b (by rintro rfl;exact EO V) hs hi o L
    .exact S.Dt hi L y
   obtain⟨JX,Gy,Q⟩:BD F2 H2 (JF ns vs f v) (Np ns us f w)/\(OV.Al (Np ns us f w)).Nodup/\∀b∈OV.Al (Np ns us f w),b∈OV.Al us∨b∈w.addrs:=by
    unfold JF Np;cases e:D4 ns f with
    |some n=>
     have Ky:n<us.length:=by have:=YQ e;omega
     obtain⟨l,r,g,J⟩:=IE (BA Ky);refine⟨q.set n Ej,?_,λb d=>?_⟩
     .show(OV.Al (us.set n w)).Nodup;rw[J];rw[g]at B;exact RI B Fl λb d=>.inr (by rw[<- g];exact c b d)
     .have k:b∈OV.Al (us.set n w):=d;rw[J]at k;rcases List.mem_append.mp k with z|z
      .rcases List.mem_append.mp z with z|z
       .exact .inl (by rw[g];simp[z])
       .exact .inr z
      .exact .inl (by rw[g];simp[z])
    |none=>
     refine⟨q.append (.one Ej),?_,λb d=>?_⟩
     .show(OV.Al (us++[w])).Nodup;rw[Ku,MN,CG];exact⟨B,Fl,λx hx y U e=>c y U (e▸hx)⟩
     .have k:b∈OV.Al (us++[w]):=d;rw[Ku,MN]at k;exact List.mem_append.mp k
   rw[ep];exact hn _ Z F2 _ kk (Sg.fi (u:=w) S A.st hi Ay P UW EO JX ON Gy Q) (I.ff.trans A.ff)⟩
end
theorem Vk:∀{ns:List Str}{vs:List V}{f:Str},D4 ns f=none->(ns.zip vs).lookup f=none
 | [],_,_,_=>by simp
 |g::ns,[],f,h=>by simp
 |g::ns,w::vs,f,h=>by
  rw[D4]at h
  by_cases c:g=f
  .rw[md c]at h;cases h
  .rw[mY c]at h;rw[GB,Hd];have:(f == g)=false:=by simpa using λz=>c z.symm
   rw[this];refine Vk ?_;cases e:D4 ns f with
   |none=>rfl
   |some m=>rw[e]at h;cases h
section
variable[Xw]
variable{te:TE}{ta:TA}{lt:Bool}{K:ZEe}
theorem Mw{a0:Addr}{m:Str}{k:PV->OV->Prop}(hi:ss[i]?=some (.ow lt (.nd (.obj C dx ns) a0 us)))(n:D4 ns m=none)(h:Mi ss ta λl=>∃k',pre (.ow true (.nd (.obj C dx ns) a0 us)::l) (.mt k')/\∀p t',k' p t'->∃DV us',t'=.nd DV a0 us'/\k p t'):
  Wm ss i lt (.nd (.obj C dx ns) a0 us) (Lf C m (Bh pre) [] E0 (B1 i) ta) k:=⟨λE Z F H Q S q=>by
 obtain⟨d,e0,c,_,_⟩:=S.ok i _ hi;have s:d=.ref a0:=by cases c;rfl
 subst s;cases c with
 |@nd _ _ Iz _ o t w u=>
  refine⟨_,e0,a0,dx,ns.zip Iz,rfl,o,Vk n,h.go E Z F H _ S λvs l F1 H1 b a⟨k',j,kk⟩=>?_⟩;rw[GA];refine⟨.ow true (.nd (.obj C dx ns) a0 us)::l,.mt k',F1,[],(OV.nd (.obj C dx ns) a0 us).addrs,j,b.st.WE hi (.here e0 a),λv F' H' f⟨p,t',r,e,nd,g,kp⟩=>?_⟩;obtain⟨DV,us',rfl,k2⟩:=kk p t' kp;exact q v p _ F' H' (b.dJ hi (b.st.Y6 hi f e nd g)) r k2⟩
theorem fc{k:PV->Prop}(h:Wp ss te λo=>∃C ns xs n y,o=.obj C ns xs/\Bt K C/\BM K C f/\D4 ns f=some n/\xs[n]?=some y/\k y):Wp ss (Jx K te f) k:=⟨λE Z F H Q S q=>
 h.go E Z F H _ S λv o F1 H1 b e AG=>by
  obtain⟨C,ns,xs,n,y,l,j,hn,hx,g,kk⟩:=AG;subst l;cases e with
  |@obj a _ dx _ Iz _ m r p d=>
   obtain⟨u,i,c⟩:=d.get g;exact⟨a,C,dx,ns.zip Iz,u,rfl,b.st.fh _ _ m,j,hn,SR hx i,q u y F1 H1 b c kk⟩⟩
theorem bT{k:List Nat->OV->Prop}(h:Mi ss ta λl=>∀x dx:Addr,∃k',pre (.ow true (.nd (.obj C dx []) x [])::l) (.mt k')/\∀p t',k' p t'->p=.AE/\∃Bx us',t'=.nd (.obj C dx Bx) x us'/\k [] t'):Wx ss (XE C (Bh pre) [] E0 ta) k:=⟨λE Z F H Q S q=>
 h.go E Z F H _ S λvs l F1 H1 d L Lc x dx hx L5 Ax=>by
  rw[GA];have M1:=d.st.make L5 (.own x);have O:upd H1 dx (.own x) x=none:=by rw[Af (BP Ax)];exact hx
  have N:=M1.st.make O (.ins C dx []);have G:=M1.trans N;have up:∀a o,H1 a=some o->upd (upd H1 dx (.own x)) x (.ins C dx []) a=some o:=λa o e=>by
   rw[Af (E8 e hx),Af (E8 e L5)];exact e
  have w:∀a,upd (upd H1 dx (.own x)) x (.ins C dx []) a=none->H1 a=none:=λa e=>by
   cases z:H1 a with
   |none=>rfl
   |some o=>rw[up a o z]at e;cases e
  have a0:(OV.nd (.obj C dx []) x []).addrs=[x,dx]:=by rw[Ji,OV.Gi]
  have D:B9 F1 (upd (upd H1 dx (.own x)) x (.ins C dx [])) (.ref x) (.nd (.obj C dx []) x []):=.nd (k:=.obj C dx []) (vs:=[]) AH (show upd _ x _ dx=some (.own x) by rw[Af Ax];exact AH) rfl .nil;have f0:∀a∈(OV.nd (.obj C dx []) x []).addrs,H1 a=none:=λa b=>by
   rw[a0]at b;simp only[Gq,B3,yO]at b;rcases b with rfl|rfl
   .exact hx
   .exact L5
  have P:(OV.nd (.obj C dx []) x []).addrs.Nodup:=by
   rw[a0];simp[BP Ax]
  have y:=Sg.jK (j:=ss.length) (m:=[]) (v:=.ref x) (u:=.nd (.obj C dx []) x []) (d.st.grown 1) (G.st.grown 1) D P λa b=>⟨d.st.Bj (f0 a b),d.st.Ew (f0 a b),.inr (f0 a b)⟩;have T:=d.st.len;have hi:((ss++List.replicate 1 Slot.any).set ss.length (.ow false (.nd (.obj C dx []) x [])))[ss.length]?=some (.ow false (.nd (.obj C dx []) x [])):=Cq (by simp);have e0:((Z++List.replicate 1 none).set ss.length (some (V.ref x)))[ss.length]?=some (some (.ref x)):=Cq (by simp;omega);obtain⟨k',I,kk⟩:=Lc x dx;refine⟨.ow true (.nd (.obj C dx []) x [])::l,.mt k',F1,[],(OV.nd (.obj C dx []) x []).addrs,I,y.WE hi (.here e0 L),λv F' H' f⟨p,t',r,t,nd,s,kp⟩=>?_⟩;obtain⟨rfl,Bx,us',rfl,k2⟩:=kk p t' kp;have B:=y.Y6 hi f t nd s;have at':∀n,n<ss.length->((ss++List.replicate 1 Slot.any).set ss.length (.ow false (.nd (.obj C dx []) x [])))[n]?=ss[n]?:=λn hn=>by rw[Cb (by omega),Hc hn]
  have A:∀n,n<ss.length->((Z++List.replicate 1 none).set ss.length (some (V.ref x)))[n]?=Z[n]?:=λn hn=>by rw[Cb (by omega),Hc (by omega)]
  have np:∀a,H1 a≠none->CQ ss Z a->CQ ((ss++List.replicate 1 Slot.any).set ss.length (.ow false (.nd (.obj C dx []) x []))) ((Z++List.replicate 1 none).set ss.length (some (V.ref x))) a:=λa _ hn n g=>by
   by_cases c:n<ss.length
   .rw[at' n c]at g;rw[A n c];exact hn n g
   .by_cases K:n=ss.length
    .subst K;rw[hi]at g;cases g
    .rw[LK (by simp;omega)]at g;cases g
  have M:Mv E ss Z F1 H1 F' H':=d.st.step B.ff B.st.fh (λa o hn e=>B.hh a o (np a (by rw[e];simp) hn) (λz=>by rw[f0 a z]at e;cases e) (up a o e)) (λa o e=>(B.nn a o e).imp id (w a)) λn R hn J=>by
   have c:n<ss.length:=(List.getElem?_eq_some_iff.mp hn).1;refine B.st.EL (i:=n) ?_ (by rw[A n c];exact J);rw[Cb (by omega)];exact(at' n c).trans hn
  cases r.inv;refine⟨rfl,q (.ref x) [] _ F' H' (d.trans M) t nd (λa b=>?_) k2⟩;have h1:H1 a=none:=(s a b).2.elim (w a) (f0 a);exact⟨(s a b).1,d.st.Ew h1,.inr (d.none h1)⟩⟩
end
end Fz
namespace L2
section
variable{X:Cx}{o e value:Expr}{f:Str}{pos pos' P1:Pos}{ta tv:TE}
theorem D9(b:QE X e ta)(i:attributeBase e f X.env (eval e X.env)=eval e X.env:=by rfl):QE X (.Attribute e f pos) (Jx X.K ta f):=⟨by
 have b:=b.h;intro Zb s Z H Q I h;refine ub i (AR (b Zb s Z H _ I h) λu s1 Dj=>?_);obtain⟨x,H1,I1,d,a,C,dx,fs,v,ex,ea,c,n,l,q⟩:=Dj;subst ex;obtain rfl:u=Value.ref a:=d;exact i9 I1 ea c n l λj s2 I2 g=>⟨v,H1,I2,g,q⟩⟩
theorem JU(d:QE X o ta)(b:QE X value tv)(hs:swapsWith value (some (.Attribute o f pos')) pos.line X.env=pure false:=by rfl):QS X (.Assign [.Attribute o f pos'] value pos) (Yi X.K ta tv f):=⟨by
 have d:=d.h;have b:=b.h;intro Zb s Z H D I h;refine plainObj_wpAny_Assign_Attribute (AR (b Zb s Z H _ I h) λu s1⟨y,H1,I1,e,q⟩=>AR (d Zb s1 Z H1 _ I1 q) λj s2⟨x,H2,I2,g,a,C,dx,fs,ex,ea,c,n,l,i⟩=>?_) hs;subst ex;obtain rfl:j=Value.ref a:=g;exact aT I2 ea c n l e λk I3=>⟨Z,_,I3,i⟩⟩
theorem Vb{op:Operator}{e:V->V->Hp->VK->Prop}(d:QE X o ta)(b:QE X value tv)(Uu:gz X op e):QS X (.AugAssign (.Attribute o f P1) op value pos) (X2 X.K ta tv e f):=⟨by
 have d:=d.h;have b:=b.h;intro Zb s Z H D I h;refine wpAny_AugAssign_AttributeAny (AR (d Zb s Z H _ I h) λA s1 Dj=>?_);obtain⟨x,H1,I1,p,a,C,dx,fs,v,ex,ea,c,n,l,q⟩:=Dj;subst ex;obtain rfl:A=Value.ref a:=p;refine i9 I1 ea c n l λu s2 I2 r=>AR (b Zb s2 Z H1 _ I2 q) λg j⟨y,H2,I3,m,w⟩=>AR (Uu Zb j Z H2 v y u g _ I3 r m w) λE s4 Y9=>?_;obtain⟨z,H3,I4,k,ID,Mm,i,B,t⟩:=Y9;exact aT I4 i c n B k λF I5=>⟨Z,_,I5,t⟩⟩
end
end L2
namespace Fz
open L2 Lw
section
variable[Xw]
variable{ss:List Slot}{ta tv:TE}{nx:List Slot->Prop}{R:Ar}{i:Nat}{t:OV}{K:ZEe}{f:Str}
theorem VQ{g:Int->Int->Int}(h:Wl ss i t ta λp u=>∃lt C dx ns a us n x,ss[i]?=some (.ow lt t)/\u=.nd (.obj C dx ns) a us/\Bt K C/\BM K C f/\ns.length<1000/\D4 ns f=some n/\us[n]?=some (.fz (.int x))/\Wp ss tv λq=>∃y,q=.int y/\nx (ss.set i (.ow lt (t.put p (.nd (.obj C dx ns) a (us.set n (.fz (.int (g x y))))))))):Ws ss (X2 K ta tv (iD g) f) nx R:=⟨λE D Z F H S hn hr=>
 h.go E Z F H _ S λv p u F1 H1 j o Ay z=>by
  obtain⟨lt,C,dx,ns,a,us,n,x,hi,eu,V,Tt,hz,hx,U,h2⟩:=z;subst eu;have σ:v=.ref a:=o.inv.elim λ_ h=>h.1;subst σ;have Ej:=o;obtain⟨vs,_,W,sd,ft,A⟩:=o.inv;obtain⟨w,hw,k⟩:=A.get U;have Y:w=.int x:=(k.inv:Rep _ _ _).inv;subst Y;refine⟨a,C,dx,ns.zip vs,.int x,rfl,W,V,Tt,SR hx hw,h2.go E Z F1 H1 _ j.st λv2 q F2 H2 e T O=>?_⟩;obtain⟨y,X,kk⟩:=O;subst X;cases T.inv;refine⟨x,y,rfl,rfl,?_⟩;have Q:=Ej.mv j.st ⟨lt,hi⟩ Ay e;obtain⟨Jr,_,s,P,ON,JX⟩:=Q.inv;have Hw:ns.length=Jr.length:=ON;have vl:=JX.length;obtain⟨ep,B⟩:=Ux (f:=f) (v:=.int (g x y)) Hw;refine⟨dx,ns.zip Jr,s,by rw[N6];omega,?_⟩;have Ky:n<us.length:=by have:=YQ hx;omega
  obtain⟨v0,e0,r0,CT,q0⟩:=e.st.ok i _ hi;have N:(OV.nd (.obj C dx ns) a us).addrs.Nodup:=by
   obtain⟨l,A,d,_⟩:=OV.split Ay;rw[d,CG,CG]at CT;exact CT.1.2.1
  rw[Ji]at N;have L:=(List.nodup_cons.mp (List.nodup_cons.mp N).2).2;have I:Kw ns f=ns:=by unfold Kw;rw[hx]
  have G:JF ns Jr f (.int (g x y))=Jr.set n (.int (g x y)):=by unfold JF;rw[hx]
  rw[ep,I,G];rw[I,G]at B;obtain⟨l,r,d,J⟩:=IE (BA Ky);have M:=Sg.fi (m:=[]) (u:=.fz (.int (g x y))) (us':=us.set n (.fz (.int (g x y)))) j.st e.st hi Ay P (λb c=>by rw[OV.GW]at c;cases c) (by simp) (JX.set n (.fz (.int _))) B (by
   rw[J];rw[d]at L;exact RI L (by rw[OV.GW];exact LN) λb c=>by rw[OV.GW]at c;cases c) λb c=>by
    rw[J,OV.GW]at c;rcases List.mem_append.mp c with z|z
    .rcases List.mem_append.mp z with z|z
     .exact .inl (by rw[d];simp[z])
     .cases z
    .exact .inl (by rw[d];simp[z])
  exact hn _ Z F2 _ kk M (j.ff.trans e.ff)⟩
end
end Fz
namespace L2
section
variable{X:Cx}{o e:Expr}{td ty:TE}{apos Bz:Pos}
theorem ZY(ho:QE X o td)(b:QE X e ty)(m:M1 X o "pop" apos e Bz):QE X (.Call (.Attribute o "pop" apos) [e] [] Bz) (WW td ty):=⟨by
 have ho:=ho.h;have b:=b.h;intro Zb s Z H Q I h;refine wpAny_Call_method m.base m.lC m.line ZDs ZDv PySem.F.type_dict_pop (AR (ho Zb s Z H _ I h) λu s1⟨x,H1,I1,f,a,ex,d,i⟩=>?_);subst ex;obtain rfl:u=Value.ref a:=f;obtain⟨t1,t2,_⟩:=gh I1 d;refine⟨t1,t2,?_⟩;rw[m.trees];refine jg rfl (Calls.evalArgs_plain (jh (AR (b Zb s1 Z H1 _ I1 i) λq s2⟨y,H2,I2,c,A3,k,v,ea,j,l,g⟩=>ji ?_)));subst j;exact xS I2 ea c l (.inl rfl) λn p I3 Fo=>⟨v,_,I3,Fo,g⟩⟩
end
end L2
namespace Fz
open L2 Lw
theorem d5:∀{ks:List Key}{vs:List V}{d:Key}{n:Nat},ks.Nodup->CI ks d=some n->ks.length=vs.length->JM (ks.zip vs) d=(ks.eraseIdx n).zip (vs.eraseIdx n)
 | [],_,_,_,_,h,_=>by cases h
 |_::_,[],_,_,_,_,hl=>by simp at hl
 |k'::ks,w::vs,d,n,nd,h,hl=>by
  obtain⟨n1,n2⟩:=List.nodup_cons.mp nd;rw[CI]at h;unfold JM;rw[GB,Z2]
  by_cases c:k'=d
  .rw[md c]at h;cases h;rw[mY (by simp[c])];show List.filter _ _=ks.zip vs;refine List.filter_eq_self.mpr λf YI=>?_;have:f.1∈ks:=(Z7 (a:=f.1) (b:=f.2) YI).1;exact lx λz=>n1 (by rw[c,<- z];exact this)
  .rw[mY c]at h;cases e:CI ks d with
   |none=>rw[e]at h;cases h
   |some m=>
    rw[e]at h;cases h;rw[md (lx c)];have g:=d5 (vs:=vs) n2 e (by simpa using hl)
    unfold JM at g;rw[g];rfl
theorem UG{α:Type}:∀(l:List α)(n:Nat),n<l.length->(l.eraseIdx n).length=l.length - 1
 | [],_,h=>by simp at h
 |_::_,0,_=>rfl
 |x::t,n+1,h=>by
  have h':n<t.length:=by simpa using h
  rw[PM,Cc,UG t n h',Cc];omega
theorem BD.yu{F H:Hp}:∀{vs:List V}{us:List OV}(n:Nat),BD F H vs us->BD F H (vs.eraseIdx n) (us.eraseIdx n):=by
 intro vs us n r
 induction us generalizing vs n with
 |nil=>cases r.D8;exact .nil
 |cons p ps c=>
  obtain⟨v,ws,rfl,a,b⟩:=r.inv;cases n with
  |zero=>exact b
  |succ n=>exact .cons a (c n b)
theorem Xp:∀(us:List OV)(n:Nat),(OV.Al (us.eraseIdx n)).Sublist (OV.Al us)
 | [],_=>Yw _
 |u::us,0=>by rw[List.eraseIdx_cons_zero,OV.CC];exact ZDk _ _
 |u::us,n+1=>by rw[PM,OV.CC,OV.CC];exact List.Sublist.append (Yw _) (Xp us n)
section
variable[Xw]
variable{ss:List Slot}{td ty:TE}{nx:List Slot->Prop}{R:Ar}{i:Nat}{t:OV}
theorem bW(h:Wl ss i t td λp u=>∃lt a ks us,ss[i]?=some (.ow lt t)/\u=.nd (.Ai ks) a us/\ks.Nodup/\Wp ss ty λq=>∃c n,q=GZ c/\CI ks c=some n/\nx (ss.set i (.ow lt (t.put p (.nd (.Ai (ks.eraseIdx n)) a (us.eraseIdx n)))))):Ws ss (JT (WW td ty)) nx R:=⟨λE D Z F H S hn hr=>
 h.go E Z F H _ S λv p u F1 H1 e j Ay⟨lt,a,ks,us,hi,I,z,h2⟩=>by
  subst I;have G:v=.ref a:=by cases j;rfl
  subst G;have O:=j;cases j with
  |@nd _ _ Iz _ k r B s=>
   refine⟨a,rfl,.inl ⟨_,.inl k⟩,h2.go E Z F1 H1 _ e.st λP q F2 H2 d x⟨c,n,J,hx,kk⟩=>?_⟩;subst J;have w:=O.mv e.st ⟨lt,hi⟩ Ay d;cases w with
   |@nd _ _ vs _ A T C g=>
    have N:ks.length=vs.length:=C;have vl:=g.length;have L:n<ks.length:=(List.getElem?_eq_some_iff.mp (WB hx)).1;have y:=BA (show n<vs.length by omega);refine⟨_,c,_,A,Kg x,XZ hx y,?_⟩;obtain⟨Q,e0,U,CT,V⟩:=d.st.ok i _ hi;have o:(OV.nd (.Ai ks) a us).addrs.Nodup:=by
     obtain⟨l,g,K,_⟩:=OV.split Ay;rw[K,CG,CG]at CT;exact CT.1.2.1
    rw[L7]at o;rw[d5 z hx N];have M:=Sg.UI (m:=[]) (u:=.fz .AE) (ks':=ks.eraseIdx n) (us':=us.eraseIdx n) e.st d.st hi Ay (λb f=>by rw[OV.GW]at f;cases f) (by simp) (g.yu n) (by rw[UG _ _ L,UG _ _ (by omega)];omega) ((List.nodup_cons.mp o).2.sublist (Xp us n)) λb f=>.inl ((Xp us n).subset f);exact hn _ Z F2 _ kk M (e.ff.trans d.ff)⟩
end
end Fz
namespace L2
def EF(P:Program)(w:World)(K:ZEe)(mg:ZEg)(Zu:Heap)(C:Addr)(m:Str)(k:Nat)(ps:List Str)(sp:Sp):Prop:=
 ∃f fd,DN P w K mg Zu G3 k f fd ps sp/\Binds K fd ps []/\Meth K C m f/\Bt K C
def Ni(P:Program)(w:World)(K:ZEe)(mg:ZEg)(Zu:Heap)(C:Addr)(k:Nat)(ps:List Str)(sp:Sp):Prop:=
 ∃f fd,DN P w K mg Zu G3 k f fd ps sp/\Binds K fd ps []/\Mk K C f
section
variable{X:Cx}{o e:Expr}{es:List Expr}{m x:Str}{C:Addr}{k j:Nat}{ps:List Str}{sp:Sp}{ta:TE}{t:TA}{apos pos p:Pos}
theorem HN{pl:Sem Bool}(h:EF X.prog X.w X.K X.mg X.base C m k ps sp)(hr:Bp j X.A)(d:k<=j)(g:QE X o ta)(i:QA X (e::es) t)
  (BY:starEach (e::es) X.env=(false,eval e X.env)::starEach es X.env:=by rfl) (CF:(backTo pos (starEach es X.env)).any (·.1)=false:=by rfl)
  (ht:eval (.Call (.Attribute o m apos) (e::es) [] pos) X.env=(do
   let ov <- eval o X.env
   standAt apos.atName
   let (f,first) <- holding [ov] (getMethod ov m pl)
   callWith pos f first (backTo pos (starEach (e::es) X.env)) (backToKw pos (keywordEach [] X.env))):=by rfl) :
  QE X (.Call (.Attribute o m apos) (e::es) [] pos) (Lf C m sp [] E0 ta t):=by
 obtain⟨f,fd,F,b,a,c⟩:=h;exact⟨va g.h c a (F.mono d) hr b .nil Vx i.h BY CF ht⟩
theorem gk(h:Ni X.prog X.w X.K X.mg X.base C k ps sp)(hr:Bp (j+1) X.A)(c:k<=j)(a:X.mg x=some (.ref C))(g:QA X (e::es) t)(d:Gl X x:=by rfl)(CJ:(x == ("__debug__":Str))=false:=by decide)
  (he:starEach (e::es) X.env=(false,eval e X.env)::starEach es X.env:=by rfl) (CF:(backTo pos (starEach es X.env)).any (·.1)=false:=by rfl):QE X (.Call (.Name x p) (e::es) [] pos) (XE C sp [] E0 t):=by
 obtain⟨f,fd,F,b,M⟩:=h;exact⟨uF M (F.mono c) hr d a b .nil Vx g.h CJ he CF⟩
variable{prog:Program}{w:World}{A:Around}{E:Value->Shared->Prop}{s:Shared}
end
end L2
set_option maxHeartbeats 200000
set_option maxHeartbeats 4000000
namespace L2
def Uy(K:ZEe)(S:Addr)(tb:(St->XK)->TS)(th:TS):TS:=λD Z H=>∃E1:St->XK,tb E1 D Z H/\
 ∀ σ1 C dx ea H1,E1 σ1 (.ref C) dx H1->H1 ea=none->PySem.W.exmOne K (.ref C) (.ref S)=some true/\th D σ1 H1
section
variable{X:Cx}{x:Str}{S:Addr}{body Dn:List Stmt}{b0:Stmt}{np J5 pos:Pos}{M7:(St->XK)->TS}{th:TS}
theorem lR(BY:X.stack=X.env::X.outer)(P:X.ex=[])(O:Gl X x)(N:X.mg x=some (.ref S))
  (j:∀(pn:ZEf)(xe:Value->Shared->Prop)(E1:St->XK),Goes (X.Gm pn xe) E1->Gv (X.Gm pn xe) body (M7 E1))
  (hh:∀e,Gv (X.Dn e) (b0::Dn) th) (CJ:(x == ("__debug__":Str))=false:=by decide) :
  QS X (.Try body [.ExceptHandler (some (.Name x np)) none (b0::Dn) J5] [] [] pos) (Uy X.K S M7 th):=⟨by
 have j:=λpn xe E1 g=>(j pn xe E1 g).h;have hh:=λe=>(hh e).h;intro Zb s Z H D I h;obtain⟨E1,h1,h2⟩:=h;have A:X.env.frame=some X.env.locals:=by
  rcases I.ok.Iv with e|⟨_,A⟩
  .rw[e]at BY;exact absurd (sA List.length BY) (by simp)
  .exact A
 refine wpAny_Try_except ?_;refine qr (j (X.pn++Zb) _ E1 ?_ [] s Z H D I.Gm h1) (λf s1 q=>?_) (λe s1 q=>q)
 .intro eO σ1 H1 s1 ea C dx tb I1 B ⟨u1,u2⟩ k i U;have c:Inv X Zb σ1 H1 s1:=I1.Kz;have u2:X.s₀.heap.get? ea=none:=u2;have k:∀T,tb=some T->H1 T=none/\X.s₀.heap.get? T=none:=k;have i:∀p∈X.pn++Zb,p.1≠ea/\tb≠some p.1:=λp q=>i p (Hz _ q);refine sj (outer:=X.outer) (L:=X.env.locals) (by rw[<- BY];exact c.ok.frames) (Zu:=X.base) (by rw[<- BY];exact c.stack) A B λh' T kp a n=>?_;have m:=c.jJ BY B u1 u2 k i kp;obtain⟨M,G⟩:=h2 σ1 C dx ea H1 U u1;refine wpAny_handleBy_cons ?_ (λz=>by cases z);refine codeAny_handlers_test ?_;refine QC (X:=X.Dn (.ref ea)) m.Dn O N ?_ CJ;obtain⟨oe,vs,Q,R,hd,KA,hz,h3⟩:=n.obj;have σ:PySem.W.Looks (model X.prog X.w) h' (typeOf (.ref ea)) (.ref C):=by
   rw[<- R];exact(PySem.W.Looks.ld Q).andThen .now
  refine(PySem.W.exm_one (K:=X.K) m.CV σ M).here ?_;refine codeAny_handlers_suite ?_;have V:∀b∈D3 (X.env::X.outer),∃o,h'.get? b=some o/\∀vs,o.data≠.fields vs:=λb j=>by
   have st:=m.stack;rw[BY]at st;obtain⟨_,o,ho,hn⟩:=st.mem j;exact⟨o,ho,hn⟩
  refine fG (s:={ s1 with heap:=h' }) (l:=X.env::X.outer) n V λh4 t x4=>?_
  have J:∀T',some T=some T'->H1 T'=none/\X.s₀.heap.get? T'=none:=λT' Y=>by
   cases Y;exact a.elim (λa=>⟨c.AN.fresh a,Heap.get?_none_of_le (Cs c.sz a)⟩) (k T)
  have F:∀p∈X.pn++Zb,p.1≠ea/\some T≠some p.1:=λp q=>⟨(i p q).1,λz=>a.elim (λa=>by
   have E:=BE (c.pin p q).1;rw[<- BL z]at E;exact absurd E (Nat.not_lt.mpr a)) λy=>(i p q).2 (y.trans z)⟩
  have I4:=m.jJ BY n u1 u2 J F t;refine qr (hh (.ref ea) Zb _ _ _ D I4.Dn G) (λf s7 q=>?_) (λ_ _ z=>z.elim);cases f with
  |next=>
   obtain⟨σ7,H7,I7,d⟩:=q;exact⟨_,_,I7.Ra I.ok,d⟩
  |brk=>
   obtain⟨σ7,H7,I7,d⟩:=q;exact⟨_,_,I7.Ra I.ok,d⟩
  |cont=>
   obtain⟨σ7,H7,I7,d⟩:=q;exact⟨_,_,I7.Ra I.ok,d⟩
  |ret u=>
   obtain⟨v,σ7,H7,I7,r,d⟩:=q;exact⟨v,_,_,I7.Ra I.ok,r,d⟩
 .cases f with
  |next=>
   obtain⟨σ7,H7,I7,d⟩:=q;exact vE ⟨_,_,I7.Kz,d⟩
  |brk=>
   obtain⟨σ7,H7,I7,d⟩:=q;exact⟨_,_,I7.Kz,d⟩
  |cont=>
   obtain⟨σ7,H7,I7,d⟩:=q;exact⟨_,_,I7.Kz,d⟩
  |ret u=>
   obtain⟨v,σ7,H7,I7,r,d⟩:=q;exact⟨v,_,_,I7.Kz,r,d⟩⟩
end
end L2
namespace Fz
open L2 Lw
section
variable[Xw]
variable{ss:List Slot}{nx:List Slot->Prop}{R:Ar}{K:ZEe}{S:Addr}{tb:(L2.St->XK)->TS}{th:TS}{ta te ti:TE}{xs:List PV}{F:Hp}
theorem wu(J:List Slot->Prop)(Dx:Ex->Prop)(h:∀E:Ent0,@Ws (MD E J Dx) ss (tb (MD E J Dx).e) nx R)
  (hh:∀OS x,J OS->Dx x->PySem.W.exmOne K (.ref x.C) (.ref S)=some true/\Ws OS th nx R):Ws ss (Uy K S tb th) nx R:=⟨λE D Z F H S0 hn hr=>by
 refine⟨(MD (E.toEnt0.at F) J Dx).e,@Ws.go (MD (E.toEnt0.at F) J Dx) _ _ _ _ (h (E.toEnt0.at F)) (@Ent.mk (MD (E.toEnt0.at F) J Dx) (E.toEnt0.at F) λss Z F H x C dx a S d Ay=>⟨ss,F,x,a,S,d,Ay⟩) D Z F H S0.atF (λAI σ' F' H' n S' ff=>hn AI σ' F' H' n (S0.un S') ff) (λv F' H' f ok=>hr v F' H' (S0.toFin.un f) (Ar.un ok)),λσ1 C dx ea H1 g c=>?_⟩;obtain⟨OS,F1,x,a,S1,i,j,Ay⟩:=g;obtain⟨O6,hw⟩:=hh OS x a i;cases j;have b:=S0.un S1;exact⟨O6,hw.go E D _ _ _ b (λCd σ2 F3 H3 n2 S2 ff=>hn _ _ F3 H3 n2 S2 (S1.f0.trans ff)) λv F' H' f ok=>hr v F' H' f ok⟩⟩
end
end Fz
namespace L2
noncomputable def IU(s:Stmt)(n:Nat):Stmt:=match s with
 | .ClassDef _ _ _ b ..=>b.getD n (.Pass ⟨0,0,0,0⟩)
 |s=>s
end L2
namespace Fz
open L2 Lw
@[reducible] def xwM (X:XK) (t:OV) (D:Ex->Prop):Xw:=⟨λ_=>X,λss=>ss[0]?=some (.ow true t),D⟩
variable{R:Ar}{AI ss:List Slot}
section
variable{pre:SQ}{H:Hp}
def RJ(R:Ar)(AI:List Slot):Prop:=∃(k:PV->OV->Prop)(nk:NK)(a:Addr)(us:List OV),R=.mt k/\AI[0]?=some (.ow true (.nd nk a us))/\k .AE (.nd nk a us)
theorem RJ.ok{E:Ent0}{Z:L2.St}{F:Hp}(h:RJ R AI)(S:Sg E AI Z F H):R.ok E F H .AE:=by
 obtain⟨k,nk,a,us,rfl,i,g⟩:=h;obtain⟨f,e0,c,CT,d⟩:=S.ok 0 _ i;have j:f=.ref a:=by cases c;rfl
 subst j;exact⟨.AE,.nd nk a us,.AE,c,CT,λb e=>⟨(d b e).1,(d b e).2.imp id λz=>z.2⟩,g⟩
end
end Fz
namespace L2
section
variable{prog:Program}{w:World}{A:Around}{E:Value->Shared->Prop}{s:Shared}
theorem cM:typeLookup (.type "dict") "__len__"=pure (some (.builtin "dict.__len__")):=by rw[z7,vO];kernel_rfl
theorem y2{S:Addr}{A3:List (Key×Value)}{n:Nat}{Q:List Value->Shared->Prop}(hh:A.handled=none)(FF:(S == sysModules)=false)(f:s.heap.DictOf (Bq prog w) S A3)(r:A3.length=n)(hn:n<=sizeLine)
  (h:∀(s':Shared)(vs:List Value),(∀b o,s.heap.get? b=some o->s'.heap.get? b=some o)->s.heap.objs.size<=s'.heap.objs.size->s'.gens=s.gens->s'.os=s.os->vs.length=n->(∀(i:Nat)v,vs[i]?=some v->∃k x,A3[i]?=some (k,x)/\(Bq prog w).is k v=true)->Q vs s') :
  wpAny (model prog w) A (collect (.ref S)) Q E s:=by
 obtain⟨d,f⟩:=f.dictAt;have H:S<s.heap.objs.size:=f.lt_size;have u:s.heap.objs.size≠S:=N8 H;unfold collect;refine lr (wpAny_runValue (wV F.entry_proto_collect ?_));rw[Around.under_plainId F.plain_proto_collect _];show wpAny _ A.in1 (newList [] >>= λl=>again (.builtin "list.__iadd__" ⟨[l,.ref S],[]⟩)) _ _ s;refine lr (uB ?_);refine oo ⟨xP F.plain_list_iadd _,wV F.entry_list_iadd ?_⟩;rw[Around.under_plainId F.plain_list_iadd _];generalize t:({ cls:=.type "list", data:=.seq ([]:List Value).toArray }:Obj)=so;have j:(s.heap.push so).DictAt (Bq prog w) S A3 d:=f.push _;have O:(s.heap.push so).get? s.heap.objs.size=some so:=CA _ (by rw[<- t];rfl);have sz:(s.heap.push so).objs.size=s.heap.objs.size+1:=Hx ..;have G:Shared.TypeIs { s with heap:=s.heap.push so } (.ref S) "dict" := j.dictOf.typeIs
 have h1:Builtin.List.listSameRef (.ref s.heap.objs.size) (.ref S)=false:=by simp[Builtin.List.listSameRef,u]
 show wpAny _ A.in1 (Builtin.List.listExtendWith (.ref s.heap.objs.size) (.ref S) (.ref s.heap.objs.size)) _ _ { s with heap:=s.heap.push so }
 unfold Builtin.List.listExtendWith;refine lr (uM G ?_);rw[mY (by rw[h1];decide)];refine lr (wy (s:={ s with heap:=s.heap.push so }) FF j ?_)
 dsimp only;generalize g:({ cls:=.type "dict_keyiterator", data:=.fields #[.ref S,.int 0 0,.int A3.length 0,.int d 0] }:Obj)=io;have kp:∀b o,(s.heap.push so).get? b=some o->((s.heap.push so).push io).get? b=some o:=λb o e=>BZ _ e;have P:S≠(s.heap.push so).objs.size:=by rw[sz];exact C0 (N7 H)
 have W:∀A2:Around,A2.handled=none->Walks prog w A2 (s.heap.push so).objs.size [(s.heap.push so).objs.size,S] [(s.heap.push so).objs.size] A3.length _ _:=λA2 h2=>ZI (knd:=Bq prog w) h2 (s.heap.push so).objs.size S P A3 d;have CO:((s.heap.push so).push io).IsKeyIter (s.heap.push so).objs.size S 0 A3.length d/\((s.heap.push so).push io).DictAt (Bq prog w) S A3 d:=⟨⟨io,CA _ (by rw[<- g];rfl),by rw[<- g],by rw[<- g];rfl⟩,j.push _⟩;have C:s.heap.objs.size∉[(s.heap.push so).objs.size,S]:=λc=>by
  simp only[Gq,B3,yO]at c;rcases c with z|z
  .rw[sz]at z;omega
  .exact u z
 generalize R:(s.heap.push so).push io=h2 at kp CO ⊢;have m:Shared.TypeIs { s with heap:=h2 } (.ref S) "dict" := by obtain⟨o,ho,N⟩:=G;exact⟨o,kp _ _ ho,N⟩
 refine lr (uI ?_);unfold Builtin.List.listLengthHint;refine lr (v9 m cM ?_);generalize B:("dict.__len__":String)=NS
 wp_delta
 rw[show splitId NS=some ("dict","__len__")from by subst B;decide +kernel];subst B;refine lr (yw (b:=true) m (by rw[zc];kernel_rfl) ?_);rw[mY (by decide)];refine wH (λ_=>?_) (λDq=>absurd (by decide +kernel) Dq);refine lr (uM m ?_);refine oo ?_;refine wH (λ_=>?_) (λDq=>absurd (by decide +kernel) Dq);refine lr (wpAny_rule ?_);refine lr ?_;show wpAny _ _ (updateSeq s.heap.objs.size (·.push .none) >>= λ_=>updateSeq s.heap.objs.size (·.pop)) _ _ _
 have K:(#[]:Array Value).size<=sizeLine:=Bm _;have p:((#[]:Array Value).push Value.none).size<=sizeLine:=by show 1<=sizeLine;decide
 have J:((#[]:Array Value).push Value.none).size<=sizeLine+1:=ZDm p;have I:(((#[]:Array Value).push Value.none).pop).size<=sizeLine+1:=Bm _;have y:=kp _ _ O;subst t;refine lr (uT (s:={ s with heap:=h2 }) y rfl ?_ K J)
 have q:=K2 (Obj.mapSeq (·.push Value.none)) y rfl
 refine uT q rfl ?_ p I;have L:=K2 (Obj.mapSeq (·.pop)) q rfl
 have D:∀b o,b≠s.heap.objs.size->h2.get? b=some o->((h2.update s.heap.objs.size (Obj.mapSeq (·.push Value.none))).update s.heap.objs.size (Obj.mapSeq (·.pop))).get? b=some o:=
  λb o a e=>(Gn _ _ (BP a)).trans ((Gn _ _ (BP a)).trans e)
 refine oo ⟨xP ZDt _,vU (W A.in1 hh).toS (r▸hn) _ C _ A3.length 0 _ #[] _ rfl (Bm _) ?_ L (ItemsOf.nil _) λs' Dp T c EZ Au=>?_⟩
 .exact(W A.in1 hh).frame 0 h2 _ CO λb a o e=>D b o (λz=>C (z▸a)) e
 .show wpAny _ A (load s.heap.objs.size >>= _) _ _ s';refine lr (wpAny_load EZ ?_);refine oo ?_;refine h s' Dp.toList (λb o e=>?_) (T4 (BE EZ)) c.gens c.os (by rw[N2,Au.1];exact r) λi v M=>Au.2 i v (by rw[<- je];exact M);have a:b<s.heap.objs.size:=BE e;refine c.heap b o ?_ (D b o (C0 a) (kp b o (BZ _ e)));simp only[Gq,B3,yO,not_or];refine⟨C0 a,?_⟩;rw[sz];exact C0 (N7 a)
end
theorem ae{prog:Program}{w:World}:∀{ns:List Str}{A3:List (Key×Value)}{vs:List Value},A3.map (·.1)=ns.map Sum.inr->vs.length=A3.length->(∀(i:Nat)v,vs[i]?=some v->∃k x,A3[i]?=some (k,x)/\(Bq prog w).is k v=true)->StrsAre vs ns
 | [],[],[],_,_,_=>.nil
 | [],[],_::_,_,h,_=>by simp at h
 | [],_::_,_,h,_,_=>by simp at h
 |_::_,[],_,h,_,_=>by simp at h
 |_::_,_::_,[],_,h,_=>by simp at h
 |n::ns,kv::A3,v::vs,e,hl,h=>by
  rw[Bv,Bv]at e;injection e with e1 e2
  obtain⟨k,x,c,b⟩:=h 0 v rfl;have d:kv=(k,x):=by simpa using c
  subst d;have f:k=Sum.inr n:=e1;subst f;rcases GS (show IS (Sum.inr n) v=true from b)with⟨i,t,z,_⟩|⟨y,t,z,rfl⟩
  .cases z
  .cases z;exact .cons n t (ae e2 (by simpa using hl) λi v a=>h (i+1) v a)
theorem StrsAre.ZCd{vs:List Value}{ns:List Str}(h:StrsAre vs ns):vs.length=ns.length:=by induction h with|nil=>rfl|cons y t h a=>simp[a]
section
variable{X:Cx}
def Zw:List V->Hp->VK->Prop:=λxs H Q=>∃(p:Addr)(A3:List (Key×V))(ns:List Str),xs=[.ref p]/\Rd H p (.dK A3)/\A3.map (·.1)=ns.map Sum.inr/\ns.length<64/\∀(l:Addr)(AI:List Str),H l=none->AI.Perm ns->sortedS AI=true->Q (.ref l) (upd H l (.lst (AI.map V.str)))
theorem V4(v:X.calm=true):D7 X (.builtin "sorted") Zw:=by
 intro Zb s Z H xs us Q I r h;obtain⟨p,A3,ns,rfl,x,n,GJ,q⟩:=h;obtain⟨u,rfl,j⟩:=vals1 r;cases j;obtain⟨hz,FF,Iz,rel,w⟩:=Ip I.AN x;have hh:X.A.handled=none:=I.ok.hd v;have z:Iz.map (·.1)=ns.map Sum.inr:=rel.keys.symm.trans n
 refine ir (Pc:=λvs s1=>(∀b o,s.heap.get? b=some o->s1.heap.get? b=some o)/\s.heap.objs.size<=s1.heap.objs.size/\s1.gens=s.gens/\s1.os=s.os/\StrsAre vs ns) (λA1 E1 Q1 y k=>?_) ?_
 .exact y2 (y.trans hh) FF w rfl (by rw[<- rel.length];exact hz) λs' vs g f d c a B=>k vs s' ⟨g,f,d,c,ae z a B⟩
 .rintro vs s1⟨g,f,d,c,a⟩;refine⟨by rw[StrsAre.ZCd a];exact GJ,ns,a,λout AI e h' kp t EZ i hs=>?_⟩;exact gJ I d c g f kp t EZ (by rw[i.length_eq];exact GJ) λl m=>q l AI m i hs
end
end L2
namespace Fz
open L2 Lw
theorem RN:∀{ks:List Key}{vs:List V},ks.length=vs.length->(ks.zip vs).map (·.1)=ks
 | [],[],_=>rfl
 | [],_::_,h=>by simp at h
 |_::_,[],h=>by simp at h
 |k::ks,v::vs,h=>by
  rw[GB,Bv,RN (by simpa using h)]
section
variable[Xw]
variable{E:Ent0}{ss:List Slot}{Z:L2.St}{F H F' H':Hp}{K:ZEe}{i:Nat}{t:OV}{ta tb te:TE}{nx:List Slot->Prop}{R:Ar}
theorem Yg{k:List PV->Prop}(h:Wp ss te λp=>∃(xs:List PV)(ns:List Str),p=.Ai (ns.map Sum.inr) xs/\ns.length<64/\∀Bx:List Str,Bx.Perm ns->sortedS Bx=true->k (Bx.map PV.str)):Wn ss (DD Zw (AU te B5)) k:=⟨λE Z F H Q S q=>
 h.go E Z F H _ S λv p F1 H1 b c AG=>by
  obtain⟨xs,ns,e,hz,kk⟩:=AG;subst e;cases c with
  |@Ai a _ vs _ i g j=>
   refine⟨a,_,ns,rfl,.inl (b.st.fh _ _ i),RN g,hz,λl Bx DG f hs=>?_⟩;have d:=b.st.make DG (.lst (Bx.map V.str));exact q l _ _ F1 _ (b.trans d) (b.st.Bj DG) (b.none DG) AH (MF Bx) (kk Bx f hs)⟩
end
end Fz
namespace L2
section
variable{prog:Program}{w:World}{A:Around}{s:Shared}{R:Result->Shared->Prop}
theorem ZAt{L S:Addr}{c0:Nat}{res:Value}{A3:List (Key×Value)}{n:Nat}(hh:A.handled=none)(FF:(S == sysModules)=false)(m:s.heap.get? L=some { cls:=.type "list", data:=.seq #[] c0 })(uj:s.heap.DictOf (Bq prog w) S A3)(en:A3.length=n)(hn:n<=sizeLine)
  (h:∀(s':Shared)(vs:List Value)(d:Nat),(∀b o,b≠L->s.heap.get? b=some o->s'.heap.get? b=some o)->L<s'.heap.objs.size->s'.gens=s.gens->s'.os=s.os->s'.heap.get? L=some { cls:=.type "list", data:=.seq vs.toArray d }->vs.length=n->(∀(i:Nat)v,vs[i]?=some v->∃k x,A3[i]?=some (k,x)/\(Bq prog w).is k v=true)->R (.ok (.ret res)) s') :
  wpAny (model prog w) A.in1 (Builtin.List.listExtendWith (.ref L) (.ref S) res)
   (λp s'=>match p with | .done f=>R (.ok f) s' | .again d=>d.quiet=true/\codeAny (model prog w) A d R s') (λe s'=>R (.error e) s') s:=by
 obtain⟨j,g⟩:=uj.dictAt;have P:S<s.heap.objs.size:=g.lt_size;have B:L≠S:=λz=>by
  subst z;obtain⟨o,ho,l⟩:=g.dictOf.typeIs;rw[m]at ho;cases ho;exact absurd l (by show ¬ Value.type "list"=Value.type "dict"; decide)
 have G:Shared.TypeIs s (.ref S) "dict" := g.dictOf.typeIs;have h1:Builtin.List.listSameRef (.ref L) (.ref S)=false:=by simp[Builtin.List.listSameRef,B]
 unfold Builtin.List.listExtendWith;refine lr (uM G ?_);rw[mY (by rw[h1];decide)];refine lr (wy (s:=s) FF g ?_);dsimp only;generalize r:({ cls:=.type "dict_keyiterator", data:=.fields #[.ref S,.int 0 0,.int A3.length 0,.int j 0] }:Obj)=io;have kp:∀b o,s.heap.get? b=some o->(s.heap.push io).get? b=some o:=λb o e=>BZ _ e;have O:S≠s.heap.objs.size:=C0 P;have W:∀A2:Around,A2.handled=none->Walks prog w A2 s.heap.objs.size [s.heap.objs.size,S] [s.heap.objs.size] A3.length _ _:=λA2 h2=>ZI (knd:=Bq prog w) h2 s.heap.objs.size S O A3 j;have CO:(s.heap.push io).IsKeyIter s.heap.objs.size S 0 A3.length j/\(s.heap.push io).DictAt (Bq prog w) S A3 j:=⟨⟨io,CA _ (by rw[<- r];rfl),by rw[<- r],by rw[<- r];rfl⟩,g.push _⟩;have E:L∉[s.heap.objs.size,S]:=λc=>by
  simp only[Gq,B3,yO]at c;rcases c with z|z
  .have q:L<s.heap.objs.size:=BE m;rw[z]at q;exact LQ _ q
  .exact B z
 generalize Q:s.heap.push io=h2 at kp CO ⊢;have t:Shared.TypeIs { s with heap:=h2 } (.ref S) "dict" := by obtain⟨o,ho,l⟩:=G;exact⟨o,kp _ _ ho,l⟩
 refine lr (uI ?_);unfold Builtin.List.listLengthHint;refine lr (v9 t cM ?_);generalize D:("dict.__len__":String)=NS
 wp_delta
 rw[show splitId NS=some ("dict","__len__")from by subst D;decide +kernel];subst D;refine lr (yw (b:=true) t (by rw[zc];kernel_rfl) ?_);rw[mY (by decide)];refine wH (λ_=>?_) (λDq=>absurd (by decide +kernel) Dq);refine lr (uM t ?_);refine oo ?_;refine wH (λ_=>?_) (λDq=>absurd (by decide +kernel) Dq);refine lr (wpAny_rule ?_);refine lr ?_;show wpAny _ _ (updateSeq L (·.push .none) >>= λ_=>updateSeq L (·.pop)) _ _ _
 have J:(#[]:Array Value).size<=sizeLine:=Bm _;have u:((#[]:Array Value).push Value.none).size<=sizeLine:=by show 1<=sizeLine;decide
 have I:((#[]:Array Value).push Value.none).size<=sizeLine+1:=ZDm u;have H:(((#[]:Array Value).push Value.none).pop).size<=sizeLine+1:=Bm _;have C:=kp _ _ m;refine lr (uT (s:={ s with heap:=h2 }) C rfl ?_ J I)
 have y:=K2 (Obj.mapSeq (·.push Value.none)) C rfl
 refine uT y rfl ?_ u H;have K:=K2 (Obj.mapSeq (·.pop)) y rfl
 have F:∀b o,b≠L->h2.get? b=some o->((h2.update L (Obj.mapSeq (·.push Value.none))).update L (Obj.mapSeq (·.pop))).get? b=some o:=
  λb o a e=>(Gn _ _ (BP a)).trans ((Gn _ _ (BP a)).trans e)
 refine oo ⟨xP ZDt _,vU (W A.in1 hh).toS (en▸hn) _ E _ A3.length 0 _ #[] _ rfl (Bm _) ?_ K (ItemsOf.nil _) λs' Dp d c EZ Au=>?_⟩
 .exact(W A.in1 hh).frame 0 h2 _ CO λb a o e=>F b o (λz=>E (z▸a)) e
 .have hsz:L<s'.heap.objs.size:=BE EZ;refine h s' Dp.toList d (λb o a e=>?_) hsz c.gens c.os EZ (by rw[N2,Au.1];exact en) λi v M=>Au.2 i v (by rw[<- je];exact M);have N:b<s.heap.objs.size:=BE e;refine c.heap b o ?_ (F b o a (kp b o e));simp only[Gq,B3,yO,not_or];exact⟨a,C0 N⟩
end
theorem gN{prog:Program}{w:World}:∀{ks:List Key}{A3:List (Key×Value)}{vs:List Value},A3.map (·.1)=ks->vs.length=A3.length->(∀(i:Nat)v,vs[i]?=some v->∃k x,A3[i]?=some (k,x)/\(Bq prog w).is k v=true)->Vals (ks.map kV) vs
 | [],[],[],_,_,_=>.nil
 | [],[],_::_,_,h,_=>by simp at h
 | [],_::_,_,h,_,_=>by simp at h
 |_::_,[],_,h,_,_=>by simp at h
 |_::_,_::_,[],_,h,_=>by simp at h
 |n::ns,kv::A3,v::vs,e,hl,h=>by
  rw[Bv]at e;injection e with e1 e2
  obtain⟨k,x,c,b⟩:=h 0 v rfl;have d:kv=(k,x):=by simpa using c
  subst d;have f:k=n:=e1;subst f;refine .cons ?_ (gN e2 (by simpa using hl) λi v a=>h (i+1) v a)
  rcases GS (show IS k v=true from b)with⟨i,t,rfl,rfl⟩|⟨y,t,rfl,rfl⟩
  .exact⟨t,rfl⟩
  .exact⟨t,rfl⟩
section
variable{X:Cx}
def Tp:List V->Hp->VK->Prop:=λxs H Q=>∃(p:Addr)(A3:List (Key×V)),xs=[.ref p]/\Rd H p (.dK A3)/\A3.length<=1000/\∀l:Addr,H l=none->Q (.ref l) (upd H l (.lst ((A3.map (·.1)).map kV)))
theorem Xk(z:X.calm=true):D7 X (.type "list") Tp:=by
 intro Zb s Z H xs us Q I r h;obtain⟨p,A3,rfl,B,y,q⟩:=h;obtain⟨u,rfl,t⟩:=vals1 r;cases t;obtain⟨hz,FF,Iz,rel,g⟩:=Ip I.AN B;have hh:X.A.handled=none:=I.ok.hd z;have L:p<s.heap.objs.size:=by obtain⟨i,h2⟩:=g.dictAt;exact h2.lt_size
 have N:p≠s.heap.objs.size:=C0 L;refine callType_codes (Q₁:=λobj f=>obj=.ref s.heap.objs.size/\f={ s with heap:=s.heap.push { cls:=.type "list", data:=.seq #[] } }) F.called_list (F.typeCall_list_1 _) F.entry_list_init
  (code_list_new _ ⟨rfl,rfl⟩) λobj f x=>?_
 obtain⟨rfl,rfl⟩:=x;have d:(s.heap.push { cls:=.type "list", data:=.seq #[] }).get? s.heap.objs.size=some { cls:=.type "list", data:=.seq #[] }:=CA _ rfl;refine⟨⟨_,d,rfl⟩,F.args_list_init_2 _ _,?_⟩;show wpAny _ X.A.in1.in1 (do let c <- Builtin.List.listItems (.ref s.heap.objs.size);Builtin.List.listUpdate (.ref s.heap.objs.size) (λ_=>#[]);letGo c.toList.reverse;Builtin.List.listExtendWith (.ref s.heap.objs.size) (.ref p) .none) _ _ _
 refine lr ?_;unfold Builtin.List.listItems;refine lr (wpAny_seqItems d rfl (oo ?_));show wpAny _ X.A.in1.in1 (updateSeq s.heap.objs.size (λ_=>#[]) >>= λ_=>letGo (#[]:Array Value).toList.reverse >>= λ_=>Builtin.List.listExtendWith (.ref s.heap.objs.size) (.ref p) .none) _ _ _;refine lr (uT d rfl ?_);have K:=K2 (Obj.mapSeq (λ_=>(#[]:Array Value))) d rfl;have c:∀b o,s.heap.get? b=some o->((s.heap.push { cls:=.type "list", data:=.seq #[] }).update s.heap.objs.size (Obj.mapSeq (λ_=>(#[]:Array Value)))).get? b=some o:=λb o e=>
  (Gn _ _ (N8 (BE e))).trans (BZ _ e)
 have v:((s.heap.push { cls:=.type "list", data:=.seq #[] }).update s.heap.objs.size (Obj.mapSeq (λ_=>(#[]:Array Value)))).DictOf (Bq X.prog X.w) p Iz:=by
  obtain⟨o,es,i,ho,rest⟩:=g;exact⟨o,es,i,c _ _ ho,rest⟩
 refine lr (wpAny_letGo ?_);refine ZAt (A:=X.A.in1) hh FF K v rfl (by rw[<- rel.length];exact hz) λs' vs D m J l k j G E=>?_;have n:Vals ((A3.map (·.1)).map kV) vs:=by
  rw[rel.keys];exact gN rfl G E
 refine⟨rfl,?_⟩;obtain⟨h1,g1,C,t1,M⟩:=s';simp only at m J l k j;subst l;subst k;refine⟨.ref _,_,(I.drew C).laid (a:=s.heap.objs.size) (h':=h1) (t':=t1) (o:=.lst ((A3.map (·.1)).map kV)) (λb o e=>m b o (C0 (BE e)) (c b o e)) (Ap _) ?_,rfl,q _ (I.AN.fresh (Ap _))⟩
 exact⟨by rw[AW,AW];exact hz,vs,D,n,j⟩
variable{i o:Expr}{ty td:TE}{pos:Pos}
theorem dZ(a:X.A.units+1<cLine)(hi:QE X i ty)(ho:QE X o td)(b:behindInMarks .In o=false:=by with_unfolding_all rfl):QT X (.Compare i [.In] [o] pos) (tB (X7 ty td)):=⟨iY (sP a hi.h ho.h) b⟩
theorem SD(a:X.A.units+1<cLine)(hi:QE X i ty)(ho:QE X o td)(b:behindInMarks .NotIn o=false:=by with_unfolding_all rfl):QT X (.Compare i [.NotIn] [o] pos) (tB (Qg ty td)):=⟨iY (nY a hi.h ho.h) b⟩
end
end L2
namespace Fz
open L2 Lw
theorem RL{F:Hp}:∀ks:List Key,Ad F (ks.map kV) (ks.map GZ)
 | []=>.nil
 | .inl i::ks=>.cons (.int i) (RL ks)
 | .inr x::ks=>.cons (.str x) (RL ks)
section
variable[Xw]
variable{E:Ent0}{ss:List Slot}{Z:L2.St}{F H F' H':Hp}{K:ZEe}{i:Nat}{t:OV}{ta tb tc te:TE}{nx:List Slot->Prop}{R:Ar}
theorem ZD7{k:List PV->Prop}(h:Wp ss te λp=>∃(ks:List Key)(xs:List PV),p=.Ai ks xs/\ks.length<=1000/\k (ks.map GZ)):Wn ss (DD Tp (AU te B5)) k:=⟨λE Z F H Q S q=>
 h.go E Z F H _ S λv p F1 H1 b c AG=>by
  obtain⟨ks,xs,e,hz,kk⟩:=AG;subst e;cases c with
  |@Ai a _ vs _ g f i=>
   refine⟨a,_,rfl,.inl (b.st.fh _ _ g),by rw[N6];omega,λl DG=>?_⟩;rw[RN f];have d:=b.st.make DG (.lst (ks.map kV));exact q l _ _ F1 _ (b.trans d) (b.st.Bj DG) (b.none DG) AH (RL ks) kk⟩
theorem jY{k:List PV->Prop}(h:Wl ss i t te λ_ u=>∃(ks:List Key)(a:Addr)(us:List OV),u=.nd (.Ai ks) a us/\ks.length<=1000/\k (ks.map GZ)):Wn ss (DD Tp (AU te B5)) k:=⟨λE Z F H Q S q=>
 h.go E Z F H _ S λv p u F1 H1 b r Ay AG=>by
  obtain⟨ks,a,us,f,hz,kk⟩:=AG;subst f;obtain⟨vs,rfl,d,g,e,j⟩:=r.inv;refine⟨a,_,rfl,.inl d,by rw[N6];omega,λl DG=>?_⟩;rw[RN e];have c:=b.st.make DG (.lst (ks.map kV));exact q l _ _ F1 _ (b.trans c) (b.st.Bj DG) (b.none DG) AH (RL ks) kk⟩
end
end Fz
namespace L2
variable{X:Cx}{a:Addr}{A3:List (Key×V)}{o:Obj}
section
variable{Zb:ZEf}{Z:St}{H:Hp}{s:Shared}
theorem Inv.swap{f u1:HO}(I:Inv X Zb Z H s)(d:H a=some f)(i:∀x,f≠.own x)(h:∀xs,f≠.tup xs)(n1:∀o u,X.H₀ a≠some (.CM o u))(n2:∀xs,X.H₀ a≠some (.tup xs))(j:∀ps,X.H₀ a≠some (.Ik ps))
  (g:C1 X.prog X.w H s.heap a u1):Inv X Zb Z (upd H a u1) s:=by
 have tr:∀b,b≠a->upd H a u1 b=H b:=λb l=>Af l;have own:∀b x,H b=some (.own x)->upd H a u1 b=some (.own x):=λb x e=>by
  rw[tr b (by rintro rfl;rw[d]at e;exact i x (by injection e))];exact e
 have tup:∀b xs,H b=some (.tup xs)->upd H a u1 b=some (.tup xs):=λb xs e=>by
  rw[tr b (by rintro rfl;rw[d]at e;exact h xs (by injection e))];exact e
 refine⟨I.ok,I.os,I.bare,⟨I.base.keep,I.base.slot,λb o q n hx=>?_,I.base.there,λb xs q=>?_,λb o u q=>?_,λb ps q=>?_⟩,I.loc,I.cell,?_,λy c q=>?_,λp k=>?_,λb o q=>?_,I.len⟩
 .have z:=I.base.free b o q n hx;rw[tr b (by rintro rfl;rw[d]at z;cases z)];exact z
 .rw[tr b (by rintro rfl;exact n2 xs q)];exact I.base.HI b xs q
 .rw[tr b (by rintro rfl;exact n1 o u q)];exact I.base.Ge b o u q
 .rw[tr b (by rintro rfl;exact j ps q)];exact I.base.HG b ps q
 .have z:=I.free;rw[tr _ (by rintro e;rw[e,d]at z;cases z)];exact z
 .have z:=I.EU y c q;rw[tr _ (by rintro rfl;rw[d]at z;cases z)];exact z
 .obtain⟨h1,h2,m⟩:=I.pin p k;exact⟨h1,by rw[tr _ (by rintro e;rw[e,d]at h2;cases h2)];exact h2,m⟩
 .by_cases z:b=a
  .subst z;rw[AH]at q;cases q;exact g.Hg (λ_ _ _ e=>e) (λc e=>own c _ e) tup
  .rw[tr b z]at q;exact(I.AN b o q).Hg (λ_ _ _ e=>e) (λc e=>own c _ e) tup
def fU(X:Cx)(a:Addr):Prop:=(∀o u,X.H₀ a≠some (.CM o u))/\(∀xs,X.H₀ a≠some (.tup xs))/\∀ps,X.H₀ a≠some (.Ik ps)
theorem Inv.aV(I:Inv X Zb Z H s)(b:H a=some (.dK A3)):fU X a:=by
 refine⟨λo u e=>?_,λxs e=>?_,λps e=>?_⟩
 .have:=I.base.Ge a o u e;rw[b]at this;cases this
 .have:=I.base.HI a xs e;rw[b]at this;cases this
 .obtain⟨m,z⟩:=I.base.HG a ps e;rw[b]at z;cases z
theorem Inv.held(I:Inv X Zb Z H s)(f:H a=some (.dK A3)):∃o es b,s.heap.get? a=some o/\o.data=.dict es b/\Inv X Zb Z (upd H a (.CM o (.dK A3))) s:=by
 obtain⟨z,y,vs,r,ob,es,b,e,c,d,rest⟩:=I.AN a _ f;have m:=I.aV f;exact⟨ob,es,b,e,d,I.swap f (λ_ z=>by cases z) (λ_ z=>by cases z) m.1 m.2.1 m.2.2 ⟨e,z,y,vs,r,ob,es,b,e,c,d,rest⟩⟩
theorem Inv.v8{u:HO}(I:Inv X Zb Z H s)(m:fU X a)(b:H a=some (.CM o u)):Inv X Zb Z (upd H a u) s:=
 I.swap b (λ_ z=>by cases z) (λ_ z=>by cases z) m.1 m.2.1 m.2.2 (I.AN a _ b).2
end
def aI(a:Addr)(o:Obj)(A3:List (Key×V)):It:=⟨λi H=>H a=some (.CM o (.dK A3))/\i<A3.length,λi H x H'=>H'=H/\∃k v,A3[i]?=some (k,v)/\x=kV k,λi H=>H a=some (.CM o (.dK A3))/\i=A3.length⟩
theorem KV.at{vs:List (Key×Value)}(r:KV A3 vs){i:Nat}{k:Key}{x:Value}(h:vs[i]?=some (k,x)):∃v,A3[i]?=some (k,v):=by
 have e:=r.keys;have h1:(vs.map (·.1))[i]?=some k:=by rw[BG,h];rfl
 rw[<- e,BG]at h1;cases q:A3[i]? with
 |none=>rw[q]at h1;cases h1
 |some p=>
  rw[q]at h1;obtain⟨k',v⟩:=p;have:k'=k:=by simpa using h1
  subst this;exact⟨v,rfl⟩
section
variable{tg:Expr}
theorem qR{P:Program}{w:World}{K:ZEe}{it:Addr}{es:Array DictEntry}{p:Nat}(hd:o.data=.dict es p)(Ax:a≠it):
  Turn P w K tg (aI a o A3) [it] it (λi h=>h.IsKeyIter it a i A3.length p) where
 mem:=by simp
 obj:=λi h st b f=>by
  have e:b=it:=by simpa using f
  subst e;obtain⟨o,e,c,d⟩:=st;exact⟨o,e,λv z=>by rw[d]at z;cases z⟩
 keep:=λi h h' st k=>let ⟨o,e,r⟩:=st;⟨o,k it (by simp) o e,r⟩
 item:=by
  intro X u hw B q i Zb s Z H E I n st j;subst u hw B;obtain⟨f0,G,S,F,D,C⟩:=n it (by simp);obtain⟨e0,hz,FF,vs,rel,ob,JK,M9,l,J,m,rest⟩:=I.AN a _ j.1;rw[e0]at l;cases l;rw[hd]at m;cases m;have g:=rel.length;refine(ZI (knd:=Bq X.prog X.w) (I.ok.hd q) it a Ax vs p).item i s _ _ (by rw[<- g];exact j.2) ⟨by rw[<- g];exact st,o,es,e0,J,hd,rest⟩ λv h' tk⟨k,x,R,O⟩Ct kp=>?_;obtain⟨M,L⟩:=rel.at R;have U:Inv X Zb Z H { s with heap:=h',toks:=tk }:=I.turned (t':=tk) (λb o f e=>kp b o (by simpa using f) e) f0 G F D C
  obtain⟨o',T,cl,d⟩:=id Ct.1;have N:RelV (kV k) v:=by
   rcases GS (show IS k v=true from O)with⟨i,t,rfl,rfl⟩|⟨y,t,rfl,rfl⟩
   .exact⟨t,rfl⟩
   .exact⟨t,rfl⟩
  exact⟨_,rfl,Nt (s:={ s with heap:=h',toks:=tk }) T cl d (by decide) ⟨kV k,H,U,N,⟨rfl,k,M,L,rfl⟩,by rw[g];exact Ct.1,λb f=>(n b f).1⟩⟩
 done:=by
  intro X u hw B q i Zb s Z H E I n st j;subst u hw B;obtain⟨f0,G,S,F,D,C⟩:=n it (by simp);obtain⟨e0,hz,FF,vs,rel,ob,JK,M9,l,J,m,rest⟩:=I.AN a _ j.1;rw[e0]at l;cases l;rw[hd]at m;cases m;have g:=rel.length;have hi:i=A3.length:=j.2;subst hi;exact(ZI (knd:=Bq X.prog X.w) (I.ok.hd q) it a Ax vs p).done s _ _ ⟨by rw[<- g];exact st,o,es,e0,J,hd,rest⟩ λh' tk kp=>⟨rfl,I.turned (t':=tk) (λb o f e=>kp b o (by simpa using f) e) f0 G F D C⟩
 self:=λA i s Q E st h=>wpAny_pyIter_keyiter st h
def Xx(tl:TE):TI:=λZ H R=>tl Z H λx H1=>∃a A3,x=.ref a/\H1 a=some (.dK A3)/\∀o,R (aI a o A3) (upd H1 a (.CM o (.dK A3)))
end
def Tx(t:TE):TE:=λZ H Q=>∃a A3,H a=some (.dK A3)/\t Z H λv H1=>∃o u,H1 a=some (.CM o u)/\Q v (upd H1 a u)
section
variable{tg l e:Expr}{tl t:TE}{st:Stmt}{ts:TS}
theorem oW(h:QE X l tl):QI X tg l (Xx tl):=⟨by
 have k:=h.h;intro Zb s Z H R I h;refine AR (k Zb s Z H _ I h) λv s1⟨x,H1,I1,i,j⟩=>?_;obtain⟨a,A3,e,d,q⟩:=j;subst e;cases i;obtain⟨z,FF,vs,rel,n⟩:=Ip I1.AN (.inl d);obtain⟨o,es,p,e0,hd,I2⟩:=I1.held d;have u:a<s1.heap.objs.size:=BE e0;have t:s1.heap.DictAt (Bq X.prog X.w) a vs p:=by
  obtain⟨ob,JK,M9,f,r,g,rest⟩:=n;rw[e0]at f;cases f;rw[hd]at g;cases g;exact⟨o,es,e0,r,hd,rest⟩
 have c:∀b∈[s1.heap.objs.size],EI X Zb (upd H1 a (.CM o (.dK A3))) b:=λb m=>by
  have e:b=s1.heap.objs.size:=by simpa using m
  subst e;exact I2.Ko (Ap _) (I2.AN.fresh (Ap _))
 refine wy FF t ?_;exact⟨s1.heap.objs.size,[s1.heap.objs.size],_,_,_,rfl,I2.kept (t':=s1.toks) λb o e=>BZ _ e,qR hd (C0 u),⟨_,CA _ rfl,rfl,by rw[rel.length];rfl⟩,c,q o⟩⟩
theorem ZCp(h:QE X e t):QE X e (Tx t):=⟨by
 have h:=h.h;intro Zb s Z H Q I ⟨a,A3,c,q⟩;have m:=I.aV c;refine AR (h Zb s Z H _ I q) λv s'⟨x,H',I',r,o,u,e,b⟩=>?_;exact⟨x,_,I'.v8 m e,r,b⟩⟩
end
end L2
namespace Fz
open L2 Lw
theorem W7:∀{ks:List Key}{vs:List V}{n:Nat}{k:Key}{v:V},ks.Nodup->ks[n]?=some k->vs[n]?=some v->DA (ks.zip vs) k=some v
 | [],_,_,_,_,_,h,_=>by simp at h
 |_::_,[],_,_,_,_,_,h=>by simp at h
 |k0::ks,v0::vs,0,k,v,_,h1,h2=>by
  have b:k0=k:=by simpa using h1
  have a:v0=v:=by simpa using h2
  subst b a;rw[GB];exact Me rfl
 |k0::ks,v0::vs,n+1,k,v,nd,h1,h2=>by
  rw[GB,MQ]
  .exact W7 (List.nodup_cons.mp nd).2 (by simpa using h1) (by simpa using h2)
  .rintro rfl;exact(List.nodup_cons.mp nd).1 (Cr (by simpa using h1))
theorem j7:∀{ks:List Key}{vs:List V}{n:Nat}{k:Key}{v:V},(ks.zip vs)[n]?=some (k,v)->ks[n]?=some k/\vs[n]?=some v
 | [],_,_,_,_,h=>by simp at h
 |_::_,[],_,_,_,h=>by simp at h
 |k0::ks,v0::vs,0,k,v,h=>by
  rw[GB]at h;have:(k0,v0)=(k,v):=by simpa using h
  cases this;exact⟨rfl,rfl⟩
 |k0::ks,v0::vs,n+1,k,v,h=>by
  rw[GB]at h;have:=j7 (ks:=ks) (vs:=vs) (n:=n) (k:=k) (v:=v) (by simpa using h)
  exact⟨by simpa using this.1,by simpa using this.2⟩
end Fz
namespace L2
variable{values vs:List Expr}{Em:List (TE×TE)}
section
variable{X:Cx}{pos:Pos}
theorem h9:Jn X pos [] [] []:=wb
theorem Nq{k v:Expr}{ks:List (Option Expr)}{tk tv:TE}(b:QE X k tk)(a:QE X v tv)(hr:Jn X pos ks vs Em):Jn X pos (some k::ks) (v::vs) ((tk,tv)::Em):=pG b.h a.h hr
theorem cV{keys:List (Option Expr)}(h:Jn X pos keys values Em)(JY:keys.all (·.isSome)=true)(g:keys.length=values.length)(j:keys≠[])(Rh:keys.length<=15):QE X (.Dict keys values pos) (Q9 Em):=⟨by
 intro Zb s Z H Q I q;have hn:=I.AN.fresh (Ap s.heap.objs.size);have l:=I.laid (a:=s.heap.objs.size) (o:=.dK []) (h':=s.heap.push { cls:=.type "dict", data:=.dict #[] }) (t':=s.toks) (λ_ _ q=>BZ _ q) (Ap _) (eK s.heap I.big);refine wpAny_Dict_walk (knd:=Bq X.prog X.w) JY g j Rh (AR (h Zb _ Z _ _ l (q _ hn)) λws s2⟨ps,H2,I2,rel,e,A3,k,m,f⟩=>?_);subst k;obtain⟨rs,c,b⟩:=cS (P:=X.prog) (w:=X.w) rel;obtain⟨z,hd,Iz,d,dd⟩:=Pt I2.AN e;cases d;refine⟨rs,c,dd,λh' Fw hs=>⟨.ref s.heap.objs.size,_,?_,rfl,f⟩⟩;have hz:(JZ [] A3).length<=sizeLine:=by
  have h1:=fR A3 [];rw[Z5]at h1;rw[sizeLine_eq];omega
 have i:∃q,h'.get? s.heap.objs.size=some q:=let ⟨q,_,_,hq,_⟩:=Fw;⟨q,hq⟩;exact N9 I2 (by rw[e];exact True.intro) hs i (QQ hz hd (b.merge .nil) Fw)⟩
end
theorem iF:∀(more acc:List (Key×V)),((acc++more).map (·.1)).Nodup->JZ acc more=acc++more
 | [],acc,_=>by rw[GA];rfl
 |p::r,acc,h=>by
  show JZ (putK acc p.1 p.2) r=_;have c:acc.any (λa=>decide (a.1=p.1))=false:=by
   rw[ZDV];intro q b e;have d:=mi e;rw[E4,Bv,CG]at h;exact h.2.2 q.1 (List.mem_map.mpr ⟨q,b,rfl⟩) p.1 Cz d
  have e:putK acc p.1 p.2=acc++[p]:=by
   unfold putK;rw[c];rfl
  rw[e,iF r (acc++[p]) (by rw[Bc];exact h),Bc];rfl
end L2
namespace Fz
open L2 Lw
variable{ss:List Slot}{Z:L2.St}{F H:Hp}{C a aL aS b p:Addr}{ta:TA}{Q:VK}{k1 k2 x:Str}{t1 t2 te:TE}{i j n:Nat}{t u w y z:OV}{pre:Pre}{ls m:List Lp}{nx:List Slot->Prop}{us:List OV}{l:Lp}{N ns:List Str}{d:BJ}{d':AO}{c:Mu}
section
variable[Xw]
theorem qP{E:Ent0}{F1 H1:Hp}{o:HO}(S:Sg E ss Z F H)(m:Mv E ss Z F H F1 H1)(b:H p=none)(d:F1 p=none):Mv E ss Z F H F1 (upd H1 p o):=
 S.step m.ff (λa u e=>by rw[Af (by rintro rfl;rw[d]at e;cases e)];exact m.st.fh a u e)
  (λa u n e=>by rw[Af (by rintro rfl;rw[b]at e;cases e)];exact m.hh a u n e) m.nn
  λi l hi e=>Bi.keep (m.st.EL hi e) λu f=>by
   rw[Af (by
    rintro rfl;obtain⟨_,_,c,_⟩:=S.EL hi e;rw[b]at c;cases c)]
   exact f
theorem gZ{k:List Nat->OV->Prop}{E:Ent}(ks:List Str)(I:ks.Nodup)(Rh:ks.length<=15)(S:Sg E ss Z F H)(d:H p=none)
  (h:JG ss ta λm us=>us.length=ks.length/\∀l,k m (.nd (.Ai (ks.map Sum.inr)) l us))
  (q:∀v m u F' H',Mv E ss Z F H F' H'->B9 F' H' v u->u.addrs.Nodup->(∀a∈u.addrs,F' a=none/\E.H0 a=none/\((∃i∈m,∃s,s≠Slot.AQ/\ss[i]?=some s/\BI s Z[i]? a)∨H a=none))->k m u->Q v H') :
  ta Z (upd H p (.dK [])) λvs H2=>H2 p=some (.dK [])/\∃A3:List (Key×V),List.zipWith (λs v=>(V.str s,v)) ks vs=A3.map (λj=>(kV j.1,j.2))/\A3.length<=15/\Q (.ref p) (upd H2 p (.dK (JZ [] A3))):=by
 have t:=S.make d (.dK []);have B:F p=none:=S.Bj d;refine h.go E Z F _ _ t.st λvs m us F1 H1 n r Fl y⟨G,kk⟩=>?_;have C:H1 p=some (.dK []):=n.hh p _ (S.Le d) AH;have x:F1 p=none:=by
  cases e:F1 p with
  |none=>rfl
  |some o=>
   rcases n.nn p o e with z|z
   .rw[B]at z;cases z
   .rw[AH]at z;cases z
 have D:vs.length=ks.length:=by rw[r.length,G]
 have K:List.zipWith (λs v=>(V.str s,v)) ks vs=((ks.map Sum.inr).zip vs:List (Key×V)).map (λj=>(kV j.1,j.2)):=by
  rw[List.zip_eq_zipWith,List.zipWith_map_left,List.map_zipWith];rfl
 refine⟨C,(ks.map Sum.inr).zip vs,K,by rw[N6,AW];omega,?_⟩;have nk:((ks.map Sum.inr:List Key)).Nodup:=ZDU _ (λa b(h:a≠b)=>λz=>h (by injection z)) I;rw[iF _ [] (by rw[Z6,List.map_fst_zip (by rw[AW];omega)];exact nk),Z6];have mv:=qP (o:=.dK ((ks.map Sum.inr).zip vs)) S (t.trans n) d x;have A:p∉OV.Al us:=λg=>by
  rcases(y p g).2.2 with⟨i,_,s,_,hs,ow⟩|z
  .exact S.Dt hs ow d
  .rw[AH]at z;cases z
 refine q _ m (.nd (.Ai (ks.map Sum.inr)) p us) F1 _ mv (.nd (k:=.Ai (ks.map Sum.inr)) (vs:=vs) AH trivial (show(List.map Sum.inr ks:List Key).length=vs.length by rw[AW];exact D.symm) (r.mono (A8.refl _) λa g o e=>by rw[Af (by rintro rfl;exact A g)];exact e)) ?_ (λa g=>?_) (kk p)
 .rw[OV.Cj];exact List.nodup_cons.mpr ⟨A,Fl⟩
 .rw[OV.Cj]at g;rcases List.mem_cons.mp g with e|g
  .subst e;exact⟨x,S.Ew d,.inr d⟩
  .obtain⟨f,J,w⟩:=y a g;exact⟨f,J,w.imp id λz=>by
    by_cases c:a=p
    .subst c;exact d
    .rw[Af c]at z;exact z⟩
theorem uc{k:List Nat->OV->Prop}{k3:Str}{a:TE}(c:[k1,k2,k3].Nodup)(h:JG ss (AU t1 (AU t2 (AU a B5))) λm us=>us.length=3/\∀l,k m (.nd (.Ai [.inr k1,.inr k2,.inr k3]) l us)):Wx ss (Q9 [(tC (.str k1),t1),(tC (.str k2),t2),(tC (.str k3),a)]) k:=⟨λE Z F H Q S q p b=>
 gZ (ta:=AU t1 (AU t2 (AU a B5))) [k1,k2,k3] c (by show(_:Nat)+1<=15;simp) S b h q⟩
theorem pK{k:List Nat->OV->Prop}(b:[k1,k2].Nodup)(h:JG ss (AU t1 (AU t2 B5)) λm us=>us.length=2/\∀l,k m (.nd (.Ai [.inr k1,.inr k2]) l us)):Wx ss (Q9 [(tC (.str k1),t1),(tC (.str k2),t2)]) k:=⟨λE Z F H Q S q p a=>
 gZ (ta:=AU t1 (AU t2 B5)) [k1,k2] b (by show(_:Nat)+1<=15;simp) S a h q⟩
theorem yC{m:Str}{k:PV->Prop}(h:Wl ss i t te λ_ u=>∃dx ns a us,u=.nd (.obj C dx ns) a us/\D4 ns m=none/\Wb ss ta λps=>∃k',pre ((u.pv::ps).map .is) (.is k')/\∀p,k' p->Dr p=true/\k p):Wp ss (Lf C m (BN pre) [] E0 te ta) k:=⟨λE Z F H Q S q=>
 h.go E Z F H _ S λv p u F1 H1 c e Ay⟨dx,ns,a,us,w,s,h2⟩=>by
  subst w;have y:=e;cases y with
  |@nd _ _ vs _ d z B A=>
   refine⟨a,dx,ns.zip vs,rfl,d,Vk s,h2.go E Z F1 H1 _ c.st λvs ps F2 H2 b j⟨k',n,kk⟩=>?_⟩;rw[GA];have g:=e.mv c.st h.hi Ay b;have x:Ad (Bs F2 H2 (DH ss Z)) (V.ref a::vs) (_::ps):=.cons (g.rep b.st.SO.1 λa d o ho=>by
    unfold Bs;obtain⟨lt,hi⟩:=h.hi;rw[md (dG b.st.len hi (by simp) (OV.IZ Ay a d))];exact ho) j
   refine⟨_,.is k',_,[],n,b.st.lend x,λv F' H' f⟨p,r,kp⟩=>?_⟩;obtain⟨mv,l⟩:=b.st.yp f;exact q v p _ H' (c.trans (b.trans mv)) (r.sub l (kk p kp).1) (kk p kp).2⟩
theorem U3{R:Ar}(h:Wl ss i t te λ_ u=>∃nk a us,u=.nd nk a us/\nx (ss.set j (.raw (ptr a)))):Ws ss (En te (C7 j)) nx R:=⟨λE D Z F H S hn hr=>
 h.go E Z F H _ S λv p u F1 H1 b r Ay AG=>by
  obtain⟨nk,a,us,c,kk⟩:=AG;subst c;cases r;exact hn _ _ F1 H1 kk (b.st.setG ⟨_,rfl,rfl,λ_ _ _ h=>h⟩ λ_ z=>by cases z) b.ff⟩
end
theorem JR{k:NK}{x:OV}:(OV.nd k a [x,y,z]).put [1] w=.nd k a [x,w,z]:=by rw[OV.Hl (x:=y) rfl,OV.EY];rfl
theorem put2{k:NK}{x:OV}:(OV.nd k a [x,y,z]).put [2] w=.nd k a [x,y,w]:=by rw[OV.Hl (x:=z) rfl,OV.EY];rfl
theorem QX{k k':NK}{x:OV}(h:us[n]?=some u):(OV.nd k a [x,y,.nd k' b us]).put [2,n] w=.nd k a [x,y,.nd k' b (us.set n w)]:=by rw[OV.Hl (x:=.nd k' b us) rfl,OV.Hl h,OV.EY];rfl
theorem Xa{k k':NK}{x:OV}(h:us[n]?=some u):(OV.nd k a [x,y,.nd k' b us]).at [2,n]=some u:=by
 rw[OV.at];show OV.at (.nd k' b us) [n]=some u;rw[OV.at,h];exact OV.GV
theorem DE{k:NK}{x:OV}:(OV.nd k a [x,y,z]).at [1]=some y:=by
 rw[OV.at];exact OV.GV
theorem gf[Xw]{K:ZEe}{l m:Nat}{p:PV}{k:List Slot->Prop}(h:∃a b c d,p=.tup [a,b,c,d]/\k ((((ss.set i (.is a)).set j (.is b)).set l (.is c)).set m (.is d))):Wg ss (JI K 4 (FP (C7 i) (FP (C7 j) (FP (C7 l) (FP (C7 m) K7))))) p k:=⟨λE Z F H v Q S r q=>by
 obtain⟨a,b,c,d,rfl,kk⟩:=h;obtain⟨_,_,rfl,e,r⟩:=r.inv;obtain⟨_,_,rfl,o,r⟩:=r.inv;obtain⟨_,_,rfl,n,r⟩:=r.inv;obtain⟨_,_,rfl,g,r⟩:=r.inv;obtain⟨_,_,rfl,f,r⟩:=r.inv;obtain rfl:=r.D8;exact⟨_,_,rfl,AA.of (S.fh _ _ e),rfl,_,_,rfl,_,_,rfl,_,_,rfl,_,_,rfl,rfl,q _ _ kk ((((S.Er o).Er n).Er g).Er f)⟩⟩
theorem Qj{vs:List V}{X:XK}{t:TS}(h:Bh pre vs H Q X)(b:∀ss R,pre ss R->ss.length=n)
  (hw:∀ss R,pre ss R->Ws (ss++List.replicate (N.length - n) .any) t (RJ R) R):t { nx:=λ_ H'=>Q .AE H',rt:=Q } (L2.start N vs) H:=by
 obtain⟨ss,R,F,A,B,a,S,q⟩:=h;have e:vs.length=n:=by have:=S.len;rw[AW]at this;rw[<- this];exact b ss R a
 unfold L2.start;rw[e];exact(hw ss R a).go (Rv ⟨A,F,H,B⟩) _ _ F H (S.grown _) (λAI σ' F' H' z S' _=>q .AE F' H' S'.toFin (z.ok S')) λv F' H' f ok=>q v F' H' f ok
structure Sm where
 stood:Nat
 joined:Nat
 told:Nat
 taken:Nat
structure Ls where
 row:List Str
 ln:List Str
 ll:List Lp
 sn:List Str
 sq:List Sm
variable{s s':Ls}
inductive LE where
 |Ig (x r:Str)|tell (x y:Str)|over (x:Str)|Gs (d:BJ)
variable{e:LE}{es:List LE}
def LE.P:LE->PV
 | .Ig x r=>.tup [.str "begin",.str x,.str r]
 | .tell x y=>.tup [.str "tell",.str x,.str y]
 | .over x=>.tup [.str "over",.str x]
 | .Gs d=>aP d
def LE.say:LE->Prop
 | .Ig x r=>DX x/\DX r
 | .tell x y=>DX x/\DX y
 | .over x=>DX x
 | .Gs d=>d.say
noncomputable def FJ(ns:List Str)(d:BJ):Option AO:=open Classical in if h:∃d',d.Is ns d' then some h.choose else none
theorem U1(h:d.Is ns d'):FJ ns d=some d':=by
 have e:∃d',d.Is ns d':=⟨d',h⟩;unfold FJ;rw[dif_pos e];exact sA some (xI (e.choose_spec.1.symm.trans h.1))
theorem RF(h:FJ ns d=some d'):d.Is ns d':=by
 unfold FJ at h;split at h
 .next e=>cases h;exact e.choose_spec
 .cases h
theorem oy{e:BJ}(h:aP d=aP e):d=e:=by
 cases d <;> cases e <;> simp[aP]at h <;> first|(exact absurd h.1 Q2)|(exact absurd h.1.symm Q2)|(obtain⟨a,b⟩:=h;subst a;subst b;rfl)|(subst h;rfl)
theorem nU(h:d.Is ns d'):d.Cw c ns=none:=by
 have:d=HH d':=oy (h.1.trans (Va d').symm);rw[this];exact v7 h.2
theorem kf{e:Ex}(h:d.Cw c ns=some e):FJ ns d=none:=by
 cases q:FJ ns d with
 |none=>rfl
 |some d'=>rw[nU (RF q)]at h;cases h
def c0:Mu:=⟨0,0,0,0,0⟩
theorem Ie(ns:List Str)(d:BJ):(FJ ns d).isSome=(d.Cw c0 ns).isNone:=by
 cases h:d.Cw c0 ns with
 |none=>
  obtain⟨d',h'⟩:=BJ.good h;rw[U1 h'];rfl
 |some e=>rw[kf h];rfl
theorem qV{i:Int}(h1:isNm x=true)(h2:x∉ns)(a:ns.length<40):(FJ ns (.put x i)).isSome=decide (inR i 0 ns.length):=by
 rw[Ie];simp only[BJ.Cw];rw[mY (by rw[h1];decide),mY h2]
 by_cases c:inR i 0 ns.length
 .rw[mY (Decidable.not_not.mpr c),mY (by omega),lx c];rfl
 .rw[md c,qX c];rfl
theorem ZCq{i:Int}(h1:isNm x=true)(h2:x∉ns)(a:40<=ns.length):(FJ ns (.put x i)).isSome=false:=by
 rw[Ie];simp only[BJ.Cw];rw[mY (by rw[h1];decide),mY h2]
 by_cases c:inR i 0 ns.length
 .rw[mY (Decidable.not_not.mpr c),md a];rfl
 .rw[md c];rfl
theorem o7{i:Int}(h2:x∈ns):(FJ ns (.move x i)).isSome=decide (inR i 0 (ns.length - 1)):=by
 rw[Ie];simp only[BJ.Cw];rw[mY (Decidable.not_not.mpr h2)]
 by_cases c:inR i 0 (ns.length - 1)
 .rw[mY (Decidable.not_not.mpr c),lx c];rfl
 .rw[md c,qX c];rfl
theorem ZDD{lo hi:Int}:(FJ ns (.turn lo hi)).isSome=(decide (inR lo 0 ns.length) && decide (inR hi lo ns.length)):=by
 rw[Ie];simp only[BJ.Cw]
 by_cases c:inR lo 0 ns.length
 .rw[mY (Decidable.not_not.mpr c),lx c]
  by_cases e:inR hi lo ns.length
  .rw[mY (Decidable.not_not.mpr e),lx e];rfl
  .rw[md e,qX e];rfl
 .rw[md c,qX c];rfl
theorem Si{i lo hi:Int}:decide (inR i lo hi)=(decide (lo<=i) && decide (i<=hi)):=by
 by_cases h1:lo<=i
 .by_cases h2:i<=hi
  .rw[lx (show inR i lo hi from⟨h1,h2⟩),lx h1,lx h2];rfl
  .rw[qX (λz:inR i lo hi=>h2 z.2),lx h1,qX h2];rfl
 .rw[qX (λz:inR i lo hi=>h1 z.1),qX h1];rfl
noncomputable def Sm.join(q:Sm):Sm:=⟨q.stood,q.joined+1,q.told,q.taken⟩
noncomputable def Sm.tell(q:Sm):Sm:=⟨q.stood,q.joined,q.told+1,q.taken⟩
noncomputable def Sm.take(q:Sm):Sm:=⟨q.stood,q.joined,q.told,q.taken+1⟩
def Sm.by(n m:Nat):Sm->Sm:=if n<m then Sm.join else if m<n then Sm.take else id
def CH(s:Ls)(d:AO):Nat->List Sm
 | 0=>s.sq
 |i+1=>match s.ln[i]?,s.ll[i]? with
  |some x,some l=>(CH s d i).modify (s.sn.idxOf x) (Sm.by l.cs.length (l.led s.row d).cs.length)
  |_,_=>CH s d i
noncomputable def C8(s:Ls)(d:AO)(i:Nat):List Lp:=(s.ll.take i).map (Lp.led s.row d)++s.ll.drop i
def Es(s:Ls)(x r:Str):Option Ls:=if isNm x=true/\x∉s.sn/\Oi r=true then some ⟨s.row,s.ln++[x],s.ll++[⟨r,0,FK s.row⟩],s.sn++[x],s.sq++[⟨s.row.length,0,0,0⟩]⟩else none
def EM(s:Ls)(x y:Str):Option Ls:=match s.ll[s.ln.idxOf x]? with
 |some l=>if y∈l.cs then some ⟨s.row,s.ln,s.ll.set (s.ln.idxOf x) ⟨l.r,s.row.idxOf y+1,wo l.cs y⟩,s.sn,s.sq.modify (s.sn.idxOf x) Sm.tell⟩else none
 |none=>none
noncomputable def EG(s:Ls)(x:Str):Option Ls:=match s.ll[s.ln.idxOf x]? with
 |some l=>if l.cs=[]then some ⟨s.row,s.ln.eraseIdx (s.ln.idxOf x),s.ll.eraseIdx (s.ln.idxOf x),s.sn,s.sq⟩else none
 |none=>none
noncomputable def Fd(s:Ls)(d:BJ):Option Ls:=match FJ s.row d with
 |some d'=>some ⟨d'.done s.row,s.ln,s.ll.map (Lp.led s.row d'),s.sn,CH s d' s.ln.length⟩
 |none=>none
noncomputable def EX(s:Ls):LE->Option Ls
 | .Ig x r=>Es s x r
 | .tell x y=>EM s x y
 | .over x=>EG s x
 | .Gs d=>Fd s d
structure Ls.Ok (s:Ls):Prop where
 row:HF 40 s.row
 l1:s.ln.length=s.ll.length
 l2:s.sn.length=s.sq.length
 n1:s.ln.Nodup
 n2:s.sn.Nodup
 sub:∀x∈s.ln,x∈s.sn
 good:∀l∈s.ll,l.Good s.row
 nm:∀x∈s.sn,Nm x
theorem Nk(s:Ls)(d:AO):∀i,(CH s d i).length=s.sq.length
 | 0=>rfl
 |i+1=>by
  unfold CH;split
  .rw[List.length_modify,Nk]
  .exact Nk s d i
theorem cR(s:Ls)(d:AO):C8 s d s.ll.length=s.ll.map (Lp.led s.row d):=by
 unfold C8;rw[LP,List.drop_length,GA]
theorem IP(s:Ls)(d:AO)(i:Nat):(C8 s d i).length=s.ll.length:=by
 unfold C8;rw[Bu,AW,CK,FA];omega
theorem XS{d:AO}(h:s.ll[i]?=some l):(C8 s d i)[i]?=some l:=by
 have hi:=(List.getElem?_eq_some_iff.mp h).1;unfold C8;rw[JA (by rw[AW,CK];omega),AW,CK,ZDZ];rw[show i+(i - min i s.ll.length)=i by omega];exact h
theorem Xd{d:AO}(h:s.ll[i]?=some l):(C8 s d i).set i (l.led s.row d)=C8 s d (i+1):=by
 obtain⟨hi,e⟩:=List.getElem?_eq_some_iff.mp h;unfold C8;rw[ZDj _ _ (by rw[AW,CK];omega),AW,CK,show i - min i s.ll.length=0 by omega,Yz hi,Z8,Sz hi,E4,Bc,e];rfl
theorem Uo{l:List Str}(h:x∈l):l[l.idxOf x]?=some x:=by
 rw[BA (List.idxOf_lt_length_iff.mpr h),Z3]
theorem rm{l:List Str}{a:Lp}(b:l.length=m.length)(h:m[l.idxOf x]?=some a):x∈l:=by
 have:=(List.getElem?_eq_some_iff.mp h).1;exact List.idxOf_lt_length_iff.mp (by omega)
theorem Ls.Ok.step(h:s.Ok)(g:EX s e=some s'):s'.Ok:=by
 cases e with
 |Ig x r=>
  have g:Es s x r=some s':=g;unfold Es at g;split at g
  .next c=>
   cases g;obtain⟨o,j,n⟩:=c;refine⟨h.row,by simp[h.l1],by simp[h.l2],?_,?_,?_,?_,?_⟩
   .exact Pj h.n1 λz=>j (h.sub x z)
   .exact Pj h.n2 j
   .intro y a;rcases List.mem_append.mp a with z|z
    .exact List.mem_append.mpr (.inl (h.sub y z))
    .exact List.mem_append.mpr (.inr z)
   .intro l f;rcases List.mem_append.mp f with z|z
    .exact h.good l z
    .rw[List.mem_singleton.mp z];exact⟨mi n,Int.le_refl _,ZDT _,VS h.row.nd,λy a=>QK.mp a⟩
   .intro y a;rcases List.mem_append.mp a with z|z
    .exact h.nm y z
    .rw[List.mem_singleton.mp z];exact af o
  .cases g
 |tell x y=>
  have g:EM s x y=some s':=g;unfold EM at g;split at g
  .next l e=>
   split at g
   .next c=>
    cases g;have i:=h.good l (Cr e);refine⟨h.row,by simp[h.l1],by simp[h.l2],h.n1,h.n2,h.sub,?_,h.nm⟩;intro b DG;rcases List.mem_or_eq_of_mem_set DG with z|z
    .exact h.good b z
    .rw[z];exact Lw.DM.step i (i.sub y c)
   .cases g
  .cases g
 |over x=>
  have g:EG s x=some s':=g;unfold EG at g;split at g
  .next l e=>
   split at g
   .next c=>
    cases g;have hi:=(List.getElem?_eq_some_iff.mp e).1;refine⟨h.row,?_,h.l2,List.Nodup.sublist (jl _ _) h.n1,h.n2,λy a=>h.sub y ((jl _ _).subset a),λb DG=>h.good b ((jl _ _).subset DG),h.nm⟩;have h1:=h.l1;show(s.ln.eraseIdx _).length=(s.ll.eraseIdx _).length;rw[ZDc (by omega),ZDc hi,h1]
   .cases g
  .cases g
 |Gs d=>
  have g:Fd s d=some s':=g;unfold Fd at g;split at g
  .next d' e=>
   cases g;have ok:=(RF e).2;refine⟨h.row.done ok,by simp[h.l1],by rw[Nk];exact h.l2,h.n1,h.n2,h.sub,?_,h.nm⟩;intro l f;obtain⟨k,m,rfl⟩:=List.mem_map.mp f;exact Lw.DM.led (h.good k m) ok h.row.nd
  .cases g
def R2(P:OV->Sm->Prop)(us:List OV)(a:List Sm):Prop:=us.length=a.length/\∀(n:Nat)u q,us[n]?=some u->a[n]?=some q->P u q
theorem R2.nil{P:OV->Sm->Prop}:R2 P [] []:=⟨rfl,λn u q h=>by cases h⟩
theorem R2.snoc{P:OV->Sm->Prop}{d:List Sm}{q:Sm}(h:R2 P us d)(e:P u q):R2 P (us++[u]) (d++[q]):=by
 refine⟨by simp[h.1],λn v p a b=>?_⟩;have f:=h.1
 by_cases c:n<us.length
 .rw[Hc c]at a;rw[Hc (by omega)]at b;exact h.2 n v p a b
 .have h1:=(List.getElem?_eq_some_iff.mp a).1;simp at h1;have:n=us.length:=by omega
  subst this;rw[JA (Ap _),k6]at a;rw[JA (by omega),show us.length - d.length=0 by omega]at b;cases a;cases b;exact e
theorem R2.set{P:OV->Sm->Prop}{d:List Sm}{f:Sm->Sm}(h:R2 P us d)(g:∀q,d[n]?=some q->P u (f q)):R2 P (us.set n u) (d.modify n f):=by
 refine⟨by simp[h.1],λm v p b a=>?_⟩
 by_cases c:n=m
 .subst c;have h1:=(List.getElem?_eq_some_iff.mp b).1;rw[LM]at h1;rw[Cq h1]at b;rw[List.getElem?_modify_eq]at a;cases e:d[n]? with
  |none=>rw[e]at a;cases a
  |some q=>rw[e]at a;cases a;cases b;exact g q e
 .rw[Cb c]at b;rw[List.getElem?_modify_ne _ _ c]at a;exact h.2 m v p b a
theorem R2.get{P:OV->Sm->Prop}{us:List OV}{a:List Sm}{n:Nat}{q:Sm}(h:R2 P us a)(b:a[n]?=some q):∃u,us[n]?=some u/\P u q:=by
 have h1:=(List.getElem?_eq_some_iff.mp b).1;have c:=h.1;exact⟨us[n],BA (by omega),h.2 n _ q (BA (by omega)) b⟩
def Fj(q:Sm):List PV:=[.int q.stood,.int q.joined,.int q.told,.int q.taken]
noncomputable def Ab(ns:List Str):List Key:=ns.map Sum.inr
def Ba(ll:List Lp):List OV:=ll.map λl=>.fz l.P
def fm(u:OV)(q:Sm):Prop:=∃b,u=.nd .lst b ((Fj q).map .fz)
def NN(T:Addr)(u:OV)(q:Sm):Prop:=∃e b,u=.nd (.obj T e ["stood","joined","told","taken"]) b ((Fj q).map .fz)
noncomputable def k3:List Key:=[.inr "row",.inr "live",.inr "sums"]
def BK(s:Ls)(a aL aS:Addr)(us:List OV):OV:=.nd (.Ai k3) a [.fz (.lst (s.row.map .str)),.nd (.Ai (Ab s.ln)) aL (Ba s.ll),.nd (.Ai (Ab s.sn)) aS us]
def DF(s:Ls)(a:Addr)(t:OV):Prop:=∃aL aS us,R2 fm us s.sq/\t=BK s a aL aS us
noncomputable def IY:List Str:=["standing","running","tallies"]
theorem Jt(ns:List Str)(x:Str):GC (Ab ns) (.inr x)=decide (x∈ns):=by
 unfold GC Ab;rw[List.any_map]
 by_cases h:x∈ns
 .rw[lx h];exact List.any_eq_true.mpr ⟨x,h,lx rfl⟩
 .rw[qX h];rw[Bool.eq_false_iff];intro z;obtain⟨y,b,e⟩:=List.any_eq_true.mp z;have a:(Sum.inr y:Key)=Sum.inr x:=mi e;injection a with a
  exact h (a▸b)
theorem FL:∀{ns:List Str}{x:Str},x∈ns->CI (Ab ns) (.inr x)=some (ns.idxOf x)
 | [],_,h=>absurd h B3
 |y::ns,x,h=>by
  unfold Ab;rw[Bv,CI,jq]
  by_cases c:y=x
  .subst c;rw[md rfl,show(y == y)=true from rQ y];rfl
  .rw[mY (λe=>c (by injection e)),show(y == x)=false from beq_eq_false_iff_ne.mpr c];have h1:CI (ns.map λn:Str=>(Sum.inr n:Key)) (.inr x)=some (ns.idxOf x):=FL ((List.mem_cons.mp h).resolve_left λz=>c z.symm);have a:CI (ns.map (Sum.inr:Str->Key)) (.inr x)=some (ns.idxOf x):=h1;rw[a];rfl
theorem bY:∀{ns:List Str}{x:Str},x∉ns->CI (Ab ns) (.inr x)=none
 | [],_,_=>rfl
 |y::ns,x,h=>by
  unfold Ab;rw[Bv,CI,mY (λe=>h (by injection e with e;subst e;exact Cz))]
  have h1:CI (ns.map (Sum.inr:Str->Key)) (.inr x)=none:=bY (ns:=ns) λz=>h (DK _ z);rw[h1];rfl
theorem Gh(h:ns.Nodup):(Ab ns).Nodup:=ZDU _ (λa b(h:a≠b)=>λz=>h (by injection z)) h
theorem eY(h:x∉ns):HC (Ab ns) (.inr x)=Ab (ns++[x])/\G5 (Ab ns) us (.inr x) u=us++[u]:=by
 unfold G5 HC;rw[bY h,Jt,qX h];exact⟨by unfold Ab;rw[E4];rfl,rfl⟩
theorem b5(h:x∈ns):HC (Ab ns) (.inr x)=Ab ns/\G5 (Ab ns) us (.inr x) u=us.set (ns.idxOf x) u:=by
 unfold G5 HC;rw[FL h,Jt,lx h];exact⟨rfl,rfl⟩
theorem RQ(h:x∈ns):HC (Ab ns) (.inr x)=Ab ns:=(b5 (us:=[]) (u:=.fz .AE) h).1
theorem Pe(h:x∈ns):G5 (Ab ns) us (.inr x) u=us.set (ns.idxOf x) u:=(b5 h).2
theorem OP(h:x∉ns):HC (Ab ns) (.inr x)=Ab (ns++[x]):=(eY (us:=[]) (u:=.fz .AE) h).1
theorem Pg(h:x∉ns):G5 (Ab ns) us (.inr x) u=us++[u]:=(eY h).2
theorem du(ns:List Str)(i:Nat):(Ab ns).eraseIdx i=Ab (ns.eraseIdx i):=by
 unfold Ab
 induction ns generalizing i with
 |nil=>rfl
 |cons x ns a=>cases i with
  |zero=>rfl
  |succ i=>rw[Bv,PM,PM,Bv,a]
theorem ZN(ls:List Lp)(i:Nat):(Ba ls).eraseIdx i=Ba (ls.eraseIdx i):=by
 unfold Ba
 induction ls generalizing i with
 |nil=>rfl
 |cons x ns a=>cases i with
  |zero=>rfl
  |succ i=>rw[Bv,PM,PM,Bv,a]
theorem Ro(ls:List Lp)(i:Nat)(l:Lp):(Ba ls).set i (.fz l.P)=Ba (ls.set i l):=by unfold Ba;rw[List.map_set]
theorem Mz(h:ls[i]?=some l):(Ba ls)[i]?=some (.fz l.P):=by unfold Ba;rw[BG,h];rfl
theorem YJ{y:PV}:∀{ns:List Str}{xs:List PV}{x:Str},x∈ns->xs[ns.idxOf x]?=some y->Hq (Ab ns) xs (.inr x)=some y
 | [],_,_,h,_=>absurd h B3
 |z::ns,xs,x,h,e=>by
  rw[jq]at e;unfold Ab
  by_cases c:z=x
  .subst c;rw[show(z == z)=true from rQ z]at e;cases xs with
   |nil=>cases e
   |cons w ws=>rw[Bv,Hq,md rfl];exact e
  .rw[show(z == x)=false from beq_eq_false_iff_ne.mpr c]at e;cases xs with
   |nil=>cases e
   |cons w ws=>
    rw[Bv,Hq,mY (λq=>c (by injection q))];exact YJ ((List.mem_cons.mp h).resolve_left λq=>c q.symm) e
theorem Kj:∀us:List OV,OV.Bg us=us.map OV.pv
 | []=>by rw[OV.Bg];rfl
 |u::us=>by rw[OV.Bg,Kj us];rfl
theorem XN(ll:List Lp):OV.Bg (Ba ll)=ll.map Lp.P:=by
 have:=To (ll.map Lp.P);rw[Gp]at this;exact this
theorem bf{d:AO}(hx:s.ln[i]?=some x)(a:s.ll[i]?=some l):CH s d (i+1)=(CH s d i).modify (s.sn.idxOf x) (Sm.by l.cs.length (l.led s.row d).cs.length):=by
 rw[CH,hx,a]
theorem kg{d:AO}(ok:s.Ok)(hx:x∈s.sn):∃q,(CH s d i)[s.sn.idxOf x]?=some q:=by
 have h1:=List.idxOf_lt_length_iff.mpr hx;have h2:=ok.l2;exact⟨_,BA (by rw[Nk];omega)⟩
theorem gS{α:Type}(l:List α)(n:Nat):l.modify n id=l:=by
 apply Z0;intro k;rw[List.getElem?_modify];cases l[k]? with
 |none=>rfl
 |some x=>by_cases c:n=k <;> simp[c]
theorem jB(ns:List Str):Dr (.tup (ns.map .str))=true:=by
 rw[Dr]
 induction ns with
 |nil=>rfl
 |cons x ns a=>rw[Bv,Jz,a];rfl
theorem tE:HC k3 (.inr "row")=k3:=by decide +kernel
theorem wO{x:OV}:G5 k3 [x,y,z] (.inr "row") w=[w,y,z]:=by
 unfold G5;rw[show CI k3 (.inr "row")=some 0 by decide +kernel];rfl
noncomputable def PF(tp:Bool)(xs:List PV):PV:=if tp=true then .tup xs else .lst xs
def Eo(T:Ls->OV->Prop)(s:Ls)(o:Option Ls)(p:PV)(t':OV):Prop:=(∃s',o=some s'/\p=.bl true/\T s' t')∨(o=none/\p=.bl false/\T s t')
noncomputable def Du(s:Ls)(x:Str):List Str:=match s.ll[s.ln.idxOf x]? with
 |some l=>l.cs
 |none=>[]
def Xn(C:Addr)(s:Ls)(xs:List PV):PV:=.obj C IY [.lst (s.row.map .str),.Ai (Ab s.ln) (s.ll.map Lp.P),.Ai (Ab s.sn) xs]
theorem ZR(nd:s.ln.Nodup)(hx:s.ln[i]?=some x)(a:s.ll[i]?=some l):Du s x=l.cs:=by
 unfold Du;rw[MG nd hx,a]
def XF(T:Addr):Pre:=λl R=>∃(a dx:Addr)(n:Nat),l=[.ow true (.nd (.obj T dx []) a []),.is (.int n)]/\R=.mt λp t'=>p=.AE/\t'=.nd (.obj T dx ["stood","joined","told","taken"]) a ((Fj ⟨n,0,0,0⟩).map .fz)
def Ly(C:Addr):Pre:=λl R=>∃(s:Ls)(xs:List PV)(x:Str),l=[.is (Xn C s xs),.is (.str x)]/\s.ln.length=s.ll.length/\R=.is λp=>p=.tup ((Du s x).map .str)
def EK(s:Ls)(d:AO)(i:Nat):Ls:=⟨s.row,s.ln,C8 s d i,s.sn,CH s d i⟩
noncomputable def runs(s:Ls):List LE->Option Ls
 | []=>some s
 |e::r=>match EX s e with
  |some s'=>runs s' r
  |none=>none
def CO(ns:List Str):Ls:=⟨ns,[],[],[],[]⟩
def ZBk(ns:List Str)(es:List LE)(i:Nat):Prop:=∃s e,runs (CO ns) (es.take i)=some s/\es[i]?=some e/\EX s e=none
theorem Vp(h:HF 40 ns):(CO ns).Ok:=⟨h,rfl,rfl,LN,LN,λx hx=>absurd hx B3,λx hx=>absurd hx B3,λx hx=>absurd hx B3⟩
theorem Vu:∀{s s':Ls},s.Ok->runs s es=some s'->s'.Ok:=by
 induction es with
 |nil=>intro s s' h e;rw[runs]at e;cases e;exact h
 |cons x es a=>
  intro s s' h e;rw[runs]at e;split at e
  .next s1 e1=>exact a (h.step e1) e
  .cases e
theorem gO{fs:List LE}:∀{s:Ls},runs s (es++fs)=(runs s es).bind λs'=>runs s' fs:=by
 induction es with
 |nil=>intro s;rfl
 |cons x es a=>
  intro s;rw[Yx,runs,runs];split
  .exact a
  .rfl
theorem UH(h:runs s es=some s'):runs s (es++[e])=EX s' e:=by
 rw[gO,h];show runs s' [e]=_;rw[runs];cases EX s' e <;> rfl
theorem yz(h:ZBk ns es i):runs (CO ns) es≠some s:=λz=>by
 obtain⟨s1,e,h1,h2,a⟩:=h;obtain⟨hi,b⟩:=List.getElem?_eq_some_iff.mp h2;have c:es=es.take i++[e]++es.drop (i+1):=by
  rw[Bc]
  conv=>lhs;rw[<- LO i es,Yz hi,b]
  rfl
 rw[c,gO,UH h1,a]at z;cases z
theorem oZ(h:EX s e=some s'):s'.sn.length<=s.sn.length+1:=by
 cases e with
 |Ig x r=>
  have h:Es s x r=some s':=h;unfold Es at h;split at h
  .cases h;show(s.sn++[x]).length<=_;rw[Bu];exact Ap _
  .cases h
 |tell x y=>
  have h:EM s x y=some s':=h;unfold EM at h;split at h
  .split at h
   .cases h;exact Gr _
   .cases h
  .cases h
 |over x=>
  have h:EG s x=some s':=h;unfold EG at h;split at h
  .split at h
   .cases h;exact Gr _
   .cases h
  .cases h
 |Gs d=>
  have h:Fd s d=some s':=h;unfold Fd at h;split at h
  .cases h;exact Gr _
  .cases h
theorem Zx:∀{s s':Ls},runs s es=some s'->s'.sn.length<=s.sn.length+es.length:=by
 induction es with
 |nil=>intro s s' e;rw[runs]at e;cases e;exact Ap _
 |cons x es a=>
  intro s s' e;rw[runs]at e;split at e
  .next s1 e1=>have:=a e;have:=oZ e1;rw[Cc];omega
  .cases e
def Vi:Pre:=λl R=>∃(ns:List Str)(d:BJ),l=[.is (.lst (ns.map .str)),.is (aP d)]/\d.say/\ns.length<=40/\R=.is λp=>p=.bl (FJ ns d).isSome
def TF(k:Nat)(q:Sm):Sm:=if k=1 then q.join else if k=2 then q.tell else q.take
def PK:Pre:=λl R=>∃(s:Ls)(a:Addr)(t:OV)(x:Str)(k:Nat),l=[.ow true t,.is (.str x),.is (.int k)]/\DF s a t/\x∈s.sn/\s.sn.length=s.sq.length/\(k=1∨k=2∨k=3)/\R=.mt λp t'=>p=.AE/\DF ⟨s.row,s.ln,s.ll,s.sn,s.sq.modify (s.sn.idxOf x) (TF k)⟩ a t'
def Rz:Pre:=λl R=>∃(s:Ls)(a:Addr)(t:OV)(d:BJ),l=[.ow true t,.is (aP d)]/\DF s a t/\s.Ok/\d.say/\s.sn.length<=1000/\R=.mt (Eo (λs t=>DF s a t) s (Fd s d))
def UL:Pre:=λl R=>∃(s:Ls)(a:Addr)(t:OV)(x r:Str),l=[.ow true t,.is (.str x),.is (.str r)]/\DF s a t/\s.Ok/\DX x/\DX r/\s.sn.length<=1000/\R=.mt (Eo (λs t=>DF s a t) s (Es s x r))
def U0:Pre:=λl R=>∃(s:Ls)(a:Addr)(t:OV)(e:LE),l=[.ow true t,.is e.P]/\DF s a t/\s.Ok/\e.say/\s.sn.length<=1000/\R=.mt (Eo (λs t=>DF s a t) s (EX s e))
def Ta:Pre:=λl R=>l=[.AQ]/\R=.is λp=>∃r,p=.str r/\r∈FY
def D2(s:Ls):PV:=.Ai k3 [.lst (s.row.map .str),.Ai (Ab s.ln) (s.ll.map Lp.P),.Ai (Ab s.sn) (s.sq.map λq=>.lst (Fj q))]
theorem Zk(h:R2 fm us s.sq):(BK s a aL aS us).pv=D2 s:=by
 have e:OV.Bg us=s.sq.map λq=>.lst (Fj q):=by
  rw[Kj];apply Z0;intro n;rw[BG,BG];have f:=h.1;cases c:us[n]? with
  |none=>rw[LK (by have:=List.getElem?_eq_none_iff.mp c;omega)];rfl
  |some u=>
   have hn:=(List.getElem?_eq_some_iff.mp c).1;have d:=BA (l:=s.sq) (i:=n) (by omega);obtain⟨b,rfl⟩:=h.2 n u _ c d;rw[d];show some _=some _;rw[vg]
 unfold BK D2;rw[OV.pv,OV.Bg,OV.Bg,OV.Bg,OV.Bg,OV.pv,OV.pv,OV.pv,XN,e]
theorem uR(e:LE):Dr e.P=true:=by
 cases e with
 |Gs d=>cases d <;> rfl
 |_=>rfl
def YR:Pre:=λl R=>∃(s:Ls)(m:Nat),l=[.AQ,.is (D2 s),.is (.int m)]/\s.Ok/\s.ln.length<=5/\s.sn.length<=1000/\s.row.length<=m/\(m=9∨m=40)/\R=.is λp=>∃e s',p=LE.P e/\EX s e=some s'/\e.say/\s'.ln.length<=5/\s'.row.length<=m
theorem DF.nd{s:Ls}{a:Addr}{t:OV}(h:DF s a t):∃nk us,t=.nd nk a us:=by
 obtain⟨aL,aS,us,_,rfl⟩:=h;exact⟨_,_,rfl⟩
theorem Eo.nd{T:Ls->OV->Prop}{a:Addr}{s:Ls}{o:Option Ls}{p:PV}{t:OV}(h:Eo T s o p t)(b:∀s t,T s t->∃nk us,t=.nd nk a us):∃nk us,t=.nd nk a us:=by
 rcases h with⟨s',_,_,h⟩|⟨_,_,h⟩
 .exact b _ _ h
 .exact b _ _ h
theorem WV(ns:List Str):(Ab ns).map GZ=ns.map PV.str:=by
 unfold Ab;rw[Gp];rfl
section
variable[Xw]
theorem MB{lt:Bool}{k:PV->OV->Prop}(hi:ss[i]?=some (.ow lt t))(h:Wm ss i lt t te λp t'=>(∃nk a us,t'=.nd nk a us)/\k p t'):Ws ss (HJ te) nx (.mt k):=⟨λE D Z F H S hn hr=>
 h.go E Z F H _ S λv p t' F1 H1 d r AG=>by
  obtain⟨⟨nk,a0,us,e⟩,kk⟩:=AG;subst e;have j:i<ss.length:=(List.getElem?_eq_some_iff.mp hi).1;obtain⟨g,e0,b,CT,c⟩:=d.st.ok i (.ow lt (.nd nk a0 us)) (by rw[Cq j]);have l:g=.ref a0:=by cases b;rfl
  subst l;exact hr v F1 H1 d.st.toFin ⟨p,.nd nk a0 us,r,b,CT,λa f=>⟨(c a f).1,(c a f).2.imp id λz=>z.2⟩,kk⟩⟩
theorem uZ{lt:Bool}{c d:TT}{k:Bool->OV->Prop}(h:MX ss i lt t c λb t'=>b=false/\k false t'):MX ss i lt t (Pd c d) k:=⟨λE Z F H Q S q=>
 h.go E Z F H _ S λb t' F1 H1 a AG=>by
  obtain⟨e,kk⟩:=AG;subst e;rw[mY (by decide)];exact q false t' F1 H1 a kk⟩
theorem MO{lt:Bool}{k:List Nat->OV->Prop}(hi:ss[i]?=some (.ow lt (BK s a aL aS us)))(h:k ([]++[0]) (.fz (.lst (s.row.map .str)))):Wl ss i (BK s a aL aS us) (Fx (B1 i) (tC (V.str "row"))) k:=Fm (CL hi ⟨k3,a,_,rfl,FN ⟨.inr "row", 0,_,rfl,by decide +kernel,rfl,h⟩⟩)
theorem Od{lt:Bool}{k:List Nat->OV->Prop}(hi:ss[i]?=some (.ow lt (BK s a aL aS us)))(h:k ([]++[1]) (.nd (.Ai (Ab s.ln)) aL (Ba s.ll))):Wl ss i (BK s a aL aS us) (Fx (B1 i) (tC (V.str "live"))) k:=Fm (CL hi ⟨k3,a,_,rfl,FN ⟨.inr "live", 1,_,rfl,by decide +kernel,rfl,h⟩⟩)
theorem SN{lt:Bool}{k:List Nat->OV->Prop}(hi:ss[i]?=some (.ow lt (BK s a aL aS us)))(h:k ([]++[2]) (.nd (.Ai (Ab s.sn)) aS us)):Wl ss i (BK s a aL aS us) (Fx (B1 i) (tC (V.str "sums"))) k:=Fm (CL hi ⟨k3,a,_,rfl,FN ⟨.inr "sums", 2,_,rfl,by decide +kernel,rfl,h⟩⟩)
end
theorem iW{K:ZEe}{d:Nat}{xs:List PV}(h:∀x∈xs,flat x=true):dat K (d+2) (.tup xs):=λx hx=>by
 have:=h x hx;cases x <;> first|trivial|(cases this)
theorem nW{K:ZEe}{d:Nat}(e:LE):dat K (d+2) e.P:=by
 have two:∀{a b:PV},flat a=true->flat b=true->dat K (d+2) (.tup [a,b]):=λh g=>iW λx hx=>by
  rcases List.mem_cons.mp hx with rfl|hx
  .exact h
  .rw[List.mem_singleton.mp hx];exact g
 have f:∀{a b c:PV},flat a=true->flat b=true->flat c=true->dat K (d+2) (.tup [a,b,c]):=λh g j=>iW λx hx=>by
  rcases List.mem_cons.mp hx with rfl|hx
  .exact h
  .rcases List.mem_cons.mp hx with rfl|hx
   .exact g
   .rw[List.mem_singleton.mp hx];exact j
 cases e with
 |Ig x r=>exact f rfl rfl rfl
 |tell x y=>exact f rfl rfl rfl
 |over x=>exact two rfl rfl
 |Gs d=>cases d with
  |take x=>exact two rfl rfl
  |put x i=>exact f rfl rfl rfl
  |move x i=>exact f rfl rfl rfl
  |turn lo hi=>exact f rfl rfl rfl
theorem xG{K:ZEe}(es:List LE):dat K 40 (.lst (es.map LE.P)):=λx hx=>by
 obtain⟨e,_,rfl⟩:=List.mem_map.mp hx;exact nW (d:=37) e
end Fz
namespace L2
section
variable{X:Cx}
def fD(K:ZEe)(t:TA):TE:=λZ H Q=>t Z H λvs H1=>∃a tp ys,vs=[.ref a]/\Df K tp H1 a ys/\tp=false/\∀l,H1 l=none->Q (.ref l) (upd H1 l (.lst ys.reverse))
theorem b4{C p2 Tn IL:Pos}{e:Expr}{t:TA}(G:X.calm=true)(Vo:Gl X "list")(OZ:X.mg "list"=none)(YY:Gl X "reversed")(Rw:X.mg "reversed"=none)(g:QA X [e] t)
  (F:starEach [e] X.env=[(false,eval e X.env)]:=by rfl) (Ll:starEach [.Call (.Name "reversed" p2) [e] [] IL] X.env=[(false,eval (.Call (.Name "reversed" p2) [e] [] IL) X.env)]:=by rfl) :
  QE X (.Call (.Name "list" C) [.Call (.Name "reversed" p2) [e] [] IL] [] Tn) (fD X.K t):=⟨by
 have g:=g.h;intro Zb s Z H Q I h;refine tQ (Jj I Vo OZ (show bootBuiltins "list"=some (.type "list") by decide +kernel) ?_ (by decide) (by decide));refine Pa ?_ Ll rfl;rw[Ll];show wpAny _ _ (spliced ((false,eval (.Call (.Name "reversed" p2) [e] [] IL) X.env)::[])) _ _ s;refine jh ?_;refine tQ (Jj I YY Rw (show bootBuiltins "reversed"=some (.type "reversed") by decide +kernel) ?_ (by decide) (by decide));refine Pa (AR (g IL Zb s Z H _ I h) λus s1⟨vs,H1,I1,z,B⟩=>?_) F rfl;obtain⟨a,tp,ys,rfl,E,rfl,q⟩:=B;obtain⟨u,rfl,p⟩:=vals1 z;cases p;have k:∀(A5:List Value)(D:Addr)(s2 s':Shared)(acc:Array Value)(c:Nat)(tk:Nat)(ob:Obj),Vals ys A5->ys.length<=sizeLine->D=s1.heap.objs.size->s2={ s1 with heap:=s1.heap.push ob,toks:=tk }->
   Moved [s2.heap.objs.size,D] (λa b=>b=a) { s2 with heap:=s2.heap.push { cls:=.type "list", data:=.seq #[] } } s'->s'.heap.get? s2.heap.objs.size=some { cls:=.type "list", dict:=none,data:=.seq acc c,slots:=#[] }->
   ItemsOf (λi v=>A5.toArray[A5.toArray.size - 1 - i]?=some v) acc A5.toArray.size->EP X Zb Z Q (.ref s2.heap.objs.size) s':=by
  intro A5 D s2 s' acc c tk ob r hz N O d j Au;subst N;subst O;obtain⟨us,x,rfl⟩:=ZCE r Au;obtain⟨h',g',d',y,Xm⟩:=s';have L:g'=s1.gens:=d.gens;have M:d'=s1.drawn:=d.drawn;have J:Xm=s1.os:=d.os;subst L;subst M;subst J;have hsz:(s1.heap.push ob).objs.size=s1.heap.objs.size+1:=Hx ..;have kp:∀b o,s1.heap.get? b=some o->h'.get? b=some o:=λb o e=>by
   have f:=BE e;refine d.heap b o ?_ (BZ _ (BZ _ e));show b∉[(s1.heap.push ob).objs.size,s1.heap.objs.size];rw[hsz];simp only[Gq,B3,yO,not_or];exact⟨C0 (N7 f),C0 f⟩
  refine⟨.ref _,_,I1.laid (a:=(s1.heap.push ob).objs.size) (t':=y) kp (by rw[hsz];exact Gr _) (show C1 X.prog X.w _ h' _ (.lst ys.reverse)from⟨by rw[LL];exact hz,us,c,x,j⟩),rfl,q _ (I1.AN.fresh (by show _<=_;rw[hsz];exact Gr _))⟩
 have hh:X.A.handled=none:=I1.ok.hd G;obtain⟨A5,r,pl,hz⟩:=I1.list E;have l:=r.length;refine call_reversed_list pl.isList ?_;refine ji ?_;obtain⟨o,n,ho,_⟩:=id pl;have m:=BE ho;have R:a≠s1.heap.objs.size:=C0 m;have P:0<=A5.toArray.size/\Heap.IsRevIter (s1.heap.push (revObj a ((A5.toArray.size:Int) - 1))) s1.heap.objs.size a ((A5.toArray.size:Int) - 1 - ((0:Nat):Int))/\Heap.IsList (s1.heap.push (revObj a ((A5.toArray.size:Int) - 1))) a A5.toArray:=
  ⟨Bm _,⟨_,CA _ rfl,rfl,by simp[revObj]⟩,pl.isList.push _⟩
 refine ZAE (I:=s1.heap.objs.size) (s:={ s1 with heap:=s1.heap.push (revObj a ((A5.toArray.size:Int) - 1)) }) (Walks.listRev (prog:=X.prog) (w:=X.w) (A:=X.A.in1.in1) hh s1.heap.objs.size a R A5.toArray).toS (λi s st=>st.2.1.typeIs) P ?_ (by simp) ?_ (by simp;omega)
 .intro b f;show b<(s1.heap.push _).objs.size;rw[Hx];rcases List.mem_cons.mp f with h|h
  .rw[h];exact ZA _
  .have:b=a:=by simpa using h
   rw[this];exact N7 m
 .intro s' acc c d j Au;exact k A5 s1.heap.objs.size { s1 with heap:=s1.heap.push (revObj a ((A5.toArray.size:Int) - 1)) } s' acc c s1.toks (revObj a ((A5.toArray.size:Int) - 1)) r hz rfl rfl d j Au⟩
variable{Zb:ZEf}{Z:St}{H:Hp}{s:Shared}
end
end L2
namespace Fz
open L2 Lw
def cZ:Sp:=λvs H Q _=>∃(a:Addr)(tp:Bool)(ns:List Str)(lo hi:Nat),vs=[.ref a,.int lo,.int hi]/\H a=some (BU tp (ns.map V.str))/\tp=false/\ns.length<=1000/\lo<=hi/\hi<=ns.length/\LS H Q (FH ns lo hi)
def W9:Sp:=λvs H Q _=>∃(a t:Addr)(tp:Bool)(ns:List Str)(d:AO),vs=[.ref a,.ref t]/\H a=some (BU tp (ns.map V.str))/\H t=some (.tup d.vals)/\tp=false/\d.Ok 40 ns/\ns.length<=40/\LS H Q (d.done ns)
section
variable[Xw]
variable{ss:List Slot}{te:TE}{K:ZEe}{ta tb tc:TE}{k:PV->Prop}
theorem ZAQ{k:List PV->Prop}(h:Wz ss te λtp xs=>tp=false/\k (Kf xs)):Wi ss (VL K (AU te B5)) k:=⟨λE Z F H R S q=>
 h.go E Z F H _ S λv tp xs F1 H1 b f AG=>by
  obtain⟨n,kk⟩:=AG;subst n;obtain⟨l,vs,j,a,r⟩:∃l vs,v=.ref l/\(∀(ss:List Slot)(Z:L2.St)(F H:Hp),A8 F1 F->Sg E ss Z F H->H l=some (.lst vs))/\Ad F1 vs xs:=by
   obtain⟨l,vs,e,h1,r⟩:=f;refine⟨l,vs,e,λss Z F H s S=>?_,r⟩;rcases h1 with h1|⟨hA,h1⟩
   .exact S.fh _ _ (s _ _ h1)
   .exact S.keep _ _ hA h1
  subst j;refine⟨l,vs,rfl,AJ.of (a ss Z F1 H1 (A8.refl _) b.st),q _ (Kf xs) F1 H1 b ⟨λss Z F H i s S hi=>?_,λss Z F H s S=>?_,λss Z F H i x H' s S hi y=>?_⟩ kk⟩
  .rw[SX]at hi;exact⟨AJ.of (a ss Z F H s S),by rw[r.length];exact hi⟩
  .refine⟨AJ.of (a ss Z F H s S),?_⟩;rw[SX,r.length];exact Ap _
  .obtain⟨p,y,d,ex,g,o⟩:=y;subst ex;subst o;obtain⟨z,hz,c⟩:=r.get' d;have m:=S.alloc g (.tup [.int i,y]);exact⟨_,_,ik hz,m,.tup AH (.cons (.int _) (.one (c.mono (s.trans m.ff))))⟩⟩
theorem xn{k:List PV->Prop}(h:Wq ss ta λtp xs=>tp=false/\∃ns:List Str,xs=ns.map PV.str/\Wp ss tb λp=>∃d:AO,p=dP d/\d.Ok 40 ns/\ns.length<=40/\k ((d.done ns).map PV.str)):
  Wn ss (C9 W9 [] E0 (AU ta (AU tb B5))) k:=⟨λE Z F H Q S q=>
 h.go E Z F H _ S λv tp xs F1 H1 c sv⟨Kr,ns,ex,h2⟩=>h2.go E Z F1 H1 _ c.st λw p2 F2 H2 b g⟨d,o,hd,hz,kk⟩=>by
  subst ex;subst o;obtain⟨l,vs,m,e,r⟩:=(sv.mv b).seq b.st;subst m;rw[r.strs]at e;obtain⟨t,n,j⟩:=SM g;subst n;refine⟨l,t,tp,ns,d,rfl,e,b.st.fh _ _ j,Kr,hd,hz,λa H3 f s u=>?_⟩;have i:=b.st.grow s;exact q a _ _ F2 H3 (c.trans (b.trans i)) (b.st.Bj f) ((c.trans b).none f) u (MF _) kk⟩
theorem mI(h:Wq ss ta λtp xs=>∃ns:List Str,xs=ns.map PV.str/\Wp ss tb λp=>∃(r:Str)(g:Nat)(cs:List Str),p=CY r g cs/\Wp ss tc λp2=>∃x:Str,p2=.str x/\cs.length<64/\x∈ns/\k (CY r (ns.idxOf x+1) (wo cs x))):
  Wp ss (C9 (U4 K) [] E0 (AU ta (AU tb (AU tc B5)))) k:=⟨λE Z F H Q S q=>
 h.go E Z F H _ S λv tp xs F1 H1 c sv⟨ns,ex,h2⟩=>h2.go E Z F1 H1 _ c.st λz p2 F2 H2 b m⟨r,g,cs,s,o⟩=>o.go E Z F2 H2 _ b.st λy A F3 H3 a j⟨x,t,hz,hx,kk⟩=>by
  subst ex;subst s;subst t;cases j.inv;obtain⟨l,vs,rfl,e,f⟩:=(sv.mv (b.trans a)).seq a.st;rw[f.strs]at e;obtain⟨tl,c0,rfl,d⟩:=SG (m.mono a.ff);have w:=d.same a.st.fh;refine⟨l,tp,ns,tl,r,g,cs,x,rfl,e,⟨c0,w⟩,hz,hx,λt' B H4 GR Fh s4 u=>?_⟩;obtain⟨F4,n,_,i⟩:=(a.st.grow s4).Qp a.st GR (.inl Fh) d.2 u;exact q _ _ F4 H4 (c.trans (b.trans (a.trans n))) i kk⟩
end
theorem ZC9{ns:List Str}{es:List LE}{s:Ls}(h:runs (CO ns) es=some s){i:Nat}{e:LE}(a:es[i]?=some e){s1:Ls}(h1:runs (CO ns) (es.take i)=some s1):∃s2,EX s1 e=some s2:=by
 cases g:EX s1 e with
 |some s2=>exact⟨s2,rfl⟩
 |none=>exact absurd h (yz ⟨s1,e,h1,a,g⟩)
end Fz
namespace L2
variable{X:Cx}{Zb:ZEf}{Z:St}{H H2:Hp}{s s2:Shared}{a b it:Addr}{prog:Program}{w:World}{A:Around}{E:Value->Shared->Prop}{e elt o:Expr}{te to:TE}{pos tp:Pos}{ifs:List Expr}{tk:Nat}{outer scope:Scope}{js:List Nat}{tt:TT}{J:It}{fp:List Addr}{tn:Nat->Heap->Prop}{N zs:List Str}{wi:TI}
open AutoSeq1 (wpAny_loadPart')
section
variable{M:Model}{env:Env}
variable{lo hi:Option Expr}{tl th:TO}{p2:Pos}
theorem gU{α:Type}(xs:List α):∀k:Nat,k<=xs.length->((List.range k).map λi=>xs.length - 1 - i).filterMap (xs[·]?)=xs.reverse.take k
 | 0,_=>by simp
 |k+1,h=>by
  rw[List.range_succ,E4,List.filterMap_append,gU xs k (by omega),List.take_succ]
  congr 1
  rw[ZDa (by omega)];show List.filterMap _ [xs.length - 1 - k]=_;cases h2:xs[xs.length - 1 - k]? <;> simp[h2]
theorem ZCW(xs:List Value):slicePick xs.toArray none none (some (-1))=xs.reverse.toArray:=by
 unfold slicePick
 congr 1
 have e:sliceRange (sliceBounds none none (some (-1)) xs.toArray.size).1 (sliceBounds none none (some (-1)) xs.toArray.size).2.1 (sliceBounds none none (some (-1)) xs.toArray.size).2.2=(List.range xs.length).map λi=>xs.length - 1 - i:=by
  simp only[sliceBounds,ZDq,show ¬ ((-1:Int) > 0) by decide,yT];unfold sliceRange;simp only[show ¬ ((-1:Int) > 0) by decide,yT,Bl]
  by_cases h:((xs.length:Int) - 1) > -1
  .rw[md h,show((xs.length:Int) - 1 - -1 - -1 - 1) / - -1=(xs.length:Int) by rw[show(- -1:Int)=1 from rfl,Int.ediv_one];omega,Sn];exact List.map_congr_left λk _=>by omega
  .have:xs.length=0:=by omega
   rw[mY h,this];rfl
 rw[e];have:=gU xs xs.length (Ap _);rw[Sy (by simp)]at this;rw[<- this];rw[show(λi:Nat=>xs.toArray[i]?)=λi=>xs[i]? from funext λi=>by simp]
def Tg(K:ZEe)(te:TE)(ts:TO):TE:=λZ H Q=>te Z H λx H1=>ts Z H1 λo H2=>∃a xs,x=.ref a/\o=some (-1)/\AJ K H2 a xs/\∀l,H2 l=none->Q (.ref l) (upd H2 l (.lst xs.reverse))
theorem uJ{st:Expr}{ts:TO}(f:QE X e te)(hs:QO X (some st) ts):QE X (.Subscript e (.Slice none none (some st) p2) pos) (Tg X.K te ts):=⟨by
 have f:=f.h;have hs:=hs.h;intro Zb s Z H Q I h;refine Subscript_ (AR (f Zb s Z H _ I h) λv s1⟨x,H1,I1,j,l⟩=>?_);refine wpAny_Slice ?_;rw[evalPart_none];refine oo (oo (AR (hs Zb s1 Z H1 _ I1 l) λvs c⟨b,H3,I3,m,k⟩=>?_));obtain⟨a,xs,rfl,rfl,hx,q⟩:=k;cases j;have g:Inv X Zb Z H3 { c with heap:=c.heap.push { cls:=.type "slice", data:=.fields #[.none,.none,vs] } }:=I3.kept (t':=c.toks) λb ob q=>BZ _ q
 obtain⟨A5,i,pl,hz⟩:=g.list hx;have d:=i.length;show wpAny (model X.prog X.w) X.A (subscriptTail e (.Slice none none (some st) p2) (.ref a) (.ref c.heap.objs.size)) (EP X Zb Z Q) X.xe { c with heap:=c.heap.push { cls:=.type "slice", data:=.fields #[.none,.none,vs] } }
 refine tail_any (ops:=[.ref a,.ref c.heap.objs.size]) pl.isList.typeIs slot_list_getitem.lookup (xj pl.isList (Heap.IsSliceOf.new ..) .none .none m (by decide) ?_ (by rw[Bl,<- d];exact hz)) (by with_unfolding_all rfl);rw[ZCW];exact⟨.ref _,_,g.Uk (t':=c.toks) i.reverse (by rw[LL];exact hz),rfl,q _ g.fresh⟩⟩
variable{P:Program}{h:Heap}
variable{v:V}{r:Value}{k:List Bool}{A3:List (List Bool×V)}
variable{i value:Expr}{pos' P1:Pos}{td ty tv:TE}
variable{iter:Expr}{x z:Str}{px pz:Pos}{AZ:List Str}
end
structure LW (N:List Str) (outer scope:Scope) (zs:List Str) (AZ:List Str) (js:List Nat):Prop where
 kind:scope.kind=.function
 L1:∀y∈scope.names,y.2≠.cell
 loc:∀y∈scope.names,y.2=.local->scope.names.lookup y.1=some .local
 KN:∀x∈zs,scope.names.lookup x=some .local
 at':js.map (λj=>N[j]?)=AZ.map some
 cell:∀y∈AZ,outer.names.lookup y=some .cell
 free:∀y∈AZ,scope.names.lookup y=some .free
 all:∀y∈scope.names,y.2=.free->outer.names.lookup y.1=some .cell
 nd:(AZ++zs).Nodup
def Qw(K:ZEe)(n:Nat)(wi:TI)(js:List Nat)(tt:TT)(te:TE):TE:=λZ H Q=>wi Z H λJ H1=>∀acc,H1 acc=none->VU K n J js tt te Z H1 acc Q
section
variable{iter:Expr}{es:List Expr}{AZ:List Str}
theorem LW.G(S:LW N outer scope zs AZ js):Eh N outer scope none zs AZ js:=.eV S.kind S.L1 S.loc S.at' S.cell S.free S.all S.nd
theorem sG(a:X.calm=true)(S:LW X.N X.env.scope scope zs AZ js)(Nx:KJ zs es)(M0:∀e,(assignEach es e).length=zs.length)(Hn:∀e,(assignEach es e).findIdx? (·.1)=none)(hi:PI X (.Tuple es tk tp) iter wi)
  (DW:∀fp C s H,Hm (GX X (AZ++zs) scope (C3 X.env.cells scope.names) C s H fp) ifs tt) (Di:∀fp C s H,PE (GX X (AZ++zs) scope (C3 X.env.cells scope.names) C s H fp) elt te)
  (hs:∀v,foldedSetIterable iter X.env v=pure v:=by intro _;rfl):PE X (.ListComp elt [⟨.Tuple es tk tp,iter,ifs,0⟩] scope pos) (Qw X.K zs.length wi js tt te):=
 i8 (CW:=λJ Z H1 acc Q=>VU X.K zs.length J js tt te Z H1 acc Q) (yD S.G) a S.G hi (λ_ _ _ _=>kO a S.G S.KN Nx M0 Hn) DW Di hs
theorem ZO(a:X.calm=true)(S:LW X.N X.env.scope scope zs AZ js)(Nx:KJ zs es)(M0:∀e,(assignEach es e).length=zs.length)(Hn:∀e,(assignEach es e).findIdx? (·.1)=none)(hi:QI X (.Tuple es tk tp) iter wi)(DW:∀fp C s H,P9 (GX X (AZ++zs) scope (C3 X.env.cells scope.names) C s H fp) ifs tt)(Di:∀fp C s H,QE (GX X (AZ++zs) scope (C3 X.env.cells scope.names) C s H fp) elt te)
  (hs:∀v,foldedSetIterable iter X.env v=pure v:=by intro _;rfl):QE X (.ListComp elt [⟨.Tuple es tk tp,iter,ifs,0⟩] scope pos) (Qw X.K zs.length wi js tt te):=⟨sG a S Nx M0 Hn hi.h (λfp C s H=>(DW fp C s H).h) (λfp C s H=>(Di fp C s H).h) hs⟩
variable{z TI TO i1 i2 l1 l2:Addr}{k:Nat}{t1 t2:Bool}{xs ys:Array Value}{x y a b:Value}
end
end L2
namespace Fz
open L2 Lw
section
variable[Xw]
variable{ss:List Slot}{te:TE}{K:ZEe}{P:Program}{w:World}
variable{E:Ent0}{Z:L2.St}{F H F' H':Hp}{js:List Nat}{ta tb:TE}
theorem pk{n:Nat}{wi:TI}{tt:TT}{te:TE}{k:List PV->Prop}(f:PV->Bool)(g:PV->PV)
  (h:Wi ss wi λxs=>xs.length<=100000/\(∀x∈xs,∃as:List PV,x=.tup as/\as.length=n/\Wt (DP js ss++as.map .is) tt (λc=>c=f x)/\(f x=true->Wp (DP js ss++as.map .is) te λp=>p=g x))/\k ((xs.filter f).map g))
  (nd:js.Nodup:=by decide) (np:R4 js ss=true:=by rfl):Wn ss (Qw K n wi js tt te) k:=⟨λE Z F H Q S q=>
 h.go E Z F H _ S λJ xs F1 H1 d D⟨hz,W,kk⟩acc Au=>by
  have R:CQ ss Z acc:=d.st.Le Au;have Ua:=d.st.Ew Au;have Vt:∀(i:Nat)s,ss[i]?=some s->¬ BI s Z[i]? acc:=λi s hi=>d.st.NC hi Au;refine⟨λi m H2=>m=xs.length - i/\i<=xs.length/\∃F2 vs,Mv E ss Z F1 H1 F2 H2/\F2 acc=none/\H2 acc=some (.lst vs)/\Ad F2 vs (((xs.take i).filter f).map g),⟨_,rfl,Bm _,F1,[],d.st.make Au _,d.st.Bj Au,AH,.nil⟩,?_⟩;rintro i m H2⟨rfl,hi,F2,vs,b,L,A,u⟩
  by_cases t:i<xs.length
  .refine .inr ⟨D.go ss Z F2 H2 i b.ff b.st t,λx H3 y=>?_⟩;obtain⟨p,F3,G,z,I⟩:=D.FC ss Z F2 H2 i x H3 b.ff b.st t y;have SF:p∈xs:=Cr G;have Jf:(xs.take (i+1))=xs.take i++[p]:=by
    have e2:xs[i]=p:=by rw[BA t]at G;exact BL G
    rw[Sz t,e2]
   have M:List.filter f (xs.take (i+1))=(xs.take i).filter f++(if f p=true then[p]else[]):=by
    rw[Jf,Sq];congr 1
    by_cases j:f p=true <;> simp[j]
   have O:∀{F4:Hp},(∀a o,F4 a=some o->F2 a=some o∨H2 a=none)->F4 acc=none:=λ{F4}n=>by
    cases e:F4 acc with
    |none=>rfl
    |some o=>
     rcases n acc o e with w|w
     .rw[L]at w;cases w
     .rw[A]at w;cases w
   obtain⟨as,σ,hn,V,hw⟩:=W p SF;rw[σ]at I;obtain⟨_,_,rfl,e,r⟩:=I.inv;refine⟨_,_,rfl,AA.of (z.st.fh _ _ e),by rw[r.length,hn],?_⟩;have S3:=z.st.AZ (js:=js) nd r;refine V.go E _ F3 H3 _ S3 λc F4 H4 U X=>?_;have N:=U.out (ps:=as) z.st np;have l:=z.trans N;show if c=true then _ else _
   rw[X]
   by_cases j:f p=true
   .rw[md j];have S4:=l.st.AZ (js:=js) nd (r.mono N.ff);refine(hw j).go E _ F4 H4 _ S4 λw pw F5 H5 T OX Y=>?_;have UN:=T.out (ps:=as) l.st np;have B:=l.trans UN;have Tj:=B.hh acc _ R A;have P:=O B.nn;have v:vs.length<=99999:=by
     rw[u.length,AW];have:=PR f (xs.take i);rw[CK]at this;omega
    refine⟨vs,Tj,Lb v,xs.length - (i+1),by omega,rfl,t,F5,vs++[w],?_,P,AH,?_⟩
    .have C:=b.trans B;refine⟨C.st.Po P (.inl Ua) Vt,C.ff,λa o n e=>?_,C.nn⟩;rw[Af (E8 e Au)];exact C.hh a o n e
    .rw[M,md j,E4];rw[Y]at OX;exact(u.mono B.ff).append (.one OX)
   .have OH:f p=false:=by simpa using j
    rw[OH,mY (by decide)];refine⟨xs.length - (i+1),by omega,rfl,t,F4,vs,b.trans l,O l.nn,l.hh acc _ R A,?_⟩;rw[M,mY j,GA];exact u.mono l.ff
  .have e:i=xs.length:=by omega
   subst e;refine .inl ⟨D.stop ss Z F2 H2 b.ff b.st,q acc vs _ F2 H2 (d.trans b) L (d.none Au) A ?_ kk⟩;rw[LP]at u;exact u⟩
end
end Fz
namespace Fz
open L2 Lw
variable{ss:List Slot}{a a0:Addr}
section
variable[Xw]
variable{K:ZEe}{ta tb tc te ti t1 t2:TE}{u1 u2:TT}{nx:List Slot->Prop}{R:Ar}{xs ps:List PV}{i j:Nat}{t:OV}{lt:Bool}{js:List Nat}
structure dy (ss:List Slot) (g:TG) (u:OV) (k:List Slot->Prop):Prop where
 go:∀(E:Ent)(Z:L2.St)(F H:Hp)(v:V)(Q:L2.St->Hp->Prop),Sg E ss Z F H->B9 F H v u->(∀AI σ',k AI->Sg E AI σ' F H->Q σ' H)->g v Z H Q
theorem kz{g:TG}{tb:TS}(N:Nat)(I:Nat->List Slot->Prop)(h:I 0 ss)(st:∀n AI,n<=N->I n AI->∃lt us,AI[i]?=some (.ow lt (.nd .lst a0 us))/\us.length=N/\(n<N->∃u,us[n]?=some u/\dy AI g u λCd=>Ws Cd tb (I (n+1)) R))(hd:∀AI,I N AI->nx AI):
  Ws ss (QP (VF K (B1 i)) g tb) nx R:=⟨λE D Z F H S hn hr=>by
 have look:∀{AI:List Slot}{σ':L2.St}{F' H':Hp}{lt:Bool}{us:List OV},Sg E AI σ' F' H'->AI[i]?=some (.ow lt (.nd .lst a0 us))->σ'[i]?=some (some (.ref a0))/\∃vs,H' a0=some (.lst vs)/\BD F' H' vs us:=λ{AI σ' F' H' lt us}S hi=>by
  obtain⟨v,e,r,_,_⟩:=S.ok i _ hi;obtain⟨_,rfl,B,_,_,q⟩:=r.inv;exact⟨e,_,B,q⟩
 obtain⟨lt,us,hi,J,_⟩:=st 0 ss (Bm _) h;obtain⟨e,vs,z,G⟩:=look S hi;refine⟨_,e,a0,rfl,⟨vs,AJ.of z⟩,?_⟩;refine⟨λn m σ' H'=>m=N - n/\n<=N/\∃AI F',I n AI/\Sg E AI σ' F' H'/\A8 F F',⟨_,rfl,Bm _,ss,F,h,S,A8.refl _⟩,?_⟩;rintro n m σ' H'⟨rfl,OR,AI,F',f,S',s'⟩;obtain⟨t,us',E7,DG,tn⟩:=st n AI OR f;obtain⟨_,C5,IB,j⟩:=look S' E7;have ll:=j.length
 by_cases k:n<N
 .obtain⟨u,A,l⟩:=tn k;obtain⟨v,Zq,d⟩:=j.get A;refine .inr ⟨⟨C5,v,AJ.of IB,Zq⟩,λσ2 H2=>∃Cd F2,I (n+1) Cd/\Sg E Cd σ2 F2 H2/\A8 F F2,λσ2 H2 AG=>by obtain⟨Cd,F2,a,b,c⟩:=AG;exact⟨_,by omega,rfl,k,Cd,F2,a,b,c⟩,λx H3 y=>?_⟩;obtain⟨C,hx⟩:=y;subst C;have ex:x=v:=by
   have:=hx C5 (AJ.of IB);rw[Zq]at this;exact(BL this).symm
  subst ex;refine l.go E σ' F' H3 _ _ S' d λo σ4 w S4=>?_;exact w.go E _ σ4 F' H3 S4 (λXt σ5 F5 H5 s S5 p=>⟨Xt,F5,s,S5,s'.trans p⟩) hr
 .have e:n=N:=by omega
  subst e;refine .inl ⟨⟨C5,AJ.of IB,by omega⟩,?_⟩;exact hn _ _ F' H' (hd _ f) S' s'⟩
end
end Fz
namespace Fz
open L2 Lw
variable{l ss:List Slot}{ps xs:List PV}{pre:Pre}
theorem Sg.ky{F H:Hp}(fh:A8 F H){vs:List V}(c:l.length=vs.length)(ok:∀(n:Nat)s,l[n]?=some s->∃v p,vs[n]?=some v/\s=.is p/\Rep F v p):Sg ⟨[],F,H,[]⟩ l (vs.map some) F H:=by
 refine⟨⟨fh,A8.refl _,λ_ _ _ e=>e,λ_ _ e=>.inl e,λx h=>absurd h B3,λx h=>absurd h B3,λx h=>absurd h B3,λx h=>absurd h B3,λx h=>absurd h B3,λx h=>absurd h B3⟩,by rw[AW];exact c,λn s hn=>?_,λn j s u x g hn f b d=>?_⟩
 .obtain⟨v,p,a,rfl,r⟩:=ok n s hn;rw[BG,a];exact⟨v,rfl,r⟩
 .obtain⟨v,p,a,rfl,r⟩:=ok n s hn;cases b
def oK(F H:Hp):@Ent jC:=@Ent.mk jC ⟨[],F,H,[]⟩ λ_ _ _ _ _ _ _ _ _ d _=>d.elim
theorem Zn{F:Hp}:∀n:Nat,Ad F (List.replicate n (V.bl true)) (List.replicate n (PV.bl true))
 | 0=>.nil
 |n+1=>by rw[ZDh,ZDh];exact .cons (.bl true) (Zn n)
theorem lS{T1 T2:TE}{σ3:L2.St}{F0 H3:Hp}{σ:VK}{v1 v:V}{p:PV}(m:∀Q1:VK,Q1 v1 H3->T1 σ3 H3 Q1)(l:∀Q1:VK,Q1 v H3->T2 σ3 H3 Q1)(hw:Wp [.is p,.is p] (C9 (BN pre) [] E0 (AU (B1 0) (AU (B1 1) B5))) λq=>q=.bl true)(fh:A8 F0 H3)(g:Rep F0 v1 p)(f:Rep F0 v p)(go:∀H5,(∀b u,H3 b=some u->H5 b=some u)->σ (.bl true) H5):
  C9 (BN pre) [] E0 (AU T1 (AU T2 B5)) σ3 H3 σ:=by
 refine m _ (l _ ?_);have z:=hw.go (oK F0 H3) ([v1,v].map some) F0 H3 σ (Sg.ky fh rfl λi s hi=>?_) λn o F5 H5 h c k=>?_
 .obtain⟨_,ea,_,j,z⟩:=z;cases ea;cases j;exact z
 .match i,hi with
  | 0,hi=>cases hi;exact⟨_,_,rfl,rfl,g⟩
  | 1,hi=>cases hi;exact⟨_,_,rfl,rfl,f⟩
  |i+2,hi=>simp at hi
 .subst k;cases c.inv;have a:∀d,CQ [.is p,.is p] ([v1,v].map some) d:=λd i hi=>by
   match i,hi with
   | 0,hi=>cases hi
   | 1,hi=>cases hi
   |i+2,hi=>simp at hi
  exact go H5 λd u e=>h.hh d u (a d) e
theorem uE{K:ZEe}{jF jS:Nat}{q0:PV}{ks:List Key}{ns:List Str}{k:List PV->Prop}
  (hF:ss[jF]?=some (.is (.tup [q0,.Ai (Ab ns) ps]))) (hS:ss[jS]?=some (.is (.Ai ks xs))) (hv:Hq ks xs (.inr "live")=some (.Ai (Ab ns) ps)) (nd:ns.Nodup) (hl:ns.length<=1000)
  (h2:∀p∈ps,Dr p=true/\Wp [.is p,.is p] (C9 (BN pre) [] E0 (AU (B1 0) (AU (B1 1) B5))) λq=>q=.bl true) (hk:k (List.replicate ns.length (.bl true))) :
  Wn ss (Tx (Ks (Xx (Fx (B1 jS) (tC (V.str "live")))) [jF,jS] M5 (C9 (BN pre) [] E0 (AU (Fx (Br (Ht K) (B1 0) (tC (V.int 1))) (B1 2)) (AU (Fx (Fx (B1 1) (tC (V.str "live"))) (B1 2)) B5))))) k:=⟨λE Z F H Q S q=>by
 obtain⟨vF,eF,rF⟩:=S.ok jF _ hF;obtain⟨Y,P,rS⟩:=S.ok jS _ hS;obtain⟨g,fs,rfl,A,i⟩:=rF.inv;obtain⟨w0,_,rfl,_,i⟩:=i.inv;obtain⟨w1,_,rfl,rD,i⟩:=i.inv;cases i.D8;obtain⟨B,wF,rfl,hD,lD,X⟩:=rD.inv;obtain⟨b,Y,rfl,M,lB,rB⟩:=rS.inv;obtain⟨vL,T,rL⟩:=cx rB lB hv;obtain⟨f,ws,rfl,j,lK,rk⟩:=rL.inv;have D:H f=some (.dK ((Ab ns).zip ws)):=S.fh _ _ j;have kl:(Ab ns).length=ns.length:=by unfold Ab;rw[AW]
 have rd:∀(H3:Hp)(o:Obj),(∀d u,d≠f->F d=some u->H3 d=some u)->H3 f=some (.CM o (.dK ((Ab ns).zip ws)))->∀(d:Addr)(A3:List (Key×V)),F d=some (.dK A3)->Rd H3 d (.dK A3):=λH3 o h1 h3 d A3 e=>by
  by_cases c:d=f
  .subst c;rw[j]at e;cases e;exact .inr ⟨o,h3⟩
  .exact .inl (h1 d _ c e)
 refine⟨f,_,D,.ref b,P,b,.ref f,rfl,.inl ⟨_,.inr "live",.inl (S.fh _ _ M),rfl,T.symm⟩,f,_,rfl,D,λo acc Au=>?_⟩;have t:acc≠f:=λz=>by rw[z,AH]at Au;cases Au
 have l:H acc=none:=by rw[Af t]at Au;exact Au
 have G:((Ab ns).zip ws).length=ws.length:=by rw[N6];omega
 refine⟨λn m H2=>m=ws.length - n/\n<=ws.length/\H2 acc=some (.lst (List.replicate n (V.bl true)))/\∀b u,b≠acc->upd H f (.CM o (.dK ((Ab ns).zip ws))) b=some u->H2 b=some u,⟨_,rfl,Bm _,AH,λb u hb e=>by rw[Af hb];exact e⟩,?_⟩;rintro n m H2⟨rfl,hn,N,r⟩;have s:H2 f=some (.CM o (.dK ((Ab ns).zip ws))):=r f _ (BP t) AH;have W:F acc=none:=by
  cases e:F acc with
  |none=>rfl
  |some u=>rw[S.fh _ _ e]at l;cases l
 have C:∀d u,d≠f->F d=some u->H2 d=some u:=λd u hd e=>by
  refine r d u (λz=>by rw[z,W]at e;cases e) ?_;rw[Af hd];exact S.fh d u e
 by_cases U:n<ws.length
 .refine .inr ⟨⟨s,by rw[G];exact U⟩,λx H3 y=>?_⟩;obtain⟨eH,w,v,YI,ex⟩:=y;subst eH;subst ex;obtain⟨g1,O⟩:=j7 YI;unfold M5;dsimp only;rw[md rfl];obtain⟨x,hx,ek⟩:∃x,ns[n]?=some x/\(Sum.inr x:Key)=w:=by
   unfold Ab at g1;rw[BG]at g1;exact Option.map_eq_some_iff.mp g1
  subst ek;obtain⟨p,L,rp⟩:=rk.get' O;obtain⟨v1,g3,r1⟩:=X.get L;obtain⟨np,hw⟩:=h2 p (Cr L);have es:BW [jF,jS] Z++[some (kV (.inr x))]=[V.ref g,.ref b,.str x].map some:=by
   show[(Z[jF]?).join,(Z[jS]?).join]++_=_;rw[eF,P];rfl
  rw[es];have I:∀a∈[f],∀vs,F a≠some (.tup vs):=λa ha vs=>by rw[List.mem_singleton.mp ha,j];simp
  have lP:A8 (FW F [f]) H3:=λd u e=>by
   unfold FW at e;split at e
   .cases e
   .next c=>exact C d u (λz=>c (by rw[z];simp)) e
  have mF:g≠f:=λz=>by rw[z,j]at A;cases A
  have R:=rd H3 o C s;refine lS (λQ1 h=>⟨.ref g,rfl,g,_,1,.ref B,rfl,rfl,AA.of (C g _ mF A),rfl,.str x,rfl,B,v1,rfl,.inl ⟨_,.inr x,R B _ hD,rfl,(W7 (Gh nd) g1 g3).symm⟩,h⟩) (λQ1 h=>⟨.ref b,rfl,b,.ref f,rfl,.inl ⟨_,.inr "live", R b _ M,rfl,T.symm⟩,.str x,rfl,f,v,rfl,.inl ⟨_,.inr x,R f _ j,rfl,(W7 (Gh nd) g1 O).symm⟩,h⟩) hw lP (r1.sub I np) (rp.sub I np) λH5 J=>?_;refine⟨_,J acc _ N,Lb (by rw[jr];omega),ws.length - (n+1),by omega,rfl,U,?_,λd u hd e=>by rw[Af hd];exact J d u (r d u hd e)⟩;rw[AH,List.replicate_succ']
 .have e:n=ws.length:=by omega
  subst e;refine .inl ⟨⟨s,G.symm⟩,o,_,s,?_⟩;have σ:A8 H (upd H2 f (.dK ((Ab ns).zip ws))):=λd u e=>by
   by_cases c:d=f
   .subst c;rw[AH,<- D,e]
   .rw[Af c];exact r d u (λz=>by rw[z,l]at e;cases e) (by rw[Af c];exact e)
  refine q acc _ _ F _ (S.grow σ) (S.Bj l) l (by rw[Af t];exact N) (Zn _) ?_;rw[<- lK,kl];exact hk⟩
end Fz
namespace L2
section
variable{X:Cx}{o:Expr}{td:TE}{apos Bz:Pos}
def aq(td:TE):TE:=λZ H Q=>td Z H λv H1=>∃(p:Addr)(A3:List (Key×V)),v=.ref p/\H1 p=some (.dK A3)/\Q .AE (upd H1 p (.dK []))
theorem tm(ho:QE X o td)(P5:attributeBase o "clear" X.env (eval o X.env)=eval o X.env:=by rfl)(O9:(apos.endLine == Bz.line)=true:=by rfl):QE X (.Call (.Attribute o "clear" apos) [] [] Bz) (aq td):=⟨by
 intro Zb s Z H Q I h;refine wpAny_Call_method0_late P5 O9 (AR (ho.h Zb s Z H _ I h) λv s1 z=>?_);obtain⟨x,H1,I1,a,p,A3,ex,d,q⟩:=z;subst ex;obtain rfl:v=Value.ref p:=a;obtain⟨t1,t2,_⟩:=gh I1 (.inl ⟨A3,.inl d⟩);exact⟨"dict","dict.clear", ZDs,ZDu,PySem.F.type_dict_clear,t1,t2,jg rfl (PySem.evalArgs_none (yh I1 d λs' I'=>⟨.AE,_,I',rfl,q⟩))⟩⟩
end
end L2
namespace Fz
open L2 Lw
variable{ss:List Slot}{b c:Addr}
def MK(b c:Addr):Hp->V->Prop:=λF v=>∃t,v=.ref t/\F t=some (.tup [.ref b,.ref c])
section
variable[Xw]
variable{K:ZEe}{i j:Nat}{t:OV}{td:TE}{lt:Bool}{nx:List Slot->Prop}{R:Ar}{p:List Nat}{nk:NK}{us:List OV}
theorem kY(h:Wl ss i t td λp u=>∃lt a ks us,ss[i]?=some (.ow lt t)/\u=.nd (.Ai ks) a us/\nx (ss.set i (.ow lt (t.put p (.nd (.Ai []) a []))))):Ws ss (JT (aq td)) nx R:=⟨λE D Z F H S hn hr=>
 h.go E Z F H _ S λv p u F1 H1 d e Ay z=>by
  obtain⟨lt,a,ks,us,hi,j,kk⟩:=z;subst j;obtain⟨vs,g,f,k,n,l⟩:=e.inv;subst g;refine⟨a,_,rfl,f,?_⟩;have M:=Sg.UI (m:=[]) (u:=.fz .AE) (ks':=[]) (us':=[]) d.st d.st hi Ay (λb c=>by rw[OV.GW]at c;cases c) (by simp) .nil rfl (by rw[OV.Gi];exact LN) λb c=>by rw[OV.Gi]at c;cases c
  exact hn _ Z F1 _ kk M d.ff⟩
theorem zN{k:List Nat->OV->Prop}(h:ss[j]?=some (.raw (MK b c)))(hi:ss[i]?=some (.ow lt t))(Ay:t.at p=some (.nd nk b us))(g:k p (.nd nk b us)):Wl ss i t (Br (Ht K) (B1 j) (tC (V.int 0))) k:=⟨⟨lt,hi⟩,λE Z F H Q S q=>by
 obtain⟨v,e,⟨d,rfl,l⟩,_⟩:=S.ok j _ h;obtain⟨n,o,f,_,_⟩:=S.ok i _ hi;obtain⟨w,a,_⟩:=f.at Ay;have m:w=.ref b:=by cases a;rfl
 subst m;exact⟨_,e,d,_,0,_,rfl,rfl,AA.of (S.fh _ _ l),rfl,q _ p _ F H (.refl S) a Ay g⟩⟩
theorem kI{k:List Nat->OV->Prop}(h:ss[j]?=some (.raw (MK b c)))(hi:ss[i]?=some (.ow lt t))(Ay:t.at p=some (.nd nk c us))(g:k p (.nd nk c us)):Wl ss i t (Br (Ht K) (B1 j) (tC (V.int 1))) k:=⟨⟨lt,hi⟩,λE Z F H Q S q=>by
 obtain⟨v,e,⟨d,rfl,l⟩,_⟩:=S.ok j _ h;obtain⟨n,o,f,_,_⟩:=S.ok i _ hi;obtain⟨w,a,_⟩:=f.at Ay;have m:w=.ref c:=by cases a;rfl
 subst m;exact⟨_,e,d,_,1,_,rfl,rfl,AA.of (S.fh _ _ l),rfl,q _ p _ F H (.refl S) a Ay g⟩⟩
theorem wC{k:List Slot->Prop}{t:TA}{ns:List Int}(hi:ss[i]?=some (.raw (Co K ns)))(h:Wa ss t λl=>k (.raw (Co K ns.reverse)::l)):Wa ss (AU (Tg K (B1 i) (Oz (OT (rU λi=>V.int (-i)) (tC (V.int 1))))) t) k:=⟨λE Z F H Q S q=>by
 obtain⟨v,e,rs,_⟩:=S.ok i _ hi;refine⟨v,e,?_⟩;have wo:Wo ss (Oz (OT (rU λi=>V.int (-i)) (tC (V.int 1)))) (λo=>o=some (-1)):=iV (ay (BQ ⟨_,rfl,_,rfl,rfl⟩));refine wo.go E Z F H _ S λo F1 H1 b m=>?_;obtain⟨a,rfl,g⟩:=KD K ns _ F1 H1 b.st.fh (KD K ns _ F F1 b.ff rs);refine⟨a,_,rfl,m,g,λl j=>?_⟩;have d:=b.st.alloc j (.lst (ns.map V.int).reverse);refine h.go E Z _ _ _ d.st λvs l2 F3 H3 c f kk=>q _ _ F3 H3 (b.trans (d.trans c)) (.cons (s:=.raw (Co K ns.reverse)) ⟨?_,KD K ns.reverse _⟩ f) kk;refine KD K ns.reverse _ _ F3 c.ff ⟨l,rfl,?_⟩;rw[jv];exact AJ.of AH⟩
end
theorem pe{K:ZEe}[Xw]{n1 n2:Nat}{q:PV}{k1 k2:NK}{GP D6:List OV}{k:List Slot->Prop}(h:k ((ss.set n1 (.raw (MK b c))).set n2 (.is q))):dy ss (JI K 2 (FP (C7 n1) (FP (C7 n2) K7))) (.tp [.tp [.nd k1 b GP,.nd k2 c D6],.fz q]) k:=⟨λE Z F H v Q S r l=>by
 obtain⟨_,_,rfl,e,r⟩:=r.inv;obtain⟨_,_,rfl,a,r⟩:=r.inv;obtain⟨_,_,rfl,d,r⟩:=r.inv;obtain rfl:=r.D8;have d:Rep _ _ _:=d.inv;obtain⟨f,_,rfl,m,a⟩:=a.inv;obtain⟨_,_,rfl,i,a⟩:=a.inv;obtain⟨_,_,rfl,g,a⟩:=a.inv;obtain rfl:=a.D8;obtain⟨_,rfl,_,_,_,_⟩:=i.inv;obtain⟨_,rfl,_,_,_,_⟩:=g.inv;refine⟨_,_,rfl,AA.of (S.fh _ _ e),rfl,_,_,rfl,_,_,rfl,rfl,l _ _ h ?_⟩;exact(S.setG (j:=n1) (s:=.raw (MK b c)) (v:=.ref f) ⟨_,rfl,⟨f,rfl,m⟩,λF F' s z=>by obtain⟨t,h1,h2⟩:=z;exact⟨t,h1,s _ _ h2⟩⟩ λ_ z=>by cases z).Er d⟩
end Fz
namespace L2
section
variable{X:Cx}
theorem o5{tg l:Expr}{tl:TE}(c:QE X l tl):QI X tg l (VF X.K tl):=⟨by
 have c:=c.h;intro Zb s Z H R I h;refine AR (c Zb s Z H _ I h) λv s1 Dj=>?_;obtain⟨x,H1,I1,d,f⟩:=Dj;obtain⟨a,e,⟨xs,g⟩,q⟩:=f;subst e;cases d;obtain⟨A5,j,p,hz⟩:=I1.list g;refine wa p.isList ?_;refine⟨s1.heap.objs.size,[s1.heap.objs.size],_,_,H1,rfl,I1.kept (t':=s1.toks) λb o e=>BZ _ e,M6 a _,⟨_,CA _ rfl,rfl,rfl⟩,λb i=>?_,q⟩;have e:b=s1.heap.objs.size:=by simpa using i
 subst e;exact I1.Ko (Ap _) (I1.AN.fresh (Ap _))⟩
end
end L2
namespace Fz
open L2 Lw
variable{s:Ls}{a aL aS b bS c dx:Addr}{D6 GP us:List OV}{ss:List Slot}{i n:Nat}{k1 k2 nk:NK}
def Bb(s:Ls)(C a dx bS aL aS:Addr)(us:List OV):OV:=.nd (.obj C dx IY) a [.nd .lst bS ((s.row.map PV.str).map .fz),.nd (.Ai (Ab s.ln)) aL (Ba s.ll),.nd (.Ai (Ab s.sn)) aS us]
def Cf(s:Ls)(C T a:Addr)(t:OV):Prop:=∃dx bS aL aS us,R2 (NN T) us s.sq/\t=Bb s C a dx bS aL aS us
theorem pD{C:Addr}:(Bb s C a dx bS aL aS us).pv=Xn C s (us.map OV.pv):=by
 unfold Bb Xn;rw[OV.pv,OV.Bg,OV.Bg,OV.Bg,OV.Bg,OV.pv,OV.pv,OV.pv,XN,Kj,Kj,Gp,Gp];rfl
theorem Cf.nd{s:Ls}{C T a:Addr}{t:OV}(h:Cf s C T a t):∃nk us,t=.nd nk a us:=by
 obtain⟨dx,bS,aL,aS,us,_,rfl⟩:=h;exact⟨_,_,rfl⟩
section
variable[Xw]
variable{lt:Bool}{K:ZEe}{C:Addr}
theorem Lr{k:List Nat->OV->Prop}(hi:ss[i]?=some (.ow lt (Bb s C a dx bS aL aS us)))(b:Bt K C)(c:BM K C "standing")(h:k ([]++[0]) (.nd .lst bS ((s.row.map PV.str).map .fz))):Wl ss i (Bb s C a dx bS aL aS us) (Jx K (B1 i) "standing") k:=Xv (CL hi ⟨C,dx,IY,a,_,0,_,rfl,b,c,by decide +kernel,rfl,h⟩)
theorem IT{k:List Nat->OV->Prop}(hi:ss[i]?=some (.ow lt (Bb s C a dx bS aL aS us)))(b:Bt K C)(c:BM K C "running")(h:k ([]++[1]) (.nd (.Ai (Ab s.ln)) aL (Ba s.ll))):Wl ss i (Bb s C a dx bS aL aS us) (Jx K (B1 i) "running") k:=Xv (CL hi ⟨C,dx,IY,a,_,1,_,rfl,b,c,by decide +kernel,rfl,h⟩)
theorem SE{k:List Nat->OV->Prop}(hi:ss[i]?=some (.ow lt (Bb s C a dx bS aL aS us)))(b:Bt K C)(c:BM K C "tallies")(h:k ([]++[2]) (.nd (.Ai (Ab s.sn)) aS us)):Wl ss i (Bb s C a dx bS aL aS us) (Jx K (B1 i) "tallies") k:=Xv (CL hi ⟨C,dx,IY,a,_,2,_,rfl,b,c,by decide +kernel,rfl,h⟩)
theorem J6{x:Str}{k:Bool->List PV->Prop}(e:ss[0]?=some (.ow lt (Bb s C a dx bS aL aS us)))(h1:ss[1]?=some (.is (.str x)))(c:s.ln.length=s.ll.length)(d:k true ((Du s x).map .str)):Wq ss (Lf C "coming" (BN (Ly C)) [] E0 (B1 0) (AU (B1 1) B5)) k:=
 BS (yC (i:=0) (CL e ⟨dx,IY,a,_,rfl,by decide +kernel,ZBq (AS h1 (ZBE ⟨_,⟨s,_,x,sA (λp=>[Slot.is p,.is (.str x)]) pD,c,rfl⟩,λ_ b=>b▸⟨jB _,_,.inr ⟨rfl,d⟩⟩⟩))⟩))
end
def UU(C T:Addr):Pre:=λl R=>∃(a dx:Addr)(tp:Bool)(ns:List Str),l=[.ow true (.nd (.obj C dx []) a []),.is (PF tp (ns.map .str))]/\R=.mt λp t'=>p=.AE/\∃bS aL aS,t'=Bb ⟨ns,[],[],[],[]⟩ C a dx bS aL aS []
def WM(C T:Addr):Pre:=λl R=>∃(s:Ls)(a:Addr)(t:OV)(x r:Str),l=[.ow true t,.is (.str x),.is (.str r)]/\Cf s C T a t/\s.Ok/\DX x/\DX r/\s.sn.length<=1000/\R=.mt (Eo (λs t=>Cf s C T a t) s (Es s x r))
def Ys(C T:Addr):Pre:=λl R=>∃(s:Ls)(a:Addr)(t:OV)(x y:Str),l=[.ow true t,.is (.str x),.is (.str y)]/\Cf s C T a t/\s.Ok/\s.sn.length<=1000/\R=.mt (Eo (λs t=>Cf s C T a t) s (EM s x y))
def Vd(C T:Addr):Pre:=λl R=>∃(s:Ls)(a:Addr)(t:OV)(x:Str),l=[.ow true t,.is (.str x)]/\Cf s C T a t/\s.Ok/\R=.mt (Eo (λs t=>Cf s C T a t) s (EG s x))
def XA(C T:Addr):Pre:=λl R=>∃(s:Ls)(a:Addr)(t:OV)(d:AO)(i:Nat)(x:Str),l=[.ow true t,.is (.str x),.is (dP d)]/\Cf (EK s d i) C T a t/\s.Ok/\s.ln[i]?=some x/\d.Ok 40 s.row/\(∀x,d=.take x∨(∃i,d=.move x i)->DX x)/\s.sn.length<=1000/\R=.mt λp t'=>p=.AE/\Cf (EK s d (i+1)) C T a t'
def Pr(C T:Addr):Pre:=λl R=>∃(s s':Ls)(a:Addr)(t:OV)(d:BJ),l=[.ow true t,.is (aP d)]/\Cf s C T a t/\s.Ok/\s.sn.length<=1000/\Fd s d=some s'/\R=.mt λp t'=>p=.bl true/\Cf s' C T a t'
def Wv(C T:Addr):Pre:=λl R=>∃(s s':Ls)(a:Addr)(t:OV)(e:LE),l=[.ow true t,.is e.P]/\Cf s C T a t/\s.Ok/\e.say/\s.sn.length<=1000/\EX s e=some s'/\R=.mt λp t'=>p=.bl true/\Cf s' C T a t'
def Tq(C T:Addr):Pre:=λl R=>∃(tp:Bool)(ns:List Str)(es:List LE)(s:Ls),l=[.is (PF tp (ns.map .str)),.is (.lst (es.map LE.P))]/\HF 40 ns/\(∀e∈es,e.say)/\es.length<=200/\runs (CO ns) es=some s/\R=.ow λu=>∃a,Cf s C T a u
def Ka(s:Ls)(b c:Addr):OV:=.tp [.nd .lst b ((s.row.map PV.str).map .fz),.nd (.Ai (Ab s.ln)) c (Ba s.ll)]
def Nh(s:Ls):PV:=.tup [.lst (s.row.map .str),.Ai (Ab s.ln) (s.ll.map Lp.P)]
theorem SY:(Ka s b c).pv=Nh s:=by
 unfold Ka Nh;rw[OV.pv,OV.Bg,OV.Bg,OV.Bg,OV.pv,OV.pv,XN,Kj,Gp,Gp];rfl
def YV:Pre:=λl R=>∃(tp:Bool)(ns:List Str)(es:List LE)(s:Ls),l=[.is (PF tp (ns.map .str)),.is (.lst (es.map LE.P))]/\HF 40 ns/\(∀e∈es,e.say)/\es.length<=200/\runs (CO ns) es=some s/\R=.ow λu=>∃b c,u=Ka s b c
theorem mV{vs:List OV}(h:us.Sublist vs):(OV.Al us).Sublist (OV.Al vs):=by
 induction h with
 |slnil=>exact Yw _
 |cons a _ b=>rw[OV.CC];exact b.trans (ZDk _ _)
 |cons_cons a _ b=>rw[OV.CC,OV.CC];exact(Yw _).append b
theorem zg{m:Nat}{u v:OV}(a:us[m]?=some u)(hn:us[n]?=some v)(h:m<n):[u,v].Sublist us:=by
 obtain⟨h1,b⟩:=List.getElem?_eq_some_iff.mp a;have e:us.drop m=u::us.drop (m+1):=by rw[Yz h1,b]
 refine List.Sublist.trans ?_ (List.drop_sublist m us);rw[e];refine List.Sublist.cons_cons _ (List.singleton_sublist.mpr ?_);have:(us.drop (m+1))[n - (m+1)]?=some v:=by rw[ZDZ,show m+1+(n - (m+1))=n by omega];exact hn
 exact Cr this
section
variable[Xw]
variable{K:ZEe}{nx:List Slot->Prop}{R:Ar}{t1 t2:TE}
theorem zv{k:List Nat->OV->Prop}(hi:ss[i]?=some (.ow false (.nd nk a us)))(h:Wl ss i (.nd nk a us) t1 λ_ u1=>∃m:Nat,us[m]?=some u1/\Wl ss i (.nd nk a us) t2 λ_ u2=>∃n:Nat,us[n]?=some u2/\m<n/\k [i] (.tp [u1,u2])):Wx ss (NX (AU t1 (AU t2 B5))) k:=⟨λE Z F H Q S q=>
 h.go E Z F H _ S λv1 J u1 F1 H1 d A DE u=>by
  obtain⟨m,C,h2⟩:=u;refine h2.go E Z F1 H1 _ d.st λg p2 u2 F2 H2 b y D t=>?_;obtain⟨n,hn,Ac,kk⟩:=t;have I:=A.mv d.st ⟨false,hi⟩ DE b;obtain⟨v,e,r,nd,B⟩:=b.st.ok i _ hi;have j:=mV (zg C hn Ac);have s:∀x∈OV.Al [u1,u2],x∈(OV.nd nk a us).addrs:=λx hx=>by rw[OV.Cj];exact DK _ (Eg _ (j.subset hx))
  have G:(OV.Al [u1,u2]).Nodup:=by
   rw[OV.Cj]at nd;exact((List.nodup_append.mp (List.nodup_cons.mp nd).2).2.1).sublist j
  have c:BD F2 H2 [v1,g] [u1,u2]:=.cons I (.cons y .nil);refine⟨small (by show 2<=100000;decide),λp f=>?_⟩;have l:=b.st.alloc f (.tup [v1,g]);refine q _ [i] (.tp [u1,u2]) _ _ (d.trans (b.trans l)) (.tp AH (c.mono l.ff λx hx o ex=>by rw[Af (by rintro rfl;exact c.there _ hx f)];exact ex)) (by rw[OV.FO];exact G) (λx hx=>?_) kk;rw[OV.FO]at hx;have w:=B x (s x hx);refine⟨by rw[Af (by rintro rfl;exact c.there _ hx f)];exact w.1,w.2.elim id λz=>(by cases z.1),.inl ⟨i,by simp,_,by simp,hi,s x hx⟩⟩⟩
end
theorem vo(l:Lp):Dr l.P=true:=by
 show Dr (.tup [.str l.r,.int l.g,.tup (l.cs.map .str)])=true;rw[Dr,Jz,Jz,Jz,jB];rfl
structure Lg (ns:List Str) (es:List LE) (s:Ls):Prop where
 hr:HF 40 ns
 hs:∀e∈es,e.say
 hz:es.length<=200
 hR:runs (CO ns) es=some s
 h5:s.ln.length<=5
theorem Lg.ok{ns:List Str}{es:List LE}(h:Lg ns es s):s.Ok:=Vu (Vp h.hr) h.hR
def DB(ns:List Str)(es:List LE)(s:Ls):PV:=.tup [.lst (ns.map .str),.lst (es.map LE.P),.AE,D2 s]
def RD(s:Ls):Prop:=s.Ok/\s.ln.length<=5
def Xu(us:List OV):Prop:=∀u∈us,∃s b c,u=.tp [Ka s b c,.fz (D2 s)]/\RD s
def L0(ps:List PV):Prop:=∀p∈ps,∃s,p=.tup [Nh s,D2 s]/\RD s
theorem ZDO(h:Xu us):∃ps,OV.Bg us=ps/\L0 ps/\ps.length=us.length:=by
 refine⟨_,rfl,λp a=>?_,by rw[Kj,AW]⟩;rw[Kj]at a;obtain⟨u,d,rfl⟩:=List.mem_map.mp a;obtain⟨s,b,c,rfl,e⟩:=h u d;refine⟨s,?_,e⟩;rw[OV.pv,OV.Bg,OV.Bg,OV.Bg,SY,OV.pv]
theorem yd{ps a:List PV}(h:L0 ps)(h2:L0 a):L0 (ps++a):=λp b=>(List.mem_append.mp b).elim (h p) (h2 p)
theorem jV{q:OV}(h:us[n]?=some (.tp [.tp [.nd k1 b GP,.nd k2 c D6],q])):(OV.nd .lst a us).at [n,0,0]=some (.nd k1 b GP)/\(OV.nd .lst a us).at [n,0,1]=some (.nd k2 c D6):=by
 refine⟨?_,?_⟩
 .rw[OV.J1,h];show OV.at (.tp [.tp [.nd k1 b GP,.nd k2 c D6],q]) [0,0]=_;rw[OV.IV];show OV.at (.tp [.nd k1 b GP,.nd k2 c D6]) [0]=_;rw[OV.IV];exact OV.GV
 .rw[OV.J1,h];show OV.at (.tp [.tp [.nd k1 b GP,.nd k2 c D6],q]) [0,1]=_;rw[OV.IV];show OV.at (.tp [.nd k1 b GP,.nd k2 c D6]) [1]=_;rw[OV.IV];exact OV.GV
theorem ZBn{q w:OV}(h:us[n]?=some (.tp [.tp [.nd k1 b GP,.nd k2 c D6],q])):(OV.nd .lst a us).put [n,0,0] w=.nd .lst a (us.set n (.tp [.tp [w,.nd k2 c D6],q])):=by
 rw[OV.Hl h,OV.MC (x:=.tp [.nd k1 b GP,.nd k2 c D6]) rfl,OV.MC (x:=.nd k1 b GP) rfl,OV.EY];rfl
def Xl(K:ZEe):Pre:=λl R=>∃(sc:List Int),l=[.raw (Co K sc),.is (.int 0)]/\sc.length<=63/\R=.is λp=>∃(ns:List Str)(es:List LE)(s:Ls),p=.tup [.lst (ns.map .str),.lst (es.map LE.P),.AE,D2 s]/\HF 40 ns/\(∀e∈es,e.say)/\es.length<=200/\runs (CO ns) es=some s/\s.ln.length<=5
def Qn:Pre:=λl R=>∃(s:Ls)(ks:List Key)(xs:List PV),l=[.is (Nh s),.is (.Ai ks xs)]/\Hq ks xs (.inr "row")=some (.lst (s.row.map .str))/\Hq ks xs (.inr "live")=some (.Ai (Ab s.ln) (s.ll.map Lp.P))/\s.ln.Nodup/\s.ln.length=s.ll.length/\s.ln.length<=5/\s.row.length<=40/\R=.is λp=>p=.bl true
def TX:Pre:=λl R=>∃lo:Lp,l=[.is lo.P,.is lo.P]/\R=.is λp=>p=.bl true
end Fz
set_option maxHeartbeats 8000000
namespace Pf
open L2 Lw
variable{w:World}{mg:ZEg}{A7 AM Fn Ny f:Addr}{α:Type}{WJ Y1 Yq:Tok}{l:PySem.W.OpenLaw}
abbrev St:=L2.St
noncomputable def top(i:Nat):Stmt:=PySem.Challenge.pw_stirround_k22_what_stands_behind.main.body.getD i (.Pass ⟨0,0,0,0⟩)
abbrev Pz:Stmt:=top 56
abbrev Yc:Stmt:=top 55
abbrev Vj:Stmt:=top 57
abbrev Q8:Stmt:=top 68
abbrev Vy:Stmt:=top 43
abbrev Ui:Stmt:=top 44
abbrev UC:Stmt:=top 45
abbrev Th:Stmt:=top 46
abbrev TR:Stmt:=top 47
abbrev TC:Stmt:=top 48
abbrev Xb:Stmt:=top 49
abbrev UA:Stmt:=top 64
abbrev NU:Stmt:=top 54
abbrev UJ:Stmt:=top 65
abbrev QF:Stmt:=top 50
abbrev RV:Stmt:=top 58
abbrev TZ:Stmt:=top 59
abbrev Ya:Stmt:=top 51
abbrev RU:Stmt:=top 53
abbrev WC:Stmt:=top 60
abbrev VA:Stmt:=top 61
abbrev VG:Stmt:=top 52
abbrev XD:Stmt:=top 62
abbrev Rx:Stmt:=top 63
abbrev Tb:Stmt:=top 67
abbrev Yn:Stmt:=IU (top 40) 0
abbrev Vr:Stmt:=IU (top 41) 0
abbrev U2:Stmt:=top 33
abbrev WL:Stmt:=top 30
abbrev QM:Stmt:=top 14
abbrev XQ:Stmt:=IU (top 40) 2
abbrev WO:Stmt:=IU (top 40) 7
abbrev SI:Stmt:=top 35
abbrev XO:Stmt:=top 16
abbrev V1:Stmt:=top 32
abbrev VJ:Stmt:=IU (top 40) 3
abbrev Ut:Stmt:=IU (top 40) 4
abbrev U5:Stmt:=top 26
abbrev WK:Stmt:=top 27
abbrev TK:Stmt:=top 18
abbrev VR:Stmt:=top 36
abbrev WU:Stmt:=top 34
abbrev YZ:Stmt:=top 31
abbrev Xr:Stmt:=IU (top 40) 6
abbrev XG:Stmt:=top 20
abbrev Ye:Stmt:=top 21
abbrev Vh:Stmt:=top 22
abbrev Wd:Stmt:=top 19
abbrev W2:Stmt:=top 25
abbrev XH:Stmt:=top 23
abbrev Sf:Stmt:=top 24
abbrev TU:Stmt:=top 17
abbrev U9:Stmt:=IU (top 40) 5
abbrev T8:Stmt:=IU (top 40) 1
abbrev UD:Stmt:=top 39
abbrev UR:Stmt:=top 38
abbrev Jp:Stmt:=top 69
variable{P:Program}{K:ZEe}{Zu:Heap}{fd:FuncData}
def jG{us:List α}(h:us.length=1):∃a,us=[a]:=by
 rcases us with _|⟨a,_|⟨b,us⟩⟩
 .cases h
 .exact⟨a,rfl⟩
 .cases h
def ln2{us:List α}(h:us.length=2):∃a b,us=[a,b]:=by
 rcases us with _|⟨a,us⟩
 .cases h
 .obtain⟨b,rfl⟩:=jG (PZ h);exact⟨a,b,rfl⟩
def b7{us:List α}(h:us.length=3):∃a b c,us=[a,b,c]:=by
 rcases us with _|⟨a,us⟩
 .cases h
 .obtain⟨b,c,rfl⟩:=ln2 (PZ h);exact⟨a,b,c,rfl⟩
def i4{us:List α}(h:us.length=4):∃a b c d,us=[a,b,c,d]:=by
 rcases us with _|⟨a,us⟩
 .cases h
 .obtain⟨b,c,d,rfl⟩:=b7 (PZ h);exact⟨a,b,c,d,rfl⟩
def fM{us:List α}(h:us.length=5):∃a b c d e,us=[a,b,c,d,e]:=by
 rcases us with _|⟨a,us⟩
 .cases h
 .obtain⟨b,c,d,e,rfl⟩:=i4 (PZ h);exact⟨a,b,c,d,e,rfl⟩
def vt{us:List α}(h:us.length=6):∃a b c d e f,us=[a,b,c,d,e,f]:=by
 rcases us with _|⟨a,us⟩
 .cases h
 .obtain⟨b,c,d,e,f,rfl⟩:=fM (PZ h);exact⟨a,b,c,d,e,f,rfl⟩
local macro_rules | `(tactic| walk_at "bD1")=>`(tactic| (intro _ _ _ _ _ _ us hl;obtain⟨_,e⟩:=jG hl;subst e;rfl))
local macro_rules | `(tactic| walk_at "bD2")=>`(tactic| (intro _ _ _ _ _ _ us hl;obtain⟨_,_,e⟩:=ln2 hl;subst e;rfl))
local macro_rules | `(tactic| walk_at "bD3")=>`(tactic| (intro _ _ _ _ _ _ us hl;obtain⟨_,_,_,e⟩:=b7 hl;subst e;rfl))
local macro_rules | `(tactic| walk_at "bD4")=>`(tactic| (intro _ _ _ _ _ _ us hl;obtain⟨_,_,_,_,e⟩:=i4 hl;subst e;rfl))
local macro_rules | `(tactic| walk_at "bD5")=>`(tactic| (intro _ _ _ _ _ _ us hl;obtain⟨_,_,_,_,_,e⟩:=fM hl;subst e;rfl))
local macro_rules | `(tactic| walk_at "bD6")=>`(tactic| (intro _ _ _ _ _ _ us hl;obtain⟨_,_,_,_,_,_,e⟩:=vt hl;subst e;rfl))
abbrev nS(K:ZEe)(x:Str)(v:Value):Prop:=PySem.W.nsIn K mainGlobals x=some (some v)
abbrev nN(K:ZEe)(x:Str):Prop:=PySem.W.nsIn K mainGlobals x=some none
open Fz
def ZWM(t:String):Lean.MacroM (Lean.TSyntax `tactic):=do
 let g:Lean.TSyntax `tactic←`(tactic| fail)
 let k←`(tactic| case wk=>rfl)
 let n (s:String):=`(tactic| walk_at $(Lean.quote s):str)
 (t.splitOn " ").foldrM (λs r=>do
  let l:=((s.drop 1).toString.splitOn "/").map λx=>Lean.mkIdent (`Fz++x.toName)
  let h:Lean.Ident:=l.getLast!
  let c:=s.front
  let w:=(h.getId.getString!.toLower.replace "o" "e").replace "i" "e"
  let z←if c=='j' then `($h ?wj ?wk ?_)else if c=='k'||c=='K' then `($h ?wk ?_)else `($h ?_)
  let z←l.dropLast.foldrM (λ(f:Lean.Ident)(z:Lean.Term)=>`($f ($z))) z
  let p←if c=='e' then `(tactic| show ∃_,_=$h _/\_)else if c=='s' then `(tactic| show $h _ _ _)else `(tactic| refine' $z)
  let p←if c=='K'||c=='R'||c=='j' then pure p else `(tactic| with_reducible $p:tactic)
  let q←if c=='e' then `(tactic| refine⟨_,rfl,?_⟩)else if c=='s' then n w else if c=='n' then n "wn" else if c=='p' then n "wp" else if c=='k'||c=='K' then pure k else if c=='j' then `(tactic| ((case wj=>rfl);$k:tactic))else `(tactic| skip)
  `(tactic| first|($p:tactic;$q:tactic) | $r:tactic)) g
local macro_rules | `(tactic| walk_at "wp")=>ZWM "kTw kDy/O7/CL kDy/MJ/CL kDy/O7/O7/CL kDy/MJ/MJ/CL kDy/MJ/O7/CL kTw kAS rBQ rFN rCe rnj rWk rFZ ry6 ruk rQZ ryW rj3 rrA ray kZAP rCy rgn rDz rkd rWG rLz rxC rcj rfT rOJ kw8 rjN KtP KtT kiM KZCH KVn KVX"
local macro_rules | `(tactic| walk_at "wn")=>ZWM "rQi rgA rzm rcw KKI jnX"
local macro_rules | `(tactic| walk_at "wq")=>do
 let z←ZWM "kJH/CL kJH/O7/CL kJH/MJ/CL kj9 kqL kJl kEC"
 `(tactic| first | $z:tactic|(refine BS (EE ?_);walk_at "wn")|(refine BS ?_;walk_at "wp"))
local macro_rules | `(tactic| walk_at "wz")=>`(tactic| first
 | ((with_reducible refine' az ?wk ?_);(case wk=>rfl))
 | (refine Il (EE ?_);walk_at "wn")
 | (refine Il ?_;walk_at "wp"))
local macro_rules | `(tactic| walk_at "wt")=>ZWM "rD0 rDk rfF rG6 rZD1 rFe"
local macro_rules | `(tactic| walk_at "we")=>ZWM "rHY rHA riV rZAf rZBG rKl"
local macro_rules | `(tactic| walk_at "w")=>do
 let z←ZWM "rAn rEp rC2 rB7 keW kqk nL3 pKn pFQ"
 let z1←ZWM "eOV.tp eOV.fz"
 let z2←ZWM "sWn sWq sWz sWt sWe sWo sWi"
 let z3←ZWM "ePV.int ePV.str ePV.bl"
 `(tactic| first | $z1:tactic|((with_reducible show ∃_ _,_=OV.nd NK.lst _ _/\_);refine⟨_,_,rfl,?_⟩)|((with_reducible show ∃_ _ _,_=PV.int _/\_/\_/\_);refine⟨_,_,_,rfl,rfl,rfl,?_⟩)|((with_reducible show Wp _ _ _);first|walk_at "wp" | (refine EE ?_;walk_at "wn")) | $z2:tactic|((with_reducible show Ws _ _ _ _);$z:tactic) | $z3:tactic|((with_reducible show(_:Bool)=_/\_);refine⟨rfl,?_⟩)|((with_reducible show ∃_ _,_=PV.int _/\L2.Bf _ _=some _/\_);refine⟨_,_,rfl,rfl,?_⟩)|((with_reducible show ∃_,(_=PV.lst _/\_)∨(_=PV.tup _/\_));first|refine⟨_,.inl ⟨rfl,?_⟩⟩|refine⟨_,.inr ⟨rfl,?_⟩⟩)|((with_reducible show ∃_,_=List.map _ _/\_);first|refine⟨_,rfl,?_⟩|refine⟨[],rfl,?_⟩|refine⟨_,ZCn _ _,?_⟩))
local macro_rules | `(tactic| walk_at "ww")=>`(tactic| repeat walk_at "w")
local macro_rules | `(tactic| walk_at "z1")=>`(tactic| exact⟨rfl,rfl,rfl,by decide +kernel,rfl,by decide +kernel,by decide +kernel⟩)
local macro_rules | `(tactic| walk_at "z2")=>`(tactic| exact⟨rfl,by decide +kernel,by decide +kernel,rfl,rfl,by decide +kernel,by decide +kernel,by decide +kernel,by decide +kernel⟩)
def ZAc:Aw ["found"] ["found"] (Ag Pz):=by walk_at "z1"
noncomputable abbrev Sc(l):=Scope.mk .function l false false []
def rJ:=Sc [(".0",.local),("name",.local),("isinstance",.globalImplicit),("str",.globalImplicit)]
def ZBF:E6 ["found"] (Ag Pz) rJ "name" [] []:=by walk_at "z2"
def bo : ∀ss R,Uh ss R->ss.length=1:=by rintro _ _⟨ns,rfl,hz,rfl⟩;rfl
variable(ET:mg "all"=none)(ER:mg "isinstance"=none)(Be:mg "list"=none)(Mo:mg "str"=none)(WN:mg "bool"=none)(HB:mg "int"=none)(Vq:A9 P w K mg Zu "_law_whole" 1 ["found"] (BN Xe))(Ak:mg "len"=none)(Bo:mg "tuple"=none)(WQ:A9 P w K mg Zu "_law_is_loop" 2 ["found","due"] (BN TX))(WI:A9 P w K mg Zu "_law_texts" 1 ["found"] (BN Uh))(Yj:mg "dict"=none)(DZ:mg "sorted"=none)(P8:A9 P w K mg Zu "_law_letters" 1 ["number"] (aO))(BX:A9 P w K mg Zu "_law_take" 1 ["pot","many"] (Jv))(IH:A9 P w K mg Zu "_law_name" 2 ["pot","names"] (O8 K))(Ho:mg "range"=none)(YD:A9 P w K mg Zu "_law_names" 3 ["pot","many"] (dD))(W0:A9 P w K mg Zu "_law_deed" 3 ["pot","row","most"] (QJ))(V7:A9 P w K mg Zu "_law_rule" 2 ["pot"] (BN Ta))(Ts:A9 P w K mg Zu "_law_step" 1 ["row","loop"] (Xj))(Lx:mg "reversed"=none)(Mb:A9 P w K mg Zu "_law_is_name" 1 ["text"] (LC))(U8:A9 P w K mg Zu "_law_gap" 1 ["row","gap","deed"] (eP))(KP:A9 P w K mg Zu "_law_counted" 1 ["state","name","place"] (Bh PK))(YS:A9 P w K mg Zu "_law_deed_right" 2 ["row","deed"] (BN Vi))(UO:A9 P w K mg Zu "_law_done" 1 ["row","deed"] (XC))(Yr:A9 P w K mg Zu "_law_led" 2 ["row","loop","deed"] (W8))(Te:A9 P w K mg Zu "_law_begun" 1 ["row","rule"] (BN X0))(Yd:A9 P w K mg Zu "_law_begins" 3 ["state","name","rule"] (Bh UL))(YB:A9 P w K mg Zu "_law_stirred" 4 ["state","deed"] (Bh Rz))(XX:A9 P w K mg Zu "_law_goes" 5 ["state","entry"] (Bh U0))(Ud:A9 P w K mg Zu "_law_good_entry" 4 ["pot","state","most"] (BN YR))(Q6:A9 P w K mg Zu "_law_pot" 1 ["script","k"] (Yp K))(Ur:A9 P w K mg Zu "_law_row" 4 ["pot","most"] (Xs))(UY:mg "max"=none)(Tc:mg "min"=none)(BB:Bt K A7)(CB:BM K A7 "running")(DI:BM K A7 "standing")(Fq:BM K A7 "tallies")(Fu:Bt K AM)(N0:BM K AM "joined")(WZ:BM K AM "stood")(Mt:BM K AM "taken")(La:BM K AM "told")(MY:mg "RULES"=some (.ref Fn))(Lv:∀H,AA K H Fn [.str "none",.str "ahead",.str "all"])(Wh:A9 P w K mg Zu "check_rule" 1 ["rule"] (gP))(XY:mg "LETTERS"=some (.str "abcdefghijklmnopqrstuvwxyz" Yq))(V2:mg "MOST_LETTERS"=some (.int 8 Y1))(X9:Ni P w K mg Zu AM 1 ["self","stood"] (Bh (XF AM)))(Vz:A9 P w K mg Zu "begun" 2 ["row","rule"] (UE K))(Lo:A9 P w K mg Zu "is_name" 1 ["text"] (LC))(YH:mg "Tally"=some (.ref AM))(Mp:A9 P w K mg Zu "coming_without" 1 ["coming","gone"] (XJ K))(G7:A9 P w K mg Zu "place_of" 1 ["row","name"] (Oh))(Gz:EF P w K mg Zu A7 "coming" 2 ["self","loop"] (BN (Ly A7)))(VN:A9 P w K mg Zu "loop_telling" 2 ["row","loop","name"] (U4 K))(QN:A9 P w K mg Zu "gap_behind_put" 1 ["gap","at"] (gF))(QL:A9 P w K mg Zu "gap_behind_take" 1 ["gap","place"] (aj))(WA:A9 P w K mg Zu "joins" 1 ["loop","at"] (cW))(W3:A9 P w K mg Zu "coming_behind" 2 ["loop","deed"] (bG))(Uq:A9 P w K mg Zu "gap_led" 3 ["row","gap","deed"] (dB))(X1:A9 P w K mg Zu "loop_led" 4 ["row","loop","deed"] (Xy))(Ve:mg "MOST_THINGS"=some (.int 40 WJ))(WH:A9 P w K mg Zu "check_move" 2 ["row","name","at"] (iy))(V8:A9 P w K mg Zu "check_put" 2 ["row","name","at"] (aM))(VM:A9 P w K mg Zu "check_turn" 1 ["row","low","high"] (eh))(YX:A9 P w K mg Zu "check_deed" 3 ["row","deed"] (bD))(Um:A9 P w K mg Zu "row_turned" 1 ["row","low","high"] (cZ))(Pl:A9 P w K mg Zu "row_with" 1 ["row","name","at"] (gq))(Rl:A9 P w K mg Zu "row_without" 1 ["row","name"] (aY))(VO:EF P w K mg Zu A7 "lead" 8 ["self","loop","deed"] (Bh (XA A7 AM)))(T9:A9 P w K mg Zu "done" 4 ["row","deed"] (W9))(UZ:mg "StirError"=some (.ref Ny))(YA:EF P w K mg Zu A7 "follows_begin" 6 ["self","loop","rule"] (Bh (WM A7 AM)))(Wc:EF P w K mg Zu A7 "follows_deed" 9 ["self","deed"] (Bh (Pr A7 AM)))(Wy:EF P w K mg Zu A7 "follows_over" 6 ["self","loop"] (Bh (Vd A7 AM)))(U7:EF P w K mg Zu A7 "follows_tell" 6 ["self","loop","name"] (Bh (Ys A7 AM)))(YC:Ni P w K mg Zu A7 2 ["self","row"] (Bh (UU A7 AM)))(Yo:EF P w K mg Zu A7 "follows" 10 ["self","entry"] (Bh (Wv A7 AM)))(Y3:mg "enumerate"=none)(Uj:mg "Course"=some (.ref A7))(TY:A9 P w K mg Zu "course_of" 11 ["row","log"] (BN (Tq A7 AM)))(RM:A9 P w K mg Zu "_law_log" 6 ["script","rate"] (BN (Xl K)))(Mf:A9 P w K mg Zu "_law_right" 3 ["found","state"] (BN Qn))(Mx:A9 P w K mg Zu "state_behind" 12 ["row","log"] (BN YV))
def xo(F:AK K "_law_texts" "_law_texts" Pz f fd)(m:mg "_law_texts"=some (.ref f)):
  A9 P w K mg Zu "_law_texts" 1 ["found"] (BN Uh):=by
 refine A9.mk F (F.binds (by walk_at "bD1")) m (F.B4 (k:=0) ZAc (λvs H Q E h=>Fz.Gg bo h) (λAe A outer s H vs Q E hr h=>?_))
 refine⟨_,(AD rfl (AX (JN (As IW ER (A0 (qv 0) (A0 (IQ "list" Be) A4))) (Iy (As (LU rfl) ET (A0 (Hi rfl ZBF (G8 (qv 0)) (λ_ _ _ _=>by exact Mq) (λ_ _ _ _=>by exact(As (show D7 _ (.builtin "isinstance") (Qk K)from IW) ER (A0 (qv 0) (A0 (IQ "str" Mo) A4))))) A4)))))),?_⟩;refine Fz.GN h bo ?_;rintro _ _⟨ns,rfl,hz,rfl⟩;show Ws [_] _ _ _
 walk_at "ww"
 refine gj ?_
 walk_at "ww"
 refine⟨true,Jc _ _,_,rfl,JO ?_⟩
 walk_at "wp"
 refine BS (EE (ar PV.str (λ_=>true) (λ_=>.bl true) ?_ str_inj))
 walk_at "ww"
 refine⟨by omega,λx hx=>by walk_at "ww"; rfl,λx hx _=>?_,?_⟩
 .refine K8 ?_
  walk_at "ww"
  exact⟨true,Jc _ _,rfl⟩
 .walk_at "ww"
  rw[show(List.map (λ_=>true) (ns.filter λ_=>true)).all id=true from by simp]
def qf:Aw ["found"] ["found"] (Ag Yc):=by walk_at "z1"
def gW : ∀ss R,Xe ss R->ss.length=1:=by rintro _ _⟨i,rfl,rfl⟩;rfl
def tU(F:AK K "_law_whole" "_law_whole" Yc f fd)(m:mg "_law_whole"=some (.ref f)):
  A9 P w K mg Zu "_law_whole" 1 ["found"] (BN Xe):=by
 refine A9.mk F (F.binds (by walk_at "bD1")) m (F.B4 (k:=0) qf (λvs H Q E h=>Fz.Gg gW h) (λAe A outer s H vs Q E hr h=>?_))
 refine⟨_,(AD rfl (AX (JN (As IW ER (A0 (qv 0) (A0 (IQ "int" HB) A4))) (Iy (ZCR (As IW ER (A0 (qv 0) (A0 (IQ "bool" WN) A4)))))))),?_⟩;refine Fz.GN h gW ?_;rintro _ _⟨i,rfl,rfl⟩;show Ws [_] _ _ _;refine FQ (QZ (K8 (AS rfl ⟨true,Jc _ _,_,rfl,JO ?_⟩)));exact j3 (K8 (AS rfl ⟨false,ZBd _,_,rfl,rfl⟩))
def wt:Aw ["found","due"] ["found","due"] (Ag Vj):=by walk_at "z1"
def aF : ∀ss R,TX ss R->ss.length=2:=by rintro _ _⟨lo,rfl,rfl⟩;rfl
def xl(F:AK K "_law_is_loop" "_law_is_loop" Vj f fd)(m:mg "_law_is_loop"=some (.ref f)):
  A9 P w K mg Zu "_law_is_loop" 2 ["found","due"] (BN TX):=by
 refine A9.mk F (F.binds (by walk_at "bD2")) m (F.B4 (k:=1) wt (λvs H Q E h=>Fz.Gg aF h) (λAe A outer s H vs Q E hr h=>?_))
 refine⟨_,(AB rfl (Aj (DQ (Dh (Ed (As IW ER (A0 (qv 0) (A0 (IQ "tuple" Bo) A4))))) (DQ (Aa Io (As D1 Ak (A0 (qv 0) A4)) A6) (FX (Dh (Ed (As IW ER (A0 (AF AL (qv 0) A6) (A0 (IQ "tuple" Bo) A4)))))))).pt (AD rfl (AX CZ)) Ao)
   (AD rfl (AX (JN (As IW ER (A0 (AF AL (qv 0) A6) (A0 (IQ "str" Mo) A4))) (JN (AV Vq hr (A0 (AF AL (qv 0) A6) A4)) (Iy (HR (Fz.ZCx hr.units) (qv 0) (qv 1)))))))),?_⟩
 refine Fz.GN h aF ?_;rintro _ _⟨⟨r,g,ts⟩,rfl,rfl⟩;show Ws [.is (.tup [.str r,.int g,.tup (ts.map .str)]),.is (.tup [.str r,.int g,.tup (ts.map .str)])] _ _ _;refine An (C2 (Fe (G6 (Dk (K8 (AS rfl ⟨true,Jc _ _,true,rfl,Cv ?_⟩))))))
 walk_at "ww"
 refine B0 (by simp[alike]) ?_;refine G6 (Dk (K8 ?_))
 walk_at "ww"
 refine⟨true,Jc _ _,true,rfl,Cv (B7 ?_)⟩;refine FQ (QZ (K8 ?_))
 walk_at "ww"
 refine⟨true,Jc _ _,true,rfl,ED rfl ?_⟩;refine QZ (wp_call (CP ?_))
 walk_at "ww"
 refine EA ⟨_,⟨_,rfl,rfl⟩,?_⟩;rintro _ rfl;refine⟨_,rfl,ED rfl ?_⟩;have d:dat K 40 (CY r g ts):=yf K r g ts;refine fT (AS rfl (AS rfl ⟨d,d,?_⟩));show PV.bl (C4 (CY r g ts) (CY r g ts))=PV.bl true;rw[Oy 40 d]
def ZDE:Aw ["found","state"] ["found","state"] (Ag Q8):=by walk_at "z1"
def ZCw:=Sc [(".0",.local),("name",.local),("_law_is_loop",.globalImplicit),("found",.free),("state",.free)]
def ZAR:E6 ["found","state"] (Ag Q8) ZCw "name" ["found","state"] [0,1]:=by walk_at "z2"
def dS : ∀ss R,Qn ss R->ss.length=2:=by rintro _ _⟨s,ks,xs,rfl,_,_,_,_,_,_,rfl⟩;rfl
def xV(F:AK K "_law_right" "_law_right" Q8 f fd)(m:mg "_law_right"=some (.ref f)):
  A9 P w K mg Zu "_law_right" 3 ["found","state"] (BN Qn):=by
 refine A9.mk F (F.binds (by walk_at "bD2")) m (F.B4 (k:=2) ZDE (λvs H Q E h=>Fz.Gg dS h) (λAe A outer s H vs Q E hr h=>?_))
 refine⟨_,(AB rfl (Aj (DQ (Dh (Ed (As IW ER (A0 (qv 0) (A0 (IQ "tuple" Bo) A4))))) (DQ (Aa Io (As D1 Ak (A0 (qv 0) A4)) A6) (DQ (Dh (Ed (AV WI hr (A0 (AF AL (qv 0) A6) A4)))) (FX (Dh (Ed (As IW ER (A0 (AF AL (qv 0) A6) (A0 (IQ "dict" Yj) A4))))))))).pt (AD rfl (AX CZ)) Ao)
   (AB rfl (Aj (DQ (Aa (Fz.QD hr.units) (AF AL (qv 0) A6) (BR (B8 hr) (qv 1) AY (λ_ _=>rfl))) (FX (Aa (Fz.QD hr.units) (As (V4 rfl) DZ (A0 (AF AL (qv 0) A6) A4)) (As (V4 rfl) DZ (A0 (BR (B8 hr) (qv 1) AY (λ_ _=>rfl)) A4))))).pt (AD rfl (AX CZ)) Ao)
   (AD rfl (AX (As (LU rfl) ET (A0 (ZCp (Hi rfl ZAR (oW (BR (B8 hr) (qv 1) AY (λ_ _=>rfl))) (λ_ _ _ _=>by exact Mq) (λ_ _ _ _=>by exact(AV WQ hr (A0 (BR (B8 hr) (AF (show HZ _ (Ht K)from AL) (qv 0) A6) (qv 2) (λ_ _=>rfl)) (A0 (BR (B8 hr) (BR (B8 hr) (qv 1) AY (λ_ _=>rfl)) (qv 2) (λ_ _=>rfl)) A4)))))) A4)))))),?_⟩
 refine Fz.GN h dS ?_;rintro _ _⟨s,ks,xs,rfl,h1,h2,nd,l1,h5,e,rfl⟩;show Ws [.is (.tup [.lst (s.row.map .str),.Ai (Ab s.ln) (s.ll.map Lp.P)]),.is (.Ai ks xs)] _ _ _;refine An (C2 (Fe (G6 (Dk (gj (EC (i:=0) rfl ⟨true,Jc _ _,_,rfl,B0 (by decide) ?_⟩))))))
 walk_at "ww"
 refine B0 (by simp[alike]) ?_;refine Fe (G6 (Dk (wp_call (bP (BS (Dz (EC (i:=0) rfl ⟨rfl,BQ ⟨_,_,rfl,rfl,_,.inl ⟨rfl,EA ⟨_,⟨s.row,rfl,by omega,rfl⟩,?_⟩⟩⟩⟩)))))));rintro _ rfl;refine⟨true,rfl,B0 (by decide) ?_⟩;refine G6 (Dk (K8 ?_))
 walk_at "ww"
 refine⟨true,Jc _ _,_,rfl,B0 (by decide) (B7 ?_)⟩;have a:∀ns:List Str,dat K 40 (.lst (ns.map .str)):=λns=>dE K ns;refine An (C2 (Fe (D0 (OJ (Dz (EC (i:=0) rfl ⟨rfl,BQ ⟨_,_,rfl,rfl,Iq (AS rfl ⟨ks,xs,rfl,FN ⟨.inr "row", _,rfl,h1,a _,a _,_,rfl,?_⟩⟩)⟩⟩))))));rw[Oy 40 (a _)];refine B0 (by decide) ?_;refine D0 (OJ (EE (Yg (Dz (EC (i:=0) rfl ⟨rfl,BQ ⟨_,_,rfl,rfl,_,s.ln,rfl,by omega,λc b t1=>EE (Yg (Iq (AS rfl ⟨ks,xs,rfl,FN ⟨.inr "live", _,rfl,h2,_,s.ln,rfl,by omega,λGO p2 t2=>?_⟩⟩)))⟩⟩)))));rw[Rm nd b t1,Rm nd p2 t2];refine⟨a _,a _,_,rfl,?_⟩;rw[Oy 40 (a _)];refine B0 (by decide) (B7 ?_);refine FQ (Vn rfl (BS (EE (uE (jF:=0) (jS:=1) (ns:=s.ln) (ps:=s.ll.map Lp.P) rfl rfl h2 nd (by omega) (λp d=>?_) ?_))))
 .obtain⟨l,_,rfl⟩:=List.mem_map.mp d;exact⟨vo l,wp_call (CP (AS rfl (CP (AS rfl (EA ⟨_,⟨l,rfl,rfl⟩,λ_ h=>h⟩)))))⟩
 refine⟨_,.inl ⟨rfl,rfl,List.replicate s.ln.length true,by rw[List.map_replicate],?_⟩⟩;rw[List.all_replicate];split <;> rfl
def NJ:Aw ["script","k","cell","rest_here"] ["script","k"] (Ag Vy):=by walk_at "z1"
def mC(F:AK K "_law_pot" "_law_pot" Vy f fd)(m:mg "_law_pot"=some (.ref f)):
  A9 P w K mg Zu "_law_pot" 1 ["script","k"] (Yp K):=by
 refine A9.mk F (F.binds (by walk_at "bD2")) m (F.B4 (k:=0) NJ (λvs H Q E h=>?_) (λAe A outer s H vs Q E hr h=>?_))
 .obtain⟨a,ns,k,rfl,b,k0,k1,q⟩:=h;rfl
 obtain⟨a,ns,k,rfl,b,k0,k1,q⟩:=h;refine⟨_,(AB rfl (Az 2 NJ.nd A6)
   (AB rfl (Ca (Aj (Aa Fc (qv 1) (As Eb Ak (A0 (qv 0) A4))) (AD rfl (Az 2 NJ.nd (B2 Ja (AF EV (qv 0) (qv 1)) (B2 K9 (B2 K9 (B2 K9 (B2 M8 A6 A6) (B2 M8 A6 A6)) (B2 M8 A6 A6)) (B2 M8 A6 A6))))) Ao))
   (AB rfl (Az 3 NJ.nd A6)
   (AB rfl (Ca (Aj (Aa MU (qv 2) (B2 M8 A6 A6)) (AD rfl (Az 3 NJ.nd (qv 2))) Ao))
   (AD rfl (AX (Fb (A0 (qv 3) (A0 (B2 Ja (B2 K9 (B2 E9 (B2 E9 (B2 Ja (qv 2) A6) (B2 K9 A6 (qv 1))) A6) A6) A6) A4))))))))),?_⟩
 have i:(ns.map V.int).length=ns.length:=AW _;refine⟨λσ' H'=>∃c:Int,σ'=[some (.ref a),some (.int k),some (.int c),none]/\H=H'/\0<=c/\c<10 ^ 256,?_,?_⟩
 .refine⟨_,rfl,_,rfl,a,_,rfl,.inl b,_,_,rfl,rfl,_,rfl,?_⟩;refine Am (λc=>?_) (λc=>?_)
  .have r:k<(((ns.map V.int).length:Nat):Int):=mi c;rw[i]at r;have j:k.toNat<ns.length:=by omega
   have g:Bf (ns.map V.int) k=some (.int ns[k.toNat]):=NZ k0 (by rw[BG,BA j] <;> rfl)
   refine⟨_,rfl,_,rfl,a,_,_,_,rfl,rfl,b,g,_,_,rfl,rfl,⟨by decide,by decide,by decide +kernel⟩,_,_,rfl,rfl,⟨by decide,by decide,by decide +kernel⟩,_,_,rfl,rfl,⟨by decide +kernel,by decide +kernel⟩,_,_,rfl,rfl,⟨by decide,by decide,by decide +kernel⟩,_,_,rfl,rfl,⟨by decide +kernel,by decide +kernel⟩,
    _,_,rfl,rfl,⟨by decide,by decide,by decide +kernel⟩,_,_,rfl,rfl,⟨by decide +kernel,by decide +kernel⟩,_,_,rfl,rfl,(by show(0:Int)<_;decide +kernel),?_⟩
   exact⟨_,rfl,rfl,LJ _ (by decide +kernel),LI _ (by decide +kernel)⟩
  .exact⟨0,rfl,rfl,by decide,by decide +kernel⟩
 rintro σ' H'⟨c,rfl,rfl,c0,o⟩;refine⟨λσ' H'=>∃d:Int,σ'=[some (.ref a),some (.int k),some (.int c),some (.int d)]/\H=H'/\0<=d/\d<10 ^ 256,?_,?_⟩
 .refine⟨_,rfl,_,_,rfl,rfl,⟨by decide,by decide,by decide +kernel⟩,_,_,rfl,rfl,_,rfl,?_⟩;refine Am (λ_=>?_) (λ_=>?_)
  .exact⟨_,rfl,c,rfl,rfl,c0,o⟩
  .exact⟨0,rfl,rfl,by decide,by decide +kernel⟩
 rintro σ' H'⟨d,rfl,rfl,n,l⟩;have e0:0<=c % 2147483629:=LJ _ (by decide);have t:c % 2147483629<2147483629:=LI _ (by decide);refine⟨_,rfl,_,rfl,_,_,rfl,rfl,(by show(0:Int)<2147483629;decide),_,rfl,_,_,rfl,rfl,⟨by decide +kernel,M4 (by omega) (by omega)⟩,_,_,rfl,rfl,_,_,rfl,rfl,_,_,rfl,rfl,⟨M4 (by omega) (by omega),by decide +kernel⟩,_,_,rfl,rfl,(by show(0:Int)<2147483647;decide),?_⟩;refine⟨(by show 2<=sizeLine;decide),λp e=>?_⟩;exact q p _ e (Ah e _) ⟨d,_,AH,n,l,LJ _ (by decide),LI _ (by decide)⟩
def gK:Aw ["pot","many","found"] ["pot","many"] (Ag Ui):=by walk_at "z1"
def mT(F:AK K "_law_take" "_law_take" Ui f fd)(m:mg "_law_take"=some (.ref f)):
  A9 P w K mg Zu "_law_take" 1 ["pot","many"] (Jv):=by
 refine A9.mk F (F.binds (by walk_at "bD2")) m (F.B4 (k:=0) gK (λvs H Q E h=>?_) (λAe A outer s H vs Q E hr h=>?_))
 .obtain⟨p,m,rfl,⟨a,b,d,a0,g,b0,l⟩,e,o,q⟩:=h;rfl
 obtain⟨p,m,rfl,⟨a,b,d,a0,g,b0,l⟩,e,o,q⟩:=h;refine⟨_,(AB rfl (Aj (Aa KO (AF EV (qv 0) A6) A6) (AB rfl (Az 2 gK.nd (B2 Ja (AF EV (qv 0) A6) (qv 1)))
   (AB rfl (Jh (B2 VD (AF EV (qv 0) A6) (qv 1)) (Xf (qv 0) A6 set_list))
   (AD rfl (AX (qv 2))))) Ao)
   (AB rfl (Jh (B2 Ja (B2 E9 (B2 K9 (AF EV (qv 0) A6) A6) A6) A6) (Xf (qv 0) A6 set_list))
   (AD rfl (AX (B2 Ja (B2 VD (B2 Ja (B2 K9 (AF EV (qv 0) A6) (AF EV (qv 0) A6)) A6) A6) (qv 1)))))),?_⟩
 refine⟨_,rfl,p,_,_,_,rfl,rfl,AJ.of d,rfl,_,_,rfl,rfl,_,rfl,?_⟩;refine Am (λc=>?_) (λc=>?_)
 .have t:0<a:=mi c;refine⟨_,rfl,p,_,_,_,rfl,rfl,AJ.of d,rfl,_,rfl,_,_,rfl,rfl,e,?_⟩;refine⟨_,rfl,p,_,_,_,rfl,rfl,AJ.of d,rfl,_,rfl,_,_,rfl,rfl,⟨e,M4 (by omega) (by omega)⟩,?_⟩;refine⟨_,rfl,p,_,_,_,rfl,rfl,d,rfl,?_⟩;refine⟨_,rfl,?_⟩;refine q _ _ (LJ _ (by omega)) (LI _ e) ⟨⟨a / m,b,AH,Int.ediv_nonneg a0 (by omega),ZDS (Int.ediv_le_self _ a0) g,b0,l⟩,Gj.upd⟩
 .refine⟨_,rfl,p,_,_,_,rfl,rfl,AJ.of d,rfl,_,_,rfl,rfl,⟨M4 (by omega) (by omega),by decide +kernel⟩,_,_,rfl,rfl,_,_,rfl,rfl,(by show(0:Int)<2147483647;decide),?_⟩;refine⟨_,rfl,p,_,_,_,rfl,rfl,d,rfl,?_⟩;have j:0<=(b * 69621+12345) % 2147483647:=LJ _ (by decide);have n:(b * 69621+12345) % 2147483647<2147483647:=LI _ (by decide);generalize r:(b * 69621+12345) % 2147483647=b' at j n;have i:(upd H p (.lst [.int a,.int ((b * 69621+12345) % 2147483647)])) p=some (.lst [.int a,.int b']):=by rw[AH,r]
  refine⟨_,rfl,p,_,_,_,rfl,rfl,AJ.of i,rfl,_,rfl,p,_,_,_,rfl,rfl,AJ.of i,rfl,_,_,rfl,rfl,⟨M4 (by omega) (by omega),M4 (by omega) (by omega)⟩,_,_,rfl,rfl,(by show(0:Int)<2147483629;decide),?_⟩;refine⟨_,_,rfl,rfl,⟨(by show(0:Int)<64;decide),by decide +kernel⟩,_,rfl,_,_,rfl,rfl,e,?_⟩;exact q _ _ (LJ _ (by omega)) (LI _ e) ⟨⟨a,b',i,a0,g,j,n⟩,Gj.upd⟩
def Pm:Aw ["number","word"] ["number"] (Ag UC):=by walk_at "z1"
def oA(F:AK K "_law_letters" "_law_letters" UC f fd)(m:mg "_law_letters"=some (.ref f)):
  A9 P w K mg Zu "_law_letters" 1 ["number"] (aO):=by
 refine A9.mk F (F.binds (by walk_at "bD1")) m (F.B4 (k:=0) Pm (λvs H Q E h=>?_) (λAe A outer s H vs Q E hr h=>?_))
 .obtain⟨r,rfl,l,p,q⟩:=h;rfl
 obtain⟨r,rfl,l,p,q⟩:=h;refine⟨_,(AB rfl (Az 1 Pm.nd AY)
   (AB rfl (Ca (eJ I0 (DQ (Aa BO (qv 1) AY) (FX (Aa KO (qv 0) A6))).pt (AB rfl (Az 1 Pm.nd (B2 d8 (qv 1) (AF nr AY (B2 Ja (qv 0) A6))))
   (AD rfl (Az 0 Pm.nd (B2 VD (qv 0) A6))))))
   (AD rfl (AX (qv 1))))),?_⟩
 obtain⟨n,rfl⟩:=Ef l;have hn:n<26 ^ 8:=by omega
 rw[Sn]at q;refine⟨λσ' H'=>∃v,σ'=[some v,some (.str (D5 (MA.lets n)))]/\H=H',?_,?_⟩
 .refine⟨λm σ' H'=>∃(k:Nat)(pre:List Nat),σ'=[some (.int k),some (.str (D5 pre))]/\H=H'/\((pre=[]/\k=n/\m=n+2)∨(pre≠[]/\m=k+1/\(0<k->pre++MA.lets k=MA.lets n)/\(k=0->pre=MA.lets n))),⟨n+2,n,[],rfl,rfl,.inl ⟨rfl,rfl,rfl⟩⟩,?_⟩;rintro m σ' H'⟨k,pre,rfl,rfl,o⟩;refine⟨_,rfl,rfl,_,rfl,?_⟩;refine Am (λc=>JO ?_) (λc=>⟨_,rfl,_,_,rfl,rfl,_,rfl,?_⟩)
  .have e:pre=[]:=ZQ.mp (mi c);obtain⟨_,b,t⟩|⟨h,_⟩:=o
   .have d:pre++MA.lets k=MA.lets n:=by rw[e,b];rfl
    have a:pre.length+1<=8:=by
     have h1:=sA List.length d;rw[Bu]at h1;have h2:=MA.Q5 7 n hn;have u:=MA.Wj k;omega
    refine⟨λσ' H'=>σ'=[some (.int ((k:Int) / 26)),some (.str (D5 pre++⟨#[97+((k:Int) % 26).toNat]⟩))]/\H=H',?_,?_⟩
    .rintro σ' H'⟨rfl,rfl⟩;have nx:=fO d;have i:((k:Int) % 26).toNat=k % 26:=by omega
     have g:(k:Int) / 26=((k / 26:Nat):Int):=by omega
     exact⟨k / 26+1,by omega,k / 26,pre++[97+k % 26],by rw[i,g,jZ],rfl,.inr ⟨by simp,rfl,nx.1,nx.2⟩⟩
    .refine⟨_,rfl,_,rfl,_,_,rfl,rfl,(by show(0:Int)<26;decide),_,_,_,rfl,rfl,(by decide +kernel),fN (LJ _ (by decide)) (LI _ (by decide)),_,_,rfl,rfl,?_,?_⟩
     .rw[Ri];exact small (show pre.length+1<=_ by omega)
     .exact⟨_,rfl,_,_,rfl,rfl,⟨(by show(0:Int)<26;decide),by decide +kernel⟩,rfl,rfl⟩
   .exact absurd e h
  .have e:pre≠[]:=λh=>c (lx (ZQ.mpr h));obtain⟨h,_⟩|⟨_,t,h1,h2⟩:=o
   .exact absurd h e
   refine Am (λj=>?_) (λj=>?_)
   .have b:0<k:=by have:(0:Int)<k:=mi j;omega
    have d:=h1 b;have a:pre.length+1<=8:=by
     have h1:=sA List.length d;rw[Bu]at h1;have h2:=MA.Q5 7 n hn;have u:=MA.Wj k;omega
    refine⟨λσ' H'=>σ'=[some (.int ((k:Int) / 26)),some (.str (D5 pre++⟨#[97+((k:Int) % 26).toNat]⟩))]/\H=H',?_,?_⟩
    .rintro σ' H'⟨rfl,rfl⟩;have nx:=fO d;have i:((k:Int) % 26).toNat=k % 26:=by omega
     have g:(k:Int) / 26=((k / 26:Nat):Int):=by omega
     exact⟨k / 26+1,by omega,k / 26,pre++[97+k % 26],by rw[i,g,jZ],rfl,.inr ⟨by simp,rfl,nx.1,nx.2⟩⟩
    .refine⟨_,rfl,_,rfl,_,_,rfl,rfl,(by show(0:Int)<26;decide),_,_,_,rfl,rfl,(by decide +kernel),fN (LJ _ (by decide)) (LI _ (by decide)),_,_,rfl,rfl,?_,?_⟩
     .rw[Ri];exact small (show pre.length+1<=_ by omega)
     .exact⟨_,rfl,_,_,rfl,rfl,⟨(by show(0:Int)<26;decide),by decide +kernel⟩,rfl,rfl⟩
   .have b:k=0:=by
     have:¬ (0:Int)<k:=λz=>j (lx z);omega
    exact⟨_,by rw[h2 b],rfl⟩
 .rintro σ' H'⟨v,rfl,rfl⟩;exact⟨_,rfl,q _ (A8.refl _)⟩
def GL:Aw ["pot","names","some","way","name","number"] ["pot","names"] (Ag Th):=by walk_at "z1"
def yi(F:AK K "_law_name" "_law_name" Th f fd)(m:mg "_law_name"=some (.ref f)):
  A9 P w K mg Zu "_law_name" 2 ["pot","names"] (O8 K):=by
 refine A9.mk F (F.binds (by walk_at "bD2")) m (F.B4 (k:=1) GL (λvs H Q E h=>?_) (λAe A outer s H vs Q E hr h=>?_))
 .obtain⟨p,q,ns,rfl,T,t,Ax,W,hL,K1⟩:=h;rfl
 obtain⟨p,q,ns,rfl,T,t,Ax,W,hL,K1⟩:=h;refine⟨_,(AB rfl (Az 2 GL.nd (BV (A0 AY (A0 AY (A0 AY (A0 AY (A0 AY (A0 AY (A0 AY (A0 AY (A0 AY (A0 AY (A0 AY (A0 AY (A0 AY A4)))))))))))))))
   (AB rfl (Az 3 GL.nd (AV BX hr (A0 (qv 0) (A0 A6 A4))))
   (AB rfl (Az 4 GL.nd (AF AL (qv 2) (AV BX hr (A0 (qv 0) (A0 A6 A4)))))
   (AB rfl (Ca (Aj (Aa BO (qv 3) A6) (AD rfl (Az 4 GL.nd (AV P8 hr (A0 (AV BX hr (A0 (qv 0) (A0 (B2 O3 (B2 M8 A6 A6) A6) A4))) A4)))) Ao))
   (AB rfl (Ca (Aj (GH (Aa BO (qv 3) A6) (GI (Aa (Ow hr.IM) (qv 1) (Fb A4)))).pt (AB rfl (Az 4 GL.nd (AF EV (qv 1) (AV BX hr (A0 (qv 0) (A0 (As Eb Ak (A0 (qv 1) A4)) A4)))))
   (AD rfl (Az 4 GL.nd (Fs fb (B2 d8 (qv 4) (AV P8 hr (A0 (AV BX hr (A0 (qv 0) (A0 A6 A4))) A4))) HQ (Ea A6))))) Ao))
   (AB rfl (Ca (Aj (GH (Aa BO (qv 3) A6) (GI (Aa (Ow hr.IM) (qv 1) (Fb A4)))).pt (AB rfl (Az 4 GL.nd (AF EV (qv 1) (AV BX hr (A0 (qv 0) (A0 (As Eb Ak (A0 (qv 1) A4)) A4)))))
   (AD rfl (Az 4 GL.nd (Fs fb (qv 4) HQ (Ea (B2 E9 A6 (AV BX hr (A0 (qv 0) (A0 (As Y0 Ak (A0 (qv 4) A4)) A4))))))))) Ao))
   (AB rfl (Az 5 GL.nd A6)
   (AB rfl (Ca (eJ I0 (Aa Ld (qv 4) (qv 1)) (AB rfl (Az 4 GL.nd (AV P8 hr (A0 (qv 5) A4)))
   (AD rfl (Az 5 GL.nd (B2 E9 (qv 5) A6))))))
   (AD rfl (AX (qv 4))))))))))),?_⟩
 have D:(ns.map V.str).length=ns.length:=AW _;have t:AJ K H q (ns.map V.str):=AJ.of t;refine⟨(by show 13<=sizeLine;decide +kernel),λl FF=>?_⟩;have G0:l≠p:=by
  obtain⟨_,_,e,_⟩:=T;exact(E8 e FF).symm
 have g0:BC p H (upd H l (.tup RA)):=BC.of T (Ah FF _);refine⟨_,rfl,p,4,rfl,g0.AQ,by decide,by decide,λd H1 w0 w1 s1=>?_⟩;refine⟨_,rfl,_,rfl,p,13,rfl,s1.AQ,by decide,by decide,λi H2 i0 i1 s2=>?_⟩;have h2:H2 l=some (.tup RA):=s2.at' (s1.at' AH G0) G0;obtain⟨x,hx,nx⟩:=qe i0 i1;refine⟨l,_,_,_,rfl,rfl,AA.of h2,hx,?_⟩;have O:=g0.trans (s1.trans s2);refine⟨λσ' H'=>∃x,σ'=[some (.ref p),some (.ref q),some (.ref l),some (.int d),some (.str x),none]/\Nm x/\BC p H H',?_,?_⟩
 .refine⟨_,rfl,rfl,_,rfl,?_⟩;refine Am (λc=>?_) (λc=>?_)
  .refine⟨_,rfl,_,_,rfl,rfl,⟨by decide,by decide,by decide +kernel⟩,_,_,rfl,rfl,p,_,rfl,O.AQ,q8,xY,λr H3 C M X=>?_⟩;have I:r<26 ^ 8:=Int.lt_trans M rX;exact⟨r,rfl,C,I,λH4 s4=>⟨_,rfl,Wu (Zm C I),(O.trans X).trans (BC.of X.AQ s4)⟩⟩
  .exact⟨x,rfl,nx,O⟩
 clear h2 hx nx s2 O i0 i1;rintro σ' H3⟨y,rfl,o,g⟩;refine⟨λσ' H'=>∃x,σ'=[some (.ref p),some (.ref q),some (.ref l),some (.int d),some (.str x),none]/\Nm x/\BC p H H',?_,?_⟩
 .refine⟨_,rfl,rfl,_,rfl,?_⟩;refine Am (λc=>?_) (λc=>Cv ⟨y,rfl,o,g⟩);refine⟨_,rfl,(by show 0<=sizeLine;decide),λe U=>?_⟩;have b:=g.trans (BC.of g.AQ (Ah U (.lst [])));have L:=b.NL t Ax;refine⟨q,e,_,[],rfl,rfl,.inl ⟨L,AJ.of AH⟩,Fi ns,rfl,_,rfl,?_⟩;rw[Nd];refine Am (λJ=>?_) (λJ=>⟨y,rfl,o,b⟩);have J5:0<ns.length:=by
   cases ns with
   |nil=>simp at J
   |cons a r=>simp
  refine⟨_,rfl,_,rfl,_,rfl,q,_,rfl,.inl L,p,_,rfl,b.AQ,(by rw[D];omega),(by rw[D];omega),λi H5 i0 i1 S=>?_⟩;rw[D]at i1;have B:=b.trans S;obtain⟨z,hz,Vl,_⟩:=NV i0 i1;have u:=W z Vl;refine⟨q,_,_,_,rfl,rfl,B.NL t Ax,hz,?_⟩;refine⟨_,rfl,_,rfl,p,26,rfl,B.AQ,by decide,by decide,λr H6 C M R=>?_⟩;have N:=B.trans R;have I:r<26 ^ 8:=Int.lt_trans M rG;refine⟨r,rfl,C,I,λH7 s7=>?_⟩;have N:=N.trans (BC.of N.AQ s7);have Y:=Wu (n:=r.toNat) (Zm C I);have σ:z.length+(D5 (MA.lets r.toNat)).length<=16:=by have:=u.2.1;have:=Y.2.1;omega
  refine⟨_,_,rfl,rfl,small (by omega),?_⟩;refine⟨_,rfl,_,rfl,small (by rw[ZL];omega),?_⟩;refine⟨_,rfl,hZ (by decide) (by decide) (by rw[ZL];have:=u.1;omega) (λc G=>?_),N⟩;rw[bh]at G;rcases List.mem_append.mp G with G|G
  .exact u.2.2 c G
  .exact Y.2.2 c G
 clear o g;rintro σ' H3⟨y,rfl,o,g⟩;refine⟨λσ' H'=>∃x,σ'=[some (.ref p),some (.ref q),some (.ref l),some (.int d),some (.str x),none]/\Nm x/\BC p H H',?_,?_⟩
 .refine⟨_,rfl,rfl,_,rfl,?_⟩;refine Am (λc=>?_) (λc=>Cv ⟨y,rfl,o,g⟩);refine⟨_,rfl,(by show 0<=sizeLine;decide),λe U=>?_⟩;have b:=g.trans (BC.of g.AQ (Ah U (.lst [])));have L:=b.NL t Ax;refine⟨q,e,_,[],rfl,rfl,.inl ⟨L,AJ.of AH⟩,Fi ns,rfl,_,rfl,?_⟩;rw[Nd];refine Am (λJ=>?_) (λJ=>⟨y,rfl,o,b⟩);have J5:0<ns.length:=by
   cases ns with
   |nil=>simp at J
   |cons a r=>simp
  refine⟨_,rfl,_,rfl,_,rfl,q,_,rfl,.inl L,p,_,rfl,b.AQ,(by rw[D];omega),(by rw[D];omega),λi H5 i0 i1 S=>?_⟩;rw[D]at i1;have B:=b.trans S;obtain⟨z,hz,Vl,_⟩:=NV i0 i1;have u:=W z Vl;refine⟨q,_,_,_,rfl,rfl,B.NL t Ax,hz,?_⟩;have vq:=u.1;have nz2:=u.2.1;refine⟨_,rfl,_,rfl,_,rfl,_,rfl,small (by omega),p,_,rfl,B.AQ,(by omega),(by omega),λr H6 C M R=>?_⟩;refine⟨_,_,rfl,rfl,_,rfl,_,rfl,small (by omega),?_⟩;exact⟨_,rfl,hZ (by omega) (by omega) vq u.2.2,B.trans R⟩
 clear o g;rintro σ' H3⟨y,rfl,o,g⟩;refine⟨λσ' H'=>∃x v,σ'=[some (.ref p),some (.ref q),some (.ref l),some (.int d),some (.str x),some v]/\Nm x/\x∉ns/\BC p H H',?_,?_⟩
 .refine⟨λm σ' H'=>∃(k:Nat)(x:Str),σ'=[some (.ref p),some (.ref q),some (.ref l),some (.int d),some (.str x),some (.int k)]/\BC p H H'/\Nm x/\m=ns.length+1 - k/\k<=ns.length+1/\(0<k->x=D5 (MA.lets (k - 1)))/\(∀j,j+1<k->D5 (MA.lets j)∈ns),
   ⟨ns.length+1,0,y,rfl,g,o,rfl,Bm _,λh=>absurd h (by decide),λj h=>absurd h (by omega)⟩,?_⟩
  rintro m σ' H'⟨k,x,rfl,b,nx,rfl,hk,hx,hj⟩;refine⟨_,rfl,_,rfl,q,_,rfl,.inl (b.NL t Ax),rfl,Fi ns,_,rfl,?_⟩;rw[mY (by decide),Kc];refine Am (λc=>?_) (λc=>⟨x,_,rfl,nx,λz=>c (lx z),b⟩);have XB:x∈ns:=mi c;have JY:∀j,j<k->D5 (MA.lets j)∈ns:=λj MR=>by
   by_cases e:j+1<k
   .exact hj j e
   .have e2:j=k - 1:=by omega
    rw[e2,<- hx (by omega)];exact XB
  have vp:=ZCT JY;refine⟨λσ' H'=>σ'=[some (.ref p),some (.ref q),some (.ref l),some (.int d),some (.str (D5 (MA.lets k))),some (.int ((k:Int)+1))]/\BC p H H',?_,?_⟩
  .rintro σ' H'⟨rfl,b⟩;exact⟨ns.length+1 - (k+1),by omega,k+1,D5 (MA.lets k),rfl,b,Wu (JB (Cs vp hL) kK),rfl,by omega,λ_=>rfl,λj MR=>JY j (by omega)⟩
  .refine⟨_,rfl,k,rfl,by omega,?_,λH4 s4=>?_⟩
   .have:(k:Int)<=1000:=by omega
    exact ZDS this wM
   .rw[Sn];exact⟨_,rfl,_,_,rfl,rfl,rfl,b.trans (BC.of b.AQ s4)⟩
 rintro σ' H'⟨x,v,rfl,nx,hx,b⟩;exact⟨_,rfl,K1 x H' nx hx b⟩
def Xh:Aw ["pot","many","names","k"] ["pot","many"] (Ag TR):=by walk_at "z1"
def oz(F:AK K "_law_names" "_law_names" TR f fd)(m:mg "_law_names"=some (.ref f)):
  A9 P w K mg Zu "_law_names" 3 ["pot","many"] (dD):=by
 refine A9.mk F (F.binds (by walk_at "bD2")) m (F.B4 (k:=2) Xh (λvs H Q E h=>?_) (λAe A outer s H vs Q E hr h=>?_))
 .obtain⟨p,m,rfl,j,r,o,q⟩:=h;rfl
 obtain⟨p,m,rfl,j,r,o,q⟩:=h;refine⟨_,(AB rfl (Az 2 Xh.nd (Fb A4))
   (AB rfl (Ca (J2 I0 rfl (Yf rfl Ho (A0 (qv 1) A4)) (C6 3 Xh.nd) (AD rfl (DR (HP JC T5 T7 Nj (qv 2) (A0 (AV IH hr (A0 (qv 0) (A0 (qv 2) A4))) A4))))))
   (AD rfl (AX (qv 2))))),?_⟩
 refine⟨(by show 0<=sizeLine;decide),λl c=>?_⟩;have d:=j.ne c;refine⟨λσ' H'=>∃(ns:List Str)(v:Option V),σ'=[some (.ref p),some (.int m),some (.ref l),v]/\BC p H H'/\H' l=some (.lst (ns.map V.str))/\(ns.length:Int)=m/\(∀x∈ns,Nm x)/\ns.Nodup,?_,?_⟩
 .refine⟨_,rfl,m,rfl,by omega,by omega,kG (n:=m.toNat) (λi σ' H'=>∃(ns:List Str)(v:Option V),σ'=[some (.ref p),some (.int m),some (.ref l),v]/\BC p H H'/\H' l=some (.lst (ns.map V.str))/\ns.length=i/\(∀x∈ns,Nm x)/\ns.Nodup) ?_ ?_ ?_⟩
  .exact⟨[],none,rfl,(BC.of j (A8.refl H)).upd c d,AH,rfl,λx hx=>absurd hx (by simp),by simp⟩
  .rintro i σ' H' hi⟨ns,v,rfl,g,e,a,b,nd⟩;refine⟨_,rfl,.inl ⟨rfl,_,AJ.of e⟩,_,rfl,_,rfl,p,l,ns,rfl,g.AQ,e,d,b,by omega,λx H2 nx hx s2=>?_⟩;refine⟨l,_,_,rfl,rfl,s2.at' e d,JB (m:=100) (by rw[AW];omega) (by decide +kernel),?_⟩;refine⟨ns++[x],_,rfl,(g.trans s2).upd c d,by rw[AH,E4];rfl,by rw[Bu];simp[a],λy t=>?_,Pj nd hx⟩;rcases List.mem_append.mp t with h|h
   .exact b y h
   .have:y=x:=by simpa using h
    rw[this];exact nx
  .rintro σ' H'⟨ns,v,rfl,g,e,a,b,nd⟩;exact⟨ns,v,rfl,g,e,by omega,b,nd⟩
 rintro σ' H'⟨ns,v,rfl,g,e,a,b,nd⟩;exact⟨_,rfl,q l H' ns c g e a b nd⟩
def Ub:Aw ["pot","most","many"] ["pot","most"] (Ag TC):=by walk_at "z1"
def ZBi(F:AK K "_law_row" "_law_row" TC f fd)(m:mg "_law_row"=some (.ref f)):
  A9 P w K mg Zu "_law_row" 4 ["pot","most"] (Xs):=by
 refine A9.mk F (F.binds (by walk_at "bD2")) m (F.B4 (k:=3) Ub (λvs H Q E h=>?_) (λAe A outer s H vs Q E hr h=>?_))
 .obtain⟨p,m,rfl,i,c,u,q⟩:=h;rfl
 obtain⟨p,m,rfl,i,c,u,q⟩:=h;refine⟨_,(AB rfl (Az 2 Ub.nd (AV BX hr (A0 (qv 0) (A0 (B2 E9 (qv 1) A6) A4))))
   (AB rfl (Ca (Aj (Aa BO (AV BX hr (A0 (qv 0) (A0 A6 A4))) A6) (AD rfl (Az 2 Ub.nd (AF AL (BV (A0 A6 (A0 A6 (A0 (qv 1) A4)))) (AV BX hr (A0 (qv 0) (A0 A6 A4)))))) Ao))
   (AD rfl (AX (AV YD hr (A0 (qv 0) (A0 (qv 2) A4))))))),?_⟩
 refine⟨_,rfl,_,rfl,_,_,rfl,rfl,p,_,rfl,i,by omega,by omega,λa H1 n0 n1 s1=>?_⟩;refine⟨λσ' H'=>∃k:Int,σ'=[some (.ref p),some (.int m),some (.int k)]/\0<=k/\k<=m/\BC p H H',?_,?_⟩
 .refine⟨_,rfl,p,8,rfl,s1.AQ,by decide,by decide,λr H2 G D s2=>?_⟩;have b:=s1.trans s2;refine⟨rfl,_,rfl,?_⟩;refine Am (λ_=>?_) (λ_=>⟨a,rfl,n0,by omega,b⟩);refine⟨_,rfl,(by show 3<=sizeLine;decide +kernel),λt d=>?_⟩;have C:=b.AQ.ne d;have o:=b.trans (BC.of b.AQ (Ah d (.tup [.int 0,.int 1,.int m])));refine⟨_,rfl,p,3,rfl,o.AQ,by decide,by decide,λj H4 x v s4=>?_⟩;obtain⟨k,z,k0,k1⟩:=zb x v c;exact⟨t,_,_,_,rfl,rfl,AA.of (s4.at' AH C),z,k,rfl,k0,k1,o.trans s4⟩
 rintro σ' H'⟨k,rfl,k0,k1,g⟩;refine⟨_,rfl,_,rfl,p,k,rfl,g.AQ,k0,by omega,λl H' ns y s e n B nd=>?_⟩;exact q l H' ns (g.none y) (g.trans s) e (by omega) B nd
def Qt:Aw ["pot","row","most","way","low","name"] ["pot","row","most"] (Ag Xb):=by walk_at "z1"
def uO(F:AK K "_law_deed" "_law_deed" Xb f fd)(m:mg "_law_deed"=some (.ref f)):
  A9 P w K mg Zu "_law_deed" 3 ["pot","row","most"] (QJ):=by
 refine A9.mk F (F.binds (by walk_at "bD3")) m (F.B4 (k:=2) Qt (λvs H Q E h=>?_) (λAe A outer s H vs Q E hr h=>?_))
 .obtain⟨p,a,m,ns,rfl,N,O,Ax,I,hz,X,W,q⟩:=h;rfl
 obtain⟨p,a,m,ns,rfl,N,O,Ax,I,hz,X,W,q⟩:=h;refine⟨_,(AB rfl (Az 3 Qt.nd (AV BX hr (A0 (qv 0) (A0 A6 A4))))
   (AB rfl (Aj (DQ (GH (Aa Fc (qv 3) A6) (GI (Aa Fc (As Eb Ak (A0 (qv 1) A4)) (qv 2)))).pt (FX (Aa (R3 hr.IM) (qv 1) (Fb A4)))).pt (AB rfl (Aj (Aa MU (As Eb Ak (A0 (qv 1) A4)) (qv 2)) (AD rfl (AX (BV (A0 AY (A0 A6 (A0 A6 A4)))))) Ao)
   (AD rfl (AX (BV (A0 AY (A0 (AV IH hr (A0 (qv 0) (A0 (qv 1) A4))) (A0 (AV BX hr (A0 (qv 0) (A0 (B2 E9 (As Eb Ak (A0 (qv 1) A4)) A6) A4))) A4))))))) Ao)
   (AB rfl (Aj (Aa BO (qv 3) A6) (AB rfl (Az 4 Qt.nd (AV BX hr (A0 (qv 0) (A0 (B2 E9 (As Eb Ak (A0 (qv 1) A4)) A6) A4))))
   (AD rfl (AX (BV (A0 AY (A0 (qv 4) (A0 (B2 E9 (qv 4) (AV BX hr (A0 (qv 0) (A0 (B2 E9 (B2 O3 (As Eb Ak (A0 (qv 1) A4)) (qv 4)) A6) A4)))) A4))))))) Ao)
   (AB rfl (Az 5 Qt.nd (AF EV (qv 1) (AV BX hr (A0 (qv 0) (A0 (As Eb Ak (A0 (qv 1) A4)) A4)))))
   (AB rfl (Aj (Aa BO (qv 3) A6) (AD rfl (AX (BV (A0 AY (A0 (qv 5) (A0 (AV BX hr (A0 (qv 0) (A0 (As Eb Ak (A0 (qv 1) A4)) A4))) A4)))))) Ao)
   (AD rfl (AX (BV (A0 AY (A0 (qv 5) A4)))))))))),?_⟩
 have b:=Dm ns;have v:∀n:Nat,n<=3->n<=sizeLine:=λn h=>Cs h (by decide +kernel);refine⟨_,rfl,p,5,rfl,N,by decide,by decide,λT H1 w0 w1 s1=>?_⟩;have C:=s1.at' O Ax;have R:decide (ns.map V.str=[])=true->ns=[]:=λh=>List.map_eq_nil_iff.mp (mi h);have S:¬ decide (ns.map V.str=[])=true->0<ns.length:=λh=>by
  cases ns with
  |nil=>exact absurd (lx rfl) h
  |cons y r=>simp
 refine⟨_,rfl,_,_,rfl,rfl,_,rfl,?_⟩;refine Am (λY=>?_) (λY=>Cv ?_)
 .refine⟨_,rfl,a,_,rfl,.inl (AJ.of C),_,rfl,_,_,rfl,rfl,_,rfl,?_⟩;refine Am (λJ=>JO ?_) (λJ=>?_)
  .have σ:ns.length<m:=by have:=mi J;rw[b]at this;omega
   have l:=s1;have j:=C;refine⟨_,rfl,a,_,rfl,.inl (AJ.of j),_,rfl,_,_,rfl,rfl,_,rfl,B0 (by rw[b,qX (by omega)];decide) ?_⟩;refine⟨_,rfl,_,rfl,p,a,ns,rfl,l.AQ,j,Ax,I,by omega,λx H3 nx hx c=>?_⟩;have o:=c.at' j Ax;refine⟨_,rfl,_,rfl,a,_,rfl,.inl (AJ.of o),_,_,rfl,rfl,p,_,rfl,c.AQ,by omega,by rw[b];omega,λi H4 i0 i1 s4=>?_⟩;rw[b]at i1;obtain⟨i,rfl⟩:=Ef i0;refine⟨v _ (by simp),λt d=>?_⟩;have g:=l.trans (c.trans s4);exact q (.put x i) t _ (g.none d) (g.trans (BC.of g.AQ (Ah d _))) AH ⟨nx,hx,by omega,by omega⟩
  .have U:¬ ns.length<m:=λz=>J (lx (by rw[b];omega));refine⟨_,rfl,(by show 0<=sizeLine;decide),λe G=>?_⟩;have s2:=BC.of s1.AQ (Ah G (.lst []));have l:=s1.trans s2;have j:=s2.at' C Ax;refine⟨a,e,_,[],rfl,rfl,.inl ⟨AJ.of j,AJ.of AH⟩,Fi ns,rfl,_,rfl,?_⟩;show if FI (ns.map V.str) []=true then _ else _
   rw[Nd];refine Am (λB=>?_) (λB=>?_)
   .exact absurd (by rw[R B];show 0<m;omega) U
   .have J5:=S B;refine⟨_,rfl,rfl,_,rfl,?_⟩;refine Am (λL=>?_) (λL=>?_)
    .refine⟨_,rfl,_,rfl,a,_,rfl,.inl (AJ.of j),_,_,rfl,rfl,p,_,rfl,l.AQ,by omega,by rw[b];omega,λlo H3 D l1 c=>?_⟩;rw[b]at l1;obtain⟨lo,rfl⟩:=Ef D;have o:=c.at' j Ax;refine⟨_,rfl,_,rfl,_,rfl,_,rfl,a,_,rfl,.inl (AJ.of o),_,rfl,_,_,rfl,rfl,_,_,rfl,rfl,p,_,rfl,c.AQ,by rw[b];omega,by rw[b];omega,λk H4 k0 k1 s4=>?_⟩;rw[b]at k1;obtain⟨k,rfl⟩:=Ef k0;refine⟨_,_,rfl,rfl,v _ (by simp),λt d=>?_⟩;have g:=l.trans (c.trans s4);exact q (.turn lo (lo+k)) t _ (g.none d) (g.trans (BC.of g.AQ (Ah d _))) (by rw[AH];rfl) ⟨by omega,by omega⟩
    .refine⟨_,rfl,_,rfl,_,rfl,a,_,rfl,.inl (AJ.of j),p,_,rfl,l.AQ,by rw[b];omega,by rw[b];omega,λi H3 i0 i1 c=>?_⟩;rw[b]at i1;have o:=c.at' j Ax;obtain⟨x,hx,OQ,_⟩:=NV i0 i1;refine⟨a,_,_,_,rfl,rfl,AJ.of o,hx,?_⟩;have u:=l.trans c;refine⟨_,rfl,rfl,_,rfl,?_⟩;refine Am (λM=>?_) (λM=>?_)
     .refine⟨_,rfl,_,rfl,_,rfl,a,_,rfl,.inl (AJ.of o),p,_,rfl,c.AQ,by rw[b];omega,by rw[b];omega,λk H4 k0 k1 s4=>?_⟩;rw[b]at k1;obtain⟨k,rfl⟩:=Ef k0;have g:=u.trans s4;refine⟨v _ (by simp),λt d=>?_⟩;exact q (.move x k) t _ (g.none d) (g.trans (BC.of g.AQ (Ah d _))) AH ⟨OQ,by omega⟩
     .refine⟨_,rfl,v _ (by simp),λt d=>?_⟩;exact q (.take x) t _ (u.none d) (u.trans (BC.of u.AQ (Ah d _))) AH OQ
 .skip
  refine⟨_,rfl,(by show 0<=sizeLine;decide),λe G=>?_⟩;have s2:=BC.of s1.AQ (Ah G (.lst []));have l:=s1.trans s2;have j:=s2.at' C Ax;refine⟨a,e,_,[],rfl,rfl,.inl ⟨AJ.of j,AJ.of AH⟩,Fi ns,rfl,_,rfl,?_⟩;show if FI (ns.map V.str) []=true then _ else _
  rw[Nd];refine Am (λB=>?_) (λB=>?_)
  .have σ:ns.length<m:=by rw[R B];show 0<m;omega
   refine⟨_,rfl,a,_,rfl,.inl (AJ.of j),_,rfl,_,_,rfl,rfl,_,rfl,B0 (by rw[b,qX (by omega)];decide) ?_⟩;refine⟨_,rfl,_,rfl,p,a,ns,rfl,l.AQ,j,Ax,I,by omega,λx H3 nx hx c=>?_⟩;have o:=c.at' j Ax;refine⟨_,rfl,_,rfl,a,_,rfl,.inl (AJ.of o),_,_,rfl,rfl,p,_,rfl,c.AQ,by omega,by rw[b];omega,λi H4 i0 i1 s4=>?_⟩;rw[b]at i1;obtain⟨i,rfl⟩:=Ef i0;refine⟨v _ (by simp),λt d=>?_⟩;have g:=l.trans (c.trans s4);exact q (.put x i) t _ (g.none d) (g.trans (BC.of g.AQ (Ah d _))) AH ⟨nx,hx,by omega,by omega⟩
  .have J5:=S B;refine⟨_,rfl,rfl,_,rfl,?_⟩;refine Am (λL=>?_) (λL=>?_)
   .refine⟨_,rfl,_,rfl,a,_,rfl,.inl (AJ.of j),_,_,rfl,rfl,p,_,rfl,l.AQ,by omega,by rw[b];omega,λlo H3 D l1 c=>?_⟩;rw[b]at l1;obtain⟨lo,rfl⟩:=Ef D;have o:=c.at' j Ax;refine⟨_,rfl,_,rfl,_,rfl,_,rfl,a,_,rfl,.inl (AJ.of o),_,rfl,_,_,rfl,rfl,_,_,rfl,rfl,p,_,rfl,c.AQ,by rw[b];omega,by rw[b];omega,λk H4 k0 k1 s4=>?_⟩;rw[b]at k1;obtain⟨k,rfl⟩:=Ef k0;refine⟨_,_,rfl,rfl,v _ (by simp),λt d=>?_⟩;have g:=l.trans (c.trans s4);exact q (.turn lo (lo+k)) t _ (g.none d) (g.trans (BC.of g.AQ (Ah d _))) (by rw[AH];rfl) ⟨by omega,by omega⟩
   .refine⟨_,rfl,_,rfl,_,rfl,a,_,rfl,.inl (AJ.of j),p,_,rfl,l.AQ,by rw[b];omega,by rw[b];omega,λi H3 i0 i1 c=>?_⟩;rw[b]at i1;have o:=c.at' j Ax;obtain⟨x,hx,OQ,_⟩:=NV i0 i1;refine⟨a,_,_,_,rfl,rfl,AJ.of o,hx,?_⟩;have u:=l.trans c;refine⟨_,rfl,rfl,_,rfl,?_⟩;refine Am (λM=>?_) (λM=>?_)
    .refine⟨_,rfl,_,rfl,_,rfl,a,_,rfl,.inl (AJ.of o),p,_,rfl,c.AQ,by rw[b];omega,by rw[b];omega,λk H4 k0 k1 s4=>?_⟩;rw[b]at k1;obtain⟨k,rfl⟩:=Ef k0;have g:=u.trans s4;refine⟨v _ (by simp),λt d=>?_⟩;exact q (.move x k) t _ (g.none d) (g.trans (BC.of g.AQ (Ah d _))) AH ⟨OQ,by omega⟩
    .refine⟨_,rfl,v _ (by simp),λt d=>?_⟩;exact q (.take x) t _ (u.none d) (u.trans (BC.of u.AQ (Ah d _))) AH OQ
def o9:Aw ["pot"] ["pot"] (Ag UA):=by walk_at "z1"
def ax : ∀ss R,Ta ss R->ss.length=1:=by rintro _ _⟨rfl,rfl⟩;rfl
def nE(F:AK K "_law_rule" "_law_rule" UA f fd)(m:mg "_law_rule"=some (.ref f)):
  A9 P w K mg Zu "_law_rule" 2 ["pot"] (BN Ta):=by
 refine A9.mk F (F.binds (by walk_at "bD1")) m (F.B4 (k:=1) o9 (λvs H Q E h=>Fz.Gg ax h) (λAe A outer s H vs Q E hr h=>?_))
 refine⟨_,(AD rfl (AX (AF AL (BV (A0 AY (A0 AY (A0 AY A4)))) (AV BX hr (A0 (qv 0) (A0 A6 A4)))))),?_⟩;refine Fz.GN h ax ?_;rintro _ _⟨rfl,rfl⟩;show Ws [_] _ _ _
 walk_at "ww"
 refine⟨by decide,_,.inr ⟨rfl,rfl,?_⟩⟩
 walk_at "ww"
 refine⟨by decide,by decide,λq a c=>?_⟩;obtain⟨q,rfl⟩:=Ef a;obtain⟨r,hr,b⟩:=cI (k:=q) (by omega);exact⟨_,_,rfl,b,r,rfl,hr⟩
def LX:Aw ["row","loop","rule","gap","coming","found","left"] ["row","loop"] (Ag NU):=by walk_at "z1"
def kZ:=Sc [(".0",.local),("name",.local),("coming",.free)]
def ZCl:E6 ["row","loop","rule","gap","coming","found","left"] (Ag NU) kZ "name" ["coming"] [4]:=by walk_at "z2"
def xb:=Sc [(".0",.local),("name",.local),("found",.free)]
def sJ:E6 ["row","loop","rule","gap","coming","found","left"] (Ag NU) xb "name" ["found"] [5]:=by walk_at "z2"
def ZAi(F:AK K "_law_step" "_law_step" NU f fd)(m:mg "_law_step"=some (.ref f)):
  A9 P w K mg Zu "_law_step" 1 ["row","loop"] (Xj):=by
 refine A9.mk F (F.binds (by walk_at "bD2")) m (F.B4 (k:=0) LX (λvs H Q E h=>?_) (λAe A outer s H vs Q E hr h=>?_))
 .obtain⟨a,ns,t,r,g,ss,rfl,n,⟨c,O,G⟩,GJ,hz,q⟩:=h;rfl
 obtain⟨a,ns,t,r,g,ss,rfl,n,⟨c,O,G⟩,GJ,hz,q⟩:=h;refine⟨_,(AB rfl (Jh (qv 1) (Js rfl (Cu (C6 2 LX.nd) (Cu (C6 3 LX.nd) (Cu (C6 4 LX.nd) JL)))))
   (AB rfl (Az 5 LX.nd (Hi rfl ZCl (G8 (B2 JW (Fs MW (qv 0) (Ea (qv 3)) HQ) (Fs MW (qv 0) HQ (Ea (qv 3))))) (λ_ _ _ _=>by exact(Km (Aa (show BH _ (compareOp .In) (LD K false)from Ld) (qv 1) (qv 0)))) (λ_ _ _ _=>by exact(qv 1))))
   (AB rfl (Aj (Aa (R3 hr.IM) (qv 5) (Fb A4)) (AD rfl (AX (BV (A0 X8 (A0 (qv 1) A4))))) Ao)
   (AB rfl (Az 6 LX.nd (CS J7 Bo (A0 (Hi rfl sJ (G8 (qv 4)) (λ_ _ _ _=>by exact(Km (Aa Io (qv 1) (AF (show HZ _ (RW K)from EV) (qv 0) A6)))) (λ_ _ _ _=>by exact(qv 1))) A4)))
   (AD rfl (AX (BV (A0 (AF EV (qv 5) A6) (A0 (BV (A0 (qv 2) (A0 (B2 E9 (HP JC T6 ZH Rk (qv 0) (A0 (AF EV (qv 5) A6) A4)) A6) (A0 (qv 6) A4)))) A4))))))))),?_⟩
 have hl:=Dm ns;have yt:=Dm ss;refine⟨_,rfl,t,_,rfl,AA.of O,rfl,_,_,rfl,_,_,rfl,_,_,rfl,rfl,?_⟩;refine⟨_,rfl,_,rfl,_,rfl,a,_,rfl,AJ.of n,λl1 NB=>?_⟩;have n1:=Ah NB (.lst (Cg (ns.map V.str) (some (g:Int)) none));refine⟨_,rfl,_,rfl,_,rfl,a,_,rfl,AJ.of (n1 _ _ n),λl2 Et=>?_⟩;have n2:=Ah Et (.lst (Cg (ns.map V.str) none (some (g:Int))));have X:=n2 _ _ (AH (H:=H) (a:=l1) (o:=.lst (Cg (ns.map V.str) (some (g:Int)) none)));have W:=AH (H:=upd H l1 (.lst (Cg (ns.map V.str) (some (g:Int)) none))) (a:=l2) (o:=.lst (Cg (ns.map V.str) none (some (g:Int))));have k2:=n1.trans n2;generalize upd (upd H l1 (.lst (Cg (ns.map V.str) (some (g:Int)) none))) l2 (.lst (Cg (ns.map V.str) none (some (g:Int))))=H2 at *;rw[RO]at X;rw[Rf]at W;refine⟨l1,l2,_,_,rfl,rfl,X,W,small (by rw[FA,CK];omega),λD Tz=>?_⟩;have n3:=Ah Tz (.lst ((ns.map V.str).drop g++(ns.map V.str).take g));have k3:=k2.trans n3;have R:Df K false (upd H2 D (.lst ((ns.map V.str).drop g++(ns.map V.str).take g))) D ((ns.drop g++ns.take g).map V.str):=AJ.of (by rw[AH,E4,Ss,Su]);refine⟨false,D,_,rfl,R,λacc Au=>N1 (λv=>ES v (ss.map V.str)) (λv=>v) R Au (small (by rw[Dm,Bu,FA,CK];omega)) (λi v H' Q' l s4 h=>?_) (λi v H' Q' l _ s4 h=>?_) (λH4 s4 U=>?_)⟩
 .obtain⟨x,rfl,_⟩:=LV l;exact⟨_,rfl,_,rfl,c,_,rfl,.inr (AA.of (s4 _ _ (k3 _ _ G))),rfl,Fi ss,_,rfl,h _ (A8.refl _)⟩
 .exact⟨_,rfl,h _ (A8.refl _)⟩
 rw[m7,qJ]at U;have k4:=k3.trans s4;refine⟨_,rfl,(by show 0<=sizeLine;decide),λM xT=>?_⟩;have L:=Ah xT (.lst []);have j:=k4.trans L;have u:=L _ _ U;refine⟨acc,M,_,[],rfl,rfl,.inl ⟨AJ.of u,AJ.of AH⟩,Fi _,rfl,_,rfl,?_⟩;show if FI ((FE ns g ss).map V.str) []=true then _ else _
 rw[Nd];refine Am (λz=>?_) (λz=>?_)
 .have p:FE ns g ss=[]:=by simpa using z
  refine⟨_,rfl,(by show 2<=sizeLine;decide),λt' GR=>?_⟩;exact q t' _ (A8.none j GR) (j.trans (Ah GR _)) (.inl ⟨p,AH⟩)
 .obtain⟨x,Fy,p⟩:∃x Fy,FE ns g ss=x::Fy:=by
   cases h:FE ns g ss with
   |nil=>rw[h]at z;simp at z
   |cons x Fy=>exact⟨x,Fy,rfl⟩
  have hx:x∈ns/\x∈ss:=Rj.mp (by rw[p];exact Cz);rw[p]at u;generalize upd H4 M (.lst [])=H5 at *;have cN:Df K true H5 c (ss.map V.str):=AA.of (j _ _ G);refine⟨_,rfl,true,c,_,rfl,cN,λsM vm=>N1 (He (.str x)) (λv=>v) cN vm (by rw[yt];exact small (by omega)) (λi v H' Q' l b h=>?_) (λi v H' Q' l _ b h=>?_) (λH6 b T=>?_)⟩
  .obtain⟨y,rfl,_⟩:=LV l;exact⟨_,rfl,_,rfl,acc,_,_,_,rfl,rfl,AJ.of (b _ _ u),Ti,rfl,_,rfl,h _ (A8.refl _)⟩
  .exact⟨_,rfl,h _ (A8.refl _)⟩
  rw[Oc]at T;refine⟨sM,_,rfl,.inl ⟨AJ.of T,λd σ=>?_⟩⟩;have J:=Ah σ (.tup ((wo ss x).map V.str));have e:=j.trans (b.trans J);have f7:H d=none:=A8.none (j.trans b) σ;have S:=J _ _ (b _ _ u);have u7:=AH (H:=H6) (a:=d) (o:=.tup ((wo ss x).map V.str));generalize upd H6 d (.tup ((wo ss x).map V.str))=H7 at *;refine⟨_,rfl,acc,_,_,_,rfl,rfl,AJ.of S,Ti,_,rfl,_,rfl,.inl ⟨rfl,_,AJ.of (e _ _ n)⟩,_,rfl,acc,_,_,_,rfl,rfl,AJ.of S,Ti,a,ns,x,rfl,rfl,AJ.of (e _ _ n),hx.1,_,_,rfl,rfl,_,rfl,?_⟩;refine⟨(by show 3<=sizeLine;decide),λI N=>?_⟩;have C:=Ah N (.tup [.str r,.int ((ns.idxOf x:Nat)+1),.ref d]);refine⟨(by show 2<=sizeLine;decide),λt9 Y=>?_⟩;have B:=Ah Y (.tup [.str x,.ref I]);exact q t9 _ (A8.none (e.trans C) Y) (e.trans (C.trans B)) (.inr ⟨x,Fy,I,d,p,A8.none e N,f7,AH,B _ _ AH,B _ _ (C _ _ u7)⟩)
def O0:Aw ["pot","state","most","way","names","name","loop"] ["pot","state","most"] (Ag UJ):=by walk_at "z1"
def Zv : ∀ss R,YR ss R->ss.length=3:=by rintro _ _⟨s,m,rfl,_,_,_,_,_,rfl⟩;rfl
def ZCg(F:AK K "_law_good_entry" "_law_good_entry" UJ f fd)(m:mg "_law_good_entry"=some (.ref f)):
  A9 P w K mg Zu "_law_good_entry" 4 ["pot","state","most"] (BN YR):=by
 refine A9.mk F (F.binds (by walk_at "bD3")) m (F.B4 (k:=3) O0 (λvs H Q E h=>Fz.Gg Zv h) (λAe A outer s H vs Q E hr h=>?_))
 refine⟨_,(AB rfl (Az 3 O0.nd (AV BX hr (A0 (qv 0) (A0 A6 A4))))
   (AB rfl (Az 4 O0.nd (As (V4 rfl) DZ (A0 (BR (B8 hr) (qv 1) AY (λ_ _=>rfl)) A4)))
   (AB rfl (Aj (DQ (GH (Aa BO (qv 3) A6) (GI (Aa Fc (As D1 Ak (A0 (qv 4) A4)) A6))).pt (FX (GH (Aa Fc (qv 3) A6) (GI (Aa (R3 hr.IM) (qv 4) (Fb A4)))).pt)).pt (AD rfl (AX (BV (A0 AY (A0 (AV IH hr (A0 (qv 0) (A0 (CS (Xk rfl) Be (A0 (BR (B8 hr) (qv 1) AY (λ_ _=>rfl)) A4)) A4))) (A0 (AV V7 hr (A0 (qv 0) A4)) A4)))))) Ao)
   (AB rfl (Ca (Aj (Aa Fc (qv 3) A6) (AB rfl (Az 5 O0.nd (AF EV (qv 4) (AV BX hr (A0 (qv 0) (A0 (As D1 Ak (A0 (qv 4) A4)) A4)))))
   (AB rfl (Az 6 O0.nd (BR (B8 hr) (BR (B8 hr) (qv 1) AY (λ_ _=>rfl)) (qv 5) (λ_ _=>rfl)))
   (AB rfl (Aj (GH (Aa (R3 hr.IM) (AF AL (qv 6) A6) (BV A4)) (GI (Aa BO (AV BX hr (A0 (qv 0) (A0 A6 A4))) A6))).pt (AD rfl (AX (BV (A0 AY (A0 (qv 5) A4))))) Ao)
   (AB rfl (Aj (GH (Aa (Ow hr.IM) (AF AL (qv 6) A6) (BV A4)) (GI (Aa BO (AV BX hr (A0 (qv 0) (A0 A6 A4))) A6))).pt (AD rfl (AX (BV (A0 AY (A0 (qv 5) (A0 (AF AL (AF AL (qv 6) A6) (AV BX hr (A0 (qv 0) (A0 (As D1 Ak (A0 (AF AL (qv 6) A6) A4)) A4)))) A4)))))) Ao)
   (AD rfl (Aj (Aa (Ow hr.IM) (AF AL (qv 6) A6) (BV A4)) (AD rfl (AX (BV (A0 AY (A0 (qv 5) (A0 (AF AL (AV Ts hr (A0 (BR (B8 hr) (qv 1) AY (λ_ _=>rfl)) (A0 (qv 6) A4))) A6) A4)))))) Ao)))))) Ao))
   (AD rfl (AX (AV W0 hr (A0 (qv 0) (A0 (BR (B8 hr) (qv 1) AY (λ_ _=>rfl)) (A0 (qv 2) A4)))))))))),?_⟩
 refine Fz.GN h Zv ?_;rintro _ _⟨s,m,rfl,ok,h5,hn,v,Rw,rfl⟩;show Ws [_,_,_,.any,.any,.any,.any] _ _ _;have l1:=ok.l1
 walk_at "ww"
 refine⟨by decide,by decide,λa I N=>?_⟩;refine An (L3 (Yg (Iq (AS rfl ⟨k3,_,rfl,FN ⟨.inr "live", _,rfl,rfl,_,s.ln,rfl,by omega,λBx T st=>?_⟩⟩))));refine KG 4 rfl ?_;show Ws [.AQ,.is (D2 s),.is (.int m),.is (.int a),.is (.lst (Bx.map .str)),.any,.any] _ _ _;have G:=T.length_eq;refine An (C2 (ZA3 (k':=λb=>(b=true->s.ln.length<5)/\(b=false->a<5->Bx≠[])) ?_ ?_))
 .walk_at "ww"
  refine Am (λc=>?_) (λc=>?_)
  .walk_at "ww"
   rw[AW,G];refine Am (λB=>⟨λ_=>by have:=mi B;omega,λz=>by cases z⟩) (λB=>?_)
   walk_at "ww"
   refine Am (λD=>?_) (λD=>⟨λz=>(by cases z),λ_ z=>absurd (lx z) D⟩)
   walk_at "ww"
   refine⟨by decide,_,.inl ⟨rfl,rfl,[],rfl,_,rfl,λz=>?_,λz _ q=>?_⟩⟩
   .have:=mi z;rw[this]at G;have:s.ln.length=0:=G.symm;omega
   .rw[lx q]at z;cases z
  .refine Cv ?_
   walk_at "ww"
   refine Am (λD=>?_) (λD=>⟨λz=>(by cases z),λ_ z=>absurd (lx z) D⟩)
   walk_at "ww"
   refine⟨by decide,_,.inl ⟨rfl,rfl,[],rfl,_,rfl,λz=>?_,λz _ q=>?_⟩⟩
   .have:=mi z;rw[this]at G;have:s.ln.length=0:=G.symm;omega
   .rw[lx q]at z;cases z
 rintro b⟨S7,Mc⟩;cases b with
 |true=>
  refine ED rfl ?_;refine FQ (Lz (HY (FN (HY (Tw rfl ?_)))));refine BS (EE (ZD7 (Iq (AS rfl ⟨k3,_,rfl,FN ⟨.inr "sums", _,rfl,rfl,Ab s.sn,_,rfl,by unfold Ab;rw[AW];omega,_,.inl ⟨rfl,rfl,s.sn,WV _,ok.nm,by omega,λx hx nx=>?_⟩⟩⟩))));refine HY (d6 rfl (EA ⟨_,⟨rfl,rfl⟩,?_⟩));rintro _⟨r,rfl,hr⟩;have Y:DX r:=by
   unfold FY at hr;rcases List.mem_cons.mp hr with rfl|hr
   .exact YF (by decide) (by decide +kernel)
   .rcases List.mem_cons.mp hr with rfl|hr
    .exact YF (by decide) (by decide +kernel)
    .rw[List.mem_singleton.mp hr];exact YF (by decide) (by decide +kernel)
  refine HA ⟨by simp,.Ig x r,⟨s.row,s.ln++[x],s.ll++[⟨r,0,FK s.row⟩],s.sn++[x],s.sq++[⟨s.row.length,0,0,0⟩]⟩,rfl,by show Es s x r=_;unfold Es;rw[md ⟨VC hx,nx,lx hr⟩],⟨Jk hx,Y⟩,?_,v⟩;show(s.ln++[x]).length<=5;have:=S7 rfl;rw[Bu,N5];omega
 |false=>
  refine B0 (by decide) (B7 ?_);have hb:=Mc rfl;have R:∀o n:Slot,Ws [.AQ,.is (D2 s),.is (.int m),.is (.int a),.is (.lst (Bx.map .str)),o,n] (HJ (C9 QJ [] E0 (AU (B1 0) (AU (Fx (B1 1) (tC (V.str "row"))) (AU (B1 2) B5))))) (λx=>∃k,(Ar.is λp=>∃e s',p=LE.P e/\EX s e=some s'/\e.say/\s'.ln.length<=5/\s'.row.length<=m)=Ar.is k/\k .AE) (.is λp=>∃e s',p=LE.P e/\EX s e=some s'/\e.say/\s'.ln.length<=5/\s'.row.length<=m):=λo n=>by
   refine FQ (iM rfl (BS (Iq (AS rfl ⟨k3,_,rfl,FN ⟨.inr "row", _,rfl,rfl,_,.inl ⟨rfl,rfl,s.row,rfl,AS rfl ⟨m,rfl,ok.row.nm,v,by omega,by omega,λd t=>?_⟩⟩⟩⟩))));have U:d.Ok 40 s.row:=by
    cases d with
    |put x i=>exact⟨t.1,t.2.1,t.2.2.1,by have:=t.2.2.2;omega⟩
    |_=>exact t
   exact⟨.Gs (HH d),⟨d.done s.row,s.ln,s.ll.map (Lp.led s.row d),s.sn,CH s d s.ln.length⟩,(Va d).symm,by show Fd s (HH d)=_;unfold Fd;rw[U1 (sX U)],pI U ok.row.nm ok.row.len,h5,(HF.done ⟨v,ok.row.nm,ok.row.nd⟩ t).len⟩
  refine yQ (λAI=>∃o n:Slot,AI=[.AQ,.is (D2 s),.is (.int m),.is (.int a),.is (.lst (Bx.map .str)),o,n]) ?_ (by rintro _⟨o,n,rfl⟩;exact R o n)
  walk_at "ww"
  refine Am (λc=>?_) (λc=>B7 ⟨_,_,rfl⟩);have Ax:=hb (mi c);have J5:0<Bx.length:=List.length_pos_iff.mpr Ax
  walk_at "ww"
  rw[AW];refine⟨by omega,by omega,λq q0 q1=>?_⟩;obtain⟨q,rfl⟩:=Ef q0;obtain⟨x,hx⟩:∃x,Bx[q]?=some x:=⟨_,BA (by omega)⟩;refine⟨_,.str x,rfl,?_,?_⟩
  .exact TB (by rw[BG,hx];rfl)
  have M:x∈s.ln:=T.mem_iff.mp (Cr hx);have hi:=List.idxOf_lt_length_iff.mpr M;obtain⟨l,L⟩:∃l,s.ll[s.ln.idxOf x]?=some l:=⟨_,BA (by omega)⟩;have J:=ok.good l (Cr L);have gs:=J.len;have L4:=ok.row.len;have O:DX x:=Jk (ok.nm x (ok.sub x M));refine An (Kn (Iq (Iq (AS rfl ⟨k3,_,rfl,FN ⟨.inr "live", _,rfl,rfl,Ab s.ln,_,rfl,AS rfl ⟨.inr x,l.P,rfl,YJ M (by rw[BG,L];rfl),?_⟩⟩⟩))));show Ws [.AQ,.is (D2 s),.is (.int m),.is (.int a),.is (.lst (Bx.map .str)),.is (.str x),.is (.tup [.str l.r,.int l.g,.tup (l.cs.map .str)])] _ _ _
  walk_at "ww"
  have ov:l.cs=[]->EX s (.over x)=some ⟨s.row,s.ln.eraseIdx (s.ln.idxOf x),s.ll.eraseIdx (s.ln.idxOf x),s.sn,s.sq⟩:=λh=>by
   show EG s x=_;unfold EG;rw[L];show(if l.cs=[]then _ else none)=_
   rw[md h]
  have te:∀y∈l.cs,EX s (.tell x y)=some ⟨s.row,s.ln,s.ll.set (s.ln.idxOf x) ⟨l.r,s.row.idxOf y+1,wo l.cs y⟩,s.sn,s.sq.modify (s.sn.idxOf x) Sm.tell⟩:=λy u=>by
   show EM s x y=_;unfold EM;rw[L];show(if y∈l.cs then _ else none)=_
   rw[md u]
  have S:∀y∈l.cs,DX y:=λy u=>Jk (ok.row.nm y (J.sub y u));refine⟨by decide,_,.inr ⟨rfl,rfl,[],rfl,_,rfl,?_⟩⟩
  by_cases j:l.cs=[]
  .rw[lx j];refine JO ?_
   walk_at "ww"
   refine⟨by decide,by decide,λw I N=>?_⟩
   walk_at "ww"
   refine Am (λB=>?_) (λB=>B7 ?_)
   .walk_at "ww"
    refine⟨by simp,.over x,_,rfl,ov j,O,?_,v⟩;exact Cs (List.length_eraseIdx_le _ _) h5
   .walk_at "ww"
    refine⟨by decide,_,.inr ⟨rfl,rfl,[],rfl,_,rfl,?_⟩⟩;rw[lx j];refine Cv ?_;refine Cv (B7 ?_)
    walk_at "ww"
    refine⟨by decide,_,.inr ⟨rfl,rfl,[],rfl,_,rfl,?_⟩⟩;rw[lx j];exact Cv (B7 ⟨_,_,rfl⟩)
  .rw[qX j];refine Cv (Cv (B7 ?_))
   walk_at "ww"
   refine⟨by decide,_,.inr ⟨rfl,rfl,[],rfl,_,rfl,?_⟩⟩;rw[qX j];refine JO ?_
   walk_at "ww"
   refine⟨by decide,by decide,λw I N=>?_⟩
   walk_at "ww"
   refine Am (λB=>?_) (λB=>B7 ?_)
   .walk_at "ww"
    rw[AW];have lp:=List.length_pos_iff.mpr j;refine⟨by omega,by omega,λw I N=>?_⟩;obtain⟨w,rfl⟩:=Ef I;obtain⟨y,u⟩:∃y,l.cs[w]?=some y:=⟨_,BA (by omega)⟩;have C:=Cr u;exact⟨_,.str y,rfl,TB (by rw[BG,u];rfl),HA ⟨by simp,.tell x y,_,rfl,te y C,⟨O,S y C⟩,h5,v⟩⟩
   .walk_at "ww"
    refine⟨by decide,_,.inr ⟨rfl,rfl,[],rfl,_,rfl,?_⟩⟩;rw[qX j];refine JO ?_
    walk_at "ww"
    obtain⟨y,Fy,W⟩:∃y Fy,FE s.row l.g l.cs=y::Fy:=by
     obtain⟨c,cs,ec⟩:=ZDW j;have X:c∈l.cs:=by rw[ec];exact Cz
     have:c∈FE s.row l.g l.cs:=Rj.mpr ⟨J.sub c X,X⟩;exact ZDW λz=>by rw[z]at this;cases this
    have C:y∈l.cs:=(Rj.mp (by rw[W];exact Cz)).2;have σ:LZ s.row l.r l.g l.cs=.tup [.str y,CY l.r (s.row.idxOf y+1) (wo l.cs y)]:=by unfold LZ;rw[W]
    refine BS (xD (BS (Iq (AS rfl ⟨k3,_,rfl,FN ⟨.inr "row", _,rfl,rfl,_,.inl ⟨rfl,rfl,s.row,rfl,AS rfl ⟨l.r,l.g,l.cs,rfl,J,by omega,_,.inr ⟨σ,rfl,BQ ⟨_,_,rfl,rfl,?_⟩⟩⟩⟩⟩⟩))));exact HA ⟨by simp,.tell x y,_,rfl,te y C,⟨O,S y C⟩,h5,v⟩
def Rp:Aw ["row","deed","made","low","high"] ["row","deed"] (Ag QF):=by walk_at "z1"
def oN:=Sc [(".0",.local),("name",.local),("deed",.free)]
def ZAn:E6 ["row","deed","made","low","high"] (Ag QF) oN "name" ["deed"] [1]:=by walk_at "z2"
def vJ(F:AK K "_law_done" "_law_done" QF f fd)(m:mg "_law_done"=some (.ref f)):
  A9 P w K mg Zu "_law_done" 1 ["row","deed"] (XC):=by
 refine A9.mk F (F.binds (by walk_at "bD2")) m (F.B4 (k:=0) Rp (λvs H Q E h=>?_) (λAe A outer s H vs Q E hr h=>?_))
 .obtain⟨a,t,ns,d,rfl,b,l,hd,hz,nd,q⟩:=h;rfl
 obtain⟨a,t,ns,d,rfl,b,l,hd,hz,nd,q⟩:=h;refine⟨_,(AB rfl (kr (i:=2) Rp.nd rfl (Or.inl rfl) rfl ZAn (G8 (qv 0)) (λ_ _ _ _=>by exact(Km (Aa Io (qv 1) (AF (show HZ _ (Ht K)from AL) (qv 0) A6)))) (λ_ _ _ _=>by exact(qv 1)))
   (AB rfl (Aj (Aa BO (AF AL (qv 1) A6) AY) (AB rfl (Jh (Fs eB (qv 1) (Ea A6) HQ) (Js rfl (Cu (C6 3 Rp.nd) (Cu (C6 4 Rp.nd) JL))))
   (AD rfl (AX (B2 JW (B2 JW (Fs MW (qv 0) HQ (Ea (qv 3))) (b4 rfl rfl Be rfl Lx (A0 (Fs MW (qv 0) (Ea (qv 3)) (Ea (qv 4))) A4))) (Fs MW (qv 0) (Ea (qv 4)) HQ))))) Ao)
   (AB rfl (Ca (Aj (Aa Io (AF AL (qv 1) A6) AY) (AD rfl (DR (HP JC ZDw PySem.F.type_list_insert ZAU (qv 2) (A0 (AF AL (qv 1) A6) (A0 (AF AL (qv 1) A6) A4))))) Ao))
   (AD rfl (AX (qv 2)))))),?_⟩
 have M:=Dm ns;have z:∀n:Nat,n<=2001->n<=sizeLine:=λn h=>Cs h (by decide +kernel);have N:Df K false H a (ns.map V.str):=AJ.of b;have j:=zP ns d;refine⟨_,rfl,false,a,_,rfl,N,λacc Au=>N1 (He d.v1) (λv=>v) N Au (by rw[M];exact small (by omega)) (λi v H' Q' e s1 h=>?_) (λi v H' Q' e _ s1 h=>?_) (λH' s1 g=>?_)⟩
 .obtain⟨y,rfl,hm⟩:=LV e;exact⟨_,rfl,_,rfl,t,_,_,_,rfl,rfl,AA.of (s1 _ _ l),cP d,ZCM y d,_,rfl,h H' (A8.refl _)⟩
 .exact⟨_,rfl,h H' (A8.refl _)⟩
 have c:=s1 _ _ l;rw[y3]at g;refine⟨_,rfl,t,_,_,_,rfl,rfl,AA.of c,HK d,rfl,_,rfl,Am (λu=>?_) (λu=>?_)⟩
 .obtain⟨lo,hi,rfl⟩:=lF u;obtain⟨h1,h2⟩:=hd;refine⟨_,rfl,_,rfl,t,_,rfl,AA.of c,(λh=>absurd h.1 (show ¬ HT.Aq 3 0 (some 1)=0 by decide)),λp n=>?_⟩;have n1:=Ah n (.tup (Cg (AO.turn lo hi).vals (some 1) none));refine⟨p,_,rfl,AA.of AH,rfl,_,_,rfl,_,_,rfl,rfl,?_⟩;have s2:=s1.trans n1;have o:=s2 _ _ b;refine⟨_,rfl,_,rfl,_,rfl,a,_,rfl,AJ.of o,λl3 Y=>?_⟩;rw[Rf];have S:=Ah Y (.lst ((ns.map V.str).take lo));have J:=s2.trans S;refine⟨_,rfl,_,rfl,_,rfl,_,rfl,_,rfl,a,_,rfl,AJ.of (J _ _ b),λl4 X=>?_⟩;rw[c5 _ h1 (by rw[M];exact h2)];have D:=Ah X (.lst (((ns.map V.str).drop lo).take (hi - lo)));refine⟨l4,false,_,rfl,AJ.of AH,rfl,λl5 W=>?_⟩;have C:=Ah W (.lst (((ns.map V.str).drop lo).take (hi - lo)).reverse);refine⟨l3,l5,_,_,rfl,rfl,C _ _ (D _ _ AH),AH,z _ (by simp only[CK,LL,FA];omega),λl6 U=>?_⟩;have R:=Ah U (.lst ((ns.map V.str).take lo++(((ns.map V.str).drop lo).take (hi - lo)).reverse));have I:=J.trans (D.trans (C.trans R));refine⟨_,rfl,_,rfl,_,rfl,a,_,rfl,AJ.of (I _ _ b),λl7 T=>?_⟩;rw[RO];have B:=Ah T (.lst ((ns.map V.str).drop hi));refine⟨l6,l7,_,_,rfl,rfl,B _ _ AH,AH,z _ (by simp only[Bu,CK,FA,LL];omega),λσ L=>?_⟩;have G:=I.trans B;refine q σ _ (A8.none G L) (G.trans (Ah L _)) ?_;rw[AH];show some (HO.lst _)=some (HO.lst ((FH ns lo hi).map V.str));unfold FH;simp only[E4,Su,Ss,jv,Bc]
 .refine⟨λσ' H'=>σ'=[some (.ref a),some (.ref t),some (.ref acc),none,none]/\A8 H H'/\H' acc=some (.lst ((d.done ns).map V.str)),?_,?_⟩
  .refine⟨_,rfl,t,_,_,_,rfl,rfl,AA.of c,HK d,rfl,_,rfl,Am (λr=>?_) (λr=>⟨rfl,s1,by rw[u9 r];exact g⟩)⟩;obtain⟨x,i,W4,e,GD,O⟩:=ZBy hd nd u r;refine⟨_,rfl,.inl ⟨rfl,_,AJ.of g⟩,_,rfl,t,_,_,_,rfl,rfl,AA.of c,W4,_,rfl,t,_,_,_,rfl,rfl,AA.of c,cP d,acc,_,_,_,rfl,rfl,g,by omega,by rw[Dm];omega,by rw[Dm];exact JB j (JB hz (by decide +kernel)),?_⟩;refine⟨rfl,ZBg s1 Au,?_⟩;rw[AH,O,e];unfold ins;simp only[E4,Su,Bv,Ss,Sn]
  .rintro σ' H2⟨rfl,s2,o⟩;exact⟨_,rfl,q acc H2 Au s2 o⟩
def mD:Aw ["text"] ["text"] (Ag RV):=by walk_at "z1"
def tO:=Sc [(".0",.local),("sign",.local)]
def xZ:E6 ["text"] (Ag RV) tO "sign" [] []:=by walk_at "z2"
def oq(F:AK K "_law_is_name" "_law_is_name" RV f fd)(m:mg "_law_is_name"=some (.ref f)):
  A9 P w K mg Zu "_law_is_name" 1 ["text"] (LC):=by
 refine A9.mk F (F.binds (by walk_at "bD1")) m (F.B4 (k:=0) mD (λvs H Q E h=>?_) (λAe A outer s H vs Q E hr h=>?_))
 .obtain⟨x,rfl,hx,q⟩:=h;rfl
 obtain⟨x,rfl,hx,q⟩:=h;refine⟨_,(AD rfl (AX (JN (MT Dv Dv A6 (As Y0 Ak (A0 (qv 0) A4)) A6) (Iy (As (LU rfl) ET (A0 (Hi rfl xZ (gD (qv 0)) (λ_ _ _ _=>by exact Mq) (λ_ _ _ _=>by exact(HR e9 (qv 0) AY))) A4)))))),?_⟩;refine⟨_,rfl,_,rfl,small (by omega),_,_,rfl,rfl,_,rfl,?_⟩;refine Am (λc=>?_) (λc=>⟨_,rfl,Cv ?_⟩)
 .refine⟨_,_,rfl,rfl,_,rfl,?_⟩;refine Am (λa=>?_) (λa=>?_)
  .refine⟨_,rfl,x,rfl,λacc Au=>fe (λ_=>true) Uc Au (by rw[<- N2,<- HM];exact small (by omega)) (λi v H' Q' _ _ h=>h H' (A8.refl _)) (λi v H' Q' d _ _ h=>?_) (λH' s1 b=>?_)⟩
   .obtain⟨g,rfl⟩:=signs_get d;exact⟨_,rfl,_,_,rfl,rfl,h H' (A8.refl _)⟩
   .rw[aN]at b;refine⟨acc,_,rfl,AJ.of b,?_⟩;rw[all_map];have e:isNm x=x.cps.toList.all Ki:=by unfold isNm;rw[c,a];rfl
    rw[<- e];exact q H' s1
  .have e:isNm x=false:=by unfold isNm;rw[Bool.eq_false_iff.mpr a];simp
   rw[<- e];exact q H (A8.refl _)
 .have e:isNm x=false:=by unfold isNm;rw[Bool.eq_false_iff.mpr c];simp
  rw[<- e];exact q H (A8.refl _)
def y9:Aw ["row","deed"] ["row","deed"] (Ag TZ):=by walk_at "z1"
def gG : ∀ss R,Vi ss R->ss.length=2:=by rintro _ _⟨ns,d,rfl,_,_,rfl⟩;rfl
def zI(F:AK K "_law_deed_right" "_law_deed_right" TZ f fd)(m:mg "_law_deed_right"=some (.ref f)):
  A9 P w K mg Zu "_law_deed_right" 2 ["row","deed"] (BN Vi):=by
 refine A9.mk F (F.binds (by walk_at "bD2")) m (F.B4 (k:=1) y9 (λvs H Q E h=>Fz.Gg gG h) (λAe A outer s H vs Q E hr h=>?_))
 refine⟨_,(AB rfl (Aj (Aa BO (AF AL (qv 1) A6) AY) (AD rfl (AX (JN (MT Dv Dv A6 (AF AL (qv 1) A6) (As D1 Ak (A0 (qv 0) A4))) (Iy (MT Dv Dv (AF AL (qv 1) A6) (AF AL (qv 1) A6) (As D1 Ak (A0 (qv 0) A4))))))) Ao)
   (AB rfl (Aj (Aa BO (AF AL (qv 1) A6) AY) (AB rfl (Aj (DQ (Dh (Ed (AV Mb hr (A0 (AF AL (qv 1) A6) A4)))) (DQ (Aa Ld (AF AL (qv 1) A6) (qv 0)) (FX (Aa MU (As D1 Ak (A0 (qv 0) A4)) A6)))).pt (AD rfl (AX CZ)) Ao)
   (AD rfl (AX (MT Dv Dv A6 (AF AL (qv 1) A6) (As D1 Ak (A0 (qv 0) A4)))))) Ao)
   (AB rfl (Aj (Aa LA (AF AL (qv 1) A6) (qv 0)) (AD rfl (AX CZ)) Ao)
   (AD rfl (AX (dA (HR BO (AF AL (qv 1) A6) AY) (Iy (MT Dv Fc A6 (AF AL (qv 1) A6) (As D1 Ak (A0 (qv 0) A4)))))))))),?_⟩
 refine Fz.GN h gG ?_;rintro _ _⟨ns,d,rfl,hs,hz,rfl⟩;show Ws [_,_] _ _ _;cases d with
 |put x i=>
  unfold aP;dsimp only
  walk_at "ww"
  refine B0 (by decide +kernel) (B7 ?_)
  walk_at "ww"
  refine ED (by decide +kernel) ?_;refine An (C2 (Fe (G6 (Dk (UQ ?_)))))
  walk_at "ww"
  refine⟨hs.1.2,_,rfl,?_⟩;refine Am (λc=>?_) (λc=>?_)
  .refine FQ (Ce ?_);rw[Ie];simp only[BJ.Cw];have j:isNm x=false:=by cases e:isNm x with
    |false=>rfl
    |true=>rw[e]at c;cases c
   rw[md j];rfl
  have h1:isNm x=true:=by cases e:isNm x with
   |true=>rfl
   |false=>exact absurd (by rw[e];rfl) c
  walk_at "ww"
  refine Am (λa=>?_) (λa=>?_)
  .refine FQ (Ce ?_);rw[Ie];simp only[BJ.Cw];rw[mY (by rw[h1];decide),md (mi a)];rfl
  have h2:x∉ns:=λz=>a (lx z)
  walk_at "ww"
  rw[AW];refine Am (λg=>?_) (λg=>B7 ?_)
  .refine FQ (Ce ?_);rw[ZCq h1 h2 (by have:=mi g;omega)]
  walk_at "ww"
  rw[qV h1 h2 (by have:¬ (40:Int)<=ns.length:=λz=>g (lx z);omega),Si];refine Am (λb=>?_) (λb=>?_)
  .walk_at "ww"
   rw[b,AW];rfl
  .rw[Bool.eq_false_iff.mpr b];rfl
 |take x=>
  unfold aP;dsimp only
  walk_at "ww"
  refine B0 (by decide +kernel) (B7 ?_)
  walk_at "ww"
  refine B0 (by decide +kernel) (B7 ?_)
  walk_at "ww"
  refine Am (λc=>?_) (λc=>B7 ?_)
  .refine FQ (Ce ?_);rw[Ie];simp only[BJ.Cw];rw[md (λz=>by rw[lx z]at c;cases c)];rfl
  have h2:x∈ns:=J8 λz=>c (by rw[qX z];rfl)
  walk_at "ww"
  refine ED (by decide +kernel) ?_;rw[Ie];simp only[BJ.Cw];rw[mY (Decidable.not_not.mpr h2)];rfl
 |move x i=>
  unfold aP;dsimp only
  walk_at "ww"
  refine B0 (by decide +kernel) (B7 ?_)
  walk_at "ww"
  refine B0 (by decide +kernel) (B7 ?_)
  walk_at "ww"
  refine Am (λc=>?_) (λc=>B7 ?_)
  .refine FQ (Ce ?_);rw[Ie];simp only[BJ.Cw];rw[md (λz=>by rw[lx z]at c;cases c)];rfl
  have h2:x∈ns:=J8 λz=>c (by rw[qX z];rfl)
  walk_at "ww"
  refine B0 (by decide +kernel) ?_
  walk_at "ww"
  rw[o7 h2,Si];refine Am (λb=>?_) (λb=>?_)
  .walk_at "ww"
   rw[b,AW,Yu]
   congr 1
   rw[decide_eq_decide];omega
  .rw[Bool.eq_false_iff.mpr b];rfl
 |turn lo hi=>
  unfold aP;dsimp only
  walk_at "ww"
  refine ED (by decide +kernel) ?_
  walk_at "ww"
  rw[ZDD,Si,Si];refine Am (λc=>?_) (λc=>?_)
  .walk_at "ww"
   rw[AW];refine Am (λa=>?_) (λa=>?_)
   .walk_at "ww"
    refine Am (λg=>?_) (λg=>?_)
    .walk_at "ww"
     rw[c,a,g,AW];rfl
    .rw[c,a,Bool.eq_false_iff.mpr g];rfl
   .rw[c,Bool.eq_false_iff.mpr a];rfl
  .rw[Bool.eq_false_iff.mpr c];exact⟨_,rfl,Cv rfl⟩
def Td:Aw ["row","gap","deed"] ["row","gap","deed"] (Ag Ya):=by walk_at "z1"
def ur(F:AK K "_law_gap" "_law_gap" Ya f fd)(m:mg "_law_gap"=some (.ref f)):
  A9 P w K mg Zu "_law_gap" 1 ["row","gap","deed"] (eP):=by
 refine A9.mk F (F.binds (by walk_at "bD3")) m (F.B4 (k:=0) Td (λvs H Q E h=>?_) (λAe A outer s H vs Q E hr h=>?_))
 .obtain⟨a,t,ns,g,d,rfl,e,b,ok,q⟩:=h;rfl
 obtain⟨a,t,ns,g,d,rfl,e,b,ok,q⟩:=h;refine⟨_,(AB rfl (Ca (Aj (Aa Ld (AF AL (qv 2) A6) (BV (A0 AY (A0 AY A4)))) (AD rfl (Az 1 Td.nd (B2 O3 (qv 1) (CS RP HB (A0 (HR Fc (HP JC T6 ZH Rk (qv 0) (A0 (AF AL (qv 2) A6) A4)) (qv 1)) A4))))) Ao))
   (AB rfl (Ca (Aj (Aa Ld (AF AL (qv 2) A6) (BV (A0 AY (A0 AY A4)))) (AD rfl (Az 1 Td.nd (B2 E9 (qv 1) (CS RP HB (A0 (HR Fc (AF AL (qv 2) A6) (qv 1)) A4))))) Ao))
   (AD rfl (AX (qv 1))))),?_⟩
 refine⟨λσ' H'=>σ'=[some (.ref a),some (.int (d.NM ns g:Nat)),some (.ref t)]/\A8 H H',?_,?_⟩
 .refine⟨_,rfl,t,_,_,_,rfl,rfl,AA.of b,HK d,(by show 2<=sizeLine;decide),λt1 OO=>?_⟩;have n1:=Ah OO (.tup [.str "take",.str "move"]);refine⟨t1,_,rfl,.inr (AA.of AH),rfl,rfl,_,rfl,?_⟩;show if ES (.str d.kind) [.str "take",.str "move"]=true then _ else _
  refine Am (λc=>?_) (λc=>?_)
  .obtain⟨x,O6,Kt,l⟩:=pS g ok c;refine⟨_,rfl,_,rfl,.inl ⟨rfl,_,AJ.of (n1 _ _ e)⟩,_,rfl,t,_,_,_,rfl,rfl,AA.of (n1 _ _ b),O6,a,ns,x,rfl,rfl,AJ.of (n1 _ _ e),Kt,_,rfl,_,_,rfl,rfl,.inr ⟨_,rfl,_,_,rfl,rfl,?_,n1⟩⟩;rw[l,<- mn];rfl
  .refine⟨?_,n1⟩;rw[uA g c];rfl
 rintro σ' H1⟨rfl,s1⟩;have j:=s1 _ _ b;refine⟨λσ' H'=>σ'=[some (.ref a),some (.int (d.gap ns g:Nat)),some (.ref t)]/\A8 H H',?_,?_⟩
 .refine⟨_,rfl,t,_,_,_,rfl,rfl,AA.of j,HK d,(by show 2<=sizeLine;decide),λt2 RB=>?_⟩;have n2:=Ah RB (.tup [.str "put",.str "move"]);refine⟨t2,_,rfl,.inr (AA.of AH),rfl,rfl,_,rfl,?_⟩;show if ES (.str d.kind) [.str "put",.str "move"]=true then _ else _
  refine Am (λc=>?_) (λc=>?_)
  .obtain⟨i,W4,GD⟩:=kx (ns:=ns) g c;refine⟨_,rfl,_,rfl,t,_,_,_,rfl,rfl,AA.of (n2 _ _ j),W4,_,rfl,_,_,rfl,rfl,.inr ⟨_,rfl,_,_,rfl,rfl,?_,s1.trans n2⟩⟩;rw[GD,<- qI];rfl
  .refine⟨?_,s1.trans n2⟩;rw[vP g c]
 rintro σ' H2⟨rfl,s2⟩;exact⟨_,rfl,q _ s2⟩
def Li:Aw ["row","loop","deed","rule","gap","coming"] ["row","loop","deed"] (Ag RU):=by walk_at "z1"
def nM:=Sc [(".0",.local),("name",.local),("deed",.free)]
def vA:E6 ["row","loop","deed","rule","gap","coming"] (Ag RU) nM "name" ["deed"] [2]:=by walk_at "z2"
def x9(F:AK K "_law_led" "_law_led" RU f fd)(m:mg "_law_led"=some (.ref f)):
  A9 P w K mg Zu "_law_led" 2 ["row","loop","deed"] (W8):=by
 refine A9.mk F (F.binds (by walk_at "bD3")) m (F.B4 (k:=1) Li (λvs H Q E h=>?_) (λAe A outer s H vs Q E hr h=>?_))
 .obtain⟨a,tl,t,c,ns,r,g,ss,d,rfl,σ,⟨hL,J⟩,e,ok,p,hz,q⟩:=h;rfl
 obtain⟨a,tl,t,c,ns,r,g,ss,d,rfl,σ,⟨hL,J⟩,e,ok,p,hz,q⟩:=h;refine⟨_,(AB rfl (Jh (qv 1) (Js rfl (Cu (C6 3 Li.nd) (Cu (C6 4 Li.nd) (Cu (C6 5 Li.nd) JL)))))
   (AB rfl (Ca (Aj (Aa BO (AF AL (qv 2) A6) AY) (AD rfl (Az 5 Li.nd (CS J7 Bo (A0 (Hi rfl vA (G8 (qv 5)) (λ_ _ _ _=>by exact(Km (Aa Io (qv 1) (AF (show HZ _ (Ht K)from AL) (qv 0) A6)))) (λ_ _ _ _=>by exact(qv 1))) A4)))) Ao))
   (AB rfl (Ca (Aj (GH (Aa BO (AF AL (qv 2) A6) AY) (GI (DQ (Aa BO (qv 3) AY) (FX (GH (Aa BO (qv 3) AY) (GI (Aa MU (AF AL (qv 2) A6) (qv 4)))).pt)).pt)).pt (AD rfl (Az 5 Li.nd (CS J7 Bo (A0 (As R6 DZ (A0 (B2 ai (qv 5) (BV (A0 (AF AL (qv 2) A6) A4))) A4)) A4)))) Ao))
   (AD rfl (AX (BV (A0 (qv 3) (A0 (AV U8 hr (A0 (qv 0) (A0 (qv 4) (A0 (qv 2) A4)))) (A0 (qv 5) A4))))))))),?_⟩
 have Y:=p.len;refine⟨_,rfl,tl,_,rfl,AA.of hL,rfl,_,_,rfl,_,_,rfl,_,_,rfl,rfl,?_⟩;refine⟨λσ' H'=>∃b:Addr,σ'=[some (.ref a),some (.ref tl),some (.ref t),some (.str r),some (.int g),some (.ref b)]/\A8 H H'/\(H b=none∨b=c)/\H' b=some (.tup ((d.Sk ss).map V.str)),?_,?_⟩
 .refine⟨_,rfl,t,_,_,_,rfl,rfl,AA.of e,HK d,rfl,_,rfl,?_⟩;refine Am (λj=>?_) (λj=>⟨c,rfl,A8.refl _,.inr rfl,by rw[ZM j];exact J⟩);obtain⟨x,O6,Kt⟩:=vV (r:=r) (g:=g) (ss:=ss) j;have KW:Df K true H c (ss.map V.str):=AA.of J;refine⟨_,rfl,true,c,_,rfl,KW,λacc Au=>N1 (He (.str x)) (λv=>v) KW Au (by rw[Dm];exact small (by omega)) (λi v H' Q' X s4 h=>?_) (λi v H' Q' X _ s4 h=>?_) (λH4 s4 e4=>?_)⟩
  .obtain⟨y,rfl,_⟩:=LV X;exact⟨_,rfl,_,rfl,t,_,_,_,rfl,rfl,AA.of (s4 _ _ e),O6,rfl,_,rfl,h _ (A8.refl _)⟩
  .exact⟨_,rfl,h _ (A8.refl _)⟩
  rw[Oc,<- Kt]at e4;exact⟨acc,_,rfl,.inl ⟨AJ.of e4,λt5 aJ=>⟨t5,rfl,s4.trans (Ah aJ _),.inl (A8.none s4 aJ),AH⟩⟩⟩
 rintro σ' H1⟨u,rfl,s1,L,o⟩;refine⟨λσ' H'=>∃b:Addr,σ'=[some (.ref a),some (.ref tl),some (.ref t),some (.str r),some (.int g),some (.ref b)]/\A8 H H'/\(H b=none∨b=c)/\H' b=some (.tup ((d.Ff r g ss).map V.str)),?_,?_⟩
 .refine⟨_,rfl,t,_,_,_,rfl,rfl,AA.of (s1 _ _ e),HK d,rfl,_,rfl,?_⟩;refine Am (λR=>?_) (λR=>Cv ⟨u,rfl,s1,L,by rw[ie R];exact o⟩);obtain⟨x,i,rfl⟩:=US R;replace o:H1 u=some (.tup (ss.map V.str)):=o;refine⟨_,rfl,rfl,_,rfl,?_⟩;refine Am (λj=>?_) (λj=>?_)
  .have n:DL r g i=true:=by unfold DL;rw[md j]
   refine JO ?_;refine⟨_,rfl,_,rfl,t,_,_,_,rfl,rfl,AA.of (s1 _ _ e),rfl,(by show 1<=sizeLine;decide),λD VY=>?_⟩;have l:=Ah VY (.tup [.str x]);refine⟨u,D,_,_,rfl,rfl,AA.of (l _ _ o),AA.of AH,by simp,small (by rw[Dm];simp;omega),λB H7 z M=>?_⟩;have T:AA K H7 B ((ss++[x]).map V.str):=by rw[E4];exact M
   refine⟨B,true,ss++[x],rfl,T,by rw[Bu];simp;omega,λG ts Vf I hs=>?_⟩;have C:=Ah Vf (.lst (ts.map V.str));refine⟨G,_,rfl,.inl ⟨AJ.of AH,λS Ng=>?_⟩⟩;exact⟨S,rfl,s1.trans (l.trans (z.trans (C.trans (Ah Ng _)))),.inl (A8.none (s1.trans (l.trans (z.trans C))) Ng),by rw[AH,TN I hs p.up (TM p ok x i rfl),Ww n]⟩
  .refine⟨_,rfl,rfl,_,rfl,?_⟩;refine Am (λO=>?_) (λO=>?_)
   .refine⟨_,rfl,t,_,_,_,rfl,rfl,AA.of (s1 _ _ e),rfl,_,rfl,_,_,rfl,rfl,_,rfl,?_⟩;have MR:DL r g i=decide ((g:Int)<=(i:Int)):=by unfold DL;rw[mY j,md O]
    refine Am (λN=>?_) (λN=>?_)
    .have n:DL r g i=true:=MR.trans N;refine⟨_,rfl,_,rfl,t,_,_,_,rfl,rfl,AA.of (s1 _ _ e),rfl,(by show 1<=sizeLine;decide),λD VY=>?_⟩;have l:=Ah VY (.tup [.str x]);refine⟨u,D,_,_,rfl,rfl,AA.of (l _ _ o),AA.of AH,by simp,small (by rw[Dm];simp;omega),λB H7 z M=>?_⟩;have T:AA K H7 B ((ss++[x]).map V.str):=by rw[E4];exact M
     refine⟨B,true,ss++[x],rfl,T,by rw[Bu];simp;omega,λG ts Vf I hs=>?_⟩;have C:=Ah Vf (.lst (ts.map V.str));refine⟨G,_,rfl,.inl ⟨AJ.of AH,λS Ng=>?_⟩⟩;exact⟨S,rfl,s1.trans (l.trans (z.trans (C.trans (Ah Ng _)))),.inl (A8.none (s1.trans (l.trans (z.trans C))) Ng),by rw[AH,TN I hs p.up (TM p ok x i rfl),Ww n]⟩
    .have n:DL r g i=false:=MR.trans (Bool.eq_false_iff.mpr N);exact⟨u,rfl,s1,L,by rw[YO n];exact o⟩
   .have n:DL r g i=false:=by unfold DL;rw[mY j,mY O]
    exact Cv ⟨u,rfl,s1,L,by rw[YO n];exact o⟩
 rintro σ' H2⟨c2,rfl,s2,f2,e2⟩;refine⟨_,rfl,_,rfl,_,rfl,_,rfl,a,t,ns,g,d,rfl,s2 _ _ σ,s2 _ _ e,ok,λH3 U=>?_⟩;refine⟨_,rfl,(by show 3<=sizeLine;decide),λt4 Jd=>?_⟩;have k3:=s2.trans U;have W:=Ah Jd (.tup [.str r,.int (d.gap ns g:Nat),.ref c2]);exact q t4 c2 _ (A8.none k3 Jd) f2 (k3.trans W) ⟨AH,W _ _ (U _ _ e2)⟩
def u3:Aw ["state","name","place"] ["state","name","place"] (Ag WC):=by walk_at "z1"
def iI : ∀ss R,PK ss R->ss.length=3:=by rintro _ _⟨s,a,t,x,k,rfl,_,_,_,_,rfl⟩;rfl
def ZBo(F:AK K "_law_counted" "_law_counted" WC f fd)(m:mg "_law_counted"=some (.ref f)):
  A9 P w K mg Zu "_law_counted" 1 ["state","name","place"] (Bh PK):=by
 refine A9.mk F (F.binds (by walk_at "bD3")) m (F.B4 (k:=0) u3 (λvs H Q E h=>Fz.GY iI h) (λAe A outer s H vs Q E hr h=>?_))
 refine⟨_,(AD rfl (Jh (B2 E9 (AF EV (BR (B8 hr) (BR (B8 hr) (qv 0) AY (λ_ _=>rfl)) (qv 1) (λ_ _=>rfl)) (qv 2)) A6) (Xf (BR (B8 hr) (BR (B8 hr) (qv 0) AY (λ_ _=>rfl)) (qv 1) (λ_ _=>rfl)) (qv 2) set_list))),?_⟩;refine Fz.Qj h iI ?_;rintro _ _⟨s,a,t,x,k,rfl,l,hx,o,j,rfl⟩;obtain⟨aL,aS,us,BF,rfl⟩:=l;show Ws [_,_,_] _ _ _;obtain⟨q,e⟩:∃q,s.sq[s.sn.idxOf x]?=some q:=⟨_,BA (by have:=List.idxOf_lt_length_iff.mpr hx;omega)⟩;obtain⟨u,c,b,rfl⟩:=BF.get e;obtain⟨v,g,hw⟩:∃v:Int,(Fj q)[k]?=some (.int v)/\(Fj q).set k (.int (v+1))=Fj (TF k q):=by
  rcases j with rfl|rfl|rfl
  .exact⟨_,rfl,rfl⟩
  .exact⟨_,rfl,rfl⟩
  .exact⟨_,rfl,rfl⟩
 have d:k<(Fj q).length:=by show k<4;omega
 refine yA (i:=0) (t:=BK s a aL aS us) (Wk (Dy (MJ (Fm (SN rfl ⟨Ab s.sn,aS,us,rfl,AS rfl ⟨.inr x,s.sn.idxOf x,_,rfl,FL hx,c,b,_,rfl,AS rfl ⟨_,k,.fz (.int v),rfl,?_,?_,_,rfl,?_⟩⟩⟩)))))
 .rw[AW];exact jW d
 .rw[BG,g];rfl
 refine⟨_,rfl,BQ ⟨_,rfl,Fm (SN rfl ⟨Ab s.sn,aS,us,rfl,AS rfl ⟨.inr x,s.sn.idxOf x,_,rfl,FL hx,c,true,b,Fj q,rfl,rfl,AS rfl ⟨k,rfl,d,?_⟩⟩⟩)⟩⟩;unfold BK;rw[show(([]++[2])++[s.sn.idxOf x]:List Nat)=[2,s.sn.idxOf x]from rfl,QX c,hw];exact⟨_,_,_,_,rfl,rfl,rfl,aL,aS,_,BF.set λn h'=>by rw[e]at h';cases h';exact⟨b,rfl⟩,rfl⟩
def Pb:Aw ["state","deed","name","loop","later"] ["state","deed"] (Ag VA):=by walk_at "z1"
def eG : ∀ss R,Rz ss R->ss.length=2:=by rintro _ _⟨s,a,t,d,rfl,_,_,_,_,rfl⟩;rfl
def oS(F:AK K "_law_stirred" "_law_stirred" VA f fd)(m:mg "_law_stirred"=some (.ref f)):
  A9 P w K mg Zu "_law_stirred" 4 ["state","deed"] (Bh Rz):=by
 refine A9.mk F (F.binds (by walk_at "bD2")) m (F.B4 (k:=3) Pb (λvs H Q E h=>Fz.GY eG h) (λAe A outer s H vs Q E hr h=>?_))
 refine⟨_,(AB rfl (Aj (Dh (Ed (AV YS hr (A0 (BR (B8 hr) (qv 0) AY (λ_ _=>rfl)) (A0 (qv 1) A4))))) (AD rfl (AX CZ)) Ao)
   (AB rfl (Ca (J2 I0 rfl (G8 (CS (Xk rfl) Be (A0 (BR (B8 hr) (qv 0) AY (λ_ _=>rfl)) A4))) (C6 2 Pb.nd) (AB rfl (Az 3 Pb.nd (BR (B8 hr) (BR (B8 hr) (qv 0) AY (λ_ _=>rfl)) (qv 2) (λ_ _=>rfl)))
   (AB rfl (Az 4 Pb.nd (AV Yr hr (A0 (BR (B8 hr) (qv 0) AY (λ_ _=>rfl)) (A0 (qv 3) (A0 (qv 1) A4)))))
   (AB rfl (Ca (Aj (Aa KO (As D1 Ak (A0 (AF AL (qv 4) A6) A4)) (As D1 Ak (A0 (AF AL (qv 3) A6) A4))) (AD rfl (DR (AV KP hr (A0 (qv 0) (A0 (qv 2) (A0 A6 A4)))))) Ao))
   (AB rfl (Ca (Aj (Aa Fc (As D1 Ak (A0 (AF AL (qv 4) A6) A4)) (As D1 Ak (A0 (AF AL (qv 3) A6) A4))) (AD rfl (DR (AV KP hr (A0 (qv 0) (A0 (qv 2) (A0 A6 A4)))))) Ao))
   (AD rfl (IG (B8 hr) (BR (B8 hr) (qv 0) AY (λ_ _=>rfl)) (qv 2) (qv 4)))))))))
   (AB rfl (IG (B8 hr) (qv 0) AY (AV UO hr (A0 (BR (B8 hr) (qv 0) AY (λ_ _=>rfl)) (A0 (qv 1) A4))))
   (AD rfl (AX CZ))))),?_⟩
 refine Fz.Jy h eG ?_;rintro _ _⟨s,a,t,d,rfl,D,ok,hs,hn,rfl⟩;obtain⟨aL,aS,us,BF,rfl⟩:=D;show Ws [_,_,.any,.any,.any] _ _ _;have l1:=ok.l1;have l2:=ok.l2;have J:=J3 ok.n1 ok.sub;have y:=ok.row.len;refine An (C2 (G6 (Dk (wp_call (CP (Dy (MO rfl ⟨_,rfl,CP (AS rfl (EA ⟨_,⟨s.row,d,rfl,hs,y,rfl⟩,?_⟩))⟩)))))));rintro _ rfl;refine⟨_,rfl,?_⟩;cases o:FJ s.row d with
 |none=>exact ED rfl (Dw (i:=0) rfl (Ce (.inr ⟨by unfold Fd;rw[o],rfl,aL,aS,us,BF,rfl⟩)))
 |some d'=>
  refine B0 (λz=>by cases z) (B7 ?_);have q:=RF o;rw[q.1];refine An (Ep (KY (λ_ i AI=>∃(s2 c s4:Slot)(t':OV),AI=[.ow true t',.is (dP d'),s2,c,s4]/\DF (EK s d' i) a t') (Kl (Il (EE (jY (Od rfl ⟨Ab s.ln,aL,_,rfl,by unfold Ab;rw[AW];omega,_,.inl ⟨rfl,?_⟩⟩)))))));rw[WV];refine⟨⟨_,_,_,_,rfl,aL,aS,us,BF,rfl⟩,?_,?_⟩
  .rintro i p AI v⟨s2,c,s4,t',rfl,aL,aS,us,BF,rfl⟩;rw[BG]at v;obtain⟨x,hx,rfl⟩:=Option.map_eq_some_iff.mp v;refine Nb ?_;have hi:i<s.ln.length:=(List.getElem?_eq_some_iff.mp hx).1;obtain⟨l,n⟩:∃l,s.ll[i]?=some l:=⟨_,BA (by omega)⟩;have j:x∈s.ln:=Cr hx;have xs:x∈s.sn:=ok.sub x j;have u:s.ln.idxOf x=i:=MG ok.n1 hx;have G:=ok.good l (Cr n);have ll:=IP s d' i;have I:=Nk s d' i;show Ws [.ow true (BK (EK s d' i) a aL aS us),.is (dP d'),.is (.str x),c,s4] _ _ _;refine An (Kn (Dy (Fm (Od rfl ⟨Ab s.ln,aL,_,rfl,AS rfl ⟨.inr x,i,.fz l.P,rfl,by rw[FL j,u],Mz (XS n),_,rfl,?_⟩⟩))));refine An (Kn (sZ (BS (Dy (MO rfl ⟨_,rfl,_,.inl ⟨rfl,rfl,s.row,rfl,AS rfl ⟨l.r,l.g,l.cs,rfl,AS rfl ⟨d',rfl,q.2,G,y,?_⟩⟩⟩⟩)))));have b:∀t',DF ⟨s.row,s.ln,C8 s d' i,s.sn,CH s d' (i+1)⟩ a t'->Ws [.ow true t',.is (dP d'),.is (.str x),.is l.P,.is (l.led s.row d').P] (Q0 (Fx (B1 0) (tC (V.str "live"))) (B1 2) (B1 4)) (λAI=>∃(s2 c s4:Slot)(t':OV),AI=[.ow true t',.is (dP d'),s2,c,s4]/\DF (EK s d' (i+1)) a t') (.mt (Eo (λs t=>DF s a t) s (Fd s d))):=by
    rintro _⟨aL,aS,us,BF,rfl⟩;refine Ib (i:=0) (t:=BK ⟨s.row,s.ln,C8 s d' i,s.sn,CH s d' (i+1)⟩ a aL aS us) (DU (AS rfl (Od rfl ⟨true,aL,Ab s.ln,_,rfl,rfl,by unfold Ba;rw[AW];show(C8 s d' i).length<=99999;omega,Gh ok.n1,B3,AS rfl ⟨.inr x,rfl,?_⟩⟩)));rw[RQ j,Pe j,u,Ro,Xd n];unfold BK;rw[show([]++[1]:List Nat)=[1]from rfl,JR];exact⟨_,_,_,_,rfl,aL,aS,us,BF,rfl⟩
   rw[bf hx n]at b;show Ws [.ow true (BK (EK s d' i) a aL aS us),.is (dP d'),.is (.str x),.is l.P,.is (l.led s.row d').P] _ _ _;have e:∀k:Nat,(k=1∨k=2∨k=3)->∀(nx:List Slot->Prop)R,(∀t',DF ⟨s.row,s.ln,C8 s d' i,s.sn,(CH s d' i).modify (s.sn.idxOf x) (TF k)⟩ a t'->nx [.ow true t',.is (dP d'),.is (.str x),.is l.P,.is (l.led s.row d').P])->Ws [.ow true (BK (EK s d' i) a aL aS us),.is (dP d'),.is (.str x),.is l.P,.is (l.led s.row d').P] (JT (C9 (Bh PK) [] E0 (AU (B1 0) (AU (B1 2) (AU (tC (V.int k)) B5))))) nx R:=λk C nx R B=>by
    refine U6 (i:=0) (Ot rfl (OF rfl (De (AS rfl (De (BQ (Ft ⟨_,⟨EK s d' i,a,_,x,k,rfl,⟨aL,aS,us,BF,rfl⟩,xs,by show s.sn.length=(CH s d' i).length;omega,C,rfl⟩,?_⟩)))))));rintro _ t2⟨rfl,Cp⟩;obtain⟨nk,D6,rfl⟩:=Cp.nd;exact⟨nk,D6,rfl,B _ Cp⟩
   have L:(d'.Ff l.r l.g l.cs)=(l.led s.row d').cs:=rfl;rcases ZC l.cs.length (l.led s.row d').cs.length with h|h|h
   .refine An (Ep (C2 (D0 (FZ (Cy (BS (Dz (EC (i:=4) rfl ⟨rfl,BQ ⟨_,_,rfl,rfl,_,.inr ⟨rfl,_,rfl,Cy (BS (Dz (EC (i:=3) rfl ⟨rfl,BQ ⟨_,_,rfl,rfl,_,.inr ⟨rfl,_,rfl,_,rfl,?_⟩⟩⟩)))⟩⟩⟩))))))));rw[AW,AW];refine ED (lx (by omega)) (e 1 (.inl rfl) _ _ λt' FG=>?_);refine An (Ep (C2 (D0 (FZ (Cy (BS (Dz (EC (i:=4) rfl ⟨rfl,BQ ⟨_,_,rfl,rfl,_,.inr ⟨rfl,_,rfl,Cy (BS (Dz (EC (i:=3) rfl ⟨rfl,BQ ⟨_,_,rfl,rfl,_,.inr ⟨rfl,_,rfl,_,rfl,?_⟩⟩⟩)))⟩⟩⟩))))))));rw[AW,AW];refine B0 (λz=>by have:=mi z;omega) (B7 (b t' ?_));unfold Sm.by
    rw[md h];exact FG
   .refine An (Ep (C2 (D0 (FZ (Cy (BS (Dz (EC (i:=4) rfl ⟨rfl,BQ ⟨_,_,rfl,rfl,_,.inr ⟨rfl,_,rfl,Cy (BS (Dz (EC (i:=3) rfl ⟨rfl,BQ ⟨_,_,rfl,rfl,_,.inr ⟨rfl,_,rfl,_,rfl,?_⟩⟩⟩)))⟩⟩⟩))))))));rw[AW,AW];refine B0 (λz=>by have:=mi z;omega) (B7 ?_);refine An (Ep (C2 (D0 (FZ (Cy (BS (Dz (EC (i:=4) rfl ⟨rfl,BQ ⟨_,_,rfl,rfl,_,.inr ⟨rfl,_,rfl,Cy (BS (Dz (EC (i:=3) rfl ⟨rfl,BQ ⟨_,_,rfl,rfl,_,.inr ⟨rfl,_,rfl,_,rfl,?_⟩⟩⟩)))⟩⟩⟩))))))));rw[AW,AW];refine B0 (λz=>by have:=mi z;omega) (B7 (b _ ?_));unfold Sm.by
    rw[mY (by omega),mY (by omega),gS];exact⟨aL,aS,us,BF,rfl⟩
   .refine An (Ep (C2 (D0 (FZ (Cy (BS (Dz (EC (i:=4) rfl ⟨rfl,BQ ⟨_,_,rfl,rfl,_,.inr ⟨rfl,_,rfl,Cy (BS (Dz (EC (i:=3) rfl ⟨rfl,BQ ⟨_,_,rfl,rfl,_,.inr ⟨rfl,_,rfl,_,rfl,?_⟩⟩⟩)))⟩⟩⟩))))))));rw[AW,AW];refine B0 (λz=>by have:=mi z;omega) (B7 ?_);refine An (Ep (C2 (D0 (FZ (Cy (BS (Dz (EC (i:=4) rfl ⟨rfl,BQ ⟨_,_,rfl,rfl,_,.inr ⟨rfl,_,rfl,Cy (BS (Dz (EC (i:=3) rfl ⟨rfl,BQ ⟨_,_,rfl,rfl,_,.inr ⟨rfl,_,rfl,_,rfl,?_⟩⟩⟩)))⟩⟩⟩))))))));rw[AW,AW];refine ED (lx (by omega)) (e 3 (.inr (.inr rfl)) _ _ λt' FG=>b t' ?_);unfold Sm.by
    rw[mY (by omega),md h];exact FG
  .rintro AI⟨s2,c,s4,t',rfl,FG⟩;rw[AW]at FG;obtain⟨KU,KC,us',HW,rfl⟩:=FG;refine An (Ib (i:=0) (t:=BK (EK s d' s.ln.length) a KU KC us') (DU (EE (cw (BS (Dy (MO rfl ⟨_,rfl,_,.inl ⟨rfl,rfl,s.row,rfl,AS rfl ⟨d',rfl,q.2,by omega,ok.row.nd,?_⟩⟩⟩)))))));refine CL rfl ⟨true,a,k3,_,rfl,rfl,by show 3<=99999;decide,by decide +kernel,B3,FN ⟨.inr "row", rfl,?_⟩⟩;rw[OV.EY];refine Dw (i:=0) rfl (Ce (.inl ⟨⟨d'.done s.row,s.ln,s.ll.map (Lp.led s.row d'),s.sn,CH s d' s.ln.length⟩,?_,rfl,KU,KC,us',HW,?_⟩))
   .unfold Fd;rw[o]
   .rw[<- cR,<- l1,tE,wO];rfl
def nq:Aw ["row","rule"] ["row","rule"] (Ag VG):=by walk_at "z1"
def iL : ∀ss R,X0 ss R->ss.length=2:=by rintro _ _⟨ns,r,rfl,hz,rfl⟩;rfl
def rK(F:AK K "_law_begun" "_law_begun" VG f fd)(m:mg "_law_begun"=some (.ref f)):
  A9 P w K mg Zu "_law_begun" 1 ["row","rule"] (BN X0):=by
 refine A9.mk F (F.binds (by walk_at "bD2")) m (F.B4 (k:=0) nq (λvs H Q E h=>Fz.Gg iL h) (λAe A outer s H vs Q E hr h=>?_))
 refine⟨_,(AD rfl (AX (BV (A0 (qv 1) (A0 A6 (A0 (CS J7 Bo (A0 (As R6 DZ (A0 (qv 0) A4)) A4)) A4)))))),?_⟩;refine Fz.GN h iL ?_;rintro _ _⟨ns,r,rfl,hz,rfl⟩;show Ws [_,_] _ _ _
 walk_at "ww"
 refine⟨hz,λts a st=>?_⟩
 walk_at "ww"
 exact⟨by simp,ts,a,st,rfl⟩
def zU:Aw ["state","name","rule"] ["state","name","rule"] (Ag XD):=by walk_at "z1"
def cG : ∀ss R,UL ss R->ss.length=3:=by rintro _ _⟨s,a,t,x,r,rfl,_,_,_,_,_,rfl⟩;rfl
def ZB8(F:AK K "_law_begins" "_law_begins" XD f fd)(m:mg "_law_begins"=some (.ref f)):
  A9 P w K mg Zu "_law_begins" 3 ["state","name","rule"] (Bh UL):=by
 refine A9.mk F (F.binds (by walk_at "bD3")) m (F.B4 (k:=2) zU (λvs H Q E h=>Fz.GY cG h) (λAe A outer s H vs Q E hr h=>?_))
 refine⟨_,(AB rfl (Aj (DQ (Dh (Ed (AV Mb hr (A0 (qv 1) A4)))) (DQ (dZ (B8 hr) (qv 1) (BR (B8 hr) (qv 0) AY (λ_ _=>rfl))) (FX (Aa LA (qv 2) (BV (A0 AY (A0 AY (A0 AY A4)))))))).pt (AD rfl (AX CZ)) Ao)
   (AB rfl (IG (B8 hr) (BR (B8 hr) (qv 0) AY (λ_ _=>rfl)) (qv 1) (AV Te hr (A0 (BR (B8 hr) (qv 0) AY (λ_ _=>rfl)) (A0 (qv 2) A4))))
   (AB rfl (IG (B8 hr) (BR (B8 hr) (qv 0) AY (λ_ _=>rfl)) (qv 1) (Fb (A0 (As D1 Ak (A0 (BR (B8 hr) (qv 0) AY (λ_ _=>rfl)) A4)) (A0 A6 (A0 A6 (A0 A6 A4))))))
   (AD rfl (AX CZ))))),?_⟩
 refine Fz.Jy h cG ?_;rintro _ _⟨s,a,t,x,r,rfl,p,ok,hx,hr,hn,rfl⟩;obtain⟨aL,aS,us,BF,rfl⟩:=p;show Ws [_,_,_] _ _ _;have g:∀nx:List Slot->Prop,¬ (isNm x=true/\x∉s.sn/\Oi r=true)->Ws [.ow true (BK s a aL aS us),.is (.str x),.is (.str r)] (HJ (tC (V.bl false))) nx (.mt (Eo (λs t=>DF s a t) s (Es s x r))):=λnx h=>Dw (i:=0) rfl (Ce (.inr ⟨by unfold Es;rw[mY h],rfl,aL,aS,us,BF,rfl⟩));refine An (C2 (Fe (G6 (Dk (UQ (AS rfl ⟨x,rfl,hx.2,_,rfl,?_⟩))))));refine Am (λc=>g _ λz=>by rw[z.1]at c;cases c) (λc=>?_);refine Fe (Dk (iU (AS rfl (SN rfl ⟨Ab s.sn,aS,us,.inr x,rfl,rfl,_,rfl,?_⟩))));rw[Jt];refine Am (λl=>g _ λz=>z.2.1 (mi l)) (λl=>?_)
 walk_at "ww"
 refine⟨by decide,_,.inr ⟨rfl,["none","ahead","all"],rfl,_,rfl,?_⟩⟩;refine Am (λd=>g _ λz=>?_) (λd=>B7 ?_)
 .have j:decide (r∈([("none":Str), "ahead","all"]))=true:=z.2.2;rw[j]at d;cases d
 have h1:isNm x=true:=by cases e:isNm x with
  |true=>rfl
  |false=>exact absurd (by rw[e];rfl) c
 have h2:x∉s.sn:=λz=>l (lx z);have j:Oi r=true:=by
  show decide (r∈([("none":Str), "ahead","all"]))=true;cases e:decide (r∈([("none":Str), "ahead","all"]))with
  |true=>rfl
  |false=>exact absurd (by rw[e];rfl) d
 have n:x∉s.ln:=λz=>h2 (ok.sub x z);have l1:=ok.l1;have l2:=ok.l2;have u:=J3 ok.n1 ok.sub;refine An (Ib (i:=0) (t:=BK s a aL aS us) (DU (wp_call (bP (BS (Dy (MO rfl ⟨_,rfl,_,.inl ⟨rfl,CP (AS rfl (EA ⟨_,⟨s.row,r,rfl,by have:=ok.row.len;omega,rfl⟩,?_⟩))⟩⟩)))))));rintro _⟨ts,o,st,rfl⟩;rw[Rm ok.row.nd o st];refine(Od rfl ⟨true,aL,Ab s.ln,_,rfl,rfl,by unfold Ba;rw[AW];omega,Gh ok.n1,B3,AS rfl ⟨.inr x,rfl,?_⟩⟩);rw[OP n,Pg n];unfold BK;rw[show([]++[1]:List Nat)=[1]from rfl,JR];have q:Ba s.ll++[.fz (CY r 0 (FK s.row))]=Ba (s.ll++[⟨r,0,FK s.row⟩]):=by unfold Ba;rw[E4];rfl
 rw[q];show Ws [.ow true (BK ⟨s.row,s.ln++[x],s.ll++[⟨r,0,FK s.row⟩],s.sn,s.sq⟩ a aL aS us),.is (.str x),.is (.str r)] _ _ _;refine An (Ib (i:=0) (t:=BK ⟨s.row,s.ln++[x],s.ll++[⟨r,0,FK s.row⟩],s.sn,s.sq⟩ a aL aS us) (dm (Gx (DU (Cy (BS (Dy (MO rfl ⟨_,rfl,_,.inl ⟨rfl,Gx (DU (BQ (Gx (DU (BQ (Gx (DU (BQ (Nl ⟨by simp,by simp,by simp,by simp,by show 4<=100000;decide,λb=>?_⟩)))))))))⟩⟩))))))));refine(SN rfl ⟨true,aS,Ab s.sn,us,rfl,rfl,by rw[BF.1];omega,Gh ok.n2,B3,AS rfl ⟨.inr x,rfl,?_⟩⟩);rw[OP h2,Pg h2,AW];unfold BK;rw[show([]++[2]:List Nat)=[2]from rfl,put2];exact Dw (i:=0) rfl (Ce (.inl ⟨_,by unfold Es;rw[md ⟨h1,h2,j⟩],rfl,aL,aS,_,BF.snoc ⟨b,rfl⟩,rfl⟩))
def My:Aw ["state","entry","live","rule","gap","coming","left"] ["state","entry"] (Ag Rx):=by walk_at "z1"
def ZB9:=Sc [(".0",.local),("name",.local),("entry",.free)]
def zu:E6 ["state","entry","live","rule","gap","coming","left"] (Ag Rx) ZB9 "name" ["entry"] [1]:=by walk_at "z2"
def iK : ∀ss R,U0 ss R->ss.length=2:=by rintro _ _⟨s,a,t,e,rfl,_,_,_,_,rfl⟩;rfl
def ZBN(F:AK K "_law_goes" "_law_goes" Rx f fd)(m:mg "_law_goes"=some (.ref f)):
  A9 P w K mg Zu "_law_goes" 5 ["state","entry"] (Bh U0):=by
 refine A9.mk F (F.binds (by walk_at "bD2")) m (F.B4 (k:=4) My (λvs H Q E h=>Fz.GY iK h) (λAe A outer s H vs Q E hr h=>?_))
 refine⟨_,(AB rfl (Az 2 My.nd (BR (B8 hr) (qv 0) AY (λ_ _=>rfl)))
   (AB rfl (Aj (Aa BO (AF AL (qv 1) A6) AY) (AD rfl (AX (AV Yd hr (A0 (qv 0) (A0 (AF AL (qv 1) A6) (A0 (AF AL (qv 1) A6) A4)))))) Ao)
   (AB rfl (Aj (Aa BO (AF AL (qv 1) A6) AY) (AB rfl (Aj (DQ (SD (B8 hr) (AF AL (qv 1) A6) (qv 2)) (FX (Aa (Ow hr.IM) (AF AL (BR (B8 hr) (qv 2) (AF AL (qv 1) A6) (λ_ _=>rfl)) A6) (BV A4)))).pt (AD rfl (AX CZ)) Ao)
   (AB rfl (DR (ZY (qv 2) (AF AL (qv 1) A6) ⟨rfl,rfl,rfl,rfl⟩))
   (AD rfl (AX CZ)))) Ao)
   (AB rfl (Aj (Aa BO (AF AL (qv 1) A6) AY) (AB rfl (Aj (DQ (SD (B8 hr) (AF AL (qv 1) A6) (qv 2)) (FX (Aa LA (AF AL (qv 1) A6) (AF AL (BR (B8 hr) (qv 2) (AF AL (qv 1) A6) (λ_ _=>rfl)) A6)))).pt (AD rfl (AX CZ)) Ao)
   (AB rfl (Jh (BR (B8 hr) (qv 2) (AF AL (qv 1) A6) (λ_ _=>rfl)) (Js rfl (Cu (C6 3 My.nd) (Cu (C6 4 My.nd) (Cu (C6 5 My.nd) JL)))))
   (AB rfl (Az 6 My.nd (CS J7 Bo (A0 (Hi rfl zu (G8 (qv 5)) (λ_ _ _ _=>by exact(Km (Aa Io (qv 1) (AF (show HZ _ (Ht K)from AL) (qv 0) A6)))) (λ_ _ _ _=>by exact(qv 1))) A4)))
   (AB rfl (IG (B8 hr) (qv 2) (AF AL (qv 1) A6) (BV (A0 (qv 3) (A0 (B2 E9 (HP JC T6 ZH Rk (BR (B8 hr) (qv 0) AY (λ_ _=>rfl)) (A0 (AF AL (qv 1) A6) A4)) A6) (A0 (qv 6) A4)))))
   (AB rfl (DR (AV KP hr (A0 (qv 0) (A0 (AF AL (qv 1) A6) (A0 A6 A4)))))
   (AD rfl (AX CZ))))))) Ao)
   (AD rfl (AX (AV YB hr (A0 (qv 0) (A0 (qv 1) A4))))))))),?_⟩
 refine Fz.Jy h iK ?_;rintro _ _⟨s,a,t,e,rfl,u,ok,hs,hn,rfl⟩;obtain⟨aL,aS,us,BF,rfl⟩:=id u;show Ws [_,_,.any,.any,.any,.any,.any] _ _ _;have nd:∀{o:Option Ls}{p:PV}{t':OV},Eo (λs t=>DF s a t) s o p t'->∃DV us',t'=.nd DV a us'/\(∃nk a us,t'=.nd nk a us)/\Eo (λs t=>DF s a t) s o p t':=λh=>by
  obtain⟨nk,us,e⟩:=h.nd λ_ _ h=>h.nd;exact⟨nk,us,e,⟨nk,a,us,e⟩,h⟩
 have l1:=ok.l1;have l2:=ok.l2;have M:=J3 ok.n1 ok.sub;have O:=ok.row.len;refine An (U3 (i:=0) (Od rfl ⟨_,aL,_,rfl,?_⟩));cases e with
 |Ig x r=>
  show Ws [.ow true (BK s a aL aS us),.is (.tup [.str "begin",.str x,.str r]),.raw (ptr aL),.any,.any,.any,.any] _ _ _
  walk_at "ww"
  refine ED (by decide +kernel) ?_;refine MB (i:=0) rfl (Ot rfl (OF rfl (De ?_)))
  walk_at "ww"
  refine De ?_
  walk_at "ww"
  exact Ft ⟨_,⟨s,a,_,x,r,rfl,u,ok,hs.1,hs.2,hn,rfl⟩,λp t' h=>nd h⟩
 |over x=>
  show Ws [.ow true (BK s a aL aS us),.is (.tup [.str "over",.str x]),.raw (ptr aL),.any,.any,.any,.any] _ _ _
  walk_at "ww"
  refine B0 (by decide +kernel) (B7 ?_)
  walk_at "ww"
  refine ED (by decide +kernel) ?_;refine An (C2 (Fe (Dk (VH (i:=0) (t:=BK s a aL aS us) ?_))))
  walk_at "ww"
  refine(Hj (j:=2) (i:=0) (p:=[1]) rfl rfl DE ⟨Ab s.ln,aL,_,.inr x,rfl,rfl,_,rfl,?_⟩);rw[Jt];refine Am (λc=>?_) (λc=>?_)
  .have nx:x∉s.ln:=λz=>by rw[lx z]at c;cases c
   refine Dw (i:=0) rfl (Ce (.inr ⟨?_,rfl,aL,aS,us,BF,rfl⟩));show EG s x=none;unfold EG;rw[Z4 nx,l1,LK (Ap _)]
  .have hx:x∈s.ln:=J8 λz=>c (by rw[qX z];rfl);have hi:=List.idxOf_lt_length_iff.mpr hx;obtain⟨l,b⟩:∃l,s.ll[s.ln.idxOf x]?=some l:=⟨_,BA (by omega)⟩;refine D0 (cj (BS (Dz (BS (Dy (Fm (Hj (j:=2) (i:=0) (p:=[1]) rfl rfl DE ⟨Ab s.ln,aL,_,rfl,?_⟩)))))))
   walk_at "ww"
   refine⟨.inr x,s.ln.idxOf x,.fz l.P,rfl,FL hx,Mz b,_,rfl,_,.inr ⟨rfl,rfl,BQ ⟨_,_,rfl,rfl,_,.inr ⟨rfl,l.cs,rfl,?_⟩⟩⟩⟩;refine BS (Lz (HA ⟨by decide,_,.inr ⟨rfl,rfl,[],rfl,_,rfl,?_⟩⟩));refine Am (λn=>?_) (λn=>B7 ?_)
   .refine Dw (i:=0) rfl (Ce (.inr ⟨?_,rfl,aL,aS,us,BF,rfl⟩));show EG s x=none;unfold EG;rw[b];show(if l.cs=[]then _ else none)=none
    rw[mY (λz=>by rw[lx z]at n;cases n)]
   .have J:l.cs=[]:=J8 λz=>n (by rw[qX z];rfl);refine An (bW (i:=0) (t:=BK s a aL aS us) (Hj (j:=2) (i:=0) (p:=[1]) rfl rfl DE ⟨true,aL,Ab s.ln,_,rfl,rfl,Gh ok.n1,?_⟩))
    walk_at "ww"
    refine⟨.inr x,s.ln.idxOf x,rfl,FL hx,?_⟩;unfold BK;rw[JR,du,ZN];refine Dw (i:=0) rfl (Ce (.inl ⟨⟨s.row,s.ln.eraseIdx (s.ln.idxOf x),s.ll.eraseIdx (s.ln.idxOf x),s.sn,s.sq⟩,?_,rfl,aL,aS,us,BF,rfl⟩));show EG s x=_;unfold EG;rw[b];show(if l.cs=[]then _ else none)=_
    rw[md J]
 |tell x y=>
  show Ws [.ow true (BK s a aL aS us),.is (.tup [.str "tell",.str x,.str y]),.raw (ptr aL),.any,.any,.any,.any] _ _ _
  walk_at "ww"
  refine B0 (by decide +kernel) (B7 ?_)
  walk_at "ww"
  refine B0 (by decide +kernel) (B7 ?_)
  walk_at "ww"
  refine ED (by decide +kernel) ?_;refine An (C2 (Fe (Dk (VH (i:=0) (t:=BK s a aL aS us) ?_))))
  walk_at "ww"
  refine(Hj (j:=2) (i:=0) (p:=[1]) rfl rfl DE ⟨Ab s.ln,aL,_,.inr x,rfl,rfl,_,rfl,?_⟩);rw[Jt];refine Am (λc=>?_) (λc=>?_)
  .have nx:x∉s.ln:=λz=>by rw[lx z]at c;cases c
   refine Dw (i:=0) rfl (Ce (.inr ⟨?_,rfl,aL,aS,us,BF,rfl⟩));show EM s x y=none;unfold EM;rw[Z4 nx,l1,LK (Ap _)]
  .have hx:x∈s.ln:=J8 λz=>c (by rw[qX z];rfl);have hi:=List.idxOf_lt_length_iff.mpr hx;obtain⟨l,b⟩:∃l,s.ll[s.ln.idxOf x]?=some l:=⟨_,BA (by omega)⟩;refine D0 (WG ?_)
   walk_at "ww"
   refine BS (Dy (Fm (Hj (j:=2) (i:=0) (p:=[1]) rfl rfl DE ⟨Ab s.ln,aL,_,rfl,?_⟩)))
   walk_at "ww"
   refine⟨.inr x,s.ln.idxOf x,.fz l.P,rfl,FL hx,Mz b,_,rfl,_,.inr ⟨rfl,rfl,BQ ⟨_,_,rfl,rfl,_,.inr ⟨rfl,l.cs,rfl,_,rfl,?_⟩⟩⟩⟩;have xs:x∈s.sn:=ok.sub x hx;have B:=ok.good l (Cr b);have N:=B.len;refine Am (λn=>?_) (λn=>B7 ?_)
   .refine Dw (i:=0) rfl (Ce (.inr ⟨?_,rfl,aL,aS,us,BF,rfl⟩));show EM s x y=none;unfold EM;rw[b];show(if y∈l.cs then _ else none)=none
    rw[mY (λz=>by rw[lx z]at n;cases n)]
   .have v:y∈l.cs:=J8 λz=>n (by rw[qX z];rfl);have D:y∈s.row:=B.sub y v;refine An (iS (Dy (Fm (Hj (j:=2) (i:=0) (p:=[1]) rfl rfl DE ⟨Ab s.ln,aL,_,rfl,?_⟩))))
    walk_at "ww"
    refine⟨.inr x,s.ln.idxOf x,.fz l.P,rfl,FL hx,Mz b,_,rfl,kj ⟨_,_,_,rfl,?_⟩⟩;show Ws [.ow true (BK s a aL aS us),.is (.tup [.str "tell",.str x,.str y]),.raw (ptr aL),.is (.str l.r),.is (.int l.g),.is (.tup (l.cs.map .str)),.any] _ _ _;refine An (Kn (VX rfl (BS (EE (ar PV.str (λz=>!decide (z=y)) PV.str (Kl (Il (AS rfl ⟨_,.inr ⟨rfl,l.cs,rfl,by omega,λz hz=>?_,λz hz _=>AS rfl rfl,?_⟩⟩))) str_inj)))))
    .walk_at "ww"
     rw[show alike (PV.str z) (PV.str y)=decide (z=y)from rfl]
    refine⟨_,.inl ⟨rfl,?_⟩⟩;show Ws [.ow true (BK s a aL aS us),.is (.tup [.str "tell",.str x,.str y]),.raw (ptr aL),.is (.str l.r),.is (.int l.g),.is (.tup (l.cs.map .str)),.is (.tup ((wo l.cs y).map .str))] _ _ _;refine An (Ib (i:=0) (t:=BK s a aL aS us) (DU (Lz (HY (AS rfl (HY ?_))))));refine Wk (jN (BS (Dy (MO rfl ⟨_,rfl,_,.inl ⟨rfl,rfl,s.row,rfl,?_⟩⟩))))
    walk_at "ww"
    refine⟨D,_,rfl,BQ ⟨_,rfl,HY (AS rfl (HA ⟨by simp,?_⟩))⟩⟩;refine(Hj (j:=2) (i:=0) (p:=[1]) rfl rfl DE ⟨true,aL,Ab s.ln,_,rfl,rfl,by unfold Ba;rw[AW];omega,Gh ok.n1,B3,?_⟩)
    walk_at "ww"
    refine⟨.inr x,rfl,?_⟩;rw[RQ hx,Pe hx];have L:(Ba s.ll).set (s.ln.idxOf x) (.fz (.tup [.str l.r,.int (((s.row.idxOf y:Nat):Int)+1),.tup ((wo l.cs y).map .str)]))=Ba (s.ll.set (s.ln.idxOf x) ⟨l.r,s.row.idxOf y+1,wo l.cs y⟩):=Ro _ _ ⟨l.r,s.row.idxOf y+1,wo l.cs y⟩;rw[L];unfold BK;rw[JR];show Ws [.ow true (BK ⟨s.row,s.ln,s.ll.set (s.ln.idxOf x) ⟨l.r,s.row.idxOf y+1,wo l.cs y⟩,s.sn,s.sq⟩ a aL aS us),.is (.tup [.str "tell",.str x,.str y]),.raw (ptr aL),.is (.str l.r),.is (.int l.g),.is (.tup (l.cs.map .str)),.is (.tup ((wo l.cs y).map .str))] _ _ _;refine An (U6 (i:=0) (Ot rfl (OF rfl (De ?_))))
    walk_at "ww"
    refine De (BQ (Ft ⟨_,⟨⟨s.row,s.ln,s.ll.set (s.ln.idxOf x) ⟨l.r,s.row.idxOf y+1,wo l.cs y⟩,s.sn,s.sq⟩,a,_,x,2,rfl,⟨aL,aS,us,BF,rfl⟩,xs,l2,.inr (.inl rfl),rfl⟩,?_⟩));rintro _ t2⟨rfl,G,C,D6,I,rfl⟩;refine⟨_,_,rfl,?_⟩;refine Dw (i:=0) rfl (Ce (.inl ⟨⟨s.row,s.ln,s.ll.set (s.ln.idxOf x) ⟨l.r,s.row.idxOf y+1,wo l.cs y⟩,s.sn,s.sq.modify (s.sn.idxOf x) Sm.tell⟩,?_,rfl,G,C,D6,I,rfl⟩));show EM s x y=_;unfold EM;rw[b];show(if y∈l.cs then _ else none)=_
    rw[md v]
 |Gs d=>
  have q:∀nx,Ws [.ow true (BK s a aL aS us),.is (aP d),.raw (ptr aL),.any,.any,.any,.any] (HJ (C9 (Bh Rz) [] E0 (AU (B1 0) (AU (B1 1) B5)))) nx (.mt (Eo (λs t=>DF s a t) s (EX s (.Gs d)))):=λnx=>MB (i:=0) rfl (Ot rfl (OF rfl (De (AS rfl (Ft ⟨_,⟨s,a,_,d,rfl,u,ok,hs,hn,rfl⟩,λp t' h=>nd h⟩)))));show Ws [.ow true (BK s a aL aS us),.is (aP d),.raw (ptr aL),.any,.any,.any,.any] _ _ _;cases d with
  |_=>
   unfold aP at q ⊢;dsimp only at q ⊢
   walk_at "ww"
   refine B0 (by decide +kernel) (B7 ?_)
   walk_at "ww"
   refine B0 (by decide +kernel) (B7 ?_)
   walk_at "ww"
   refine B0 (by decide +kernel) (B7 ?_);exact q _
def Gf:Aw ["script","rate","pot","most","first","state","log","wrong","k","turn","entry"] ["script","rate"] (Ag Tb):=by walk_at "z1"
def Zh : ∀ss R,(Xl K) ss R->ss.length=2:=by rintro _ _⟨sc,rfl,_,rfl⟩;rfl
def pW(F:AK K "_law_log" "_law_log" Tb f fd)(m:mg "_law_log"=some (.ref f)):
  A9 P w K mg Zu "_law_log" 6 ["script","rate"] (BN (Xl K)):=by
 refine A9.mk F (F.binds (by walk_at "bD2")) m (F.B4 (k:=5) Gf (λvs H Q E h=>Fz.Gg Zh h) (λAe A outer s H vs Q E hr h=>?_))
 refine⟨_,(AB rfl (Az 2 Gf.nd (AV Q6 hr (A0 (qv 0) (A0 A6 A4))))
   (AB rfl (Az 3 Gf.nd (AF AL (BV (A0 A6 (A0 A6 A4))) (CS RP HB (A0 (HR BO (AV BX hr (A0 (qv 2) (A0 A6 A4))) A6) A4))))
   (AB rfl (Az 4 Gf.nd (AV Ur hr (A0 (qv 2) (A0 (qv 3) A4))))
   (AB rfl (Az 5 Gf.nd (cV (Nq AY (CS IJ Be (A0 (qv 4) A4)) (Nq AY NF (Nq AY NF h9))) rfl rfl (by simp) (by decide)))
   (AB rfl (Az 6 Gf.nd (Fb A4))
   (AB rfl (Az 7 Gf.nd X8)
   (AB rfl (Ca (J2 I0 rfl (ZCJ rfl Ho (A0 A6 (A0 (As (yN rfl) UY (A0 A6 (A0 (As (uQ rfl) Tc (A0 (As D1 Ak (A0 (qv 0) A4)) (A0 A6 A4))) A4))) A4))) (C6 8 Gf.nd) (AB rfl (Az 2 Gf.nd (AV Q6 hr (A0 (qv 0) (A0 (qv 8) A4))))
   (AD rfl (J2 I0 rfl (Yf rfl Ho (A0 (B2 E9 A6 (AV BX hr (A0 (qv 2) (A0 (AF AL (BV (A0 A6 (A0 A6 A4))) (CS RP HB (A0 (HR KO (qv 3) A6) A4))) A4)))) A4)) (C6 9 Gf.nd) (AB rfl (Az 10 Gf.nd (AV Ud hr (A0 (qv 2) (A0 (qv 5) (A0 (qv 3) A4)))))
   (AB rfl (Ca (Aj (GH (Aa KO (qv 1) A6) (GI (Aa BO (AV BX hr (A0 (qv 2) (A0 (qv 1) A4))) A6))).pt (AD rfl Hb) Ao))
   (AB rfl (DR (HP JC T5 T7 Nj (qv 6) (A0 (qv 10) A4)))
   (AD rfl (Aj (GH (Dh (Ed (AV XX hr (A0 (qv 5) (A0 (qv 10) A4))))) (GI (Aa ZCt (qv 7) X8))).pt (AD rfl (Az 7 Gf.nd (B2 O3 (As D1 Ak (A0 (qv 6) A4)) A6))) Ao))))))))))
   (AD rfl (AX (BV (A0 (qv 4) (A0 (qv 6) (A0 (qv 7) (A0 (qv 5) A4)))))))))))))),?_⟩
 refine Fz.GN h Zh ?_;rintro _ _⟨sc,rfl,Ou,rfl⟩;show Ws [_,_,.any,.any,.any,.any,.any,.any,.any,.any,.any] _ _ _
 walk_at "ww"
 refine⟨by decide,by decide,?_⟩
 walk_at "ww"
 refine⟨by decide,_,.inr ⟨rfl,rfl,?_⟩⟩
 walk_at "ww"
 refine⟨by decide,by decide,λr W V=>?_⟩
 walk_at "ww"
 obtain⟨m,R,J⟩:∃m:Nat,L2.Bf [PV.int 9,.int 40] (if alike (PV.int r) (.int 0)=true then 1 else 0)=some (.int m)/\(m=9∨m=40):=by
  split
  .exact⟨40,rfl,.inr rfl⟩
  .exact⟨9,rfl,.inl rfl⟩
 refine⟨_,_,rfl,R,?_⟩
 walk_at "ww"
 refine⟨by omega,by omega,λns M0 M nd=>?_⟩;have hr:HF 40 ns:=⟨by omega,M,nd⟩;refine KG 4 rfl ?_;show Ws [.raw (Co K sc),.is (.int 0),.AQ,.is (.int m),.is (.lst (ns.map .str)),.any,.any,.any,.any,.any,.any] _ _ _;refine An (Qv (uc (by decide +kernel) (Gx (DU (EE (KI rfl (Jl rfl (Gx (Nr λaL=>Gx (Nr λaS=>Nl ⟨by simp,by simp,by simp,rfl,λa=>?_⟩))))))))));show Ws [.raw (Co K sc),.is (.int 0),.AQ,.is (.int m),.is (.lst (ns.map .str)),.ow false (BK (CO ns) a aL aS []),.any,.any,.any,.any,.any] _ _ _
 walk_at "ww"
 refine⟨by decide,?_⟩
 walk_at "ww"
 refine KY (λ_ i AI=>∃v:Slot,∃(es:List LE)(s:Ls)(t:OV)(s2 d Cn:Slot),AI=[.raw (Co K sc),.is (.int 0),s2,.is (.int m),.is (.lst (ns.map .str)),.ow false t,.own (es.map LE.P),.is .AE,v,d,Cn]/\DF s a t/\runs (CO ns) es=some s/\(∀e∈es,e.say)/\s.ln.length<=5/\s.row.length<=m/\es.length<=3 * i) ?_
 walk_at "ww"
 obtain⟨n,O,I⟩:=pY (b:=7) (c:=36) (n:=sc.length) (by decide) (by decide) (by omega);rw[O];refine⟨by omega,⟨_,[],CO ns,_,_,_,_,rfl,⟨aL,aS,[],R2.nil,rfl⟩,rfl,λe h=>absurd h B3,Bm _,by show ns.length<=m;omega,Bm _⟩,?_,?_⟩
 .rintro i p AI x⟨v,es,s,t,s2,d,Cn,rfl,o,hR,hs,h5,Lu,l⟩;obtain⟨hi,rfl⟩:=zZ x;refine Nb ?_;have T:i<36:=by omega
  walk_at "ww"
  refine⟨by omega,by omega,?_⟩;refine KY (λ_ j AI=>∃(es:List LE)(s:Ls)(t:OV)(d Cn:Slot),AI=[.raw (Co K sc),.is (.int 0),.AQ,.is (.int m),.is (.lst (ns.map .str)),.ow false t,.own (es.map LE.P),.is .AE,.is (.int (1+(i:Int))),d,Cn]/\DF s a t/\runs (CO ns) es=some s/\(∀e∈es,e.say)/\s.ln.length<=5/\s.row.length<=m/\es.length<=3 * i+j) ?_
  walk_at "ww"
  refine⟨by decide,_,.inr ⟨rfl,rfl,?_⟩⟩
  walk_at "ww"
  obtain⟨q,N,X⟩:∃q:Nat,L2.Bf [PV.int 3,.int 1] (if decide ((9:Int)<m)=true then 1 else 0)=some (.int q)/\(q=3∨q=1):=by
   split
   .exact⟨1,rfl,.inr rfl⟩
   .exact⟨3,rfl,.inl rfl⟩
  refine⟨_,_,rfl,N,_,rfl,by omega,by omega,λw C U=>?_⟩;obtain⟨w,rfl⟩:=Ef C;refine⟨_,rfl,_,rfl,by omega,by omega,⟨es,s,t,d,Cn,rfl,o,hR,hs,h5,Lu,l⟩,?_,?_⟩
  .rintro j p AI x⟨es,s,t,d,Cn,rfl,o,hR,hs,h5,Lu,l⟩;obtain⟨Y,rfl⟩:=gI x;refine Nb ?_;obtain⟨aL,aS,us,BF,rfl⟩:=id o;have ok:=Vu (Vp hr) hR;have sl:=Zx hR;have G:(CO ns).sn.length=0:=rfl;have L:j<3:=by omega
   show Ws [.raw (Co K sc),.is (.int 0),.AQ,.is (.int m),.is (.lst (ns.map .str)),.ow false (BK s a aL aS us),.own (es.map LE.P),.is .AE,.is (.int (1+(i:Int))),.is (.int j),Cn] _ _ _;refine An (Kn (yj 5 rfl (d6 rfl (CP (AS rfl (CP (AS rfl (EA ⟨_,⟨s,m,sA (λp=>[Slot.AQ,.is p,.is (.int m)]) (Zk BF),ok,h5,by omega,Lu,J,rfl⟩,?_⟩))))))));rintro _⟨e,s',rfl,g,B,D,O5⟩;refine⟨uR e,?_⟩;show Ws [.raw (Co K sc),.is (.int 0),.AQ,.is (.int m),.is (.lst (ns.map .str)),.ow false (BK s a aL aS us),.own (es.map LE.P),.is .AE,.is (.int (1+(i:Int))),.is (.int j),.is e.P] _ _ _
   walk_at "ww"
   refine Cv (Cv (B7 ?_))
   walk_at "ww"
   refine⟨by rw[AW];omega,?_⟩;refine dg (i:=5) (uZ (cn (gx (Ot rfl (OF rfl (De (AS rfl (Ft ⟨_,⟨s,a,_,e,rfl,o,ok,B,by omega,rfl⟩,?_⟩))))))));rintro _ t2(⟨s2,u,rfl,Cp⟩|⟨u,_,_⟩)
   .rw[g]at u;cases u;obtain⟨nk,D6,rfl⟩:=Cp.nd;refine⟨nk,D6,rfl,true,rfl,rfl,Cv (B7 ⟨es++[e],s',_,.is (.int j),.is e.P,?_,Cp,?_,?_,D,O5,?_⟩)⟩
    .rw[E4];rfl
    .rw[UH hR,g]
    .intro S y;rcases List.mem_append.mp y with z|z
     .exact hs S z
     .rw[List.mem_singleton.mp z];exact B
    .rw[Bu,N5];omega
   .rw[g]at u;cases u
  .rintro AI⟨es,s,t,d,Cn,rfl,o,hR,hs,h5,Lu,l⟩;rw[OU,show((1:Int)+(w:Nat)).toNat=1+w by omega]at l;exact⟨_,es,s,t,_,_,_,rfl,o,hR,hs,h5,Lu,by omega⟩
 .rintro AI⟨v,es,s,t,s2,d,Cn,rfl,⟨aL,aS,us,BF,rfl⟩,hR,hs,h5,Lu,l⟩;rw[OA]at l;refine zW 5 rfl ?_;refine KG 6 rfl ?_;rw[Zk BF]
  walk_at "ww"
  exact⟨by show 4<=100000;decide,ns,es,s,rfl,hr,hs,by omega,hR,h5⟩
def lY:Aw ["self","row"] ["self","row"] (Ag Yn):=by walk_at "z1"
def ee:∀ss R,(UU A7 AM) ss R->ss.length=2:=by rintro _ _⟨a,dx,tp,ns,rfl,rfl⟩;rfl
def ZDA(F:AK K "__init__" "Course.__init__" Yn f fd)(d:Mk K A7 f):
  Ni P w K mg Zu A7 2 ["self","row"] (Bh (UU A7 AM)):=by
 refine⟨f,fd,F.B4 (k:=1) lY (λvs H Q E h=>Fz.GY ee h) (λAe A outer s H vs Q E hr h=>?_),(F.binds (by walk_at "bD2")),d⟩
 refine⟨_,(AB rfl (JU (qv 0) (CS IJ Be (A0 (qv 1) A4)))
   (AB rfl (JU (qv 0) NF)
   (AD rfl (JU (qv 0) NF)))),?_⟩
 refine Fz.Qj h ee ?_;rintro _ _⟨a,dx,tp,ns,rfl,rfl⟩;show Ws [_,_] _ _ _;cases tp
 case' false=>refine An (IK (i:=0) (Zj (KI rfl (BS (AS rfl ⟨_,.inl ⟨rfl,λb=>CL rfl ⟨true,A7,dx,_,a,_,rfl,rfl,BB,DI,by decide,B3,?_⟩⟩⟩)))))
 case' true=>refine An (IK (i:=0) (Zj (KI rfl (BS (AS rfl ⟨_,.inr ⟨rfl,λb=>CL rfl ⟨true,A7,dx,_,a,_,rfl,rfl,BB,DI,by decide,B3,?_⟩⟩⟩)))))
 all_goals
  rw[OV.EY];show Ws [.ow true (.nd (.obj A7 dx ["standing"]) a [.nd .lst b ((ns.map PV.str).map .fz)]),_] _ _ _;refine An (IK (i:=0) (Nr λc=>CL rfl ⟨true,A7,dx,_,a,_,rfl,rfl,BB,CB,by decide,B3,?_⟩));rw[OV.EY];show Ws [.ow true (.nd (.obj A7 dx ["standing","running"]) a [.nd .lst b ((ns.map PV.str).map .fz),.nd (.Ai []) c []]),_] _ _ _;refine IK (i:=0) (Nr λe=>CL rfl ⟨true,A7,dx,_,a,_,rfl,rfl,BB,Fq,by decide,B3,?_⟩);rw[OV.EY];exact⟨_,_,_,_,rfl,rfl,rfl,b,c,e,rfl⟩
def oB:Aw ["self","stood"] ["self","stood"] (Ag Vr):=by walk_at "z1"
def gX:∀ss R,(XF AM) ss R->ss.length=2:=by rintro _ _⟨a,dx,n,rfl,rfl⟩;rfl
def x8(F:AK K "__init__" "Tally.__init__" Vr f fd)(b:Mk K AM f):
  Ni P w K mg Zu AM 1 ["self","stood"] (Bh (XF AM)):=by
 refine⟨f,fd,F.B4 (k:=0) oB (λvs H Q E h=>Fz.GY gX h) (λAe A outer s H vs Q E hr h=>?_),(F.binds (by walk_at "bD2")),b⟩
 refine⟨_,(AB rfl (JU (qv 0) (qv 1))
   (AB rfl (JU (qv 0) A6)
   (AB rfl (JU (qv 0) A6)
   (AD rfl (JU (qv 0) A6))))),?_⟩
 refine Fz.Qj h gX ?_;rintro _ _⟨a,dx,n,rfl,rfl⟩;show Ws [_,_] _ _ _;refine An (IK (i:=0) (DU (AS rfl (CL rfl ⟨true,AM,dx,_,a,_,rfl,rfl,Fu,WZ,by decide,B3,?_⟩))));rw[OV.EY];show Ws [.ow true (.nd (.obj AM dx ["stood"]) a [.fz (.int n)]),.is (.int n)] _ _ _;refine An (IK (i:=0) (DU (BQ (CL rfl ⟨true,AM,dx,_,a,_,rfl,rfl,Fu,N0,by decide,B3,?_⟩))));rw[OV.EY];show Ws [.ow true (.nd (.obj AM dx ["stood","joined"]) a [.fz (.int n),.fz (.int 0)]),.is (.int n)] _ _ _;refine An (IK (i:=0) (DU (BQ (CL rfl ⟨true,AM,dx,_,a,_,rfl,rfl,Fu,La,by decide,B3,?_⟩))));rw[OV.EY];show Ws [.ow true (.nd (.obj AM dx ["stood","joined","told"]) a [.fz (.int n),.fz (.int 0),.fz (.int 0)]),.is (.int n)] _ _ _;refine IK (i:=0) (DU (BQ (CL rfl ⟨true,AM,dx,_,a,_,rfl,rfl,Fu,Mt,by decide,B3,?_⟩)));rw[OV.EY];exact⟨_,_,_,_,rfl,rfl,rfl,rfl⟩
def vY:Aw ["rule"] ["rule"] (Ag U2):=by walk_at "z1"
def yZ(F:AK K "check_rule" "check_rule" U2 f fd)(m:mg "check_rule"=some (.ref f)):
  A9 P w K mg Zu "check_rule" 1 ["rule"] (gP):=by
 refine A9.mk F (F.binds (by walk_at "bD1")) m (F.B4 (k:=0) vY (λvs H Q E h=>?_) (λAe A outer s H vs Q E hr h=>?_))
 .obtain⟨r,rfl,NG,q⟩:=h;rfl
 obtain⟨r,rfl,NG,q⟩:=h;refine⟨_,(AD rfl (Aj (Aa LA (qv 0) (Nv (v:=.ref Fn) (by rfl) MY rfl)) (AD rfl Hb) Ao)),?_⟩;refine⟨_,rfl,Fn,_,rfl,.inr (Lv H),rfl,rfl,_,rfl,?_⟩;have a:ES (.str r) (FY.map V.str)=decide (r∈FY):=Kc r FY;show if(!ES (.str r) (FY.map V.str))=true then _ else _
 rw[a,lx NG];exact Cv q
def yM:Aw ["row","rule"] ["row","rule"] (Ag WL):=by walk_at "z1"
def ZCa(F:AK K "begun" "begun" WL f fd)(m:mg "begun"=some (.ref f)):
  A9 P w K mg Zu "begun" 2 ["row","rule"] (UE K):=by
 refine A9.mk F (F.binds (by walk_at "bD2")) m (F.B4 (k:=1) yM (λvs H Q E h=>?_) (λAe A outer s H vs Q E hr h=>?_))
 .obtain⟨a,tp,ns,r,rfl,g,NG,hz,q⟩:=h;rfl
 obtain⟨a,tp,ns,r,rfl,g,NG,hz,q⟩:=h;refine⟨_,(AB rfl (DR (AV Wh hr (A0 (qv 1) A4)))
   (AD rfl (AX (BV (A0 (qv 1) (A0 A6 (A0 (CS J7 Bo (A0 (As R6 DZ (A0 (qv 0) A4)) A4)) A4))))))),?_⟩
 refine⟨_,rfl,r,rfl,NG,?_⟩;refine⟨_,rfl,_,rfl,a,tp,ns,rfl,g,hz,λl ts j i hs=>?_⟩;have n1:=Ah j (.lst (ts.map V.str));refine⟨l,_,rfl,.inl ⟨AJ.of AH,λc e=>?_⟩⟩;have n2:=Ah e (.tup (ts.map V.str));refine⟨(by show 3<=sizeLine;decide),λt d=>?_⟩;have b:=Ah d (.tup [.str r,.int 0,.ref c]);exact q t c _ ts (A8.none (n1.trans n2) d) (A8.none n1 e) (n1.trans (n2.trans b)) i hs ⟨AH,b _ _ AH⟩
def yS:Aw ["text"] ["text"] (Ag QM):=by walk_at "z1"
def ZAI:=Sc [(".0",.local),("sign",.local),("LETTERS",.globalImplicit)]
def ZD8:E6 ["text"] (Ag QM) ZAI "sign" [] []:=by walk_at "z2"
def oV(F:AK K "is_name" "is_name" QM f fd)(m:mg "is_name"=some (.ref f)):
  A9 P w K mg Zu "is_name" 1 ["text"] (LC):=by
 refine A9.mk F (F.binds (by walk_at "bD1")) m (F.B4 (k:=0) yS (λvs H Q E h=>?_) (λAe A outer s H vs Q E hr h=>?_))
 .obtain⟨x,rfl,hx,q⟩:=h;rfl
 obtain⟨x,rfl,hx,q⟩:=h;refine⟨_,(AD rfl (AX (JN (MT Dv Dv A6 (As Y0 Ak (A0 (qv 0) A4)) (Nv (v:=.int 8) (by rfl) V2 ⟨_,rfl⟩)) (Iy (As (LU rfl) ET (A0 (Hi rfl ZD8 (gD (qv 0)) (λ_ _ _ _=>by exact Mq) (λ_ _ _ _=>by exact(HR e9 (qv 0) (Nv (v:=.str "abcdefghijklmnopqrstuvwxyz") (by rfl) XY ⟨_,rfl⟩)))) A4)))))),?_⟩;refine⟨_,rfl,_,rfl,small (by omega),_,_,rfl,rfl,_,rfl,?_⟩;refine Am (λc=>?_) (λc=>⟨_,rfl,Cv ?_⟩)
 .refine⟨_,_,rfl,rfl,_,rfl,?_⟩;refine Am (λa=>?_) (λa=>?_)
  .refine⟨_,rfl,x,rfl,λacc Au=>fe (λ_=>true) Uc Au (by rw[<- N2,<- HM];exact small (by omega)) (λi v H' Q' _ _ h=>h H' (A8.refl _)) (λi v H' Q' d _ _ h=>?_) (λH' s1 b=>?_)⟩
   .obtain⟨g,rfl⟩:=signs_get d;exact⟨_,rfl,_,_,rfl,rfl,h H' (A8.refl _)⟩
   .rw[aN]at b;refine⟨acc,_,rfl,AJ.of b,?_⟩;rw[all_map];have e:isNm x=x.cps.toList.all Ki:=by unfold isNm;rw[c,a];rfl
    rw[<- e];exact q H' s1
  .have e:isNm x=false:=by unfold isNm;rw[Bool.eq_false_iff.mpr a];simp
   rw[<- e];exact q H (A8.refl _)
 .have e:isNm x=false:=by unfold isNm;rw[Bool.eq_false_iff.mpr c];simp
  rw[<- e];exact q H (A8.refl _)
def ZBQ:Aw ["self","loop","rule"] ["self","loop","rule"] (Ag XQ):=by walk_at "z1"
def ij:∀ss R,(WM A7 AM) ss R->ss.length=3:=by rintro _ _⟨s,a,t,x,r,rfl,_,_,_,_,_,rfl⟩;rfl
def uV(F:AK K "follows_begin" "Course.follows_begin" XQ f fd)(o:Meth K A7 "follows_begin" f):
  EF P w K mg Zu A7 "follows_begin" 6 ["self","loop","rule"] (Bh (WM A7 AM)):=by
 refine⟨f,fd,F.B4 (k:=5) ZBQ (λvs H Q E h=>Fz.GY ij h) (λAe A outer s H vs Q E hr h=>?_),(F.binds (by walk_at "bD3")),o,BB⟩
 refine⟨_,(AB rfl (Aj (DQ (Dh (Ed (AV Lo hr (A0 (qv 1) A4)))) (DQ (dZ (B8 hr) (qv 1) (D9 (qv 0))) (FX (Aa LA (qv 2) (Nv (v:=.ref Fn) (by rfl) MY rfl))))).pt (AD rfl (AX CZ)) Ao)
   (AB rfl (IG (B8 hr) (D9 (qv 0)) (qv 1) (AV Vz hr (A0 (D9 (qv 0)) (A0 (qv 2) A4))))
   (AB rfl (IG (B8 hr) (D9 (qv 0)) (qv 1) (gk X9 hr (by decide) YH (A0 (As D1 Ak (A0 (D9 (qv 0)) A4)) A4)))
   (AD rfl (AX CZ))))),?_⟩
 refine Fz.Jy h ij ?_;rintro _ _⟨s,a,t,x,r,rfl,p,ok,hx,hr,hn,rfl⟩;obtain⟨dx,bS,aL,aS,us,BF,rfl⟩:=p;have C:ME K Fn ([("none":Str), "ahead","all"].map .str):=ME.of Lv rfl rfl;show Ws [_,_,_] _ _ _;have j:∀nx:List Slot->Prop,¬ (isNm x=true/\x∉s.sn/\Oi r=true)->Ws [.ow true (Bb s A7 a dx bS aL aS us),.is (.str x),.is (.str r)] (HJ (tC (V.bl false))) nx (.mt (Eo (λs t=>Cf s A7 AM a t) s (Es s x r))):=λnx h=>Dw (i:=0) rfl (Ce (.inr ⟨by unfold Es;rw[mY h],rfl,dx,bS,aL,aS,us,BF,rfl⟩));refine An (C2 (Fe (G6 (Dk (UQ (AS rfl ⟨x,rfl,hx.2,_,rfl,?_⟩))))));refine Am (λc=>j _ λz=>by rw[z.1]at c;cases c) (λc=>?_);refine Fe (Dk (iU (AS rfl (SE rfl BB Fq ⟨Ab s.sn,aS,us,.inr x,rfl,rfl,_,rfl,?_⟩))));rw[Jt];refine Am (λl=>j _ λz=>z.2.1 (mi l)) (λl=>?_);refine D0 (mQ (neg:=true) C (AS rfl ⟨r,rfl,_,rfl,?_⟩));refine Am (λg=>j _ λz=>?_) (λg=>B7 ?_)
 .have d:decide (r∈([("none":Str), "ahead","all"]))=true:=z.2.2;rw[d]at g;cases g
 have h1:isNm x=true:=by cases e:isNm x with
  |true=>rfl
  |false=>exact absurd (by rw[e];rfl) c
 have h2:x∉s.sn:=λz=>l (lx z);have d:Oi r=true:=by
  show decide (r∈([("none":Str), "ahead","all"]))=true;cases e:decide (r∈([("none":Str), "ahead","all"]))with
  |true=>rfl
  |false=>exact absurd (by rw[e];rfl) g
 have m:x∉s.ln:=λz=>h2 (ok.sub x z);refine An (Ib (i:=0) (t:=Bb s A7 a dx bS aL aS us) (DU (nJ (JH (Lr rfl BB DI ⟨_,_,rfl,s.row,rfl,AS rfl ⟨r,rfl,mi d,by have:=ok.row.len;omega,λts n st=>?_⟩⟩)))));rw[Rm ok.row.nd n st];have l1:=ok.l1;have l2:=ok.l2;have u:=J3 ok.n1 ok.sub;refine(IT rfl BB CB ⟨true,aL,Ab s.ln,_,rfl,rfl,by unfold Ba;rw[AW];omega,Gh ok.n1,B3,AS rfl ⟨.inr x,rfl,?_⟩⟩);rw[OP m,Pg m];unfold Bb;rw[show([]++[1]:List Nat)=[1]from rfl,JR];have q:Ba s.ll++[.fz (CY r 0 (FK s.row))]=Ba (s.ll++[⟨r,0,FK s.row⟩]):=by unfold Ba;rw[E4];rfl
 rw[q];show Ws [.ow true (Bb ⟨s.row,s.ln++[x],s.ll++[⟨r,0,FK s.row⟩],s.sn,s.sq⟩ A7 a dx bS aL aS us),.is (.str x),.is (.str r)] _ _ _;refine An (Ib (i:=0) (t:=Bb ⟨s.row,s.ln++[x],s.ll++[⟨r,0,FK s.row⟩],s.sn,s.sq⟩ A7 a dx bS aL aS us) (bT (De (Cy (JH (Lr rfl BB DI ⟨_,_,rfl,Ft λb e=>⟨_,⟨b,e,s.row.length,by rw[AW],rfl⟩,?_⟩⟩))))));rintro _ _⟨rfl,rfl⟩;refine⟨rfl,_,_,rfl,?_⟩;refine(SE rfl BB Fq ⟨true,aS,Ab s.sn,us,rfl,rfl,by rw[BF.1];omega,Gh ok.n2,B3,AS rfl ⟨.inr x,rfl,?_⟩⟩);rw[OP h2,Pg h2];unfold Bb;rw[show([]++[2]:List Nat)=[2]from rfl,put2];exact Dw (i:=0) rfl (Ce (.inl ⟨_,by unfold Es;rw[md ⟨h1,h2,d⟩],rfl,dx,bS,aL,aS,_,BF.snoc ⟨e,b,rfl⟩,rfl⟩))
def qd:Aw ["self","loop"] ["self","loop"] (Ag WO):=by walk_at "z1"
def ja:∀ss R,(Ly A7) ss R->ss.length=2:=by rintro _ _⟨s,xs,x,rfl,_,rfl⟩;rfl
def pJ(F:AK K "coming" "Course.coming" WO f fd)(b:Meth K A7 "coming" f):
  EF P w K mg Zu A7 "coming" 2 ["self","loop"] (BN (Ly A7)):=by
 refine⟨f,fd,F.B4 (k:=1) qd (λvs H Q E h=>Fz.Gg ja h) (λAe A outer s H vs Q E hr h=>?_),(F.binds (by walk_at "bD2")),b,BB⟩
 refine⟨_,(AB rfl (Aj (SD (B8 hr) (qv 1) (D9 (qv 0))) (AD rfl (AX (BV A4))) Ao)
   (AD rfl (AX (AF AL (BR (B8 hr) (D9 (qv 0)) (qv 1) (λ_ _=>rfl)) A6)))),?_⟩
 refine Fz.GN h ja ?_;rintro _ _⟨s,xs,x,rfl,d,rfl⟩;show Ws [_,_] _ _ _;refine An (C2 (Dk (xF (AS rfl (fc (AS rfl ⟨A7,IY,_,1,_,rfl,BB,CB,by decide +kernel,rfl,Ab s.ln,_,.inr x,rfl,rfl,_,rfl,?_⟩))))));rw[Jt];refine Am (λc=>?_) (λc=>B7 ?_)
 .refine FQ (Lz (HA ⟨by simp,?_⟩));have nx:x∉s.ln:=λz=>by rw[lx z]at c;cases c
  unfold Du;rw[Z4 nx,d,LK (Ap _)];rfl
 .have hx:x∈s.ln:=J8 λz=>c (by rw[qX z];rfl);have hi:=List.idxOf_lt_length_iff.mpr hx;obtain⟨l,a⟩:∃l,s.ll[s.ln.idxOf x]?=some l:=⟨_,BA (by omega)⟩;refine FQ (Dz (BS (Iq (fc (AS rfl ⟨A7,IY,_,1,_,rfl,BB,CB,by decide +kernel,rfl,Ab s.ln,_,rfl,AS rfl ⟨.inr x,l.P,rfl,YJ hx (by rw[BG,a];rfl),_,.inr ⟨rfl,rfl,BQ ⟨_,_,rfl,rfl,?_⟩⟩⟩⟩)))));unfold Du;rw[a]
def zK:Aw ["coming","gone"] ["coming","gone"] (Ag SI):=by walk_at "z1"
def qW:=Sc [(".0",.local),("name",.local),("gone",.free)]
def ni:E6 ["coming","gone"] (Ag SI) qW "name" ["gone"] [1]:=by walk_at "z2"
def uP(F:AK K "coming_without" "coming_without" SI f fd)(m:mg "coming_without"=some (.ref f)):
  A9 P w K mg Zu "coming_without" 1 ["coming","gone"] (XJ K):=by
 refine A9.mk F (F.binds (by walk_at "bD2")) m (F.B4 (k:=0) zK (λvs H Q E h=>?_) (λAe A outer s H vs Q E hr h=>?_))
 .obtain⟨c,ss,x,rfl,d,hz,q⟩:=h;rfl
 obtain⟨c,ss,x,rfl,d,hz,q⟩:=h;refine⟨_,(AD rfl (AX (CS J7 Bo (A0 (Hi rfl ni (G8 (qv 0)) (λ_ _ _ _=>by exact(Km (Aa Io (qv 1) (qv 0)))) (λ_ _ _ _=>by exact(qv 1))) A4)))),?_⟩;have j:=Dm ss;have g:Df K true H c (ss.map V.str):=d;refine⟨_,rfl,true,c,_,rfl,g,λacc Au=>N1 (He (.str x)) (λv=>v) g Au (by rw[j];exact small (by omega)) (λi v H' Q' a s1 h=>?_) (λi v H' Q' a _ s1 h=>?_) (λH' s1 e=>?_)⟩
 .obtain⟨y,rfl,_⟩:=LV a;exact⟨_,rfl,_,rfl,rfl,_,rfl,h _ (A8.refl _)⟩
 .exact⟨_,rfl,h _ (A8.refl _)⟩
 .rw[Oc]at e;refine⟨acc,_,rfl,.inl ⟨AJ.of e,λt b=>?_⟩⟩;exact q t _ (A8.none s1 b) (s1.trans (Ah b _)) AH
def ly:Aw ["row","name"] ["row","name"] (Ag XO):=by walk_at "z1"
def ZBf(F:AK K "place_of" "place_of" XO f fd)(m:mg "place_of"=some (.ref f)):
  A9 P w K mg Zu "place_of" 1 ["row","name"] (Oh):=by
 refine A9.mk F (F.binds (by walk_at "bD2")) m (F.B4 (k:=0) ly (λvs H Q E h=>?_) (λAe A outer s H vs Q E hr h=>?_))
 .obtain⟨a,tp,ns,x,rfl,b,hx,q⟩:=h;rfl
 obtain⟨a,tp,ns,x,rfl,b,hx,q⟩:=h;refine⟨_,(AB rfl (Aj (Aa LA (qv 1) (qv 0)) (AD rfl Hb) Ao)
   (AD rfl (AX (sN (HP JC T6 ZH Rk (qv 0) (A0 (qv 1) A4)) (HP PySem.F.plainAttrs_tuple ZDx PySem.F.type_tuple_index ZAw (qv 0) (A0 (qv 1) A4)))))),?_⟩
 refine⟨_,rfl,_,rfl,a,_,rfl,(BU.sq (K:=K) b).or,rfl,Fi ns,_,rfl,?_⟩;refine B0 (by show ¬ (!ES (V.str x) (ns.map V.str))=true;rw[Kc,lx hx];decide) ?_;cases tp with
 |false=>exact .inl ⟨_,rfl,.inl ⟨rfl,_,AJ.of b⟩,_,rfl,a,ns,x,rfl,rfl,AJ.of b,hx,q⟩
 |true=>exact .inr ⟨_,rfl,.inr (.inr (.inr (.inr ⟨rfl,_,b⟩))),_,rfl,a,ns,x,rfl,rfl,AA.of b,hx,q⟩
def wK:Aw ["row","loop","name"] ["row","loop","name"] (Ag V1):=by walk_at "z1"
def nZ(F:AK K "loop_telling" "loop_telling" V1 f fd)(m:mg "loop_telling"=some (.ref f)):
  A9 P w K mg Zu "loop_telling" 2 ["row","loop","name"] (U4 K):=by
 refine A9.mk F (F.binds (by walk_at "bD3")) m (F.B4 (k:=1) wK (λvs H Q E h=>?_) (λAe A outer s H vs Q E hr h=>?_))
 .obtain⟨a,tp,ns,t,r,g,ss,x,rfl,i,j,GJ,hx,q⟩:=h;rfl
 obtain⟨a,tp,ns,t,r,g,ss,x,rfl,i,j,GJ,hx,q⟩:=h;refine⟨_,(AD rfl (AX (BV (A0 (AF AL (qv 1) A6) (A0 (B2 E9 (AV G7 hr (A0 (qv 0) (A0 (qv 2) A4))) A6) (A0 (AV Mp hr (A0 (AF AL (qv 1) A6) (A0 (qv 2) A4))) A4)))))),?_⟩;obtain⟨c,FG,KW⟩:=id j;have e:AA K H t _:=AA.of FG;have p:AA K H c _:=AA.of KW;refine⟨_,rfl,t,_,_,_,rfl,rfl,e,rfl,_,rfl,_,rfl,a,tp,ns,x,rfl,i,hx,_,_,rfl,rfl,?_⟩;refine⟨_,rfl,t,_,_,_,rfl,rfl,e,rfl,_,rfl,c,ss,x,rfl,p,by omega,λl H3 o b u=>?_⟩;refine⟨(by show 3<=sizeLine;decide),λn Jd=>?_⟩;have d:=Ah Jd (.tup [.str r,.int ((ns.idxOf x:Nat)+1),.ref l]);exact q n l _ (A8.none b Jd) o (b.trans d) ⟨AH,d _ _ u⟩
def i6:Aw ["self","loop","name","tally"] ["self","loop","name"] (Ag VJ):=by walk_at "z1"
def gL:∀ss R,(Ys A7 AM) ss R->ss.length=3:=by rintro _ _⟨s,a,t,x,y,rfl,_,_,_,rfl⟩;rfl
def tu(F:AK K "follows_tell" "Course.follows_tell" VJ f fd)(G:Meth K A7 "follows_tell" f):
  EF P w K mg Zu A7 "follows_tell" 6 ["self","loop","name"] (Bh (Ys A7 AM)):=by
 refine⟨f,fd,F.B4 (k:=5) i6 (λvs H Q E h=>Fz.GY gL h) (λAe A outer s H vs Q E hr h=>?_),(F.binds (by walk_at "bD3")),G,BB⟩
 refine⟨_,(AB rfl (Aj (Aa LA (qv 2) (HN Gz hr (by decide) (qv 0) (A0 (qv 1) A4))) (AD rfl (AX CZ)) Ao)
   (AB rfl (IG (B8 hr) (D9 (qv 0)) (qv 1) (AV VN hr (A0 (D9 (qv 0)) (A0 (BR (B8 hr) (D9 (qv 0)) (qv 1) (λ_ _=>rfl)) (A0 (qv 2) A4)))))
   (AB rfl (Az 3 i6.nd (BR (B8 hr) (D9 (qv 0)) (qv 1) (λ_ _=>rfl)))
   (AB rfl (Vb (qv 3) A6 Yb)
   (AD rfl (AX CZ)))))),?_⟩
 refine Fz.Jy h gL ?_;rintro _ _⟨s,a,t,x,y,rfl,I,ok,hn,rfl⟩;obtain⟨dx,bS,aL,aS,us,BF,rfl⟩:=I;show Ws [_,_,_,.any] _ _ _;have l1:=ok.l1;have l2:=ok.l2;have O:=J3 ok.n1 ok.sub;have J:(Du s x).length<=1000:=by
  unfold Du;split
  .next l e=>have:=(ok.good l (Cr e)).len;have:=ok.row.len;omega
  .exact Bm _
 refine An (C2 (D0 (WG (AS rfl ⟨y,rfl,(J6 rfl rfl l1 ⟨_,rfl,?_⟩)⟩))));refine⟨_,rfl,?_⟩;have D:y∉Du s x->EM s x y=none:=λh=>by
  unfold EM;unfold Du at h;split
  .next l e=>rw[e]at h;rw[mY h]
  .rfl
 refine Am (λc=>?_) (λc=>B7 ?_)
 .refine Dw (i:=0) rfl (Ce (.inr ⟨D (λz=>(by rw[lx z]at c;cases c)),rfl,dx,bS,aL,aS,us,BF,rfl⟩))
 .have d:y∈Du s x:=J8 λz=>c (by rw[qX z];rfl);obtain⟨l,m⟩:∃l,s.ll[s.ln.idxOf x]?=some l:=by
   unfold Du at d;split at d
   .next l e=>exact⟨l,e⟩
   .cases d
  have M:Du s x=l.cs:=by unfold Du;rw[m]
  rw[M]at d;have n:x∈s.ln:=rm l1 m;have xs:x∈s.sn:=ok.sub x n;have v:=ok.good l (Cr m);have C:y∈s.row:=v.sub y d;have S:=ok.row.len;have R:=v.len;refine An (Ib (i:=0) (t:=Bb s A7 a dx bS aL aS us) (DU (mI (JH (Lr rfl BB DI ⟨_,_,rfl,s.row,rfl,?_⟩)))));refine Dy (Fm (IT rfl BB CB ⟨Ab s.ln,aL,_,rfl,AS rfl ⟨.inr x,s.ln.idxOf x,.fz l.P,rfl,FL n,Mz m,_,rfl,l.r,l.g,l.cs,rfl,AS rfl ⟨y,rfl,by omega,C,?_⟩⟩⟩));refine(IT rfl BB CB ⟨true,aL,Ab s.ln,_,rfl,rfl,by unfold Ba;rw[AW];omega,Gh ok.n1,B3,AS rfl ⟨.inr x,rfl,?_⟩⟩);rw[RQ n,Pe n];unfold Bb;rw[show([]++[1]:List Nat)=[1]from rfl,JR];have L:(Ba s.ll).set (s.ln.idxOf x) (.fz (CY l.r (s.row.idxOf y+1) (wo l.cs y)))=Ba (s.ll.set (s.ln.idxOf x) ⟨l.r,s.row.idxOf y+1,wo l.cs y⟩):=Ro _ _ ⟨l.r,s.row.idxOf y+1,wo l.cs y⟩;rw[L];obtain⟨q,B⟩:∃q,s.sq[s.sn.idxOf x]?=some q:=⟨_,BA (by have:=List.idxOf_lt_length_iff.mpr xs;omega)⟩;obtain⟨u,o,e,b,rfl⟩:=BF.get B;show Ws [.ow true (Bb ⟨s.row,s.ln,s.ll.set (s.ln.idxOf x) ⟨l.r,s.row.idxOf y+1,wo l.cs y⟩,s.sn,s.sq⟩ A7 a dx bS aL aS us),.is (.str x),.is (.str y),.any] _ _ _;refine An (U3 (i:=0) (Fm (SE rfl BB Fq ⟨Ab s.sn,aS,us,rfl,AS rfl ⟨.inr x,s.sn.idxOf x,_,rfl,FL xs,o,_,b,_,rfl,?_⟩⟩)));show Ws [.ow true (Bb ⟨s.row,s.ln,s.ll.set (s.ln.idxOf x) ⟨l.r,s.row.idxOf y+1,wo l.cs y⟩,s.sn,s.sq⟩ A7 a dx bS aL aS us),.is (.str x),.is (.str y),.raw (ptr b)] _ _ _;refine An (VQ (Hj (j:=3) (i:=0) (p:=[2,s.sn.idxOf x]) rfl rfl (Xa o) ⟨true,AM,e,_,b,_,2,_,rfl,rfl,Fu,La,by decide,by decide +kernel,rfl,BQ ⟨_,rfl,?_⟩⟩));unfold Bb;rw[QX o];refine Dw (i:=0) rfl (Ce (.inl ⟨⟨s.row,s.ln,s.ll.set (s.ln.idxOf x) ⟨l.r,s.row.idxOf y+1,wo l.cs y⟩,s.sn,s.sq.modify (s.sn.idxOf x) Sm.tell⟩,?_,rfl,dx,bS,aL,aS,_,BF.set λN h'=>by rw[B]at h';cases h';exact⟨e,b,rfl⟩,rfl⟩));unfold EM;rw[m];show(if y∈l.cs then _ else none)=_
  rw[md d]
def ZBc:Aw ["self","loop"] ["self","loop"] (Ag Ut):=by walk_at "z1"
def eE:∀ss R,(Vd A7 AM) ss R->ss.length=2:=by rintro _ _⟨s,a,t,x,rfl,_,_,rfl⟩;rfl
def qA(F:AK K "follows_over" "Course.follows_over" Ut f fd)(g:Meth K A7 "follows_over" f):
  EF P w K mg Zu A7 "follows_over" 6 ["self","loop"] (Bh (Vd A7 AM)):=by
 refine⟨f,fd,F.B4 (k:=5) ZBc (λvs H Q E h=>Fz.GY eE h) (λAe A outer s H vs Q E hr h=>?_),(F.binds (by walk_at "bD2")),g,BB⟩
 refine⟨_,(AB rfl (Aj (DQ (SD (B8 hr) (qv 1) (D9 (qv 0))) (FX (Aa KO (As D1 Ak (A0 (HN Gz hr (by decide) (qv 0) (A0 (qv 1) A4)) A4)) A6))).pt (AD rfl (AX CZ)) Ao)
   (AB rfl (DR (ZY (D9 (qv 0)) (qv 1) ⟨rfl,rfl,rfl,rfl⟩))
   (AD rfl (AX CZ)))),?_⟩
 refine Fz.Jy h eE ?_;rintro _ _⟨s,a,t,x,rfl,j,ok,rfl⟩;obtain⟨dx,bS,aL,aS,us,BF,rfl⟩:=j;show Ws [_,_] _ _ _;have l1:=ok.l1;refine An (C2 (Fe (Dk (VH (AS rfl (IT rfl BB CB ⟨Ab s.ln,aL,_,.inr x,rfl,rfl,_,rfl,?_⟩))))));rw[Jt];refine Am (λc=>?_) (λc=>?_)
 .have nx:x∉s.ln:=λz=>by rw[lx z]at c;cases c
  refine Dw (i:=0) rfl (Ce (.inr ⟨?_,rfl,dx,bS,aL,aS,us,BF,rfl⟩));unfold EG;rw[Z4 nx,l1,LK (Ap _)]
 .have hx:x∈s.ln:=J8 λz=>c (by rw[qX z];rfl);have hi:=List.idxOf_lt_length_iff.mpr hx;obtain⟨l,d⟩:∃l,s.ll[s.ln.idxOf x]?=some l:=⟨_,BA (by omega)⟩;have m:Du s x=l.cs:=by unfold Du;rw[d]
  refine D0 (FZ (Cy (J6 rfl rfl l1 ?_)));rw[AW,m];refine⟨_,rfl,BQ ⟨_,rfl,_,rfl,?_⟩⟩;refine Am (λe=>?_) (λe=>B7 ?_)
  .have b:=mi e;refine Dw (i:=0) rfl (Ce (.inr ⟨?_,rfl,dx,bS,aL,aS,us,BF,rfl⟩));unfold EG;rw[d];show(if l.cs=[]then _ else none)=none
   rw[mY (λz=>by rw[z]at b;exact absurd b (by decide))]
  .have b:l.cs=[]:=List.length_eq_zero_iff.mp (by have:¬ (0:Int)<l.cs.length:=λz=>e (lx z);omega);refine An (bW (i:=0) (t:=Bb s A7 a dx bS aL aS us) (IT rfl BB CB ⟨true,aL,Ab s.ln,_,rfl,rfl,Gh ok.n1,AS rfl ⟨.inr x,s.ln.idxOf x,rfl,FL hx,?_⟩⟩));unfold Bb;rw[show([]++[1]:List Nat)=[1]from rfl,JR,du,ZN];refine Dw (i:=0) rfl (Ce (.inl ⟨⟨s.row,s.ln.eraseIdx (s.ln.idxOf x),s.ll.eraseIdx (s.ln.idxOf x),s.sn,s.sq⟩,?_,rfl,dx,bS,aL,aS,us,BF,rfl⟩));unfold EG;rw[d];show(if l.cs=[]then _ else none)=_
   rw[md b]
def qO:Aw ["gap","at"] ["gap","at"] (Ag U5):=by walk_at "z1"
def xg(F:AK K "gap_behind_put" "gap_behind_put" U5 f fd)(m:mg "gap_behind_put"=some (.ref f)):
  A9 P w K mg Zu "gap_behind_put" 1 ["gap","at"] (gF):=by
 refine A9.mk F (F.binds (by walk_at "bD2")) m (F.B4 (k:=0) qO (λvs H Q E h=>?_) (λAe A outer s H vs Q E hr h=>?_))
 .obtain⟨g,i,rfl,q⟩:=h;rfl
 obtain⟨g,i,rfl,q⟩:=h;refine⟨_,(AB rfl (Aj (Aa Fc (qv 1) (qv 0)) (AD rfl (AX (B2 E9 (qv 0) A6))) Ao)
   (AD rfl (AX (qv 0)))),?_⟩
 refine⟨_,rfl,_,rfl,_,_,rfl,rfl,_,rfl,?_⟩;refine Am (λc=>?_) (λc=>?_)
 .have a:(i:Int)<(g:Int):=mi c;have e:((FT i g:Nat):Int)=(g:Int)+1:=by unfold FT;rw[md (by omega)];omega
  rw[e]at q;exact⟨_,rfl,_,_,rfl,rfl,q⟩
 .have a:¬ (i:Int)<(g:Int):=λz=>c (lx z);have e:FT i g=g:=by unfold FT;rw[mY (by omega)]
  rw[e]at q;exact⟨_,rfl,q⟩
def pH:Aw ["gap","place"] ["gap","place"] (Ag WK):=by walk_at "z1"
def rR(F:AK K "gap_behind_take" "gap_behind_take" WK f fd)(m:mg "gap_behind_take"=some (.ref f)):
  A9 P w K mg Zu "gap_behind_take" 1 ["gap","place"] (aj):=by
 refine A9.mk F (F.binds (by walk_at "bD2")) m (F.B4 (k:=0) pH (λvs H Q E h=>?_) (λAe A outer s H vs Q E hr h=>?_))
 .obtain⟨g,p,rfl,q⟩:=h;rfl
 obtain⟨g,p,rfl,q⟩:=h;refine⟨_,(AB rfl (Aj (Aa Fc (qv 1) (qv 0)) (AD rfl (AX (B2 O3 (qv 0) A6))) Ao)
   (AD rfl (AX (qv 0)))),?_⟩
 refine⟨_,rfl,_,rfl,_,_,rfl,rfl,_,rfl,?_⟩;refine Am (λc=>?_) (λc=>?_)
 .have a:(p:Int)<(g:Int):=mi c;have e:((EW p g:Nat):Int)=(g:Int) - 1:=by unfold EW;rw[md (by omega)];omega
  rw[e]at q;exact⟨_,rfl,_,_,rfl,rfl,q⟩
 .have a:¬ (p:Int)<(g:Int):=λz=>c (lx z);have e:EW p g=g:=by unfold EW;rw[mY (by omega)]
  rw[e]at q;exact⟨_,rfl,q⟩
def ZCb:Aw ["row","gap","deed"] ["row","gap","deed"] (Ag TK):=by walk_at "z1"
def xM(F:AK K "gap_led" "gap_led" TK f fd)(m:mg "gap_led"=some (.ref f)):
  A9 P w K mg Zu "gap_led" 3 ["row","gap","deed"] (dB):=by
 refine A9.mk F (F.binds (by walk_at "bD3")) m (F.B4 (k:=2) ZCb (λvs H Q E h=>?_) (λAe A outer s H vs Q E hr h=>?_))
 .obtain⟨a,t,tp,ns,g,d,rfl,n,l,ok,q⟩:=h;rfl
 obtain⟨a,t,tp,ns,g,d,rfl,n,l,ok,q⟩:=h;refine⟨_,(AB rfl (Aj (Aa BO (AF AL (qv 2) A6) AY) (AD rfl (AX (AV QN hr (A0 (qv 1) (A0 (AF AL (qv 2) A6) A4))))) Ao)
   (AB rfl (Aj (Aa BO (AF AL (qv 2) A6) AY) (AD rfl (AX (AV QL hr (A0 (qv 1) (A0 (AV G7 hr (A0 (qv 0) (A0 (AF AL (qv 2) A6) A4))) A4))))) Ao)
   (AB rfl (Aj (Aa BO (AF AL (qv 2) A6) AY) (AD rfl (AX (AV QN hr (A0 (AV QL hr (A0 (qv 1) (A0 (AV G7 hr (A0 (qv 0) (A0 (AF AL (qv 2) A6) A4))) A4))) (A0 (AF AL (qv 2) A6) A4))))) Ao)
   (AD rfl (AX (qv 1)))))),?_⟩
 have b:=l;have o:=n;refine⟨_,rfl,t,_,_,_,rfl,rfl,AA.of b,HK d,rfl,_,rfl,Am (λj=>?_) (λj=>?_)⟩
 .obtain⟨x,i,rfl⟩:=US j;exact⟨_,rfl,_,rfl,t,_,_,_,rfl,rfl,AA.of b,rfl,g,i,rfl,q⟩
 refine⟨_,rfl,t,_,_,_,rfl,rfl,AA.of b,HK d,rfl,_,rfl,Am (λe=>?_) (λe=>?_)⟩
 .obtain⟨x,rfl⟩:=WD e;exact⟨_,rfl,_,rfl,_,rfl,t,_,_,_,rfl,rfl,AA.of b,rfl,a,tp,ns,x,rfl,o,ok,g,_,rfl,q⟩
 refine⟨_,rfl,t,_,_,_,rfl,rfl,AA.of b,HK d,rfl,_,rfl,Am (λc=>?_) (λc=>?_)⟩
 .obtain⟨x,i,rfl⟩:=ZAd c;exact⟨_,rfl,_,rfl,_,rfl,t,_,_,_,rfl,rfl,AA.of b,rfl,a,tp,ns,x,rfl,o,ok.1,g,_,rfl,_,rfl,t,_,_,_,rfl,rfl,AA.of b,rfl,_,i,rfl,q⟩
 obtain⟨lo,hi,rfl⟩:=kL j e c;exact⟨_,rfl,q⟩
def rW:Aw ["loop","at"] ["loop","at"] (Ag VR):=by walk_at "z1"
def ZB3(F:AK K "joins" "joins" VR f fd)(m:mg "joins"=some (.ref f)):
  A9 P w K mg Zu "joins" 1 ["loop","at"] (cW):=by
 refine A9.mk F (F.binds (by walk_at "bD2")) m (F.B4 (k:=0) rW (λvs H Q E h=>?_) (λAe A outer s H vs Q E hr h=>?_))
 .obtain⟨t,r,g,i,c,rfl,a,q⟩:=h;rfl
 obtain⟨t,r,g,i,c,rfl,a,q⟩:=h;refine⟨_,(AD rfl (AX (dA (HR BO (AF AL (qv 0) A6) AY) (Iy (JN (HR BO (AF AL (qv 0) A6) AY) (Iy (HR MU (qv 1) (AF AL (qv 0) A6)))))))),?_⟩;refine⟨_,rfl,t,_,_,_,rfl,rfl,AA.of a,rfl,rfl,_,rfl,?_⟩;refine Am (λb=>?_) (λb=>?_)
 .have e:DL r g i=true:=by unfold DL;rw[md b]
  rw[e]at q;exact q
 .refine⟨_,rfl,t,_,_,_,rfl,rfl,AA.of a,rfl,rfl,_,rfl,?_⟩;refine Am (λd=>?_) (λd=>?_)
  .have e:DL r g i=decide ((g:Int)<=(i:Int)):=by unfold DL;rw[mY b,md d]
   rw[e]at q;exact⟨_,rfl,_,rfl,t,_,_,_,rfl,rfl,AA.of a,rfl,_,_,rfl,rfl,q⟩
  .have e:DL r g i=false:=by unfold DL;rw[mY b,mY d]
   rw[e]at q;exact q
def vK:Aw ["loop","deed"] ["loop","deed"] (Ag WU):=by walk_at "z1"
def oQ(F:AK K "coming_behind" "coming_behind" WU f fd)(m:mg "coming_behind"=some (.ref f)):
  A9 P w K mg Zu "coming_behind" 2 ["loop","deed"] (bG):=by
 refine A9.mk F (F.binds (by walk_at "bD2")) m (F.B4 (k:=1) vK (λvs H Q E h=>?_) (λAe A outer s H vs Q E hr h=>?_))
 .obtain⟨tl,t,c,r,g,ss,d,rfl,⟨b,j⟩,a,hz,up,hx,q⟩:=h;rfl
 obtain⟨tl,t,c,r,g,ss,d,rfl,⟨b,j⟩,a,hz,up,hx,q⟩:=h;refine⟨_,(AB rfl (Aj (Aa BO (AF AL (qv 1) A6) AY) (AD rfl (AX (AV Mp hr (A0 (AF AL (qv 0) A6) (A0 (AF AL (qv 1) A6) A4))))) Ao)
   (AB rfl (Aj (GH (Aa BO (AF AL (qv 1) A6) AY) (GI (Ed (AV WA hr (A0 (qv 0) (A0 (AF AL (qv 1) A6) A4)))))).pt (AD rfl (AX (CS J7 Bo (A0 (As R6 DZ (A0 (B2 ai (AF AL (qv 0) A6) (BV (A0 (AF AL (qv 1) A6) A4))) A4)) A4)))) Ao)
   (AD rfl (AX (AF AL (qv 0) A6))))),?_⟩
 refine⟨_,rfl,t,_,_,_,rfl,rfl,AA.of a,HK d,rfl,_,rfl,Am (λo=>?_) (λo=>?_)⟩
 .obtain⟨x,rfl⟩:=WD o;exact⟨_,rfl,tl,_,_,_,rfl,rfl,AA.of b,rfl,_,rfl,t,_,_,_,rfl,rfl,AA.of a,rfl,c,ss,x,rfl,AA.of j,by omega,λl H' B s e=>q l H' (.inl B) s e⟩
 refine⟨_,rfl,t,_,_,_,rfl,rfl,AA.of a,HK d,rfl,_,rfl,Am (λp=>?_) (λp=>Cv ⟨_,rfl,tl,_,_,_,rfl,rfl,AA.of b,rfl,q c _ (.inr rfl) (A8.refl _) (by rw[yX p o];exact j)⟩)⟩;obtain⟨x,i,rfl⟩:=US p;refine⟨_,rfl,_,rfl,t,_,_,_,rfl,rfl,AA.of a,rfl,tl,r,g,i,c,rfl,b,_,rfl,?_⟩;refine Am (λn=>?_) (λn=>⟨_,rfl,tl,_,_,_,rfl,rfl,AA.of b,rfl,q c _ (.inr rfl) (A8.refl _) (by rw[YO (Bool.eq_false_iff.mpr n)];exact j)⟩);refine⟨_,rfl,tl,_,_,_,rfl,rfl,AA.of b,rfl,_,rfl,t,_,_,_,rfl,rfl,AA.of a,rfl,(by show 1<=sizeLine;decide),λt1 OO=>?_⟩;have n1:=Ah OO (.tup [.str x]);refine⟨c,t1,_,_,rfl,rfl,AA.of (n1 _ _ j),AA.of AH,by simp,small (by rw[Dm];simp;omega),λp2 H2 s2 C=>?_⟩;have G:AA K H2 p2 ((ss++[x]).map V.str):=by rw[E4];exact C
 refine⟨p2,true,ss++[x],rfl,G,by rw[Bu];simp;omega,λy ts Tz z hs=>?_⟩;have u:=Ah Tz (.lst (ts.map V.str));refine⟨y,_,rfl,.inl ⟨AJ.of AH,λD v=>?_⟩⟩;exact q D _ (.inl (A8.none (n1.trans (s2.trans u)) v)) (n1.trans (s2.trans (u.trans (Ah v _)))) (by rw[AH,TN z hs up (hx x i rfl),Ww n])
def xR:Aw ["row","loop","deed"] ["row","loop","deed"] (Ag YZ):=by walk_at "z1"
def wG(F:AK K "loop_led" "loop_led" YZ f fd)(m:mg "loop_led"=some (.ref f)):
  A9 P w K mg Zu "loop_led" 4 ["row","loop","deed"] (Xy):=by
 refine A9.mk F (F.binds (by walk_at "bD3")) m (F.B4 (k:=3) xR (λvs H Q E h=>?_) (λAe A outer s H vs Q E hr h=>?_))
 .obtain⟨a,tl,t,c,tp,ns,r,g,ss,d,rfl,n,⟨Ms,ZU⟩,e,ok,b,hz,q⟩:=h;rfl
 obtain⟨a,tl,t,c,tp,ns,r,g,ss,d,rfl,n,⟨Ms,ZU⟩,e,ok,b,hz,q⟩:=h;refine⟨_,(AD rfl (AX (BV (A0 (AF AL (qv 1) A6) (A0 (AV Uq hr (A0 (qv 0) (A0 (AF AL (qv 1) A6) (A0 (qv 2) A4)))) (A0 (AV W3 hr (A0 (qv 1) (A0 (qv 2) A4))) A4)))))),?_⟩;have l:=b.len;have g1:=b.g1;refine⟨_,rfl,tl,_,_,_,rfl,rfl,AA.of Ms,rfl,_,rfl,_,rfl,tl,_,_,_,rfl,rfl,AA.of Ms,rfl,_,rfl,a,t,tp,ns,g,d,rfl,n,e,ok,?_⟩;refine⟨_,rfl,_,rfl,tl,t,c,r,g,ss,d,rfl,⟨Ms,ZU⟩,e,by omega,b.up,TM b ok,λo H3 u i v=>?_⟩;refine⟨(by show 3<=sizeLine;decide),λp Jd=>?_⟩;have j:=Ah Jd (.tup [.str r,.int (d.gap ns g:Nat),.ref o]);exact q p o _ (A8.none i Jd) u (i.trans j) ⟨AH,j _ _ v⟩
def WY:Aw ["self","loop","deed","many","tally"] ["self","loop","deed"] (Ag Xr):=by walk_at "z1"
def ao:∀ss R,(XA A7 AM) ss R->ss.length=3:=by rintro _ _⟨s,a,t,d,i,x,rfl,_,_,_,_,_,_,rfl⟩;rfl
def ZBI(F:AK K "lead" "Course.lead" Xr f fd)(G:Meth K A7 "lead" f):
  EF P w K mg Zu A7 "lead" 8 ["self","loop","deed"] (Bh (XA A7 AM)):=by
 refine⟨f,fd,F.B4 (k:=7) WY (λvs H Q E h=>Fz.GY ao h) (λAe A outer s H vs Q E hr h=>?_),(F.binds (by walk_at "bD3")),G,BB⟩
 refine⟨_,(AB rfl (Az 3 WY.nd (As D1 Ak (A0 (HN Gz hr (by decide) (qv 0) (A0 (qv 1) A4)) A4)))
   (AB rfl (IG (B8 hr) (D9 (qv 0)) (qv 1) (AV X1 hr (A0 (D9 (qv 0)) (A0 (BR (B8 hr) (D9 (qv 0)) (qv 1) (λ_ _=>rfl)) (A0 (qv 2) A4)))))
   (AB rfl (Az 4 WY.nd (BR (B8 hr) (D9 (qv 0)) (qv 1) (λ_ _=>rfl)))
   (AB rfl (Ca (Aj (Aa KO (As D1 Ak (A0 (HN Gz hr (by decide) (qv 0) (A0 (qv 1) A4)) A4)) (qv 3)) (AD rfl (Vb (qv 4) A6 Yb)) Ao))
   (AD rfl (Aj (Aa Fc (As D1 Ak (A0 (HN Gz hr (by decide) (qv 0) (A0 (qv 1) A4)) A4)) (qv 3)) (AD rfl (Vb (qv 4) A6 Yb)) Ao)))))),?_⟩
 refine Fz.Qj h ao ?_;rintro _ _⟨s,a,t,d,i,x,rfl,I,ok,hx,hd,hs,hn,rfl⟩;obtain⟨dx,bS,aL,aS,us,BF,rfl⟩:=I;show Ws [_,_,_,.any,.any] _ _ _;have l1:=ok.l1;have hi:i<s.ln.length:=(List.getElem?_eq_some_iff.mp hx).1;obtain⟨l,m⟩:∃l,s.ll[i]?=some l:=⟨_,BA (by omega)⟩;have y:x∈s.ln:=Cr hx;have xs:x∈s.sn:=ok.sub x y;have D:s.ln.idxOf x=i:=MG ok.n1 hx;have J:=ok.good l (Cr m);have ll:(C8 s d i).length=s.ll.length:=IP s d i;have M:Du (EK s d i) x=l.cs:=ZR (s:=EK s d i) ok.n1 hx (XS m);refine An (Kn (Cy (J6 rfl rfl (by rw[show(EK s d i).ll.length=s.ll.length from ll];exact l1) ?_)));rw[AW,M];refine An (Ib (i:=0) (t:=Bb (EK s d i) A7 a dx bS aL aS us) (DU (mh (JH (Lr rfl BB DI ⟨_,_,rfl,s.row,rfl,?_⟩)))));refine Dy (Fm (IT rfl BB CB ⟨Ab s.ln,aL,_,rfl,AS rfl ⟨.inr x,i,.fz l.P,rfl,by rw[FL y,D],Mz (XS m),_,rfl,l.r,l.g,l.cs,rfl,AS rfl ⟨d,rfl,hd,J,ok.row.len,?_⟩⟩⟩));refine(IT rfl BB CB ⟨true,aL,Ab s.ln,_,rfl,rfl,by unfold Ba;rw[AW];show(C8 s d i).length<=99999;have:=J3 ok.n1 ok.sub;omega,Gh ok.n1,B3,AS rfl ⟨.inr x,rfl,?_⟩⟩);rw[RQ y,Pe y];unfold Bb;rw[show([]++[1]:List Nat)=[1]from rfl,JR,D];have L:(Ba (EK s d i).ll).set i (.fz (CY l.r (d.gap s.row l.g) (d.Ff l.r l.g l.cs)))=Ba (C8 s d (i+1)):=by
  rw[<- Xd m];exact Ro _ _ (l.led s.row d)
 rw[L];obtain⟨q,C⟩:=kg (d:=d) (i:=i) ok xs;obtain⟨u,o,e,b,rfl⟩:=BF.get C;have N:=List.idxOf_lt_length_iff.mpr xs;have n:∀Q,Du ⟨s.row,s.ln,C8 s d (i+1),s.sn,Q⟩ x=(l.led s.row d).cs:=λQ=>ZR (s:=⟨s.row,s.ln,C8 s d (i+1),s.sn,Q⟩) ok.n1 hx (by rw[<- Xd m,Cq (by rw[IP];omega)]);show Ws [.ow true (Bb ⟨s.row,s.ln,C8 s d (i+1),s.sn,CH s d i⟩ A7 a dx bS aL aS us),.is (.str x),.is (dP d),.is (.int l.cs.length),.any] _ _ _;refine An (U3 (i:=0) (Fm (SE rfl BB Fq ⟨Ab s.sn,aS,us,rfl,AS rfl ⟨.inr x,s.sn.idxOf x,_,rfl,FL xs,o,_,b,_,rfl,?_⟩⟩)));have c:∀us',R2 (NN AM) us' (CH s d (i+1))->RJ (.mt λp t'=>p=.AE/\Cf (EK s d (i+1)) A7 AM a t') [.ow true (Bb ⟨s.row,s.ln,C8 s d (i+1),s.sn,CH s d (i+1)⟩ A7 a dx bS aL aS us'),.is (.str x),.is (dP d),.is (.int l.cs.length),.raw (ptr b)]:=λus' h=>⟨_,_,_,_,rfl,rfl,rfl,dx,bS,aL,aS,us',h,rfl⟩;rw[bf hx m]at c;show Ws [.ow true (Bb ⟨s.row,s.ln,C8 s d (i+1),s.sn,CH s d i⟩ A7 a dx bS aL aS us),.is (.str x),.is (dP d),.is (.int l.cs.length),.raw (ptr b)] _ _ _;rcases ZC l.cs.length (l.led s.row d).cs.length with h|h|h
 .refine An (Ep (C2 (D0 (FZ (Cy (J6 rfl rfl (by rw[show(C8 s d (i+1)).length=s.ll.length from IP s d (i+1)];exact l1) ?_))))));rw[AW,n];refine⟨_,rfl,AS rfl ⟨_,rfl,_,rfl,ED (lx (by omega)) ?_⟩⟩;refine VQ (Hj (j:=4) (i:=0) (p:=[2,s.sn.idxOf x]) rfl rfl (Xa o) ⟨true,AM,e,_,b,_,1,_,rfl,rfl,Fu,N0,by decide,by decide +kernel,rfl,BQ ⟨_,rfl,?_⟩⟩);unfold Bb;rw[QX o];have v:R2 (NN AM) (us.set (s.sn.idxOf x) (.nd (.obj AM e ["stood","joined","told","taken"]) b ((Fj q.join).map .fz))) ((CH s d i).modify (s.sn.idxOf x) (Sm.by l.cs.length (l.led s.row d).cs.length)):=BF.set λB h'=>by
   have h':(CH s d i)[s.sn.idxOf x]?=some B:=h';rw[C]at h';cases h';unfold Sm.by
   rw[md h];exact⟨e,b,rfl⟩
  show Ws [.ow true (Bb ⟨s.row,s.ln,C8 s d (i+1),s.sn,(CH s d i).modify (s.sn.idxOf x) (Sm.by l.cs.length (l.led s.row d).cs.length)⟩ A7 a dx bS aL aS (us.set (s.sn.idxOf x) (.nd (.obj AM e ["stood","joined","told","taken"]) b ((Fj q.join).map .fz)))),.is (.str x),.is (dP d),.is (.int l.cs.length),.raw (ptr b)] _ _ _;refine C2 (D0 (FZ (Cy (J6 rfl rfl (by rw[show(C8 s d (i+1)).length=s.ll.length from IP s d (i+1)];exact l1) ?_))));rw[AW,n];exact⟨_,rfl,AS rfl ⟨_,rfl,_,rfl,B0 (λz=>by have:=mi z;omega) (B7 (c _ v))⟩⟩
 .have v:R2 (NN AM) us ((CH s d i).modify (s.sn.idxOf x) (Sm.by l.cs.length (l.led s.row d).cs.length)):=by
   unfold Sm.by
   rw[mY (by omega),mY (by omega),gS];exact BF
  refine An (Ep (C2 (D0 (FZ (Cy (J6 rfl rfl (by rw[show(C8 s d (i+1)).length=s.ll.length from IP s d (i+1)];exact l1) ?_))))));rw[AW,n];refine⟨_,rfl,AS rfl ⟨_,rfl,_,rfl,B0 (λz=>by have:=mi z;omega) (B7 ?_)⟩⟩;refine C2 (D0 (FZ (Cy (J6 rfl rfl (by rw[show(C8 s d (i+1)).length=s.ll.length from IP s d (i+1)];exact l1) ?_))));rw[AW,n];exact⟨_,rfl,AS rfl ⟨_,rfl,_,rfl,B0 (λz=>by have:=mi z;omega) (B7 (c _ v))⟩⟩
 .refine An (Ep (C2 (D0 (FZ (Cy (J6 rfl rfl (by rw[show(C8 s d (i+1)).length=s.ll.length from IP s d (i+1)];exact l1) ?_))))));rw[AW,n];refine⟨_,rfl,AS rfl ⟨_,rfl,_,rfl,B0 (λz=>by have:=mi z;omega) (B7 ?_)⟩⟩;refine C2 (D0 (FZ (Cy (J6 rfl rfl (by rw[show(C8 s d (i+1)).length=s.ll.length from IP s d (i+1)];exact l1) ?_))));rw[AW,n];refine⟨_,rfl,AS rfl ⟨_,rfl,_,rfl,ED (lx (by omega)) ?_⟩⟩;refine VQ (Hj (j:=4) (i:=0) (p:=[2,s.sn.idxOf x]) rfl rfl (Xa o) ⟨true,AM,e,_,b,_,3,_,rfl,rfl,Fu,Mt,by decide,by decide +kernel,rfl,BQ ⟨_,rfl,?_⟩⟩);unfold Bb;rw[QX o];have v:R2 (NN AM) (us.set (s.sn.idxOf x) (.nd (.obj AM e ["stood","joined","told","taken"]) b ((Fj q.take).map .fz))) ((CH s d i).modify (s.sn.idxOf x) (Sm.by l.cs.length (l.led s.row d).cs.length)):=BF.set λB h'=>by
   have h':(CH s d i)[s.sn.idxOf x]?=some B:=h';rw[C]at h';cases h';unfold Sm.by
   rw[mY (by omega),md h];exact⟨e,b,rfl⟩
  exact c _ v
def la:Aw ["row","name","at"] ["row","name","at"] (Ag XG):=by walk_at "z1"
def r6(F:AK K "check_put" "check_put" XG f fd)(m:mg "check_put"=some (.ref f)):
  A9 P w K mg Zu "check_put" 2 ["row","name","at"] (aM):=by
 refine A9.mk F (F.binds (by walk_at "bD3")) m (F.B4 (k:=1) la (λvs H Q E h=>?_) (λAe A outer s H vs Q E hr h=>?_))
 .obtain⟨a,tp,ns,x,i,rfl,d,⟨h1,h2,g,e⟩,q⟩:=h;rfl
 obtain⟨a,tp,ns,x,i,rfl,d,⟨h1,h2,g,e⟩,q⟩:=h;refine⟨_,(AB rfl (Aj (Dh (Ed (AV Lo hr (A0 (qv 1) A4)))) (AD rfl Hb) Ao)
   (AB rfl (Aj (Aa Ld (qv 1) (qv 0)) (AD rfl Hb) Ao)
   (AB rfl (Aj (Dh (SS Dv Dv A6 (qv 2) (As Eb Ak (A0 (qv 0) A4)))) (AD rfl Hb) Ao)
   (AD rfl (Aj (Aa MU (As Eb Ak (A0 (qv 0) A4)) (Nv (v:=.int 40) (by rfl) Ve ⟨_,rfl⟩)) (AD rfl Hb) Ao))))),?_⟩
 have c:=Dm ns;refine⟨_,rfl,x,rfl,by have:=h1.2.1;omega,λH1 s1=>⟨_,rfl,?_⟩⟩;refine B0 (by rw[VC h1];decide) ?_;have b:=s1 _ _ d;refine⟨_,rfl,_,rfl,a,_,rfl,(BU.sq (K:=K) b).or,rfl,Fi ns,_,rfl,?_⟩;refine B0 (by show ¬ (ES (V.str x) (ns.map V.str))=true;rw[Kc,qX h2];decide) ?_;refine⟨_,rfl,_,_,rfl,rfl,_,rfl,Hh (lx (by omega)) ?_⟩;refine⟨_,rfl,a,_,rfl,(BU.sq (K:=K) b).or,_,_,rfl,rfl,_,rfl,R9 (by rw[c];omega) ?_⟩;refine⟨_,rfl,a,_,rfl,(BU.sq (K:=K) b).or,_,_,rfl,rfl,_,rfl,B0 (by rw[c,qX (by omega)];decide) ?_⟩;exact q _ s1
def vG:Aw ["row","name","at"] ["row","name","at"] (Ag Ye):=by walk_at "z1"
def ZAB(F:AK K "check_move" "check_move" Ye f fd)(m:mg "check_move"=some (.ref f)):
  A9 P w K mg Zu "check_move" 2 ["row","name","at"] (iy):=by
 refine A9.mk F (F.binds (by walk_at "bD3")) m (F.B4 (k:=1) vG (λvs H Q E h=>?_) (λAe A outer s H vs Q E hr h=>?_))
 .obtain⟨a,tp,ns,x,i,rfl,b,⟨h1,h2⟩,q⟩:=h;rfl
 obtain⟨a,tp,ns,x,i,rfl,b,⟨h1,h2⟩,q⟩:=h;refine⟨_,(AB rfl (DR (AV G7 hr (A0 (qv 0) (A0 (qv 1) A4))))
   (AD rfl (Aj (Dh (SS Dv Fc A6 (qv 2) (As Eb Ak (A0 (qv 0) A4)))) (AD rfl Hb) Ao))),?_⟩
 have c:=Dm ns;refine⟨_,rfl,_,rfl,a,tp,ns,x,rfl,b,h1,?_⟩;refine⟨_,rfl,_,_,rfl,rfl,_,rfl,Hh (lx (by omega)) ?_⟩;refine⟨_,rfl,a,_,rfl,(BU.sq (K:=K) b).or,_,_,rfl,rfl,_,rfl,R9 (by rw[c];omega) ?_⟩;exact q
def sV:Aw ["row","low","high"] ["row","low","high"] (Ag Vh):=by walk_at "z1"
def wL(F:AK K "check_turn" "check_turn" Vh f fd)(m:mg "check_turn"=some (.ref f)):
  A9 P w K mg Zu "check_turn" 1 ["row","low","high"] (eh):=by
 refine A9.mk F (F.binds (by walk_at "bD3")) m (F.B4 (k:=0) sV (λvs H Q E h=>?_) (λAe A outer s H vs Q E hr h=>?_))
 .obtain⟨a,tp,ns,lo,hi,rfl,b,⟨h1,h2⟩,q⟩:=h;rfl
 obtain⟨a,tp,ns,lo,hi,rfl,b,⟨h1,h2⟩,q⟩:=h;refine⟨_,(AB rfl (Aj (Dh (SS Dv Dv A6 (qv 1) (As Eb Ak (A0 (qv 0) A4)))) (AD rfl Hb) Ao)
   (AD rfl (Aj (Dh (SS Dv Dv (qv 1) (qv 2) (As Eb Ak (A0 (qv 0) A4)))) (AD rfl Hb) Ao))),?_⟩
 have c:=Dm ns;refine⟨_,rfl,_,_,rfl,rfl,_,rfl,Hh (lx (by omega)) ?_⟩;refine⟨_,rfl,a,_,rfl,(BU.sq (K:=K) b).or,_,_,rfl,rfl,_,rfl,R9 (by rw[c];omega) ?_⟩;refine⟨_,rfl,_,rfl,_,_,rfl,rfl,_,rfl,Hh (lx (by omega)) ?_⟩;refine⟨_,rfl,a,_,rfl,(BU.sq (K:=K) b).or,_,_,rfl,rfl,_,rfl,R9 (by rw[c];omega) ?_⟩;exact q
def kM:Aw ["row","deed"] ["row","deed"] (Ag Wd):=by walk_at "z1"
def m9(F:AK K "check_deed" "check_deed" Wd f fd)(m:mg "check_deed"=some (.ref f)):
  A9 P w K mg Zu "check_deed" 3 ["row","deed"] (bD):=by
 refine A9.mk F (F.binds (by walk_at "bD2")) m (F.B4 (k:=2) kM (λvs H Q E h=>?_) (λAe A outer s H vs Q E hr h=>?_))
 .obtain⟨a,t,tp,ns,d,rfl,c,b,hd,q⟩:=h;rfl
 obtain⟨a,t,tp,ns,d,rfl,c,b,hd,q⟩:=h;refine⟨_,(AD rfl (Aj (Aa BO (AF AL (qv 1) A6) AY) (AD rfl (DR (AV V8 hr (A0 (qv 0) (A0 (AF AL (qv 1) A6) (A0 (AF AL (qv 1) A6) A4)))))) (AD rfl (Aj (Aa BO (AF AL (qv 1) A6) AY) (AD rfl (DR (AV G7 hr (A0 (qv 0) (A0 (AF AL (qv 1) A6) A4))))) (AD rfl (Aj (Aa BO (AF AL (qv 1) A6) AY) (AD rfl (DR (AV WH hr (A0 (qv 0) (A0 (AF AL (qv 1) A6) (A0 (AF AL (qv 1) A6) A4)))))) (AD rfl (DR (AV VM hr (A0 (qv 0) (A0 (AF AL (qv 1) A6) (A0 (AF AL (qv 1) A6) A4)))))))))))),?_⟩;cases d with
 |put x i=>
  refine⟨_,rfl,t,_,_,_,rfl,rfl,AA.of b,rfl,rfl,_,rfl,Hh (by decide +kernel) ?_⟩;exact⟨_,rfl,_,rfl,t,_,_,_,rfl,rfl,AA.of b,rfl,_,rfl,t,_,_,_,rfl,rfl,AA.of b,rfl,a,tp,ns,x,i,rfl,c,hd,q⟩
 |take x=>
  refine⟨_,rfl,t,_,_,_,rfl,rfl,AA.of b,rfl,rfl,_,rfl,B0 (by decide +kernel) ?_⟩;refine⟨_,rfl,t,_,_,_,rfl,rfl,AA.of b,rfl,rfl,_,rfl,Hh (by decide +kernel) ?_⟩;exact⟨_,rfl,_,rfl,t,_,_,_,rfl,rfl,AA.of b,rfl,a,tp,ns,x,rfl,c,hd,q _ (A8.refl _)⟩
 |move x i=>
  refine⟨_,rfl,t,_,_,_,rfl,rfl,AA.of b,rfl,rfl,_,rfl,B0 (by decide +kernel) ?_⟩;refine⟨_,rfl,t,_,_,_,rfl,rfl,AA.of b,rfl,rfl,_,rfl,B0 (by decide +kernel) ?_⟩;refine⟨_,rfl,t,_,_,_,rfl,rfl,AA.of b,rfl,rfl,_,rfl,Hh (by decide +kernel) ?_⟩;exact⟨_,rfl,_,rfl,t,_,_,_,rfl,rfl,AA.of b,rfl,_,rfl,t,_,_,_,rfl,rfl,AA.of b,rfl,a,tp,ns,x,i,rfl,c,hd,q _ (A8.refl _)⟩
 |turn lo hi=>
  refine⟨_,rfl,t,_,_,_,rfl,rfl,AA.of b,rfl,rfl,_,rfl,B0 (by decide +kernel) ?_⟩;refine⟨_,rfl,t,_,_,_,rfl,rfl,AA.of b,rfl,rfl,_,rfl,B0 (by decide +kernel) ?_⟩;refine⟨_,rfl,t,_,_,_,rfl,rfl,AA.of b,rfl,rfl,_,rfl,B0 (by decide +kernel) ?_⟩;exact⟨_,rfl,_,rfl,t,_,_,_,rfl,rfl,AA.of b,rfl,_,rfl,t,_,_,_,rfl,rfl,AA.of b,rfl,a,tp,ns,lo,hi,rfl,c,hd,q _ (A8.refl _)⟩
def yG:Aw ["row","low","high"] ["row","low","high"] (Ag W2):=by walk_at "z1"
def ZBC(F:AK K "row_turned" "row_turned" W2 f fd)(m:mg "row_turned"=some (.ref f)):
  A9 P w K mg Zu "row_turned" 1 ["row","low","high"] (cZ):=by
 refine A9.mk F (F.binds (by walk_at "bD3")) m (F.B4 (k:=0) yG (λvs H Q E h=>?_) (λAe A outer s H vs Q E hr h=>?_))
 .obtain⟨a,tp,ns,lo,hi,rfl,b,Kr,hz,h1,h2,q⟩:=h;rfl
 obtain⟨a,tp,ns,lo,hi,rfl,b,Kr,hz,h1,h2,q⟩:=h;refine⟨_,(AD rfl (AX (B2 JW (B2 JW (CS IJ Be (A0 (Fs PB (qv 0) HQ (Ea (qv 1))) A4)) (b4 rfl rfl Be rfl Lx (A0 (Fs PB (qv 0) (Ea (qv 1)) (Ea (qv 2))) A4))) (CS IJ Be (A0 (Fs PB (qv 0) (Ea (qv 2)) HQ) A4))))),?_⟩;have L:=Dm ns;have c:∀n:Nat,n<=2001->n<=sizeLine:=λn h=>Cs h (by decide +kernel);refine⟨_,rfl,_,rfl,_,rfl,a,tp,_,rfl,BU.sq b,λy H1 s1 t=>?_⟩;rw[Rf]at t;refine⟨y,_,rfl,t.or,λl1 n1=>?_⟩;have t1:=Ah n1 (.lst ((ns.map V.str).take lo));have s2:=s1.trans t1;refine⟨_,rfl,_,rfl,_,rfl,_,rfl,_,rfl,a,tp,_,rfl,BU.sq (s2 _ _ b),λx H3 l r=>?_⟩;rw[c5 _ h1 (by rw[L];exact h2)]at r;refine⟨x,tp,_,rfl,r,Kr,λJ C=>?_⟩;have e:=Ah C (.lst (((ns.map V.str).drop lo).take (hi - lo)).reverse);refine⟨l1,J,_,_,rfl,rfl,e _ _ (l _ _ AH),AH,c _ (by simp only[CK,LL,FA];omega),λI B=>?_⟩;have u:=Ah B (.lst ((ns.map V.str).take lo++(((ns.map V.str).drop lo).take (hi - lo)).reverse));have j:=s2.trans (l.trans (e.trans u));refine⟨_,rfl,_,rfl,_,rfl,a,tp,_,rfl,BU.sq (j _ _ b),λv H6 i p=>?_⟩;rw[RO]at p;refine⟨v,_,rfl,p.or,λG z=>?_⟩;have d:=Ah z (.lst ((ns.map V.str).drop hi));refine⟨I,G,_,_,rfl,rfl,d _ _ (i _ _ AH),AH,c _ (by simp only[Bu,CK,FA,LL];omega),λD o=>?_⟩;have g:=j.trans (i.trans d);refine q D _ (A8.none g o) (g.trans (Ah o _)) ?_;rw[AH];unfold FH;simp only[E4,Su,Ss,jv,Bc]
def ZCK:Aw ["row","name","at"] ["row","name","at"] (Ag XH):=by walk_at "z1"
def yF(F:AK K "row_with" "row_with" XH f fd)(m:mg "row_with"=some (.ref f)):
  A9 P w K mg Zu "row_with" 1 ["row","name","at"] (gq):=by
 refine A9.mk F (F.binds (by walk_at "bD3")) m (F.B4 (k:=0) ZCK (λvs H Q E h=>?_) (λAe A outer s H vs Q E hr h=>?_))
 .obtain⟨a,tp,ns,x,i,rfl,c,hz,q⟩:=h;rfl
 obtain⟨a,tp,ns,x,i,rfl,c,hz,q⟩:=h;refine⟨_,(AD rfl (AX (B2 JW (B2 JW (CS IJ Be (A0 (Fs PB (qv 0) HQ (Ea (qv 2))) A4)) (Fb (A0 (qv 1) A4))) (CS IJ Be (A0 (Fs PB (qv 0) (Ea (qv 2)) HQ) A4))))),?_⟩;have C:=Dm ns;have b:∀n:Nat,n<=2001->n<=sizeLine:=λn h=>Cs h (by decide +kernel);refine⟨_,rfl,_,rfl,_,rfl,a,tp,_,rfl,BU.sq c,λt H1 s1 o=>?_⟩;rw[Rf]at o;refine⟨t,_,rfl,o.or,λl1 n1=>?_⟩;have t1:=Ah n1 (.lst ((ns.map V.str).take i));refine⟨_,rfl,b _ (by show 1<=2001;decide),λl2 n2=>?_⟩;have t2:=Ah n2 (.lst [.str x]);refine⟨l1,l2,_,_,rfl,rfl,t2 _ _ AH,AH,b _ (by simp only[CK,N5];omega),λB v=>?_⟩;have p:=Ah v (.lst ((ns.map V.str).take i++[.str x]));have g:=s1.trans (t1.trans (t2.trans p));refine⟨_,rfl,_,rfl,_,rfl,a,tp,_,rfl,BU.sq (g _ _ c),λr H4 s4 l=>?_⟩;rw[RO]at l;refine⟨r,_,rfl,l.or,λz u=>?_⟩;have d:=Ah u (.lst ((ns.map V.str).drop i));refine⟨B,z,_,_,rfl,rfl,d _ _ (s4 _ _ AH),AH,b _ (by simp only[Bu,CK,FA,N5];omega),λy j=>?_⟩;have e:=g.trans (s4.trans d);refine q y _ (A8.none e j) (e.trans (Ah j _)) ?_;rw[AH];unfold ins;simp only[E4,Su,Bv,Ss,Bc,List.singleton_append]
def vc:Aw ["row","name"] ["row","name"] (Ag Sf):=by walk_at "z1"
def vy:=Sc [(".0",.local),("thing",.local),("name",.free)]
def ZDI:E6 ["row","name"] (Ag Sf) vy "thing" ["name"] [1]:=by walk_at "z2"
def ZAo(F:AK K "row_without" "row_without" Sf f fd)(m:mg "row_without"=some (.ref f)):
  A9 P w K mg Zu "row_without" 1 ["row","name"] (aY):=by
 refine A9.mk F (F.binds (by walk_at "bD2")) m (F.B4 (k:=0) vc (λvs H Q E h=>?_) (λAe A outer s H vs Q E hr h=>?_))
 .obtain⟨a,tp,ns,x,rfl,b,hz,q⟩:=h;rfl
 obtain⟨a,tp,ns,x,rfl,b,hz,q⟩:=h;refine⟨_,(AD rfl (AX (Hi rfl ZDI (G8 (qv 0)) (λ_ _ _ _=>by exact(Km (Aa Io (qv 1) (qv 0)))) (λ_ _ _ _=>by exact(qv 1))))),?_⟩;have e:=Dm ns;refine⟨_,rfl,tp,a,_,rfl,BU.sq b,λacc Au=>N1 (He (.str x)) (λv=>v) (BU.sq b) Au (by rw[e];exact small (by omega)) (λi v H' Q' c s1 h=>?_) (λi v H' Q' c _ s1 h=>?_) (λH' s1 d=>?_)⟩
 .obtain⟨y,rfl,g⟩:=LV c;exact⟨_,rfl,_,rfl,rfl,_,rfl,h H' (A8.refl _)⟩
 .exact⟨_,rfl,h H' (A8.refl _)⟩
 .rw[Oc]at d;exact q acc H' Au s1 d
def uL:Aw ["row","deed"] ["row","deed"] (Ag TU):=by walk_at "z1"
def qE(F:AK K "done" "done" TU f fd)(m:mg "done"=some (.ref f)):
  A9 P w K mg Zu "done" 4 ["row","deed"] (W9):=by
 refine A9.mk F (F.binds (by walk_at "bD2")) m (F.B4 (k:=3) uL (λvs H Q E h=>?_) (λAe A outer s H vs Q E hr h=>?_))
 .obtain⟨a,t,tp,ns,d,rfl,o,j,Kr,hd,hz,q⟩:=h;rfl
 obtain⟨a,t,tp,ns,d,rfl,o,j,Kr,hd,hz,q⟩:=h;refine⟨_,(AB rfl (DR (AV YX hr (A0 (qv 0) (A0 (qv 1) A4))))
   (AB rfl (Aj (Aa BO (AF AL (qv 1) A6) AY) (AD rfl (AX (AV Pl hr (A0 (qv 0) (A0 (AF AL (qv 1) A6) (A0 (AF AL (qv 1) A6) A4)))))) Ao)
   (AB rfl (Aj (Aa BO (AF AL (qv 1) A6) AY) (AD rfl (AX (AV Rl hr (A0 (qv 0) (A0 (AF AL (qv 1) A6) A4))))) Ao)
   (AB rfl (Aj (Aa BO (AF AL (qv 1) A6) AY) (AD rfl (AX (AV Pl hr (A0 (AV Rl hr (A0 (qv 0) (A0 (AF AL (qv 1) A6) A4))) (A0 (AF AL (qv 1) A6) (A0 (AF AL (qv 1) A6) A4)))))) Ao)
   (AD rfl (AX (AV Um hr (A0 (qv 0) (A0 (AF AL (qv 1) A6) (A0 (AF AL (qv 1) A6) A4)))))))))),?_⟩
 refine⟨_,rfl,_,rfl,a,t,tp,ns,d,rfl,o,j,hd,λH1 s1=>?_⟩;have b:=s1 _ _ j;have g:=s1 _ _ o;have c:LS H1 Q (d.done ns):=λl H' n s e=>q l H' (A8.none s1 n) (s1.trans s) e;cases d with
 |put x i=>
  refine⟨_,rfl,t,_,_,_,rfl,rfl,AA.of b,rfl,rfl,_,rfl,Hh (by decide +kernel) ?_⟩;exact⟨_,rfl,_,rfl,t,_,_,_,rfl,rfl,AA.of b,rfl,_,rfl,t,_,_,_,rfl,rfl,AA.of b,rfl,a,tp,ns,x,i,rfl,g,by omega,c⟩
 |take x=>
  refine⟨_,rfl,t,_,_,_,rfl,rfl,AA.of b,rfl,rfl,_,rfl,B0 (by decide +kernel) ?_⟩;refine⟨_,rfl,t,_,_,_,rfl,rfl,AA.of b,rfl,rfl,_,rfl,Hh (by decide +kernel) ?_⟩;exact⟨_,rfl,_,rfl,t,_,_,_,rfl,rfl,AA.of b,rfl,a,tp,ns,x,rfl,g,by omega,c⟩
 |move x i=>
  refine⟨_,rfl,t,_,_,_,rfl,rfl,AA.of b,rfl,rfl,_,rfl,B0 (by decide +kernel) ?_⟩;refine⟨_,rfl,t,_,_,_,rfl,rfl,AA.of b,rfl,rfl,_,rfl,B0 (by decide +kernel) ?_⟩;refine⟨_,rfl,t,_,_,_,rfl,rfl,AA.of b,rfl,rfl,_,rfl,Hh (by decide +kernel) ?_⟩;refine⟨_,rfl,_,rfl,t,_,_,_,rfl,rfl,AA.of b,rfl,a,tp,ns,x,rfl,g,by omega,λl2 H2 n2 s2 r=>?_⟩;have p:=s2 _ _ b;have hw:(wo ns x).length<=ns.length:=PR _ _;exact⟨_,rfl,t,_,_,_,rfl,rfl,AA.of p,rfl,_,rfl,t,_,_,_,rfl,rfl,AA.of p,rfl,l2,false,wo ns x,x,i,rfl,r,by omega,λl H' n s e=>c l H' (A8.none s2 n) (s2.trans s) e⟩
 |turn lo hi=>
  refine⟨_,rfl,t,_,_,_,rfl,rfl,AA.of b,rfl,rfl,_,rfl,B0 (by decide +kernel) ?_⟩;refine⟨_,rfl,t,_,_,_,rfl,rfl,AA.of b,rfl,rfl,_,rfl,B0 (by decide +kernel) ?_⟩;refine⟨_,rfl,t,_,_,_,rfl,rfl,AA.of b,rfl,rfl,_,rfl,B0 (by decide +kernel) ?_⟩;exact⟨_,rfl,_,rfl,t,_,_,_,rfl,rfl,AA.of b,rfl,_,rfl,t,_,_,_,rfl,rfl,AA.of b,rfl,a,tp,ns,lo,hi,rfl,g,Kr,by omega,hd.1,hd.2,c⟩
def TH:Aw ["self","deed","behind","loop"] ["self","deed"] (Ag U9):=by walk_at "z1"
def eU:∀ss R,(Pr A7 AM) ss R->ss.length=2:=by rintro _ _⟨s,s1,a,t,d,rfl,_,_,_,_,rfl⟩;rfl
def rO(F:AK K "follows_deed" "Course.follows_deed" U9 f fd)(n:Meth K A7 "follows_deed" f):
  EF P w K mg Zu A7 "follows_deed" 9 ["self","deed"] (Bh (Pr A7 AM)):=by
 refine⟨f,fd,F.B4 (k:=8) TH (λvs H Q E h=>Fz.GY eU h) (λAe A outer s H vs Q E hr h=>?_),(F.binds (by walk_at "bD2")),n,BB⟩
 refine⟨_,(AB rfl (lR rfl rfl (by rfl) UZ (λ_ _ _ g1=>by exact(AD rfl (Az 2 TH.nd (AV T9 hr (A0 (show QE _ _ (Jx K _ _)from D9 (qv 0)) (A0 (qv 1) A4)))))) (λ_=>by exact(AD rfl (AX CZ))))
   (AB rfl (Ca (J2 I0 rfl (G8 (CS (Xk rfl) Be (A0 (D9 (qv 0)) A4))) (C6 3 TH.nd) (AD rfl (DR (HN VO hr (by decide) (qv 0) (A0 (qv 3) (A0 (qv 1) A4)))))))
   (AB rfl (JU (qv 0) (qv 2))
   (AD rfl (AX CZ))))),?_⟩
 refine Fz.Jy h eU ?_;rintro _ _⟨s,s1,a,t,d,rfl,o,ok,hn,b,rfl⟩;obtain⟨dx,bS,aL,aS,us,BF,rfl⟩:=o;show Ws [_,_,.any,.any] _ _ _;have l1:=ok.l1;have u:=J3 ok.n1 ok.sub;have r:=ok.row.len;obtain⟨d',FR⟩:∃d',d.Is s.row d':=by
  unfold Fd at b;split at b
  .next d' e=>exact⟨d',RF e⟩
  .cases b
 rw[FR.1];refine An (wu (λ_=>True) (λ_=>False) (λE=>?_) (λOS x v q=>q.elim));letI:Xw:=MD E (λ_=>True) (λ_=>False);refine L3 (xn (JH (Lr rfl BB DI ⟨_,_,rfl,rfl,s.row,rfl,AS rfl ⟨d',rfl,FR.2,r,?_⟩⟩)));clear this;show Ws [.ow true (Bb s A7 a dx bS aL aS us),.is (dP d'),.own ((d'.done s.row).map .str),.any] _ _ _;have g:∀x,d'=.take x∨(∃i,d'=.move x i)->DX x:=by
  rintro x(rfl|⟨i,rfl⟩)
  .exact Jk (ok.row.nm x FR.2)
  .exact Jk (ok.row.nm x FR.2.1)
 refine An (Ep (KY (λ_ i AI=>∃(c:Slot)(t':OV),AI=[.ow true t',.is (dP d'),.own ((d'.done s.row).map .str),c]/\Cf (EK s d' i) A7 AM a t') (Kl (Il (EE (jY (IT rfl BB CB ⟨Ab s.ln,aL,_,rfl,by unfold Ab;rw[AW];omega,_,.inl ⟨rfl,?_⟩⟩)))))));rw[WV];refine⟨⟨_,_,rfl,dx,bS,aL,aS,us,BF,rfl⟩,?_,?_⟩
 .rintro i p AI j⟨c,t',rfl,FG⟩;rw[BG]at j;obtain⟨x,hx,rfl⟩:=Option.map_eq_some_iff.mp j;refine Nb ?_;obtain⟨ID,Uv,KU,KC,us',HW,rfl⟩:=id FG;refine U6 (i:=0) (Mw rfl (by decide +kernel) (De (AS rfl (De (AS rfl (Ft ⟨_,⟨s,a,_,d',i,x,rfl,FG,ok,hx,FR.2,g,hn,rfl⟩,?_⟩))))));rintro _ t2⟨rfl,Cp⟩;obtain⟨nk,D6,rfl⟩:=Cp.nd;exact⟨nk,D6,rfl,_,_,rfl,Cp⟩
 .rintro AI⟨c,t',rfl,FG⟩;rw[AW]at FG;obtain⟨ID,Uv,KU,KC,us',HW,rfl⟩:=FG;refine An (IK (i:=0) (t:=Bb (EK s d' s.ln.length) A7 a ID Uv KU KC us') (wI (i:=2) rfl λl=>CL rfl ⟨true,A7,ID,IY,a,_,rfl,rfl,BB,DI,by decide,by simp,?_⟩));rw[OV.EY];have m:s1=⟨d'.done s.row,s.ln,s.ll.map (Lp.led s.row d'),s.sn,CH s d' s.ln.length⟩:=by
   unfold Fd at b;rw[U1 FR]at b;exact(BL b).symm
  refine Dw (i:=0) rfl (Ce ⟨rfl,ID,l,KU,KC,us',?_,?_⟩)
  .rw[m];exact HW
  .rw[m,<- cR,<- l1];rfl
def ZBx:Aw ["self","entry"] ["self","entry"] (Ag T8):=by walk_at "z1"
def ZW:∀ss R,(Wv A7 AM) ss R->ss.length=2:=by rintro _ _⟨s,s1,a,t,e,rfl,_,_,_,_,_,rfl⟩;rfl
def ZAT(F:AK K "follows" "Course.follows" T8 f fd)(l:Meth K A7 "follows" f):
  EF P w K mg Zu A7 "follows" 10 ["self","entry"] (Bh (Wv A7 AM)):=by
 refine⟨f,fd,F.B4 (k:=9) ZBx (λvs H Q E h=>Fz.GY ZW h) (λAe A outer s H vs Q E hr h=>?_),(F.binds (by walk_at "bD2")),l,BB⟩
 refine⟨_,(AB rfl (Aj (Aa BO (AF AL (qv 1) A6) AY) (AD rfl (AX (HN YA hr (by decide) (qv 0) (A0 (AF AL (qv 1) A6) (A0 (AF AL (qv 1) A6) A4))))) Ao)
   (AB rfl (Aj (Aa BO (AF AL (qv 1) A6) AY) (AD rfl (AX (HN U7 hr (by decide) (qv 0) (A0 (AF AL (qv 1) A6) (A0 (AF AL (qv 1) A6) A4))))) Ao)
   (AB rfl (Aj (Aa BO (AF AL (qv 1) A6) AY) (AD rfl (AX (HN Wy hr (by decide) (qv 0) (A0 (AF AL (qv 1) A6) A4)))) Ao)
   (AD rfl (AX (HN Wc hr (by decide) (qv 0) (A0 (qv 1) A4))))))),?_⟩
 refine Fz.Jy h ZW ?_;rintro _ _⟨s,s1,a,t,e,rfl,c,ok,hs,hn,j,rfl⟩;obtain⟨dx,bS,aL,aS,us,BF,rfl⟩:=id c;show Ws [_,_] _ _ _;have nd:∀{o:Option Ls}{p:PV}{t':OV},o=some s1->Eo (λs t=>Cf s A7 AM a t) s o p t'->∃DV us',t'=.nd DV a us'/\(∃nk a us,t'=.nd nk a us)/\p=.bl true/\Cf s1 A7 AM a t':=λho h=>by
  rcases h with⟨s2,g,rfl,h⟩|⟨g,_⟩
  .rw[ho]at g;cases g;obtain⟨nk,us,e⟩:=h.nd;exact⟨nk,us,e,⟨nk,a,us,e⟩,rfl,h⟩
  .rw[ho]at g;cases g
 cases e with
 |Ig x r=>
  show Ws [_,.is (.tup [.str "begin",.str x,.str r])] _ _ _
  walk_at "ww"
  refine ED (by decide +kernel) ?_;refine MB (i:=0) rfl (Mw rfl (by decide +kernel) (De ?_))
  walk_at "ww"
  refine De ?_
  walk_at "ww"
  exact Ft ⟨_,⟨s,a,_,x,r,rfl,c,ok,hs.1,hs.2,hn,rfl⟩,λp t' h=>nd j h⟩
 |tell x y=>
  show Ws [_,.is (.tup [.str "tell",.str x,.str y])] _ _ _
  walk_at "ww"
  refine B0 (by decide +kernel) (B7 ?_)
  walk_at "ww"
  refine ED (by decide +kernel) ?_;refine MB (i:=0) rfl (Mw rfl (by decide +kernel) (De ?_))
  walk_at "ww"
  refine De ?_
  walk_at "ww"
  exact Ft ⟨_,⟨s,a,_,x,y,rfl,c,ok,hn,rfl⟩,λp t' h=>nd j h⟩
 |over x=>
  show Ws [_,.is (.tup [.str "over",.str x])] _ _ _
  walk_at "ww"
  refine B0 (by decide +kernel) (B7 ?_)
  walk_at "ww"
  refine B0 (by decide +kernel) (B7 ?_)
  walk_at "ww"
  refine ED (by decide +kernel) ?_;refine MB (i:=0) rfl (Mw rfl (by decide +kernel) (De ?_))
  walk_at "ww"
  exact Ft ⟨_,⟨s,a,_,x,rfl,c,ok,rfl⟩,λp t' h=>nd j h⟩
 |Gs d=>
  have m:∀(p:PV)(t':OV),p=.bl true/\Cf s1 A7 AM a t'->∃DV us',t'=.nd DV a us'/\(∃nk a us,t'=.nd nk a us)/\p=.bl true/\Cf s1 A7 AM a t':=λp t' h=>by
   obtain⟨nk,us,e⟩:=h.2.nd;exact⟨nk,us,e,⟨nk,a,us,e⟩,h⟩
  have b:∀nx,Ws [.ow true (Bb s A7 a dx bS aL aS us),.is (aP d)] (HJ (Lf A7 "follows_deed" (Bh (Pr A7 AM)) [] E0 (B1 0) (AU (B1 1) B5))) nx (.mt λp t'=>p=.bl true/\Cf s1 A7 AM a t'):=λnx=>MB (i:=0) rfl (Mw rfl (by decide +kernel) (De (AS rfl (Ft ⟨_,⟨s,s1,a,_,d,rfl,c,ok,hn,j,rfl⟩,m⟩))));show Ws [_,.is (aP d)] _ _ _;cases d with
  |_=>
   unfold aP at b ⊢;dsimp only at b ⊢
   walk_at "ww"
   refine B0 (by decide +kernel) (B7 ?_)
   walk_at "ww"
   refine B0 (by decide +kernel) (B7 ?_)
   walk_at "ww"
   refine B0 (by decide +kernel) (B7 ?_);exact b _
def RX:Aw ["row","log","course","number","entry"] ["row","log"] (Ag UD):=by walk_at "z1"
def fu:∀ss R,(Tq A7 AM) ss R->ss.length=2:=by rintro _ _⟨tp,ns,es,s,rfl,_,_,_,_,rfl⟩;rfl
def ZCG(F:AK K "course_of" "course_of" UD f fd)(m:mg "course_of"=some (.ref f)):
  A9 P w K mg Zu "course_of" 11 ["row","log"] (BN (Tq A7 AM)):=by
 refine A9.mk F (F.binds (by walk_at "bD2")) m (F.B4 (k:=10) RX (λvs H Q E h=>Fz.Gg fu h) (λAe A outer s H vs Q E hr h=>?_))
 refine⟨_,(AB rfl (Az 2 RX.nd (gk YC hr (by decide) Uj (A0 (qv 0) A4)))
   (AB rfl (Ca (J2 I0 rfl (ux rfl Y3 (A0 (qv 1) A4)) (Js rfl (Cu (C6 3 RX.nd) (Cu (C6 4 RX.nd) JL))) (AD rfl (Aj (Dh (Ed (HN Yo hr (by decide) (qv 2) (A0 (qv 4) A4)))) (AD rfl Hb) Ao))))
   (AD rfl (AX (qv 2))))),?_⟩
 refine Fz.GN h fu ?_;rintro _ _⟨tp,ns,es,t,rfl,hr,hs,hz,j,rfl⟩;show Ws [_,_,.any,.any,.any] _ _ _;refine An (Qv (bT (De (AS rfl (Ft λb e=>⟨_,⟨b,e,tp,ns,rfl,rfl⟩,?_⟩)))));rintro _ _⟨rfl,bS,aL,aS,rfl⟩;refine⟨rfl,_,_,rfl,?_⟩;show Ws [.is (PF tp (ns.map .str)),.is (.lst (es.map LE.P)),.ow false (Bb (CO ns) A7 b e bS aL aS []),.any,.any] _ _ _;refine An (Ep (KY (λ_ i AI=>∃(d s4:Slot)(t':OV)(s:Ls),AI=[.is (PF tp (ns.map .str)),.is (.lst (es.map LE.P)),.ow false t',d,s4]/\runs (CO ns) (es.take i)=some s/\Cf s A7 AM b t') (ZAQ (Il (AS rfl ⟨_,.inl ⟨rfl,rfl,?_⟩⟩)))));refine⟨⟨_,_,_,CO ns,rfl,rfl,e,bS,aL,aS,[],R2.nil,rfl⟩,?_,?_⟩
 .rintro i p AI n⟨d,s4,t',s,rfl,hR,c⟩;obtain⟨r,hx,rfl⟩:=ZCo n;rw[BG]at hx;obtain⟨l,a,rfl⟩:=Option.map_eq_some_iff.mp hx;have ok:=Vu (Vp hr) hR;have o:=Zx hR;have hi:=(List.getElem?_eq_some_iff.mp a).1;rw[CK]at o;have u:(CO ns).sn.length=0:=rfl;obtain⟨s',g⟩:=ZC9 j a hR;refine mS ⟨_,_,rfl,?_⟩;obtain⟨ID,Uv,KU,KC,us',HW,rfl⟩:=id c;refine dg (i:=2) (cn (gx (Mw rfl (by decide +kernel) (De (AS rfl (Ft ⟨_,⟨s,s',b,_,l,rfl,c,ok,hs l (Cr a),by omega,g,rfl⟩,?_⟩))))));rintro _ t2⟨rfl,Cp⟩;obtain⟨nk,D6,rfl⟩:=Cp.nd;refine⟨nk,D6,rfl,true,rfl,Cv (B7 ⟨_,_,_,s',rfl,?_,Cp⟩)⟩;obtain⟨GD,q⟩:=List.getElem?_eq_some_iff.mp a;rw[Sz GD,q,UH hR,g]
 .rintro AI⟨d,s4,t',s,rfl,hR,c⟩;rw[SX,AW,LP,j]at hR;cases hR;exact Zt (oF rfl ⟨b,c⟩)
def gH:Aw ["row","log","course"] ["row","log"] (Ag UR):=by walk_at "z1"
def dY : ∀ss R,YV ss R->ss.length=2:=by rintro _ _⟨tp,ns,es,s,rfl,_,_,_,_,rfl⟩;rfl
def oJ(F:AK K "state_behind" "state_behind" UR f fd)(m:mg "state_behind"=some (.ref f)):
  A9 P w K mg Zu "state_behind" 12 ["row","log"] (BN YV):=by
 refine A9.mk F (F.binds (by walk_at "bD2")) m (F.B4 (k:=11) gH (λvs H Q E h=>Fz.Gg dY h) (λAe A outer s H vs Q E hr h=>?_))
 refine⟨_,(AB rfl (Az 2 gH.nd (AV TY hr (A0 (qv 0) (A0 (qv 1) A4))))
   (AD rfl (AX (BV (A0 (D9 (qv 2)) (A0 (D9 (qv 2)) A4)))))),?_⟩
 refine Fz.GN h dY ?_;rintro _ _⟨tp,ns,es,s,rfl,hr,hs,hz,hR,rfl⟩;show Ws [_,_,.any] _ _ _;refine An (Qv (Nf (CP (AS rfl (CP (AS rfl (EA ⟨_,⟨tp,ns,es,s,rfl,hr,hs,hz,hR,rfl⟩,?_⟩)))))));rintro _⟨a,dx,bS,aL,aS,us,BF,rfl⟩;exact Zt (zv (i:=2) rfl (Lr rfl BB DI ⟨0,rfl,IT rfl BB CB ⟨1,rfl,by decide,bS,aL,rfl⟩⟩))
def EH:Aw ["script","some","told","held","turn","first","log","wrong","state","handed","row","found"] ["script"] (Ag Jp):=by walk_at "z1"
def mP:=Sc [(".0",.local),("found",.local),("state",.local),("_law_right",.globalImplicit)]
def mB:LW ["script","some","told","held","turn","first","log","wrong","state","handed","row","found"] (Ag Jp) mP ["found","state"] [] []:=⟨rfl,by decide +kernel,by decide +kernel,by decide +kernel,rfl,by decide +kernel,by decide +kernel,by decide +kernel,by decide +kernel⟩
def yU:=Sc [(".0",.local),("found",.local),("state",.local),("_law_right",.globalImplicit)]
def tH:LW ["script","some","told","held","turn","first","log","wrong","state","handed","row","found"] (Ag Jp) yU ["found","state"] [] []:=⟨rfl,by decide +kernel,by decide +kernel,by decide +kernel,rfl,by decide +kernel,by decide +kernel,by decide +kernel,by decide +kernel⟩
def ZA9(F:AK K "law" "law" Jp f fd)(m:mg "law"=some (.ref f)):
  DN P w K mg Zu G3 14 f fd ["script"] (P6 K):=by
 refine(F.B4 (k:=13) EH (λvs H Q E h=>by obtain⟨a,ns,rfl,_⟩:=h;rfl) (λAe A outer s H vs Q E hr h=>?_));refine⟨_,(AB rfl (Az 1 EH.nd (Fb (A0 (AV RM hr (A0 (qv 0) (A0 A6 A4))) (A0 (AV RM hr (A0 (uJ (qv 0) (Ea (ZBM xH A6))) (A0 A6 A4))) A4))))
   (AB rfl (Az 2 EH.nd (Fb A4))
   (AB rfl (Az 3 EH.nd (Fb A4))
   (AB rfl (Ca (J2 I0 rfl (Yf rfl Ho (A0 A6 A4)) (C6 4 EH.nd) (AD rfl (J2 I0 rfl (G8 (qv 1)) (Js rfl (Cu (C6 5 EH.nd) (Cu (C6 6 EH.nd) (Cu (C6 7 EH.nd) (Cu (C6 8 EH.nd) JL))))) (AB rfl (Az 9 EH.nd (CS IJ Be (A0 (qv 6) A4)))
   (AB rfl (Az 10 EH.nd (CS IJ Be (A0 (qv 5) A4)))
   (AB rfl (DR (HP JC T5 T7 Nj (qv 2) (A0 (BV (A0 (AV Mx hr (A0 (qv 10) (A0 (qv 9) A4))) (A0 (qv 8) A4))) A4)))
   (AB rfl (DR (HP JC T5 T7 Nj (qv 3) (A0 (BV (A0 (AV Mx hr (A0 (qv 10) (A0 (qv 9) A4))) (A0 (qv 8) A4))) A4)))
   (AD rfl (Aj (DQ (Aa (Fz.QD hr.units) (qv 9) (qv 6)) (FX (Aa (Fz.QD hr.units) (qv 10) (qv 5)))).pt (AD rfl (AX CZ)) Ao))))))))))
   (AB rfl (Aj (Dh (Ed (As (LU rfl) ET (A0 (ZO rfl mB (.cons (.cons .nil)) (λ_=>rfl) (λ_=>rfl) (G8 (B2 JW (qv 2) (qv 3))) (λ_ _ _ _=>by exact Mq) (λ_ _ _ _=>by exact(AV Mf hr (A0 (qv 0) (A0 (qv 1) A4))))) A4)))) (AD rfl (AX CZ)) Ao)
   (AB rfl (Ca (J2 I0 rfl (o5 (qv 2)) (Js rfl (Cu (C6 11 EH.nd) (Cu (C6 8 EH.nd) JL))) (AB rfl (DR (HP JC T5 T7 Nj (AF AL (qv 11) A6) (A0 AY A4)))
   (AD rfl (DR (tm (AF AL (qv 11) A6)))))))
   (AB rfl (Aj (Dh (Ed (As (LU rfl) ET (A0 (ZO rfl tH (.cons (.cons .nil)) (λ_=>rfl) (λ_=>rfl) (G8 (qv 3)) (λ_ _ _ _=>by exact Mq) (λ_ _ _ _=>by exact(AV Mf hr (A0 (qv 0) (A0 (qv 1) A4))))) A4)))) (AD rfl (AX CZ)) Ao)
   (AB rfl (Jh (AF EV (qv 1) A6) (Js rfl (Cu (C6 5 EH.nd) (Cu (C6 6 EH.nd) (Cu (C6 7 EH.nd) (Cu (C6 8 EH.nd) JL))))))
   (AB rfl (Aj (Dh (Ed (AV Mf hr (A0 (AV Mx hr (A0 (CS IJ Be (A0 (qv 5) A4)) (A0 (Fb A4) A4))) (A0 (cV (Nq AY (qv 5) (Nq AY NF h9)) rfl rfl (by simp) (by decide)) A4))))) (AD rfl (AX CZ)) Ao)
   (AD rfl (AX (AV Mf hr (A0 (AV Mx hr (A0 (CS J7 Bo (A0 (qv 5) A4)) (A0 (qv 6) A4))) (A0 (qv 8) A4)))))))))))))),?_⟩
 refine Fz.uz h ?_;intro sc Ou;show Ws [_,.any,.any,.any,.any,.any,.any,.any,.any,.any,.any,.any] _ _ _;refine An (L3 (Qi (HY (wp_call (rf rfl (CP (BQ (EA ⟨_,⟨sc,rfl,Ou,rfl⟩,?_⟩))))))));rintro _⟨ns,es,s,rfl,hr,hs,hz,hR,N⟩;have g1:Lg ns es s:=⟨hr,hs,hz,hR,N⟩;refine HY (wp_call (wC rfl (CP (BQ (EA ⟨_,⟨sc.reverse,rfl,by rw[LL];exact Ou,rfl⟩,?_⟩)))));rintro _⟨GO,Gw,s2,rfl,Qf,CU,Pn,S,Jb⟩;have g2:Lg GO Gw s2:=⟨Qf,CU,Pn,S,Jb⟩;clear hr hs hz hR N Qf CU Pn S Jb;refine HA ⟨by show 2<=100000;decide,?_⟩;refine KG 1 rfl ?_;refine An (Qv (dm (Nl ⟨by simp,λa=>?_⟩)));refine An (L3 (Qi (HA ⟨by decide,?_⟩)));refine An (Ep (KY (λ_ i AI=>∃(us:List OV)(ps:List PV)(s4 x t r q o Cn:Slot),AI=[.raw (Co K sc),.is (.lst [DB ns es s,DB GO Gw s2]),.ow false (.nd .lst a us),.own ps,s4,x,t,r,q,o,Cn,.any]/\Xu us/\L0 ps/\us.length<=2 * i/\ps.length<=2 * i) ?_))
 walk_at "ww"
 refine⟨by decide,by decide,⟨[],[],_,_,_,_,_,_,_,rfl,λu h=>absurd h B3,λu h=>absurd h B3,Bm _,Bm _⟩,?_,?_⟩
 .rintro i p AI z⟨us,ps,s4,x,t,r,q,o,Cn,rfl,B,Fp,O1,OE⟩;obtain⟨hi,rfl⟩:=gI z;refine Nb ?_;refine KY (λ_ j AI=>∃(us:List OV)(ps:List PV)(x t r q o Cn:Slot),AI=[.raw (Co K sc),.is (.lst [DB ns es s,DB GO Gw s2]),.ow false (.nd .lst a us),.own ps,.is (.int i),x,t,r,q,o,Cn,.any]/\Xu us/\L0 ps/\us.length<=2 * i+j/\ps.length<=2 * i+j) (Kl (Il (AS rfl ⟨_,.inl ⟨rfl,⟨us,ps,x,t,r,q,o,Cn,rfl,B,Fp,O1,OE⟩,?_,?_⟩⟩)))
  .rintro j p AI z⟨us,ps,x,t,r,q,o,Cn,rfl,B,Fp,O1,OE⟩;obtain⟨y,fs,w,rfl,g⟩:∃y fs w,p=DB y fs w/\Lg y fs w:=by
    rcases List.mem_cons.mp (Cr z)with h|h
    .exact⟨_,_,_,h,g1⟩
    .exact⟨_,_,_,List.mem_singleton.mp h,g2⟩
   have Y:j<2:=(List.getElem?_eq_some_iff.mp z).1;have G:RD w:=⟨g.ok,g.h5⟩;refine gf ⟨_,_,_,_,rfl,?_⟩;refine An (L3 (KI rfl (Jl (i:=6) rfl ?_)));refine KG 9 rfl ?_;refine An (L3 (KI rfl (Jl (i:=5) rfl ?_)));refine KG 10 rfl ?_;show Ws [.raw (Co K sc),.is (.lst [DB ns es s,DB GO Gw s2]),.ow false (.nd .lst a us),.own ps,.is (.int i),.is (.lst (y.map .str)),.is (.lst (fs.map LE.P)),.is .AE,.is (D2 w),.is (.lst (fs.map LE.P)),.is (.lst (y.map .str)),.any] _ _ _;refine An (ZZ (i:=2) (CL rfl ⟨false,a,us,rfl,rfl,by omega,qN (Gx (Nf (CP (AS rfl (CP (AS rfl (EA ⟨_,⟨false,y,fs,w,rfl,g.hr,g.hs,g.hz,g.hR,rfl⟩,?_⟩)))))))⟩));rintro _⟨b,c,rfl⟩;refine Gx (DU (AS rfl (Nl ⟨by simp,by simp,by show 2<=100000;decide,by simp,?_⟩)));rw[OV.EY];refine An (eW rfl (Lz (HY (Pp (Nf (CP (AS rfl (CP (AS rfl (EA ⟨_,⟨false,y,fs,w,rfl,g.hr,g.hs,g.hz,g.hR,rfl⟩,?_⟩))))))))));rintro _⟨b2,c2,rfl⟩;refine⟨rfl,?_⟩;rw[SY];refine HY (AS rfl (HA ⟨by show 2<=100000;decide,by omega,?_⟩));show Ws [.raw (Co K sc),.is (.lst [DB ns es s,DB GO Gw s2]),.ow false (.nd .lst a (us++[.tp [Ka w b c,.fz (D2 w)]])),.own (ps++[.tup [Nh w,D2 w]]),.is (.int i),.is (.lst (y.map .str)),.is (.lst (fs.map LE.P)),.is .AE,.is (D2 w),.is (.lst (fs.map LE.P)),.is (.lst (y.map .str)),.any] _ _ _;have M:=xG (K:=K) fs;have L:=dE K y;refine C2 (Fe (D0 (OJ (AS rfl (AS rfl ⟨M,M,_,rfl,B0 (by rw[Oy 40 M];decide) ?_⟩)))));refine D0 (OJ (AS rfl (AS rfl ⟨L,L,_,rfl,B0 (by rw[Oy 40 L];decide) (B7 ⟨_,_,_,_,_,_,_,_,rfl,λv I=>?_,λv I=>?_,by rw[Bu,N5];omega,by rw[Bu,N5];omega⟩)⟩)))
   .rcases List.mem_append.mp I with h|h
    .exact B v h
    .rw[List.mem_singleton.mp h];exact⟨w,b,c,rfl,G⟩
   .rcases List.mem_append.mp I with h|h
    .exact Fp v h
    .rw[List.mem_singleton.mp h];exact⟨w,rfl,G⟩
  .rintro AI⟨us,ps,x,t,r,q,o,Cn,rfl,B,Fp,O1,OE⟩;exact⟨us,ps,_,_,_,_,_,_,_,rfl,B,Fp,by have:[DB ns es s,DB GO Gw s2].length=2:=rfl;omega,by have:[DB ns es s,DB GO Gw s2].length=2:=rfl;omega⟩
 rintro AI⟨us,ps,s4,x,t,r,q,o,Cn,rfl,B,z,O1,OE⟩;rw[show(Jq (Int.toNat 2)).length=2 from rfl]at O1 OE;obtain⟨W,eq,X,lq⟩:=ZDO B;have right:∀{ss:List Slot}{xs:List PV}{te:TI}{k:PV->Prop},L0 xs->xs.length<=1000->k (.bl true)->(∀{k2:List PV->Prop},k2 xs->Wi ss te k2)->Wp ss (DD (λxs R Q=>∃p bs,xs=[V.ref p]/\AJ K R p (List.map V.bl bs)/\Q (V.bl (bs.all id)) R) (AU (Qw K 2 te [] M5 (C9 (BN Qn) [] E0 (AU (B1 0) (AU (B1 1) B5)))) B5)) k:=λ{ss xs te k}hU J C hw=>by
  refine Vn rfl (BS (EE (pk (λ_=>true) (λ_=>.bl true) (hw ⟨by omega,(λp z=>by
   obtain⟨s,rfl,D⟩:=hU p z;exact⟨_,rfl,rfl,fF rfl,λ_=>wp_call (CP (AS rfl (CP (AS rfl (EA ⟨_,⟨s,k3,_,rfl,rfl,rfl,D.1.n1,D.1.l1,D.2,D.1.row.len,rfl⟩,λ_ h=>h⟩)))))⟩),?_⟩))))
  refine⟨_,.inl ⟨rfl,rfl,xs.map (λ_=>true),by rw[List.filter_eq_self.mpr λ_ _=>rfl,Gp];rfl,?_⟩⟩;rw[show(xs.map (λ_=>true)).all id=true from List.all_eq_true.mpr λb σ=>by obtain⟨_,_,rfl⟩:=List.mem_map.mp σ;rfl];exact C
 refine An (C2 (wA 2 rfl ?_));rw[show(OV.nd .lst a us).pv=.lst W by rw[OV.pv,eq]];refine G6 (Dk (right (yd X z) (by rw[Bu];omega) ⟨true,rfl,B0 (by decide) (B7 ?_)⟩ λ{k2}C=>Kl (Il (EE (gA (Jl (i:=2) rfl ⟨rfl,j9 (i:=3) rfl ⟨rfl,by omega,_,.inl ⟨rfl,C⟩⟩⟩))))));refine An (Ep (kz (i:=2) (a0:=a) us.length (λn AI=>∃(us':List OV)(q ND:Slot),AI=[.raw (Co K sc),.is (.lst [DB ns es s,DB GO Gw s2]),.ow false (.nd .lst a us'),.own ps,s4,x,t,r,q,o,Cn,ND]/\us'.length=us.length/\∀(j:Nat)u,n<=j->us'[j]?=some u->∃s b c,u=.tp [Ka s b c,.fz (D2 s)]/\RD s) ⟨us,_,_,rfl,rfl,λj u _ h=>B u (Cr h)⟩ ?_ ?_))
 .rintro n AI hn⟨us',q,ND,rfl,J,Ij⟩;refine⟨false,us',rfl,J,λAc=>?_⟩;have e0:=BA (show n<us'.length by omega);obtain⟨w,b,c,ew,G⟩:=Ij n _ (Ap _) e0;rw[ew]at e0;unfold Ka at e0;have U:=G.1.row.len;refine⟨_,e0,pe ?_⟩;show Ws [.raw (Co K sc),.is (.lst [DB ns es s,DB GO Gw s2]),.ow false (.nd .lst a us'),.own ps,s4,x,t,r,.is (D2 w),o,Cn,.raw (MK b c)] _ _ _;refine An (ZZ (i:=2) (zN (j:=11) (b:=b) (c:=c) (p:=[n,0,0]) (nk:=.lst) (us:=(w.row.map PV.str).map .fz) rfl rfl ?_ ⟨false,b,_,rfl,rfl,by rw[AW,AW];omega,DU (FN ⟨B3,?_⟩)⟩))
  .exact(jV e0).1
  rw[ZBn e0];have O:(us'.set n (.tp [.tp [.nd .lst b ((w.row.map PV.str).map .fz++[.fz (.str "a")]),.nd (.Ai (Ab w.ln)) c (Ba w.ll)],.fz (D2 w)]))[n]?=some (.tp [.tp [.nd .lst b ((w.row.map PV.str).map .fz++[.fz (.str "a")]),.nd (.Ai (Ab w.ln)) c (Ba w.ll)],.fz (D2 w)]):=Cq (by omega);show Ws [.raw (Co K sc),.is (.lst [DB ns es s,DB GO Gw s2]),.ow false (.nd .lst a (us'.set n (.tp [.tp [.nd .lst b ((w.row.map PV.str).map .fz++[.fz (.str "a")]),.nd (.Ai (Ab w.ln)) c (Ba w.ll)],.fz (D2 w)]))),.own ps,s4,x,t,r,.is (D2 w),o,Cn,.raw (MK b c)] _ _ _;refine kY (i:=2) (kI (j:=11) (b:=b) (c:=c) (p:=[n,0,1]) (nk:=.Ai (Ab w.ln)) (us:=Ba w.ll) rfl rfl (jV O).2 ⟨false,c,_,_,rfl,rfl,?_⟩);rw[OV.Hl O,PX];refine⟨_,_,_,rfl,by rw[LM];exact J,λj u Y h=>?_⟩;rw[Cb (by omega)]at h;exact Ij j u (by omega) h
 rintro AI⟨us',T,ND,rfl,_,_⟩;refine KG 3 rfl ?_;refine An (C2 (G6 (Dk (right z (by omega) ⟨true,rfl,B0 (by decide) (B7 ?_)⟩ λ{k2}C=>Kl (Il (AS (i:=3) rfl ⟨_,.inl ⟨rfl,C⟩⟩))))));refine An (iS (gn (Jl (i:=1) rfl ⟨rfl,BQ ⟨_,_,rfl,rfl,gf ⟨_,_,_,_,rfl,?_⟩⟩⟩)));show Ws [.raw (Co K sc),.is (.lst [DB ns es s,DB GO Gw s2]),.ow false (.nd .lst a us'),.is (.lst ps),s4,.is (.lst (ns.map .str)),.is (.lst (es.map LE.P)),.is .AE,.is (D2 s),o,Cn,ND] _ _ _;refine An (C2 (G6 (Dk (wp_call (CP (Pp (Nf (CP (EE (KI rfl (Jl (i:=5) rfl (CP (EE (Qi (HA ⟨by decide,EA ⟨_,⟨false,ns,[],CO ns,rfl,g1.hr,λe h=>absurd h B3,Bm _,rfl,rfl⟩,?_⟩⟩)))))))))))))));rintro _⟨b,c,rfl⟩;refine⟨rfl,?_⟩;rw[SY];refine CP (Pp (pK (by decide +kernel) (Gx (DU (AS rfl (Gx (Nr λd=>Nl ?_)))))));refine⟨by simp,by simp,rfl,λl=>⟨rfl,?_⟩⟩;rw[OV.pv,OV.Bg,OV.Bg,OV.Bg,OV.pv,OV.pv,PU,OV.Bg];refine EA ⟨_,⟨CO ns,_,_,rfl,rfl,rfl,LN,rfl,Bm _,g1.hr.len,rfl⟩,?_⟩;rintro _ rfl;refine⟨true,rfl,B0 (by decide) (B7 ?_)⟩;refine FQ (wp_call (CP (Pp (Nf (CP (VX rfl (Jl (i:=5) rfl (CP (AS rfl (EA ⟨_,⟨true,ns,es,s,rfl,g1.hr,g1.hs,g1.hz,g1.hR,rfl⟩,?_⟩))))))))));rintro _⟨b,c,rfl⟩;refine⟨rfl,?_⟩;rw[SY];exact CP (AS rfl (EA ⟨_,⟨s,k3,_,rfl,rfl,rfl,g1.ok.n1,g1.ok.l1,g1.h5,g1.ok.row.len,rfl⟩,λ_ h=>h⟩))
def all_mk{h:Heap}{fa f1 f2 f3 f4 f5 f6 f7 f8 f9 iq Zp cQ c7 jM fE iZ eR ba aX bj cy iu bU gy bc Sj Sh da cq gr SU Se gm dW cD RY Sa dh cO bR ZJ gp di QY bV fA bb Zl jQ dN ak iT QH SJ iJ fJ eM:Addr}{g1 g2 g3 g4 g5 g6 g7 g8 g9 xX xW qB zr o4 sf g16 lI g18 g19 zi g21 ua kT y8 g25 qw sI rC u5 oC kR g32 xQ xA qp pj sS qc g39 zt pM ke pA g44 xa ya qK m6 g49 oU zE sF pd zF g55 g56 r8:FuncData}(X:K.In h)(G:h.Ns mainGlobals mg)(tV:mg "law"=some (.ref fa))
  
  (yk:PySem.W.nsIn K mainGlobals "Course"=some (some (.ref A7)))
  (nP:PySem.W.plainGet K A7 Str.empty=true)
  (ZBz:PySem.W.hasDictIn K A7=true)
  (nD:PySem.W.plainOver K A7=true)
  (u6:PySem.W.findIn K (.ref A7) "__setattr__"=some (some (.builtin "object.__setattr__")))
  (tq:PySem.W.makesIn K A7=true)
  (kH:PySem.W.keepIn K (.ref A7)=true)
  (r9:PySem.W.nsIn K mainGlobals "Tally"=some (some (.ref AM)))
  (rg:PySem.W.plainGet K AM Str.empty=true)
  (wY:PySem.W.hasDictIn K AM=true)
  (xJ:PySem.W.plainOver K AM=true)
  (zX:PySem.W.findIn K (.ref AM) "__setattr__"=some (some (.builtin "object.__setattr__")))
  (tw:PySem.W.makesIn K AM=true)
  (rq:PySem.W.keepIn K (.ref AM)=true)
  (CB:PySem.W.findIn K (.ref A7) "running"=some none)
  (DI:PySem.W.findIn K (.ref A7) "standing"=some none)
  (Fq:PySem.W.findIn K (.ref A7) "tallies"=some none)
  (N0:PySem.W.findIn K (.ref AM) "joined"=some none)
  (WZ:PySem.W.findIn K (.ref AM) "stood"=some none)
  (Mt:PySem.W.findIn K (.ref AM) "taken"=some none)
  (La:PySem.W.findIn K (.ref AM) "told"=some none)
  (a1:nS K "_law_texts" (.ref f1)) (F1:AK K "_law_texts" "_law_texts" Pz f1 g1)
  (a2:nS K "_law_whole" (.ref f2)) (F2:AK K "_law_whole" "_law_whole" Yc f2 g2)
  (a3:nS K "_law_is_loop" (.ref f3)) (F3:AK K "_law_is_loop" "_law_is_loop" Vj f3 g3)
  (a4:nS K "_law_right" (.ref f4)) (F4:AK K "_law_right" "_law_right" Q8 f4 g4)
  (a5:nS K "_law_pot" (.ref f5)) (F5:AK K "_law_pot" "_law_pot" Vy f5 g5)
  (a6:nS K "_law_take" (.ref f6)) (F6:AK K "_law_take" "_law_take" Ui f6 g6)
  (a7:nS K "_law_letters" (.ref f7)) (F7:AK K "_law_letters" "_law_letters" UC f7 g7)
  (a8:nS K "_law_name" (.ref f8)) (F8:AK K "_law_name" "_law_name" Th f8 g8)
  (a9:nS K "_law_names" (.ref f9)) (F9:AK K "_law_names" "_law_names" TR f9 g9)
  (a10:nS K "_law_row" (.ref iq)) (F10:AK K "_law_row" "_law_row" TC iq xX)
  (qT:nS K "_law_deed" (.ref Zp)) (mm:AK K "_law_deed" "_law_deed" Xb Zp xW)
  (zx:nS K "_law_rule" (.ref cQ)) (lz:AK K "_law_rule" "_law_rule" UA cQ qB)
  (kU:nS K "_law_step" (.ref c7)) (wR:AK K "_law_step" "_law_step" NU c7 zr)
  (a14:nS K "_law_good_entry" (.ref jM)) (vw:AK K "_law_good_entry" "_law_good_entry" UJ jM o4)
  (a15:nS K "_law_done" (.ref fE)) (uU:AK K "_law_done" "_law_done" QF fE sf)
  (uf:nS K "_law_is_name" (.ref iZ)) (wU:AK K "_law_is_name" "_law_is_name" RV iZ g16)
  (a17:nS K "_law_deed_right" (.ref eR)) (zk:AK K "_law_deed_right" "_law_deed_right" TZ eR lI)
  (rV:nS K "_law_gap" (.ref ba)) (zA:AK K "_law_gap" "_law_gap" Ya ba g18)
  (xv:nS K "_law_led" (.ref aX)) (F19:AK K "_law_led" "_law_led" RU aX g19)
  (yE:nS K "_law_counted" (.ref bj)) (mG:AK K "_law_counted" "_law_counted" WC bj zi)
  (nL:nS K "_law_stirred" (.ref cy)) (zO:AK K "_law_stirred" "_law_stirred" VA cy g21)
  (lX:nS K "_law_begun" (.ref iu)) (lE:AK K "_law_begun" "_law_begun" VG iu ua)
  (tI:nS K "_law_begins" (.ref bU)) (qQ:AK K "_law_begins" "_law_begins" XD bU kT)
  (a24:nS K "_law_goes" (.ref gy)) (ko:AK K "_law_goes" "_law_goes" Rx gy y8)
  (qU:nS K "_law_log" (.ref bc)) (ze:AK K "_law_log" "_law_log" Tb bc g25)
  (mN:PySem.W.findIn K (.ref A7) "__init__"=some (some (.ref Sj))) (zJ:AK K "__init__" "Course.__init__" Yn Sj qw)
  (zM:PySem.W.isFn K (.ref Sj)=true)
  (zL:PySem.W.findIn K (.ref AM) "__init__"=some (some (.ref Sh))) (F27:AK K "__init__" "Tally.__init__" Vr Sh sI)
  (uq:PySem.W.isFn K (.ref Sh)=true)
  (a28:nS K "check_rule" (.ref da)) (tX:AK K "check_rule" "check_rule" U2 da rC)
  (nQ:nS K "begun" (.ref cq)) (vb:AK K "begun" "begun" WL cq u5)
  (z9:nS K "is_name" (.ref gr)) (mL:AK K "is_name" "is_name" QM gr oC)
  (uu:PySem.W.findIn K (.ref A7) "follows_begin"=some (some (.ref SU))) (b8:AK K "follows_begin" "Course.follows_begin" XQ SU kR)
  (nK:PySem.W.isFn K (.ref SU)=true)
  (a32:PySem.W.findIn K (.ref A7) "coming"=some (some (.ref Se))) (eZ:AK K "coming" "Course.coming" WO Se g32)
  (ZDK:PySem.W.isFn K (.ref Se)=true)
  (x3:nS K "coming_without" (.ref gm)) (tW:AK K "coming_without" "coming_without" SI gm xQ)
  (pZ:nS K "place_of" (.ref dW)) (F34:AK K "place_of" "place_of" XO dW xA)
  (wZ:nS K "loop_telling" (.ref cD)) (kP:AK K "loop_telling" "loop_telling" V1 cD qp)
  (qY:PySem.W.findIn K (.ref A7) "follows_tell"=some (some (.ref RY))) (fY:AK K "follows_tell" "Course.follows_tell" VJ RY pj)
  (oH:PySem.W.isFn K (.ref RY)=true)
  (yK:PySem.W.findIn K (.ref A7) "follows_over"=some (some (.ref Sa))) (br:AK K "follows_over" "Course.follows_over" Ut Sa sS)
  (sW:PySem.W.isFn K (.ref Sa)=true)
  (kW:nS K "gap_behind_put" (.ref dh)) (F38:AK K "gap_behind_put" "gap_behind_put" U5 dh qc)
  (nC:nS K "gap_behind_take" (.ref cO)) (zo:AK K "gap_behind_take" "gap_behind_take" WK cO g39)
  (vz:nS K "gap_led" (.ref bR)) (pF:AK K "gap_led" "gap_led" TK bR zt)
  (kQ:nS K "joins" (.ref ZJ)) (z4:AK K "joins" "joins" VR ZJ pM)
  (sT:nS K "coming_behind" (.ref gp)) (tJ:AK K "coming_behind" "coming_behind" WU gp ke)
  (a43:nS K "loop_led" (.ref di)) (nA:AK K "loop_led" "loop_led" YZ di pA)
  (a44:PySem.W.findIn K (.ref A7) "lead"=some (some (.ref QY))) (ig:AK K "lead" "Course.lead" Xr QY g44)
  (lu:PySem.W.isFn K (.ref QY)=true)
  (qZ:nS K "check_put" (.ref bV)) (F45:AK K "check_put" "check_put" XG bV xa)
  (a46:nS K "check_move" (.ref fA)) (sC:AK K "check_move" "check_move" Ye fA ya)
  (oX:nS K "check_turn" (.ref bb)) (vd:AK K "check_turn" "check_turn" Vh bb qK)
  (xE:nS K "check_deed" (.ref Zl)) (zf:AK K "check_deed" "check_deed" Wd Zl m6)
  (su:nS K "row_turned" (.ref jQ)) (sR:AK K "row_turned" "row_turned" W2 jQ g49)
  (a50:nS K "row_with" (.ref dN)) (yV:AK K "row_with" "row_with" XH dN oU)
  (ki:nS K "row_without" (.ref ak)) (uH:AK K "row_without" "row_without" Sf ak zE)
  (a52:nS K "done" (.ref iT)) (xx:AK K "done" "done" TU iT sF)
  (a53:PySem.W.findIn K (.ref A7) "follows_deed"=some (some (.ref QH))) (ah:AK K "follows_deed" "Course.follows_deed" U9 QH pd)
  (mR:PySem.W.isFn K (.ref QH)=true)
  (a54:PySem.W.findIn K (.ref A7) "follows"=some (some (.ref SJ))) (cv:AK K "follows" "Course.follows" T8 SJ zF)
  (vW:PySem.W.isFn K (.ref SJ)=true)
  (a55:nS K "course_of" (.ref iJ)) (pL:AK K "course_of" "course_of" UD iJ g55)
  (sD:nS K "state_behind" (.ref fJ)) (nh:AK K "state_behind" "state_behind" UR fJ g56)
  (fZ:nS K "law" (.ref eM)) (dQ:AK K "law" "law" Jp eM r8)
  (qu:nN K "all")
  (tN:nN K "bool")
  (ZC4:nN K "dict")
  (we:nN K "enumerate")
  (uC:nN K "int")
  (wx:nN K "isinstance")
  (ml:nN K "len")
  (ZBr:nN K "list")
  (tM:nN K "max")
  (vD:nN K "min")
  (xB:nN K "range")
  (ZD9:nN K "reversed")
  (ou:nN K "sorted")
  (ZAm:nN K "str")
  (uN:nN K "tuple")
  (uo:nS K "LETTERS" (.str "abcdefghijklmnopqrstuvwxyz" Yq))
  (p0:nS K "MOST_LETTERS" (.int 8 Y1))
  (ZAH:nS K "MOST_THINGS" (.int 40 WJ))
  (yb:nS K "RULES" (.ref Fn))
  {nV:Option Addr}{ZBL:Array (Option Value)}{ZBe:Nat}{zS mE x5:Tok}(nR:K.lookup Fn=some ⟨.type "tuple", nV,.seq #[.str "none" zS,.str "ahead" mE,.str "all" x5] ZBe,ZBL⟩)
  (mW:nS K "StirError" (.ref Ny))
  : ∃fd:FuncData,(∀(s:Shared)(v:Value),BindsTo s fd ⟨[v],[]⟩ [("script", v)])/\∀Zu:Heap,K.In Zu->Zu.Ns mainGlobals mg->DN l.prog w K mg Zu G3 14 fa fd ["script"] (P6 K):=by
 have e:=tV.symm.trans (B6 X G fZ);cases e;have BB:Bt K A7:=⟨nP,ZBz,nD,u6⟩;have Fu:Bt K AM:=⟨rg,wY,xJ,zX⟩;have pq:Mk K A7 Sj:=⟨tq,mN,zM,kH⟩;have uh:Mk K AM Sh:=⟨tw,zL,uq,rq⟩;have mJ:Meth K A7 "follows_begin" SU:=⟨uu,nK,b8.kp⟩;have zB:Meth K A7 "coming" Se:=⟨a32,ZDK,eZ.kp⟩;have tZ:Meth K A7 "follows_tell" RY:=⟨qY,oH,fY.kp⟩;have ZBj:Meth K A7 "follows_over" Sa:=⟨yK,sW,br.kp⟩;have mf:Meth K A7 "lead" QY:=⟨a44,lu,ig.kp⟩;have og:Meth K A7 "follows_deed" QH:=⟨a53,mR,ah.kp⟩;have xq:Meth K A7 "follows" SJ:=⟨a54,vW,cv.kp⟩;have ET:=Fg X G qu;have WN:=Fg X G tN;have Yj:=Fg X G ZC4;have Y3:=Fg X G we;have HB:=Fg X G uC;have ER:=Fg X G wx;have Ak:=Fg X G ml;have Be:=Fg X G ZBr;have UY:=Fg X G tM;have Tc:=Fg X G vD;have Ho:=Fg X G xB;have Lx:=Fg X G ZD9;have DZ:=Fg X G ou;have Mo:=Fg X G ZAm;have Bo:=Fg X G uN;have XY:=B6 X G uo;have V2:=B6 X G p0;have Ve:=B6 X G ZAH;have MY:=B6 X G yb;have Lv:∀H,AA K H Fn [.str "none",.str "ahead",.str "all"]:=λH=>.inr ⟨_,_,_,nR,rfl,rfl,(by show 3<=sizeLine;decide +kernel),(.cons ⟨_,rfl⟩ (.cons ⟨_,rfl⟩ (.cons ⟨_,rfl⟩ .nil)))⟩;have Uj:=B6 X G yk;have UZ:=B6 X G mW;have YH:=B6 X G r9;obtain⟨_,_,kV,dc,pm,an,cd,ct,_,rfl,_,_⟩:=id dQ.ex;refine⟨PySem.W.fnOf "law" "law" (P4 Jp) (K4 Jp) (Ag Jp) .none kV dc pm an cd ct,λs v=>.of_eq rfl,λZu _ _=>?_⟩;have WI:=xo (P:=l.prog) (w:=w) (Zu:=Zu) ET ER Be Mo F1 (B6 X G a1);have Vq:=tU (P:=l.prog) (w:=w) (Zu:=Zu) ER WN HB F2 (B6 X G a2);have WQ:=xl ER Mo Vq Ak Bo F3 (B6 X G a3);have Mf:=xV ET ER Ak Bo WQ WI Yj DZ F4 (B6 X G a4);have Q6:=mC (P:=l.prog) (w:=w) (Zu:=Zu) Ak F5 (B6 X G a5);have BX:=mT (P:=l.prog) (w:=w) (Zu:=Zu) F6 (B6 X G a6);have P8:=oA (P:=l.prog) (w:=w) (Zu:=Zu) F7 (B6 X G a7);have IH:=yi Ak P8 BX F8 (B6 X G a8);have YD:=oz IH Ho F9 (B6 X G a9);have Ur:=ZBi BX YD F10 (B6 X G a10);have W0:=uO Ak BX IH mm (B6 X G qT);have V7:=nE BX lz (B6 X G zx);have Ts:=ZAi (P:=l.prog) (w:=w) (Zu:=Zu) Bo wR (B6 X G kU);have Ud:=ZCg Be Ak DZ BX IH W0 V7 Ts vw (B6 X G a14);have UO:=vJ (P:=l.prog) (w:=w) (Zu:=Zu) Be Lx uU (B6 X G a15);have Mb:=oq (P:=l.prog) (w:=w) (Zu:=Zu) ET Ak wU (B6 X G uf);have YS:=zI Ak Mb zk (B6 X G a17);have U8:=ur (P:=l.prog) (w:=w) (Zu:=Zu) HB zA (B6 X G rV);have Yr:=x9 Bo DZ U8 F19 (B6 X G xv);have KP:=ZBo (P:=l.prog) (w:=w) (Zu:=Zu) mG (B6 X G yE);have YB:=oS Be Ak KP YS UO Yr zO (B6 X G nL);have Te:=rK (P:=l.prog) (w:=w) (Zu:=Zu) Bo DZ lE (B6 X G lX);have Yd:=ZB8 Ak Mb Te qQ (B6 X G tI);have XX:=ZBN Bo KP Yd YB ko (B6 X G a24);have RM:=pW Be HB Ak BX Ho XX Ud Q6 Ur UY Tc ze (B6 X G qU)
 have YC:=ZDA (P:=l.prog) (w:=w) (mg:=mg) (Zu:=Zu) (A7:=A7) (AM:=AM) Be BB CB DI Fq zJ pq;have X9:=x8 (P:=l.prog) (w:=w) (mg:=mg) (Zu:=Zu) (AM:=AM) Fu N0 WZ Mt La F27 uh;have Wh:=yZ (P:=l.prog) (w:=w) (Zu:=Zu) MY Lv tX (B6 X G a28);have Vz:=ZCa Bo DZ Wh vb (B6 X G nQ);have Lo:=oV (P:=l.prog) (w:=w) (Zu:=Zu) ET Ak XY V2 mL (B6 X G z9);have YA:=uV (P:=l.prog) (w:=w) (mg:=mg) (Zu:=Zu) (A7:=A7) (AM:=AM) Ak BB CB DI Fq MY Lv X9 Vz Lo YH b8 mJ;have Gz:=pJ (P:=l.prog) (w:=w) (mg:=mg) (Zu:=Zu) (A7:=A7) BB CB eZ zB;have Mp:=uP (P:=l.prog) (w:=w) (Zu:=Zu) Bo tW (B6 X G x3);have G7:=ZBf (P:=l.prog) (w:=w) (Zu:=Zu) F34 (B6 X G pZ);have VN:=nZ Mp G7 kP (B6 X G wZ);have U7:=tu (P:=l.prog) (w:=w) (mg:=mg) (Zu:=Zu) (A7:=A7) (AM:=AM) BB CB DI Fq Fu La Gz VN fY tZ;have Wy:=qA (P:=l.prog) (w:=w) (mg:=mg) (Zu:=Zu) (A7:=A7) (AM:=AM) Ak BB CB Gz br ZBj;have QN:=xg (P:=l.prog) (w:=w) (Zu:=Zu) F38 (B6 X G kW);have QL:=rR (P:=l.prog) (w:=w) (Zu:=Zu) zo (B6 X G nC);have Uq:=xM G7 QN QL pF (B6 X G vz);have WA:=ZB3 (P:=l.prog) (w:=w) (Zu:=Zu) z4 (B6 X G kQ);have W3:=oQ Bo DZ Mp WA tJ (B6 X G sT);have X1:=wG W3 Uq nA (B6 X G a43);have VO:=ZBI (P:=l.prog) (w:=w) (mg:=mg) (Zu:=Zu) (A7:=A7) (AM:=AM) Ak BB CB DI Fq Fu N0 Mt Gz X1 ig mf;have V8:=r6 Ak Lo Ve F45 (B6 X G qZ);have WH:=ZAB Ak G7 sC (B6 X G a46);have VM:=wL (P:=l.prog) (w:=w) (Zu:=Zu) Ak vd (B6 X G oX);have YX:=m9 G7 WH V8 VM zf (B6 X G xE);have Um:=ZBC (P:=l.prog) (w:=w) (Zu:=Zu) Be Lx sR (B6 X G su);have Pl:=yF (P:=l.prog) (w:=w) (Zu:=Zu) Be yV (B6 X G a50);have Rl:=ZAo (P:=l.prog) (w:=w) (Zu:=Zu) uH (B6 X G ki);have T9:=qE YX Um Pl Rl xx (B6 X G a52);have Wc:=rO (P:=l.prog) (w:=w) (mg:=mg) (Zu:=Zu) (A7:=A7) (Ny:=Ny) (AM:=AM) Be BB CB DI VO T9 UZ ah og;have Yo:=ZAT (P:=l.prog) (w:=w) (mg:=mg) (Zu:=Zu) (A7:=A7) (AM:=AM) BB YA Wc Wy U7 cv xq;have TY:=ZCG (A7:=A7) (AM:=AM) YC Yo Y3 Uj pL (B6 X G a55);have Mx:=oJ (A7:=A7) (AM:=AM) BB CB DI TY nh (B6 X G sD);exact ZA9 ET Be Bo Ho RM Mf Mx dQ (B6 X G fZ)
def walk{q:Program}{loose:List Str}{XP:(ZEg)->Heap->Prop}{YP:World->Heap->Prop}{d:DefRec}{K:Params->ZEe}(hn:l.most=some 63)(Om:d.params.defaults=[])
  (hY:∀(w:World)(h:Heap),YP w h->(K w.params).In h)
  (F:∀(w:World)(mg:ZEg)(fa:Addr)(h:Heap),(K w.params).In h->h.Ns mainGlobals mg->mg d.name=some (.ref fa)->
   ∃fd:FuncData,(∀(s:Shared)(u:Value),BindsTo s fd ⟨[u],[]⟩ [("script", u)])/\∀Zu:Heap,(K w.params).In Zu->Zu.Ns mainGlobals mg->DN l.prog w (K w.params) mg Zu G3 14 fa fd ["script"] (P6 (K w.params))) :
  PySem.W.WalkO q loose XP YP l.row.toRowW d [] (λf vs=>PySem.call f vs):=
 L2.ZA4 (n:=63) (k:=14) (x:="script") (CX:=λ_=>G3) (sp:=λw=>P6 (K w.params)) hn (by decide) Om ⟨rfl,by decide,by decide⟩ hY F (λ_ _ a ns hl _ hS=>⟨a,ns,rfl,hS,hl,λ_=>rfl⟩) λ_ _ _ _ _ z=>z
end Pf
open PySem.W
local macro_rules | `(tactic| walk_at "kF")=>`(tactic| (refine' L2.ZCy ?_ ?_ ?_;all_goals try k_is;all_goals k_is))
set_option maxRecDepth 100000 in
set_option maxHeartbeats 0 in
theorem PySem.Challenge.cw_stirround_k22_what_stands_behind_holds : PySem.Challenge.rw_stirround_k22_what_stands_behind.Holds := by
 w_on;o_law;k_head;(case hw=>w_witness2)
 k_fill
 refine Pf.walk (l:=PySem.Challenge.rw_stirround_k22_what_stands_behind) rfl rfl (λw h Y=>PySem.W.kIn_of Y) ?F
 case F=>
  intro w mg fa h KX G Nc;refine' Pf.all_mk KX G Nc ?_ ?_ ?_ ?_ ?_ ?_ ?_ ?_ ?_ ?_ ?_ ?_ ?_ ?_ ?_ ?_ ?_ ?_ ?_ ?_ ?_ ?_ ?_ ?_ ?_ ?_ ?_ ?_ ?_ ?_ ?_ ?_ ?_ ?_ ?_ ?_ ?_ ?_ ?_ ?_ ?_ ?_ ?_ ?_ ?_ ?_ ?_ ?_ ?_ ?_ ?_ ?_ ?_ ?_ ?_ ?_ ?_ ?_ ?_ ?_ ?_ ?_ ?_ ?_ ?_ ?_ ?_ ?_ ?_ ?_ ?_ ?_ ?_ ?_ ?_ ?_ ?_ ?_ ?_ ?_ ?_ ?_ ?_ ?_ ?_ ?_ ?_ ?_ ?_ ?_ ?_ ?_ ?_ ?_ ?_ ?_ ?_ ?_ ?_ ?_ ?_ ?_ ?_ ?_ ?_ ?_ ?_ ?_ ?_ ?_ ?_ ?_ ?_ ?_ ?_ ?_ ?_ ?_ ?_ ?_ ?_ ?_ ?_ ?_ ?_ ?_ ?_ ?_ ?_ ?_ ?_ ?_ ?_ ?_ ?_ ?_ ?_ ?_ ?_ ?_ ?_ ?_ ?_ ?_ ?_ ?_ ?_ ?_ ?_ ?_ ?_ ?_ ?_ ?_ ?_ ?_ ?_ ?_ ?_ ?_ ?_ ?_ ?_ ?_ ?_
  any_goals first|k_is|(show _=_;k_is)|kernel_rfl|walk_at "kF"
#print axioms PySem.Challenge.cw_stirround_k22_what_stands_behind_holds
