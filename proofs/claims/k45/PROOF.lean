import PyProof.Rows.All
import Wide.All
import OpenK.AllK
import PySem.Challenge.RW_stirround_k45_lines_judged
set_option genSizeOf false
set_option linter.all false
set_option compiler.extract_closed false
set_option bootstrap.genMatcherCode false
noncomputable section
def dP:=@PySem.wpAny_bind
def k4:=@PySem.wpAny_pure
def kc:=@decide_eq_true
def mD:=@if_neg
def oO:=@decide_eq_false
def p7:=@if_pos
def pU:=@of_decide_eq_true
def pZ:=@congrArg
def qJ:=@PySem.wpAny_setState_of
def qO:=@decide_eq_true_eq
def qP:=@PySem.wpAny_mono
def qY:=@PySem.wpAny_holding
def qf:=@PySem.wpAny_call_entry
def r6:=@PySem.wpAny_newObj_type
def rB:=@PySem.wpAny_askSetting
def rC:=@PySem.wpAny_of_eq
def rG:=@PySem.wpAny_setEntries_of
def rQ:=@PySem.codeAny_builtin
def rl:=@PySem.wpAny_callSpecial?_slot
def sI:=@PySem.wpAny_truthy_bool
def sg:=@PySem.fits_of_scanBound
def su:=@or_false
def tG:=@PySem.wpAny_storeSet_of
def tK:=@PySem.wpAny_setEpoch_of
def uU:=@PySem.wpAny_Call_Name_kw
def uh:=@PySem.wpAny_isInstance
def vh:=@beq_self_eq_true
def wB:=@PySem.isSubtype_type
def xU:=@PySem.wpAny_rule
def xX:=@PySem.wpAny_setField
def xY:=@PySem.wpAny_pyIter_tuple
def xt:=@decide_eq_true_iff
def xy:=@PySem.wpAny_passesOwn
def z9:=@PySem.wpAny_pyIter_list
def zH:=@PySem.wpAny_field
def zN:=@PySem.codeAny_mono
def zj:=@PySem.wpAny_setField_rec
def zo:=@PySem.wpAny_attempt
def ZA2:=@PySem.plainId_quiet
def ZA4:=@PySem.sizeLine_eq
def ZA6:=@PySem.wpAny_seqItems
def ZA7:=@PySem.lookup_relabel_local
def ZAD:=@decide_eq_false_iff_not
def ZAE:=@PySem.wpAny_runValue
def ZAI:=@PySem.wpAny_pyIter_enum
def ZAJ:=@PySem.builtinLookup_eq_fast
def ZAO:=@beq_iff_eq
def ZAQ:=@PySem.wpAny_pyIter_zip
def ZAT:=@PySem.wpAny_newList
def ZAW:=@PySem.wpAny_updateSeq
def ZAb:=@PySem.wpAny_ite_split
def ZAj:=@PySem.wpAny_execs_nil
def ZAm:=@PySem.wpAny_typeOf
def ZAo:=@PySem.wpAny_load
def ZAs:=@PySem.wpAny_newTuple
def ZAt:=@PySem.wpAny_fieldsOf
def ZB0:=@PySem.isSubtype_stop
def ZB1:=@PySem.entryFor_alias
def ZB4:=@PySem.tupleKind_room_in1
def ZB7:=@PySem.wpAny_letOwnedTupleGo_enum
def ZB8:=@PySem.wpAny_letOwnedTupleGo_zip
def ZB9:=@PySem.wpAny_pyIter_slot
def ZBL:=@PySem.wpAny_setScan_of
def ZBQ:=@PySem.wpAny_forIn_list
def ZBU:=@PySem.noFill_tuple_add
def ZBV:=@not_or
def ZBY:=@PySem.wpAny_specialOf
def ZBc:=@PySem.typeLookup_type
def ZBd:=@PySem.codeAny_of_tree
def ZBo:=@if_true
def ZBp:=@if_false
def AA:=@List.length_map
def AQ:=@List.getElem?_eq_getElem
def AS:=@List.getElem?_map
def AU:=@PySem.Heap.lt_size
def Aa:=@Nat.le_refl
def Aj:=@PySem.Heap.get?_push_of_some
def An:=@Nat.ne_of_lt
def Ar:=@List.mem_cons_self
def Az:=@List.length_cons
def B1:=@PySem.Heap.get?_push_size
def BF:=@List.length_append
def BG:=@List.mem_cons_of_mem
def BH:=@List.not_mem_nil
def BS:=@PySem.W.mg_of
def BW:=@Option.some.inj
def Bc:=@List.mem_of_getElem?
def Bh:=@Ne.symm
def Bm:=@Nat.zero_le
def Bt:=@List.append_assoc
def Bu:=@List.size_toArray
def C2:=@PySem.Heap.size_push
def C5:=@List.mem_append_right
def C9:=@Array.length_toList
def CJ:=@List.map_map
def CK:=@List.mem_cons
def CL:=@Nat.le_trans
def CS:=@Nat.lt_of_lt_of_le
def Cc:=@List.length_range
def Cj:=@List.length_take
def Cr:=@List.getElem?_set_ne
def Cs:=@List.map_append
def DG:=@List.map_cons
def DH:=@Nat.le_succ
def DN:=@Bool.and_eq_true
def DO:=@Bool.false_ne_true
def DP:=@List.getElem?_set_self
def DQ:=@Nat.ne_of_gt
def Dk:=@List.getElem?_append_left
def Dl:=@List.length_drop
def Dm:=@List.mem_append_left
def EB:=@PySem.PassesOwn.never
def Ei:=@List.take_length
def Ej:=@Nat.lt_succ_of_lt
def FI:=@PySem.Heap.SameBut.update
def FJ:=@List.nodup_append
def Fe:=@List.getElem?_append_right
def Ff:=@PySem.W.mg_none_of
def GF:=@Bool.true_and
def GG:=@Int.toNat_natCast
def GH:=@List.append_nil
def Gq:=@List.Perm.refl
def Gr:=@List.all_eq_true
def Gs:=@List.getElem_mem
def Gu:=@Nat.le_of_lt
def Hf:=@Bool.eq_iff_iff
def Hg:=@List.length_set
def Hh:=@List.nodup_nil
def IG:=@Array.getElem?_eq_getElem
def IH:=@Bool.and_false
def II:=@PySem.Heap.get?_update_self
def IJ:=@List.getD_eq_getElem?_getD
def IK:=@Nat.lt_of_le_of_lt
def IL:=@Nat.lt_succ_self
def IM:=@PySem.W.kia_one
def IP:=@PySem.mem_of_lookup
def JN:=@Classical.byContradiction
def JO:=@List.lookup_cons
def JP:=@List.take_succ_eq_append_getElem
def JQ:=@Nat.le_add_right
def JR:=@Nat.succ.inj
def JS:=@PySem.Obj.data_mapFields
def JT:=@PySem.Value.isStrOf_shape
def KJ:=@PySem.Around.under_plainId
def KL:=@PySem.Heap.get?_update_other
def KN:=@Int.emod_lt_of_pos
def KO:=@Int.emod_nonneg
def KP:=@List.getElem?_eq_none
def KQ:=@List.length_erase_of_mem
def KR:=@List.length_nil
def KS:=@List.mem_singleton
def KU:=@Nat.le_of_eq
def Lm:=@Array.getElem?_toList
def Ln:=@PySem.Heap.SameBut.refl
def Lq:=@List.any_eq_true
def Lr:=@Nat.le_succ_of_le
def Lu:=@Option.map_some
def Lv:=@PyProof.Rows.callWith_type1
def Lx:=@PySem.F.plainAttrs_list
def N3:=@List.any_cons
def N4:=@List.foldl_cons
def N5:=@List.getElem?_range
def N6:=@Nat.lt_irrefl
def PJ:=@PySem.Around.in1_handled
def PK:=@Bool.eq_false_iff
def PL:=@Int.toNat_of_nonneg
def PM:=@List.all_map
def PN:=@List.ext_getElem?
def PQ:=@List.find?_cons
def PR:=@List.length_filter_le
def PU:=@List.mem_append
def PX:=@List.mem_erase_of_ne
def PY:=@List.take_of_length_le
def PZ:=@Nat.le_of_lt_succ
def Pa:=@Nat.not_lt_of_le
def Pb:=@Nat.sub_self
def Pd:=@Nat.zero_add
def Pe:=@Option.some.injEq
def Ph:=@PyProof.Rows.F.plain_set_update_loop
def Pj:=@PySem.F.slot_list_append
def Pk:=@PySem.F.type_list_append
def Sz:=@Bool.and_true
def T1:=@Bool.false_and
def T2:=@List.all_cons
def T3:=@List.drop_eq_getElem_cons
def T4:=@List.ext_getElem
def T5:=@List.forIn_nil
def T6:=@List.length_pos_of_mem
def T7:=@List.length_singleton
def T8:=@List.map_nil
def T9:=@List.mem_of_mem_take
def TB:=@List.mem_range
def TC:=@List.of_mem_zip
def TF:=@List.set_cons_succ
def TH:=@List.set_set
def TJ:=@PySem.Obj.isFreed_of_fields
def YG:=@Array.getElem?_eq_none
def YH:=@Array.size_map
def YI:=@Bool.false_or
def YJ:=@PySem.F.plain_list_iadd
def YK:=@PySem.F.slot_set_iter
def YL:=@PySem.F.slot_tuple_iterator_next
def YM:=@PySem.Heap.get?_update_ne
def YN:=@PySem.Heap.size_update
def YO:=@Int.eq_ofNat_of_zero_le
def YQ:=@List.any_map
def YR:=@List.concat_eq_append
def YS:=@List.cons_append
def YT:=@List.cons_lt_cons_iff
def YU:=@List.eq_nil_or_concat
def YV:=@List.forIn_cons
def YW:=@List.map_congr_left
def YX:=@List.map_drop
def YY:=@List.map_set
def YZ:=@List.mem_filter
def Ya:=@List.mem_of_mem_drop
def Yb:=@List.nil_append
def Yc:=@List.pairwise_map
def Ye:=@List.take_append_drop
def Yf:=@List.zip_cons_cons
def Yg:=@Nat.le_of_not_lt
def Yh:=@Nat.le_total
def Yi:=@Nat.lt_trans
def Yj:=@Nat.min_eq_left
def Yk:=@Nat.min_eq_right
def Yl:=@Nat.mod_lt
def Ym:=@Nat.sub_zero
def Yn:=@PySem.Obj.cls_mapFields
def Yo:=@Prod.ext
def Yp:=@PyProof.Rows.F.entry_set_update_loop
def Yq:=@PySem.strKind_is
def Yr:=@PySem.Walks.list
def j8:=@Array.getD_eq_getD_getElem?
def j9:=@Array.toList_append
def jA:=@Array.toList_push
def jB:=@Bool.or_false
def jC:=@Classical.choose_spec
def jD:=@PySem.Code.quiet_builtin
def jE:=@List.Pairwise.sublist
def jF:=@List.drop_length
def jG:=@List.drop_zero
def jH:=@List.filterMap_cons
def jI:=@List.filter_append
def jJ:=@List.getElem?_replicate
def jK:=@List.getElem?_take_of_lt
def jL:=@List.getLast?_concat
def jM:=@List.length_replicate
def jN:=@List.length_zip
def jO:=@List.map_id
def jP:=@List.set_cons_zero
def jQ:=@List.take_add_one
def jR:=@List.take_sublist
def jS:=@PySem.MeetsSeq2.wpAny_forIn_array
def jT:=@Nat.min_self
def jU:=@Nat.pow_succ
def jV:=@Nat.succ_pos
def jW:=@Nat.two_pow_pos
def jX:=@Option.isSome_map
def jY:=@PySem.Paired.length
def jZ:=@PySem.F.args_tuple_add_2
def ja:=@PySem.F.entry_tuple_add
def jb:=@PySem.F.slot_tuple_add
def ZCE:=@Array.eq_empty_of_size_eq_zero
def ZCF:=@Array.forIn_toList
def ZCG:=@Array.toArray_toList
def ZCH:=@Array.toList_extract
def ZCI:=@Array.toList_filterMap
def ZCJ:=@Bool.not_eq_true'
def ZCK:=@PySem.Calls.Name_function_global
def ZCL:=@PySem.Calls.callWith_builtin
def ZCM:=@PySem.Calls.call_function_entry
def ZCN:=@PySem.F.args_tuple_iterator_next_1
def ZCO:=@PySem.F.entry_tuple_iterator_next
def ZCP:=@Int.lt_of_le_of_lt
def ZCQ:=@Int.natCast_nonneg
def ZCR:=@List.Pairwise.imp
def ZCS:=@List.Sublist.refl
def ZCT:=@List.dropLast_eq_take
def ZCU:=@List.filterMap_append
def ZCV:=@List.filterMap_cons_some
def ZCW:=@List.filter_cons_of_neg
def ZCX:=@List.filter_cons_of_pos
def ZCY:=@List.flatten_append
def ZCZ:=@List.flatten_cons
def ZCa:=@List.foldl_append
def ZCb:=@List.getElem?_toArray
def ZCc:=@List.getElem_drop
def ZCd:=@List.getElem_inj
def ZCe:=@List.length_eraseIdx_of_lt
def ZCf:=@List.length_zipIdx
def ZCg:=@List.map_inj_right
def ZCh:=@List.mem_filterMap
def ZCi:=@List.nil_sublist
def ZCj:=@List.pairwise_lt_range
def ZCk:=@List.pairwise_singleton
def ZCl:=@List.perm_middle
def ZCm:=@List.replicate_succ
def ZCn:=@List.set_append_right
def ZCo:=@List.sublist_append_left
def ZCp:=@List.zip_nil_right
def ZCq:=@Nat.eq_zero_or_pos
def ZCr:=@Nat.le_of_succ_le
def ZCs:=@Nat.lt_of_lt_of_eq
def ZCt:=@Nat.lt_or_eq_of_le
def ZCu:=@Nat.lt_trichotomy
def ZCv:=@Option.bind_some
def ZCw:=@Option.getD_none
def ZCx:=@Option.getD_some
def ZCy:=@Option.isSome_some
def ZCz:=@PySem.F.entry_set_init
def ZD0:=@PySem.F.entry_type_call
def ZD1:=@PySem.F.plain_extend_loop
def ZD2:=@PySem.F.plain_set_new
def ZD3:=@PySem.F.slot_list_insert
def ZD4:=@PySem.F.sub_list_frozenset
def ZD5:=@PySem.F.sub_list_set
def ZD6:=@PySem.F.typeCall_set_1
def ZD7:=@PySem.W.cellsFrom_some
def ZD8:=@PySem.W.codeHd_of_K
def ZD9:=@PySem.W.kitx_dict
def ZDA:=@PySem.W.kitx_list
def ZDB:=@PySem.SeqAt.RcNeAt.lists_lengths
def ZDC:=@PySem.SeqAt.eq_list_lengthsAt
open PySem PySem.Spec PyProof.Rows
abbrev ZDv:=PySem.W.Frag
abbrev ZDw:=(List (Addr×Obj))
abbrev ZDx:=(Str->Option Value)
namespace PySem.W.Fast
def t:=Nat
def tw1263809973411694060:=t
def tw16952018934886581196:=t
def tw13802330900737134513:=t
def tw18332563038298485290:=t
def tw2791791553881130895:=t
def tw17153385067757295044:=t
def tw15735805395830027331:=t
def tw17943795312624034742:=t
def tw2957194301342129185:=t
def tw9808076782754662768:=t
def tw7252105162543312991:=t
def tw1137742203668642239:=t
def tw16329722686903443714:=t
def tw16918748484630483880:=t
def tw8903322253514947723:=t
def tw7897758037124536399:=t
def tw12253561678858455777:=t
def tw4061954521893270802:=t
def tw11137394907011763277:=t
def tw4313490392874172950:=t
def tw8941123710902452526:=t
def tw10917792185277706553:=t
def tw16367829915170846056:=t
def tw5697919861563672444:=t
def tw3276351357984818151:=t
def tw15494280396287087392:=t
end PySem.W.Fast
set_option Elab.async false
set_option maxRecDepth 100000
namespace L2
variable{α κ:Type}{C a b dx it:Addr}{c cd u:Value}{w:World}{Zl h':Heap}{name qual x:Str}{e tg:Expr}{j3 Zd:ZDw}{s s':Shared}{g':Array GenState}{i j n t' tk:Nat}{d':Drawn}{ch fp:List Addr}{N ks ps:List Str}{M:Model}{A:Around}{E Q:Value->Shared->Prop}{es rest:List Expr}{ZDr pos:Pos}{op:CmpOp}{f:Value->Value->Sem Value}{ds us:List Value}{mA mg:ZDx}{fd:FuncData}{outer:List Env}{sc scope:Scope}
abbrev Key:=Sum Int Str
noncomputable def MC:Key->Value->Bool
 | .inl k,v=>Value.isInt k v
 | .inr x,v=>Value.isStrOf x v
noncomputable def yS(w:World):Key->Int
 | .inl k=>hashInt k
 | .inr x=>hashStr w x
theorem Io:∀{k:Key}{v:Value},MC k v=true->(∃i t,k=Sum.inl i/\v=Value.int i t)∨(∃x t,k=Sum.inr x/\v=Value.str x t)
 | .inl i,v,h=>by
  obtain⟨t,e⟩:=Value.isInt_shape (k:=i) (v:=v) h;exact .inl ⟨i,t,rfl,e⟩
 | .inr x,v,h=>by
  obtain⟨t,e⟩:=JT (x:=x) (v:=v) h;exact .inr ⟨x,t,rfl,e⟩
theorem lC(i:Int)(t:Tok):MC (.inl i) (.int i t)=true:=by simp[MC,Value.isInt]
theorem yx(x:Str)(t:Tok):MC (.inr x) (.str x t)=true:=by simp[MC,Value.isStrOf]
theorem nX(a b:Int):decide ((Sum.inl a:Key)=Sum.inl b)=(a == b):=by
 by_cases e:a=b
 .subst e;simp
 .have h:¬ (Sum.inl a:Key)=Sum.inl b:=λq=>e (Sum.inl.inj q);rw[oO h];exact(beq_eq_false_iff_ne.mpr e).symm
theorem v9(a b:Str):decide ((Sum.inr a:Key)=Sum.inr b)=decide (a=b):=by
 by_cases e:a=b
 .subst e;simp
 .have h:¬ (Sum.inr a:Key)=Sum.inr b:=λq=>e (Sum.inr.inj q);rw[oO h,oO e]
theorem ZBv(a:Int)(b:Str):decide ((Sum.inl a:Key)=Sum.inr b)=false:=oO (λq=>nomatch q)
theorem vv(a:Str)(b:Int):decide ((Sum.inr a:Key)=Sum.inl b)=false:=oO (λq=>nomatch q)
def Fu(prog:Program)(w:World):PySem.KeyKind prog w Key where
 is:=MC
 hash:=yS w
 inj:=λv a b g d=>by
  rcases Io g with⟨i,t,rfl,rfl⟩|⟨x,t,rfl,rfl⟩
  .rcases Io d with⟨j,u,rfl,e⟩|⟨y,u,rfl,e⟩
   .injection e with e1 _;rw[e1]
   .exact nomatch e
  .rcases Io d with⟨j,u,rfl,e⟩|⟨y,u,rfl,e⟩
   .exact nomatch e
   .injection e with e1 _;rw[e1]
 byValue:=λk v h=>by
  rcases Io h with⟨i,t,rfl,rfl⟩|⟨x,t,rfl,rfl⟩ <;> rfl
 pyHash:=λc h=>by
  rcases Io c with⟨i,t,rfl,rfl⟩|⟨x,t,rfl,rfl⟩
  .exact wpAny_pyHash_int h
  .exact wpAny_pyHash_str h
 eqBool:=λf c h=>by
  rcases Io f with⟨i,t,rfl,rfl⟩|⟨x,t,rfl,rfl⟩
  .rcases Io c with⟨j,u,rfl,rfl⟩|⟨y,u,rfl,rfl⟩
   .rw[nX]at h;exact wpAny_eqBool_int h
   .rw[ZBv]at h;exact SeqAt.EqAt.int_str i t y u _ _ _ _ h
  .rcases Io c with⟨j,u,rfl,rfl⟩|⟨y,u,rfl,rfl⟩
   .rw[vv]at h;exact SeqAt.EqAt.str_int x t j u _ _ _ _ h
   .rw[v9]at h;exact wpAny_eqBool_str h
 «strs»:=λk x t v h=>by
  rcases Io h with⟨i,u,rfl,e⟩|⟨y,u,rfl,e⟩
  .exact nomatch e
  .injection e with e1 _
   subst e1;cases v <;> rfl
theorem zr(prog:Program)(w:World)(i:Int)(t:Tok):(Fu prog w).is (.inl i) (.int i t)=true:=lC i t
theorem ph(prog:Program)(w:World)(x:Str)(t:Tok):(Fu prog w).is (.inr x) (.str x t)=true:=yx x t
inductive V where
 |A9|bl (b:Bool)|int (i:Int)|str (x:Str)|Hb (b:Array UInt8)|M3 (b:UInt64)|ref (a:Addr)|ty (n:String)
 deriving DecidableEq
variable{v:V}{K3 vs:List V}
def RelV:V->Value->Prop
 | .A9,u=>u=Value.none
 | .bl b,u=>u=Value.bool b
 | .int i,u=>∃t,u=Value.int i t
 | .str x,u=>∃t,u=Value.str x t
 | .Hb b,u=>∃t,u=Value.bytes b t
 | .M3 b,u=>∃t,u=Value.float b t
 | .ref a,u=>u=Value.ref a
 | .ty n,u=>u=Value.type n
abbrev Vals:List V->List Value->Prop:=Paired RelV
theorem Vals.length{xs:List V}{us:List Value}(r:Vals xs us):xs.length=us.length:=jY r
theorem Vals.get:∀{xs:List V}{us:List Value}{i:Nat}{x:V},Vals xs us->xs[i]?=some x->∃u,us[i]?=some u/\RelV x u
 |_,_,_,_,.nil,e=>by simp at e
 |_,_,0,_,.cons r _,e=>by simp at e;subst e;exact⟨_,rfl,r⟩
 |_,_,i+1,x,.cons _ t,e=>by
  obtain⟨u,h1,h2⟩:=Vals.get (i:=i) (x:=x) t (by simpa using e)
  exact⟨u,by simpa using h1,h2⟩
theorem Vals.set{x:V}{u:Value}(r:RelV x u):∀{xs:List V}{us:List Value}(i:Nat),Vals xs us->Vals (xs.set i x) (us.set i u)
 |_,_,_,.nil=>.nil
 |_,_,0,.cons _ t=>.cons r t
 |_,_,i+1,.cons q t=>.cons q (Vals.set r i t)
theorem Vals.append:∀{xs ys:List V}{us ws:List Value},Vals xs us->Vals ys ws->Vals (xs++ys) (us++ws)
 |_,_,_,_,.nil,s=>s
 |_,_,_,_,.cons r t,s=>.cons r (Vals.append t s)
theorem Vals.take:∀{xs:List V}{us:List Value}(n:Nat),Vals xs us->Vals (xs.take n) (us.take n)
 |_,_,0,_=>.nil
 |_,_,_+1,.nil=>.nil
 |_,_,n+1,.cons r t=>.cons r (Vals.take n t)
theorem Vals.drop:∀{xs:List V}{us:List Value}(n:Nat),Vals xs us->Vals (xs.drop n) (us.drop n)
 |_,_,0,r=>r
 |_,_,_+1,.nil=>.nil
 |_,_,n+1,.cons _ t=>Vals.drop n t
def Gx:Option V->Option Value->Prop
 |some v,some u=>RelV v u
 |none,none=>True
 |_,_=>False
def KV:List (κ×V)->List (κ×Value)->Prop:=Paired λ(p:κ×V)(q:κ×Value)=>p.1=q.1/\RelV p.2 q.2
noncomputable def kV:Key->V
 | .inl i=>.int i
 | .inr x=>.str x
inductive Tb where
 |tab (pos:Pos) (q:Str)
 |JC (q:Str)
inductive HO where
 /-- a list -/
 |lst (xs:List V)
 /-- a tuple (never changes) -/
 |tup (xs:List V)
 /-- a dict ZB6 keys are ints and texts;one ZB6 keys are tuples of ints and texts (Jd empty one is both) -/
 |dK (AD:List (Key×V))|dT (AD:List (List Key×V))
 /-- a set of ints: A3 members,A3 size -/
 |set (S:Int->Bool) (n:Nat)
 /-- an instance of Jd class at C,A3 dict at dx,A3 attributes -/
 |ins (C dx:Addr) (fs:List (Str×V))
 /-- Jd dict of Jd instance at x -/
 |own (x:Addr)
 /-- Jd dict of an exception -/
 |xd (fs:List (Str×V))
 /-- a bound method,f of x -/
 |met (f x:Addr)
 /-- a range object lo,lo+1,.. below hi -/
 |Wj (lo hi:Int)
 /-- a kW ZDY is known to Jd object (Jd ZDe;a dict while a loop walks it): read,never written while it is so -/
 |FQ (o:Obj) (u:HO)
 /-- a code ZDd table,a code in it -/
 |CC (t:Tb)
 /-- any other kW,by kT is true of A3 one object (a def of ZDO own: vN a S n:=HO.ext λh=>..) -/
 |ext (φ:Heap->Prop)
variable{o o':HO}
abbrev Hp:=Addr->Option HO
variable{H H':Hp}
inductive MH where
 |tup (xs:List V)
 |CC (t:Tb)
noncomputable def MH.ho:MH->HO
 | .tup xs=>.tup xs
 | .CC t=>.CC t
noncomputable def upd(H:Hp)(a:Addr)(o:HO):Hp:=λb=>if b=a then some o else H b
theorem AZ:upd H a o a=some o:=by unfold upd;rw[p7 rfl]
theorem AY(h:b≠a):upd H a o b=H b:=by unfold upd;rw[mD h]
theorem zB{u:HO}(h:H a=some o)(h':H b=some u)(d:o≠u):a≠b:=by
 intro e;subst e;rw[h]at h';exact d (BW h')
theorem Dx(h:H a=some o)(h':H b=none):a≠b:=by
 intro e;subst e;rw[h]at h';cases h'
section
variable(P:Program)(w:World)
def Bx(H:Hp)(h:Heap)(a:Addr):HO->Prop
 | .lst xs=>xs.length<=sizeLine/\∃(A3:List Value)(n:Nat),Vals xs A3/\h.get? a=some { cls:=.type "list", data:=.seq A3.toArray n }
 | .tup xs=>xs.length<=sizeLine/\∃A3:List Value,Vals xs A3/\(IsTup h a A3.toArray/\∀d,h.get? a=some d->d.dict=none)
 | .dK AD=>AD.length<=sizeLine/\(a == sysModules)=false/\∃vs,KV AD vs/\h.DictOf (Fu P w) a vs
 | .dT AD=>AD.length<=sizeLine/\(a == sysModules)=false/\∃xs:List (List Key×Addr×Value),
   Paired (λ(p:List Key×V)(q:List Key×Addr×Value)=>p.1=q.1/\H q.2.1=some (.tup (p.1.map kV))/\RelV p.2 q.2.2) AD xs/\
   ∃o es ep,h.get? a=some o/\o.ExactDict/\o.data=.dict es ep/\es.toList=xs.map (entryOfKey (tupleKind (Fu P w)))/\(xs.map (·.1)).Nodup
 | .set S n=>h.SetOf (intKind P w) a S n
 | .ins C dx fs=>H dx=some (.own a)/\fs.length<=1000/\dx≠a/\h.get? a=some (PySem.W.instObj C dx)/\
   ∃mA,h.Ns1 dx mA/\(∀f,Gx (fs.lookup f) (mA f))/\PySem.Within mA (fs.map (·.1))
 | .own _=>∃o,h.get? a=some o
 | .xd fs=>∃mA,h.Ns1 a mA/\∀f,Gx (fs.lookup f) (mA f)
 | .Wj lo hi=>∃t u v,h.get? a=some { cls:=.type "range", data:=.fields #[.int lo t,.int hi u,.int 1 v] }
 | .FQ o u=>h.get? a=some o/\Bx H h a u
 | .CC (.tab pos q)=>∃ps:Array Value,h.get? a=some { cls:=.none,data:=.fields ps }/\TriplesOk ps.toList/\∀e,codeAmong pos ps.toList=some e->∃c,e=.ref c/\H c=some (.CC (.JC q))
 | .CC (.JC q)=>∃b vs t,h.get? a=some b/\b.data=.fields vs/\vs[1]?=some (.str q t)
 | .met f x=>h.get? a=some (PySem.W.methodObj (.ref f) (.ref x))
 | .ext φ=>φ h/\(∃o,h.get? a=some o)/\∀h1 h2:Heap,φ h1->(∀o,h1.get? a=some o->h2.get? a=some o)->φ h2
def CA(H:Hp)(h:Heap):Prop:=∀a o,H a=some o->Bx P w H h a o
end
section
variable{P:Program}{h:Heap}
theorem Bx.lt(x:Bx P w H h a o):a<h.objs.size:=by
 cases o with
 |lst xs=>obtain⟨_,_,_,_,e⟩:=x;exact AU e
 |tup xs=>obtain⟨_,_,_,p⟩:=x;exact p.1.lt
 |dK AD=>obtain⟨_,_,_,_,o,_,_,e,_⟩:=x;exact AU e
 |dT AD=>obtain⟨_,_,_,_,o,_,_,e,_⟩:=x;exact AU e
 |set S n=>obtain⟨o,_,_,_,e,_⟩:=x;exact AU e
 |ins C dx fs=>obtain⟨_,_,_,e,_⟩:=x;exact AU e
 |own y=>obtain⟨_,e⟩:=x;exact AU e
 |xd fs=>obtain⟨_,⟨_,_,_,e,_⟩,_⟩:=x;exact AU e
 |Wj lo hi=>obtain⟨_,_,_,e⟩:=x;exact AU e
 |FQ b u=>obtain⟨e,_⟩:=x;exact AU e
 |CC t=>
  cases t with
  |tab pos q=>obtain⟨_,e,_⟩:=x;exact AU e
  |JC q=>obtain⟨_,_,_,e,_⟩:=x;exact AU e
 |met f y=>exact AU (show h.get? a=some _ from x)
 |ext φ=>obtain⟨_,⟨_,e⟩,_⟩:=x;exact AU e
theorem Paired.UC{α β:Type}{F G:α->β->Prop}:∀{l₁:List α}{l₂:List β},Paired F l₁ l₂->(∀a b,F a b->G a b)->Paired G l₁ l₂
 |_,_,.nil,_=>.nil
 |_,_,.cons r t,f=>.cons (f _ _ r) (Paired.UC t f)
theorem Bx.GO(x:Bx P w H h a o)(k:∀b u,(b=a∨H b=some (.own a))->h.get? b=some u->h'.get? b=some u)
  (ho:∀b,H b=some (.own a)->H' b=some (.own a)) (j:∀b(x:MH),H b=some x.ho->H' b=some x.ho):Bx P w H' h' a o:=by
 induction o with
 |lst xs=>obtain⟨z,A3,n,r,e⟩:=x;exact⟨z,A3,n,r,k _ _ (.inl rfl) e⟩
 |tup xs=>obtain⟨z,A3,r,⟨g,e,c⟩,D⟩:=x;exact⟨z,A3,r,⟨g,k _ _ (.inl rfl) e,c⟩,λY0 l=>by rw[k _ _ (.inl rfl) e]at l;cases l;exact D _ e⟩
 |dK AD=>obtain⟨z,y,vs,r,g,es,ep,e,c⟩:=x;exact⟨z,y,vs,r,g,es,ep,k _ _ (.inl rfl) e,c⟩
 |dT AD=>
  obtain⟨z,y,xs,r,g,es,ep,e,c⟩:=x;exact⟨z,y,xs,Paired.UC r λp q z=>⟨z.1,j _ (.tup _) z.2.1,z.2.2⟩,g,es,ep,k _ _ (.inl rfl) e,c⟩
 |set S n=>obtain⟨g,es,ep,t,e,c⟩:=x;exact⟨g,es,ep,t,k _ _ (.inl rfl) e,c⟩
 |ins C dx fs=>
  obtain⟨d,z,ne,e,mA,⟨i,es,ep,B,c⟩,r⟩:=x;exact⟨ho _ d,z,ne,k _ _ (.inl rfl) e,mA,⟨i,es,ep,k _ _ (.inr d) B,c⟩,r⟩
 |own y=>obtain⟨g,e⟩:=x;exact⟨g,k _ _ (.inl rfl) e⟩
 |xd fs=>obtain⟨mA,⟨i,es,ep,e,c⟩,r⟩:=x;exact⟨mA,⟨i,es,ep,k _ _ (.inl rfl) e,c⟩,r⟩
 |Wj lo hi=>obtain⟨t,u,v,e⟩:=x;exact⟨t,u,v,k _ _ (.inl rfl) e⟩
 |FQ g u s=>obtain⟨e,q⟩:=x;exact⟨k _ _ (.inl rfl) e,s q⟩
 |CC t=>
  cases t with
  |tab pos q=>obtain⟨ps,e,ok,c⟩:=x;exact⟨ps,k a _ (.inl rfl) e,ok,λE z=>by obtain⟨b,y,A⟩:=c E z;exact⟨b,y,j b (.CC _) A⟩⟩
  |JC q=>obtain⟨m,vs,t,e,c⟩:=x;exact⟨m,vs,t,k a _ (.inl rfl) e,c⟩
 |met f y=>
  have e:h.get? a=some (PySem.W.methodObj (.ref f) (.ref y)):=x;show h'.get? a=some (PySem.W.methodObj (.ref f) (.ref y));exact k a _ (.inl rfl) e
 |ext φ=>obtain⟨p,⟨o,e⟩,st⟩:=x;exact⟨st _ _ p λo q=>k _ _ (.inl rfl) q,⟨o,k _ _ (.inl rfl) e⟩,st⟩
theorem CA.lt(x:CA P w H h)(e:H a=some o):a<h.objs.size:=(x a o e).lt
theorem CA.fresh(x:CA P w H h)(e:h.objs.size<=a):H a=none:=by
 cases q:H a with
 |none=>rfl
 |some u=>exact absurd (CS (x.lt q) e) (N6 _)
theorem CA.kept(x:CA P w H h)(k:∀b u,h.get? b=some u->h'.get? b=some u):CA P w H h':=λa o e=>
 (x a o e).GO (λb u _ q=>k b u q) (λ_ q=>q) λ_ _ q=>q
theorem CA.laid(x:CA P w H h)(k:∀b u,h.get? b=some u->h'.get? b=some u)(g:h.objs.size<=a)(new:Bx P w (upd H a o) h' a o):CA P w (upd H a o) h':=λb u e=>by
 have d:=x.fresh g
 by_cases f:b=a
 .subst f;rw[AZ]at e;cases e;exact new
 .rw[AY f]at e;exact(x b u e).GO (λc v _ q=>k c v q) (λc q=>by rw[AY (Dx q d)];exact q) λc xs q=>by rw[AY (Dx q d)];exact q
end
def Rd(H:Hp)(a:Addr)(u:HO):Prop:=H a=some u∨∃o,H a=some (.FQ o u)
theorem Rd.ok{P:Program}{h:Heap}{u:HO}(r:Rd H a u)(x:CA P w H h):Bx P w H h a u:=by
 rcases r with r|⟨o,r⟩
 .exact x a u r
 .obtain⟨_,q⟩:=x a _ r;exact q
def P9:Option HO->Prop
 |some (.lst _)=>True
 |some (.dK _)=>True
 |some (.dT _)=>True
 |some (.set _ _)=>True
 |some (.ins _ _ _)=>True
 |some (.ext _)=>True
 |_=>False
section
variable{P:Program}{h:Heap}{x e:Addr}
theorem CA.write(ok:CA P w H h)(mu:P9 (H x))(l:e=x∨H e=some (.own x))(k:∀b u,b≠e->h.get? b=some u->h'.get? b=some u)(Hl:∃u,h'.get? e=some u)
  (new:Bx P w (upd H x o') h' x o'):CA P w (upd H x o') h':=λb u q=>by
 have j:∀c y,H c=some (.own y)->c≠x:=λc y r z=>by subst z;rw[r]at mu;exact mu
 have g:∀c(xs:MH),H c=some xs.ho->c≠x:=λc xs r z=>by subst z;rw[r]at mu;cases xs <;> exact mu
 by_cases d:b=x
 .subst d;rw[AZ]at q;cases q;exact new
 .rw[AY d]at q
  by_cases f:b=e
  .have i:H b=some (.own x):=by
    rcases l with z|z
    .exact absurd (f.trans z) d
    .rw[f];exact z
   rw[q]at i;cases i;obtain⟨v,m⟩:=Hl;exact⟨v,by rw[f];exact m⟩
  .refine(ok b u q).GO (λc v a r=>k c v ?_ r) (λc r=>by rw[AY (j c b r)];exact r) λc xs r=>by rw[AY (g c xs r)];exact r
   rcases a with rfl|a
   .exact f
   .rintro rfl;rcases l with z|z
    .exact j c b a z
    .rw[a]at z;cases z;exact d rfl
end
structure Un (fs ex:List Addr) (H H':Hp) (h h':Heap):Prop where
 keep:∀b o,h.get? b=some o->H b=none->b∉fs->b∉ex->h'.get? b=some o
 slot:∀b o,h.get? b=some o->H b=none->b∈fs->b∉ex->∃sl,h'.get? b=some { o with slots:=sl }
 free:∀b o,h.get? b=some o->H b=none->b∉ex->H' b=none
 there:∀b o,h.get? b=some o->b∉ex->∃o',h'.get? b=some o'
 JI:∀b(x:MH),H b=some x.ho->H' b=some x.ho
 JG:∀b o u,H b=some (.FQ o u)->H' b=some (.FQ o u)
section
variable{fs fs' ex ex':List Addr}{H1 H2:Hp}{h h1 h2:Heap}{x e:Addr}
theorem Un.any(u:Un fs ex H H1 h h1){a:Obj}(q:h.get? b=some a)(n:H b=none)(hx:b∉ex):∃sl,h1.get? b=some { a with slots:=sl }:=by
 by_cases c:b∈fs
 .exact u.slot b a q n c hx
 .exact⟨a.slots,u.keep b a q n c hx⟩
theorem Un.kept(k:∀b u,h.get? b=some u->h'.get? b=some u):Un fs ex H H h h':=
 ⟨λb a q _ _ _=>k b a q,λb a q _ _ _=>⟨a.slots,k b a q⟩,λ_ _ _ n _=>n,λb a q _=>⟨a,k b a q⟩,λ_ _ q=>q,λ_ _ _ q=>q⟩
theorem Un.refl:Un fs ex H H h h:=Un.kept λ_ _ q=>q
theorem Un.laid(k:∀b u,h.get? b=some u->h'.get? b=some u)(d:h.objs.size<=a)(c:H a=none):Un fs ex H (upd H a o) h h' where
 keep:=λb u q _ _ _=>k b u q
 slot:=λb u q _ _ _=>⟨u.slots,k b u q⟩
 free:=λb u q n _=>by rw[AY (An (CS (AU q) d))];exact n
 there:=λb u q _=>⟨u,k b u q⟩
 JI:=λb xs q=>by rw[AY (Dx q c)];exact q
 JG:=λb u xs q=>by rw[AY (Dx q c)];exact q
theorem Un.write(mu:P9 (H x))(f:e=x∨H e=some (.own x))(k:∀b u,b≠e->h.get? b=some u->h'.get? b=some u)(Hl:∃u,h'.get? e=some u):Un fs ex H (upd H x o) h h':=by
 have hx:∀b,H b=none->b≠x:=λb n z=>by subst z;rw[n]at mu;exact mu
 have c:∀b,H b=none->b≠e:=λb n z=>by
  subst z;rcases f with r|r
  .exact hx b n r
  .rw[n]at r;cases r
 have a:∀b u,H b=some u->¬ P9 (some u)->b≠x:=λb u q nm z=>by subst z;rw[q]at mu;exact nm mu
 refine⟨λb u q n _ _=>k b u (c b n) q,λb u q n _ _=>⟨u.slots,k b u (c b n) q⟩,λb u q n _=>by rw[AY (hx b n)];exact n,λb u q _=>?_,
  λb xs q=>by rw[AY (a b _ q λz=>by cases xs <;> exact z)];exact q,λb u xs q=>by rw[AY (a b _ q λz=>z)];exact q⟩
 by_cases d:b=e
 .subst d;exact Hl
 .exact⟨u,k b u d q⟩
end
def Q2(h:Heap)(H:Hp):List Addr:=(List.range h.objs.size).filter λa=>(H a).isSome
def Hm(h:Heap)(H:Hp):Heap:=PySem.W.hideAll h (Q2 h H)
theorem yX(h:Heap)(H:Hp):(Hm h H).objs.size=h.objs.size:=PySem.W.hideAll_size _ _
theorem v5{h:Heap}{o:Obj}(e:h.get? b=some o)(n:H b=none):(Hm h H).get? b=some o:=
 PySem.W.hideAll_get _ e λa=>by
  have q:(H b).isSome=true:=(List.mem_filter.mp a).2;rw[n]at q;simp at q
theorem y0{h:Heap}{o:Obj}(e:(Hm h H).get? b=some o):h.get? b=some o/\H b=none:=by
 have a:h.get? b=some o:=PySem.W.of_hideAll (Q2 h H) e;refine⟨a,?_⟩;cases q:H b with
 |none=>rfl
 |some x=>
  have c:b∈Q2 h H:=List.mem_filter.mpr ⟨List.mem_range.mpr (AU a),by simp[q]⟩;have z:(Hm h H).get? b=none:=PySem.W.hideAll_none (Q2 h H) c;rw[z]at e;cases e
structure Mod (K:ZDv) (mg:ZDx) (Zl:Heap):Prop where
 JJ:K.In Zl
 glob:Zl.Ns mainGlobals mg
 blt:∃mb,Zl.Ns builtinsNs mb/\∀x:Str,x ≠"__name__" -> mb x=bootBuiltins x
 nolimit:Zl.NoLimit
structure Cx where
 prog:Program
 w:World
 K:ZDv
 mg:ZDx
 base:Heap
 A:Around
 N:List Str
 s₀:Shared
 H₀:Hp
 env:Env
 outer:List Env
 stack:List Env
 ex:List Addr
 fn:Str->Bool
 calm:Bool
 pn:ZDw
 xe:Value->Shared->Prop
variable{X:Cx}
noncomputable def He(l:List Env):List Addr:=l.filterMap (·.frame)
abbrev Cx.fs(X:Cx):List Addr:=He X.outer
abbrev FN(X:Cx)(e:Expr)(es:List Expr):Prop:=starEach (e::es) X.env=(false,eval e X.env)::starEach es X.env
abbrev BEq(X:Cx)(pos:Pos)(es:List Expr):Prop:=(backTo pos (starEach es X.env)).any (·.1)=false
def Ta(sc:Scope)(x:Str):Prop:=sc.names.lookup x=some .local∨sc.names.lookup x=some .cell∨sc.names.lookup x=some .free
def Loc(sc:Scope)(x:Str):Prop:=sc.names.lookup x=some .local∨sc.names.lookup x=some .cell
def Look(env:Env)(h:Heap)(m:ZDx)(x:Str)(u:Value):Prop:=
 (env.kindOf x=some .local/\m x=some u)∨((env.kindOf x=some .cell∨env.kindOf x=some .free)/\∃c,env.cells.lookup x=some c/\h.IsCell c (some u))
structure Cx.Ok (X:Cx):Prop where
 mod:Mod X.K X.mg X.base
 kind:X.env.scope.kind=.function
 glob:X.env.globals=mainGlobals
 blt:X.env.builtins=builtinsNs
 above:X.s₀.heap.objs.size<=X.env.locals
 inj:∀x y c,X.env.cells.lookup x=some c->X.env.cells.lookup y=some c->x=y
 has:∀x,(X.env.kindOf x=some .cell∨X.env.kindOf x=some .free)->∃c,X.env.cells.lookup x=some c
 N9:∀x c,X.fn x=true->X.env.cells.lookup x=some c->X.s₀.heap.objs.size<=c
 hd:X.calm=true->X.A.handled=none
 frames:X.A.frames=some X.stack
 Pw:X.stack=X.outer∨(X.stack=X.env::X.outer/\X.env.frame=some X.env.locals)
 QX:∀b∈X.ex,b≠X.env.locals/\∀x c,X.env.cells.lookup x=some c->c≠b
 bs:∀b o,X.base.get? b=some o->X.s₀.heap.get? b=some o/\X.H₀ b=none
 Hw:X.base.objs.size<=X.s₀.heap.objs.size
 NC:∀b o,X.base.get? b=some o->b∉X.ex
 NZ:∀b∈X.ex,b∉X.fs
 Fq:X.s₀.heap.FunFrames X.base X.outer
 Jg:∀b∈X.fs,X.H₀ b=none
structure Inv (X:Cx) (Zd:ZDw) (Z:List (Option V)) (H:Hp) (s:Shared):Prop where
 ok:X.Ok
 os:s.os=X.s₀.os
 bare:AllBare s.gens
 base:Un X.fs X.ex X.H₀ H X.s₀.heap s.heap
 loc:∃m,s.heap.Ns X.env.locals m/\∀(i:Nat)(x:Str)(v:V),X.N[i]?=some x->Z[i]?=some (some v)->Ta X.env.scope x->∃u,RelV v u/\Look X.env s.heap m x u
 cell:∀x c,X.env.cells.lookup x=some c->∃v,s.heap.IsCell c v
 free:H X.env.locals=none
 Fx:∀x c,X.env.cells.lookup x=some c->H c=none
 pin:∀p∈X.pn++Zd,s.heap.get? p.1=some p.2/\H p.1=none/\p.1≠X.env.locals/\p.1∉X.fs/\∀v,p.2.data≠.cell v
 AG:CA X.prog X.w H s.heap
 len:Z.length=X.N.length
section
variable{Z:List (Option V)}
theorem Cx.Ok.kh(ok:X.Ok){o:Obj}(e:X.base.get? b=some o):b∉X.fs:=λa=>by
 have:=(ok.Fq.mem a).1;rw[e]at this;cases this
theorem Inv.bs(I:Inv X Zd Z H s):∀b o,X.base.get? b=some o->s.heap.get? b=some o/\H b=none:=λb o e=>
 ⟨I.base.keep b o (I.ok.bs b o e).1 (I.ok.bs b o e).2 (I.ok.kh e) (I.ok.NC b o e),I.base.free b o (I.ok.bs b o e).1 (I.ok.bs b o e).2 (I.ok.NC b o e)⟩
theorem Inv.bk(I:Inv X Zd Z H s):∀b o,X.base.get? b=some o->s.heap.get? b=some o:=λb o e=>(I.bs b o e).1
theorem Inv.mod(I:Inv X Zd Z H s):Mod X.K X.mg X.base:=I.ok.mod
theorem Inv.ED(I:Inv X Zd Z H s):X.K.In s.heap:=I.ok.mod.JJ.keeps I.bk
theorem Inv.nolimit(I:Inv X Zd Z H s):s.heap.NoLimit:=I.ok.mod.nolimit.keeps I.bk
theorem Inv.lt(I:Inv X Zd Z H s):X.env.locals<s.heap.objs.size:=let ⟨_,hn,_⟩:=I.loc;hn.lt
theorem Inv.sz(I:Inv X Zd Z H s):X.s₀.heap.objs.size<=s.heap.objs.size:=CL I.ok.above (Gu I.lt)
theorem Inv.OF(I:Inv X Zd Z H s)(h:s.heap.objs.size<=a):a∉X.fs:=λb=>by
 obtain⟨_,o,ho,_⟩:=I.ok.Fq.mem b;exact absurd (CS (AU ho) (CL I.sz h)) (N6 _)
theorem Inv.Kf(I:Inv X Zd Z H s):∀x c,X.env.cells.lookup x=some c->c≠X.env.locals:=λx c e z=>by
 obtain⟨v,o,ho,hd⟩:=I.cell x c e;obtain⟨m,⟨o',es,ep,Bz,G1,_⟩,_⟩:=I.loc;rw[z,Bz]at ho;cases ho;rw[G1]at hd;cases hd
theorem Inv.Fq(I:Inv X Zd Z H s):s.heap.FunFrames X.base X.outer:=by
 have all:∀(l:List Env),(∀b∈He l,b∈X.fs)->X.s₀.heap.FunFrames X.base l->s.heap.FunFrames X.base l:=by
  intro l
  induction l with
  |nil=>intro _ _;trivial
  |cons env r f=>
   intro d i;obtain⟨hk,⟨L,o,a,h,ho,hd⟩,g⟩:=i;have hL:L∈X.fs:=d L (by unfold He;rw[jH,a];exact Ar);obtain⟨sl,e⟩:=I.base.slot L o ho (I.ok.Jg L hL) hL λz=>I.ok.NZ L z hL;exact⟨hk,⟨L,_,a,h,e,hd⟩,f (λb c=>d b (by unfold He;rw[jH,a];exact BG _ c)) g⟩
 exact all X.outer (λ_ c=>c) I.ok.Fq
theorem Inv.stack(I:Inv X Zd Z H s):s.heap.FunFrames X.base X.stack:=by
 rcases I.ok.Pw with e|⟨e,hf⟩
 .rw[e];exact I.Fq
 .rw[e];obtain⟨m,a,_⟩:=I.loc;refine .cons (by rw[I.ok.kind];decide) hf a ?_ I.Fq;exact Heap.get?_none_of_le (CL I.ok.Hw I.ok.above)
theorem Inv.XN(I:Inv X Zd Z H s):∀b∈He X.stack,b∈X.env.locals::X.fs:=λb a=>by
 rcases I.ok.Pw with e|⟨e,hf⟩
 .rw[e]at a;exact BG _ a
 .rw[e]at a;unfold He at a;rw[jH,hf]at a;exact a
theorem Inv.cX(I:Inv X Zd Z H s):∀b∈He X.stack,H b=none:=λb a=>by
 rcases List.mem_cons.mp (I.XN b a)with e|a
 .rw[e];exact I.free
 .obtain⟨_,o,ho,_⟩:=I.ok.Fq.mem a;exact I.base.free b o ho (I.ok.Jg b a) λz=>I.ok.NZ b z a
theorem Inv.step(I:Inv X Zd Z H s)
  (Ea:∀b∈ch,(b∈X.ex∨X.s₀.heap.objs.size<=b)/\b≠X.env.locals/\(∀x c,X.env.cells.lookup x=some c->c≠b)/\∀p∈X.pn++Zd,p.1≠b)
  (keep:∀b o,b≠X.env.locals->b∉X.fs->b∉ch->s.heap.get? b=some o->H b=none->h'.get? b=some o)
  (slot:∀b o,b≠X.env.locals->b∈X.fs->b∉ch->s.heap.get? b=some o->H b=none->∃sl,h'.get? b=some { o with slots:=sl }) (free:∀b o,b∉ch->s.heap.get? b=some o->H b=none->H' b=none)
  (there:∀b o,b∉ch->s.heap.get? b=some o->∃o',h'.get? b=some o')
  (JI:∀b(x:MH),H b=some x.ho->H' b=some x.ho) (JG:∀b o u,H b=some (.FQ o u)->H' b=some (.FQ o u))
  (ns:∀m,s.heap.Ns X.env.locals m->h'.Ns X.env.locals m) (AG:CA X.prog X.w H' h') (hg:AllBare g') :
  Inv X Zd Z H' { s with heap:=h',gens:=g',drawn:=d',toks:=t' }:=by
 have B:∀b o,X.s₀.heap.get? b=some o->b≠X.env.locals:=λb o e=>An (CS (AU e) I.ok.above);have h:∀b o,X.s₀.heap.get? b=some o->b∉X.ex->b∉ch:=λb o e hx f=>by
  rcases(Ea b f).1 with z|z
  .exact hx z
  .exact absurd (CS (AU e) z) (N6 _)
 have a:∀x c,X.env.cells.lookup x=some c->∀v,s.heap.IsCell c v->h'.IsCell c v:=λx c e v AX=>by
  obtain⟨o,ho,hd⟩:=AX;have g:c∉ch:=λz=>(Ea c z).2.2.1 x c e rfl
  by_cases A:c∈X.fs
  .obtain⟨sl,q⟩:=slot c o (I.Kf x c e) A g ho (I.Fx x c e);exact⟨_,q,hd⟩
  .exact⟨o,keep c o (I.Kf x c e) A g ho (I.Fx x c e),hd⟩
 refine⟨I.ok,I.os,hg,⟨λb o e n f hx=>?_,λb o e n f hx=>?_,λb o e n hx=>?_,λb o e hx=>?_,λb xs e=>JI b xs (I.base.JI b xs e),λb o xs e=>JG b o xs (I.base.JG b o xs e)⟩,?_,λx c e=>?_,?_,λx c e=>?_,λp y=>?_,AG,I.len⟩
 .exact keep b o (B b o e) f (h b o e hx) (I.base.keep b o e n f hx) (I.base.free b o e n hx)
 .obtain⟨sl,e1⟩:=I.base.slot b o e n f hx;obtain⟨C,j⟩:=slot b _ (B b o e) f (h b o e hx) e1 (I.base.free b o e n hx);exact⟨C,j⟩
 .obtain⟨o',e1⟩:=I.base.there b o e hx;exact free b o' (h b o e hx) e1 (I.base.free b o e n hx)
 .obtain⟨o',e1⟩:=I.base.there b o e hx;exact there b o' (h b o e hx) e1
 .obtain⟨m,D,E⟩:=I.loc;refine⟨m,ns m D,λi x v e1 j F=>?_⟩;obtain⟨u,r,l⟩:=E i x v e1 j F;refine⟨u,r,?_⟩;rcases l with l|⟨k,c,e,z⟩
  .exact .inl l
  .exact .inr ⟨k,c,e,a x c e _ z⟩
 .obtain⟨v,z⟩:=I.cell x c e;exact⟨v,a x c e v z⟩
 .obtain⟨m,⟨o,_,_,ho,_⟩,_⟩:=I.loc;exact free _ o (λz=>(Ea _ z).2.1 rfl) ho I.free
 .obtain⟨v,o,ho,hd⟩:=I.cell x c e;exact free c o (λz=>(Ea c z).2.2.1 x c e rfl) ho (I.Fx x c e)
 .obtain⟨e,n,ne,t,d⟩:=I.pin p y;have g:p.1∉ch:=λz=>(Ea p.1 z).2.2.2 p y rfl;exact⟨keep p.1 p.2 ne t g e n,free p.1 p.2 g e n,ne,t,d⟩
theorem Inv.un(I:Inv X Zd Z H s)(u:Un X.fs [] H H' s.heap h')(AG:CA X.prog X.w H' h'):Inv X Zd Z H' { s with heap:=h',toks:=t' }:=by
 obtain⟨m,⟨o,es,ep,ho,r⟩,_⟩:=id I.loc;obtain⟨sl,hL⟩:=u.any ho I.free (by simp);exact I.step (g':=s.gens) (d':=s.drawn) (ch:=[]) (λ_ z=>nomatch z) (λb o _ a _ e n=>u.keep b o e n a (by simp)) (λb o _ a _ e n=>u.slot b o e n a (by simp)) (λb o _ e n=>u.free b o e n (by simp)) (λb o _ e=>u.there b o e (by simp)) u.JI u.JG (λf d=>by
  obtain⟨o',BJ,Es,Bz,c⟩:=d;rw[ho]at Bz;cases Bz;exact⟨_,BJ,Es,hL,c⟩) AG I.bare
theorem Inv.call(I:Inv X Zd Z H s)(u:Un (He X.stack) ch H H' s.heap h')(AG:CA X.prog X.w H' h')(g:AllBare g')
  (Ea:∀b∈ch,(b∈X.ex∨X.s₀.heap.objs.size<=b)/\b≠X.env.locals/\(∀x c,X.env.cells.lookup x=some c->c≠b)/\∀p∈X.pn++Zd,p.1≠b) :
  Inv X Zd Z H' { s with heap:=h',gens:=g',drawn:=d',toks:=t' }:=by
 obtain⟨m,⟨o,es,ep,ho,r⟩,_⟩:=id I.loc;obtain⟨sl,hL⟩:=u.any ho I.free λz=>(Ea _ z).2.1 rfl;exact I.step (ch:=ch) Ea (λb o hL h a e n=>u.keep b o e n (λz=>(List.mem_cons.mp (I.XN b z)).elim hL h) a) (λb o _ _ a e n=>u.any e n a) (λb o a e n=>u.free b o e n a) (λb o a e=>u.there b o e a) u.JI u.JG (λi f=>by
  obtain⟨o',BJ,Es,Bz,d⟩:=f;rw[ho]at Bz;cases Bz;exact⟨_,BJ,Es,hL,d⟩) AG g
theorem Inv.turned(I:Inv X Zd Z H s)(k:∀b o,b≠it->s.heap.get? b=some o->h'.get? b=some o)(f:H it=none)(hL:it≠X.env.locals)
  (h1:it∈X.ex∨X.s₀.heap.objs.size<=it) (h2:∀x c,X.env.cells.lookup x=some c->c≠it) (i:∀p∈X.pn++Zd,p.1≠it):Inv X Zd Z H { s with heap:=h',toks:=t' }:=by
 have d:∀b u,H b=some u->b≠it:=λb u e z=>by rw[z,f]at e;cases e
 refine I.step (g':=s.gens) (d':=s.drawn) (ch:=[it]) (λb h=>?_) (λb o _ _ a e _=>k b o (λz=>a (by simp[z])) e) (λb o _ _ a e _=>⟨o.slots,k b o (λz=>a (by simp[z])) e⟩) (λ_ _ _ _ n=>n)
  (λb o a e=>⟨o,k b o (λz=>a (by simp[z])) e⟩) (λ_ _ e=>e) (λ_ _ _ e=>e) (λm g=>?_) (λb u e=>?_) I.bare
 .have e:b=it:=by simpa using h
  subst e;exact⟨h1,hL,h2,i⟩
 .obtain⟨o,es,ep,ho,r⟩:=g;exact⟨o,es,ep,k _ o (Bh hL) ho,r⟩
 .refine(I.AG b u e).GO (λc v a q=>k c v ?_ q) (λ_ q=>q) λ_ _ q=>q;rcases a with z|z
  .rw[z];exact d b u e
  .exact d c _ z
theorem Inv.tok(I:Inv X Zd Z H s)(t:Nat):Inv X Zd Z H { s with toks:=t }:=I.un (h':=s.heap) (t':=t) Un.refl I.AG
theorem Inv.kept(I:Inv X Zd Z H s)(k:∀b u,s.heap.get? b=some u->h'.get? b=some u):Inv X Zd Z H { s with heap:=h',toks:=t' }:=I.un (Un.kept k) (I.AG.kept k)
theorem Inv.laid(I:Inv X Zd Z H s)(k:∀b u,s.heap.get? b=some u->h'.get? b=some u)(c:s.heap.objs.size<=a)(new:Bx X.prog X.w (upd H a o) h' a o):
  Inv X Zd Z (upd H a o) { s with heap:=h',toks:=t' }:=I.un (Un.laid k c (I.AG.fresh c)) (I.AG.laid k c new)
theorem Inv.write{x e:Addr}(I:Inv X Zd Z H s)(mu:P9 (H x))(a:e=x∨H e=some (.own x))(k:∀b u,b≠e->s.heap.get? b=some u->h'.get? b=some u)(Hl:∃u,h'.get? e=some u)
  (new:Bx X.prog X.w (upd H x o) h' x o):Inv X Zd Z (upd H x o) { s with heap:=h',toks:=t' }:=I.un (Un.write mu a k Hl) (I.AG.write mu a k Hl new)
theorem Inv.j7(I:Inv X Zd Z H s)(h:∀p∈j3,s.heap.get? p.1=some p.2/\H p.1=none/\p.1≠X.env.locals/\p.1∉X.fs/\∀v,p.2.data≠.cell v):Inv X j3 Z H s:=
 ⟨I.ok,I.os,I.bare,I.base,I.loc,I.cell,I.free,I.Fx,λp a=>(List.mem_append.mp a).elim (λz=>I.pin p (Dm _ z)) (h p),I.AG,I.len⟩
theorem ZG(c:N.Nodup)(a:N[i]?=some x)(b:N[j]?=some x):i=j:=by
 obtain⟨h1,e1⟩:=List.getElem?_eq_some_iff.mp a;obtain⟨h2,d⟩:=List.getElem?_eq_some_iff.mp b;exact(ZCd c).mp (e1.trans d.symm)
theorem dh{Q:Unit->Shared->Prop}(I:Inv X Zd Z H s)(T:X.N.Nodup)(hi:X.N[i]?=some x)(hx:Loc X.env.scope x)(r:RelV v u)
  (h:∀s',Inv X Zd (Z.set i (some v)) H s'->(∃a,Heap.SameBut a s.heap s'.heap/\(a=X.env.locals∨X.env.cells.lookup x=some a))->Q () s') (hf:X.fn x=true∨X.env.scope.names.lookup x=some .local:=by first|exact .inl rfl|exact .inr rfl|assumption):wpAny M A (storeName X.env x u) Q E s:=by
 obtain⟨m,L,S⟩:=id I.loc;have mL:(X.env.scope.kind == .class || (X.env.scope.kind == .module && X.env.locals != X.env.globals))=false:=by rw[I.ok.kind];rfl
 have hiσ:i<Z.length:=by rw[I.len];exact(List.getElem?_eq_some_iff.mp hi).1
 have Kf:=I.Kf;have g:∀{a:Addr}{h':Heap},(∃o,s.heap.get? a=some o/\H a=none)->Heap.SameBut a s.heap h'->CA X.prog X.w H h':=λ{a h'}ha f b ob e=>by
  obtain⟨_,_,U⟩:=ha;refine(I.AG b ob e).GO (λc D l q=>(f.2 c ?_).trans q) (λ_ q=>q) λ_ _ q=>q;rintro rfl;rcases l with rfl|l
  .rw[U]at e;cases e
  .rw[U]at l;cases l
 rcases hx with hk|hk
 .refine wpAny_storeName_local hk L (λh' Xf f=>?_) mL;obtain⟨oL,_,_,EY,_⟩:=id L;refine h _ ⟨I.ok,I.os,I.bare,⟨λb o e n C hx=>?_,λb o e n C hx=>?_,I.base.free,λb o e hx=>?_,I.base.JI,I.base.JG⟩,⟨_,Xf,λj y F e1 t O=>?_⟩,λy c e=>?_,I.free,I.Fx,λp K=>?_,g ⟨oL,EY,I.free⟩ f,by simpa using I.len⟩ ⟨_,f,.inl rfl⟩
  .exact(f.2 b (An (CS (AU e) I.ok.above))).trans (I.base.keep b o e n C hx)
  .obtain⟨sl,e1⟩:=I.base.slot b o e n C hx;exact⟨sl,(f.2 b (An (CS (AU e) I.ok.above))).trans e1⟩
  .obtain⟨o',e1⟩:=I.base.there b o e hx;exact⟨o',(f.2 b (An (CS (AU e) I.ok.above))).trans e1⟩
  .by_cases B:j=i
   .subst B;rw[hi]at e1;cases e1;rw[DP hiσ]at t;cases t;exact⟨u,r,.inl ⟨hk,by simp⟩⟩
   .rw[Cr (Bh B)]at t;obtain⟨u',G,q⟩:=S j y F e1 t O;refine⟨u',G,?_⟩;rcases q with⟨k,e⟩|⟨k,c,e,z⟩
    .refine .inl ⟨k,?_⟩;have:y≠x:=λe=>B (ZG T e1 (e▸hi));simp[this,e]
    .exact .inr ⟨k,c,e,z.sameBut f (Kf y c e)⟩
  .obtain⟨D,z⟩:=I.cell y c e;exact⟨D,z.sameBut f (Kf y c e)⟩
  .obtain⟨e,n,ne,J,d⟩:=I.pin p K;exact⟨(f.2 p.1 ne).trans e,n,ne,J,d⟩
 .have P:X.fn x=true:=by
   rcases hf with z|z
   .exact z
   .rw[z]at hk;cases hk
  obtain⟨c,l⟩:=I.ok.has x (.inl hk);obtain⟨D,z⟩:=I.cell x c l;refine wpAny_storeName_cell I.ok.kind hk l z (λh' Ge f=>?_);obtain⟨R,Z9,lZ⟩:=id z;refine h { s with heap:=h' } ⟨I.ok,I.os,I.bare,⟨λb o e n C hx=>?_,λb o e n C hx=>?_,I.base.free,λb o e hx=>?_,I.base.JI,I.base.JG⟩,⟨m,L.sameBut f (Bh (Kf x c l)),λj y F e1 t O=>?_⟩,λy c' e=>?_,I.free,I.Fx,λp K=>?_,g ⟨R,Z9,I.Fx x c l⟩ f,by simpa using I.len⟩ ⟨c,f,.inr l⟩
  .exact(f.2 b (An (CS (AU e) (I.ok.N9 x c P l)))).trans (I.base.keep b o e n C hx)
  .obtain⟨sl,e1⟩:=I.base.slot b o e n C hx;exact⟨sl,(f.2 b (An (CS (AU e) (I.ok.N9 x c P l)))).trans e1⟩
  .obtain⟨o',e1⟩:=I.base.there b o e hx;exact⟨o',(f.2 b (An (CS (AU e) (I.ok.N9 x c P l)))).trans e1⟩
  .by_cases B:j=i
   .subst B;rw[hi]at e1;cases e1;rw[DP hiσ]at t;cases t;exact⟨u,r,.inr ⟨.inl hk,c,l,Ge⟩⟩
   .rw[Cr (Bh B)]at t;obtain⟨u',G,q⟩:=S j y F e1 t O;refine⟨u',G,?_⟩;rcases q with q|⟨k,c',e,z'⟩
    .exact .inl q
    .refine .inr ⟨k,c',e,z'.sameBut f ?_⟩;rintro rfl;exact B (ZG T e1 (I.ok.inj _ _ _ e l▸hi))
  .by_cases V:c'=c
   .subst V;exact⟨_,Ge⟩
   .obtain⟨Y,W⟩:=I.cell y c' e;exact⟨Y,W.sameBut f V⟩
  .obtain⟨e,n,ne,J,d⟩:=I.pin p K;refine⟨(f.2 p.1 ?_).trans e,n,ne,J,d⟩;intro q;rw[q,Z9]at e;have σ:R=p.2:=BW e;exact d D (by rw[<- σ];exact lZ)
theorem aF{Q:Unit->Shared->Prop}(I:Inv X Zd Z H s)(b:X.N.Nodup)(hi:X.N[i]?=some x)(hx:Loc X.env.scope x)(r:RelV v u)
  (h:∀s',Inv X Zd (Z.set i (some v)) H s'->Q () s') (a:X.fn x=true∨X.env.scope.names.lookup x=some .local:=by first|exact .inl rfl|exact .inr rfl|assumption):wpAny M A (storeName X.env x u) Q E s:=
 dh I b hi hx r (λs' I' _=>h s' I') a
theorem Inv.lV(I:Inv X Zd Z H s)(ho:s'.os=s.os)(u:Un (He X.stack) ch H H' s.heap s'.heap)(AG:CA X.prog X.w H' s'.heap)(a:AllBare s'.gens)
  (Ea:∀b∈ch,(b∈X.ex∨X.s₀.heap.objs.size<=b)/\b≠X.env.locals/\(∀x c,X.env.cells.lookup x=some c->c≠b)/\∀p∈X.pn++Zd,p.1≠b):Inv X Zd Z H' s':=by
 obtain⟨h',g',d',t',o'⟩:=s';have e:o'=s.os:=ho;subst e;exact I.call (g':=g') (t':=t') (d':=d') u AG a Ea
end
abbrev XK:=Value->Option Addr->Hp->Prop
abbrev St:=List (Option V)
variable{Z:St}
abbrev VK:=V->Hp->Prop
abbrev TE:=St->Hp->VK->Prop
variable{ta tb tc te:TE}
abbrev TT:=St->Hp->(Bool->Hp->Prop)->Prop
abbrev TA:=St->Hp->(List V->Hp->Prop)->Prop
variable{t:TA}
structure Ends where
 nx:St->Hp->Prop
 rt:VK
 bk:St->Hp->Prop:=λ_ _=>False
 ct:St->Hp->Prop:=λ_ _=>False
abbrev TS:=Ends->St->Hp->Prop
def EP(X:Cx)(Zd:ZDw)(Z:St)(Q:VK)(u:Value)(s':Shared):Prop:=∃v H',Inv X Zd Z H' s'/\RelV v u/\Q v H'
def TP(X:Cx)(Zd:ZDw)(Z:St)(Q:Bool->Hp->Prop)(b:Bool)(s':Shared):Prop:=∃H',Inv X Zd Z H' s'/\Q b H'
def AP(X:Cx)(Zd:ZDw)(Z:St)(Q:List V->Hp->Prop)(us:List Value)(s':Shared):Prop:=∃vs H',Inv X Zd Z H' s'/\Vals vs us/\Q vs H'
def SP(X:Cx)(Zd:ZDw)(D:Ends)(f:Flow)(s':Shared):Prop:=
 match f with
 | .next=>∃ σ' H',Inv X Zd σ' H' s'/\D.nx σ' H'
 | .brk=>∃ σ' H',Inv X Zd σ' H' s'/\D.bk σ' H'
 | .cont=>∃ σ' H',Inv X Zd σ' H' s'/\D.ct σ' H'
 | .ret u=>∃v σ' H',Inv X Zd σ' H' s'/\RelV v u/\D.rt v H'
def PE(X:Cx)(e:Expr)(t:TE):Prop:=
 ∀(Zd:ZDw)(s:Shared)(Z:St)(H:Hp)(Q:VK),Inv X Zd Z H s->t Z H Q->wpAny (model X.prog X.w) X.A (eval e X.env) (EP X Zd Z Q) X.xe s
def PT(X:Cx)(e:Expr)(t:TT):Prop:=
 ∀(Zd:ZDw)(s:Shared)(Z:St)(H:Hp)(Q:Bool->Hp->Prop),Inv X Zd Z H s->t Z H Q->wpAny (model X.prog X.w) X.A (isTrue e X.env (eval e X.env)) (TP X Zd Z Q) X.xe s
def PW(X:Cx)(e:Expr)(t:TT):Prop:=
 ∀(a:Sem Value)(Zd:ZDw)(s:Shared)(Z:St)(H:Hp)(Q:Bool->Hp->Prop),Inv X Zd Z H s->t Z H Q->wpAny (model X.prog X.w) X.A (isTrue e X.env a) (TP X Zd Z Q) X.xe s
theorem PW.pt{t:TT}(h:PW X e t):PT X e t:=h _
def PA(X:Cx)(es:List Expr)(t:TA):Prop:=
 ∀(pos:Pos)(Zd:ZDw)(s:Shared)(Z:St)(H:Hp)(Q:List V->Hp->Prop),Inv X Zd Z H s->t Z H Q->wpAny (model X.prog X.w) X.A (spliced (backTo pos (starEach es X.env))) (AP X Zd Z Q) X.xe s
def PS(X:Cx)(st:Stmt)(t:TS):Prop:=
 ∀(Zd:ZDw)(s:Shared)(Z:St)(H:Hp)(D:Ends),Inv X Zd Z H s->t D Z H->wpAny (model X.prog X.w) X.A (exec st X.env) (SP X Zd D) X.xe s
def EO(X:Cx)(st:List Stmt)(t:TS):Prop:=
 ∀(Zd:ZDw)(s:Shared)(Z:St)(H:Hp)(D:Ends),Inv X Zd Z H s->t D Z H->wpAny (model X.prog X.w) X.A (execs st X.env) (SP X Zd D) X.xe s
theorem B4{t:Sem α}{Q Q':α->Shared->Prop}(h:wpAny M A t Q E s)(b:∀a s,Q a s->Q' a s):wpAny M A t Q' E s:=qP h b λ_ _ x=>x
theorem PE.k{t:TE}{Q:VK}{Q':Value->Shared->Prop}(a:PE X e t)(I:Inv X Zd Z H s)(h:t Z H Q)(f:∀u s1 x H1,Inv X Zd Z H1 s1->RelV x u->Q x H1->Q' u s1):wpAny (model X.prog X.w) X.A (eval e X.env) Q' X.xe s:=
 B4 (a Zd s Z H Q I h) λu s1 z=>by obtain⟨x,H1,I1,r,q⟩:=z;exact f u s1 x H1 I1 r q
theorem PA.k(pos:Pos){Q:List V->Hp->Prop}{Q':List Value->Shared->Prop}(a:PA X es t)(I:Inv X Zd Z H s)(h:t Z H Q)(f:∀us s1 vs H1,Inv X Zd Z H1 s1->Vals vs us->Q vs H1->Q' us s1):wpAny (model X.prog X.w) X.A (spliced (backTo pos (starEach es X.env))) Q' X.xe s:=
 B4 (a pos Zd s Z H Q I h) λu s1 z=>by obtain⟨x,H1,I1,r,q⟩:=z;exact f u s1 x H1 I1 r q
section
def Ap(i:Nat):TE:=λZ H Q=>∃v,Z[i]?=some (some v)/\Q v H
def tC(v:V):TE:=λ_ H Q=>Q v H
def Gl(X:Cx)(x:Str):Prop:=X.env.kindOf x=some .globalImplicit
theorem fL(I:Inv X Zd Z H s)(b:Gl X x)(a:X.mg x=some u)(h:Q u s)
  (hd:(x == ("__debug__":Str))=false:=by decide):wpAny (model X.prog X.w) X.A (eval (.Name x pos) X.env) Q E s:=
 ZCK I.ok.kind b (Calls.loadGlobal_global (by rw[I.ok.glob];exact I.mod.glob.keeps I.bk) a h) hd
theorem HB(I:Inv X Zd Z H s)(d:Gl X x)(c:X.mg x=none)(a:bootBuiltins x=some u)(h:Q u s)
  (b:x ≠"__name__" := by decide) (hd:(x == ("__debug__":Str))=false:=by decide):wpAny (model X.prog X.w) X.A (eval (.Name x pos) X.env) Q E s:=by
 obtain⟨e,h1,h2⟩:=I.mod.blt;exact ZCK I.ok.kind d (Calls.loadGlobal_builtin (by rw[I.ok.glob];exact I.mod.glob.keeps I.bk) c (by rw[I.ok.blt];exact h1.keeps I.bk) ((h2 x b).trans a) h) hd
theorem lL(d:Gl X x)(c:X.mg x=none)(a:bootBuiltins x=some u)(r:RelV v u)(b:x ≠"__name__" := by decide)(hd:(x == ("__debug__":Str))=false:=by decide):PE X (.Name x pos) (tC v):=
 λ_ _ _ H _ I h=>HB I d c a ⟨v,H,I,r,h⟩ b hd
variable{a b:Expr}
def PC(X:Cx)(op:CmpOp)(a b:Expr)(t:TE):Prop:=
 ∀(Zd:ZDw)(s:Shared)(Z:St)(H:Hp)(Q:VK),Inv X Zd Z H s->t Z H Q->
  wpAny (model X.prog X.w) X.A (eval a X.env) (λv s₁=>wpAny (model X.prog X.w) X.A (eval b X.env) (λu c=>wpAny (model X.prog X.w) X.A (compareOp op v u) (EP X Zd Z Q) X.xe c) X.xe s₁) X.xe s
theorem my(b:Expr)(h:op≠.In)(h2:op≠.NotIn):behindInMarks op b=false:=by
 have e1:(op == CmpOp.In)=false:=by cases op <;> first|rfl|exact absurd rfl h
 have a:(op == CmpOp.NotIn)=false:=by cases op <;> first|rfl|exact absurd rfl h2
 cases b <;> simp[behindInMarks,e1,a]
def tB(t:TE):TT:=λZ H Q=>t Z H λx H1=>∃c,x=.bl c/\Q c H1
theorem lF{t:TE}(h:PC X op a b t)(h1:behindInMarks op b=false:=by first|exact my _ (by decide) (by decide)|rfl):PT X (.Compare a [op] [b] pos) (tB t):=by
 intro Zd s Z H Q I hw;refine wpAny_isTrue_Compare1 (B4 (h Zd s Z H _ I hw) λv s1 h1=>B4 h1 λu s2 h2=>B4 h2 λc g⟨x,H1,I1,e,f⟩=>?_) h1;obtain⟨d,rfl,q⟩:=f;cases e;exact sI ⟨H1,I1,q⟩
variable{tA Ij:TT}
def Y7(t u:TT):TT:=λZ H Q=>t Z H λc H1=>if c=true then u Z H1 Q else Q false H1
def Ow(t u:TT):TT:=λZ H Q=>t Z H λc H1=>if c=true then Q true H1 else u Z H1 Q
def Xv(t:TT):TT:=λZ H Q=>t Z H λc H1=>Q (!c) H1
def WQ(ta tb:TE):TE:=λZ H Q=>ta Z H λx H1=>∃c,x=.bl c/\if c=true then tb Z H1 Q else Q (.bl false) H1
def Xc(ta tb:TE):TE:=λZ H Q=>ta Z H λx H1=>∃c,x=.bl c/\if c=true then Q (.bl true) H1 else tb Z H1 Q
def WR(ta:TE):TE:=λZ H Q=>ta Z H λx H1=>∃c,x=.bl c/\Q (.bl (!c)) H1
end
def AK(K:ZDv)(H:Hp)(a:Addr)(xs:List V):Prop:=
 Rd H a (.lst xs)∨
  ∃(o:Obj)(A3:Array Value)(n:Nat),K.lookup a=some o/\o.cls=.type "list" /\ o.dict=none/\o.data=.seq A3 n/\A3.size<=sizeLine/\Vals xs A3.toList
def Al(K:ZDv)(H:Hp)(a:Addr)(xs:List V):Prop:=
 Rd H a (.tup xs)∨
  ∃(o:Obj)(A3:Array Value)(n:Nat),K.lookup a=some o/\o.cls=.type "tuple" /\ o.data=.seq A3 n/\A3.size<=sizeLine/\Vals xs A3.toList
noncomputable def ql:Value->Option V
 | .none=>some .A9
 | .bool b=>some (.bl b)
 | .int i _=>some (.int i)
 | .str x _=>some (.str x)
 | .bytes b _=>some (.Hb b)
 | .float b _=>some (.M3 b)
 | .ref a=>some (.ref a)
 | .type n=>some (.ty n)
 |_=>none
theorem RelV.abs{x:V}(r:RelV x u):ql u=some x:=by
 cases x with
 |A9=>cases r;rfl
 |bl _=>cases r;rfl
 |int _=>obtain⟨t,rfl⟩:=r;rfl
 |str _=>obtain⟨t,rfl⟩:=r;rfl
 |Hb _=>obtain⟨t,rfl⟩:=r;rfl
 |M3 _=>obtain⟨t,rfl⟩:=r;rfl
 |ref _=>cases r;rfl
 |ty _=>cases r;rfl
theorem RelV.inj{x y:V}{u:Value}(r:RelV x u)(q:RelV y u):x=y:=BW (r.abs.symm.trans q.abs)
theorem Vals.inj:∀{xs ys:List V}{us:List Value},Vals xs us->Vals ys us->xs=ys
 |_,_,_,.nil,.nil=>rfl
 |_,_,_,.cons r t,.cons r' t'=>by rw[r.inj r',Vals.inj t t']
section
variable{xs ys:List V}
theorem AK.of{K:ZDv}(h:H a=some (.lst xs)):AK K H a xs:=.inl (.inl h)
theorem Al.of{K:ZDv}(h:H a=some (.tup xs)):Al K H a xs:=.inl (.inl h)
theorem Inv.list(I:Inv X Zd Z H s)(h:AK X.K H a xs):∃A3:List Value,Vals xs A3/\PlainL s.heap a A3.toArray/\xs.length<=sizeLine:=by
 rcases h with h|⟨o,A3,n,hk,hc,hd,hs,hz,r⟩
 .obtain⟨z,A3,n,r,e⟩:=h.ok I.AG;exact⟨A3,r,⟨_,n,e,rfl,rfl,rfl⟩,z⟩
 .refine⟨A3.toList,r,⟨o,n,I.ED a o hk,hc,hd,by simpa using hs⟩,?_⟩
  have e:=r.length;simp only[C9]at e;omega
theorem Inv.tuple(I:Inv X Zd Z H s)(h:Al X.K H a xs):∃A3:List Value,Vals xs A3/\IsTup s.heap a A3.toArray/\xs.length<=sizeLine:=by
 rcases h with h|⟨o,A3,n,hk,hc,hs,hz,r⟩
 .obtain⟨z,A3,r,p⟩:=h.ok I.AG;exact⟨A3,r,p.1,z⟩
 .refine⟨A3.toList,r,⟨o,I.ED a o hk,hc,n,by simpa using hs⟩,?_⟩
  have e:=r.length;simp only[C9]at e;omega
theorem Inv.eN(I:Inv X Zd Z H s)(h:AK X.K H a xs)(h':AK X.K H a ys):xs=ys:=by
 obtain⟨A3,r,⟨o,n,e,_,_,d⟩,_⟩:=I.list h;obtain⟨its',c,⟨o',f,b,_,_,d'⟩,_⟩:=I.list h';rw[e]at b;cases b;rw[d]at d';injection d' with d1 _
 have:A3=its':=by simpa using pZ Array.toList d1
 subst this;exact r.inj c
theorem Inv.OK(I:Inv X Zd Z H s)(h:Al X.K H a xs)(h':Al X.K H a ys):xs=ys:=by
 obtain⟨A3,r,⟨o,e,_,n,d⟩,_⟩:=I.tuple h;obtain⟨its',c,⟨o',b,_,f,d'⟩,_⟩:=I.tuple h';rw[e]at b;cases b;rw[d]at d';injection d' with d1 _
 have:A3=its':=by simpa using pZ Array.toList d1
 subst this;exact r.inj c
end
noncomputable abbrev Cx.IB(X:Cx)(E:Value->Shared->Prop):Cx:={ X with xe:=E }
noncomputable abbrev Cx.HI(X:Cx):Cx:=X.IB λ_ _=>False
theorem Cx.Ok.IB(ok:X.Ok)(E:Value->Shared->Prop):(X.IB E).Ok:=
 ⟨ok.mod,ok.kind,ok.glob,ok.blt,ok.above,ok.inj,ok.has,ok.N9,ok.hd,ok.frames,ok.Pw,ok.QX,ok.bs,ok.Hw,ok.NC,ok.NZ,ok.Fq,ok.Jg⟩
theorem Cx.Ok.Ji(ok:(X.IB E).Ok):X.Ok:=
 ⟨ok.mod,ok.kind,ok.glob,ok.blt,ok.above,ok.inj,ok.has,ok.N9,ok.hd,ok.frames,ok.Pw,ok.QX,ok.bs,ok.Hw,ok.NC,ok.NZ,ok.Fq,ok.Jg⟩
section
theorem Inv.IB(I:Inv X Zd Z H s)(E:Value->Shared->Prop):Inv (X.IB E) Zd Z H s:=⟨I.ok.IB E,I.os,I.bare,I.base,I.loc,I.cell,I.free,I.Fx,I.pin,I.AG,I.len⟩
theorem Inv.Ji(I:Inv (X.IB E) Zd Z H s):Inv X Zd Z H s:=⟨I.ok.Ji,I.os,I.bare,I.base,I.loc,I.cell,I.free,I.Fx,I.pin,I.AG,I.len⟩
theorem SP.Ji{D:Ends}{f:Flow}(h:SP (X.IB E) Zd D f s'):SP X Zd D f s':=by
 cases f with
 |next=>obtain⟨σ',H',I,q⟩:=h;exact⟨σ',H',I.Ji,q⟩
 |brk=>obtain⟨σ',H',I,q⟩:=h;exact⟨σ',H',I.Ji,q⟩
 |cont=>obtain⟨σ',H',I,q⟩:=h;exact⟨σ',H',I.Ji,q⟩
 |ret u=>obtain⟨v,σ',H',I,r,q⟩:=h;exact⟨v,σ',H',I.Ji,r,q⟩
theorem EO.HI{st:List Stmt}{t:TS}(h:EO X.HI st t):EO X st t:=λZd s Z H D I hw=>
 qP (h Zd s Z H D (I.IB _) hw) (λ_ _ q=>q.Ji) λ_ _ z=>False.elim z
variable{st:Stmt}{rest:List Stmt}{t u:TS}
def Sd:TS:=λD Z H=>D.nx Z H
def N1(t u:TS):TS:=λD Z H=>t { D with nx:=u D } Z H
theorem xw(h1:PS X st t)(h2:EO X rest u):EO X (st::rest) (N1 t u):=by
 intro Zd s Z H D I h;refine wpAny_execs_cons (B4 (h1 Zd s Z H { D with nx:=u D } I h) λf s1 q=>?_)
 cases f with
 |next=>
  obtain⟨σ',H',I',q⟩:=q;exact h2 Zd s1 σ' H' D I' q
 |ret v=>exact q
 |brk=>exact q
 |cont=>exact q
theorem ZBT(h1:PS X st t):EO X [st] t:=by
 intro Zd s Z H D I h;refine wpAny_execs_cons (B4 (h1 Zd s Z H D I h) λf s1 q=>?_);cases f with
 |next=>exact ZAj q
 |ret v=>exact q
 |brk=>exact q
 |cont=>exact q
theorem Inv.quiet(I:Inv X Zd Z H s):interactive X.env=false:=by simp[interactive,I.ok.kind]
def Kg(te:TE):TS:=λD Z H=>te Z H λ_ H1=>D.nx Z H1
def Fb(te:TE):TS:=λD Z H=>te Z H D.rt
def MM(c:TT)(t u:TS):TS:=λD Z H=>c Z H λb H1=>if b=true then t D Z H1 else u D Z H1
def d6:TS:=λ_ _ _=>False
end
abbrev TG:=V->St->Hp->(St->Hp->Prop)->Prop
abbrev HN:=List V->St->Hp->(St->Hp->Prop)->Prop
def PG(X:Cx)(a:Expr)(t:TG):Prop:=
 ∀(Zd:ZDw)(s:Shared)(Z:St)(H:Hp)(v:V)(u:Value)(Q:St->Hp->Prop),Inv X Zd Z H s->RelV v u->t v Z H Q->
  wpAny (model X.prog X.w) X.A (assign a X.env u) (λ_ s'=>∃ σ' H',Inv X Zd σ' H' s'/\Q σ' H') X.xe s
def MI(X:Cx)(a:List Expr)(t:HN):Prop:=
 ∀(Zd:ZDw)(s:Shared)(Z:St)(H:Hp)(vs:List V)(us:List Value)(Q:St->Hp->Prop),Inv X Zd Z H s->Vals vs us->t vs Z H Q->
  wpAny (model X.prog X.w) X.A (assignInOrder ((assignEach a X.env).map (·.2)) us) (λ_ s'=>∃ σ' H',Inv X Zd σ' H' s'/\Q σ' H') X.xe s
abbrev RV:=V->V->V->Hp->(Hp->Prop)->Prop
def TM(X:Cx)(t:RV):Prop:=
 ∀(Zd:ZDw)(s:Shared)(Z:St)(H:Hp)(o i v:V)(a b u:Value)(Q:Hp->Prop),Inv X Zd Z H s->RelV o a->RelV i b->RelV v u->t o i v H Q->
  wpAny (model X.prog X.w) X.A (setItem a b u) (λ_ s'=>∃H',Inv X Zd Z H' s'/\Q H') X.xe s
def D8(i:Nat):TG:=λv Z H Q=>Q (Z.set i (some v)) H
theorem Tj(b:X.N.Nodup)(hi:X.N[i]?=some x)(hx:Loc X.env.scope x)(a:X.fn x=true∨X.env.scope.names.lookup x=some .local:=by first|exact .inl rfl|exact .inr rfl|assumption):PG X (.Name x pos) (D8 i):=by
 intro Zd s Z H v u Q I r h;exact wpAny_assign_Name (aF I b hi hx r (λs' I'=>⟨_,H,I',h⟩) a)
def NG:HN:=λvs Z H Q=>vs=[]/\Q Z H
def KA(t:TG)(u:HN):HN:=λvs Z H Q=>∃v r,vs=v::r/\t v Z H λσ' H'=>u r σ' H' Q
theorem iM:MI X [] NG:=by
 intro Zd s Z H vs us Q I r h;obtain⟨e,h⟩:=h;subst e;cases r;exact assignInOrder_nil ⟨Z,H,I,h⟩
theorem Zs{t:TG}{u:HN}(h1:PG X e t)(h2:MI X es u)
  (d:(assignEach (e::es) X.env).map (·.2)=assign e X.env::(assignEach es X.env).map (·.2):=by rfl):MI X (e::es) (KA t u):=by
 intro Zd s Z H vs us Q I r h;obtain⟨v,f,e1,h⟩:=h;subst e1;cases r with
 |cons r a=>
  rw[d];refine assignInOrder_cons (B4 (h1 Zd s Z H _ _ _ I r h) λ_ s1 c=>?_);obtain⟨σ1,H1,I1,b⟩:=c;exact h2 Zd s1 σ1 H1 _ _ Q I1 a b
def KI(K:ZDv)(n:Nat)(t:HN):TG:=λv Z H Q=>∃a xs,v=.ref a/\Al K H a xs/\xs.length=n/\t xs Z H Q
theorem ba{k:Nat}{t:HN}(j:X.calm=true)(h:MI X es t)
  (g:(assignEach es X.env).length=n:=by rfl) (Ef:(assignEach es X.env).findIdx? (·.1)=none:=by rfl):PG X (.Tuple es k pos) (KI X.K n t):=by
 intro Zd s Z H v u Q I r hw;obtain⟨a,xs,e1,f,i,hw⟩:=hw;subst e1;cases r;obtain⟨A3,c,d,m⟩:=I.tuple f;refine assign_Tuple_tuple (I.ok.hd j) d (by simp[g,<- i,c.length]) Ef λh' hx=>?_;have l:Inv X Zd Z H { s with heap:=h' }:=I.kept (t':=s.toks) λb o e=>hx b o (An (AU e)) e
 exact h Zd _ Z H xs _ Q l (by simpa using c) hw
def Nl(to ti:TE)(t:RV):TG:=λv Z H Q=>to Z H λo H1=>ti Z H1 λi H2=>t o i v H2 λH3=>Q Z H3
def EH(te:TE)(g:TG):TS:=λD Z H=>te Z H λx H1=>g x Z H1 D.nx
def Uy(c:TT)(tb:TS):TS:=λD Z H=>∃W:Nat->St->Hp->Prop,(∃m,W m Z H)/\∀m Z H,W m Z H->
 c Z H λb H1=>if b=true then ∃N:St->Hp->Prop,(∀ σ' H',N σ' H'->∃a,a < m/\W a σ' H')/\tb { D with nx:=N,ct:=N,bk:=D.nx } Z H1 else D.nx Z H1
structure It where
 go:Nat->Hp->Prop
 Dy:Nat->Hp->V->Hp->Prop
 stop:Nat->Hp->Prop
def Eh(X:Cx)(Zd:ZDw)(H:Hp)(b:Addr):Prop:=
 H b=none/\b≠X.env.locals/\b∉X.fs/\(b∈X.ex∨X.s₀.heap.objs.size<=b)/\(∀x c,X.env.cells.lookup x=some c->c≠b)/\∀p∈X.pn++Zd,p.1≠b
theorem Inv.Mt(I:Inv X Zd Z H s)(a:s.heap.objs.size<=b)(f:H' b=none):Eh X Zd H' b:=by
 refine⟨f,DQ (CS I.lt a),I.OF a,.inr (CL I.sz a),λx c e z=>?_,λp d z=>?_⟩
 .obtain⟨v,q⟩:=I.cell x c e;exact absurd (CS q.lt (by rw[z];exact a)) (N6 _)
 .exact absurd (CS (AU (I.pin p d).1) (by rw[z];exact a)) (N6 _)
structure Turn (P:Program) (w:World) (K:ZDv) (tg:Expr) (J:It) (fp:List Addr) (it:Addr) (tn:Nat->Heap->Prop):Prop where
 mem:it∈fp
 obj:∀i h,tn i h->∀b∈fp,∃o,h.get? b=some o/\∀v,o.data≠.cell v
 keep:∀i h h',tn i h->(∀b∈fp,∀o,h.get? b=some o->h'.get? b=some o)->tn i h'
 item:∀(X:Cx),X.prog=P->X.w=w->X.K=K->X.calm=true->∀(i:Nat)(Zd:ZDw)(s:Shared)(Z:St)(H:Hp)(E:Value->Shared->Prop),Inv X Zd Z H s->(∀b∈fp,Eh X Zd H b)->tn i s.heap->J.go i H->
  wpAny (model P w) X.A (pyNext (.ref it)) (λr s1=>∃u,r=some u/\
   wpAny (model P w) X.A (letOwnedTupleGo tg (.ref it) u) (λ_ s2=>∃x H',Inv X Zd Z H' s2/\RelV x u/\J.Dy i H x H'/\tn (i+1) s2.heap/\∀b∈fp,H' b=none) E s1) E s
 done:∀(X:Cx),X.prog=P->X.w=w->X.K=K->X.calm=true->∀(i:Nat)(Zd:ZDw)(s:Shared)(Z:St)(H:Hp)(E:Value->Shared->Prop),Inv X Zd Z H s->(∀b∈fp,Eh X Zd H b)->tn i s.heap->J.stop i H->
  wpAny (model P w) X.A (pyNext (.ref it)) (λr s1=>r=none/\Inv X Zd Z H s1) E s
 self:∀(A:Around)(i:Nat)(s:Shared)(Q:Value->Shared->Prop)(E:Value->Shared->Prop),tn i s.heap->Q (.ref it) s->wpAny (model P w) A (pyIter (.ref it)) Q E s
abbrev TI:=St->Hp->(It->Hp->Prop)->Prop
def gj(X:Cx)(Zd:ZDw)(Z:St)(tg:Expr)(R:It->Hp->Prop)(Qe:Value)(s2:Shared):Prop:=
 ∃(it:Addr)(fp:List Addr)(tn:Nat->Heap->Prop)(J:It)(H':Hp),Qe=.ref it/\Inv X Zd Z H' s2/\Turn X.prog X.w X.K tg J fp it tn/\tn 0 s2.heap/\(∀b∈fp,Eh X Zd H' b)/\R J H'
def PI(X:Cx)(tg iter:Expr)(wi:TI):Prop:=
 ∀(Zd:ZDw)(s:Shared)(Z:St)(H:Hp)(R:It->Hp->Prop),Inv X Zd Z H s->wi Z H R->
  wpAny (model X.prog X.w) X.A (eval iter X.env) (λv s1=>wpAny (model X.prog X.w) X.A (pyIter v) (gj X Zd Z tg R) X.xe s1) X.xe s
theorem UQ{o:Obj}{n:String}{vs:Array Value}{Q:Unit->Shared->Prop}(ho:s.heap.get? it=some o)(c:o.cls=.type n)(hd:o.data=.fields vs)
  (b:["enumerate","zip","dict_itemiterator","dict_reverseitemiterator","odict_iterator","itertools.zip_longest","itertools.pairwise"].contains n=false) (a:Q () s):wpAny M A (letOwnedTupleGo tg (.ref it) u) Q E s:=by
 unfold letOwnedTupleGo;cases tg <;> first
  |exact k4 a
  | (cases u <;> first
    |exact k4 a
    | (
      refine dP (ZAo ho ?_);rw[c,hd];show wpAny M A (if(["enumerate","zip","dict_itemiterator","dict_reverseitemiterator","odict_iterator","itertools.zip_longest","itertools.pairwise"].contains n && vs[0]? == some (rawInt _))=true then _ else _) Q E s
      rw[mD (by intro h;rw[b,T1]at h;cases h)];exact k4 a))
noncomputable def Itl(K:ZDv)(a:Addr):It:=
 ⟨λi H=>∃xs x,AK K H a xs/\xs[i]?=some x,λi H x H'=>H'=H/\∀xs,AK K H a xs->xs[i]?=some x,λi H=>∃xs,AK K H a xs/\xs.length<=i⟩
noncomputable def mE(K:ZDv)(a:Addr):It:=
 ⟨λi H=>∃xs x,Al K H a xs/\xs[i]?=some x,λi H x H'=>H'=H/\∀xs,Al K H a xs->xs[i]?=some x,λi H=>∃xs,Al K H a xs/\xs.length<=i⟩
noncomputable def Kh(lo:Int)(n:Nat):It:=⟨λi _=>i<n,λi H x H'=>H'=H/\x=.int (lo+i),λi _=>n<=i⟩
theorem P7{P:Program}{K:ZDv}(a it:Addr):Turn P w K tg (Itl K a) [it] it (λi h=>h.IsListIter it a i) where
 mem:=by simp
 obj:=λi h st b f=>by
  have e:b=it:=by simpa using f
  subst e;obtain⟨o,e,c,d⟩:=st;exact⟨o,e,λv z=>by rw[d]at z;cases z⟩
 keep:=λi h h' st k=>st.at λo e=>k it (by simp) o e
 item:=by
  intro X n hw q B i Zd s Z H E I j st m;subst n hw q;obtain⟨xs,x,g,hx⟩:=m;obtain⟨A3,l,p,F⟩:=I.list g;obtain⟨u,J,D⟩:=l.get hx;obtain⟨f0,A,L,y,t,r⟩:=j it (by simp);refine wpAny_pyNext_list_item st p.isList (x:=u) (by simpa using J) λh' FY C=>?_
  have N:Inv X Zd Z H { s with heap:=h' }:=I.turned (t':=s.toks) (λb o f e=>(C.2 b f).trans e) f0 A y t r
  obtain⟨o,e,c,d⟩:=id FY;exact⟨u,rfl,UQ (s:={ s with heap:=h' }) e c d (by decide) ⟨x,H,N,D,⟨rfl,λys G=>by rw[I.eN G g];exact hx⟩,FY,λb f=>(j b f).1⟩⟩
 done:=by
  intro X n hw q B i Zd s Z H E I j st m;subst n hw q;obtain⟨xs,g,hx⟩:=m;obtain⟨A3,l,p,F⟩:=I.list g;obtain⟨f0,A,L,y,t,r⟩:=j it (by simp);have O:=l.length;exact wpAny_pyNext_list_end (I.ok.hd B) st p.isList (by simp;omega) λh' M=>⟨rfl,I.turned (t':=s.toks) (λb o f e=>M b o f e) f0 A y t r⟩
 self:=λ_ _ _ _ _ st h=>wpAny_pyIter_listiter st h
theorem Nd{P:Program}{K:ZDv}(a it:Addr):Turn P w K tg (mE K a) [it] it (λi h=>h.IsTupleIter it a i) where
 mem:=by simp
 obj:=λi h st b f=>by
  have e:b=it:=by simpa using f
  subst e;obtain⟨o,e,c,d⟩:=st;exact⟨o,e,λv z=>by rw[d]at z;cases z⟩
 keep:=λi h h' st k=>st.at λo e=>k it (by simp) o e
 item:=by
  intro X n hw q B i Zd s Z H E I j st m;subst n hw q;obtain⟨xs,x,g,hx⟩:=m;obtain⟨A3,l,p,F⟩:=I.tuple g;obtain⟨u,J,D⟩:=l.get hx;obtain⟨f0,A,L,y,t,r⟩:=j it (by simp);refine wpAny_pyNext_tuple_item st (show s.heap.IsTuple a A3.toArray from p) (x:=u) (by simpa using J) λh' FY C=>?_
  have N:Inv X Zd Z H { s with heap:=h' }:=I.turned (t':=s.toks) (λb o f e=>(C.2 b f).trans e) f0 A y t r
  obtain⟨o,e,c,d⟩:=id FY;exact⟨u,rfl,UQ (s:={ s with heap:=h' }) e c d (by decide) ⟨x,H,N,D,⟨rfl,λys G=>by rw[I.OK G g];exact hx⟩,FY,λb f=>(j b f).1⟩⟩
 done:=by
  intro X n hw q B i Zd s Z H E I j st m;subst n hw q;obtain⟨xs,g,hx⟩:=m;obtain⟨A3,l,p,F⟩:=I.tuple g;obtain⟨f0,A,L,y,t,r⟩:=j it (by simp);have O:=l.length;exact wpAny_pyNext_tuple_end (I.ok.hd B) st (show s.heap.IsTuple a A3.toArray from p) (by simp;omega) λh' M=>⟨rfl,I.turned (t':=s.toks) (λb o f e=>M b o f e) f0 A y t r⟩
 self:=λ_ _ _ _ _ st h=>wpAny_pyIter_tupleiter st h
theorem ZBD{P:Program}{K:ZDv}(it:Addr)(lo:Int)(n:Nat):Turn P w K tg (Kh lo n) [it] it (λi h=>IsRangeIter h it (lo+(i:Nat) * 1) ((n:Int) - (i:Nat)) 1) where
 mem:=by simp
 obj:=λi h st b a=>by
  have e:b=it:=by simpa using a
  subst e;exact⟨_,st,λv z=>by
   have r:Data.fields _=Data.cell v:=z;cases r⟩
 keep:=λi h h' st k=>k it (by simp) _ st
 item:=by
  intro X g hw j f i Zd s Z H E I c st d;subst g hw j;obtain⟨f0,q,x,p,m,l⟩:=c it (by simp);have W:=Walks.range (prog:=X.prog) (w:=X.w) (I.ok.hd f) it lo 1 n;refine W.item i s _ _ d st λv h' tk u FY kk=>?_;obtain⟨t,rfl⟩:=u;have A:Inv X Zd Z H { s with heap:=h',toks:=tk }:=I.turned (λb o a e=>kk b o (by simpa using a) e) f0 q p m l
  refine⟨_,rfl,UQ (s:={ s with heap:=h',toks:=tk }) (n:="range_iterator") FY rfl rfl (by decide) ⟨.int (lo+i),H,A,⟨t,?_⟩,⟨rfl,rfl⟩,FY,λb a=>(c b a).1⟩⟩
  rw[Int.mul_one]
 done:=by
  intro X g hw j f i Zd s Z H E I c st d;subst g hw j;obtain⟨f0,q,x,p,m,l⟩:=c it (by simp);exact wpAny_pyNext_range_end (I.ok.hd f) st (by have:n<=i:=d;omega) λh' y=>⟨rfl,I.turned (t':=s.toks) (λb o a e=>y b o a e) f0 q p m l⟩
 self:=λ_ _ _ _ _ st h=>wpAny_pyIter_rangeiter st h
theorem fq{R:It->Hp->Prop}{lo hi:Int}{t u v:Tok}(I:Inv X Zd Z H s)(h1:-(2 ^ 62)<=lo)(h2:lo<2 ^ 62)(f:-(2 ^ 62)<=hi)(d:hi<2 ^ 62)
  (q:R (Kh lo (hi - lo).toNat) H):wpAny (model X.prog X.w) X.A (pyIter (.ref s.heap.objs.size)) (gj X Zd Z tg R) E { s with heap:=s.heap.push { cls:=.type "range", data:=.fields #[.int lo t,.int hi u,.int 1 v] },toks:=tk }:=by
 refine wpAny_pyIter_range (IsRange.new ..) (small_one h1 h2 f d) ?_;have a:Inv X Zd Z H { s with heap:=s.heap.push { cls:=.type "range", data:=.fields #[.int lo t,.int hi u,.int 1 v] },toks:=tk }:=I.kept λb o e=>Aj _ e
 refine⟨(s.heap.push { cls:=.type "range", data:=.fields #[.int lo t,.int hi u,.int 1 v] }).objs.size,[(s.heap.push { cls:=.type "range", data:=.fields #[.int lo t,.int hi u,.int 1 v] }).objs.size],_,_,H,rfl,
  a.kept (t':=tk) λb o e=>Aj _ e,ZBD _ lo (hi - lo).toNat,?_,λb c=>?_,q⟩
 .have e1:lo+((0:Nat):Int) * 1=lo:=by simp
  have g:(((hi - lo).toNat:Nat):Int) - ((0:Nat):Int)=Builtin.Range.rangeSize lo hi 1:=by rw[rangeSize_one];split <;> omega
  show IsRangeIter _ _ (lo+((0:Nat):Int) * 1) ((((hi - lo).toNat:Nat):Int) - ((0:Nat):Int)) 1;rw[e1,g];exact B1 _ rfl
 .have e:b=(s.heap.push { cls:=.type "range", data:=.fields #[.int lo t,.int hi u,.int 1 v] }).objs.size:=by simpa using c
  subst e;exact a.Mt (Aa _) (a.AG.fresh (Aa _))
def RS(ta:TA):TI:=λZ H R=>ta Z H λvs H1=>∃j:Int,vs=[.int j]/\-(2 ^ 62)<=j/\j<2 ^ 62/\R (Kh 0 j.toNat) H1
def Wr(ta:TA):TI:=λZ H R=>ta Z H λvs H1=>∃i j:Int,vs=[.int i,.int j]/\(-(2 ^ 62)<=i/\i<2 ^ 62/\-(2 ^ 62)<=j/\j<2 ^ 62)/\R (Kh i (j - i).toNat) H1
def Uo(wi:TI)(g:TG)(tb:TS):TS:=λD Z H=>wi Z H λJ H1=>∃W:Nat->Nat->St->Hp->Prop,(∃m,W 0 m Z H1)/\∀i m Z H,W i m Z H->
 (J.stop i H/\D.nx Z H)∨(J.go i H/\∃N:St->Hp->Prop,(∀ σ' H',N σ' H'->∃a,a < m/\W (i+1) a σ' H')/\∀x H',J.Dy i H x H'->g x Z H' λσ2 H2=>tb { D with nx:=N,ct:=N,bk:=D.nx } σ2 H2)
noncomputable def P8(fp:List Addr)(h:Heap):ZDw:=fp.filterMap λb=>(h.get? b).map λo=>(b,o)
theorem SE{h:Heap}{o:Obj}(a:b∈fp)(e:h.get? b=some o):(b,o)∈P8 fp h:=List.mem_filterMap.mpr ⟨b,a,by rw[e];rfl⟩
theorem ur{h:Heap}{p:Addr×Obj}(a:p∈P8 fp h):p.1∈fp/\h.get? p.1=some p.2:=by
 obtain⟨b,c,e⟩:=List.mem_filterMap.mp a;cases q:h.get? b with
 |none=>rw[q]at e;cases e
 |some o=>
  rw[q]at e;have d:(b,o)=p:=BW e;subst d;exact⟨c,q⟩
theorem Inv.pinned(I:Inv X Zd Z H s)(g:∀b∈fp,Eh X Zd H b)(ho:∀b∈fp,∃o,s.heap.get? b=some o/\∀v,o.data≠.cell v):Inv X (Zd++P8 fp s.heap) Z H s:=
 I.j7 λp f=>(List.mem_append.mp f).elim (λz=>I.pin p (C5 _ z)) λz=>by
  obtain⟨a,e⟩:=ur z;obtain⟨f0,i,h,_⟩:=g p.1 a;obtain⟨o,c,d⟩:=ho p.1 a;rw[e]at c;cases c;exact⟨e,f0,i,h,d⟩
theorem Inv.NR{pl:ZDw}(I:Inv X (Zd++pl) Z H s):Inv X Zd Z H s:=I.j7 λp a=>I.pin p (C5 _ (Dm _ a))
theorem lM{lo:Int}{g:TG}{tb:TS}{D:Ends}(Pv:Nat->St->Hp->Prop)(f:Pv 0 Z H)
  (d:∀i Z H,i<n->Pv i Z H->g (.int (lo+i)) Z H λσ2 H2=>tb { D with nx:=Pv (i+1),ct:=Pv (i+1),bk:=D.nx } σ2 H2) (hd:∀ Z H,Pv n Z H->D.nx Z H) :
  ∃W:Nat->Nat->St->Hp->Prop,(∃m,W 0 m Z H)/\∀i m Z H,W i m Z H->
   ((Kh lo n).stop i H/\D.nx Z H)∨((Kh lo n).go i H/\∃N:St->Hp->Prop,(∀ σ' H',N σ' H'->∃b,b < m/\W (i+1) b σ' H')/\∀x H',(Kh lo n).Dy i H x H'->g x Z H' λσ2 H2=>tb { D with nx:=N,ct:=N,bk:=D.nx } σ2 H2):=by
 refine⟨λi m Z H=>m=n - i/\i<=n/\Pv i Z H,⟨n,by simp,Bm _,f⟩,?_⟩;rintro i m Z H⟨rfl,hi,p⟩
 by_cases a:i<n
 .refine .inr ⟨a,Pv (i+1),λσ' H' c=>⟨n - (i+1),by omega,rfl,a,c⟩,λx H' y=>?_⟩;obtain⟨e,y⟩:=y;subst e y;exact d i Z _ a p
 .have e:i=n:=by omega
  subst e;exact .inl ⟨Aa _,hd Z H p⟩
abbrev R2:=V->V->Hp->VK->Prop
def B0(X:Cx)(f:Value->Value->Sem Value)(r:R2):Prop:=
 ∀(Zd:ZDw)(s:Shared)(Z:St)(H:Hp)(x y:V)(v u:Value)(Q:VK),Inv X Zd Z H s->RelV x v->RelV y u->r x y H Q->
  wpAny (model X.prog X.w) X.A (f v u) (EP X Zd Z Q) X.xe s
def Pm(X:Cx)(f:Value->Sem Value)(r:V->Hp->VK->Prop):Prop:=
 ∀(Zd:ZDw)(s:Shared)(Z:St)(H:Hp)(x:V)(v:Value)(Q:VK),Inv X Zd Z H s->RelV x v->r x H Q->
  wpAny (model X.prog X.w) X.A (f v) (EP X Zd Z Q) X.xe s
def Bk(X:Cx)(f:Value)(r:List V->Hp->VK->Prop):Prop:=
 ∀(Zd:ZDw)(s:Shared)(Z:St)(H:Hp)(xs:List V)(us:List Value)(Q:VK),Inv X Zd Z H s->Vals xs us->r xs H Q->
  wpAny (model X.prog X.w) X.A (call f us) (EP X Zd Z Q) X.xe s
def Au(r:R2)(ta tb:TE):TE:=λZ H Q=>ta Z H λx H1=>tb Z H1 λy H2=>r x y H2 Q
def SO(r:V->Hp->VK->Prop)(ta:TE):TE:=λZ H Q=>ta Z H λx H1=>r x H1 Q
def rI(C:Int->Int->Prop)(g:Int->Int->V):R2:=λx y H Q=>∃i j,x=.int i/\y=.int j/\C i j/\Q (g i j) H
def GZ(g:Int->Int->V):R2:=λx y H Q=>∃i j,x=.int i/\y=.int j/\Q (g i j) H
def rU(g:Int->V):V->Hp->VK->Prop:=λx H Q=>∃i,x=.int i/\Q (g i) H
section
variable{a b c:Expr}
theorem WG(m:PE X a ta)(l:PE X b tb){R:V->V->Hp->Prop}(I:Inv X Zd Z H s)
  (h:ta Z H λx H1=>tb Z H1 λy H2=>R x y H2)
  (k:∀v u s2 x y H2,Inv X Zd Z H2 s2->RelV x v->RelV y u->R x y H2->wpAny (model X.prog X.w) X.A (f v u) Q X.xe s2) :
  wpAny (model X.prog X.w) X.A (eval a X.env) (λv s₁=>wpAny (model X.prog X.w) X.A (eval b X.env) (λu d=>wpAny (model X.prog X.w) X.A (f v u) Q X.xe d) X.xe s₁) X.xe s:=by
 refine B4 (m Zd s Z H _ I h) λv s1 Tn=>?_;obtain⟨x,H1,I1,g,j⟩:=Tn;refine B4 (l Zd s1 Z H1 _ I1 j) λu s2 c=>?_;obtain⟨y,H2,I2,e,i⟩:=c;exact k v u s2 x y H2 I2 g e i
theorem Ql{C:Int->Int->Prop}{g:Int->Int->Int}
  (rule:∀(i j:Int)(t u:Tok)(s:Shared)(Q:Value->Shared->Prop)(E:Value->Shared->Prop),C i j->Q (.int (g i j) s.toks) { s with toks:=s.toks+1 }->wpAny (model X.prog X.w) X.A (f (.int i t) (.int j u)) Q E s) :
  B0 X f (rI C λi j=>.int (g i j)):=by
 intro Zd s Z H x y v u Q I b a h;obtain⟨i,j,rfl,rfl,c,q⟩:=h;obtain⟨t,rfl⟩:=b;obtain⟨t',rfl⟩:=a;exact rule i j t t' s _ _ c ⟨.int (g i j),H,I.tok _,⟨_,rfl⟩,q⟩
theorem ai{g:Int->Int->Int}
  (rule:∀(i j:Int)(t u:Tok)(s:Shared)(Q:Value->Shared->Prop)(E:Value->Shared->Prop),Q (.int (g i j) s.toks) { s with toks:=s.toks+1 }->wpAny (model X.prog X.w) X.A (f (.int i t) (.int j u)) Q E s) :
  B0 X f (GZ λi j=>.int (g i j)):=by
 intro Zd s Z H x y v u Q I b a h;obtain⟨i,j,rfl,rfl,q⟩:=h;obtain⟨t,rfl⟩:=b;obtain⟨t',rfl⟩:=a;exact rule i j t t' s _ _ ⟨.int (g i j),H,I.tok _,⟨_,rfl⟩,q⟩
theorem Q8{g:Int->Int->Bool}
  (rule:∀(i j:Int)(t u:Tok)(s:Shared)(Q:Value->Shared->Prop)(E:Value->Shared->Prop),Q (.bool (g i j)) s->wpAny (model X.prog X.w) X.A (f (.int i t) (.int j u)) Q E s) :
  B0 X f (GZ λi j=>.bl (g i j)):=by
 intro Zd s Z H x y v u Q I b a h;obtain⟨i,j,rfl,rfl,q⟩:=h;obtain⟨t,rfl⟩:=b;obtain⟨t',rfl⟩:=a;exact rule i j t t' s _ _ ⟨.bl (g i j),H,I,rfl,q⟩
def ZT(i j:Int):Prop:=0<=j/\j<=1000000/\i.natAbs<2 ^ 64
theorem D7:B0 X (binaryOp .Add) (GZ λi j=>.int (i+j)):=ai λ_ _ _ _ _ _ _ q=>add_int q
theorem Jq:B0 X (binaryOp .Sub) (GZ λi j=>.int (i - j)):=ai λ_ _ _ _ _ _ _ q=>sub_int q
theorem KG:B0 X (binaryOp .Mod) (rI (λ_ j=>0<j) λi j=>.int (i % j)):=Ql λi j _ _ _ _ _ a q=>by
 have h1:(0:Int)<j:=a;exact mod_int' (by omega) (by rw[Int.fmod_eq_emod_of_nonneg i (by omega)];exact q)
theorem LH:B0 X (binaryOp .Pow) (rI ZT λi j=>.int (i ^ j.toNat)):=Ql λ_ _ _ _ _ _ _ a q=>pow_int_small a.1 a.2.1 a.2.2 q
theorem pT{f:Value->Sem Value}{g:Int->Int}
  (rule:∀(i:Int)(t:Tok)(s:Shared)(Q:Value->Shared->Prop)(E:Value->Shared->Prop),Q (.int (g i) s.toks) { s with toks:=s.toks+1 }->wpAny (model X.prog X.w) X.A (f (.int i t)) Q E s) :
  Pm X f (rU λi=>.int (g i)):=by
 intro Zd s Z H x v Q I a h;obtain⟨i,rfl,q⟩:=h;obtain⟨t,rfl⟩:=a;exact rule i t s _ _ ⟨.int (g i),H,I.tok _,⟨_,rfl⟩,q⟩
theorem RE:Pm X (unaryOp .USub) (rU λi=>.int (-i)):=pT λ_ _ _ _ _ q=>neg_int q
end
noncomputable def U0:V->V->Bool
 | .A9,.A9=>true | .A9,.int _=>true | .int _,.A9=>true | .A9,.bl _=>true | .bl _,.A9=>true | .A9,.str _=>true | .str _,.A9=>true
 | .int _,.int _=>true | .bl _,.bl _=>true | .str _,.str _=>true | .Hb _,.Hb _=>true
 | .int _,.str _=>true | .str _,.int _=>true | .bl _,.str _=>true | .str _,.bl _=>true
 |_,_=>false
def eU:R2:=λx y H Q=>U0 x y=true/\Q (.bl (decide (x=y))) H
def aX:R2:=λx y H Q=>U0 x y=true/\Q (.bl (!decide (x=y))) H
theorem dI{i j:Int}:decide (V.int i=V.int j)=(i == j):=by
 rw[Hf];simp
theorem bO{i j:Bool}:decide (V.bl i=V.bl j)=(i == j):=by
 rw[Hf];simp
theorem iD{i j:Str}:decide (V.str i=V.str j)=(i == j):=by
 rw[Hf];simp
theorem cZ{i j:Array UInt8}:decide (V.Hb i=V.Hb j)=(i.toList == j.toList):=by
 rw[Hf];cases i;cases j;simp
section
variable{a b c:Expr}
theorem C4{Q:VK}{k k':Bool}(I:Inv X Zd Z H s)(q:Q (.bl k) H)(e:k=k'):EP X Zd Z Q (.bool k') s:=by
 subst e;exact⟨.bl k,H,I,rfl,q⟩
theorem DS:B0 X (compareOp .Eq) eU:=by
 intro Zd s Z H x y v u Q I c a h;obtain⟨b,q⟩:=h;cases x with
 |A9=>
  cases c;cases y with
  |A9=>cases a;exact PySem.EqNone.eq_none_none (C4 I q (by simp))
  |bl j=>cases a;exact PySem.EqNone.eq_none_bool (C4 I q (by simp))
  |int j=>obtain⟨t',rfl⟩:=a;exact PySem.EqNone.eq_none_int (C4 I q (by simp))
  |str j=>obtain⟨t',rfl⟩:=a;exact PySem.EqNone.eq_none_str (C4 I q (by simp))
  |_=>exact absurd (show false=true from b) DO
 |bl i=>
  cases c;cases y with
  |A9=>cases a;exact PySem.EqNone.eq_bool_none (C4 I q (by simp))
  |bl j=>cases a;exact eq_bool (C4 I q bO)
  |str j=>obtain⟨t',rfl⟩:=a;exact PySem.EqMixed.eq_bool_str (C4 I q (by simp))
  |_=>exact absurd (show false=true from b) DO
 |int i=>
  obtain⟨t,rfl⟩:=c;cases y with
  |A9=>cases a;exact PySem.EqNone.eq_int_none (C4 I q (by simp))
  |int j=>obtain⟨t',rfl⟩:=a;exact eq_int (C4 I q dI)
  |str j=>obtain⟨t',rfl⟩:=a;exact PySem.EqMixed.eq_int_str (C4 I q (by simp))
  |_=>exact absurd (show false=true from b) DO
 |str i=>
  obtain⟨t,rfl⟩:=c;cases y with
  |A9=>cases a;exact PySem.EqNone.eq_str_none (C4 I q (by simp))
  |bl j=>cases a;exact PySem.EqMixed.eq_str_bool (C4 I q (by simp))
  |int j=>obtain⟨t',rfl⟩:=a;exact PySem.EqMixed.eq_str_int (C4 I q (by simp))
  |str j=>obtain⟨t',rfl⟩:=a;exact eq_str (C4 I q iD)
  |_=>exact absurd (show false=true from b) DO
 |Hb i=>
  obtain⟨t,rfl⟩:=c;cases y with
  |Hb j=>obtain⟨t',rfl⟩:=a;exact PySem.W.eq_bytes (C4 I q cZ)
  |_=>exact absurd (show false=true from b) DO
 |_=>cases y <;> exact absurd (show false=true from b) DO
theorem LX:B0 X (compareOp .NotEq) aX:=by
 intro Zd s Z H x y v u Q I c a h;obtain⟨b,q⟩:=h;cases x with
 |A9=>
  cases c;cases y with
  |A9=>cases a;exact PySem.EqNone.ne_none_none (C4 I q (by simp))
  |bl j=>cases a;exact PySem.EqNone.ne_none_bool (C4 I q (by simp))
  |int j=>obtain⟨t',rfl⟩:=a;exact PySem.EqNone.ne_none_int (C4 I q (by simp))
  |str j=>obtain⟨t',rfl⟩:=a;exact PySem.EqNone.ne_none_str (C4 I q (by simp))
  |_=>exact absurd (show false=true from b) DO
 |bl i=>
  cases c;cases y with
  |A9=>cases a;exact PySem.EqNone.ne_bool_none (C4 I q (by simp))
  |bl j=>cases a;exact ne_bool (C4 I q (pZ not bO))
  |str j=>obtain⟨t',rfl⟩:=a;exact PySem.EqMixed.ne_bool_str (C4 I q (by simp))
  |_=>exact absurd (show false=true from b) DO
 |int i=>
  obtain⟨t,rfl⟩:=c;cases y with
  |A9=>cases a;exact PySem.EqNone.ne_int_none (C4 I q (by simp))
  |int j=>obtain⟨t',rfl⟩:=a;exact ne_int (C4 I q (pZ not dI))
  |str j=>obtain⟨t',rfl⟩:=a;exact PySem.EqMixed.ne_int_str (C4 I q (by simp))
  |_=>exact absurd (show false=true from b) DO
 |str i=>
  obtain⟨t,rfl⟩:=c;cases y with
  |A9=>cases a;exact PySem.EqNone.ne_str_none (C4 I q (by simp))
  |bl j=>cases a;exact PySem.EqMixed.ne_str_bool (C4 I q (by simp))
  |int j=>obtain⟨t',rfl⟩:=a;exact PySem.EqMixed.ne_str_int (C4 I q (by simp))
  |str j=>obtain⟨t',rfl⟩:=a;exact ne_str (C4 I q (pZ not iD))
  |_=>exact absurd (show false=true from b) DO
 |Hb i=>
  obtain⟨t,rfl⟩:=c;cases y with
  |Hb j=>obtain⟨t',rfl⟩:=a;exact PySem.W.ne_bytes (C4 I q (pZ not cZ))
  |_=>exact absurd (show false=true from b) DO
 |_=>cases y <;> exact absurd (show false=true from b) DO
theorem LA:B0 X (compareOp .Lt) (GZ λi j=>.bl (decide (i<j))):=Q8 λ_ _ _ _ _ _ _ q=>lt_int q
theorem Mm:B0 X (compareOp .LtE) (GZ λi j=>.bl (decide (i<=j))):=Q8 λ_ _ _ _ _ _ _ q=>le_int q
theorem JD:B0 X (compareOp .Gt) (GZ λi j=>.bl (decide (j<i))):=Q8 λ_ _ _ _ _ _ _ q=>gt_int q
theorem Yx:B0 X (compareOp .GtE) (GZ λi j=>.bl (decide (j<=i))):=Q8 λ_ _ _ _ _ _ _ q=>ge_int q
theorem ZAC:B0 X (compareOp .Is) (λx y H Q=>y=.A9/\Q (.bl (decide (x=.A9))) H):=by
 intro Zd s Z H x y v u Q I a b h;obtain⟨rfl,q⟩:=h;cases b;refine is_none_gen (C4 I q ?_);cases x <;> first
  | (cases a;rfl)
  | (obtain⟨t,rfl⟩:=a;rfl)
theorem kP:B0 X (compareOp .IsNot) (λx y H Q=>y=.A9/\Q (.bl (!decide (x=.A9))) H):=by
 intro Zd s Z H x y v u Q I a b h;obtain⟨rfl,q⟩:=h;cases b;refine isnot_none_gen (C4 I q ?_);cases x <;> first
  | (cases a;rfl)
  | (obtain⟨t,rfl⟩:=a;rfl)
theorem ar(b:Expr)(h:op≠.In:=by decide)(h2:op≠.NotIn:=by decide):behindInMarks op b=false:=by
 have e1:(op == CmpOp.In)=false:=by cases op <;> first|rfl|exact absurd rfl h
 have a:(op == CmpOp.NotIn)=false:=by cases op <;> first|rfl|exact absurd rfl h2
 cases b <;> simp[behindInMarks,e1,a]
def KY(t:TE):TT:=λZ H Q=>t Z H λx H'=>∃k,x=.bl k/\Q k H'
theorem zx{r:R2}(ho:B0 X (compareOp op) r)(o:PE X a ta)(n:PE X b tb)(m:behindInMarks op b=false):PT X (.Compare a [op] [b] pos) (KY (Au r ta tb)):=by
 intro Zd s Z H Q I h;refine wpAny_isTrue_Compare1 (o.k I h λv s1 x H1 I1 g l=>n.k I1 l λu s2 y H2 I2 f j=>
  B4 (ho Zd s2 Z H2 x y v u _ I2 g f j) λc p⟨z,H3,I3,d,k,e,i⟩=>?_) m
 subst e;cases d;exact sI ⟨H3,I3,i⟩
def PD(r b:R2)(ta tb tc:TE):TE:=λZ H Q=>ta Z H λx H1=>tb Z H1 λy H2=>r x y H2 λz H3=>∃k,z=.bl k/\
 (if k=true then tc Z H3 λa H4=>b y a H4 Q else Q (.bl false) H3)
theorem KZ:(sizeLine:Nat)<2 ^ 63:=by rw[ZA4];decide
theorem br:B0 X (binaryOp .Add) (λx y H Q=>∃i j,x=.str i/\y=.str j/\i.length+j.length<=sizeLine/\Q (.str (i++j)) H):=by
 intro Zd s Z H x y v u Q I b a h;obtain⟨i,j,rfl,rfl,c,q⟩:=h;obtain⟨t,rfl⟩:=b;obtain⟨t',rfl⟩:=a;exact add_str (λt' tk=>⟨.str (i++j),H,I.tok _,⟨_,rfl⟩,q⟩) c
theorem vals1{x:V}(r:Vals [x] us):∃u,us=[u]/\RelV x u:=by
 cases r with
 |cons b a=>cases a;exact⟨_,rfl,b⟩
theorem vals2{x y:V}(r:Vals [x,y] us):∃u a,us=[u,a]/\RelV x u/\RelV y a:=by
 cases r with
 |cons e d=>
  cases d with
  |cons c b=>cases b;exact⟨_,_,rfl,e,c⟩
theorem jk(b:X.calm=true):Bk X (.builtin "max") (λxs H Q=>∃i j,xs=[.int i,.int j]/\Q (.int (if j > i then j else i)) H):=by
 intro Zd s Z H xs us Q I r h;obtain⟨i,j,rfl,q⟩:=h;obtain⟨u,c,rfl,⟨t,rfl⟩,⟨t',rfl⟩⟩:=vals2 r;refine max_two_ints (I.ok.hd b) λh' tk k=>⟨_,H,I.kept k,?_,q⟩
 by_cases a:j > i
 .rw[p7 a,p7 a];exact⟨_,rfl⟩
 .rw[mD a,mD a];exact⟨_,rfl⟩
theorem ZAw(b:X.calm=true):Bk X (.builtin "min") (λxs H Q=>∃i j,xs=[.int i,.int j]/\Q (.int (if j<i then j else i)) H):=by
 intro Zd s Z H xs us Q I r h;obtain⟨i,j,rfl,q⟩:=h;obtain⟨u,c,rfl,⟨t,rfl⟩,⟨t',rfl⟩⟩:=vals2 r;refine min_two_ints (I.ok.hd b) λh' tk k=>⟨_,H,I.kept k,?_,q⟩
 by_cases a:j<i
 .rw[p7 a,p7 a];exact⟨_,rfl⟩
 .rw[mD a,mD a];exact⟨_,rfl⟩
theorem ZQ:Bk X (.type "int") (λxs H Q=>(∃i,xs=[.int i]/\Q (.int i) H)∨∃k,xs=[.bl k]/\Q (.int (if k then 1 else 0)) H):=by
 intro Zd s Z H xs us Q I r h;rcases h with⟨i,rfl,q⟩|⟨k,rfl,q⟩
 .obtain⟨u,rfl,t,rfl⟩:=vals1 r;exact call_int_int ⟨.int i,H,I,⟨_,rfl⟩,q⟩
 .obtain⟨u,rfl,a⟩:=vals1 r;cases a;exact call_int_bool ⟨.int (if k then 1 else 0),H,I.tok _,⟨_,rfl⟩,q⟩
end
structure Y8 (h:Heap) (x dx C:Addr) (mA:ZDx):Prop where
 obj:h.get? x=some (PySem.W.instObj C dx)
 ns:h.Ns1 dx mA
 ne:dx≠x
theorem wq{h:Heap}(n:h.Ns1 dx mA):∃b,h.get? dx=some b/\∀name,PySem.W.lookIn name b=some (mA name):=by
 obtain⟨o,es,ep,ho,hd,hk,_,d⟩:=n;refine⟨o,ho,λname=>?_⟩;have e:=d name;unfold nsFind findBy at e;rw[<- Array.find?_toList]at e;unfold PySem.W.lookIn;rw[hd];dsimp only;split
 .rename_i y q;rw[q]at e;exact pZ some e
 .rename_i q;rw[q]at e;have a:es.toList.any (·.refKey)=false:=by
   rw[List.any_eq_false];intro y c;obtain⟨z,t,HD⟩:=hk y (Array.mem_toList_iff.mp c);simp[DictEntry.refKey,HD]
  have f:¬ es.toList.any (·.refKey)=true:=by rw[a];exact DO
  rw[mD f];exact pZ some e
theorem Y8.look{h:Heap}{x:Addr}(I:Y8 h x dx C mA):∃a,PySem.W.InstAt h x (PySem.W.instObj C dx) C (some a)/\∀name,PySem.W.lookIn name a=some (mA name):=
 let ⟨a,ho,hl⟩:=wq I.ns
 ⟨a,⟨I.obj,rfl,rfl,ho⟩,hl⟩
theorem Gx.some_of{o:Option Value}(r:Gx (some v) o):∃u,o=some u/\RelV v u:=by
 cases o with
 |none=>exact(show False from r).elim
 |some u=>exact⟨u,rfl,r⟩
section
variable{P:Program}{h:Heap}{fs fs':List (Str×V)}
theorem ZBw(AG:CA P w H h)(e:H a=some (.ins C dx fs)):∃mA,Y8 h a dx C mA/\(∀f,Gx (fs.lookup f) (mA f))/\PySem.Within mA (fs.map (·.1))/\fs.length<=1000/\H dx=some (.own a):=by
 obtain⟨d,z,ne,b,mA,n,r,q⟩:=(show Bx P w H h a (.ins C dx fs)from AG a _ e);exact⟨mA,⟨b,n,ne⟩,r,q,z,d⟩
end
structure Y3 (K:ZDv) (C:Addr):Prop where
 pg:PySem.W.plainGet K C Str.empty=true
 hd:PySem.W.hasDictIn K C=true
 po:PySem.W.plainOver K C=true
 sa:PySem.W.findIn K (.ref C) "__setattr__"=some (some (.builtin "object.__setattr__"))
theorem Y3.get{K:ZDv}{C:Addr}(c:Y3 K C)(f:Str):PySem.W.plainGet K C f=true:=c.pg
section
variable{fs:List (Str×V)}{f:Str}
variable{o value:Expr}{pos' VF:Pos}{tv:TE}
variable{b:Bool}
inductive FD (K:ZDv) (H:Hp):V->Value->Prop where
 |A9:FD K H .A9 (.type "NoneType")
 |bl (x:Bool):FD K H (.bl x) (.type "bool")
 |int (i:Int):FD K H (.int i) (.type "int")
 |str (x:Str):FD K H (.str x) (.type "str")
 |M3 (x:UInt64):FD K H (.M3 x) (.type "float")
 |lst {a:Addr}{xs:List V}(e:H a=some (.lst xs)):FD K H (.ref a) (.type "list")
 |FQ {a:Addr}{o:Obj}{xs:List V}(e:H a=some (.FQ o (.lst xs))):FD K H (.ref a) (.type "list")
 |tup {a:Addr}{xs:List V}(e:H a=some (.tup xs)):FD K H (.ref a) (.type "tuple")
 |dK {a:Addr}{AD:List (Key×V)}(e:H a=some (.dK AD)):FD K H (.ref a) (.type "dict")
 |dT {a:Addr}{AD:List (List Key×V)}(e:H a=some (.dT AD)):FD K H (.ref a) (.type "dict")
 |ins {a C dx:Addr}{fs:List (Str×V)}(e:H a=some (.ins C dx fs)) (cl:Y3 K C) (ha:PySem.W.findIn K (.ref C) "__class__"=some (some (.builtin "object.__class__")))
   (hn:PySem.W.specialIn K (.builtin "object.__class__") "__get__"=some (some (.builtin "getset_descriptor.__get__"))) (FL:PySem.W.takesIn K (.builtin "object.__class__")=some true)
   (hm:PySem.W.mroIn K C (.type "object")=some true):FD K H (.ref a) (.ref C)
theorem ZBE{x:V}{t:Value}(I:Inv X Zd Z H s)(d:RelV x u)(ty:FD X.K H x t)(e:PySem.W.kitOne X.K t c=some b)(h:∀tk,Q (.bool b) { s with toks:=tk }):
  wpAny (model X.prog X.w) A (call (.builtin "isinstance") [u,c]) Q E s:=by
 cases ty with
 |A9=>cases(show u=Value.none from d);exact IM PySem.W.kitx_none I.ED True.intro e (λz=>nomatch z) h
 |bl y=>cases(show u=Value.bool y from d);exact IM PySem.W.kitx_bool I.ED True.intro e (λz=>nomatch z) h
 |int i=>obtain⟨t,q⟩:=(show ∃t,u=Value.int i t from d);cases q;exact IM PySem.W.kitx_int I.ED True.intro e (λz=>nomatch z) h
 |str y=>obtain⟨t,q⟩:=(show ∃t,u=Value.str y t from d);cases q;exact IM PySem.W.kitx_str I.ED True.intro e (λz=>nomatch z) h
 |M3 y=>obtain⟨t,q⟩:=(show ∃t,u=Value.float y t from d);cases q;exact IM PySem.W.kitx_float I.ED True.intro e (λz=>nomatch z) h
 |@lst a xs ea=>
  cases(show u=Value.ref a from d);obtain⟨_,_,n,_,h1⟩:=(show Bx X.prog X.w H s.heap a (.lst xs)from I.AG a _ ea);exact IM ZDA I.ED ⟨_,h1,rfl⟩ e (λz=>nomatch z) h
 |@FQ a f xs ea=>
  cases(show u=Value.ref a from d);obtain⟨_,_,_,n,_,h1⟩:=(show Bx X.prog X.w H s.heap a (.FQ f (.lst xs))from I.AG a _ ea);exact IM ZDA I.ED ⟨_,h1,rfl⟩ e (λz=>nomatch z) h
 |@tup a xs ea=>
  cases(show u=Value.ref a from d);obtain⟨_,_,_,p⟩:=(show Bx X.prog X.w H s.heap a (.tup xs)from I.AG a _ ea);obtain⟨o,h1,h2,_⟩:=p.1;exact IM PySem.W.kitx_tuple I.ED ⟨o,h1,h2⟩ e (λz=>nomatch z) h
 |@dK a AD ea=>
  cases(show u=Value.ref a from d);obtain⟨_,_,vs,_,p⟩:=(show Bx X.prog X.w H s.heap a (.dK AD)from I.AG a _ ea);obtain⟨o,es,ep,h1,h2,_⟩:=p;exact IM ZD9 I.ED ⟨o,h1,h2.1⟩ e (λz=>nomatch z) h
 |@dT a AD ea=>
  cases(show u=Value.ref a from d);obtain⟨_,_,xs,_,o,es,ep,h1,h2,_⟩:=(show Bx X.prog X.w H s.heap a (.dT AD)from I.AG a _ ea);exact IM ZD9 I.ED ⟨o,h1,h2.1⟩ e (λz=>nomatch z) h
 |@ins a C dx fs ea cl k g FL j=>
  cases(show u=Value.ref a from d);obtain⟨mA,O,_⟩:=ZBw I.AG ea;obtain⟨l,J,_⟩:=O.look;exact IM (PySem.W.kitx_own (cl.get _) cl.hd k g FL j) I.ED J e (λz=>nomatch z) h
end
structure Bs (k:Nat) (A:Around):Prop where
 hd:A.handled=none
 dp:A.depth+3 * k+5<recursionLimit
 un:A.units+16 * k+200<cLine
theorem Bs.mono{k:Nat}(r:Bs k A)(h:j<=k):Bs j A:=⟨r.hd,by have:=r.dp;omega,by have:=r.un;omega⟩
theorem Bs.deeper{k:Nat}(r:Bs (k+1) A)(env:Env):Bs k (A.deeper env):=
 ⟨r.hd,by have:=r.dp;show A.depth+1+3 * k+5<_;omega,by have:=r.un;show A.units+3+16 * k+200<_;omega⟩
theorem Bs.in1{k:Nat}(r:Bs (k+1) A):Bs k A.in1:=
 ⟨r.hd,by have:=r.dp;show A.depth+3 * k+5<_;omega,by have:=r.un;show A.units+1+16 * k+200<_;omega⟩
theorem Bs.depth{k:Nat}(r:Bs k A):A.depth<recursionLimit:=by have:=r.dp;omega
theorem Bs.units{k:Nat}(r:Bs k A):A.units+64<cLine:=by have:=r.un;omega
theorem Bs.EX{k:Nat}(r:Bs k A):A.units<cLine:=by have:=r.un;omega
def BK:TA:=λ_ H Q=>Q [] H
def Ae(ta:TE)(tr:TA):TA:=λZ H Q=>ta Z H λx H1=>tr Z H1 λxs H2=>Q (x::xs) H2
theorem ZB2(i:PE X e te)(g:PA X es t)(f:FN X e es:=by rfl):PA X (e::es) (Ae te t):=by
 intro pos Zd s Z H Q I h;rw[f];show wpAny _ _ (spliced ((false,eval e X.env)::backTo pos (starEach es X.env))) _ _ s;refine Calls.spliced_cons (i.k I h λu s1 x H1 I1 b d=>?_);exact B4 (g pos Zd s1 Z H1 _ I1 d) λus s2 AX=>by obtain⟨xs,H2,I2,a,c⟩:=AX;exact⟨x::xs,H2,I2,.cons b a,c⟩
def Qd(t:TA):TE:=λZ H Q=>t Z H λxs H1=>xs.length<=sizeLine/\∀p,H1 p=none->Q (.ref p) (upd H1 p (.tup xs))
def O1(t:TA):TE:=λZ H Q=>t Z H λxs H1=>xs.length<=sizeLine/\∀p,H1 p=none->Q (.ref p) (upd H1 p (.lst xs))
theorem xm{x1}(h:PA X es t):PE X (.Tuple es x1 pos) (Qd t):=by
 intro Zd s Z H Q I c;refine wpAny_Tuple_spliced (h.k pos I c λus s1 xs H1 I1 r⟨z,q⟩=>⟨by rw[<- r.length];exact z,?_⟩);have d:H1 s1.heap.objs.size=none:=I1.AG.fresh (Aa _);refine⟨.ref s1.heap.objs.size,upd H1 s1.heap.objs.size (.tup xs),I1.laid (t':=s1.toks) (λb u e=>Aj _ e) (Aa _) ?_,rfl,q _ d⟩;exact⟨z,us,r,⟨_,B1 _ rfl,rfl,_,rfl⟩,λY0 a=>by rw[B1 _ rfl]at a;cases a;rfl⟩
theorem mJ(h:PA X es t):PE X (.List es pos) (O1 t):=by
 intro Zd s Z H Q I a;refine wpAny_List_spliced (h.k pos I a λus s1 xs H1 I1 r⟨z,q⟩=>⟨by rw[<- r.length];exact z,?_⟩);have c:H1 s1.heap.objs.size=none:=I1.AG.fresh (Aa _);refine⟨.ref s1.heap.objs.size,upd H1 s1.heap.objs.size (.lst xs),I1.laid (t':=s1.toks) (λb u e=>Aj _ e) (Aa _) ?_,rfl,q _ c⟩;exact⟨z,us,0,r,B1 _ rfl⟩
abbrev Sp:=List V->Hp->VK->XK->Prop
abbrev GV:=List Env->Hp->Shared->XK->Value->Shared->Prop
variable{CX:GV}
structure JB (P:Program) (w:World) (K:ZDv) (mg:ZDx) (Zl:Heap) (A:Around) (outer:List Env) (s:Shared) (H:Hp):Prop where
 frames:A.frames=some outer
 mod:Mod K mg Zl
 bs:∀b o,Zl.get? b=some o->s.heap.get? b=some o/\H b=none
 Hw:Zl.objs.size<=s.heap.objs.size
 Fq:s.heap.FunFrames Zl outer
 Jg:∀b∈He outer,H b=none
 AG:CA P w H s.heap
 bare:AllBare s.gens
def CE(outer:List Env)(P:Program)(w:World)(H:Hp)(s:Shared)(Q:VK)(u:Value)(s':Shared):Prop:=
 ∃v H',s'.os=s.os/\AllBare s'.gens/\Un (He outer) [] H H' s.heap s'.heap/\CA P w H' s'.heap/\RelV v u/\Q v H'
def CR(CX:GV)(outer:List Env)(P:Program)(w:World)(H:Hp)(s:Shared)(Q:VK)(E:XK)(r:Result)(s':Shared):Prop:=
 match r with
 | .ok (.ret u)=>CE outer P w H s Q u s'
 | .ok _=>False
 | .error e=>CX outer H s E e s'
structure EF (P:Program) (w:World) (K:ZDv) (mg:ZDx) (Zl:Heap) (CX:GV) (k:Nat) (f:Addr) (fd:FuncData) (ps:List Str) (sp:Sp):Prop where
 len:∀vs H Q E,sp vs H Q E->vs.length=ps.length
 run:∀(A:Around)(outer:List Env)(s:Shared)(H:Hp)(args:Args)(us:List Value)(vs:List V)(Q:VK)(E:XK),Bs k A->JB P w K mg Zl A outer s H->BindsTo s fd args (ps.zip us)->Vals vs us->sp vs H Q E->
  codeAny (model P w) A (.call (.ref f) args) (CR CX outer P w H s Q E) s
theorem EF.mono{P:Program}{K:ZDv}{k:Nat}{f:Addr}{sp:Sp}(F:EF P w K mg Zl CX j f fd ps sp)(h:j<=k):
  EF P w K mg Zl CX k f fd ps sp:=⟨F.len,λA outer s H args us vs Q E a=>F.run A outer s H args us vs Q E (a.mono h)⟩
theorem JB.in1{P:Program}{K:ZDv}(e:JB P w K mg Zl A outer s H):
  JB P w K mg Zl A.in1 outer s H:=⟨e.frames,e.mod,e.bs,e.Hw,e.Fq,e.Jg,e.AG,e.bare⟩
theorem Inv.cB(I:Inv X Zd Z H s):JB X.prog X.w X.K X.mg X.base X.A X.stack s H:=
 ⟨I.ok.frames,I.ok.mod,I.bs,CL I.ok.Hw I.sz,I.stack,I.cX,I.AG,I.bare⟩
theorem Inv.after{Q:VK}(I:Inv X Zd Z H s)(h:CE X.stack X.prog X.w H s Q u s'):EP X Zd Z Q u s':=by
 obtain⟨v,H',os,bare,un,AG,r,q⟩:=h;obtain⟨hh,g,d,t,Nt⟩:=s';obtain rfl:Nt=s.os:=os;exact⟨v,H',I.call (h':=hh) (g':=g) (d':=d) (t':=t) (ch:=[]) un AG bare (λb z=>absurd z (by simp)),r,q⟩
def EZ(sp:Sp)(K3:List V)(E:XK)(t:TA):TE:=λZ H Q=>t Z H λvs H1=>sp (vs++K3) H1 Q E
def Binds(K:ZDv)(fd:FuncData)(ps:List Str)(ds:List Value):Prop:=
 ∀(s:Shared)(us:List Value),K.In s.heap->(us++ds).length=ps.length->BindsTo s fd ⟨us,[]⟩ (ps.zip (us++ds))
theorem Binds.all{K:ZDv}(h:∀us:List Value,us.length=ps.length->bindArgs fd ⟨us,[]⟩=pure (ps.zip us)):Binds K fd ps []:=λs us _ a=>by
 rw[GH]at a ⊢;exact .of_eq (h us a)
def Passes(CX:GV)(X:Cx)(E:XK):Prop:=∀(Zd:ZDw)(Z:St)(H:Hp)(s:Shared)(e:Value)(s':Shared),Inv X Zd Z H s->CX X.stack H s E e s'->X.xe e s'
section
variable{k:Nat}{f:Addr}{sp:Sp}{E:XK}{m:Str}{p apos:Pos}{o:Expr}
theorem zY{Q:VK}(F:EF X.prog X.w X.K X.mg X.base CX k f fd ps sp)(c:Bs k X.A)(g:Binds X.K fd ps ds)(hd:Vals K3 ds)(hx:Passes CX X E)
  (I:Inv X Zd Z H s) (r:Vals vs us) (h:sp (vs++K3) H Q E):wpAny (model X.prog X.w) X.A (call (.ref f) us) (EP X Zd Z Q) X.xe s:=by
 have b:Vals (vs++K3) (us++ds):=r.append hd;have d:(us++ds).length=ps.length:=by rw[<- b.length];exact F.len _ _ _ _ h
 refine wpAny_call (zN (F.run X.A X.stack s H ⟨us,[]⟩ (us++ds) (vs++K3) Q E c I.cB (g s us I.ED d) b h) λr s' a=>?_);cases r with
 |error e=>exact hx Zd Z H s e s' I a
 |ok i=>
  cases i with
  |ret u=>exact I.after a
  |next=>exact False.elim a
  |brk=>exact False.elim a
  |cont=>exact False.elim a
theorem ZAe(F:EF X.prog X.w X.K X.mg X.base CX k f fd ps sp)(a:Bs k X.A)(c:Gl X x)(b:X.mg x=some (.ref f))(hk:PySem.W.keepIn X.K (.ref f)=true)(d:Binds X.K fd ps ds)(hd:Vals K3 ds)(hx:Passes CX X E)
  (g:PA X (e::es) t) (Dv:(x == ("__debug__":Str))=false:=by decide) (he:FN X e es:=by rfl) (BN:BEq X pos es:=by rfl) :
  PE X (.Call (.Name x p) (e::es) [] pos) (EZ sp K3 E t):=by
 intro Zd s Z H Q I h;refine uU (fL I c b ?_ Dv);refine PySem.W.callWith_K (h₀:=X.base) I.ok.mod.JJ hk (g.k pos I h λus s1 vs H1 I1 r q=>⟨I1.ED,?_⟩) he BN;exact zY F a d hd hx I1 r q
variable{kws:List Keyword}{tk:TA}{nm:Option Str}{g:List Value->List Value->List Value}{gV:List V->List V->List V}
end
structure B6 (N P:List Str) (sc:Scope):Prop where
 kind:sc.kind=.function
 co:sc.isCoroutine=false
 gen:sc.isGenerator=false
 nd:N.Nodup
 pre:N.take P.length=P
 par:∀x∈P,sc.names.lookup x=some .local∨sc.names.lookup x=some .cell
 mn:∀y∈sc.names,y.2≠.free
theorem ZN{a:Str->Option NameKind}{x:Str}:∀{binds:List (Str×Value)}{m:ZDx},(∀v,(x,v)∉binds)->bindL a binds m x=m x
 | [],_,_=>rfl
 | (n,v)::r,m,h=>by
  unfold bindL;rw[ZN λw hw=>h w (BG _ hw)];split
  .have:x≠n:=by rintro rfl;exact h v Ar
   simp[this]
  .rfl
theorem fS{a:Str->Option NameKind}{x:Str}:∀{binds:List (Str×Value)}{m:ZDx},(∀v,(x,v)∉binds)->bindC a binds m x=m x
 | [],_,_=>rfl
 | (n,v)::r,m,h=>by
  unfold bindC;rw[fS λw hw=>h w (BG _ hw)];split
  .rfl
  .have:x≠n:=by rintro rfl;exact h v Ar
   simp[this]
theorem cm{a:Str->Option NameKind}{x:Str}{v:Value}:∀{P:List Str}{vs:List Value}{i:Nat}{m:ZDx},P.Nodup->P[i]?=some x->vs[i]?=some v->a x=some .local->
  bindL a (P.zip vs) m x=some v
 | [],_,_,_,_,h,_,_=>by simp at h
 |_::_,[],_,_,_,_,h,_=>by simp at h
 |p::P,w::vs,0,m,nd,h1,h2,hk=>by
  simp at h1 h2;subst h1;subst h2;show bindL a ((p,w)::P.zip vs) m p=_;unfold bindL;rw[ZN λv b=>(List.nodup_cons.mp nd).1 (TC b).1,p7 hk];simp
 |p::P,w::vs,i+1,m,nd,h1,h2,hk=>by
  show bindL a ((p,w)::P.zip vs) m x=_;unfold bindL;exact cm (i:=i) (List.nodup_cons.mp nd).2 (by simpa using h1) (by simpa using h2) hk
theorem iJ{a:Str->Option NameKind}{x:Str}{v:Value}:∀{P:List Str}{vs:List Value}{i:Nat}{m:ZDx},P.Nodup->P[i]?=some x->vs[i]?=some v->a x≠some .local->
  bindC a (P.zip vs) m x=some v
 | [],_,_,_,_,h,_,_=>by simp at h
 |_::_,[],_,_,_,_,h,_=>by simp at h
 |p::P,w::vs,0,m,nd,h1,h2,hk=>by
  simp at h1 h2;subst h1;subst h2;show bindC a ((p,w)::P.zip vs) m p=_;unfold bindC;rw[fS λv b=>(List.nodup_cons.mp nd).1 (TC b).1,mD hk];simp
 |p::P,w::vs,i+1,m,nd,h1,h2,hk=>by
  show bindC a ((p,w)::P.zip vs) m x=_;unfold bindC;exact iJ (i:=i) (List.nodup_cons.mp nd).2 (by simpa using h1) (by simpa using h2) hk
noncomputable def start(N:List Str)(vs:List V):St:=vs.map some++List.replicate (N.length - vs.length) none
noncomputable def Gb(CX:GV)(P:Program)(w:World)(K:ZDv)(mg:ZDx)(Zl:Heap)(N:List Str)(qual:Str)(scope:Scope)(f:Addr)(cd:Value)(A:Around)(outer:List Env)(s:Shared)(H:Hp)(E:XK):Cx where
 prog:=P
 w:=w
 K:=K
 mg:=mg
 base:=Zl
 A:=A.deeper (envOfC qual scope s.heap.objs.size f cd)
 N:=N
 s₀:=s
 H₀:=H
 env:=envOfC qual scope s.heap.objs.size f cd
 outer:=outer
 stack:=envOfC qual scope s.heap.objs.size f cd::outer
 ex:=[]
 calm:=true
 fn:=λ_=>true
 pn:=[]
 xe:=λe s'=>wpAny (model P w) (A.deeper (envOfC qual scope s.heap.objs.size f cd)) (leaving (envOfC qual scope s.heap.objs.size f cd) e) (λ_ JM=>CX outer H s E e JM) (λa JM=>CX outer H s E a JM) s'
theorem fE(h:sc.names.lookup x=some .cell):∃c,(cellsFrom n sc.names []).lookup x=some c:=by
 have q:=ZD7 sc.names n [] (.inl h);exact Option.isSome_iff_exists.mp q
theorem ZA0{P:Program}{K:ZDv}{f:Addr}{s1:Shared}{E:XK}
  (S:B6 N ps scope) (hd:A.handled=none) (e0:JB P w K mg Zl A outer s H) (B:vs.length=ps.length) (r:Vals vs us)
  (x:InCallC s s.heap.objs.size (bindL (envOfC qual scope s.heap.objs.size f cd).kindOf (ps.zip us) λ_=>none) (cellsFrom (s.heap.objs.size+1) scope.names []) (bindC (envOfC qual scope s.heap.objs.size f cd).kindOf (ps.zip us) λ_=>none) s1) :
  Inv (Gb CX P w K mg Zl N qual scope f cd A outer s H E) [] (start N vs) H s1:=by
 have D:ps.length<=N.length:=by have:=pZ List.length S.pre;rw[Cj]at this;omega
 obtain⟨h1,tk,rfl,hk⟩:=x.done;have j:∀b:Addr,b∉(Gb CX P w K mg Zl N qual scope f cd A outer s H E).ex:=λb z=>absurd (show b∈([]:List Addr)from z) (by simp);refine⟨⟨e0.mod,S.kind,rfl,rfl,Aa _,λy z c h1 h2=>?_,λy d=>?_,λy c _ h=>?_,λ_=>hd,Around.frames_deeper e0.frames,.inr ⟨rfl,rfl⟩,λb z=>absurd z (j b),e0.bs,e0.Hw,λb _ _=>j b,λb z=>absurd z (j b),e0.Fq,e0.Jg⟩,
  rfl,e0.bare,Un.kept hk,⟨_,x.toInCall.ns,λi y v h1 h2 C=>?_⟩,λy c h=>⟨_,x.cell y c h⟩,e0.AG.fresh (Aa _),λy c h=>?_,λp g=>absurd (show p∈([]:ZDw)from g) (by simp),e0.AG.kept hk,?_⟩
 .exact name_of_addr x.apart (IP h1) (IP h2)
 .have d:scope.names.lookup y=some .cell∨scope.names.lookup y=some .free:=d;rcases d with d|d
  .exact fE d
  .exact absurd rfl (S.mn _ (IP d))
 .exact Gu (x.above y c (IP h))
 .have hi:i<vs.length:=by
   unfold start at h2
   by_cases hi:i<vs.length
   .exact hi
   .rw[Fe (by simpa using hi)]at h2
    rw[jJ]at h2;split at h2 <;> cases h2
  have t:vs[i]?=some v:=by
   unfold start at h2;rw[Dk (by simpa using hi),AS]at h2
   cases e:vs[i]? with
   |none=>rw[e]at h2;cases h2
   |some a=>rw[e]at h2;cases h2;rfl
  obtain⟨u,l,o⟩:=r.get t;have g:ps[i]?=some y:=by
   rw[<- S.pre,jK (by omega)];exact h1
  have m:ps.Nodup:=by rw[<- S.pre];exact S.nd.sublist (jR _ _)
  refine⟨u,o,?_⟩;rcases S.par y (Bc g)with k|k
  .exact .inl ⟨k,cm m g l k⟩
  .obtain⟨c,e⟩:=fE (n:=s.heap.objs.size+1) k;refine .inr ⟨.inl k,c,e,?_⟩;have q:=x.cell y c e;rw[iJ m g l (by show scope.names.lookup y≠_;rw[k];decide)]at q;exact q
 .exact e0.AG.fresh (Gu (x.above y c (IP h)))
 .unfold start;show _=N.length;rw[BF,AA,jM];omega
theorem dM{P:Program}{K:ZDv}{k:Nat}{f:Addr}{params:Arguments}{body:List Stmt}{j kV c i Ak ct B:Value}{l z:Option Addr}
  {Em:Array (Option Value)}{sp:Sp}(C:K.lookup f=some ⟨B,z,.func (PySem.W.fnOf name qual params body scope j kV c i l Ak ct),Em⟩) (Et:PySem.W.codeIn K Ak qual=true) (S:B6 N ps scope)
  (len:∀vs H Q E,sp vs H Q E->vs.length=ps.length)
  (J7:∀(A:Around)(outer:List Env)(s:Shared)(H:Hp)(vs:List V)(Q:VK)(E:XK),Bs k (A.deeper (envOfC qual scope s.heap.objs.size f Ak))->sp vs H Q E->
   ∃t,EO (Gb CX P w K mg Zl N qual scope f Ak A outer s H E) body t/\t { nx:=λ_ H'=>Q .A9 H',rt:=Q } (start N vs) H) :
  EF P w K mg Zl CX (k+1) f (PySem.W.fnOf name qual params body scope j kV c i l Ak ct) ps sp:=by
 refine⟨len,λA outer s H args us vs Q E h e0 O r Fw=>?_⟩;have L:=len _ _ _ _ Fw;have m:K.In s.heap:=e0.mod.JJ.keeps λb o e=>(e0.bs b o e).1;have g:s.heap.NoLimit:=e0.mod.nolimit.keeps λb o e=>(e0.bs b o e).1;have p:∀y∈ps.zip us,scope.names.lookup y.1=some .local∨(scope.names.lookup y.1=some .cell/\((cellsFrom (s.heap.objs.size+1) scope.names []).lookup y.1).isSome=true):=λ⟨n,v⟩D=>by
  rcases S.par n (TC D).1 with q|q
  .exact .inl q
  .exact .inr ⟨q,ZD7 _ _ _ (.inl q)⟩
 refine codeAny_call_function h.depth (m _ _ C) rfl S.co S.gen rfl (PySem.W.codeRec_of m Et) (O _ _ _ _ ?_);refine wpAny_newFunctionEnv_cells S.kind p λenv M s1 x=>?_;subst M;refine⟨g.keeps x.toInCall.keep,codeAny_func ?_⟩;obtain⟨t,F,G⟩:=J7 A outer s H vs Q E (h.deeper _) Fw;have I:Inv (Gb CX P w K mg Zl N qual scope f Ak A outer s H E) [] (start N vs) H s1:=ZA0 S h.hd e0 L r x;refine qP (F [] s1 (start N vs) H _ I G) (λR s' a=>?_) λe s' a=>a;have fin:∀{σ':St}{H':Hp}{v:V}{u:Value},Inv (Gb CX P w K mg Zl N qual scope f Ak A outer s H E) [] σ' H' s'->RelV v u->Q v H'->CE outer P w H s Q u s':=
  λ{σ' H' v u}J d q=>⟨v,H',J.os,J.bare,J.base,J.AG,d,q⟩
 cases R with
 |ret u=>
  obtain⟨v,σ',H',J,d,q⟩:=a;exact fin J d q
 |next=>
  obtain⟨σ',H',J,q⟩:=a;exact fin (v:=V.A9) (u:=Value.none) J rfl q
 |brk=>
  obtain⟨_,_,_,q⟩:=a;exact False.elim q
 |cont=>
  obtain⟨_,_,_,q⟩:=a;exact False.elim q
section
variable{p:Pos}{id T:String}{r:List V->Hp->VK->Prop}
def CQ(r:List V->Hp->VK->Prop)(t:TA):TE:=λZ H Q=>t Z H λvs H1=>r vs H1 Q
end
end L2
namespace HT
variable{E Q:Value->Shared->Prop}
section
open PySem.SeqAt
open PySem.AutoSeq1 (wpAny_loadPart')
open PySem.MeetsSeq PySem.MeetsSeq2 PySem.MeetsSeq3
end
section
variable{prog:Program}{w:World}{A:Around}{s:Shared}
theorem ZBW{t b:Addr}{vs ws:List Value}(h:IsTup s.heap t vs.toArray)(i:IsTup s.heap b ws.toArray)(f:vs≠[])
  (h1:ws=[]->Q (.ref t) s) (h2:ws≠[]->Q (.ref s.heap.objs.size) { s with heap:=s.heap.push { cls:=.type "tuple", data:=.seq (vs++ws).toArray } })
  (hsz:vs.length+ws.length<=sizeLine):wpAny (model prog w) A (binaryOp .Add (.ref t) (.ref b)) Q E s:=by
 obtain⟨⟨cls,dd,data,sl⟩,ho,g,n,hd⟩:=id h;obtain⟨⟨j,Pq,c,Qw⟩,DZ,LJ,d,a⟩:=id i;simp only at g hd LJ a;subst g hd LJ a;have e:vs.toArray++ws.toArray=(vs++ws).toArray:=by simp
 by_cases hw:ws=[]
 .exact concat_meets ⟨_,ho,rfl⟩ ⟨_,DZ,rfl⟩ ZBU seq_tuple_add jb ja (jZ _ _)
   (tuple_addW1 t b vs.toArray ws.toArray n d dd Pq sl Qw (by simpa using f) (by simp[hw])) ⟨ho,DZ,h1 hw⟩
 .refine concat_meets ⟨_,ho,rfl⟩ ⟨_,DZ,rfl⟩ ZBU seq_tuple_add jb ja (jZ _ _)
   (tuple_addW2 t b vs.toArray ws.toArray n d dd Pq sl Qw (by simpa using f) (by simpa using hw) (by rw[Bu,Bu];exact hsz)) ⟨ho,DZ,?_⟩
  rw[e];exact h2 hw
noncomputable def Di(n d:Nat):Option Int->Nat
 |none=>d
 |some v=>if v<0 then(v+(n:Int)).toNat else min v.toNat n
theorem aj(n d:Nat):Di n d none=d:=rfl
theorem bw(n d k:Nat):Di n d (some (k:Int))=min k n:=by
 show(if(k:Int)<0 then((k:Int)+(n:Int)).toNat else min (k:Int).toNat n)=min k n
 rw[mD (by omega),GG]
end
end HT
namespace L2
variable{X:Cx}{pos:Pos}{xs ys:List V}{A3 its' us:List Value}{α:Type}{j n t':Nat}{i:Int}{Zd:ZDw}{Z:St}{H:Hp}{s:Shared}{A:Around}{x y:V}{u v:Value}{T:String}
abbrev TO:=St->Hp->(Option Int->Hp->Prop)->Prop
def PO(X:Cx)(e:Option Expr)(t:TO):Prop:=
 ∀(Zd:ZDw)(s:Shared)(Z:St)(H:Hp)(Q:Option Int->Hp->Prop),Inv X Zd Z H s->t Z H Q->
  wpAny (model X.prog X.w) X.A (evalPart e X.env) (λu s'=>∃o H',Inv X Zd Z H' s'/\IsPart u o/\Q o H') X.xe s
def Im:TO:=λ_ H Q=>Q none H
def J4(t:TE):TO:=λZ H Q=>t Z H λx H1=>∃i,x=.int i/\Q (some i) H1
section
variable{e:Expr}{te:TE}{lo hi:Option Expr}{tl th:TO}{p2:Pos}
def Qi(X:Cx)(r:V->Option Int->Option Int->Hp->VK->Prop):Prop:=
 ∀(Zd:ZDw)(s:Shared)(Z:St)(H:Hp)(x:V)(v b a:Value)(lo hi:Option Int)(sl:Addr)(Q:VK),Inv X Zd Z H s->RelV x v->s.heap.IsSliceOf sl b a .none->IsPart b lo->IsPart a hi->r x lo hi H Q->
  ∃T id,typeLookup (.type T) "__getitem__"=pure (some (.builtin id))/\s.TypeIs v T/\wpAny (model X.prog X.w) X.A (getItem v (.ref sl)) (EP X Zd Z Q) X.xe s
def Ie(r:V->Option Int->Option Int->Hp->VK->Prop)(te:TE)(tl th:TO):TE:=λZ H Q=>te Z H λx H1=>tl Z H1 λl H2=>th Z H2 λu H3=>r x l u H3 Q
def LN(xs:List V)(lo hi:Option Int):List V:=(xs.drop (HT.Di xs.length 0 lo)).take (HT.Di xs.length xs.length hi - HT.Di xs.length 0 lo)
theorem kU(xs:List V)(lo hi:Option Int):(LN xs lo hi).length<=xs.length:=by
 unfold LN;rw[Cj,Dl];omega
def oy(K:ZDv):R2:=λx y H Q=>∃a b xs ys,x=.ref a/\y=.ref b/\Al K H a xs/\Al K H b ys/\xs≠[]/\xs.length+ys.length<=sizeLine/\
 (ys=[]->Q (.ref a) H)/\(ys≠[]->∀p,H p=none->Q (.ref p) (upd H p (.tup (xs++ys))))
theorem Vals.RJ(r:Vals xs us):us=[]↔xs=[]:=by
 cases r with
 |nil=>simp
 |cons _ _=>simp
theorem yw:B0 X (binaryOp .Add) (oy X.K):=by
 intro Zd s Z H x y v u Q I i g h;obtain⟨a,b,xs,ys,rfl,rfl,m,l,hx,e,k,j⟩:=h;cases i;cases g;obtain⟨A3,d,p1,_⟩:=I.tuple m;obtain⟨BE,c,p2,_⟩:=I.tuple l;refine HT.ZBW p1 p2 (λz=>hx (d.RJ.mp z)) (λz=>⟨.ref a,H,I,rfl,k (c.RJ.mp z)⟩) (λz=>?_) (by rw[<- d.length,<- c.length];exact e);refine⟨.ref s.heap.objs.size,_,I.laid (t':=s.toks) (o:=.tup (xs++ys)) (λb n q=>Aj _ q) (Aa _) ?_,rfl,j (λw=>z (c.RJ.mpr w)) _ (I.AG.fresh (Aa _))⟩;exact⟨by rw[BF];exact e,_,d.append c,⟨IsTup.new _ _,λY0 f=>by rw[B1 _ rfl]at f;cases f;rfl⟩⟩
end
noncomputable def FT(n:Nat)(i:Int):Option Nat:=if 0<=i then(if i<n then some i.toNat else none)else if -(n:Int)<=i then some (i+n).toNat else none
def BZ(xs:List α)(i:Int):Option α:=(FT xs.length i).bind λj=>xs[j]?
theorem bD(h:FT n i=some j):seqIndex? i n=some j/\j<n/\-(n:Int)<=i/\i<n:=by
 unfold FT at h
 by_cases a:0<=i
 .rw[p7 a]at h
  by_cases h1:i<n
  .rw[p7 h1]at h;have e:i.toNat=j:=BW h;exact⟨by rw[seqIndex_of a h1,e],by omega,by omega,h1⟩
  .rw[mD h1]at h;cases h
 .rw[mD a]at h
  by_cases h1:-(n:Int)<=i
  .rw[p7 h1]at h;have e:(i+n).toNat=j:=BW h;exact⟨by rw[seqIndex_neg (by omega) h1,e],by omega,h1,by omega⟩
  .rw[mD h1]at h;cases h
theorem Vv{xs:List α}{v:α}(h:BZ xs i=some v):∃j,seqIndex? i xs.length=some j/\xs[j]?=some v/\j<xs.length/\-(xs.length:Int)<=i/\i<xs.length:=by
 unfold BZ at h;cases e:FT xs.length i with
 |none=>rw[e]at h;cases h
 |some j=>
  rw[e]at h;obtain⟨h1,h2,b,a⟩:=bD e;exact⟨j,h1,h,h2,b,a⟩
theorem D4{xs:List α}{v:α}(h:xs[j]?=some v):BZ xs (j:Int)=some v:=by
 have a:j<xs.length:=(List.getElem?_eq_some_iff.mp h).1;have e:FT xs.length (j:Int)=some j:=by
  unfold FT;rw[p7 (by omega),p7 (by omega)];simp
 unfold BZ;rw[e];exact h
theorem jd(xs:List α)(v:α):BZ (xs++[v]) (-1)=some v:=by
 have a:(xs++[v]).length=xs.length+1:=by simp
 have e:FT (xs++[v]).length (-1)=some xs.length:=by
  unfold FT;rw[a,mD (by decide),p7 (by omega)]
  congr 1
  omega
 unfold BZ;rw[e];show(xs++[v])[xs.length]?=some v;simp
def UI(b:Expr):Prop:=∀o i,subscripted b false o i=operate [o,i] (getItem o i)
def DF(X:Cx)(r:R2):Prop:=
 ∀(value a:Expr)(Zd:ZDw)(s:Shared)(Z:St)(H:Hp)(x y:V)(v u:Value)(Q:VK),Inv X Zd Z H s->RelV x v->RelV y u->r x y H Q->
  subscripted a false v u=operate [v,u] (getItem v u)->wpAny (model X.prog X.w) X.A (subscriptTail value a v u) (EP X Zd Z Q) X.xe s
def Lk(X:Cx)(id:String)(r:V->List V->Hp->VK->Prop):Prop:=
 ∀(Zd:ZDw)(s:Shared)(Z:St)(H:Hp)(x:V)(xs:List V)(v:Value)(us:List Value)(Q:VK),Inv X Zd Z H s->RelV x v->Vals xs us->r x xs H Q->
  wpAny (model X.prog X.w) X.A (call (.builtin id) (v::us)) (EP X Zd Z Q) X.xe s
section
variable{a b:Expr}{ta tb:TE}
theorem DF.or{r d:R2}(h:DF X r)(h':DF X d):DF X (λx y H Q=>r x y H Q∨d x y H Q):=by
 intro value a Zd s Z H x y v u Q I c b q e;rcases q with q|q
 .exact h value a Zd s Z H x y v u Q I c b q e
 .exact h' value a Zd s Z H x y v u Q I c b q e
def DE(K:ZDv):R2:=λx y H Q=>∃p xs i v,x=.ref p/\y=.int i/\AK K H p xs/\BZ xs i=some v/\Q v H
def HR(K:ZDv):R2:=λx y H Q=>∃p xs i v,x=.ref p/\y=.int i/\Al K H p xs/\BZ xs i=some v/\Q v H
def nU:R2:=λx y H Q=>∃z i c,x=.str z/\y=.int i/\z.length<=sizeLine/\BZ z.cps.toList i=some c/\Q (.str ⟨#[c]⟩) H
theorem BO:DF X (DE X.K):=by
 intro value a Zd s Z H x y v u Q I g f h c;obtain⟨p,xs,i,z,rfl,rfl,k,m,q⟩:=h;cases g;obtain⟨t,rfl⟩:=f;obtain⟨A3,r,pl,A⟩:=I.list k;obtain⟨j,h1,h2,C,o,n⟩:=Vv m;obtain⟨w,e,Ic⟩:=r.get h2;have l:=r.length;have B:=KZ;have fin:EP X Zd Z Q w s:=⟨z,H,I,Ic,q⟩
 by_cases d:0<=i
 .have b:i.toNat=j:=by
   rw[seqIndex_of d n]at h1;exact BW h1
  exact item_listR pl.isList d (by omega) (by rw[b];simpa using e) fin c
 .have b:(i+(A3.toArray.size:Int)).toNat=j:=by
   rw[seqIndex_neg (by omega) o]at h1;rw[Bu,<- l];exact BW h1
  exact subscriptTail_builtinR (x:=w) pl.isList.typeIs slot_list_getitem.lookup
   (wpAny_getItem_list_neg (Q:=λr s'=>r=w/\EP X Zd Z Q r s') pl.isList (by omega) (by rw[Bu] <;> omega) (by omega) (by rw[b];simpa using e) ⟨rfl,fin⟩) c
theorem Bi:DF X (HR X.K):=by
 intro value a Zd s Z H x y v u Q I c b h d;obtain⟨p,xs,i,z,rfl,rfl,e,g,q⟩:=h;cases c;obtain⟨t,rfl⟩:=b;obtain⟨A3,r,pl,l⟩:=I.tuple e;obtain⟨j,h1,h2,A,o,n⟩:=Vv g;obtain⟨w,k,Ic⟩:=r.get h2;have f:=r.length;have m:=KZ;have fin:EP X Zd Z Q w s:=⟨z,H,I,Ic,q⟩;exact subscriptTail_builtinR (x:=w) pl.typeIs slot_tuple_getitem.lookup
  (getItem_tuple (j:=j) (Q:=λr s'=>r=w/\EP X Zd Z Q r s') pl (by omega) (by omega) (by rw[Bu,<- f];exact h1) (by simpa using k) ⟨rfl,fin⟩) d
theorem kG:DF X nU:=by
 intro value a Zd s Z H x y v u Q I d b h e;obtain⟨z,i,c,rfl,rfl,n,g,q⟩:=h;obtain⟨t,rfl⟩:=d;obtain⟨t',rfl⟩:=b;obtain⟨j,h1,h2,p,l,k⟩:=Vv g;have f:z.cps.toList.length=z.length:=by simp[Str.length]
 rw[f]at h1 l k;have o:=KZ;exact tail_any (typeIs_str s z t) slot_str_getitem.lookup (getItem_str (c:=c) (by
  have e1:decide (i < -(2 ^ 63:Int))=false:=oO (by omega);have m:decide (i>=2 ^ 63)=false:=oO (by omega);rw[e1,m,jB]) (by rw[h1];simpa using h2) ⟨.str ⟨#[c]⟩,H,I.tok _,⟨_,rfl⟩,q⟩) e
theorem lQ(A3:List Value)(n j:Nat)(u:Value):Obj.mapSeq (·.setIfInBounds j u) { cls:=.type "list", data:=.seq A3.toArray n }={ cls:=.type "list", data:=.seq (A3.set j u).toArray n }:=by
 simp[Obj.mapSeq]
theorem Inv.lst{Zd:ZDw}{Z:St}{H:Hp}{s:Shared}{p:Addr}{xs:List V}(I:Inv X Zd Z H s)(h:H p=some (.lst xs)):
  ∃(A3:List Value)(n:Nat),Vals xs A3/\s.heap.get? p=some { cls:=.type "list", data:=.seq A3.toArray n }/\xs.length<=sizeLine:=by
 obtain⟨z,A3,n,r,e⟩:=I.AG p _ h;exact⟨A3,n,r,e,z⟩
theorem Inv.tH{p:Addr}{a:Nat}{f:Obj->Obj}(I:Inv X Zd Z H s)(h:H p=some (.lst xs))
  (ho:s.heap.get? p=some { cls:=.type "list", data:=.seq A3.toArray n }) (hf:f { cls:=.type "list", data:=.seq A3.toArray n }={ cls:=.type "list", data:=.seq its'.toArray a }) (r:Vals ys its') (hz:ys.length<=sizeLine) (t:Nat) :
  Inv X Zd Z (upd H p (.lst ys)) { s with heap:=s.heap.update p f,toks:=t }:=by
 have e:(s.heap.update p f).get? p=some { cls:=.type "list", data:=.seq its'.toArray a }:=by
  rw[II f ho (by rw[hf] <;> rfl),hf]
 refine I.write (x:=p) (e:=p) (by rw[h];trivial) (.inl rfl) (λb u c q=>(KL _ _ (Bh c)).trans q) ⟨_,e⟩ ?_;exact⟨hz,its',a,r,e⟩
def RT:V->V->V->Hp->(Hp->Prop)->Prop:=λo i v H Q=>∃p xs k j,o=.ref p/\i=.int k/\H p=some (.lst xs)/\FT xs.length k=some j/\Q (upd H p (.lst (xs.set j v)))
theorem set_list:TM X RT:=by
 intro Zd s Z H o i v y z u Q I l m g h;obtain⟨p,xs,k,j,rfl,rfl,b,x,q⟩:=h;cases l;obtain⟨t,rfl⟩:=m;obtain⟨A3,n,r,ho,w⟩:=I.lst b;obtain⟨h1,h2,d,c⟩:=bD x;have a:=r.length;have A:=KZ;have f:Inv X Zd Z (upd H p (.lst (xs.set j v))) { s with heap:=s.heap.update p (Obj.mapSeq (·.setIfInBounds j u)) }:=
  I.tH b ho (lQ A3 n j u) (r.set g j) (by rw[Hg];exact w) s.toks
 by_cases e:0<=k
 .have hk:k.toNat=j:=by
   rw[seqIndex_of e c]at h1;exact BW h1
  exact PySem.W.ki_setAt ho e (by omega) (by rw[Bu,<- a];exact c) (by rw[hk];exact⟨_,f,q⟩)
 .have hk:(k+(A3.toArray.size:Int)).toNat=j:=by
   rw[seqIndex_neg (by omega) d]at h1;rw[Bu,<- a];exact BW h1
  exact PySem.W.ki_setBack ho (by omega) (by rw[Bu,<- a];exact d) (by omega) (by rw[hk];exact⟨_,f,q⟩)
theorem yA(lo hi:Option Int)(n:Nat):(sliceBounds lo hi none n).1=((HT.Di n 0 lo:Nat):Int)/\(sliceBounds lo hi none n).2.1=((HT.Di n n hi:Nat):Int)/\(sliceBounds lo hi none n).2.2=1:=by
 refine⟨?_,?_,rfl⟩
 .cases lo with
  |none=>simp[sliceBounds,HT.Di]
  |some i=>
   simp only[sliceBounds,HT.Di,ZCw,show(1:Int) > 0 by decide,ZBo]
   by_cases h:i<0
   .simp only[h,ZBo] <;> omega
   .simp only[h,ZBp] <;> omega
 .cases hi with
  |none=>simp[sliceBounds,HT.Di]
  |some i=>
   simp only[sliceBounds,HT.Di,ZCw,show(1:Int) > 0 by decide,ZBo]
   by_cases h:i<0
   .simp only[h,ZBo] <;> omega
   .simp only[h,ZBp] <;> omega
theorem yG(A3:List Value)(lo hi:Option Int):slicePick A3.toArray lo hi none=((A3.drop (HT.Di A3.length 0 lo)).take (HT.Di A3.length A3.length hi - HT.Di A3.length 0 lo)).toArray:=by
 obtain⟨h1,h2,a⟩:=yA lo hi A3.toArray.size;unfold slicePick;rw[h1,h2,a];simp only[sliceRange_one,pick_run,Bu] <;> rfl
def Ju(K:ZDv):V->Option Int->Option Int->Hp->VK->Prop:=λx lo hi H Q=>∃a xs,x=.ref a/\AK K H a xs/\∀p,H p=none->Q (.ref p) (upd H p (.lst (LN xs lo hi)))
theorem Cm:Qi X (Ju X.K):=by
 intro Zd s Z H x v k j lo hi sl Q I e i pl f h;obtain⟨a,xs,rfl,hx,q⟩:=h;cases e;obtain⟨A3,r,d,g⟩:=I.list hx;have c:=r.length;refine⟨"list", _,slot_list_getitem.lookup,d.isList.typeIs,?_⟩;refine wpAny_getItem_list_slice d.isList i pl f .none (by simp) ?_ (by rw[Bu] <;> omega)
 rw[yG,<- c];refine⟨.ref s.heap.objs.size,_,I.laid (t':=s.toks) (o:=.lst (LN xs lo hi)) (λb l q=>Aj _ q) (Aa _) ?_,rfl,q _ (I.AG.fresh (Aa _))⟩;exact⟨CL (kU xs lo hi) g,_,0,(r.drop (HT.Di xs.length 0 lo)).take (HT.Di xs.length xs.length hi - HT.Di xs.length 0 lo),B1 _ rfl⟩
noncomputable def ER:V->Bool
 | .A9=>true
 | .bl _=>true
 | .int _=>true
 | .str _=>true
 |_=>false
noncomputable def E6:V->V->Bool
 | .A9,.A9=>true
 | .bl a,.bl b=>a == b
 | .bl a,.int b=>(if a then 1 else 0) == b
 | .int a,.bl b=>a == (if b then 1 else 0)
 | .int a,.int b=>a == b
 | .str a,.str b=>a == b
 |_,_=>false
theorem Qz(d:RelV y u)(c:RelV x v)(f:ER y=true)(e:ER x=true):SeqAt.EqAt A s u v (E6 y x):=by
 cases y with
 |A9=>
  cases d;cases x with
  |A9=>cases c;exact SeqAt.EqAt.same _
  |bl b=>cases c;exact SeqAt.EqAt.none_bool b
  |int b=>obtain⟨t,rfl⟩:=c;exact SeqAt.EqAt.none_int b t
  |str b=>obtain⟨t,rfl⟩:=c;exact SeqAt.EqAt.none_str b t
  |_=>exact absurd (show false=true from e) DO
 |bl a=>
  cases d;cases x with
  |A9=>cases c;exact SeqAt.EqAt.bool_none a
  |bl b=>cases c;exact SeqAt.EqAt.bool_bool a b
  |int b=>obtain⟨t,rfl⟩:=c;exact SeqAt.EqAt.bool_int a b t
  |str b=>obtain⟨t,rfl⟩:=c;exact SeqAt.EqAt.bool_str a b t
  |_=>exact absurd (show false=true from e) DO
 |int a=>
  obtain⟨t',rfl⟩:=d;cases x with
  |A9=>cases c;exact SeqAt.EqAt.int_none a t'
  |bl b=>cases c;exact SeqAt.EqAt.int_bool a t' b
  |int b=>obtain⟨t,rfl⟩:=c;exact SeqAt.EqAt.int_int a t' b t
  |str b=>obtain⟨t,rfl⟩:=c;exact SeqAt.EqAt.int_str a t' b t
  |_=>exact absurd (show false=true from e) DO
 |str a=>
  obtain⟨t',rfl⟩:=d;cases x with
  |A9=>cases c;exact SeqAt.EqAt.str_none a t'
  |bl b=>cases c;exact SeqAt.EqAt.str_bool a t' b
  |int b=>obtain⟨t,rfl⟩:=c;exact SeqAt.EqAt.str_int a t' b t
  |str b=>obtain⟨t,rfl⟩:=c;exact SeqAt.EqAt.str_str a t' b t
  |_=>exact absurd (show false=true from e) DO
 |_=>exact absurd (show false=true from f) DO
def FA(x:V)(u:Value):Bool:=match u with
 | .none=>E6 .A9 x
 | .bool b=>E6 (.bl b) x
 | .int i _=>E6 (.int i) x
 | .str z _=>E6 (.str z) x
 |_=>false
theorem dQ(r:RelV y u)(f:ER y=true):FA x u=E6 y x:=by
 cases y with
 |A9=>cases r;rfl
 |bl b=>cases r;rfl
 |int i=>obtain⟨t,rfl⟩:=r;rfl
 |str z=>obtain⟨t,rfl⟩:=r;rfl
 |_=>exact absurd (show false=true from f) DO
theorem Oe{x:V}:∀{xs:List V}{us:List Value},Vals xs us->xs.all ER=true->us.any (FA x)=xs.any λy=>E6 y x
 |_,_,.nil,_=>rfl
 |y::xs,u::us,.cons r t,f=>by
  rw[T2,DN]at f;rw[N3,N3,dQ r f.1,Oe t f.2]
theorem OC{A:Around}{s:Shared}{x:V}{v:Value}(b:RelV x v)(c:ER x=true):∀{xs:List V}{us:List Value},Vals xs us->xs.all ER=true->∀u∈us,SeqAt.EqAt A s u v (FA x u)
 |_,_,.nil,_=>λu a=>by cases a
 |y::xs,u::us,.cons r t,f=>λu' a=>by
  rw[T2,DN]at f;rcases List.mem_cons.mp a with rfl|a
  .rw[dQ r f.1];exact Qz r b f.1 c
  .exact OC b c t f.2 u' a
def Jm(x:V)(xs:List V):Bool:=xs.any λy=>E6 y x
def Hn(K:ZDv)(neg:Bool):R2:=λx y H Q=>∃p xs,y=.ref p/\(AK K H p xs∨Al K H p xs)/\ER x=true/\xs.all ER=true/\Q (.bl (if neg then !Jm x xs else Jm x xs)) H
theorem OG:B0 X (compareOp .In) (Hn X.K false):=by
 intro Zd s Z H x y v u Q I b d h;obtain⟨p,xs,rfl,a,c,fs,q⟩:=h;cases d;rcases a with a|a
 .obtain⟨A3,r,pl,e⟩:=I.list a;refine SeqAt.in_listAt (FA x) pl.isList (λw hw=>OC b c r fs w (by simpa using hw)) ⟨.bl _,H,I,rfl,?_⟩
  rw[show A3.toArray.any (FA x)=A3.any (FA x) by simp,Oe r fs];exact q
 .obtain⟨A3,r,pl,e⟩:=I.tuple a;refine SeqAt.in_tupleAt (FA x) pl (λw hw=>OC b c r fs w (by simpa using hw)) ⟨.bl _,H,I,rfl,?_⟩
  rw[show A3.toArray.any (FA x)=A3.any (FA x) by simp,Oe r fs];exact q
theorem lh:B0 X (compareOp .NotIn) (Hn X.K true):=by
 intro Zd s Z H x y v u Q I b d h;obtain⟨p,xs,rfl,a,c,fs,q⟩:=h;cases d;rcases a with a|a
 .obtain⟨A3,r,pl,e⟩:=I.list a;refine SeqAt.notIn_listAt (FA x) pl.isList (λw hw=>OC b c r fs w (by simpa using hw)) ⟨.bl _,H,I,rfl,?_⟩
  rw[show A3.toArray.any (FA x)=A3.any (FA x) by simp,Oe r fs];exact q
 .obtain⟨A3,r,pl,e⟩:=I.tuple a;refine SeqAt.notIn_tupleAt (FA x) pl (λw hw=>OC b c r fs w (by simpa using hw)) ⟨.bl _,H,I,rfl,?_⟩
  rw[show A3.toArray.any (FA x)=A3.any (FA x) by simp,Oe r fs];exact q
theorem Mp:Bk X (.builtin "len") (λxs H Q=>∃p ys,xs=[.ref p]/\(AK X.K H p ys∨Al X.K H p ys)/\Q (.int ys.length) H):=by
 intro Zd s Z H xs us Q I r h;obtain⟨p,ys,rfl,b,q⟩:=h;obtain⟨u,rfl,d⟩:=vals1 r;cases d;have f:=KZ;rcases b with b|b
 .obtain⟨A3,c,pl,e⟩:=I.list b;have a:=c.length;exact Calls.call_len_list pl.isList (by simp only[Bu] <;> omega) ⟨.int ys.length,H,I.tok _,⟨s.toks+1,by rw[Bu,a]⟩,q⟩
 .obtain⟨A3,c,pl,e⟩:=I.tuple b;have a:=c.length;exact len_tuple pl (by simp only[Bu] <;> omega) ⟨.int ys.length,H,I.tok _,⟨s.toks+1,by rw[Bu,a]⟩,q⟩
theorem ZBS:Bk X (.builtin "len") (λxs H Q=>∃z,xs=[.str z]/\z.length<=sizeLine/\Q (.int z.length) H):=by
 intro Zd s Z H xs us Q I r h;obtain⟨z,rfl,a,q⟩:=h;obtain⟨u,rfl,t,rfl⟩:=vals1 r;have b:=KZ;exact len_str (by omega) ⟨.int z.length,H,I.tok _,⟨_,rfl⟩,q⟩
theorem HF:Bk X (.type "list") (λxs H Q=>∃p ys,xs=[.ref p]/\(AK X.K H p ys∨Al X.K H p ys)/\∀l,H l=none->Q (.ref l) (upd H l (.lst ys))):=by
 intro Zd s Z H xs us Q I r h;obtain⟨p,ys,rfl,d,q⟩:=h;obtain⟨u,rfl,i⟩:=vals1 r;cases i;have fin:∀(A3:List Value),Vals ys A3->ys.length<=sizeLine->∀(h':Heap)(c':Nat),(∀b o',s.heap.get? b=some o'->h'.get? b=some o')->
   h'.get? s.heap.objs.size=some { cls:=.type "list", dict:=none,data:=.seq A3.toArray c',slots:=#[] }->EP X Zd Z Q (.ref s.heap.objs.size) { s with heap:=h' }:=λA3 a c h' c' kp e=>
  ⟨.ref s.heap.objs.size,_,I.laid (t':=s.toks) kp (Aa _) (show Bx X.prog X.w _ h' _ (.lst ys)from⟨c,A3,c',a,e⟩),rfl,q _ (I.AG.fresh (Aa _))⟩
 rcases d with d|d
 .obtain⟨A3,a,pl,c⟩:=I.list d;have f:=a.length;obtain⟨o,ho,g,n,hd⟩:=pl.isList;exact call_list_seq p (.inl rfl) ho g hd (λh' c' kp e=>fin A3 a c h' c' kp e) (by simp only[Bu] <;> omega)
 .obtain⟨A3,a,pl,c⟩:=I.tuple d;have f:=a.length;obtain⟨o,ho,g,n,hd⟩:=pl;exact call_list_seq p (.inr rfl) ho g hd (λh' c' kp e=>fin A3 a c h' c' kp e) (by simp only[Bu] <;> omega)
theorem Rv:Bk X (.type "tuple") (λxs H Q=>∃p ys,xs=[.ref p]/\((AK X.K H p ys/\∀l,H l=none->Q (.ref l) (upd H l (.tup ys)))∨(Al X.K H p ys/\Q (.ref p) H))):=by
 intro Zd s Z H xs us Q I r h;obtain⟨p,ys,rfl,h⟩:=h;obtain⟨u,rfl,j⟩:=vals1 r;cases j;rcases h with⟨c,q⟩|⟨c,q⟩
 .obtain⟨A3,a,pl,d⟩:=I.list c;have f:=a.length;refine call_tuple_list pl.isList (λh' kp=>?_) (by simp only[Bu] <;> omega)
  have i:Inv X Zd Z H { s with heap:=h' }:=I.kept (t':=s.toks) kp
  have k:Inv X Zd Z (upd H h'.objs.size (.tup ys)) { s with heap:=h'.push { cls:=.type "tuple", data:=.seq A3.toArray } }:=
   i.laid (t':=s.toks) (λb o e=>Aj _ e) (Aa _) (show Bx X.prog X.w _ _ _ (.tup ys)from⟨d,A3,a,⟨IsTup.new _ _,λY0 g=>by rw[B1 _ rfl]at g;cases g;rfl⟩⟩)
  exact⟨.ref h'.objs.size,_,k,rfl,q _ (i.AG.fresh (Aa _))⟩
 .obtain⟨A3,a,pl,d⟩:=I.tuple c;exact call_tuple_same pl ⟨.ref p,H,I,rfl,q⟩
def Kb(K:ZDv)(T:String)(x:V)(H:Hp):Prop:=match x with
 | .str _=>T="str"
 | .int _=>T="int"
 | .ref p=>(T="list" /\ ∃xs,AK K H p xs)∨(T="tuple" /\ ∃o,K.lookup p=some o/\o.cls=.type "tuple" /\ o.dict=none)∨
   (T="dict" /\ ((∃AD,H p=some (.dK AD))∨∃AD,H p=some (.dT AD)))∨(T="set" /\ ∃S n,H p=some (.set S n))∨(T="tuple" /\ ∃xs,H p=some (.tup xs))
 |_=>False
theorem iq(I:Inv X Zd Z H s)(r:RelV x v)(ty:Kb X.K T x H):
  s.TypeIs v T/\∀a,v=.ref a->∃d,s.heap.get? a=some d/\d.dict=none:=by
 cases x with
 |str z=>
  obtain⟨t,rfl⟩:=r;cases(show T="str" from ty);exact⟨typeIs_str s z t,λ_ e=>nomatch e⟩
 |int i=>
  obtain⟨t,rfl⟩:=r;cases(show T="int" from ty);exact⟨typeIs_int s i t,λ_ e=>nomatch e⟩
 |ref p=>
  cases r;rcases ty with⟨rfl,xs,f⟩|⟨rfl,o,hk,g,hd⟩|⟨rfl,hk⟩|⟨rfl,S,n,hk⟩|⟨rfl,xs,hk⟩
  .obtain⟨A3,_,pl,_⟩:=I.list f;refine⟨pl.isList.typeIs,λa e=>?_⟩;cases e;obtain⟨o,n,e,c,hd,_⟩:=pl;exact⟨o,e,hd⟩
  .refine⟨⟨o,I.ED p o hk,g⟩,λa e=>?_⟩;cases e;exact⟨o,I.ED _ o hk,hd⟩
  .have z:∃o,s.heap.get? p=some o/\o.ExactDict:=by
    rcases hk with⟨AD,hk⟩|⟨AD,hk⟩
    .obtain⟨_,_,_,_,o,_,_,e,ex,_⟩:=I.AG p _ hk;exact⟨o,e,ex⟩
    .obtain⟨_,_,_,_,o,_,_,e,ex,_⟩:=I.AG p _ hk;exact⟨o,e,ex⟩
   obtain⟨o,e,ex⟩:=z;refine⟨⟨o,e,ex.1⟩,λa b=>?_⟩;cases b;exact⟨o,e,ex.2.1⟩
  .obtain⟨o,_,_,_,e,ex,_⟩:=I.AG p _ hk;refine⟨⟨o,e,ex.1⟩,λa b=>?_⟩;cases b;exact⟨o,e,ex.2.1⟩
  .obtain⟨_,A3,_,⟨o,e,c,_⟩,h⟩:=I.AG p _ hk;refine⟨⟨o,e,c⟩,λa b=>?_⟩;cases b;exact⟨o,e,h o e⟩
 |_=>exact False.elim ty
def WX(K:ZDv)(T:String)(r:V->List V->Hp->VK->Prop)(to:TE):TE:=λZ H Q=>to Z H λx H1=>Kb K T x H1/\r x [] H1 Q
def QF(K:ZDv)(T:String)(r:V->List V->Hp->VK->Prop)(to:TE)(t:TA):TE:=λZ H Q=>to Z H λx H1=>Kb K T x H1/\t Z H1 λxs H2=>r x xs H2 Q
variable{o e:Expr}{es:List Expr}{to:TE}{t:TA}{name:Str}{apos Ct:Pos}{id:String}{r:V->List V->Hp->VK->Prop}
end
def Tv(X:Cx)(id:String)(r:V->List V->Hp->VK->Prop):Prop:=
 ∀(Zd:ZDw)(s:Shared)(Z:St)(H:Hp)(x:V)(xs:List V)(v:Value)(us:List Value)(Q:VK),Inv X Zd Z H s->RelV x v->Vals xs us->r x xs H Q->
  wpAny (model X.prog X.w) X.A (call (.builtin id) (v::us)) (EP X Zd Z Q) X.xe s
theorem Vals.one:∀{x:V}{us:List Value},Vals [x] us->∃u,us=[u]/\RelV x u:=λr=>vals1 r
theorem Vals.two:∀{x y:V}{us:List Value},Vals [x,y] us->∃u v,us=[u,v]/\RelV x u/\RelV y v:=λr=>vals2 r
theorem Vals.zero:∀{us:List Value},Vals [] us->us=[]
 |_,.nil=>rfl
theorem Vals.dropLast(h:Vals xs us):Vals xs.dropLast us.dropLast:=by
 induction h with
 |nil=>exact .nil
 |cons r t a=>
  cases t with
  |nil=>exact .nil
  |cons q t'=>exact .cons r a
theorem ZBk(l:List α):l.eraseIdx (l.length - 1)=l.dropLast:=by
 induction l with
 |nil=>rfl
 |cons a r c=>
  cases r with
  |nil=>rfl
  |cons b r=>
   have e:(a::b::r).length - 1=((b::r).length - 1)+1:=by
    have h1:(a::b::r).length=r.length+2:=rfl;have h2:(b::r).length=r.length+1:=rfl;omega
   rw[e,List.eraseIdx_cons_succ,c]
   all_goals rfl
section
variable{l b:Addr}{zs:List V}
theorem Inv.Ur{f:Array Value->Array Value}(I:Inv X Zd Z H s)(c:H l=some (.lst xs))
  (e:s.heap.get? l=some { cls:=.type "list", data:=.seq A3.toArray n }) (hf:f A3.toArray=its'.toArray) (hv:Vals ys its') (hz:ys.length<=sizeLine) :
  Inv X Zd Z (upd H l (.lst ys)) { s with heap:=s.heap.update l (Obj.mapSeq f),toks:=t' }:=by
 have q:=PySem.IsL.update e f;rw[hf]at q;refine I.write (x:=l) (e:=l) (by rw[c];exact trivial) (.inl rfl) (λd u b a=>(KL s.heap (Obj.mapSeq f) (Bh b)).trans a) ⟨_,q⟩ ?_;exact⟨hz,its',_,hv,q⟩
theorem Inv.gW(I:Inv X Zd Z H s)(b:Vals ys A3)(a:ys.length<=sizeLine):
  Inv X Zd Z (upd H s.heap.objs.size (.lst ys)) { s with heap:=s.heap.push { cls:=.type "list", data:=.seq A3.toArray },toks:=t' }:=
 I.laid (λ_ _ q=>Aj _ q) (Aa _) ⟨a,A3,0,b,B1 _ rfl⟩
theorem Inv.fresh(I:Inv X Zd Z H s):H s.heap.objs.size=none:=I.AG.fresh (Aa _)
theorem Inv.NQ(I:Inv X Zd Z H s)(a:H l=some (.lst xs)):xs.length<=sizeLine/\∃(A3:List Value)(n:Nat),Vals xs A3/\xs.length=A3.length/\s.heap.get? l=some { cls:=.type "list", data:=.seq A3.toArray n }:=by
 obtain⟨z,A3,n,r,e⟩:=I.AG l _ a;exact⟨z,A3,n,r,r.length,e⟩
def Xd:V->List V->Hp->VK->Prop:=λx vs H Q=>∃l xs y,x=.ref l/\vs=[y]/\H l=some (.lst xs)/\xs.length<sizeLine/\Q .A9 (upd H l (.lst (xs++[y])))
theorem cI:Tv X "list.append" Xd:=by
 intro Zd s Z H x vs v us Q I b c h;obtain⟨l,xs,y,rfl,rfl,a,f,q⟩:=h;cases b;obtain⟨u,rfl,d⟩:=c.one;obtain⟨z,A3,n,r,g,e⟩:=I.NQ a;refine call_meets F.slot_list_append ⟨_,e,rfl⟩ F.entry_list_append (F.args_list_append_2 _ _) (PySem.list_append l A3.toArray n u (by rw[Bu];omega)) ⟨e,?_⟩;refine⟨.A9,_,I.Ur (its':=A3++[u]) a e (by simp) (r.append (.cons d .nil)) ?_,rfl,q⟩;rw[BF,T7];omega
def XH:V->List V->Hp->VK->Prop:=λx vs H Q=>∃l xs y,x=.ref l/\vs=[]/\H l=some (.lst xs)/\xs[xs.length - 1]?=some y/\Q y (upd H l (.lst xs.dropLast))
theorem yn:Tv X "list.pop" XH:=by
 intro Zd s Z H x vs v us Q I c d h;obtain⟨l,xs,y,rfl,rfl,a,i,q⟩:=h;cases c;have b:=d.zero;subst b;obtain⟨z,A3,n,r,k,e⟩:=I.NQ a;obtain⟨u,j,f⟩:=r.get i;have g:A3.toArray[A3.toArray.size - 1]?=some u:=by
  show A3.toArray[A3.length - 1]?=some u;rw[<- Lm,<- k];exact j
 refine call_meets F.slot_list_pop ⟨_,e,rfl⟩ F.entry_list_pop (F.args_list_pop_1 _) (MeetsSeq.list_pop_last l A3.toArray n u g (by rw[Bu];omega)) ⟨e,?_⟩;refine⟨y,_,I.Ur (its':=A3.dropLast) a e ?_ r.dropLast ?_,f,q⟩
 .show A3.toArray.eraseIdxIfInBounds (A3.toArray.size - 1)=A3.dropLast.toArray;rw[Bu,List.eraseIdxIfInBounds_toArray,ZBk]
 .rw[List.length_dropLast];omega
def K9:R2:=λx y H Q=>∃l b xs zs,x=.ref l/\y=.ref b/\H l=some (.lst xs)/\H b=some (.lst zs)/\xs.length+zs.length<=sizeLine/\∀p,H p=none->Q (.ref p) (upd H p (.lst (xs++zs)))
theorem EE:B0 X (binaryOp .Add) K9:=by
 intro Zd s Z H x y v u Q I c a h;obtain⟨l,b,xs,zs,rfl,rfl,f,g,m,q⟩:=h;cases c;cases a;obtain⟨z,A3,n,r,o,e⟩:=I.NQ f;obtain⟨j,BE,k,d,Bl,i⟩:=I.NQ g;refine PySem.P.add_list e i ?_ (by rw[Bu,Bu];omega);have ea:A3.toArray++BE.toArray=(A3++BE).toArray:=by simp
 rw[ea];exact⟨.ref _,_,I.gW (t':=s.toks) (r.append d) (by rw[BF];omega),rfl,q _ I.fresh⟩
variable{prog:Program}{w:World}{E:Value->Shared->Prop}
set_option maxRecDepth 100000 in
end
end L2
namespace Hz
open PySem.W PySem.Calls
variable{l:OpenLaw}{n:Nat}{prog q:Program}
theorem lY{P:Params}{h:Heap}:∀(ns:List Int)(vs:List Value),WellAll P h vs (ns.map WData.int)->IntsAre vs ns:=by
 intro ns
 induction ns with
 |nil=>
  intro vs w;rw[T8]at w;cases w;exact .nil
 |cons n ns c=>
  intro vs w;rw[DG]at w;cases w with
  |cons a b=>
   cases a;exact .cons _ _ (c _ b)
theorem pE(m:l.most=some n){P:Params}{h:Heap}{args:List WData}{vals:List Value}
  (Rx:l.row.toRowW.claim.pre args=true) (X7:WellAll P h vals args) :
  ∃a vs ns,vals=[Value.ref a]/\args=[WData.list (ns.map WData.int)]/\h.get? a=some { cls:=.type "list", data:=.seq vs.toArray }/\IntsAre vs ns/\ns.length<=n:=by
 have f:WShape.hasAll [] args [.list .int]=true:=(pre_splitW Rx).1;have g:l.pre.holds [] { args:=args }=true:=(pre_splitW Rx).2;obtain⟨d,r,rfl,h1,h2⟩:=hasAllW_cons f;obtain rfl:=hasAllW_nil h2;obtain⟨xs,rfl,o⟩:=hasW_list h1;obtain⟨ns,rfl⟩:=items_int o;have b:ns.length<=n:=by
  unfold OpenLaw.pre at g;have e:(WTm.not (.lt (.lit (.int (n:Int))) (.len (.arg 0)))).holds [] { args:=[.list (ns.map .int)] }=true:=by
   have e:=(holds_andW g).1;rw[m]at e;exact e
  have c:=condW_of e (w_not (w_lt w_lit (w_len_list (w_arg rfl))));rw[AA]at c;refine Yg λq=>?_;have k:(n:Int)<((ns.length:Nat):Int):=by omega
  first
   | (rw[kc k]at c;exact absurd c (by decide))
   | (simp at c;omega)
 cases X7 with
 |cons j i=>
  cases i;cases j with
  |list ho Ri=>exact⟨_,_,ns,rfl,rfl,ho,lY ns _ Ri,b⟩
theorem nv(l:OpenLaw)(args:List WData):l.row.toRowW.claim.post args (.bool true) args=true:=
 postW_of (r:=l.row.toRowW) (X:=(true == true))
  (show WShape.has [] (.bool true) .bool=true by first|rfl|decide|simp[WShape.has,WShape.arms,WShape.armsAll])
  (show(WTm.eq .res (.lit (.bool true))).value [] { args:=args,res:=some (.bool true),after:=args }=some (.bool (true == true))from w_eq_bool (w_res rfl) w_lit) rfl
theorem og{loose:List Str}{XP:(ZDx)->Heap->Prop}{YP:World->Heap->Prop}{d:DefRec}
  (p:l.most=some n) (NA:d.params.defaults=[])
  (call:∀(w:World)(s₀ s₁:Shared)(mg i:ZDx)(g:Addr)(o:Obj)(h cd c:Value)(a:Addr)(vs:List Value)(ns:List Int),
   Ground q loose [] XP w s₀ mg i s₁.heap->YP w s₁.heap->
   s₁.heap.get? g=some o->o.data=.func (docDef d.name d.params d.body d.scope h cd c)->s₁.heap.CodeRec cd d.name->mg d.name=some (.ref g)->
   s₁.heap.get? a=some { cls:=.type "list", data:=.seq vs.toArray }->IntsAre vs ns->ns.length<=n->s₁.gens=#[]->
   codeAny (model l.prog w) callerA (.call (.ref g) ⟨[.ref a],[]⟩) (λr s'=>r=.ok (.ret (.bool true))/\OldK s₁.heap s'.heap/\s'.os=s₁.os/\AllBare s'.gens) s₁) :
  WalkO q loose XP YP l.row.toRowW d [] (λf vs=>PySem.call f vs):=by
 intro w s₀ s₁ mg i G Y g o h cd c y kV ho hd Et j Oi u args vals as Rx ZDj k X7 t;obtain rfl:y=.none:=Dflts.none j NA;obtain rfl:kV=.none:=Dflts.noKw j;obtain⟨a,vs,ns,rfl,rfl,WJ,b,e⟩:=pE p Rx X7;refine enter_call (zN (call w s₀ s₁ mg i g o h cd c a vs ns G Y ho (fd_plain hd) Et Oi WJ b e u) λr s' m=>?_);obtain⟨rfl,h2,x,v⟩:=m;exact⟨.inl ⟨.bool true,.bool true,[],rfl,λ_=>rfl,.bool true,nv l _,λ_=>⟨List.Pairwise.nil,λ_ s=>(nomatch s)⟩⟩,h2,x,v⟩
section
variable{w:World}{A:Around}{E:Value->Shared->Prop}{s:Shared}{K:Frag}
noncomputable def Rw(h:Heap):Heap:={ h with objs:=#[] }
theorem Rp(h:Heap)(b:Addr):(Rw h).get? b=none:=by
 cases e:(Rw h).get? b with
 |none=>rfl
 |some o=>exact absurd (AU e) (Nat.not_lt_zero _)
noncomputable def ledger(h:Heap)(L d:Addr):ZDw:=(List.range h.objs.size).filterMap λa=>if a=L∨a=d then none else(h.get? a).map λo=>(a,o)
theorem sW{h:Heap}{L d a:Addr}{o:Obj}:(a,o)∈ledger h L d↔a≠L/\a≠d/\h.get? a=some o:=by
 unfold ledger;rw[ZCh];constructor
 .rintro⟨b,_,e⟩;split at e
  .cases e
  .rename_i hb;obtain⟨o',ho,g⟩:=Option.map_eq_some_iff.mp e;cases g;exact⟨λq=>hb (.inl q),λq=>hb (.inr q),ho⟩
 .rintro⟨f,c,ho⟩;refine⟨a,List.mem_range.mpr (AU ho),?_⟩;rw[mD (show ¬ (a=L∨a=d)from λq=>q.elim f c),ho] <;> rfl
theorem vM{h:Heap}{L:Addr}{m:ZDx}(n:h.Ns L m):Fr (Rw h) L h m:=
 ⟨n,λb o e=>(by rw[Rp]at e;cases e),Bm _⟩
end
end Hz
namespace L2
variable{X:Cx}{qual x:Str}{a f:Addr}{fd:FuncData}{ps:List Str}{A B:Prop}
theorem dY:∀{vs:List Value}{ns:List Int},IntsAre vs ns->Vals (ns.map V.int) vs
 |_,_,.nil=>.nil
 |_,_,.cons n t h=>.cons ⟨t,rfl⟩ (dY h)
noncomputable def K4(s:Stmt):Arguments:=match s with
 | .FunctionDef _ a _ _ _ _ _ _ _ _=>a
 |_=>{ posonlyargs:=[],args:=[],vararg:=none,kwonlyargs:=[],kw_defaults:=[],kwarg:=none,defaults:=[] }
noncomputable def EJ(s:Stmt):List Stmt:=match s with
 | .FunctionDef _ _ b _ _ _ _ _ _ _=>b
 |_=>[]
noncomputable def AO(s:Stmt):Scope:=match s with
 | .FunctionDef _ _ _ _ _ _ sc _ _ _=>sc
 |_=>{ kind:=.function,names:=[],isGenerator:=false,isCoroutine:=false }
abbrev Dr:GV:=λ_ _ _ _ _ _=>False
abbrev E0:XK:=λ_ _ _=>False
theorem ra:Passes Dr X E0:=λ_ _ _ _ _ _ _ h=>h.elim
structure AM (K:ZDv) (x qual:Str) (st:Stmt) (f:Addr) (fd:FuncData):Prop where
 ex:∃(oc:Value)(od:Option Addr)(kV doc pm:Value)(an:Option Addr)(Ak ct:Value)(Em:Array (Option Value)),
  fd=PySem.W.fnOf x qual (K4 st) (EJ st) (AO st) .none kV doc pm an Ak ct/\K.lookup f=some ⟨oc,od,.func fd,Em⟩/\PySem.W.codeIn K Ak qual=true
 kp:PySem.W.keepIn K (.ref f)=true
section
variable{P:Program}{w:World}{K:ZDv}{mg:ZDx}{Zl:Heap}
theorem AM.ok{st:Stmt}{N:List Str}{k:Nat}{sp:Sp}(F:AM K x qual st f fd)(S:B6 N ps (AO st))(len:∀vs H Q E,sp vs H Q E->vs.length=ps.length)
  (J7:∀(Ak:Value)(A:Around)(outer:List Env)(s:Shared)(H:Hp)(vs:List V)(Q:VK)(E:XK),Bs k (A.deeper (envOfC qual (AO st) s.heap.objs.size f Ak))->sp vs H Q E->
   ∃t,EO (Gb Dr P w K mg Zl N qual (AO st) f Ak A outer s H E).HI (EJ st) t/\t { nx:=λ_ H'=>Q .A9 H',rt:=Q } (start N vs) H):EF P w K mg Zl Dr (k+1) f fd ps sp:=by
 obtain⟨g,e,kV,c,d,i,Ak,ct,Em,rfl,a,Et⟩:=F.ex;refine dM a Et S len λA outer s H vs Q E b Fw=>?_;obtain⟨t,h,q⟩:=J7 Ak A outer s H vs Q E b Fw;exact⟨t,h.HI,q⟩
theorem AM.binds{st:Stmt}(F:AM K x qual st f fd)
  (h:∀(kV a b:Value)(c:Option Addr)(Ak ct:Value)(us:List Value),us.length=ps.length->bindArgs (PySem.W.fnOf x qual (K4 st) (EJ st) (AO st) .none kV a b c Ak ct) ⟨us,[]⟩=pure (ps.zip us)):Binds K fd ps []:=by
 obtain⟨e,d,kV,a,b,c,Ak,ct,Em,rfl,g,Et⟩:=F.ex;exact .all (h kV a b c Ak ct)
theorem ZAS{st:Stmt}{g:Value}{e d:Option Addr}{Em:Array (Option Value)}{kV a b Ak ct:Value}(l:K.lookup f=some ⟨g,e,.func (PySem.W.fnOf x qual (K4 st) (EJ st) (AO st) .none kV a b d Ak ct),Em⟩)
  (c:PySem.W.codeIn K Ak qual=true) (k:PySem.W.keepIn K (.ref f)=true):AM K x qual st f (PySem.W.fnOf x qual (K4 st) (EJ st) (AO st) .none kV a b d Ak ct):=⟨⟨g,e,kV,a,b,d,Ak,ct,Em,rfl,l,c⟩,k⟩
end
theorem OO{A:Around}{k:Nat}(a:Bs k A):A.units+1<cLine:=IK (Nat.add_le_add_left (by decide:1<=64) _) a.units
theorem ML(h:B):if false=true then A else B:=by
 rw[mD DO];exact h
theorem Og(h:A):if true=true then A else B:=by
 rw[p7 rfl];exact h
theorem BP{c:Prop}[Decidable c](h1:c->A)(h2:¬ c->B):if c then A else B:=by
 by_cases h:c
 .rw[p7 h];exact h1 h
 .rw[mD h];exact h2 h
def AI(H H':Hp):Prop:=∀b o,H b=some o->H' b=some o
theorem AI.refl(H:Hp):AI H H:=λ_ _ h=>h
theorem AI.trans{H H1 H2:Hp}(a:AI H H1)(b:AI H1 H2):AI H H2:=λc o h=>b c o (a c o h)
theorem AI.seq{K:ZDv}{H H':Hp}{xs:List V}(e:AI H H')(h:AK K H a xs):AK K H' a xs:=by
 rcases h with(h|⟨o,h⟩)|h
 .exact .inl (.inl (e _ _ h))
 .exact .inl (.inr ⟨o,e _ _ h⟩)
 .exact .inr h
end L2
set_option maxHeartbeats 4000000
namespace L2
variable{α κ:Type}{o:Option V}{u v:Value}{AD:List (List Key×V)}{y:V}{w:World}{H H' H1 H2 H4:Hp}{xs:List (List Key×Addr×Value)}{C a acc b it n:Addr}{X Y:Cx}{Zd:ZDw}{ws Z:St}{s s2 s4:Shared}{A:Around}{E Q:Value->Shared->Prop}{h' h1:Heap}{i j n0 t' tk:Nat}{prog:Program}{env:Env}{c e elt tg value:Expr}{Jv pos px py:Pos}{td te ty:TE}{outer scope:Scope}{t tt:TT}{cl closure:List (Str×Addr)}{qual x:Str}{ce:Option Str}{es ifs:List Expr}{R:Result->Shared->Prop}{js:List Nat}{J:It}{tn:Nat->Heap->Prop}{wi:TI}{CW:It->St->Hp->Addr->VK->Prop}{N:List Str}{tp:Bool}{ys:List V}{A3:List Value}
section
variable[DecidableEq κ]
noncomputable def Eu(AD:List (κ×V))(k:κ):Option V:=(AD.find? λkv=>decide (kv.1=k)).map (·.2)
def putK(AD:List (κ×V))(k:κ)(v:V):List (κ×V):=
 if(AD.any λkv=>decide (kv.1=k))=true then AD.map (λkv=>if kv.1=k then(kv.1,v)else kv)else AD++[(k,v)]
theorem Qf{p:κ×V}{r:List (κ×V)}{k:κ}(e:p.1=k):Eu (p::r) k=some p.2:=by simp[Eu,PQ,e]
theorem Rq{p:κ×V}{r:List (κ×V)}{k:κ}(e:¬ p.1=k):Eu (p::r) k=Eu r k:=by simp[Eu,PQ,e]
theorem VC(k:κ):∀AD:List (κ×V),(AD.any λkv=>decide (kv.1=k))=(Eu AD k).isSome
 | []=>rfl
 |p::r=>by
  rw[N3]
  by_cases e:p.1=k
  .simp only[Qf e,kc e,Bool.true_or,ZCy]
  .rw[Rq e,oO e,YI];exact VC k r
theorem dU(AD:List (κ×V))(k:κ)(v:V):(putK AD k v).length<=AD.length+1:=by
 unfold putK;split
 .rw[AA];omega
 .rw[BF,Az,KR];omega
theorem Gx.WZ{u:Option Value}(r:Gx o u):o.isSome=u.isSome:=by
 cases o with
 |none=>cases u with
  |none=>rfl
  |some _=>exact(show False from r).elim
 |some _=>cases u with
  |none=>exact(show False from r).elim
  |some _=>rfl
theorem KV.val{AD:List (κ×V)}{vs:List (κ×Value)}(r:KV AD vs)(k:κ):Gx (Eu AD k) (valueAt vs k):=by
 unfold KV at r
 induction r with
 |nil=>exact True.intro
 |@cons p q ps a h t d=>
  obtain⟨h1,h2⟩:=h
  by_cases e:p.1=k
  .have c:q.1=k:=h1.symm.trans e;have b:valueAt (q::a) k=some q.2:=by simp[valueAt,PQ,c]
   rw[Qf e,b];exact h2
  .have c:¬ q.1=k:=λz=>e (h1.trans z);have b:valueAt (q::a) k=valueAt a k:=by simp[valueAt,PQ,c]
   rw[Rq e,b];exact d
theorem KV.any{AD:List (κ×V)}{vs:List (κ×Value)}(r:KV AD vs)(k:κ):(AD.any λkv=>decide (kv.1=k))=vs.any λkv=>decide (kv.1=k):=by
 unfold KV at r
 induction r with
 |nil=>rfl
 |cons h t a=>rw[N3,N3,a,h.1]
theorem KV.UW{AD:List (κ×V)}{vs:List (κ×Value)}(r:KV AD vs)(k:κ)(a:RelV y u):
  KV (AD.map λkv=>if kv.1=k then(kv.1,y)else kv) (vs.map λkv=>if kv.1=k then(kv.1,u)else kv):=by
 unfold KV at r ⊢
 induction r with
 |nil=>exact .nil
 |@cons p q ps c h t b=>
  rw[DG,DG];refine .cons ?_ b;obtain⟨h1,h2⟩:=h
  by_cases e:p.1=k
  .rw[p7 e,p7 (h1.symm.trans e)];exact⟨h1,a⟩
  .rw[mD e,mD (λz=>e (h1.trans z))];exact⟨h1,h2⟩
theorem KV.put{AD:List (κ×V)}{vs:List (κ×Value)}(r:KV AD vs)(k:κ)(a:RelV y u):KV (putK AD k y) (stored vs k u):=by
 unfold putK stored;rw[r.any k]
 by_cases e:(vs.any λkv=>decide (kv.1=k))=true
 .rw[p7 e,p7 e];exact r.UW k a
 .rw[mD e,mD e];exact Paired.snoc r ⟨rfl,a⟩
theorem KV.length{AD:List (κ×V)}{vs:List (κ×Value)}(r:KV AD vs):AD.length=vs.length:=jY r
end
theorem S9{P:Program}{k:Key}(r:RelV (kV k) u):(Fu P w).is k u=true:=by
 cases k with
 |inl i=>obtain⟨t,e⟩:=(show ∃t,u=Value.int i t from r);subst e;exact zr P w i t
 |inr x=>obtain⟨t,e⟩:=(show ∃t,u=Value.str x t from r);subst e;exact ph P w x t
theorem dC{P:Program}{w:World}:∀{ks:List Key}{us:List Value},Vals (ks.map kV) us->ItemsAre (Fu P w) ks us
 | [],_,r=>by rw[T8]at r;cases r;exact .nil
 |k::ks,_,r=>by
  rw[DG]at r;cases r with
  |cons h t=>exact .cons (S9 h) (dC t)
abbrev KT(H:Hp):List (List Key×V)->List (List Key×Addr×Value)->Prop:=Paired λp q=>p.1=q.1/\H q.2.1=some (.tup (p.1.map kV))/\RelV p.2 q.2.2
theorem KT.val(r:KT H AD xs)(k:List Key):Gx (Eu AD k) ((atKey xs k).map (·.2)):=by
 induction r with
 |nil=>exact True.intro
 |@cons p q ps a h t d=>
  obtain⟨h1,_,h2⟩:=h
  by_cases e:p.1=k
  .have c:q.1=k:=h1.symm.trans e;have b:atKey (q::a) k=some q.2:=by simp[atKey,PQ,c]
   rw[Qf e,b];exact h2
  .have c:¬ q.1=k:=λz=>e (h1.trans z);have b:atKey (q::a) k=atKey a k:=by simp[atKey,PQ,c]
   rw[Rq e,b];exact d
theorem KT.UW(r:KT H AD xs)(k:List Key)(a:RelV y u):
  KT H (AD.map λkv=>if kv.1=k then(kv.1,y)else kv) (xs.map (putAt k u)):=by
 induction r with
 |nil=>exact .nil
 |@cons p q ps d h t b=>
  rw[DG,DG];refine .cons ?_ b;obtain⟨h1,h2,c⟩:=h;unfold putAt
  by_cases e:p.1=k
  .rw[p7 e,p7 (h1.symm.trans e)];exact⟨h1,h2,a⟩
  .rw[mD e,mD (λz=>e (h1.trans z))];exact⟨h1,h2,c⟩
theorem KT.put(r:KT H AD xs)(k:List Key)(c:H b=some (.tup (k.map kV)))(a:RelV y u):
  KT H (putK AD k y) (storedH xs k b u):=by
 have e:(AD.any λkv=>decide (kv.1=k))=(atKey xs k).isSome:=by
  rw[VC,(r.val k).WZ,jX]
 unfold putK storedH;rw[e]
 by_cases q:(atKey xs k).isSome=true
 .rw[p7 q,p7 q];exact r.UW k a
 .rw[mD q,mD q];exact Paired.snoc r ⟨rfl,c,a⟩
theorem KT.keeps(r:KT H AD xs)(a:∀b ys,H b=some (.tup ys)->H' b=some (.tup ys)):KT H' AD xs:=
 Paired.UC r λ_ _ z=>⟨z.1,a _ _ z.2.1,z.2.2⟩
section
variable{P:Program}{h:Heap}
theorem bV{u:HO}(ok:CA P w H h)(e:Rd H a u):Bx P w H h a u:=e.ok ok
theorem SR{AD:List (Key×V)}(ok:CA P w H h)(e:Rd H a (.dK AD)):AD.length<=sizeLine/\(a == sysModules)=false/\∃vs,KV AD vs/\h.DictOf (Fu P w) a vs:=
 show Bx P w H h a (.dK AD)from bV ok e
theorem qE{AD:List (Key×V)}(ok:CA P w H h)(e:H a=some (.dK AD)):AD.length<=sizeLine/\(a == sysModules)=false/\∃vs,KV AD vs/\h.DictOf (Fu P w) a vs:=SR ok (.inl e)
theorem QD{ks:List Key}(ok:CA P w H h)(e:H a=some (.tup (ks.map kV))):(tupleKind (Fu P w)).is h ks a:=by
 obtain⟨_,A3,r,⟨o,h1,h2,n,b⟩,_⟩:=(show Bx P w H h a (.tup (ks.map kV))from ok a _ e);exact⟨o,A3.toArray,n,h1,h2,b,by simpa using dC r⟩
theorem Q6(ok:CA P w H h)(e:Rd H a (.dT AD)):AD.length<=sizeLine/\(a == sysModules)=false/\
  ∃xs,KT H AD xs/\h.DictOfH (tupleKind (Fu P w)) a xs:=by
 obtain⟨z,y,xs,r,o,es,ep,h1,h2,g,f,d⟩:=(show Bx P w H h a (.dT AD)from bV ok e);refine⟨z,y,xs,r,o,es,ep,h1,h2,g,f,λx hx=>?_,d⟩;have all:∀{l:List (List Key×V)}{m:List (List Key×Addr×Value)},KT H l m->∀x∈m,(tupleKind (Fu P w)).is h x.1 x.2.1:=by
  intro l m q
  induction q with
  |nil=>intro x hx;exact nomatch hx
  |@cons p q ps i b t c=>
   intro x hx;rcases List.mem_cons.mp hx with e|hx
   .subst e;exact QD ok (by rw[<- b.1];exact b.2.1)
   .exact c x hx
 exact all r x hx
theorem ZBI(ok:CA P w H h)(e:H a=some (.dT AD)):AD.length<=sizeLine/\(a == sysModules)=false/\
  ∃xs,KT H AD xs/\h.DictOfH (tupleKind (Fu P w)) a xs:=Q6 ok (.inl e)
end
def Hi(H:Hp)(a:Addr)(y:V)(r:Option V):Prop:=
 (∃AD k,Rd H a (.dK AD)/\y=kV k/\r=Eu AD k)∨∃AD k b,Rd H a (.dT AD)/\y=.ref b/\H b=some (.tup (k.map kV))/\r=Eu AD k
def P0(H:Hp)(a:Addr)(y v:V)(H':Hp):Prop:=
 (∃AD k,H a=some (.dK AD)/\y=kV k/\AD.length<sizeLine/\H'=upd H a (.dK (putK AD k v)))∨
 ∃AD k b,H a=some (.dT AD)/\y=.ref b/\H b=some (.tup (k.map kV))/\AD.length<sizeLine/\H'=upd H a (.dT (putK AD k v))
theorem Hi.k{AD:List (Key×V)}{k:Key}(e:H a=some (.dK AD)):Hi H a (kV k) (Eu AD k):=.inl ⟨AD,k,.inl e,rfl,rfl⟩
theorem P0.k{AD:List (Key×V)}{k:Key}{v:V}(e:H a=some (.dK AD))(b:AD.length<sizeLine):P0 H a (kV k) v (upd H a (.dK (putK AD k v))):=.inl ⟨AD,k,e,rfl,b,rfl⟩
section
variable{v:V}{r:Value}
theorem Inv.big(I:Inv X Zd Z H s):sysModules<s.heap.objs.size:=by
 have h:mainGlobals<s.heap.objs.size:=(I.mod.glob.keeps I.bk).lt;exact Yi (by decide) h
theorem oZ(m:A.units+1<cLine)(I:Inv X Zd Z H s)(g:Hi H a y (some v))(i:RelV y u)(h:∀d s',Inv X Zd Z H s'->RelV v d->Q d s'):
  wpAny (model X.prog X.w) A (getItem (.ref a) u) Q E s:=by
 rcases g with⟨AD,k,e,f,l⟩|⟨AD,k,b,e,f,q,l⟩
 .subst f;obtain⟨z,hd,vs,c,dd⟩:=SR I.AG e;obtain⟨d,hw,Ic⟩:=Gx.some_of (v:=v) (o:=valueAt vs k) (by rw[l];exact c.val k);exact wpAny_getItem_of (S9 i) dd.mapOf hw (h d _ (I.tok _) Ic)
 .subst f;cases(show u=Value.ref b from i);obtain⟨z,hd,xs,c,dd⟩:=Q6 I.AG e;obtain⟨d,hw,Ic⟩:=Gx.some_of (v:=v) (o:=(atKey xs k).map (·.2)) (by rw[l];exact c.val k)
  obtain⟨p,n,j⟩:=Option.map_eq_some_iff.mp hw;refine wpAny_getItem_heap (ZB4 m) (QD I.AG q) dd n ?_;rw[j];exact h d _ (I.tok _) Ic
theorem ye(i:A.units+1<cLine)(I:Inv X Zd Z H s)(g:Hi H a y o)(f:RelV y u)(h:∀s',Inv X Zd Z H s'->Q (.bool (!o.isSome)) s'):
  wpAny (model X.prog X.w) A (compareOp .NotIn u (.ref a)) Q E s:=by
 rcases g with⟨AD,k,e,d,l⟩|⟨AD,k,b,e,d,j,l⟩
 .subst d;obtain⟨z,hd,vs,c,dd⟩:=SR I.AG e;refine wpAny_notIn_of (S9 f) hd dd.mapOf ?_;rw[<- (c.val k).WZ,<- l];exact h _ (I.tok _)
 .subst d;cases(show u=Value.ref b from f);obtain⟨z,hd,xs,c,dd⟩:=Q6 I.AG e;refine wpAny_notIn_heap (ZB4 i) (QD I.AG j) hd dd ?_;have q:=(c.val k).WZ;rw[jX]at q;rw[<- q,<- l];exact h _ (I.tok _)
theorem fV{c:HO}(I:Inv X Zd Z H s)(mu:P9 (H a))(d:Heap.SameBut a s.heap h')(f:∃q,h'.get? a=some q)(new:Bx X.prog X.w (upd H a c) h' a c):
  Inv X Zd Z (upd H a c) { s with heap:=h',toks:=t' }:=
 I.write (x:=a) (e:=a) mu (.inl rfl) (λb q g z=>(d.2 b g).trans z) f new
theorem oS{P:Program}{AD:List (Key×V)}{vs:List (Key×Value)}(z:AD.length<=sizeLine)(hd:(a == sysModules)=false)(b:KV AD vs)(dd:h'.DictOf (Fu P w) a vs):
  Bx P w H' h' a (.dK AD):=⟨z,hd,vs,b,dd⟩
theorem zm{Q:Unit->Shared->Prop}(C:A.units+1<cLine)(I:Inv X Zd Z H s)(g:P0 H a y v H')(p:RelV y u)(t:RelV v r)(h:∀s',Inv X Zd Z H' s'->Q () s'):
  wpAny (model X.prog X.w) A (setItem (.ref a) u r) Q E s:=by
 rcases g with⟨AD,k,e,n,l,o⟩|⟨AD,k,b,e,n,B,l,o⟩
 .subst n o;obtain⟨z,hd,vs,d,dd⟩:=qE I.AG e;have i:vs.length<=sizeLine:=by rw[<- d.length];exact z
  have m:(putK AD k v).length<=sizeLine:=by have:=dU AD k v;omega
  refine wpAny_setItem_pairs (hsz:=i) (S9 p) dd λh' Pu j=>h _ ?_;have D:∃q,h'.get? a=some q:=let ⟨q,_,_,f,_⟩:=Pu;⟨q,f⟩;exact fV I (by rw[e];exact True.intro) j D (oS m hd (d.put k t) Pu)
 .subst n o;cases(show u=Value.ref b from p);obtain⟨z,hd,xs,d,dd⟩:=ZBI I.AG e;have i:xs.length<=sizeLine:=by rw[<- jY d];exact z
  have m:(putK AD k v).length<=sizeLine:=by have:=dU AD k v;omega
  refine wpAny_setItem_heap (hsz:=i) (ZB4 C) (QD I.AG B) dd λh' Pu j=>h _ ?_;obtain⟨q,es,ep,f,h2,J,G,_,F⟩:=Pu;refine fV I (by rw[e];exact True.intro) j ⟨q,f⟩ ⟨m,hd,_,(d.put k B t).keeps λc ys x=>?_,q,es,ep,f,h2,J,G,F⟩;rw[AY (zB x e (λz=>nomatch z))];exact x
variable{AD:List (Key×V)}{k:Key}
end
def Vn(i:Expr):Prop:=∀a b,subscripted i false a b=operate [a,b] (getItem a b)
theorem jv{a:Expr}{T id:String}
  (k:typeLookup (.type T) "__getitem__"=pure (some (.builtin id))) (j:Vn a)
  (h:wpAny (model prog w) A (eval value env) (λo s₁=>wpAny (model prog w) A (eval a env) (λi b=>b.TypeIs o T/\wpAny (model prog w) A (getItem o i) Q E b) E s₁) E s) :
  wpAny (model prog w) A (eval (.Subscript value a pos) env) Q E s:=by
 refine Subscript_ (qP h (λo s₁ g=>qP g (λi b c=>?_) λ_ _ x=>x) λ_ _ x=>x);obtain⟨e,c⟩:=c;unfold subscriptTail;refine dP ?_;rw[getitemInPython_of_ne e.not_modules];refine dP (ZBY e k ?_);have fin:wpAny (model prog w) A (subscripted a false o i) (λr d=>wpAny (model prog w) A (letTemporaryGo value o r >>= λ_=>pure r) Q E d) E b:=by
  rw[j o i];exact wpAny_operating (qP c (λr d f=>dP (wpAny_letTemporaryGo (k4 f))) λ_ _ x=>x)
 first
  |exact k4 (dP fin)
  |exact dP (k4 (dP fin))
  |exact dP fin
theorem yy(I:Inv X Zd Z H s)(g:Hi H a y o):s.TypeIs (.ref a) "dict" := by
 rcases g with⟨AD,k,e,_,_⟩|⟨AD,k,b,e,_,_,_⟩
 .obtain⟨_,_,vs,_,dd⟩:=SR I.AG e;exact dd.typeIs
 .obtain⟨_,_,xs,_,dd⟩:=Q6 I.AG e;exact dd.typeIs
def Vm(td ty:TE):TE:=λZ H Q=>td Z H λx H1=>ty Z H1 λy H2=>∃a v,x=.ref a/\Hi H2 a y (some v)/\Q v H2
def Qn(ty td:TE):TE:=λZ H Q=>ty Z H λy H1=>td Z H1 λx H2=>∃a o,x=.ref a/\Hi H2 a y o/\Q (.bl (!o.isSome)) H2
def SF(td ty tv:TE):TS:=λD Z H=>tv Z H λv H1=>td Z H1 λx H2=>ty Z H2 λy H3=>∃a H4,x=.ref a/\P0 H3 a y v H4/\D.nx Z H4
section
variable{o i:Expr}{pos' VF:Pos}{tv:TE}
theorem zO(j:X.A.units+1<cLine)(hi:PE X i ty)(ho:PE X o td):PC X .NotIn i o (Qn ty td):=by
 intro Zd s Z H Q I h;refine hi.k I h λm s1 y H1 I1 b e=>ho.k I1 e λu s2 x H2 I2 c⟨a,f,ex,g,d⟩=>?_;subst ex;obtain rfl:u=Value.ref a:=c;exact ye j I2 g b λl I3=>⟨.bl (!f.isSome),H2,I3,rfl,d⟩
end
theorem si{P:Program}(h:Heap)(a:sysModules<h.objs.size):Bx P w H (h.push { cls:=.type "dict", data:=.dict #[] }) h.objs.size (.dK []):=
 ⟨Bm _,beq_eq_false_iff_ne.mpr (Bh (An a)),[],.nil,Heap.DictOf.new h⟩
def SX:TE:=λ_ H Q=>∀p,H p=none->Q (.ref p) (upd H p (.dK []))
theorem nI{β:Type}{l:List α}{f:α->β->Sem (ForInStep β)}(g:β->α->β)(h:∀x∈l,∀c,f x c=pure (.yield (g c x))):∀c,forIn l c f=pure (l.foldl g c):=by
 induction l with
 |nil=>intro c;rfl
 |cons x l a=>
  intro c;rw[YV,h x Ar,pure_bind];exact a (λy b=>h y (BG _ b)) (g c x)
noncomputable def L1(cells:List (Str×Addr))(cs:List (Str×Addr))(x:Str×NameKind):List (Str×Addr):=
 if x.2=.free then(x.1,(cells.lookup x.1).getD 0)::cs else cs
def BX(cells:List (Str×Addr))(names:List (Str×NameKind)):List (Str×Addr):=names.foldl (L1 cells) []
theorem c6(h:∀x∈scope.names,x.2=.free->(env.cells.lookup x.1).isSome=true):closureFor scope env=pure (BX env.cells scope.names):=by
 simp only[closureFor];rw[nI (L1 env.cells) (λx hx c=>by
  obtain⟨n,k⟩:=x;unfold L1
  by_cases hk:k=NameKind.free
  .subst hk;have q:=h _ hx rfl;obtain⟨a,e⟩:=Option.isSome_iff_exists.mp q;have b:env.cells.lookup n=some a:=e;have d:cellOf env n=pure a:=by unfold cellOf;rw[b]
   simp[d,b]
  .have:(k == NameKind.free)=false:=by simpa using hk
   simp[this,hk])]
 rfl
theorem WY{cells:List (Str×Addr)}:∀(names:List (Str×NameKind))(acc:List (Str×Addr)),(∀y∈names,y.2=.free->(cells.lookup y.1).isSome=true)->
  (∀x c,acc.lookup x=some c->cells.lookup x=some c)->∀x c,(names.foldl (L1 cells) acc).lookup x=some c->cells.lookup x=some c
 | [],acc,_,ha,x,c,e=>ha x c e
 | (n,k)::r,acc,hs,ha,x,c,e=>by
  rw[N4]at e;refine WY r _ (λy d=>hs y (BG _ d)) (λx c e=>?_) x c e;unfold L1 at e
  by_cases hk:k=NameKind.free
  .rw[p7 hk]at e;have q:=hs _ Ar hk;obtain⟨a,q⟩:=Option.isSome_iff_exists.mp q;have b:cells.lookup n=some a:=q;rw[JO]at e
   by_cases hx:x=n
   .subst hx;simp only[vh,b,ZCx]at e;rw[b,<- e]
   .have f:(x == n)=false:=by simpa using hx
    rw[f]at e;exact ha x c e
  .rw[mD hk]at e;exact ha x c e
theorem Nk{cells:List (Str×Addr)}{x:Str}:∀(names:List (Str×NameKind))(acc:List (Str×Addr)),((acc.lookup x).isSome=true∨(x,NameKind.free)∈names)->
  ((names.foldl (L1 cells) acc).lookup x).isSome=true
 | [],acc,h=>by
  rcases h with h|h
  .exact h
  .cases h
 | (n,k)::r,acc,h=>by
  rw[N4];refine Nk r _ ?_;unfold L1;rcases h with h|h
  .refine .inl ?_;split
   .rw[JO];split
    .rfl
    .exact h
   .exact h
  .rcases List.mem_cons.mp h with e|h
   .cases e;refine .inl ?_;rw[p7 rfl,JO];simp
   .exact .inr h
theorem Sl{env:Env}:∀(names:List (Str×NameKind))(x:Str),
  (names.map λ(n,k)=>if(k == NameKind.free && env.scope.kind == .function && env.kindOf n == some .cell)then(n,NameKind.cell)else(n,k)).lookup x =
   (names.lookup x).map λk=>if(k == NameKind.free && env.scope.kind == .function && env.kindOf x == some .cell)then NameKind.cell else k
 | [],x=>rfl
 | (n,k)::r,x=>by
  have c:=Sl (env:=env) r x;rw[DG]
  by_cases a:(k == NameKind.free && env.scope.kind == .function && env.kindOf n == some .cell)=true
  .show List.lookup x ((if(k == NameKind.free && env.scope.kind == .function && env.kindOf n == some .cell)=true then(n,NameKind.cell)else(n,k))::_)=_
   rw[p7 a,JO,JO]
   by_cases hx:x=n
   .subst hx;simp only[vh,Lu];rw[p7 a]
   .have b:(x == n)=false:=by simpa using hx
    rw[b];exact c
  .show List.lookup x ((if(k == NameKind.free && env.scope.kind == .function && env.kindOf n == some .cell)=true then(n,NameKind.cell)else(n,k))::_)=_
   rw[mD a,JO,JO]
   by_cases hx:x=n
   .subst hx;simp only[vh,Lu];rw[mD a]
   .have b:(x == n)=false:=by simpa using hx
    rw[b];exact c
noncomputable abbrev GQ(X:Cx)(N:List Str)(scope:Scope)(cl:List (Str×Addr))(C:Addr)(s:Shared)(H:Hp)(fp:List Addr):Cx:=
 { X with N:=N,s₀:=s,H₀:=H,env:=compEnvC scope cl C X.env,outer:=X.stack,ex:=fp,fn:=λ_=>false,pn:=[],xe:=λ_ _=>False }
noncomputable def B3(js:List Nat)(Z:St):St:=js.map λj=>(Z[j]?).join
structure Cd (N:List Str) (outer scope:Scope) (x:Str) (A8:List Str) (js:List Nat):Prop where
 kind:scope.kind=.function
 HM:∀y∈scope.names,y.2≠.cell
 loc:∀y∈scope.names,y.2=.local->scope.names.lookup y.1=some .local
 Hj:scope.names.lookup x=some .local
 at':js.map (λj=>N[j]?)=A8.map some
 cell:∀y∈A8,outer.names.lookup y=some .cell
 free:∀y∈A8,scope.names.lookup y=some .free
 all:∀y∈scope.names,y.2=.free->outer.names.lookup y.1=some .cell
 nd:(A8++[x]).Nodup
def Iz(X:Cx)(ifs:List Expr)(t:TT):Prop:=
 ∀(Zd:ZDw)(s:Shared)(Z:St)(H:Hp)(Q:Bool->Hp->Prop),Inv X Zd Z H s->t Z H Q->
  wpAny (model X.prog X.w) X.A (forIn ifs true λc r=>if r=true then do let ok <- isTrue c X.env (eval c X.env);pure (ForInStep.yield ok)else pure (ForInStep.yield r)) (TP X Zd Z Q) X.xe s
def MU:TT:=λ_ H Q=>Q true H
theorem dO:Iz X [] MU:=λZd s Z H Q I h=>by
 rw[T5];exact k4 ⟨H,I,h⟩
theorem pF(a:PT X c t):Iz X [c] t:=λZd s Z H Q I h=>by
 rw[YV];refine dP ?_;rw[p7 rfl];refine dP (B4 (a Zd s Z H Q I h) λb s1 q=>k4 ?_);show wpAny _ _ (forIn [] b _) _ _ s1;rw[T5];exact k4 q
def LW(J:It)(js:List Nat)(tt:TT)(te:TE)(Z:St)(H1:Hp)(acc:Addr)(Q:VK):Prop:=
 ∃W:Nat->Nat->Hp->Prop,(∃m,W 0 m (upd H1 acc (.lst [])))/\∀i m H2,W i m H2->
  (J.stop i H2/\Q (.ref acc) H2)∨(J.go i H2/\∀x H3,J.Dy i H2 x H3->tt (B3 js Z++[some x]) H3 λb H4=>
   if b=true then te (B3 js Z++[some x]) H4 λy H5=>∃ys,H5 acc=some (.lst ys)/\ys.length<sizeLine/\∃a,a < m/\W (i+1) a (upd H5 acc (.lst (ys++[y])))
   else ∃a,a < m/\W (i+1) a H4)
def HP(wi:TI)(js:List Nat)(tt:TT)(te:TE):TE:=λZ H Q=>wi Z H λJ H1=>∀acc,H1 acc=none->LW J js tt te Z H1 acc Q
theorem yC(l:List α)(a b:α):(l++[a]).set l.length b=l++[b]:=by
 induction l with
 |nil=>rfl
 |cons x l c=>simp[c]
noncomputable def HJ:Option Str->Addr->List (Str×Addr)
 |none,_=>[]
 |some x,n=>[(x,n)]
noncomputable def Oa:Option Str->Heap->Heap
 |none,h=>h
 |some _,h=>h.push { cls:=.type "cell", data:=.cell none }
structure Dd (N:List Str) (outer scope:Scope) (ce:Option Str) (zs A8:List Str) (js:List Nat):Prop where
 kind:scope.kind=.function
 loc:∀y∈scope.names,y.2=.local->scope.names.lookup y.1=some .local
 one:∀y∈scope.names,y.2=.cell->ce=some y.1
 sub:∀x,ce=some x->x∈zs
 cf:∀(n:Nat)(cl:List (Str×Addr)),cellsFrom n scope.names cl=HJ ce n++cl
 pc:∀h:Heap,pushCells h scope.names=Oa ce h
 at':js.map (λj=>N[j]?)=A8.map some
 cell:∀y∈A8,outer.names.lookup y=some .cell∨outer.names.lookup y=some .free
 free:∀y∈A8,scope.names.lookup y=some .free
 all:∀y∈scope.names,y.2=.free->outer.names.lookup y.1=some .cell∨outer.names.lookup y.1=some .free
 nd:(A8++zs).Nodup
abbrev Eo(X:Cx)(N:List Str)(scope:Scope)(ce:Option Str)(cl:List (Str×Addr))(C:Addr)(s:Shared)(H:Hp)(fp:List Addr):Cx:=
 { X with N:=N,s₀:=s,H₀:=H,env:=compEnvC scope (HJ ce (C+1)++cl) C X.env,outer:=X.stack,ex:=fp,fn:=λy=>ce == some y,pn:=[],xe:=λ_ _=>False }
theorem sN{M:Model}{a:Addr}{b:Option Addr}{c:Value}{outer:Env}{Q:Env->Shared->Prop}
  (cf:∀(n:Nat)(cl:List (Str×Addr)),cellsFrom n scope.names cl=HJ ce n++cl) (pc:∀h:Heap,pushCells h scope.names=Oa ce h)
  (d:Q (newEnv scope s.heap.objs.size a (HJ ce (s.heap.objs.size+1)++closure) qual b c (some outer) builtinsNs) { s with heap:=Oa ce (s.heap.push { cls:=.type "dict", data:=.dict #[] }) }) :
  wpAny M A (newFunctionEnv scope a closure [] qual b c (some outer)) Q E s:=by
 simp only[newFunctionEnv,ZCy,ZBo];refine dP (wpAny_alloc ?_);refine dP (wpAny_layCells _ (λname kind cells=>by cases e:kind == NameKind.cell <;> simp[e]) _ _ _ _ ?_)
 rw[cf,pc];rw[show({ s with heap:=s.heap.push { cls:=.type "dict", data:=.dict #[] } }:Shared).heap.objs.size=s.heap.objs.size+1 from C2 ..]
 refine dP ?_;rw[T5];exact k4 (k4 d)
theorem du{y:Str}{c:Addr}(h:(HJ ce n++cl).lookup y=some c):(ce=some y/\c=n)∨(ce≠some y/\cl.lookup y=some c):=by
 cases ce with
 |none=>exact .inr ⟨λz=>(by cases z),h⟩
 |some x=>
  have h:((x,n)::cl).lookup y=some c:=h;rw[JO]at h
  by_cases e:y=x
  .subst e;simp only[vh]at h;exact .inl ⟨rfl,(BW h).symm⟩
  .have a:(y == x)=false:=by simpa using e
   rw[a]at h;exact .inr ⟨λz=>e (BW z).symm,h⟩
theorem Qc{y:Str}(h:ce≠some y):(HJ ce n++cl).lookup y=cl.lookup y:=by
 cases ce with
 |none=>rfl
 |some x=>
  show((x,n)::cl).lookup y=_;have a:(y == x)=false:=beq_eq_false_iff_ne.mpr λz=>h (by rw[z]);rw[JO,a]
theorem Pr:(HJ (some x) n++cl).lookup x=some n:=by
 show((x,n)::cl).lookup x=_;rw[JO,vh]
theorem uQ{iter:Expr}{it acc:Value}(I:Nat->Shared->Prop)
  (a:∀n s,I n s->wpAny (model prog w) A (pyNext it) (λr s1=>match r with
   |none=>R (.ok .next) s1
   |some v=>wpAny (model prog w) A (letOwnedTupleGo tg it v) (λ_ s2=>wpAny (model prog w) A (assign tg env v) (λ_ g=>
     wpAny (model prog w) A (forIn ifs true λc r=>if r=true then do let ok <- isTrue c env (eval c env);pure (ForInStep.yield ok)else pure (ForInStep.yield r)) (λok s4=>if ok=true then
      wpAny (model prog w) A (eval elt env) (λx f=>wpAny (model prog w) A (call (.builtin "list.append") [acc,x]) (λ_ d=>∃m,m<n/\I m d) (notedBy (model prog w) A env λe s'=>R (.error e) s') f) (notedBy (model prog w) A env λe s'=>R (.error e) s') s4
      else ∃m,m<n/\I m s4) (notedBy (model prog w) A env λe s'=>R (.error e) s') g)
     (notedBy (model prog w) A env λe s'=>R (.error e) s') s2) (notedBy (model prog w) A env λe s'=>R (.error e) s') s1) (notedBy (model prog w) A env λe s'=>R (.error e) s') s)
  (n:Nat) (h:I n s):codeAny (model prog w) A (.compLoop (.ListComp elt [⟨tg,iter,ifs,0⟩] scope pos) 0 it acc env) R s:=by
 refine codeAny_loop rfl I (λn s p=>(show wpAny _ A ((compTurn (.ListComp elt [⟨tg,iter,ifs,0⟩] scope pos) 0 it acc env).onRaise (λx=>do noteFrame x env;theTreesLotGoes x)) _ _ s from wpAny_noted ?_)) n h
 rw[compTurn_list];refine dP (wpAny_standAt (dP (qP (a n s p) (λr s1 i=>?_) λ_ _ z=>z)));cases r with
 |none=>exact k4 i
 |some v=>
  refine dP (qP i (λ_ s2 o=>dP (qP o (λ_ g l=>dP (qP l (λok s4 b=>?_) λ_ _ z=>z)) λ_ _ z=>z)) λ_ _ z=>z);cases ok with
  |false=>
   rw[mD (by decide)]at b;exact dP (k4 (k4 ⟨rfl,b⟩))
  |true=>
   rw[p7 rfl]at b;exact dP (dP (qP b (λx f k=>dP (qP k (λ_ d j=>k4 (k4 ⟨rfl,j⟩)) λ_ _ z=>z)) λ_ _ z=>z))
abbrev OE(tt:TT)(te:TE)(acc:Addr)(W:Nat->Nat->Hp->Prop)(i m:Nat)(Z:St)(H:Hp):Prop:=
 tt Z H λb H4=>if b=true then te Z H4 λy H5=>∃ys,H5 acc=some (.lst ys)/\ys.length<sizeLine/\∃m',m' < m/\W (i+1) m' (upd H5 acc (.lst (ys++[y])))
  else ∃m',m' < m/\W (i+1) m' H4
def Mf(g:TG)(n:Nat)(J:It)(js:List Nat)(tt:TT)(te:TE)(Z:St)(H1:Hp)(acc:Addr)(Q:VK):Prop:=
 ∃W:Nat->Nat->Hp->Prop,(∃m,W 0 m (upd H1 acc (.lst [])))/\∀i m H2,W i m H2->
  (J.stop i H2/\Q (.ref acc) H2)∨(J.go i H2/\∀x H3,J.Dy i H2 x H3->∀ws,ws.length=n->g x (B3 js Z++ws) H3 λσ8 H8=>∃us,us.length=n/\σ8=B3 js Z++us/\OE tt te acc W i m σ8 H8)
def dj(CW:It->St->Hp->Addr->VK->Prop)(wi:TI):TE:=λZ H Q=>wi Z H λJ H1=>∀acc,H1 acc=none->CW J Z H1 acc Q
section
variable{iter:Expr}{zs A8:List Str}{fp:List Addr}{g:TG}
theorem ZBs(h:scope.names.lookup x=some .cell):(relabel scope env).names.lookup x=some .cell:=by
 refine(Sl (env:=env) scope.names x).trans ?_;rw[h];simp
theorem xZ{n:Nat}{v:V}(h:(List.replicate n (none:Option V))[i]?=some (some v)):False:=by
 rw[jJ]at h
 by_cases c:i<n
 .rw[p7 c]at h;cases h
 .rw[mD c]at h;cases h
theorem tV(S:Dd X.N X.env.scope scope ce zs A8 js)(I3:Inv X Zd Z H2 s2)(E:∀b∈fp,Eh X Zd H2 b)(Qs:∀b∈fp,b<s2.heap.objs.size)
  {m:ZDx}(Er:h1.Ns s2.heap.objs.size m) (old:∀b o,s2.heap.get? b=some o->h1.get? b=some o) (D:∀x,ce=some x->h1.IsCell (s2.heap.objs.size+1) none) :
  Inv (Eo X (A8++zs) scope ce (BX X.env.cells scope.names) s2.heap.objs.size s2 H2 fp) [] (B3 js Z++List.replicate zs.length none) H2 { s2 with heap:=h1,toks:=t' }:=by
 have U:∀y∈scope.names,y.2=.free->(X.env.cells.lookup y.1).isSome=true:=λy g hk=>by
  obtain⟨c,e⟩:=I3.ok.has y.1 (S.all y g hk);rw[e];rfl
 have K:∀y c,(BX X.env.cells scope.names).lookup y=some c->X.env.cells.lookup y=some c:=WY scope.names [] U (λ_ _ e=>by cases e);have I:∀y k,(relabel scope X.env).names.lookup y=some k->k=.cell∨k=.free->scope.names.lookup y=some .free∨ce=some y:=λy k e hk=>by
  have t:=(Sl (env:=X.env) scope.names y).symm.trans e;cases q:scope.names.lookup y with
  |none=>rw[q]at t;cases t
  |some P=>
   rw[q]at t;cases P with
   |free=>exact .inl rfl
   |cell=>exact .inr (S.one _ (IP q) rfl)
   |_=>simp at t;rcases hk with rfl|rfl <;> cases t
 have n:js.length=A8.length:=by have:=pZ List.length S.at';simpa using this
 have J:∀y c,X.env.cells.lookup y=some c->c<s2.heap.objs.size:=λy c e=>by
  obtain⟨v,o,ho,_⟩:=I3.cell y c e;exact AU ho
 have f:∀c v,s2.heap.IsCell c v->h1.IsCell c v:=λc v AX=>by obtain⟨o,ho,hd⟩:=AX;exact⟨o,old c o ho,hd⟩
 have A:∀y c,(HJ ce (s2.heap.objs.size+1)++BX X.env.cells scope.names).lookup y=some c->(ce=some y/\c=s2.heap.objs.size+1)∨(ce≠some y/\X.env.cells.lookup y=some c):=λy c e=>(du e).imp id λz=>⟨z.1,K y c z.2⟩;have M:∀y∈A8,ce≠some y:=λy g z=>(List.nodup_append.mp S.nd).2.2 y g y (S.sub y z) rfl;refine⟨⟨I3.ok.mod,S.kind,I3.ok.glob,I3.ok.blt,Aa _,λy z c e1 C=>?_,λy g=>?_,λy c H e=>?_,I3.ok.hd,I3.ok.frames,.inl rfl,λb s=>⟨An (Qs b s),λy c e=>?_⟩,
  λb o e=>I3.bs b o e,CL I3.ok.Hw I3.sz,λb o e s=>?_,λb s Q=>?_,I3.stack,I3.cX⟩,rfl,I3.bare,Un.kept old,⟨m,Er,λi y v e1 C Y=>?_⟩,λy c e=>?_,I3.AG.fresh (Aa _),λy c e=>?_,λp R=>(by cases R),I3.AG.kept old,?_⟩
 .rcases A y c e1 with⟨a1,rfl⟩|⟨_,CU⟩
  .rcases A z _ C with⟨a2,_⟩|⟨_,DU⟩
   .exact BW (a1.symm.trans a2)
   .exact absurd (J z _ DU) (Pa (DH _))
  .rcases A z c C with⟨_,rfl⟩|⟨_,DU⟩
   .exact absurd (J y _ CU) (Pa (DH _))
   .exact I3.ok.inj y z c CU DU
 .have H:scope.names.lookup y=some .free∨ce=some y:=g.elim (λg=>I y _ g (.inl rfl)) λg=>I y _ g (.inr rfl);show ∃c,List.lookup y (HJ ce (s2.heap.objs.size+1)++BX X.env.cells scope.names)=some c
  by_cases ex:ce=some y
  .rw[ex];exact⟨_,Pr⟩
  .rw[Qc ex];exact Option.isSome_iff_exists.mp (Nk scope.names [] (.inr (IP (H.resolve_right ex))))
 .rcases A y c e with⟨_,rfl⟩|⟨O,_⟩
  .exact DH _
  .exact absurd (eq_of_beq H) O
 .rcases A y c e with⟨_,rfl⟩|⟨_,CU⟩
  .exact DQ (Ej (Qs b s))
  .exact(E b s).2.2.2.2.1 y c CU
 .rcases(E b s).2.2.2.1 with z|z
  .exact I3.ok.NC b o e z
  .exact absurd (CS (CS (AU e) I3.ok.Hw) z) (N6 _)
 .rcases List.mem_cons.mp (I3.XN b Q)with z|z
  .exact(E b s).2.1 z
  .exact(E b s).2.2.1 z
 .have D:(B3 js Z).length=A8.length:=by unfold B3;rw[AA,n]
  have hi:i<A8.length:=by
   by_cases hi:i<A8.length
   .exact hi
   .have d:(B3 js Z++List.replicate zs.length none)[i]?=some (some v):=C;rw[Fe (by rw[D];omega),D]at d;exact(xZ d).elim
  have F:A8[i]?=some y:=by
   have F:(A8++zs)[i]?=some y:=e1
   rwa [Dk hi]at F
  have d:(B3 js Z)[i]?=some (some v):=by
   have d:(B3 js Z++List.replicate zs.length none)[i]?=some (some v):=C
   rwa [Dk (by rw[D];exact hi)]at d
  have B:y∈A8:=Bc F;unfold B3 at d;rw[AS]at d;cases G:js[i]? with
  |none=>rw[G]at d;cases d
  |some j=>
   rw[G]at d;have T:X.N[j]?=some y:=by
    have q:=pZ (λl=>l[i]?) S.at';simp only[AS,G,F,Lu]at q;exact BW q
   have hσ:Z[j]?=some (some v):=by
    simp only[Lu,Pe]at d;cases q:Z[j]? with
    |none=>rw[q]at d;cases d
    |some w=>rw[q]at d;simp at d;rw[d]
   obtain⟨W,V,Je⟩:=I3.loc;obtain⟨u,r,l⟩:=Je j y v T hσ (.inr (S.cell y B));refine⟨u,r,?_⟩;rcases l with⟨k,_⟩|⟨_,c,e,z⟩
   .have k':X.env.scope.names.lookup y=some .local:=k;rcases S.cell y B with z|z <;> (rw[z]at k';cases k')
   .have hk:(relabel scope X.env).names.lookup y=some .cell∨(relabel scope X.env).names.lookup y=some .free:=by
     have e0:=Sl (env:=X.env) scope.names y;rw[S.free y B]at e0;rcases S.cell y B with Ka|Ka
     .exact .inl (e0.trans (by simp[I3.ok.kind,show X.env.kindOf y=some .cell from Ka]))
     .exact .inr (e0.trans (by simp[show X.env.kindOf y=some .free from Ka]))
    obtain⟨c',t⟩:=Option.isSome_iff_exists.mp (Nk (cells:=X.env.cells) scope.names [] (.inr (IP (S.free y B))));have L:=K y c' t;rw[e]at L;cases L;exact .inr ⟨hk,c,(Qc (M y B)).trans t,f c _ z⟩
 .rcases A y c e with⟨a,rfl⟩|⟨_,CU⟩
  .exact⟨none,D _ a⟩
  .obtain⟨v,z⟩:=I3.cell y c CU;exact⟨v,f c v z⟩
 .rcases A y c e with⟨_,rfl⟩|⟨_,CU⟩
  .exact I3.AG.fresh (DH _)
  .exact I3.Fx y c CU
 .show(B3 js Z++List.replicate zs.length none).length=(A8++zs).length;unfold B3;simp[n]
theorem zu(j:Y.prog=X.prog)(hw:Y.w=X.w)(I:Y.K=X.K)(hA:Y.A=X.A)(pQ:Y.xe=λ_ _=>False)(H:Y.calm=true)
  (hg:PG Y tg g) (EG:Iz Y ifs tt) (DT:PE Y elt te)
  (T:Turn X.prog X.w X.K tg J fp it tn) (qm:∀b∈fp,Y.Ok->Eh Y [] (λ_=>none) b)
  (W:Nat->Nat->Hp->Prop) (Q:VK)
  (h:∀i m H2,W i m H2->(J.stop i H2/\Q (.ref acc) H2)∨(J.go i H2/\∀x H3,J.Dy i H2 x H3->∀ws,ws.length=n0->g x (B3 js Z++ws) H3 λσ8 H8=>∃us,us.length=n0/\σ8=B3 js Z++us/\OE tt te acc W i m σ8 H8))
  (I4:Inv Y [] (B3 js Z++ws) H4 s4) (Qm:tn 0 s4.heap) (V:∀b∈fp,H4 b=none) (F:Nat) (w4:W 0 F H4)
  (lB:ws.length=n0) (hR:∀H' s' ws,Inv Y [] (B3 js Z++ws) H' s'->Q (.ref acc) H'->R (.ok .next) s') :
  codeAny (model X.prog X.w) X.A (.compLoop (.ListComp elt [⟨tg,iter,ifs,0⟩] scope pos) 0 (.ref it) (.ref acc) Y.env) R s4:=by
 have AG:=I4.ok;have B:∀{H':Hp},(∀b∈fp,H' b=none)->∀b∈fp,Eh Y [] H' b:=λhn b c=>⟨hn b c,(qm b c AG).2⟩;rw[<- j,<- hw,<- hA];have no:∀{σ:Value->Shared->Prop}v s,Y.xe v s->σ v s:=λv s z=>by rw[pQ]at z;exact z.elim
 refine uQ (λn s'=>∃i ws H',ws.length=n0/\Inv Y [] (B3 js Z++ws) H' s'/\tn i s'.heap/\(∀b∈fp,H' b=none)/\W i n H') ?_ F ⟨0,ws,H4,lB,I4,Qm,V,w4⟩;rintro n E⟨i,Ze,H5,l,I5,MQ,Sb,w5⟩;rcases h i n H5 w5 with⟨stop,q⟩|⟨go,step⟩
 .have d:=T.done Y j hw I H i [] E _ H5 (λ_ _=>False) I5 (B Sb) MQ stop;rw[<- j,<- hw]at d;refine qP d (λr D⟨p,I6⟩=>?_) λ_ _ z=>z.elim;subst p;exact hR H5 D Ze I6 q
 .have d:=T.item Y j hw I H i [] E _ H5 (λ_ _=>False) I5 (B Sb) MQ go;rw[<- j,<- hw]at d;refine qP d (λr D⟨u,p,h6⟩=>?_) λ_ _ z=>z.elim;subst p;refine qP h6 (λ_ C⟨v,H7,I7,r7,S,Xa,oX⟩=>?_) λ_ _ z=>z.elim;have P:=I7.pinned (B oX) (T.obj _ _ Xa);refine qP (hg _ C _ H7 v u _ P r7 (step v H7 S Ze l)) (λ_ s8⟨σ8,H8,I8,us,L,e8,ot⟩=>?_) no;subst e8;have a:∀{σa:St}{Ha:Hp}{sa:Shared},Inv Y ([]++P8 fp C.heap) σa Ha sa->tn (i+1) sa.heap/\(∀b∈fp,Ha b=none):=λ{σa Ha sa}Ia=>by
   refine⟨T.keep _ _ _ Xa λb c o e=>(Ia.pin (b,o) (C5 _ (C5 _ (SE c e)))).1,λb c=>?_⟩;obtain⟨o,e,d⟩:=T.obj _ _ Xa b c;exact(Ia.pin (b,o) (C5 _ (C5 _ (SE c e)))).2.1
  refine qP (EG _ s8 _ H8 _ I8 ot) (λb s9⟨H9,I9,k⟩=>?_) no;cases b with
  |false=>
   have pO:∃f,f < n/\W (i+1) f H9:=k;obtain⟨f,t,w9⟩:=pO;rw[mD (by decide)];exact⟨f,t,i+1,_,H9,L,I9.NR,(a I9).1,(a I9).2,w9⟩
  |true=>
   rw[p7 rfl];rw[p7 rfl]at k;refine qP (DT _ s9 _ H9 _ I9 k) (λO De⟨y,G,M,U,ys,BB,hz,f,t,sY⟩=>?_) no;refine qP (cI (X:=Y) _ De _ G (.ref acc) [y] (.ref acc) [O] (λ_ Zj=>Zj=upd G acc (.lst (ys++[y]))) M rfl (.cons U .nil) ⟨acc,ys,y,rfl,rfl,BB,hz,rfl⟩)
    (λ_ Gj⟨_,Zj,Vx,_,N⟩=>?_) no
   subst N;exact⟨f,t,i+1,_,_,L,Vx.NR,(a Vx).1,(a Vx).2,sY⟩
theorem eC{RR:Value->Addr->Result->Shared->Prop}(M:X.calm=true)(S:Dd X.N X.env.scope scope ce zs A8 js)
  (L:∀C s H,PG (Eo X (A8++zs) scope ce (BX X.env.cells scope.names) C s H fp) tg g)
  (EG:∀C s H,Iz (Eo X (A8++zs) scope ce (BX X.env.cells scope.names) C s H fp) ifs tt) (DT:∀C s H,PE (Eo X (A8++zs) scope ce (BX X.env.cells scope.names) C s H fp) elt te)
  (T:Turn X.prog X.w X.K tg J fp it tn) (I2:Inv X Zd Z H2 s2) (Jz:tn 0 s2.heap) (l:∀b∈fp,Eh X Zd H2 b) (Q:VK) (O:∀acc,H2 acc=none->Mf g zs.length J js tt te Z H2 acc Q)
  (z:∀acc C H' s' m,Inv X Zd Z H' s'->Eh X Zd H' C->s'.heap.Ns C m->Q (.ref acc) H'->RR (.ref acc) C (.ok .next) s') :
  wpAny (model X.prog X.w) X.A (newList []) (λacc a=>wpAny (model X.prog X.w) X.A (newFunctionEnv scope X.env.globals (BX X.env.cells scope.names) [] X.env.qual none .none (some X.env)) (λr s4=>
   codeAny (model X.prog X.w) X.A (.compStart (.ListComp elt [⟨tg,iter,ifs,0⟩] scope pos) 0 (.ref it) acc { r with scope:=relabel scope X.env }) (RR acc r.locals) s4) E a) E s2:=by
 refine r6 (sN S.cf S.pc ?_);have i:Inv X Zd Z (upd H2 s2.heap.objs.size (.lst [])) { s2 with heap:=s2.heap.push { cls:=.type "list", data:=.seq ([]:List Value).toArray } }:=I2.gW (t':=s2.toks) .nil (Bm _)
 have v:∀b∈fp,b<s2.heap.objs.size:=λb c=>by
  obtain⟨o,e,_⟩:=T.obj _ _ Jz b c;exact AU e
 have hsz:(s2.heap.push { cls:=.type "list", data:=.seq ([]:List Value).toArray }).objs.size=s2.heap.objs.size+1:=C2 ..;have f:∀b∈fp,Eh X Zd (upd H2 s2.heap.objs.size (.lst [])) b:=λb c=>⟨by rw[AY (An (v b c))];exact(l b c).1,(l b c).2⟩;generalize y:({ s2 with heap:=s2.heap.push { cls:=.type "list", data:=.seq ([]:List Value).toArray } }:Shared)=a at i ⊢
 have t:a.heap=s2.heap.push { cls:=.type "list", data:=.seq ([]:List Value).toArray }:=by rw[<- y]
 have D:∀b∈fp,b<a.heap.objs.size:=λb c=>by rw[t,hsz];exact Ej (v b c)
 generalize k:Oa ce (a.heap.push { cls:=.type "dict", data:=.dict #[] })=h1;have n:∀b o,(a.heap.push { cls:=.type "dict", data:=.dict #[] }).get? b=some o->h1.get? b=some o:=λb o e=>by
  rw[<- k];cases ce with
  |none=>exact e
  |some _=>exact Aj _ e
 have old:∀b o,a.heap.get? b=some o->h1.get? b=some o:=λb o e=>n b o (Aj _ e);have j:∀b o,s2.heap.get? b=some o->h1.get? b=some o:=λb o e=>old b o (by rw[t];exact Aj _ e);have R:h1.Ns a.heap.objs.size (λ_=>none):=(Heap.Ns.new a.heap (.type "dict")).keeps n;have U:∀x,ce=some x->h1.IsCell (a.heap.objs.size+1) none:=λx hx=>by
  subst hx;rw[<- k];have e:(a.heap.push { cls:=.type "dict", data:=.dict #[] }).objs.size=a.heap.objs.size+1:=C2 ..;exact⟨_,by rw[<- e];exact B1 _ rfl,rfl⟩
 have P:=tV S i f D R old U (t':=a.toks);have u:tn 0 h1:=T.keep _ _ _ Jz λb _ o e=>j b o e;obtain⟨W,⟨F,B⟩,h⟩:=O s2.heap.objs.size (I2.AG.fresh (Aa _));have d:codeAny (model X.prog X.w) X.A (.compLoop (.ListComp elt [⟨tg,iter,ifs,0⟩] scope pos) 0 (.ref it) (.ref s2.heap.objs.size) (compEnvC scope (HJ ce (a.heap.objs.size+1)++BX X.env.cells scope.names) a.heap.objs.size X.env))
   (RR (.ref s2.heap.objs.size) a.heap.objs.size) { a with heap:=h1 }:=by
  refine zu (X:=X) (Y:=Eo X (A8++zs) scope ce (BX X.env.cells scope.names) a.heap.objs.size a (upd H2 s2.heap.objs.size (.lst [])) fp) (acc:=s2.heap.objs.size) (Q:=Q) rfl rfl rfl rfl rfl M (L _ _ _) (EG _ _ _) (DT _ _ _) T (λb c ok=>⟨rfl,(ok.QX b c).1,ok.NZ b c,.inl c,(ok.QX b c).2,λp G=>by cases G⟩) W h P u (λb c=>(f b c).1) F B (jM ..) λH' s' w I' q=>?_;obtain⟨m,I,_⟩:=I'.loc;exact z _ _ H' s' m (i.lV (ch:=fp) I'.os I'.base I'.AG I'.bare λb c=>⟨(f b c).2.2.2.1,(f b c).2.1,(f b c).2.2.2.2.1,(f b c).2.2.2.2.2⟩) (i.Mt (Aa _) I'.free) I q
 exact codeAny_compStart_list d (T.self X.A 0 _ _ _ u d)
theorem gO(S:Dd X.N X.env.scope scope ce zs A8 js)(I:Inv X Zd Z H s):closureFor scope X.env=pure (BX X.env.cells scope.names):=c6 λy a hk=>by
 obtain⟨c,e⟩:=I.ok.has y.1 (S.all y a hk);rw[e];rfl
theorem YC(l:∀J Z H1 acc Q,CW J Z H1 acc Q->Mf g zs.length J js tt te Z H1 acc Q)(i:X.calm=true)(S:Dd X.N X.env.scope scope ce zs A8 js)(hi:PI X tg iter wi)
  (f:∀fp C s H,PG (Eo X (A8++zs) scope ce (BX X.env.cells scope.names) C s H fp) tg g)
  (EG:∀fp C s H,Iz (Eo X (A8++zs) scope ce (BX X.env.cells scope.names) C s H fp) ifs tt) (DT:∀fp C s H,PE (Eo X (A8++zs) scope ce (BX X.env.cells scope.names) C s H fp) elt te)
  (c:∀v,foldedSetIterable iter X.env v=pure v):PE X (.ListComp elt [⟨tg,iter,ifs,0⟩] scope pos) (dj CW wi):=by
 intro Zd s Z H Q I h;rw[eval_ListComp];refine wpAny_comprehension_free (use:=none) rfl c (gO S I) S.kind S.loc (B4 (hi Zd s Z H _ I h) λv s1 h1=>B4 h1 λQe s2 h2=>?_);obtain⟨it,fp,tn,J,H2,e,I2,T,Jz,n,hw⟩:=h2;subst e;refine eC (RR:=λacc C=>compPost (model X.prog X.w) X.A X.xe none (EP X Zd Z Q) acc C) i S (f fp) (EG fp) (DT fp) T I2 Jz n Q (λacc k=>l _ _ _ _ _ (hw acc k)) λacc C H' s' m I' a d q=>⟨m,d,λh' HE=>?_⟩;exact⟨.ref acc,H',I'.turned (t':=s'.toks) (λb o j e=>(HE.2 b j).trans e) a.1 a.2.1 a.2.2.2.1 a.2.2.2.2.1 a.2.2.2.2.2,rfl,q⟩
theorem sy(B:∀J Z H1 acc Q,CW J Z H1 acc Q->Mf g zs.length J js tt te Z H1 acc Q){y:Str}(E:X.N.Nodup)(CZ:X.N[i]?=some y)(k:Loc X.env.scope y)(u:X.calm=true)(S:Dd X.N X.env.scope scope ce zs A8 js)(hi:PI X tg iter wi)
  (r:∀fp C s H,PG (Eo X (A8++zs) scope ce (BX X.env.cells scope.names) C s H fp) tg g)
  (EG:∀fp C s H,Iz (Eo X (A8++zs) scope ce (BX X.env.cells scope.names) C s H fp) ifs tt) (DT:∀fp C s H,PE (Eo X (A8++zs) scope ce (BX X.env.cells scope.names) C s H fp) elt te)
  (Nn:swapsWith (.ListComp elt [⟨tg,iter,ifs,0⟩] scope pos) (some (.Name y py)) Jv.line X.env=pure true)
  (t:X.fn y=true∨X.env.scope.names.lookup y=some .local)
  (l:∀v,foldedSetIterable iter X.env v=pure v):PS X (.Assign [.Name y py] (.ListComp elt [⟨tg,iter,ifs,0⟩] scope pos) Jv) (EH (dj CW wi) (D8 i)):=by
 intro Zd s Z H D I h;rw[exec_Assign_Name_used _ _ _ _ Nn];refine dP (wpAny_standAt (dP ?_));show wpAny _ X.A (do let _ <- comprehension (.ListComp elt [⟨tg,iter,ifs,0⟩] scope pos) scope X.env _ (newList []) false (eval iter X.env) (some (assign (.Name y py) X.env))) _ _ s
 refine dP (qP (wpAny_comprehension_free (use:=some (assign (.Name y py) X.env)) (Q:=λ_ s'=>SP X Zd D .next s') rfl l (gO S I) S.kind S.loc
  (B4 (hi Zd s Z H _ I h) λv s1 h1=>B4 h1 λQe s2 h2=>?_)) (λ_ s' n=>k4 (k4 n)) λ_ _ e=>e)
 obtain⟨it,fp,tn,J,H2,e,I2,T,Jz,F,hw⟩:=h2;subst e;refine eC (RR:=λacc C=>compPost (model X.prog X.w) X.A X.xe (some (assign (.Name y py) X.env)) (λ_ s'=>SP X Zd D .next s') acc C) u S (r fp) (EG fp) (DT fp) T I2 Jz F _ (λacc d=>B _ _ _ _ _ (hw acc d)) λacc C H' s' m I' c p q=>?_;show wpAny _ X.A (assign (.Name y py) X.env (.ref acc)) _ _ s';refine wpAny_assign_Name (dh (v:=.ref acc) I' E CZ k rfl (λJM j⟨a,f,d⟩=>?_) t);have G:C≠a:=by
  rcases d with z|z
  .rw[z];exact c.2.1
  .exact(c.2.2.2.2.1 y a z).symm
 refine⟨m,p.sameBut f G,λh' HE=>?_⟩;exact⟨_,H',j.turned (t':=JM.toks) (λb o x e=>(HE.2 b x).trans e) c.1 c.2.1 c.2.2.2.1 c.2.2.2.2.1 c.2.2.2.2.2,q⟩
theorem U3{n:Nat}{cl:List (Str×Addr)}:∀{names:List (Str×NameKind)},(∀y∈names,y.2≠.cell)->cellsFrom n names cl=cl
 | [],_=>rfl
 | (x,k)::r,h=>by
  have hk:(k == NameKind.cell)=false:=beq_eq_false_iff_ne.mpr (h _ Ar);rw[cellsFrom,hk];exact U3 λy a=>h y (BG _ a)
theorem VB{a:Heap}:∀{names:List (Str×NameKind)},(∀y∈names,y.2≠.cell)->pushCells a names=a
 | [],_=>rfl
 | (x,k)::r,h=>by
  have hk:(k == NameKind.cell)=false:=beq_eq_false_iff_ne.mpr (h _ Ar);rw[pushCells,hk];exact VB λy b=>h y (BG _ b)
theorem Dd.Zz(kind:scope.kind=.function)(HM:∀y∈scope.names,y.2≠.cell)(loc:∀y∈scope.names,y.2=.local->scope.names.lookup y.1=some .local)
  (at':js.map (λj=>N[j]?)=A8.map some) (cell:∀y∈A8,outer.names.lookup y=some .cell) (free:∀y∈A8,scope.names.lookup y=some .free)
  (all:∀y∈scope.names,y.2=.free->outer.names.lookup y.1=some .cell) (nd:(A8++zs).Nodup):Dd N outer scope none zs A8 js:=
 ⟨kind,loc,λy a e=>absurd e (HM y a),λx e=>(by cases e),λn cl=>U3 HM,λh=>VB HM,at',λy a=>.inl (cell y a),free,λy a e=>.inl (all y a e),nd⟩
theorem Dd.len(S:Dd N outer scope ce zs A8 js)(Z:St):(B3 js Z).length=A8.length:=by
 unfold B3;rw[AA];have:=pZ List.length S.at';simpa using this
theorem XQ(S:Dd N outer scope ce [x] A8 js)(J:It)(Z:St)(H1:Hp)(acc:Addr)(Q:VK)(h:LW J js tt te Z H1 acc Q):Mf (D8 A8.length) 1 J js tt te Z H1 acc Q:=by
 obtain⟨W,a,h⟩:=h;refine⟨W,a,λi m H2 w=>(h i m H2 w).imp id λz=>⟨z.1,λx H3 y ws hw=>?_⟩⟩
 match ws,hw with
 | [w],_=>
  have e:(B3 js Z++[w]).set A8.length (some x)=B3 js Z++[some x]:=by rw[<- S.len Z];exact yC _ _ _
  exact⟨[some x],rfl,e,by rw[e];exact z.2 x H3 y⟩
theorem VW(S:Dd X.N X.env.scope scope ce [x] A8 js)(hx:scope.names.lookup x=some .local∨(ce=some x/\scope.names.lookup x=some .cell)):
  PG (Eo X (A8++[x]) scope ce cl C s H fp) (.Name x px) (D8 A8.length):=
 Tj S.nd (by simp) (hx.imp (λh=>ZA7 h) λh=>ZBs h.2) (hx.symm.imp (λh=>by show(ce == some x)=true;rw[h.1];exact vh _) λh=>ZA7 h)
inductive Oo:List Str->List Expr->Prop
 |nil:Oo [] []
 |cons {x:Str}{zs:List Str}{p:Pos}{es:List Expr}:Oo zs es->Oo (x::zs) (.Name x p::es)
def JX(i:Nat):Nat->HN
 | 0=>NG
 |n+1=>KA (D8 i) (JX (i+1) n)
theorem bb{Q:St->Hp->Prop}{H:Hp}:∀{us:List V}{l ws:St},ws.length=us.length->Q (l++us.map some) H->JX l.length us.length us (l++ws) H Q
 | [],l,ws,h,q=>by
  rw[List.length_eq_zero_iff.mp h];exact⟨rfl,q⟩
 |u::us,l,w::ws,h,q=>by
  refine⟨u,us,rfl,?_⟩;show JX (l.length+1) us.length us ((l++w::ws).set l.length (some u)) H Q;have e:(l++w::ws).set l.length (some u)=(l++[some u])++ws:=by
   rw[ZCn _ _ (Aa _),Pb];simp
  have el:l.length+1=(l++[some u]).length:=by simp
  rw[e,el];refine bb (l:=l++[some u]) (by simpa using h) ?_
  rw[Bt];exact q
theorem fU{X:Cx}(a:X.N.Nodup):∀{zs:List Str}{es:List Expr}{i:Nat},Oo zs es->(∀(j:Nat)x,zs[j]?=some x->X.N[i+j]?=some x/\Loc X.env.scope x/\X.env.scope.names.lookup x=some .local)->MI X es (JX i zs.length)
 |_,_,_,.nil,_=>iM
 |_,_,i,.cons (x:=x) (zs:=zs) r,h=>by
  obtain⟨h1,h2,c⟩:=h 0 _ rfl;refine Zs (Tj a h1 h2 (.inr c)) (fU a r λj y b=>?_);have:=h (j+1) y b
  rwa [show i+(j+1)=i+1+j by omega]at this
def nh(K:ZDv)(n:Nat)(J:It)(js:List Nat)(tt:TT)(te:TE)(Z:St)(H1:Hp)(acc:Addr)(Q:VK):Prop:=
 ∃W:Nat->Nat->Hp->Prop,(∃m,W 0 m (upd H1 acc (.lst [])))/\∀i m H2,W i m H2->
  (J.stop i H2/\Q (.ref acc) H2)∨(J.go i H2/\∀x H3,J.Dy i H2 x H3->∃a us,x=.ref a/\Al K H3 a us/\us.length=n/\OE tt te acc W i m (B3 js Z++us.map some) H3)
theorem vb{K:ZDv}(S:Dd N outer scope ce zs A8 js)(J:It)(Z:St)(H1:Hp)(acc:Addr)(Q:VK)(h:nh K zs.length J js tt te Z H1 acc Q):Mf (KI K zs.length (JX A8.length zs.length)) zs.length J js tt te Z H1 acc Q:=by
 obtain⟨W,d,h⟩:=h;refine⟨W,d,λi m H2 w=>(h i m H2 w).imp id λz=>⟨z.1,λx H3 y ws hw=>?_⟩⟩;obtain⟨a,us,e,c,b,q⟩:=z.2 x H3 y;refine⟨a,us,e,c,b,?_⟩;rw[<- b,<- S.len Z];exact bb (by rw[hw,b]) ⟨us.map some,AA ..,rfl,q⟩
theorem v7{tp:Pos}(f:X.calm=true)(S:Dd X.N X.env.scope scope ce zs A8 js)(Hj:∀x∈zs,scope.names.lookup x=some .local)(d:Oo zs es)(c:∀e,(assignEach es e).length=zs.length)(KW:∀e,(assignEach es e).findIdx? (·.1)=none):
  PG (Eo X (A8++zs) scope ce cl C s H fp) (.Tuple es tk tp) (KI X.K zs.length (JX A8.length zs.length)):=
 ba (X:=Eo X (A8++zs) scope ce cl C s H fp) f (fU S.nd (i:=A8.length) d λj y b=>by
  have a:=Bc b;exact⟨by show(A8++zs)[A8.length+j]?=_;rw[Fe (by omega),Nat.add_sub_cancel_left];exact b,.inl (ZA7 (Hj y a)),ZA7 (Hj y a)⟩) (c _) (KW _)
theorem Cd.G(S:Cd N outer scope x A8 js):Dd N outer scope none [x] A8 js:=.Zz S.kind S.HM S.loc S.at' S.cell S.free S.all S.nd
theorem nj(b:X.calm=true)(S:Cd X.N X.env.scope scope x A8 js)(hi:PI X (.Name x px) iter wi)
  (EG:∀fp C s H,Iz (GQ X (A8++[x]) scope (BX X.env.cells scope.names) C s H fp) ifs tt) (DT:∀fp C s H,PE (GQ X (A8++[x]) scope (BX X.env.cells scope.names) C s H fp) elt te)
  (a:∀v,foldedSetIterable iter X.env v=pure v:=by intro _;rfl):PE X (.ListComp elt [⟨.Name x px,iter,ifs,0⟩] scope pos) (HP wi js tt te):=
 YC (CW:=λJ Z H1 acc Q=>LW J js tt te Z H1 acc Q) (XQ S.G) b S.G hi (λ_ _ _ _=>VW S.G (.inl S.Hj)) EG DT a
theorem ZAH{y:Str}(c:X.N.Nodup)(CZ:X.N[i]?=some y)(a:Loc X.env.scope y)(b:X.calm=true)(S:Cd X.N X.env.scope scope x A8 js)(hi:PI X (.Name x px) iter wi)
  (EG:∀fp C s H,Iz (GQ X (A8++[x]) scope (BX X.env.cells scope.names) C s H fp) ifs tt) (DT:∀fp C s H,PE (GQ X (A8++[x]) scope (BX X.env.cells scope.names) C s H fp) elt te)
  (Nn:swapsWith (.ListComp elt [⟨.Name x px,iter,ifs,0⟩] scope pos) (some (.Name y py)) Jv.line X.env=pure true:=by rfl)
  (hf:X.fn y=true∨X.env.scope.names.lookup y=some .local:=by first|exact .inl rfl|exact .inr rfl|assumption)
  (hs:∀v,foldedSetIterable iter X.env v=pure v:=by intro _;rfl):PS X (.Assign [.Name y py] (.ListComp elt [⟨.Name x px,iter,ifs,0⟩] scope pos) Jv) (EH (HP wi js tt te) (D8 i)):=
 sy (CW:=λJ Z H1 acc Q=>LW J js tt te Z H1 acc Q) (XQ S.G) c CZ a b S.G hi (λ_ _ _ _=>VW S.G (.inl S.Hj)) EG DT Nn hf hs
end
def C1(K:ZDv)(tp:Bool)(H:Hp)(a:Addr)(xs:List V):Prop:=match tp with
 |false=>AK K H a xs
 |true=>Al K H a xs
theorem C1.or{K:ZDv}{xs:List V}(h:C1 K tp H a xs):AK K H a xs∨Al K H a xs:=by
 cases tp
 .exact .inl h
 .exact .inr h
noncomputable def Jp(K:ZDv)(tp:Bool)(a:Addr)(xs:List V):It:=
 ⟨λi H=>C1 K tp H a xs/\i<xs.length,λi H x H'=>H'=H/\xs[i]?=some x,λi H=>C1 K tp H a xs/\xs.length<=i⟩
theorem mV{P:Program}{K:ZDv}(a it:Addr)(xs:List V):Turn P w K tg (Jp K false a xs) [it] it (λi h=>h.IsListIter it a i) where
 mem:=by simp
 obj:=(P7 (P:=P) (w:=w) (K:=K) (tg:=tg) a it).obj
 keep:=(P7 (P:=P) (w:=w) (K:=K) (tg:=tg) a it).keep
 item:=by
  intro X f hw g d i Zd s Z H E I c st b;obtain⟨j,hi⟩:=b;refine B4 ((P7 (P:=P) (w:=w) (K:=K) (tg:=tg) a it).item X f hw g d i Zd s Z H E I c st ⟨xs,xs[i],j,by simp[hi]⟩) λr s1 AX=>by obtain⟨u,e,h⟩:=AX;exact⟨u,e,B4 h λ_ s2 Ks=>by obtain⟨x,H',I',k,y,FY,l⟩:=Ks;exact⟨x,H',I',k,⟨y.1,y.2 xs j⟩,FY,l⟩⟩
 done:=by
  intro X f hw g d i Zd s Z H E I c st b;exact(P7 (P:=P) (w:=w) (K:=K) (tg:=tg) a it).done X f hw g d i Zd s Z H E I c st ⟨xs,b.1,b.2⟩
 self:=(P7 (P:=P) (w:=w) (K:=K) (tg:=tg) a it).self
theorem vV{P:Program}{K:ZDv}(a it:Addr)(xs:List V):Turn P w K tg (Jp K true a xs) [it] it (λi h=>h.IsTupleIter it a i) where
 mem:=by simp
 obj:=(Nd (P:=P) (w:=w) (K:=K) (tg:=tg) a it).obj
 keep:=(Nd (P:=P) (w:=w) (K:=K) (tg:=tg) a it).keep
 item:=by
  intro X f hw g d i Zd s Z H E I c st b;obtain⟨j,hi⟩:=b;refine B4 ((Nd (P:=P) (w:=w) (K:=K) (tg:=tg) a it).item X f hw g d i Zd s Z H E I c st ⟨xs,xs[i],j,by simp[hi]⟩) λr s1 AX=>by obtain⟨u,e,h⟩:=AX;exact⟨u,e,B4 h λ_ s2 Ks=>by obtain⟨x,H',I',k,y,FY,l⟩:=Ks;exact⟨x,H',I',k,⟨y.1,y.2 xs j⟩,FY,l⟩⟩
 done:=by
  intro X f hw g d i Zd s Z H E I c st b;exact(Nd (P:=P) (w:=w) (K:=K) (tg:=tg) a it).done X f hw g d i Zd s Z H E I c st ⟨xs,b.1,b.2⟩
 self:=(Nd (P:=P) (w:=w) (K:=K) (tg:=tg) a it).self
def Q5(K:ZDv)(tl:TE):TI:=λZ H R=>tl Z H λx H1=>∃tp a xs,x=.ref a/\C1 K tp H1 a xs/\R (Jp K tp a xs) H1
theorem CH{p:Addr}(h:H p=none)(o:HO):AI H (upd H p o):=λb u q=>by rw[AY (Dx q h)];exact q
theorem AI.VG{K:ZDv}{xs:List V}(e:AI H H')(h:Al K H a xs):Al K H' a xs:=by
 rcases h with(h|⟨o,h⟩)|h
 .exact .inl (.inl (e _ _ h))
 .exact .inl (.inr ⟨o,e _ _ h⟩)
 .exact .inr h
theorem AI.sq{K:ZDv}{xs:List V}(e:AI H H')(h:C1 K tp H a xs):C1 K tp H' a xs:=by
 cases tp
 .exact AI.seq e h
 .exact AI.VG e h
theorem ZAh{Q:VK}(xs:List V)(f:V->Bool)(g:V->V)(BB:H1 acc=none)(w:xs.length<=sizeLine)
  (l:∀i H,AI H1 H->i<xs.length->J.go i H) (Ef:∀H,AI H1 H->J.stop xs.length H) (n:∀i H x H',J.Dy i H x H'->H'=H/\xs[i]?=some x)
  (p:∀(i:Nat)(x:V)(H':Hp)(Q':Bool->Hp->Prop),xs[i]?=some x->AI H1 H'->(∀Gw,AI H' Gw->Q' (f x) Gw)->tt (B3 js Z++[some x]) H' Q')
  (r:∀(i:Nat)(x:V)(H':Hp)(Q':VK),xs[i]?=some x->f x=true->AI H1 H'->(∀Gw,AI H' Gw->Q' (g x) Gw)->te (B3 js Z++[some x]) H' Q')
  (hd:∀H',AI H1 H'->H' acc=some (.lst ((xs.filter f).map g))->Q (.ref acc) H'):LW J js tt te Z H1 acc Q:=by
 refine⟨λi m H=>m=xs.length - i/\i<=xs.length/\AI H1 H/\H acc=some (.lst (((xs.take i).filter f).map g)),⟨xs.length,by simp,Bm _,CH BB _,AZ⟩,?_⟩;rintro i m H2⟨rfl,hi,a,j⟩
 by_cases h:i<xs.length
 .refine .inr ⟨l i H2 a h,λx H3 y=>?_⟩;obtain⟨e,hx⟩:=n i H2 x H3 y;subst e;have v:(xs.take (i+1))=xs.take i++[x]:=by
   have t:xs[i]=x:=by
    rw[AQ h]at hx;exact BW hx
   rw[JP h,t]
  have e1:List.filter f (xs.take (i+1))=(xs.take i).filter f++(if f x=true then[x]else[]):=by
   rw[v,jI];congr 1
   by_cases c:f x=true <;> simp[c]
  refine p i x _ _ hx a λH4 s4=>?_
  by_cases c:f x=true
  .rw[p7 c];refine r i x H4 _ hx c (a.trans s4) λH5 k=>?_;have d:(((xs.take i).filter f).map g).length<sizeLine:=by
    rw[AA];have:=PR f (xs.take i);rw[Cj]at this;omega
   refine⟨_,k _ _ (s4 _ _ j),d,xs.length - (i+1),by omega,rfl,h,λb o q=>?_,?_⟩
   .have s:b≠acc:=by rintro rfl;rw[BB]at q;cases q
    rw[AY s];exact k _ _ (s4 _ _ (a b o q))
   .rw[AZ,e1,p7 c,Cs];rfl
  .have u:f x=false:=by simpa using c
   rw[u];rw[mD (by decide)];refine⟨xs.length - (i+1),by omega,rfl,h,a.trans s4,?_⟩;rw[e1,mD c,GH];exact s4 _ _ j
 .have e:i=xs.length:=by omega
  subst e;refine .inl ⟨Ef H2 a,hd H2 a ?_⟩;rw[Ei]at j;exact j
theorem zI{K:ZDv}{xs:List V}{Q:VK}(f:V->Bool)(g:V->V)(b:C1 K tp H1 a xs)(BB:H1 acc=none)(c:xs.length<=sizeLine)
  (d:∀(i:Nat)(x:V)(H':Hp)(Q':Bool->Hp->Prop),xs[i]?=some x->AI H1 H'->(∀Gw,AI H' Gw->Q' (f x) Gw)->tt (B3 js Z++[some x]) H' Q')
  (e:∀(i:Nat)(x:V)(H':Hp)(Q':VK),xs[i]?=some x->f x=true->AI H1 H'->(∀Gw,AI H' Gw->Q' (g x) Gw)->te (B3 js Z++[some x]) H' Q')
  (hd:∀H',AI H1 H'->H' acc=some (.lst ((xs.filter f).map g))->Q (.ref acc) H'):LW (Jp K tp a xs) js tt te Z H1 acc Q:=
 ZAh xs f g BB c (λi H s hi=>⟨s.sq b,hi⟩) (λH s=>⟨s.sq b,Aa _⟩) (λi H x H' y=>y) d e hd
def FE(xs ys:List V):Bool:=xs.length == ys.length && (List.range xs.length).all λj=>E6 (xs.getD j .A9) (ys.getD j .A9)
theorem Hc{xs:List V}{x:V}(h:xs[j]?=some x):xs.getD j .A9=x:=by rw[IJ,h];rfl
theorem Zr{xs:List V}{x:V}(h:xs.all ER=true)(e:xs[j]?=some x):ER x=true:=List.all_eq_true.mp h x (Bc e)
theorem Py{xs:List V}{BE:List Value}(c:Vals xs A3)(b:Vals ys BE)(i:xs.all ER=true)(h:ys.all ER=true):
  ∀j(h1:j<A3.toArray.size)(h2:j<BE.toArray.size),SeqAt.EqAt A s A3.toArray[j] BE.toArray[j] (E6 (xs.getD j .A9) (ys.getD j .A9)):=λj h1 h2=>by
 have l1:=c.length;have l2:=b.length;have n:j<A3.length:=by simpa using h1
 have m:j<BE.length:=by simpa using h2
 have e1:xs[j]?=some (xs[j]'(by omega)):=AQ _;have a:ys[j]?=some (ys[j]'(by omega)):=AQ _;obtain⟨u,e,g⟩:=c.get e1;obtain⟨v,d,f⟩:=b.get a;rw[AQ n]at e;rw[AQ m]at d;have l:A3[j]=u:=BW e;have k:BE[j]=v:=BW d;rw[Hc e1,Hc a];have q:=Qz (A:=A) (s:=s) g f (Zr i e1) (Zr h a);rw[<- l,<- k]at q
 simpa using q
def Ir(K:ZDv)(neg:Bool):R2:=λx y H Q=>∃p q xs ys,x=.ref p/\y=.ref q/\((AK K H p xs/\AK K H q ys)∨(Al K H p xs/\Al K H q ys))/\xs.all ER=true/\ys.all ER=true/\
 Q (.bl (if neg then !FE xs ys else FE xs ys)) H
theorem Jx{xs:List V}(h:xs.length≠ys.length):FE xs ys=false:=by
 unfold FE;have:(xs.length == ys.length)=false:=by simpa using h
 rw[this,T1]
theorem K5{xs:List V}(h:xs.length=ys.length):FE xs ys=(List.range xs.length).all λj=>E6 (xs.getD j .A9) (ys.getD j .A9):=by
 unfold FE;have:(xs.length == ys.length)=true:=by simpa using h
 rw[this,GF]
theorem Mw(f:X.A.units<cLine):B0 X (compareOp .Eq) (Ir X.K false):=by
 intro Zd s Z H x y v u Q I r o h;obtain⟨p,q,xs,ys,rfl,rfl,t,l,k,w⟩:=h;cases r;cases o;have b:Q (.bl (FE xs ys)) H:=w;rcases t with⟨i,g⟩|⟨i,g⟩
 .obtain⟨A3,d,p1,n⟩:=I.list i;obtain⟨BE,c,p2,m⟩:=I.list g;have l1:=d.length;have l2:=c.length
  by_cases a:xs.length=ys.length
  .refine SeqAt.eq_listAt (e:=λj=>E6 (xs.getD j .A9) (ys.getD j .A9)) p1.isList p2.isList (by simp;omega) f (Py d c l k) ⟨.bl _,H,I,rfl,?_⟩;rw[K5 a]at b;simp only[Bu,<- l1];exact b
  .rw[Jx a]at b;exact ZDC p1.isList p2.isList (by simp;omega) f ⟨.bl false,H,I,rfl,b⟩
 .obtain⟨A3,d,p1,n⟩:=I.tuple i;obtain⟨BE,c,p2,m⟩:=I.tuple g;have l1:=d.length;have l2:=c.length;refine SeqAt.eq_tupleAt (e:=λj=>E6 (xs.getD j .A9) (ys.getD j .A9)) p1 p2 f (Py d c l k) ⟨.bl _,H,I,rfl,?_⟩;simp only[Bu,<- l1,<- l2]
  by_cases a:xs.length=ys.length
  .rw[K5 a]at b;have:(xs.length == ys.length)=true:=by simpa using a
   rw[this,Sz,<- a,jT];exact b
  .rw[Jx a]at b;have:(xs.length == ys.length)=false:=by simpa using a
   rw[this,IH];exact b
theorem NL(f:X.A.units<cLine):B0 X (compareOp .NotEq) (Ir X.K true):=by
 intro Zd s Z H x y v u Q I r o h;obtain⟨p,q,xs,ys,rfl,rfl,t,l,k,w⟩:=h;cases r;cases o;have b:Q (.bl (!FE xs ys)) H:=w;rcases t with⟨i,g⟩|⟨i,g⟩
 .obtain⟨A3,d,p1,n⟩:=I.list i;obtain⟨BE,c,p2,m⟩:=I.list g;have l1:=d.length;have l2:=c.length
  by_cases a:xs.length=ys.length
  .refine SeqAt.RcNeAt.lists (e:=λj=>E6 (xs.getD j .A9) (ys.getD j .A9)) p1.isList p2.isList (by simp;omega) f (Py d c l k) _ _ _ _ ⟨.bl _,H,I,rfl,?_⟩;rw[K5 a]at b;simp only[Bu,<- l1];exact b
  .rw[Jx a]at b;exact ZDB p1.isList p2.isList (by simp;omega) f _ _ _ _ ⟨.bl true,H,I,rfl,b⟩
 .obtain⟨A3,d,p1,n⟩:=I.tuple i;obtain⟨BE,c,p2,m⟩:=I.tuple g;have l1:=d.length;have l2:=c.length;refine SeqAt.RcNeAt.tuples (e:=λj=>E6 (xs.getD j .A9) (ys.getD j .A9)) p1 p2 f (Py d c l k) _ _ _ _ ⟨.bl _,H,I,rfl,?_⟩;simp only[Bu,<- l1,<- l2]
  by_cases a:xs.length=ys.length
  .rw[K5 a]at b;have:(xs.length == ys.length)=true:=by simpa using a
   rw[this,Sz,<- a,jT];exact b
  .rw[Jx a]at b;have:(xs.length == ys.length)=false:=by simpa using a
   rw[this,IH];exact b
theorem wM:Bk X (.builtin "isinstance") (λxs H Q=>∃x n t b,xs=[x,.ty n]/\FD X.K H x t/\PySem.W.kitOne X.K t (.type n)=some b/\Q (.bl b) H):=by
 intro Zd s Z H xs us Q I r h;obtain⟨x,n,t,b,rfl,ty,e,q⟩:=h;obtain⟨u,c,rfl,a,rt⟩:=vals2 r;cases rt;exact ZBE I a ty e λtk=>⟨.bl b,H,I.tok tk,rfl,q⟩
theorem fP{bs:List Bool}(r:Vals (bs.map V.bl) A3)(e:A3[i]?=some v):v=.bool (bs.getD i false):=by
 have c:=r.length;rw[AA]at c;have hi:i<A3.length:=(List.getElem?_eq_some_iff.mp e).1;have e1:(bs.map V.bl)[i]?=some (.bl (bs[i]'(by omega))):=by rw[AS,AQ (by omega)];rfl
 obtain⟨u,a,b⟩:=r.get e1;rw[e]at a;cases a;cases b;rw[IJ,AQ (by omega)];rfl
theorem range_all(bs:List Bool):(List.range bs.length).all (λi=>bs.getD i false)=bs.all id:=by
 rw[Hf,Gr,Gr];constructor
 .intro h x hx;obtain⟨i,hi,rfl⟩:=List.mem_iff_getElem.mp hx;have:=h i (List.mem_range.mpr hi);rw[IJ,AQ hi]at this;exact this
 .intro h i hi;rw[IJ,AQ (List.mem_range.mp hi)];exact h _ (Gs _)
theorem range_any(bs:List Bool):(List.range bs.length).any (λi=>bs.getD i false)=bs.any id:=by
 rw[Hf,Lq,Lq];constructor
 .rintro⟨i,hi,h⟩;have a:=List.mem_range.mp hi;rw[IJ,AQ a]at h;exact⟨_,Gs a,h⟩
 .rintro⟨x,hx,h⟩;obtain⟨i,hi,rfl⟩:=List.mem_iff_getElem.mp hx;refine⟨i,List.mem_range.mpr hi,?_⟩;rw[IJ,AQ hi];exact h
theorem P6(k:X.calm=true):Bk X (.builtin "all") (λxs H Q=>∃(p:Addr)(bs:List Bool),xs=[.ref p]/\AK X.K H p (bs.map V.bl)/\Q (.bl (bs.all id)) H):=by
 intro Zd s Z H xs us Q I r h;obtain⟨p,bs,rfl,j,q⟩:=h;obtain⟨u,rfl,d⟩:=vals1 r;cases d;obtain⟨A3,a,pl,t⟩:=I.list j;have c:=a.length;rw[AA]at c;refine call_all_walk (z9 pl.isList ?_);obtain⟨o,n,ho,_⟩:=id pl;have m:p≠s.heap.objs.size:=An (AU ho);refine⟨s.heap.objs.size,_,_,_,_,_,λi=>bs.getD i false,rfl,Yr (by rw[PJ];exact I.ok.hd k) _ p m A3.toArray,⟨⟨_,B1 _ rfl,rfl,rfl⟩,pl.isList.push _⟩,λi v s' Q' E' g DY=>?_,λh' tk kp=>?_⟩
 .have l:v=.bool (bs.getD i false):=fP a (by simpa using g)
  rw[l];exact sI DY
 .refine⟨.bl _,H,I.kept (t':=tk) λb f e=>kp b f (by simpa using An (AU e)) (Aj _ e),rfl,?_⟩
  rw[Bu,<- c,range_all];exact q
theorem RZ(k:X.calm=true):Bk X (.builtin "any") (λxs H Q=>∃(p:Addr)(bs:List Bool),xs=[.ref p]/\AK X.K H p (bs.map V.bl)/\Q (.bl (bs.any id)) H):=by
 intro Zd s Z H xs us Q I r h;obtain⟨p,bs,rfl,j,q⟩:=h;obtain⟨u,rfl,d⟩:=vals1 r;cases d;obtain⟨A3,a,pl,t⟩:=I.list j;have c:=a.length;rw[AA]at c;refine call_any_walk (z9 pl.isList ?_);obtain⟨o,n,ho,_⟩:=id pl;have m:p≠s.heap.objs.size:=An (AU ho);refine⟨s.heap.objs.size,_,_,_,_,_,λi=>bs.getD i false,rfl,Yr (by rw[PJ];exact I.ok.hd k) _ p m A3.toArray,⟨⟨_,B1 _ rfl,rfl,rfl⟩,pl.isList.push _⟩,λi v s' Q' E' g DY=>?_,λh' tk kp=>?_⟩
 .have l:v=.bool (bs.getD i false):=fP a (by simpa using g)
  rw[l];exact sI DY
 .refine⟨.bl _,H,I.kept (t':=tk) λb f e=>kp b f (by simpa using An (AU e)) (Aj _ e),rfl,?_⟩
  rw[Bu,<- c,range_any];exact q
def Ti:V->List V->Hp->VK->Prop:=λx vs H Q=>∃(l:Addr)(xs:List V)(j:Int)(y:V),x=.ref l/\vs=[.int j,y]/\H l=some (.lst xs)/\0<=j/\j<=xs.length/\xs.length<sizeLine/\Q .A9 (upd H l (.lst (xs.take j.toNat++y::xs.drop j.toNat)))
theorem ZBC:Tv X "list.insert" Ti:=by
 intro Zd s Z H x vs v us Q I f g h;obtain⟨l,xs,j,y,rfl,rfl,c,p,o,B,q⟩:=h;cases f;obtain⟨A,b,rfl,i,d⟩:=g.two;obtain⟨t,rfl⟩:=i;obtain⟨z,A3,n,r,m,e⟩:=I.NQ c;have h2:j<2 ^ 63:=by
  have C:(xs.length:Int)<=(sizeLine:Int):=Int.ofNat_le.mpr z;have D:((sizeLine:Nat):Int)<2 ^ 63:=by exact_mod_cast KZ
  omega
 have a:(!Builtin.List.listFitsIndex j)=true->False:=by
  have h1:Builtin.List.listFitsIndex j=true:=by
   unfold Builtin.List.listFitsIndex;rw[DN];exact⟨kc (by omega),kc h2⟩
  rw[h1];exact λh=>nomatch h
 have w:A3.toArray.size<=sizeLine:=CL (KU (List.size_toArray.trans m.symm)) z;refine call_meets ZD3 ⟨_,e,rfl⟩ PySem.F.entry_list_insert (PySem.F.args_list_insert_3 _ _ _) (PySem.AutoSeq1.list_insert_list_int_val_1 l A3.toArray n j t b a w) ⟨e,?_⟩;refine⟨.A9,_,I.Ur (its':=A3.take j.toNat++b::A3.drop j.toNat) c e ?_ ((r.take _).append (.cons d (r.drop _))) ?_,rfl,q⟩
 .have u:¬ (j<0):=by omega
  have k:min j.toNat A3.toArray.size=j.toNat:=by simp;omega
  simp only[u,ZBp,k];apply Array.toList_inj.mp;simp;exact PY (by simp)
 .rw[BF,Az,Cj,Dl];omega
def uj:V->Option Int->Option Int->Hp->VK->Prop:=λx lo hi H Q=>∃z,x=.str z/\z.length<=sizeLine/\Q (.str (Txt.slice z lo hi)) H
theorem part_of{o:Option Int}(p:IsPart v o):∃l:Option (Int×Tok),v=partValue l/\l.map (·.1)=o:=by
 cases p with
 |none=>exact⟨none,rfl,rfl⟩
 |int i t=>exact⟨some (i,t),rfl,rfl⟩
theorem aO:Qi X uj:=by
 intro Zd s Z H x v i g lo hi sl Q I a e pl b h;obtain⟨z,rfl,c,q⟩:=h;obtain⟨t,rfl⟩:=a;obtain⟨l,rfl,f⟩:=part_of pl;obtain⟨u,rfl,d⟩:=part_of b;subst f;subst d;refine⟨"str", _,F.slot_str_getitem.lookup,typeIs_str _ _ _,wpAny_getItem_str_slice (l:=l) (u:=u) (st:=none) e rfl (post_val_or_str ⟨CL (Txt.slice_le z _ _) c,λt' k=>?_⟩)⟩;exact⟨.str _,H,I.tok k,⟨t',rfl⟩,q⟩
end L2
set_option exponentiation.threshold 5000
namespace L2
variable{a f p:Addr}{H:Hp}
def AF(P:Program)(w:World)(K:ZDv)(mg:ZDx)(Zl:Heap)(x:Str)(k:Nat)(ps:List Str)(sp:Sp):Prop:=
 ∃f fd,EF P w K mg Zl Dr k f fd ps sp/\Binds K fd ps []/\PySem.W.keepIn K (.ref f)=true/\mg x=some (.ref f)
section
variable{P:Program}{w:World}{K:ZDv}{mg:ZDx}{Zl:Heap}{x qual:Str}{k:Nat}{ps:List Str}{sp:Sp}{st:Stmt}{fd:FuncData}
theorem AF.mk(F:AM K x qual st f fd)(b:Binds K fd ps [])(m:mg x=some (.ref f))(h:EF P w K mg Zl Dr k f fd ps sp):AF P w K mg Zl x k ps sp:=⟨f,fd,h,b,F.kp,m⟩
variable{X:Cx}{j:Nat}{p pos:Pos}{e:Expr}{es:List Expr}{t:TA}
def JV(K:ZDv):List V->Hp->VK->Prop:=λxs H Q=>∃(p:Addr)(ys:List V),xs=[.ref p]/\(AK K H p ys∨Al K H p ys)/\Q (.int ys.length) H
theorem Ba:Bk X (.builtin "len") (JV X.K):=Mp
def df(K:ZDv):List V->Hp->VK->Prop:=λxs H Q=>∃(x:V)(n:String)(t:Value)(b:Bool),xs=[x,.ty n]/\FD K H x t/\PySem.W.kitOne K t (.type n)=some b/\Q (.bl b) H
theorem vC:Bk X (.builtin "isinstance") (df X.K):=wM
theorem MR:Lk X "list.append" Xd:=cI
theorem wW:Lk X "list.insert" Ti:=ZBC
theorem t5:Lk X "list.pop" XH:=yn
def bo(i j:Int):Prop:=i.natAbs<2 ^ 1000/\j.natAbs<2 ^ 1000
theorem fB{n:Nat}(h:n<2 ^ 1000):n.log2<1000:=by
 rcases ZCq n with e|e
 .subst e;exact(show(0:Nat).log2<1000 by decide)
 .exact(Nat.log2_lt (DQ e)).mpr h
theorem bits_le{i:Int}(h:i.natAbs<2 ^ 1000):Builtin.Int.intBits i<=2 ^ 20:=by
 unfold Builtin.Int.intBits;split
 .exact Bm _
 .have:=fB h;have e:(2:Nat) ^ 20=1048576:=by decide
  omega
theorem J9:B0 X (binaryOp .Mult) (rI bo λi j=>.int (i * j)):=Ql λ_ _ _ _ _ _ _ a q=>mul_int q (.of_bits (bits_le a.1) (bits_le a.2))
theorem Y5:B0 X (binaryOp .FloorDiv) (rI (λ_ j=>0<j/\j.natAbs<2 ^ 1000) λi j=>.int (i / j)):=Ql λi j _ _ _ _ _ a q=>by
 have h1:(0:Int)<j:=a.1;have h2:=fB a.2;exact floordiv_int (by omega) (by rw[Int.fdiv_eq_ediv_of_nonneg i (by omega)];exact q) (.inl (PyProof.noPylong_of_log2 (by omega)))
theorem vI{body rest:List Stmt}{t u:TS}(e:body=st::rest)(h:PS X st t)(h2:EO X rest u):EO X body (N1 t u):=by rw[e];exact xw h h2
def X0(t:TS):TS:=λD Z H=>∃J:St->Hp->Prop,t { D with nx:=J } Z H/\∀ σ' H',J σ' H'->D.nx σ' H'
end
theorem rF{K:ZDv}{tp:Bool}{xs:List V}{g:TG}{tb:TS}{D:Ends}{Z:St}(Pv:Nat->St->Hp->Prop)(j:Pv 0 Z H)(h:∀i Z H,i<=xs.length->Pv i Z H->C1 K tp H a xs)
  (f:∀i x Z H,xs[i]?=some x->Pv i Z H->g x Z H λσ2 H2=>tb { D with nx:=Pv (i+1),ct:=Pv (i+1),bk:=D.nx } σ2 H2) (hd:∀ Z H,Pv xs.length Z H->D.nx Z H) :
  ∃W:Nat->Nat->St->Hp->Prop,(∃m,W 0 m Z H)/\∀i m Z H,W i m Z H->
   ((Jp K tp a xs).stop i H/\D.nx Z H)∨((Jp K tp a xs).go i H/\∃N:St->Hp->Prop,(∀ σ' H',N σ' H'->∃b,b < m/\W (i+1) b σ' H')/\∀x H',(Jp K tp a xs).Dy i H x H'->g x Z H' λσ2 H2=>tb { D with nx:=N,ct:=N,bk:=D.nx } σ2 H2):=by
 refine⟨λi m Z H=>m=xs.length - i/\i<=xs.length/\Pv i Z H,⟨xs.length,by simp,Bm _,j⟩,λi m Z H⟨e,hi,p⟩=>?_⟩;subst e;have q:=h i Z H hi p
 by_cases c:i<xs.length
 .refine .inr ⟨⟨q,c⟩,Pv (i+1),λσ' H' d=>⟨xs.length - (i+1),by omega,rfl,c,d⟩,λx H' y=>?_⟩;obtain⟨e,y⟩:=y;subst e;exact f i x Z _ y p
 .have e:i=xs.length:=by omega
  subst e;exact .inl ⟨⟨q,Aa _⟩,hd Z H p⟩
def GK(p:Addr)(H H':Hp):Prop:=∀b o,b≠p->H b=some o->H' b=some o
theorem GK.trans{H1 H2:Hp}(a:GK p H H1)(b:GK p H1 H2):GK p H H2:=λc o d e=>b c o d (a c o d e)
theorem GK.of{H':Hp}(a:AI H H'):GK p H H':=λc o _ e=>a c o e
theorem GK.upd{o:HO}:GK p H (upd H p o):=λc u a e=>by rw[AY a];exact e
end L2
set_option maxHeartbeats 8000000
namespace L2
variable{ss:List Str}
def Ep(acc:List Str)(x:Str):List Str:=if acc.any (· == x)then acc else acc++[x]
def dd(ss:List Str):List Str:=ss.foldl Ep []
theorem ua(acc:List Str)(x k:Str):(Ep acc x).any (· == k)=(acc.any (· == k) || decide (k=x)):=by
 unfold Ep
 by_cases h:acc.any (· == x)=true
 .rw[p7 h]
  by_cases e:k=x
  .subst e;rw[h];simp
  .simp[e]
 .rw[mD h,List.any_append]
  by_cases e:k=x
  .subst e;simp
  .have a:(x == k)=false:=by simpa[ZAO]using(λh':x=k=>e h'.symm)
   simp[a,e]
theorem cE(acc:List Str)(x:Str):(Ep acc x).length=if acc.any (· == x)then acc.length else acc.length+1:=by
 unfold Ep;split <;> simp
theorem iP(ss:List Str)(i:Nat)(h:i<ss.length):dd (ss.take (i+1))=Ep (dd (ss.take i)) ss[i]:=by
 unfold dd;rw[JP h,ZCa];rfl
theorem Xg(ss:List Str):(dd ss).length<=ss.length:=by
 have:∀(l acc:List Str),(l.foldl Ep acc).length<=acc.length+l.length:=by
  intro l
  induction l with
  |nil=>intro acc;simp
  |cons x r a=>
   intro acc;rw[N4];have h1:=a (Ep acc x);rw[cE]at h1;simp only[Az];split at h1 <;> omega
 have q:=this ss [];simp only[KR,Pd]at q;exact q
section
variable{prog:Program}{w:World}{A:Around}{R:Result->Shared->Prop}{I:Addr}{fp wr:List Addr}{G:Array GenState->Array GenState->Prop}{n:Nat}{P:Nat->Value->Prop}{St:Nat->Shared->Prop}
variable{E:Value->Shared->Prop}{s:Shared}
theorem sub_tuple_set:isSubtype (.type "tuple") (.type "set")=pure false:=by rw[wB];kernel_rfl
theorem sub_tuple_frozenset:isSubtype (.type "tuple") (.type "frozenset")=pure false:=by rw[wB];kernel_rfl
end
noncomputable def vN(P:Program)(w:World)(a:Addr)(f:Str->Bool)(n:Nat):HO:=.ext λh=>h.SetOf (strKind P w) a f n
section
variable{X:Cx}
theorem fc{A3:List Value}(r:Vals (ss.map V.str) A3){i:Nat}{v:Value}(e:A3[i]?=some v):∃(h:i<ss.length)(t:Tok),v=.str ss[i] t:=by
 have d:=r.length;rw[AA]at d;have hi:i<A3.length:=(List.getElem?_eq_some_iff.mp e).1;have b:i<ss.length:=by omega
 have e1:(ss.map V.str)[i]?=some (.str ss[i]):=by rw[AS,AQ b];rfl
 obtain⟨u,a,c⟩:=r.get e1;rw[e]at a;cases a;obtain⟨t,q⟩:=c;exact⟨b,t,q⟩
end
end L2
set_option maxHeartbeats 4000000
namespace L2
variable{X:Cx}{a c e l o tg:Expr}{es ifs:List Expr}{body rest:List Stmt}{t tb:TS}{tc tt:TT}{te tl to:TE}{p pos pos' px:Pos}{name x y:Str}{FF op:CmpOp}{r:V->List V->Hp->VK->Prop}{ps:List Str}{sp:Sp}{T:String}{wi:TI}{i n:Nat}{g:TG}{w:World}{I f:Addr}
structure QE (X:Cx) (e:Expr) (t:TE):Prop where h:PE X e t
structure QT (X:Cx) (e:Expr) (t:TT):Prop where h:PT X e t
structure QW (X:Cx) (e:Expr) (t:TT):Prop where h:PW X e t
structure QA (X:Cx) (es:List Expr) (t:TA):Prop where h:PA X es t
structure QS (X:Cx) (st:Stmt) (t:TS):Prop where h:PS X st t
structure Fd (X:Cx) (st:List Stmt) (t:TS):Prop where h:EO X st t
structure QG (X:Cx) (tg:Expr) (t:TG):Prop where h:PG X tg t
structure Sn (X:Cx) (ts:List Expr) (t:HN):Prop where h:MI X ts t
structure QI (X:Cx) (tg iter:Expr) (wi:TI):Prop where h:PI X tg iter wi
structure OW (X:Cx) (ifs:List Expr) (t:TT):Prop where h:Iz X ifs t
structure QO (X:Cx) (e:Option Expr) (t:TO):Prop where h:PO X e t
section
variable{b:Expr}{rest:List Expr}{ta tb tc:TE}{tA Ij:TT}{t:TA}{p2 apos Ct:Pos}
theorem qv(i:Nat)(j:X.N[i]?=some x:=by rfl)(hv:Ta X.env.scope x:=by first|exact Or.inl rfl|exact Or.inr (Or.inl rfl)|exact Or.inr (Or.inr rfl))(hd:(x == ("__debug__":Str))=false:=by decide)
  (Et:(x == ("__classdict__":Str))=false:=by decide):QE X (.Name x pos) (Ap i):=⟨by
 intro Zd s Z H Q I h;obtain⟨v,e,h⟩:=h;obtain⟨m,d,g⟩:=I.loc;obtain⟨u,r,l⟩:=g i x v j e hv;have fin:EP X Zd Z Q u s:=⟨v,H,I,r,h⟩;rcases l with⟨hk,f⟩|⟨hk,c,a,b⟩
 .exact wpAny_Name (wpAny_loadName_local I.ok.kind hk d f fin) hd
 .rcases hk with hk|hk
  .exact wpAny_Name (wpAny_loadName_cell I.ok.kind hk a b fin) hd
  .exact wpAny_Name (wpAny_loadName_free I.ok.kind hk a b fin Et) hd⟩
theorem A7{i j pos}:QE X (.Constant (.int i) j pos) (tC (.int i)):=⟨λ_ _ _ H _ I h=>wpAny_Constant_int ⟨.int i,H,I.tok _,⟨_,rfl⟩,h⟩⟩
theorem Ds{b j pos}:QE X (.Constant (.bool b) j pos) (tC (.bl b)):=⟨λ_ _ _ H _ I h=>Constant_bool ⟨.bl b,H,I,rfl,h⟩⟩
theorem Xp{j pos}:QE X (.Constant .none j pos) (tC .A9):=⟨λ_ _ _ H _ I h=>Constant_none ⟨.A9,H,I,rfl,h⟩⟩
theorem Df{x j pos}:QE X (.Constant (.str x) j pos) (tC (.str x)):=⟨λ_ _ _ H _ I h=>Calls.Constant_str ⟨.str x,H,I.tok _,⟨_,rfl⟩,h⟩⟩
theorem cQ{v:V}{u:Value}(b:Gl X x)(a:X.mg x=some u)(r:RelV v u)(hd:(x == ("__debug__":Str))=false:=by decide):QE X (.Name x pos) (tC v):=⟨λ_ _ _ H _ I h=>fL I b a ⟨v,H,I,r,h⟩ hd⟩
theorem nW(T:String)(a:X.mg x=none)(b:Gl X x:=by rfl)(hv:bootBuiltins x=some (.type T):=by decide +kernel)(hn:x ≠"__name__" := by decide)(hd:(x == ("__debug__":Str))=false:=by decide):
  QE X (.Name x pos) (tC (.ty T)):=⟨lL b a hv rfl hn hd⟩
theorem AW{op:Operator}{r:R2}(ho:B0 X (binaryOp op) r)(d:QE X a ta)(c:QE X b tb):QE X (.BinOp a op b pos) (Au r ta tb):=⟨by
 have d:=d.h;have c:=c.h;intro Zd s Z H Q I h;exact wpAny_BinOp (WG d c I h λv u s2 x y H2 I2 f e q=>ho Zd s2 Z H2 x y v u Q I2 f e q)⟩
theorem QQ{op:UnaryOp}{r:V->Hp->VK->Prop}(ho:Pm X (unaryOp op) r)(b:QE X a ta):QE X (.UnaryOp op a pos) (SO r ta):=⟨by
 have b:=b.h;intro Zd s Z H Q I h;exact UnaryOp_ (B4 (b Zd s Z H _ I h) λv s1 AX=>by obtain⟨x,H1,I1,c,d⟩:=AX;exact ho Zd s1 Z H1 x v Q I1 c d)⟩
theorem k8{r:R2}(ho:B0 X (compareOp op) r)(d:QE X a ta)(c:QE X b tb)(g:behindInMarks op b=false):QE X (.Compare a [op] [b] pos) (Au r ta tb):=⟨by
 have d:=d.h;have c:=c.h;intro Zd s Z H Q I h;exact wpAny_Compare1 (WG d c I h λv u s2 x y H2 I2 f e q=>ho Zd s2 Z H2 x y v u Q I2 f e q) g⟩
theorem pM{r:R2}(ho:B0 X (compareOp op) r)(e:QE X a ta)(d:QE X b tb)(c:behindInMarks op b=false):QT X (.Compare a [op] [b] pos) (KY (Au r ta tb)):=⟨zx ho e.h d.h c⟩
theorem cG{r l:R2}(ho:B0 X (compareOp op) r)(Bz:B0 X (compareOp FF) l)(i:QE X a ta)(g:QE X b tb)(f:QE X c tc)
  (D:lastMarks [op,FF] [b,c]=false:=by with_unfolding_all rfl):QE X (.Compare a [op,FF] [b,c] pos) (PD r l ta tb tc):=⟨by
 have i:=i.h;have g:=g.h;have f:=f.h;intro Zd s Z H Q I h;refine Compare_chain (i.k I h λv s1 x H1 I1 w C=>chain_link (g.k I1 C λu s2 y H2 I2 j B=>
  B4 (ho Zd s2 Z H2 x y v u _ I2 w j B) λd p⟨z,H3,I3,t,k,e,m⟩=>?_)) D
 subst e;cases t;refine sI ?_;cases k with
 |false=>exact ite_ff ⟨.bl false,H3,I3,rfl,m⟩
 |true=>exact ite_tt (chain_last (B4 (f Zd p Z H3 _ I3 m) λo s4⟨n,H4,I4,q,A⟩=>Bz Zd s4 Z H4 y n u o Q I4 j q A))⟩
theorem Vj{r l:R2}(ho:B0 X (compareOp op) r)(Bz:B0 X (compareOp FF) l)(i:QE X a ta)(g:QE X b tb)(f:QE X c tc)
  (J:lastMarks [op,FF] [b,c]=false:=by with_unfolding_all rfl):QT X (.Compare a [op,FF] [b,c] pos) (KY (PD r l ta tb tc)):=⟨by
 have i:=i.h;have g:=g.h;have f:=f.h;intro Zd s Z H Q I h;refine isTrue_chain (i.k I h λv s1 x H1 I1 B F=>test_link (g.k I1 F λu s2 y H2 I2 j E=>
  B4 (ho Zd s2 Z H2 x y v u _ I2 B j E) λd q⟨z,H3,I3,A,k,e,m⟩=>?_)) J
 subst e;cases A;refine sI ?_;cases k with
 |false=>
  obtain⟨k',L,G⟩:=m;cases L;exact ite_ff ⟨H3,I3,G⟩
 |true=>
  refine ite_tt (test_last (B4 (f Zd q Z H3 _ I3 m) λp s4⟨n,H4,I4,w,D⟩=>B4 (Bz Zd s4 Z H4 y n u p _ I4 j w D) λd' N o=>?_));obtain⟨M,H5,I5,t,k2,K,C⟩:=o;subst K;cases t;exact sI ⟨H5,I5,C⟩⟩
theorem LM{op}(h:QE X a ta):QE X (.BoolOp op [a] pos) ta:=⟨by have h:=h.h;exact λZd s Z H Q I hw=>BoolOp_one (h Zd s Z H Q I hw)⟩
theorem LI(f:QE X a ta)(e:QE X (.BoolOp .And (b::rest) pos) tb):QE X (.BoolOp .And (a::b::rest) pos) (WQ ta tb):=⟨by
 have f:=f.h;have e:=e.h;intro Zd s Z H Q I h;refine BoolOp_and (f.k I h λv s1 x H1 I1 g d=>?_);obtain⟨c,rfl,d⟩:=d;cases g;refine sI ?_;cases c with
 |true=>exact e Zd s1 Z H1 Q I1 d
 |false=>exact⟨.bl false,H1,I1,rfl,d⟩⟩
theorem fA(f:QE X a ta)(e:QE X (.BoolOp .Or (b::rest) pos) tb):QE X (.BoolOp .Or (a::b::rest) pos) (Xc ta tb):=⟨by
 have f:=f.h;have e:=e.h;intro Zd s Z H Q I h;refine BoolOp_or (f.k I h λv s1 x H1 I1 g d=>?_);obtain⟨c,rfl,d⟩:=d;cases g;refine sI ?_;cases c with
 |false=>exact e Zd s1 Z H1 Q I1 d
 |true=>exact⟨.bl true,H1,I1,rfl,d⟩⟩
theorem jm(d:QE X a ta):QE X (.UnaryOp .Not a pos) (WR ta):=⟨by
 have d:=d.h;intro Zd s Z H Q I h;refine UnaryOp_ (d.k I h λv s1 x H1 I1 e b=>?_);obtain⟨c,rfl,b⟩:=b;cases e;exact not_of (sI ⟨.bl (!c),H1,I1,rfl,b⟩)⟩
theorem P1(b:QT X a tA):QW X (.BoolOp .And [a] pos) tA:=⟨by
 have b:=b.h;intro d Zd s Z H Q I h;refine isTrue_and (B4 (b Zd s Z H Q I h) λc s1 e=>?_);cases c with
 |true=>exact isTrue_and_nil e
 |false=>exact e⟩
theorem IZ(b:QT X a tA):QW X (.BoolOp .Or [a] pos) tA:=⟨by
 have b:=b.h;intro d Zd s Z H Q I h;refine isTrue_or (B4 (b Zd s Z H Q I h) λc s1 e=>?_);cases c with
 |false=>exact isTrue_or_nil e
 |true=>exact e⟩
theorem Mr(e:QT X a tA)(d:QW X (.BoolOp .And (b::rest) pos) Ij):QW X (.BoolOp .And (a::b::rest) pos) (Y7 tA Ij):=⟨by
 have e:=e.h;have d:=d.h;intro g Zd s Z H Q I h;refine isTrue_and (B4 (e Zd s Z H _ I h) λc s1 OB=>?_);obtain⟨H1,I1,f⟩:=OB;cases c with
 |true=>exact d g Zd s1 Z H1 Q I1 f
 |false=>exact⟨H1,I1,f⟩⟩
theorem Iy(e:QT X a tA)(d:QW X (.BoolOp .Or (b::rest) pos) Ij):QW X (.BoolOp .Or (a::b::rest) pos) (Ow tA Ij):=⟨by
 have e:=e.h;have d:=d.h;intro g Zd s Z H Q I h;refine isTrue_or (B4 (e Zd s Z H _ I h) λc s1 OB=>?_);obtain⟨H1,I1,f⟩:=OB;cases c with
 |true=>exact⟨H1,I1,f⟩
 |false=>exact d g Zd s1 Z H1 Q I1 f⟩
theorem QW.pt{t:TT}(h:QW X e t):QT X e t:=⟨h.h.pt⟩
theorem Jl(b:QT X a tA):QT X (.UnaryOp .Not a pos) (Xv tA):=⟨by
 have b:=b.h;intro Zd s Z H Q I h;exact isTrue_not (b Zd s Z H (λc H1=>Q (!c) H1) I h)⟩
theorem Jo(h:QE X e te)(f:∀a,isTrue e X.env a=(do let v <- a;standAt e.pos;holding [v] (truthy v)):=by intro _;rfl):QT X e (tB te):=⟨by
 have h:=h.h;intro Zd s Z H Q I hw;refine isTrue_plain (h.k I hw λv s1 x H1 I1 b c=>?_) (f _);obtain⟨d,rfl,q⟩:=c;cases b;exact sI ⟨H1,I1,q⟩⟩
theorem A4:QA X [] BK:=⟨λ_ _ _ _ H Q I h=>Calls.spliced_nil ⟨[],H,I,.nil,h⟩⟩
theorem A0(c:QE X e te)(b:QA X es t)(a:FN X e es:=by rfl):QA X (e::es) (Ae te t):=⟨ZB2 c.h b.h a⟩
theorem EM{x1}(h:QA X es t):QE X (.Tuple es x1 pos) (Qd t):=⟨xm h.h⟩
theorem Cn(h:QA X es t):QE X (.List es pos) (O1 t):=⟨mJ h.h⟩
theorem CV:QO X none Im:=⟨by
 intro Zd s Z H Q I h;rw[evalPart_none];exact k4 ⟨none,H,I,.none,h⟩⟩
theorem CT(h:QE X e te):QO X (some e) (J4 te):=⟨by
 have h:=h.h;intro Zd s Z H Q I hw;rw[evalPart_some];refine B4 (h Zd s Z H _ I hw) λu s1 VR=>?_;obtain⟨x,H1,I1,a,b⟩:=VR;obtain⟨i,rfl,q⟩:=b;obtain⟨t,rfl⟩:=a;exact⟨some i,H1,I1,.int i t,q⟩⟩
theorem Ca{r:V->Option Int->Option Int->Hp->VK->Prop}{lo hi:Option Expr}{tl th:TO}(y:Qi X r)(i:QE X e te)(g:QO X lo tl)(f:QO X hi th):QE X (.Subscript e (.Slice lo hi none p2) pos) (Ie r te tl th):=⟨by
 have i:=i.h;have g:=g.h;have f:=f.h;intro Zd s Z H Q I h;refine Subscript_ (i.k I h λv s1 x H1 I1 j o=>?_);refine wpAny_Slice (B4 (g Zd s1 Z H1 _ I1 o) λd s2⟨l,H2,I2,pl,n⟩=>B4 (f Zd s2 Z H2 _ I2 n) λc a Tn=>?_);obtain⟨u,H3,I3,p,m⟩:=Tn;rw[evalPart_none];refine k4 ?_;have C:Inv X Zd Z H3 { a with heap:=a.heap.push { cls:=.type "slice", data:=.fields #[d,c,.none] } }:=I3.kept (t':=a.toks) λb D q=>Aj _ q
 obtain⟨T,id,B,t,z⟩:=y Zd { a with heap:=a.heap.push { cls:=.type "slice", data:=.fields #[d,c,.none] } } Z H3 x v d c l u a.heap.objs.size Q C j (Heap.IsSliceOf.new ..) pl p m
 show wpAny (model X.prog X.w) X.A (subscriptTail e (.Slice lo hi none p2) v (.ref a.heap.objs.size)) (EP X Zd Z Q) X.xe { a with heap:=a.heap.push { cls:=.type "slice", data:=.fields #[d,c,.none] } }
 exact tail_any (ops:=[.ref a.heap.objs.size,v]) t B z (by with_unfolding_all rfl)⟩
theorem va{r:R2}(i:DF X r)(d:QE X a ta)(c:QE X b tb)(g:UI b):QE X (.Subscript a b pos) (Au r ta tb):=⟨by
 have d:=d.h;have c:=c.h;intro Zd s Z H Q I h;exact Subscript_ (WG d c I h λv u s2 x y H2 I2 f e q=>i a b Zd s2 Z H2 x y v u Q I2 f e q (g _ _))⟩
theorem ZBx{j k:Nat}(h:AF X.prog X.w X.K X.mg X.base x k ps sp)(c:Bs j X.A)(hk:k<=j)(a:QA X (e::es) t)(d:Gl X x:=by rfl)(Dv:(x == ("__debug__":Str))=false:=by decide)
  (he:FN X e es:=by rfl) (BN:BEq X pos es:=by rfl):QE X (.Call (.Name x p) (e::es) [] pos) (EZ sp [] E0 t):=⟨by
 have a:=a.h;obtain⟨f,fd,F,b,kp,m⟩:=h;exact ZAe (F.mono hk) c d m kp b .nil ra a Dv he BN⟩
theorem pG{id:String}{r:List V->Hp->VK->Prop}(j:Bk X (.builtin id) r)(i:Gl X x)(g:X.mg x=none)(d:bootBuiltins x=some (.builtin id))(a:QA X (e::es) t)(f:x ≠"__name__" := by decide)(Dv:(x == ("__debug__":Str))=false:=by decide)
  (he:FN X e es:=by rfl) (BN:BEq X pos es:=by rfl):QE X (.Call (.Name x p) (e::es) [] pos) (CQ r t):=⟨by
 have a:=a.h;intro Zd s Z H Q I h;refine uU (HB I i g d ?_ f Dv);exact PyProof.Rows.callWith_builtin1 (B4 (a pos Zd s Z H _ I h) λus s1 AX=>by obtain⟨vs,H1,I1,b,c⟩:=AX;exact j Zd s1 Z H1 vs us Q I1 b c) he BN⟩
theorem ZAg{r:List V->Hp->VK->Prop}(j:Bk X (.type T) r)(i:Gl X x)(g:X.mg x=none)(d:bootBuiltins x=some (.type T))(a:QA X (e::es) t)(f:x ≠"__name__" := by decide)(Dv:(x == ("__debug__":Str))=false:=by decide)
  (he:FN X e es:=by rfl) (BN:BEq X pos es:=by rfl):QE X (.Call (.Name x p) (e::es) [] pos) (CQ r t):=⟨by
 have a:=a.h;intro Zd s Z H Q I h;refine uU (HB I i g d ?_ f Dv);exact Lv (B4 (a pos Zd s Z H _ I h) λus s1 AX=>by obtain⟨vs,H1,I1,b,c⟩:=AX;exact j Zd s1 Z H1 vs us Q I1 b c) he BN⟩
theorem nJ{id:String}(c:PlainAttrs T)(slot:Slot T name id)(LD:typeOf (.builtin id)=pure (.type "method_descriptor"))(d:Lk X id r)(ho:QE X o to)
  (LZ:attributeBase o name X.env (eval o X.env)=eval o X.env:=by rfl) (Kn:(apos.endLine == Ct.line)=true:=by rfl):QE X (.Call (.Attribute o name apos) [] [] Ct) (WX X.K T r to):=⟨by
 have ho:=ho.h;intro Zd s Z H Q I h;refine wpAny_Call_method0_late LZ Kn (ho.k I h λv s1 x H1 I1 a VR=>?_);obtain⟨ty,b⟩:=VR;obtain⟨h1,h2⟩:=iq I1 a ty;exact⟨T,id,c,slot,LD,h1,h2,ZCL rfl (PySem.evalArgs_none (d Zd s1 Z H1 x [] v [] Q I1 a .nil b))⟩⟩
theorem Kq{id:String}(j:PlainAttrs T)(slot:Slot T name id)(LD:typeOf (.builtin id)=pure (.type "method_descriptor"))(l:Lk X id r)(ho:QE X o to)(a:QA X (e::es) t)
  (LZ:attributeBase o name X.env (eval o X.env)=eval o X.env:=by rfl)
  (Tz:((backTo Ct (starEach (e::es) X.env)).all (λx=>!x.1) && (backToKw Ct (keywordEach [] X.env)).all (λx=>x.1.isSome)
   && decide ((e::es).length+([]:List Keyword).length+(if([]:List Keyword).isEmpty then 0 else 1)<30))=true:=by rfl)
  (Kn:(apos.endLine == Ct.line)=true:=by rfl) (hs:FN X e es:=by rfl) (V7:BEq X Ct es:=by rfl) :
  QE X (.Call (.Attribute o name apos) (e::es) [] Ct) (QF X.K T r to t):=⟨by
 have ho:=ho.h;have a:=a.h;intro Zd s Z H Q I h;refine wpAny_Call_method_late LZ Tz Kn rfl (ho.k I h λv s1 x H1 I1 b d=>?_);obtain⟨ty,i⟩:=d;obtain⟨h1,h2⟩:=iq I1 b ty;refine⟨T,id,j,slot,LD,h1,h2,?_⟩;have c:=a Ct Zd s1 Z H1 _ I1 i;rw[hs]at c ⊢;refine ZCL (by show(false || (backTo Ct (starEach es X.env)).any (·.1))=false;rw[V7] <;> rfl) (Calls.evalArgs_plain ?_)
 exact B4 c λus s2 AX=>by obtain⟨vs,H2,I2,f,g⟩:=AX;exact l Zd s2 Z H2 x vs v us Q I2 b f g⟩
variable{elt iter:Expr}{scope:Scope}{A8:List Str}{js:List Nat}
theorem D5(c:QE X l tl):QI X tg l (Q5 X.K tl):=⟨by
 have c:=c.h;intro Zd s Z H R I h;refine c.k I h λv s1 x H1 I1 g i=>?_;obtain⟨tp,a,xs,e,d,q⟩:=i;subst e;cases g;have fin:∀b∈[s1.heap.objs.size],Eh X Zd H1 b:=λb m=>by
  have e:b=s1.heap.objs.size:=by simpa using m
  subst e;exact I1.Mt (Aa _) (I1.AG.fresh (Aa _))
 cases tp with
 |false=>
  obtain⟨A3,f,p,j⟩:=I1.list d;refine z9 p.isList ?_;exact⟨s1.heap.objs.size,[s1.heap.objs.size],_,_,H1,rfl,I1.kept (t':=s1.toks) λb o e=>Aj _ e,mV a _ xs,⟨_,B1 _ rfl,rfl,rfl⟩,fin,q⟩
 |true=>
  obtain⟨A3,f,p,j⟩:=I1.tuple d;refine xY (show s1.heap.IsTuple a A3.toArray from p) ?_;exact⟨s1.heap.objs.size,[s1.heap.objs.size],_,_,H1,rfl,I1.kept (t':=s1.toks) λb o e=>Aj _ e,vV a _ xs,⟨_,B1 _ rfl,rfl,rfl⟩,fin,q⟩⟩
theorem Hs{ta:TA}(m:Gl X "range")(l:X.mg "range"=none)(c:QA X [a] ta)(i:starEach [a] X.env=[(false,eval a X.env)]:=by rfl):QI X tg (.Call (.Name "range" p) [a] [] pos) (RS ta):=⟨by
 have c:=c.h;intro Zd s Z H R I h;refine Call_ (HB I m l boot_range (Lv (c.k pos I h λus s1 vs H1 I1 f b=>?_) i rfl));obtain⟨j,e,b,g,q⟩:=b;subst e;cases f with
 |cons r d=>
  cases d;obtain⟨t,rfl⟩:=r;exact call_range_1 (fq I1 (by omega) (by omega) b g (by simpa using q))⟩
theorem G7:OW X [] MU:=⟨dO⟩
theorem K8{t:TT}(a:QT X c t):OW X [c] t:=⟨pF a.h⟩
theorem Ft(b:X.calm=true)(S:Cd X.N X.env.scope scope x A8 js)(hi:QI X (.Name x px) iter wi)
  (EG:∀fp C s H,OW (GQ X (A8++[x]) scope (BX X.env.cells scope.names) C s H fp) ifs tt) (DT:∀fp C s H,QE (GQ X (A8++[x]) scope (BX X.env.cells scope.names) C s H fp) elt te)
  (a:∀v,foldedSetIterable iter X.env v=pure v:=by intro _;rfl):QE X (.ListComp elt [⟨.Name x px,iter,ifs,0⟩] scope pos) (HP wi js tt te):=⟨nj b S hi.h (λfp C s H=>(EG fp C s H).h) (λfp C s H=>(DT fp C s H).h) a⟩
theorem Lh{py Jv:Pos}(c:X.N.Nodup)(CZ:X.N[i]?=some y)(a:Loc X.env.scope y)(b:X.calm=true)(S:Cd X.N X.env.scope scope x A8 js)(hi:QI X (.Name x px) iter wi)
  (EG:∀fp C s H,OW (GQ X (A8++[x]) scope (BX X.env.cells scope.names) C s H fp) ifs tt) (DT:∀fp C s H,QE (GQ X (A8++[x]) scope (BX X.env.cells scope.names) C s H fp) elt te)
  (Nn:swapsWith (.ListComp elt [⟨.Name x px,iter,ifs,0⟩] scope pos) (some (.Name y py)) Jv.line X.env=pure true:=by rfl)
  (hf:X.fn y=true∨X.env.scope.names.lookup y=some .local:=by first|exact .inl rfl|exact .inr rfl|assumption)
  (hs:∀v,foldedSetIterable iter X.env v=pure v:=by intro _;rfl):QS X (.Assign [.Name y py] (.ListComp elt [⟨.Name x px,iter,ifs,0⟩] scope pos) Jv) (EH (HP wi js tt te) (D8 i)):=
 ⟨ZAH c CZ a b S hi.h (λfp C s H=>(EG fp C s H).h) (λfp C s H=>(DT fp C s H).h) Nn hf hs⟩
theorem yj(b:X.N.Nodup)(hi:X.N[i]?=some x)(hx:Loc X.env.scope x)(a:X.fn x=true∨X.env.scope.names.lookup x=some .local:=by first|exact .inl rfl|exact .inr rfl|assumption):QG X (.Name x pos) (D8 i):=⟨Tj b hi hx a⟩
theorem Mu:Sn X [] NG:=⟨iM⟩
theorem Fm{t:TG}{u:HN}(h1:QG X e t)(h2:Sn X es u)
  (a:(assignEach (e::es) X.env).map (·.2)=assign e X.env::(assignEach es X.env).map (·.2):=by rfl):Sn X (e::es) (KA t u):=⟨Zs h1.h h2.h a⟩
theorem N0{k:Nat}{t:HN}(b:X.calm=true)(h:Sn X es t)(a:(assignEach es X.env).length=n:=by rfl)(Ef:(assignEach es X.env).findIdx? (·.1)=none:=by rfl):QG X (.Tuple es k pos) (KI X.K n t):=⟨ba b h.h a Ef⟩
theorem Nv{i:Expr}{ti:TE}{t:RV}(ho:QE X o to)(hi:QE X i ti)(l:TM X t)
  (m:∀v,assign (.Subscript o i pos) X.env v=(do
   let a <- holding [v] (eval o X.env)
   let b <- holding [v,a] (eval i X.env)
   standAt pos
   holding [v,a,b] (setItem a b v)
   release [v,a,b] []):=by intro _;rfl):QG X (.Subscript o i pos) (Nl to ti t):=⟨by
 have ho:=ho.h;have hi:=hi.h;intro Zd s Z H v u Q I r h;rw[m];refine dP (qY (ho.k I h λa s1 x H1 I1 e j=>?_));refine dP (qY (hi.k I1 j λb s2 y H2 I2 d g=>?_));refine dP (wpAny_standAt (dP (qY (B4 (l Zd s2 Z H2 x y v a b u _ I2 e d r g) λ_ n c=>?_))));obtain⟨H3,I3,f⟩:=c;exact wpAny_release ⟨Z,H3,I3,f⟩⟩
end
section
variable{st:Stmt}{u:TS}
theorem Bg:Fd X [] Sd:=⟨λ_ _ Z H _ I h=>ZAj ⟨Z,H,I,h⟩⟩
theorem AH(e:body=st::rest)(h:QS X st t)(h2:Fd X rest u):Fd X body (N1 t u):=⟨vI e h.h h2.h⟩
theorem AL(e:body=[st])(h:QS X st t):Fd X body t:=⟨by have h:=h.h;rw[e];exact ZBT h⟩
theorem bR:QS X st d6:=⟨λ_ _ _ _ _ _ h=>h.elim⟩
theorem Gi(a:QE X e te)(c:swapsWith e none pos.line X.env=pure false:=by rfl):QS X (.Expr e pos) (Kg te):=⟨by
 have a:=a.h;intro Zd s Z H D I h;exact wpAny_Expr_any (B4 (a Zd s Z H _ I h) λv s1 AX=>by obtain⟨x,H1,I1,d,b⟩:=AX;exact⟨Z,H1,I1,b⟩) I.quiet c⟩
theorem Am(a:QE X e te):QS X (.Return (some e) pos) (Fb te):=⟨by
 have a:=a.h;intro Zd s Z H D I h;exact wpAny_Return_some (B4 (a Zd s Z H _ I h) λv s1 AX=>by obtain⟨x,H1,I1,b,c⟩:=AX;exact⟨x,Z,H1,I1,b,c⟩)⟩
theorem BY{a b:List Stmt}(e:QT X c tc)(g:Fd X a t)(f:Fd X b u):QS X (.If c a b pos) (MM tc t u):=⟨by
 have e:=e.h;have g:=g.h;have f:=f.h;intro Zd s Z H D I h;refine wpAny_If (B4 (e Zd s Z H _ I h) λd s1 OB=>?_);obtain⟨H1,I1,i⟩:=OB;cases d with
 |true=>exact g Zd s1 Z H1 D I1 i
 |false=>exact f Zd s1 Z H1 D I1 i⟩
theorem IV(b:QE X e te)(a:QG X tg g)(f:swapsWithSole [tg] e pos.line X.env=pure false:=by rfl)(hw:swappedStores [tg] e X.env=pure none:=by rfl)
  (h1:(assignEach [tg] X.env).map (·.2)=[assign tg X.env]:=by rfl):QS X (.Assign [tg] e pos) (EH te g):=⟨by
 have b:=b.h;have a:=a.h;intro Zd s Z H D I h;refine wpAny_Assign_stores (b.k I h λv s1 x H1 I1 c d=>?_) f hw;rw[h1];exact B4 (a Zd s1 Z H1 x v _ I1 c d) λ_ s2 q=>q⟩
theorem vE(f:X.N.Nodup)(hi:X.N[i]?=some x)(hx:Loc X.env.scope x)(a:QE X e te)(d:swapsWith e (some (.Name x pos')) pos.line X.env=pure false:=by rfl)(hf:X.fn x=true∨X.env.scope.names.lookup x=some .local:=by first|exact .inl rfl|exact .inr rfl|assumption):
  QS X (.Assign [.Name x pos'] e pos) (EH te (D8 i)):=⟨by
 have a:=a.h;intro Zd s Z H D I h;refine wpAny_Assign_Name (a.k I h λv s1 y H1 I1 b c=>?_) d;exact aF I1 f hi hx b (λs2 I2=>⟨_,H1,I2,c⟩) hf⟩
theorem S7(o:PassesOwn (model X.prog X.w) X.A X.env X.xe)(l:QT X c tc)(m:Fd X body tb):QS X (.While c body [] pos) (Uy tc tb):=⟨by
 have l:=l.h;have m:=m.h;intro Zd s Z H D I h;obtain⟨W,⟨t,r⟩,a⟩:=h;refine wpAny_While (codeAny_whileLoop (λn s'=>∃ σ' H',Inv X Zd σ' H' s'/\W n σ' H') ?_ t ⟨Z,H,I,r⟩);rintro n s1⟨σ1,H1,I1,q⟩;refine xy o (B4 (l Zd s1 σ1 H1 _ I1 (a n σ1 H1 q)) λb s2 u=>?_);obtain⟨H2,I2,e⟩:=u;cases b with
 |true=>
  obtain⟨N,p,e⟩:=e;rw[p7 rfl];refine xy o (B4 (m Zd s2 σ1 H2 _ I2 e) λf x d=>?_);cases f with
  |next=>
   obtain⟨σ3,H3,I3,i⟩:=d;obtain⟨j,k,g⟩:=p σ3 H3 i;exact⟨j,k,σ3,H3,I3,g⟩
  |cont=>
   obtain⟨σ3,H3,I3,i⟩:=d;obtain⟨j,k,g⟩:=p σ3 H3 i;exact⟨j,k,σ3,H3,I3,g⟩
  |brk=>exact d
  |ret v=>exact d
 |false=>
  rw[mD DO];exact ZAj ⟨σ1,H2,I2,e⟩⟩
theorem FH{iter:Expr}(p:PassesOwn (model X.prog X.w) X.A X.env X.xe)(G:X.calm=true)(hi:QI X tg iter wi)(y:QG X tg g)(a:Fd X body tb)
  (hs:∀x,foldedSetIterable iter X.env x=pure x:=by intro _;rfl):QS X (.For tg iter body [] pos) (Uo wi g tb):=⟨by
 have hi:=hi.h;have y:=y.h;have a:=a.h;intro Zd s Z H D I h;refine wpAny_For (B4 (hi Zd s Z H _ I h) λv s1 h1=>B4 h1 λQe s2 h2=>?_) hs;obtain⟨it,fp,tn,J,H2,e,I2,T,Jz,K,W,⟨m0,U⟩,k⟩:=h2;subst e
 -- kT stays true of Jd ZDE objects through Jd loop
 have z:∀{H':Hp},(∀b∈fp,H' b=none)->∀b∈fp,Eh X Zd H' b:=λhn b a=>⟨hn b a,(K b a).2⟩;refine codeAny_forLoop_any (λn s'=>∃i σ' H',Inv X Zd σ' H' s'/\tn i s'.heap/\(∀b∈fp,H' b=none)/\W i n σ' H') ?_ m0 ⟨0,Z,H2,I2,Jz,λb a=>(K b a).1,U⟩;rintro n E⟨i,σ3,H3,I3,L,F,S⟩;rcases k i n σ3 H3 S with⟨stop,qn⟩|⟨go,N,hN,step⟩
 .refine xy p (B4 (T.done X rfl rfl rfl G i Zd E σ3 H3 X.xe I3 (z F) L stop) λr s4 O=>?_);obtain⟨t,I4⟩:=O;subst t;exact ZAj ⟨σ3,H3,I4,qn⟩
 .refine xy p (B4 (T.item X rfl rfl rfl G i Zd E σ3 H3 X.xe I3 (z F) L go) λr s4 Q=>?_);obtain⟨u,t,h4⟩:=Q;subst t;refine xy p (B4 h4 λ_ C mi=>?_);obtain⟨x,H5,I5,r5,M,MQ,Sb⟩:=mi;have B:=I5.pinned (z Sb) (T.obj _ _ MQ);refine xy p (B4 (y _ C σ3 H5 x u _ B r5 (step x H5 M)) λ_ V Y=>?_);obtain⟨σ6,H6,I6,q6⟩:=Y;refine xy p (B4 (a _ V σ6 H6 _ I6 q6) λf q j=>?_);have c:∀{σ7:St}{H7:Hp},Inv X (Zd++P8 fp C.heap) σ7 H7 q->N σ7 H7->∃m,m<n/\∃i σ' H',Inv X Zd σ' H' q/\tn i q.heap/\(∀b∈fp,H' b=none)/\W i m σ' H':=λ{σ7 H7}I7 l=>by
   obtain⟨m',hm,R⟩:=hN σ7 H7 l;refine⟨m',hm,i+1,σ7,H7,I7.NR,T.keep _ _ _ MQ λb a o e=>(I7.pin (b,o) (C5 _ (C5 _ (SE a e)))).1,λb a=>?_,R⟩;obtain⟨o,e,d⟩:=T.obj _ _ MQ b a;exact(I7.pin (b,o) (C5 _ (C5 _ (SE a e)))).2.1
  cases f with
  |next=>obtain⟨σ7,H7,I7,l⟩:=j;exact c I7 l
  |cont=>obtain⟨σ7,H7,I7,l⟩:=j;exact c I7 l
  |brk=>obtain⟨σ7,H7,I7,j⟩:=j;exact⟨σ7,H7,I7.NR,j⟩
  |ret v=>obtain⟨P,σ7,H7,I7,σ,j⟩:=j;exact⟨P,σ7,H7,I7.NR,σ,j⟩⟩
theorem CN(h:QS X st t):QS X st (X0 t):=⟨by
 have h:=h.h;intro Zd s Z H D I hw;obtain⟨J,h1,h2⟩:=hw;refine B4 (h Zd s Z H _ I h1) λf s' q=>?_;cases f with
 |next=>obtain⟨σ',H',I',q⟩:=q;exact⟨σ',H',I',h2 σ' H' q⟩
 |ret v=>exact q
 |brk=>exact q
 |cont=>exact q⟩
end
theorem AM.El{P:Program}{K:ZDv}{mg:ZDx}{Zl:Heap}{qual:Str}{st:Stmt}{fd:FuncData}{N:List Str}{k:Nat}(F:AM K x qual st f fd)(S:B6 N ps (AO st))(len:∀vs H Q E,sp vs H Q E->vs.length=ps.length)
  (J7:∀(Ak:Value)(A:Around)(outer:List Env)(s:Shared)(H:Hp)(vs:List V)(Q:VK)(E:XK),Bs k (A.deeper (envOfC qual (AO st) s.heap.objs.size f Ak))->sp vs H Q E->
   ∃t,Fd (Gb Dr P w K mg Zl N qual (AO st) f Ak A outer s H E).HI (EJ st) t/\t { nx:=λ_ H'=>Q .A9 H',rt:=Q } (start N vs) H):EF P w K mg Zl Dr (k+1) f fd ps sp:=
 F.ok S len λAk A outer s H vs Q E a h=>let ⟨t,q,r⟩:=J7 Ak A outer s H vs Q E a h;⟨t,q.h,r⟩
end L2
namespace L2
variable{X:Cx}{Zd:ZDw}{Z:St}{H:Hp}{s s1:Shared}{h':Heap}{ep i k1 n nT nl pl sl t':Nat}{fp:List Addr}{I S a it:Addr}{o oT:Obj}{w:World}{es:Array (Int×Value)}{prog:Program}{A:Around}{E Q Q₁:Value->Shared->Prop}{t:SetTable}{α:Type}{e:Int×Value}{f v x:Value}{items ps:Array Value}{vs:List Value}{A6 ss:List Str}{Pc:List Value->Shared->Prop}
theorem Inv.Rc(I:Inv X Zd Z H s)(d:∀b∈fp,Eh X Zd H b)(k:∀b o,b∉fp->s.heap.get? b=some o->h'.get? b=some o):
  Inv X Zd Z H { s with heap:=h',toks:=t' }:=by
 have f:∀b u,H b=some u->b∉fp:=λb u e z=>by rw[(d b z).1]at e;cases e
 refine I.step (g':=s.gens) (d':=s.drawn) (ch:=fp) (λb h=>?_) (λb o _ _ a e _=>k b o a e) (λb o _ _ a e _=>⟨o.slots,k b o a e⟩) (λ_ _ _ _ n=>n)
  (λb o a e=>⟨o,k b o a e⟩) (λ_ _ e=>e) (λ_ _ _ e=>e) (λm g=>?_) (λb u e=>?_) I.bare
 .obtain⟨_,h1,_,l,j,i⟩:=d b h;exact⟨l,h1,j,i⟩
 .obtain⟨o,es,ep,ho,r⟩:=g;exact⟨o,es,ep,k _ o (λz=>(d _ z).2.1 rfl) ho,r⟩
 .refine(I.AG b u e).GO (λc v a q=>k c v ?_ q) (λ_ q=>q) λ_ _ q=>q;rcases a with z|z
  .rw[z];exact f b u e
  .exact f c _ z
theorem Inv.RA{o:HO}(I:Inv X Zd Z H s)(h:∀b∈fp,Eh X Zd H b)(k:∀b o,b∉fp->s.heap.get? b=some o->h'.get? b=some o)
  (i:s.heap.objs.size<=a) (new:Bx X.prog X.w (upd H a o) h' a o):Inv X Zd Z (upd H a o) { s with heap:=h',toks:=t' }:=by
 have l:H a=none:=I.AG.fresh i;have j:∀b u,H b=some u->b∉fp:=λb u e z=>by rw[(h b z).1]at e;cases e
 have ne:∀b u,H b=some u->b≠a:=λb u e=>Dx e l;have g:∀b u,s.heap.get? b=some u->b≠a:=λb u e=>An (CS (AU e) i);refine I.step (g':=s.gens) (d':=s.drawn) (ch:=fp) (λb f=>?_) (λb o _ _ d e _=>k b o d e) (λb o _ _ d e _=>⟨o.slots,k b o d e⟩) (λb o _ e n=>by rw[AY (g b o e)];exact n)
  (λb o d e=>⟨o,k b o d e⟩) (λb _ e=>by rw[AY (ne b _ e)];exact e) (λb _ _ e=>by rw[AY (ne b _ e)];exact e) (λm p=>?_) (λb u e=>?_) I.bare
 .obtain⟨_,h1,_,y,x,t⟩:=h b f;exact⟨y,h1,x,t⟩
 .obtain⟨o,es,ep,ho,r⟩:=p;exact⟨o,es,ep,k _ o (λz=>(h _ z).2.1 rfl) ho,r⟩
 .by_cases f:b=a
  .subst f;rw[AZ]at e;cases e;exact new
  .rw[AY f]at e;refine(I.AG b u e).GO (λc v d q=>k c v ?_ q) (λc q=>by rw[AY (ne c _ q)];exact q) λc _ q=>by rw[AY (ne c _ q)];exact q
   rcases d with z|z
   .rw[z];exact j b u e
   .exact j c _ z
noncomputable def zg(K:ZDv)(a:Addr)(xs:List V):It:=
 ⟨λi H=>AK K H a xs/\i<xs.length,λi H x H'=>∃p y,xs[i]?=some y/\x=.ref p/\H p=none/\H'=upd H p (.tup [.int i,y]),λi H=>AK K H a xs/\xs.length<=i⟩
theorem uu{P:Program}{K:ZDv}{es:List Expr}{p1:Pos}(a e it:Addr)(xs:List V)(MD:e≠it):
  Turn P w K (.Tuple es k1 p1) (zg K a xs) [e,it] e (λi h=>(∃old,IsEnum h e it i old)/\h.IsListIter it a i) where
 mem:=by simp
 obj:=λi h st b f=>by
  obtain⟨⟨old,h1⟩,o,h2,_,d⟩:=st;rcases List.mem_cons.mp f with z|z
  .subst z;exact⟨_,h1,λv z=>by cases z⟩
  .have:b=it:=by simpa using z
   subst this;exact⟨o,h2,λv z=>by rw[d]at z;cases z⟩
 keep:=λi h h' st k=>⟨let ⟨old,h1⟩:=st.1;⟨old,k e (by simp) _ h1⟩,st.2.at λo q=>k it (by simp) o q⟩
 item:=by
  intro X r hw t A i Zd s Z H E I j st n;subst r hw t;obtain⟨m,hi⟩:=n;obtain⟨⟨old,g⟩,c⟩:=st;obtain⟨A3,l,p,F⟩:=I.list m;obtain⟨u,G,D⟩:=l.get (AQ hi);refine wpAny_pyNext_enum_item g c p.isList (x:=u) (by simpa using G) MD λh1 Hl HL MX O5 UL=>⟨_,rfl,?_⟩
  refine ZB7 Hl λh2 Jh Cz=>?_;have C:e<s.heap.objs.size:=AU g;have B:h2.get? s.heap.objs.size=some { cls:=.type "tuple", data:=.seq #[.int i s.toks,u] }:=(Cz.2 _ (DQ C)).trans MX;have kp:∀b o,b∉[e,it]->s.heap.get? b=some o->h2.get? b=some o:=λb o f q=>by
   have y:b≠e/\b≠it:=by simpa using f
   exact(Cz.2 b y.1).trans (UL b o y.1 y.2 q)
  refine⟨.ref s.heap.objs.size,_,I.RA (t':=s.toks+1) (a:=s.heap.objs.size) (o:=.tup [.int i,xs[i]]) j kp (Aa _) ?_,rfl,⟨_,_,AQ hi,rfl,I.AG.fresh (Aa _),rfl⟩,⟨⟨_,Jh⟩,HL.at λo q=>(Cz.2 it (Bh MD)).trans q⟩,λb f=>?_⟩
  .exact⟨(by show 2<=sizeLine;decide),[.int i s.toks,u],.cons ⟨_,rfl⟩ (.cons D .nil),⟨_,B,rfl,_,rfl⟩,λM q=>by rw[B]at q;cases q;rfl⟩
  .have L:b<s.heap.objs.size:=by
    rcases List.mem_cons.mp f with z|z
    .rw[z];exact C
    .have:b=it:=by simpa using z
     obtain⟨o,q,_⟩:=c;rw[this];exact AU q
   rw[AY (An L)];exact(j b f).1
 done:=by
  intro X r hw t A i Zd s Z H E I j st n;subst r hw t;obtain⟨m,hx⟩:=n;obtain⟨⟨old,g⟩,c⟩:=st;obtain⟨A3,l,p,F⟩:=I.list m;have N:=l.length;exact wpAny_pyNext_enum_end (I.ok.hd A) g c p.isList (by simp;omega) λh' J=>⟨rfl,I.Rc (t':=s.toks) j λb o f q=>J b o (λz=>f (by simp[z])) q⟩
 self:=λ_ _ _ _ _ st h=>let ⟨⟨_,g⟩,_⟩:=st;ZAI g h
theorem p8(t:SetTable)(n:Nat):(t.orStandIn n).led=t.led:=by unfold SetTable.orStandIn;split <;> rfl
theorem dz(t:SetTable)(es:Array (Int×Value))(h:Int)(x:Value):(layNew t es h x).2.1.led=t.led:=by
 unfold layNew;split
 .show(SetTable.orStandIn (t.put _).1 _).led=t.led;rw[p8];rfl
 .rfl
theorem Zk{mask b c:Nat}{d a:Bool}{e:Array Int}{p:SetTable×Array Nat}(h:SetTable.laid mask b c d a e=some p):p.1.led=d/\p.1.plain=a:=by
 unfold SetTable.laid at h;cases f:SetTable.layClean mask e with
 |none=>rw[f]at h;cases h
 |some ow=>rw[f]at h;cases h;exact⟨rfl,rfl⟩
theorem ZAl(t:SetTable)(es:Array (Int×Value))(n:Nat)(a:t.plain=false):(relayAll t es n).2.1.led=t.led/\(relayAll t es n).2.1.plain=false:=by
 unfold relayAll;split
 .next t' order hr=>
  have q:=Zk (p:=(t',order)) hr;dsimp only at q ⊢;split
  .exact⟨q.1,q.2.trans a⟩
  .exact⟨rfl,rfl⟩
 .exact⟨rfl,rfl⟩
noncomputable def BV(w:World):Bool:=w.params.followText "set-order"
def Ab(prog:Program)(w:World)(h:Heap)(a:Addr)(S:Str->Bool)(n:Nat):Prop:=
 ∃o es ep t,h.get? a=some o/\o.ExactSet/\o.data=.set es ep t/\ElemsOf (PySem.strKind prog w) es.toList/\(∀k,S k=true↔∃e∈es.toList,(PySem.strKind prog w).is k e.2=true)/\
  es.size<scanBound/\t.fits es.size=true/\es.size=n/\(t.led=!BV w)/\(0<es.size->t.plain=false)
theorem Ab.keep{h:Heap}{S:Str->Bool}(x:Ab prog w h a S n)(k:∀o,h.get? a=some o->h'.get? a=some o):Ab prog w h' a S n:=by
 obtain⟨o,es,ep,t,ho,r⟩:=x;exact⟨o,es,ep,t,k o ho,r⟩
theorem Ab.congr{h:Heap}{S S':Str->Bool}{b:Nat}(x:Ab prog w h a S n)(e:∀k,S k=S' k)(m:n=b):Ab prog w h a S' b:=by
 obtain⟨o,es,ep,t,h1,h2,l,j,i,g,f,d,c⟩:=x;exact⟨o,es,ep,t,h1,h2,l,j,λk=>by rw[<- e k];exact i k,g,f,d.trans m,c⟩
theorem Hq{h:Heap}(ho:h.get? a=some o)(hd:o.data=.set es ep t)(BJ:Array (Int×Value))(t':SetTable):
  (h.update a (Obj.putSet BJ t')).get? a=some { o with data:=.set BJ (ep+1) t' }:=by
 have q:=II (Obj.putSet BJ t') ho (by rw[putSet_of BJ t' hd];rfl);rw[q,putSet_of BJ t' hd]
theorem Ab.put{S:Str->Bool}{k:Str}{tk:Tok}{Q:Bool->Shared->Prop}(X:Ab prog w s.heap a S n)(HG:n+1<scanBound)
  (h:∀h',Heap.SameBut a s.heap h'->Ab prog w h' a (λk'=>S k' || decide (k'=k)) (if S k then n else n+1)->Q (!S k) { s with heap:=h' }) :
  wpAny (model prog w) A (setAddHashed a (.str k tk) ((PySem.strKind prog w).hash k)) Q E s:=by
 obtain⟨o,es,ep,t,ho,d,hd,BQ,BI,H,u,p,C3,BN⟩:=X;have B:(PySem.strKind prog w).is k (.str k tk)=true:=Yq prog w k tk;have C:(Value.str k tk).scannable=true:=rfl;have rm:es.size+1<scanBound:=by rw[p];exact HG
 have I:∀(b:Bool)(s1:Shared)(Q1:Unit->Shared->Prop),Q1 () s1->wpAny (model prog w) A (match b with|true=>rule "set.scan.the-table-gave-way" |false=>pure ()) Q1 E s1:=by
  intro b s1 Q1 q;cases b
  .exact k4 q
  .exact xU q
 unfold setAddHashed setAddHashedIn;refine qY ?_;refine dP (qJ ho hd u ?_);dsimp only;rw[byScan_of C H BQ];simp only[↓reduceIte];unfold setAddByScan;refine dP ?_;refine dP (xU ?_);refine dP (ZBL B ho hd u BQ ?_);cases G:List.findIdx? (λe=>(PySem.strKind prog w).is k e.2) es.toList with
 |some j=>
  dsimp only;obtain⟨W,M9,_⟩:=List.findIdx?_eq_some_iff_getElem.mp G;have hk:S k=true:=(BI k).mpr ⟨es.toList[j],Gs W,M9⟩;refine k4 ?_;refine k4 ?_;have q:=h s.heap (Ln a s.heap) ⟨o,es,ep,t,ho,d,hd,BQ,λk'=>by
   rw[<- BI k',Bool.or_eq_true,qO];exact⟨λz=>z.elim id λe=>e▸hk,Or.inl⟩,H,u,by rw[p7 hk];exact p,C3,BN⟩
  rw[hk]at q;exact q
 |none=>
  dsimp only;have hk:S k=false:=by
   cases e:S k with
   |false=>rfl
   |true=>
    obtain⟨x,hx,V⟩:=(BI k).mp e;have q:=List.findIdx?_eq_none_iff.mp G x hx;rw[V]at q;exact Bool.noConfusion q
  have p1:=layNew_perm t es ((PySem.strKind prog w).hash k) (.str k tk);have l:=layNew_fits t es ((PySem.strKind prog w).hash k) (.str k tk);have l1:=dz t es ((PySem.strKind prog w).hash k) (.str k tk);generalize layNew t es ((PySem.strKind prog w).hash k) (.str k tk)=L at p1 l l1 ⊢;obtain⟨B2,t1,O,gv⟩:=L;dsimp only at p1 l l1 ⊢;rw[jA]at p1;have σ:ElemsOf (PySem.strKind prog w) B2.toList:=(BQ.push B C).perm p1;have T:∀k',(S k' || decide (k'=k))=true↔∃e∈B2.toList,(PySem.strKind prog w).is k' e.2=true:=mem_push_iff B BI p1;have D:B2.size=n+1:=by rw[<- C9,p1.length_eq,BF,C9,p];rfl
  have J:B2.size<scanBound:=by rw[D];exact HG
  have fin:∀(h':Heap)(o':Obj)(BJ:Array (Int×Value))(Es:Nat)(t':SetTable),Heap.SameBut a s.heap h'->h'.get? a=some o'->o'.ExactSet->o'.data=.set BJ Es t'->BJ.toList.Perm B2.toList->t'.fits BJ.size=true->t'.led=t.led->t'.plain=false->
    Q true { s with heap:=h' }:=by
   intro h' o' BJ Es t' P go N d' f ff U R;have zz:BJ.size=n+1:=by rw[<- D,<- C9,f.length_eq,C9]
   have q:=h h' P ⟨o',BJ,Es,t',go,N,d',σ.perm f,λk'=>(T k').trans ⟨λ⟨e,v,q⟩=>⟨e,f.mem_iff.mpr v,q⟩,λ⟨e,v,q⟩=>⟨e,f.mem_iff.mp v,q⟩⟩,by rw[zz];exact HG,ff,by rw[hk];exact zz,U.trans C3,λ_=>R⟩;rw[hk]at q;exact q
  have c:∀(t2:SetTable),t2.fits B2.size=true->t2.led=t.led->t2.plain=false->wpAny (model prog w) A (do
    storeSet a B2 t2
    if(
      !O && t2.tooFull)=true then do
      (match(relayAll t2 B2 (SetTable.grown B2.size)).2.2 with|true=>rule "set.scan.the-table-gave-way" |false=>pure ())
      storeSet a (relayAll t2 B2 (SetTable.grown B2.size)).1 (relayAll t2 B2 (SetTable.grown B2.size)).2.1
      pure (some true)
     else pure (some true)) (λr s'=>match r with|some b=>Q b s'|none=>False) E s:=by
   intro t2 Y l2 E7;refine dP (tG ho hd ?_ (sg J));have m:=Hq ho hd B2 t2;have K:=FI s.heap a (Obj.putSet B2 t2);split
   .have g:=relayAll_perm t2 B2 (SetTable.grown B2.size);have y:=relayAll_fits t2 B2 (SetTable.grown B2.size);have i:=ZAl t2 B2 (SetTable.grown B2.size) E7;generalize relayAll t2 B2 (SetTable.grown B2.size)=Rl at g y i ⊢;obtain⟨GJ,F,g3⟩:=Rl;dsimp only at g y i ⊢;have M:GJ.size=B2.size:=by rw[<- C9,g.length_eq,C9]
    refine dP (I _ _ _ ?_);refine dP (tG m rfl ?_ (sg (by rw[M];exact J)));refine k4 ?_;exact fin _ _ GJ _ F (K.trans (FI _ a _)) (Hq m rfl GJ F) d rfl g y (i.1.trans l2) i.2
   .exact k4 (fin _ _ B2 _ t2 K m d rfl (Gq _) Y l2 E7)
  refine dP (I _ _ _ ?_);split
  .next Ra=>
   refine dP ?_;rw[hashByValue_scannable 8 C];refine k4 ?_;refine qP (c { t1 with plain:=false } (SetTable.fits_plain_off l) l1 rfl) (λr s' q=>?_) λ_ _ e=>e
   cases r with
   |none=>exact q.elim
   |some b=>exact k4 q
  .next Ra=>
   refine dP (k4 ?_);simp only[↓reduceIte];refine qP (c t1 l l1 (by simpa using Ra)) (λr s' q=>?_) λ_ _ e=>e
   cases r with
   |none=>exact q.elim
   |some b=>exact k4 q
theorem U5{α:Type}:∀(l:List α)(i:Nat)(h:i<l.length),(l[i]::l.eraseIdx i).Perm l
 |_::_,0,_=>Gq _
 |x::r,i+1,h=>(List.Perm.swap x (r[i]'(by simpa using h)) (r.eraseIdx i)).trans ((U5 r i (by simpa using h)).cons x)
theorem qW(nx:Nat->Nat):∀(n k:Nat)(l:List α)(out:Array α),l.length=n->(pickOrder.go nx n k l out).toList.Perm (out.toList++l):=by
 intro n
 induction n with
 |zero=>
  intro k l out b;rw[List.length_eq_zero_iff.mp b];unfold pickOrder.go;simp
 |succ n c=>
  intro k l out b;have a:nx k % l.length<l.length:=Yl _ (by omega);unfold pickOrder.go;rw[AQ a];dsimp only;refine(c _ _ _ (by rw[ZCe a];omega)).trans ?_;rw[jA,Bt];exact List.Perm.append_left _ (U5 l _ a)
theorem NS(nx:Nat->Nat)(xs:Array α):(pickOrder nx xs).toList.Perm xs.toList:=by
 have q:=qW nx xs.size 0 xs.toList #[] (by simp)
 simpa[pickOrder]using q
theorem vA{a:Source}{Q:Nat->Shared->Prop}(b:n≠0)(h:∀k d,k<n->Q k { s with drawn:=d }):wpAny (model prog w) A (choose a n) Q E s:=by
 intro Γ p hΓ;show Sem.wp _ _ (.choose a n .pure) _ _ _ _;rw[Sem.wp_choose];refine⟨b,?_⟩;rw[Sem.wp_pure];exact h _ _ (Yl _ (Nat.pos_of_ne_zero b))
theorem Zw:∀(n:Nat)(xs:List α)(s:Shared)(Q:List α->Shared->Prop),xs.length<=n->(∀ys d,ys.Perm xs->Q ys { s with drawn:=d })->wpAny (model prog w) A (drawOrder n xs) Q E s:=by
 intro n
 induction n with
 |zero=>
  intro xs s Q a h;rw[List.length_eq_zero_iff.mp (Nat.le_zero.mp a)]at h ⊢;exact k4 (h [] s.drawn (Gq _))
 |succ n b=>
  intro xs s Q a h;cases xs with
  |nil=>exact k4 (h [] s.drawn (Gq _))
  |cons x r=>
   unfold drawOrder;refine dP (vA (by simp) λk d hk=>?_);rw[AQ hk];dsimp only;refine dP (b _ _ _ (by rw[ZCe hk];simp only[Az]at a ⊢;omega) λys d' c=>?_);exact k4 (h _ d' ((c.cons _).trans (U5 (x::r) _ hk)))
theorem eO{Q:Bool->Shared->Prop}(ho:s.heap.get? a=some o)(hd:o.data=.set es ep t)(b:t.fits es.size=true)
  (h:Q (!BV w && (!t.plain && decide (es.size > 1))) s):wpAny (model prog w) A (setDrawn a) Q E s:=by
 unfold setDrawn;refine dP (qJ ho hd b ?_);dsimp only;unfold setsByText;refine dP (dP (rB (k4 ?_)));exact k4 h
theorem bM{Q:Option (Value×Nat)->Shared->Prop}(d:BV w=true)(ho:s.heap.get? a=some o)(hd:o.data=.set es ep t)(b:t.fits es.size=true)
  (h:Q (((pickOrder (w.params.setOrder a ep) es)[i]?).map λe=>(e.2,sl)) s):wpAny (model prog w) A (setNext a sl i ep) Q E s:=by
 have c:w.params.followText "set-order"=true:=d;unfold setNext;refine dP (qJ ho hd b ?_);dsimp only;unfold setsByText;refine dP (dP (rB (k4 ?_)));show wpAny _ _ (if w.params.followText "set-order"=true then _ else _) _ _ _
 rw[p7 c,mD (by simp)];refine dP ?_;unfold setWalk setsByText;refine dP (qJ ho hd b ?_);dsimp only;refine dP (dP (rB (k4 ?_)));show wpAny _ _ (if w.params.followText "set-order"=true then _ else _) _ _ _
 rw[p7 c];exact dP (rB (k4 (k4 h)))
theorem dg{Q:Option (Value×Nat)->Shared->Prop}(d:BV w=false)(ho:s.heap.get? a=some o)(hd:o.data=.set es ep t)(c:t.fits es.size=true)
  (h1:es.size<=1) (b:t.led=true)
  (h:Q (match es[SetTable.below t.place sl]?,t.place[SetTable.below t.place sl]? with|some (_,x),some j=>some (x,j+1)|_,_=>none) s):wpAny (model prog w) A (setNext a sl i ep) Q E s:=by
 have e:w.params.followText "set-order"=false:=d;unfold setNext;refine dP (qJ ho hd c ?_);dsimp only;unfold setsByText;refine dP (dP (rB (k4 ?_)));show wpAny _ _ (if w.params.followText "set-order"=true then _ else _) _ _ _
 rw[mD (by rw[e];decide)];show wpAny _ _ (if(!t.plain && decide (es.size > 1))=true then _ else _) _ _ _
 rw[mD (by rw[oO (by omega)];simp)];refine dP (m:=_) ?_
 wp_delta
 rw[b];exact k4 (k4 h)
theorem ZAy(ho:s.heap.get? a=some o)(hd:o.data=.set es ep t)(b:t.fits es.size=true)(c:es[pl]?=some e)
  (h:Q e.2 s):wpAny (model prog w) A (setNextDrawn a pl ep) Q E s:=by
 unfold setNextDrawn;refine dP (qJ ho hd b ?_);dsimp only;rw[mD (by simp),c];exact k4 h
theorem bW:Manifest.owners.lookup (String.ofList ['r','o','t','a','r','e','t','i','_','t','e','s'].reverse)=some Manifest.sig_set_iterator:=by kernel_rfl
theorem Fy:Slot "set_iterator" "__next__" "set_iterator.__next__" :=
 .of (owner:="set_iterator") (n:="__next__") (by rw[ZBc,ZAJ];kernel_rfl) (by decide +kernel) (by decide +kernel) (by decide +kernel)
  (by first|exact .inl (by decide +kernel)|exact .inr (by decide +kernel)) (by rw[wB];kernel_rfl)
theorem Rb:entryFor table "set_iterator.__next__"=some Builtin.«set_iterator.__next__»:=entryFor_of_tree (by kernel_rfl)
theorem Pl(a:Value):argsOk "set_iterator.__next__" ⟨[a],[]⟩:=by
 unfold argsOk;rw[signature?_of (id:="set_iterator.__next__") (n:=['_','_','t','x','e','n','_','_']) (o:=['r','o','t','a','r','e','t','i','_','t','e','s']) (by kernel_rfl) bW];kernel_rfl
theorem hJ:Slot "set_iterator" "__iter__" "set_iterator.__iter__" :=
 .of (owner:="set_iterator") (n:="__iter__") (by rw[ZBc,ZAJ];kernel_rfl) (by decide +kernel) (by decide +kernel) (by decide +kernel)
  (by first|exact .inl (by decide +kernel)|exact .inr (by decide +kernel)) (by rw[wB];kernel_rfl)
theorem qU(a:Value):argsOk "set_iterator.__iter__" ⟨[a],[]⟩:=by
 unfold argsOk;rw[signature?_of (id:="set_iterator.__iter__") (n:=['_','_','r','e','t','i','_','_']) (o:=['r','o','t','a','r','e','t','i','_','t','e','s']) (by kernel_rfl) bW];kernel_rfl
theorem uf:entryFor table "set_iterator.__iter__"=some Builtin.«dict_keyiterator.__iter__»:=
 ZB1 (id' := "dict_keyiterator.__iter__") (by kernel_rfl) (by first|rfl|decide +kernel|(unfold String.splitOn;simp +decide [String.splitOnAux])) (by decide +kernel) (by kernel_rfl)
theorem Zt:entryFor table "set.__iter__"=some Builtin.«frozenset.__iter__»:=
 ZB1 (id' := "frozenset.__iter__") (by kernel_rfl) (by first|rfl|decide +kernel|(unfold String.splitOn;simp +decide [String.splitOnAux])) (by decide +kernel) (by kernel_rfl)
noncomputable def JH(f:Value)(i:Nat)(S:Addr)(n ep:Nat):Array Value:=#[f,rawInt (i:Int),.ref S,rawInt (n:Int),rawInt (ep:Int)]
def EV(h:Heap)(I:Addr)(f:Value)(i:Nat)(S:Addr)(n ep:Nat):Prop:=∃o,h.get? I=some o/\o.cls=.type "set_iterator" /\ o.data=.fields (JH f i S n ep)
theorem EV.typeIs(x:EV s.heap I f i S n ep):s.TypeIs (.ref I) "set_iterator" := let ⟨o,ho,hc,_⟩:=x;⟨o,ho,hc⟩
theorem EV.at{h:Heap}(x:EV h I f i S n ep)(e:∀o,h.get? I=some o->h'.get? I=some o):EV h' I f i S n ep:=let ⟨o,ho,r⟩:=x;⟨o,e _ ho,r⟩
theorem fb{Q:α->Shared->Prop}{F:Value->Shared->Prop}(hh:A.handled=none)
  (hF:∀e h',(∀b o,s.heap.get? b=some o->h'.get? b=some o)->(Shared.TypeIs { s with heap:=h' } e "StopIteration")->F e { s with heap:=h' }) :
  wpAny (model prog w) A (newExc (.type "StopIteration") [] >>= λe=>raiseNew e) Q F s:=by
 refine dP ?_;simp only[newExc,newTuple];refine dP (r6 ?_ (by size_fits));refine dP (m:=firstArgMember _ _) (rC (a:=Value.none) (by first|rfl|(simp only[firstArgMember];rfl)) ?_)
 refine r6 ?_ (by size_fits);simp only[raiseNew];refine dP (wpAny_handled ?_);rw[hh];refine dP (k4 (wpAny_throw ?_));exact hF _ _ (λb o e=>Aj _ (Aj _ e)) ⟨_,B1 _ rfl,rfl⟩
theorem Xl{nx:Nat}{Q:Option Value->Shared->Prop}(b:EV s.heap it (rawInt (sl:Int)) i S n ep)
  (ho:s.heap.get? S=some o) (hd:o.data=.set es ep t) (g:t.fits es.size=true) (f:es.size=n)
  (XU:∀(A1:Around)(E1:Value->Shared->Prop)(Q1:Option (Value×Nat)->Shared->Prop),Q1 (some (x,nx)) s->wpAny (model prog w) A1 (setNext S sl i ep) Q1 E1 s)
  (j:∀h',EV h' it (rawInt (nx:Int)) (i+1) S n ep->Heap.SameBut it s.heap h'->Q (some x) { s with heap:=h' }):wpAny (model prog w) A (pyNext (.ref it)) Q E s:=by
 obtain⟨k,FU,h,EN⟩:=id b;subst f;unfold pyNext;refine dP (zo (rl (name:=Str.ofString "__next__") b.typeIs Fy
  (qf Fy b.typeIs Rb ?_ (Pl _))))
 unfold Builtin.«set_iterator.__next__»;refine dP (rC (a:=(Value.ref it,[])) rfl ?_)
 try dsimp only
 refine dP (ZAt FU EN ?_);show wpAny _ _ (setEntries S >>= _) _ _ s;refine dP (rG ho hd g ?_);rw[mD (by simp)];show wpAny _ _ (setNext S sl i ep >>= _) _ _ s;refine dP (XU _ _ _ ?_);dsimp only;refine dP (xX FU EN (by simp[JH]) ?_);have d:=II (λe=>Obj.mapFields (·.setIfInBounds 0 (rawInt (nx:Int))) e) FU (TJ (JS EN _))
 have c:=JS EN (·.setIfInBounds 0 (rawInt (nx:Int)))
 refine dP (xX (s:={ s with heap:=_ }) d c (by simp[JH]) ?_)
 refine k4 ⟨x,rfl,k4 (j _ ⟨_,II _ d (TJ (JS c _)),?_,?_⟩ ((FI ..).trans (FI ..)))⟩
 .exact(Yn ..).trans ((Yn ..).trans h)
 .rw[JS c];simp[JH]
theorem WU{Q:Option Value->Shared->Prop}(hh:A.handled=none)(c:EV s.heap it (rawInt (sl:Int)) i S n ep)
  (ho:s.heap.get? S=some o) (hd:o.data=.set es ep t) (g:t.fits es.size=true) (f:es.size=n)
  (XU:∀(A1:Around)(E1:Value->Shared->Prop)(Q1:Option (Value×Nat)->Shared->Prop),Q1 none s->wpAny (model prog w) A1 (setNext S sl i ep) Q1 E1 s)
  (l:∀h',Heap.ExtBut it s.heap h'->Q none { s with heap:=h' }):wpAny (model prog w) A (pyNext (.ref it)) Q E s:=by
 obtain⟨m,FU,p,EN⟩:=id c;subst f;unfold pyNext;refine dP (zo (rl (name:=Str.ofString "__next__") c.typeIs Fy
  (qf Fy c.typeIs Rb ?_ (Pl _))))
 unfold Builtin.«set_iterator.__next__»;refine dP (rC (a:=(Value.ref it,[])) rfl ?_)
 try dsimp only
 refine dP (ZAt FU EN ?_);show wpAny _ _ (setEntries S >>= _) _ _ s;refine dP (rG ho hd g ?_);rw[mD (by simp)];show wpAny _ _ (setNext S sl i ep >>= _) _ _ s;refine dP (XU _ _ _ ?_);dsimp only;refine dP (xX FU EN (by simp[JH]) ?_);refine fb (A:=A.in1) hh λe h' k j=>?_;refine dP (uh (T:="StopIteration") (b:=true) j ZB0 ?_);refine k4 (l _ (λb d h e=>?_));exact k b d ((KL _ _ (Bh h)).trans e)
theorem o8{T:Addr}{Q:Option Value->Shared->Prop}(b:EV s.heap it (.ref T) i S n ep)
  (ho:s.heap.get? S=some o) (hd:o.data=.set es ep t) (c:t.fits es.size=true) (f:es.size=n) (j:s.heap.get? T=some oT) (Uh:oT.data=.seq ps nT) (d:ps[i]?=some (rawInt (pl:Int))) (g:es[pl]?=some e)
  (k:∀h',EV h' it (.ref T) (i+1) S n ep->Heap.SameBut it s.heap h'->Q (some e.2) { s with heap:=h' }):wpAny (model prog w) A (pyNext (.ref it)) Q E s:=by
 obtain⟨l,FU,h,EN⟩:=id b;subst f;unfold pyNext;refine dP (zo (rl (name:=Str.ofString "__next__") b.typeIs Fy
  (qf Fy b.typeIs Rb ?_ (Pl _))))
 unfold Builtin.«set_iterator.__next__»;refine dP (rC (a:=(Value.ref it,[])) rfl ?_)
 try dsimp only
 refine dP (ZAt FU EN ?_);show wpAny _ _ (setEntries S >>= _) _ _ s;refine dP (rG ho hd c ?_);rw[mD (by simp)];show wpAny _ _ (seqItems? (.ref T) >>= _) _ _ s;refine dP ?_;unfold seqItems?;refine dP (ZAo j ?_);rw[Uh];refine k4 ?_;show wpAny _ _ (match ps[i]? with|some (.int place _)=>_|some _=>_|none=>_) _ _ s
 rw[d];show wpAny _ _ (setNextDrawn S pl ep >>= _) _ _ s;refine dP (ZAy ho hd c g ?_);refine dP (xX FU EN (by simp[JH]) ?_);refine k4 ⟨e.2,rfl,k4 (k _ ⟨_,II _ FU (TJ (JS EN _)),?_,?_⟩ (FI ..))⟩
 .exact(Yn ..).trans h
 .rw[JS EN];simp[JH]
theorem sX{T:Addr}{Q:Option Value->Shared->Prop}(hh:A.handled=none)(c:EV s.heap it (.ref T) i S n ep)
  (ho:s.heap.get? S=some o) (hd:o.data=.set es ep t) (m:t.fits es.size=true) (l:es.size=n) (f:s.heap.get? T=some oT) (Uh:oT.data=.seq ps nT) (j:ps[i]?=none)
  (p:∀h',Heap.ExtBut it s.heap h'->Q none { s with heap:=h' }):wpAny (model prog w) A (pyNext (.ref it)) Q E s:=by
 obtain⟨r,FU,u,EN⟩:=id c;subst l;unfold pyNext;refine dP (zo (rl (name:=Str.ofString "__next__") c.typeIs Fy
  (qf Fy c.typeIs Rb ?_ (Pl _))))
 unfold Builtin.«set_iterator.__next__»;refine dP (rC (a:=(Value.ref it,[])) rfl ?_)
 try dsimp only
 refine dP (ZAt FU EN ?_);show wpAny _ _ (setEntries S >>= _) _ _ s;refine dP (rG ho hd m ?_);rw[mD (by simp)];show wpAny _ _ (seqItems? (.ref T) >>= _) _ _ s;refine dP ?_;unfold seqItems?;refine dP (ZAo f ?_);rw[Uh];refine k4 ?_;show wpAny _ _ (match ps[i]? with|some (.int place _)=>_|some _=>_|none=>_) _ _ s
 rw[j];dsimp only;refine dP (xX FU EN (by simp[JH]) ?_);have h:=II (λd=>Obj.mapFields (·.setIfInBounds 0 (rawInt 0)) d) FU (TJ (JS EN _))
 have q:=JS EN (·.setIfInBounds 0 (rawInt 0))
 refine dP (xX (s:={ s with heap:=_ }) h q (by simp[JH]) ?_)
 refine fb (A:=A.in1) hh λe h' k f=>?_;refine dP (uh (T:="StopIteration") (b:=true) f ZB0 ?_);refine k4 (p _ (λb d g e=>?_));exact k b d ((KL _ _ (Bh g)).trans ((KL _ _ (Bh g)).trans e))
theorem SG(a:EV s.heap it f i S n ep)(h:Q (.ref it) s):wpAny (model prog w) A (pyIter (.ref it)) Q E s:=by
 refine ZB9 a.typeIs hJ (qf hJ a.typeIs uf ?_ (qU _));show wpAny _ _ (ret (.ref it)) _ _ s;exact k4 ⟨_,rfl, "set_iterator", _,a.typeIs,Fy.lookup,h⟩
theorem Ys(a:BV w=true)(hh:A.handled=none)(I S:Addr)(Af:S≠I)(hd:o.data=.set es ep t)(d:t.fits es.size=true):
  Walks prog w A I [I,S] [I] es.size (λi v=>((pickOrder (w.params.setOrder S ep) es).toList.map (·.2))[i]?=some v) (λi h=>EV h I (rawInt ((0:Nat):Int)) i S es.size ep/\h.get? S=some o) where
 sub:=λb a=>by simp at a;simp[a]
 frame:=λ_ _ _ x hk=>⟨x.1.at λo e=>hk I (by simp) o e,hk S (by simp) _ x.2⟩
 item:=λi s Q E hi x c=>by
  have l:(pickOrder (w.params.setOrder S ep) es).size=es.size:=by
   have q:=(NS (w.params.setOrder S ep) es).length_eq
   simpa using q
  have k:i<(pickOrder (w.params.setOrder S ep) es).size:=by omega
  refine Xl (x:=((pickOrder (w.params.setOrder S ep) es)[i]).2) (nx:=0) x.1 x.2 hd d rfl (λA1 E1 Q1 q=>bM a x.2 hd d (by rw[IG k];exact q)) λh' LC j=>?_;exact c _ h' s.toks (by rw[AS,Lm,IG k];rfl) ⟨LC,j.extBut S o Af x.2⟩ λb f a g=>j.extBut b f (λh=>a (by simp[h])) g
 done:=λs Q E x c=>by
  have l:(pickOrder (w.params.setOrder S ep) es).size=es.size:=by
   have q:=(NS (w.params.setOrder S ep) es).length_eq
   simpa using q
  refine WU hh x.1 x.2 hd d rfl (λA1 E1 Q1 q=>bM a x.2 hd d (by rw[YG (by omega)];exact q)) λh' m=>?_;exact c h' s.toks λb f a g=>m b f (λh=>a (by simp[h])) g
 self:=λ_ _ _ _ x c=>SG x.1 c
theorem WW:∀(a:Array α),a.size=1->∃x,a=#[x]
 | ⟨[x]⟩,_=>⟨x,rfl⟩
 | ⟨[]⟩,h=>by simp at h
 | ⟨_::_::_⟩,h=>by simp at h
theorem xM(p:Nat):SetTable.below #[p] 0=0:=by simp[SetTable.below,SetTable.below.go]
theorem below_1(p:Nat):SetTable.below #[p] (p+1)=1:=by simp[SetTable.below,SetTable.below.go]
theorem OM(h:t.fits n=true):t.place.size=n:=by
 simp only[SetTable.fits,DN,ZAO]at h;exact h.1
theorem rD(a:BV w=false)(hh:A.handled=none)(I S:Addr)(Af:S≠I)(hd:o.data=.set es ep t)(c:t.fits es.size=true)(h1:es.size<=1)(r:t.led=true):
  Walks prog w A I [I,S] [I] es.size (λi v=>(es.toList.map (·.2))[i]?=some v) (λi h=>EV h I (rawInt (((if i=0 then 0 else t.place.getD 0 0+1:Nat)):Int)) i S es.size ep/\h.get? S=some o) where
 sub:=λb a=>by simp at a;simp[a]
 frame:=λ_ _ _ x hk=>⟨x.1.at λo e=>hk I (by simp) o e,hk S (by simp) _ x.2⟩
 item:=λi s Q E hi x d=>by
  obtain rfl:i=0:=by omega
  have z:es.size=1:=by omega
  have g:t.place.size=1:=(OM c).trans z;obtain⟨e,rfl⟩:=WW es z;obtain⟨p,f⟩:=WW t.place g;have l:=x.1;refine Xl (x:=e.2) (nx:=p+1) l x.2 hd c rfl (λA1 E1 Q1 q=>dg a x.2 hd c h1 r (by rw[f,p7 rfl,xM];exact q)) λh' LC n=>?_;refine d _ h' s.toks rfl ⟨?_,n.extBut S o Af x.2⟩ λb k a m=>n.extBut b k (λh=>a (by simp[h])) m;rw[mD (by omega),f];exact LC
 done:=λs Q E x d=>by
  refine WU hh x.1 x.2 hd c rfl (λA1 E1 Q1 q=>dg a x.2 hd c h1 r ?_) λh' y=>?_
  .by_cases z:es.size=0
   .rw[YG (by omega)];exact q
   .have u:es.size=1:=by omega
    have g:t.place.size=1:=(OM c).trans u;obtain⟨p,f⟩:=WW t.place g;rw[mD z,f];show Q1 (match es[SetTable.below #[p] (p+1)]?,(#[p]:Array Nat)[SetTable.below #[p] (p+1)]? with|some (_,x),some j=>some (x,j+1)|_,_=>none) s
    rw[below_1,YG (by omega)];exact q
  .exact d h' s.toks λb k a m=>y b k (λh=>a (by simp[h])) m
 self:=λ_ _ _ _ x d=>SG x.1 d
theorem fK(hh:A.handled=none)(I S T:Addr)(Af:S≠I)(r:T≠I)(hd:o.data=.set es ep t)(l:t.fits es.size=true){ps:List Nat}(g:ps.Perm (List.range es.size))(n:oT.data=.seq (ps.map λi:Nat=>rawInt i).toArray nT):
  Walks prog w A I [I,S,T] [I] es.size (λi v=>(ps.map λp=>(es[p]?.map (·.2)).getD .none)[i]?=some v) (λi h=>EV h I (.ref T) i S es.size ep/\h.get? S=some o/\h.get? T=some oT) where
 sub:=λb a=>by simp at a;simp[a]
 frame:=λ_ _ _ x hk=>⟨x.1.at λo e=>hk I (by simp) o e,hk S (by simp) _ x.2.1,hk T (by simp) _ x.2.2⟩
 item:=λi s Q E hi x c=>by
  have y:ps.length=es.size:=by have q:=g.length_eq;simpa using q
  have k:i<ps.length:=by omega
  have u:ps[i]<es.size:=by
   have q:=g.mem_iff.mp (Gs k)
   simpa using q
  have m:es[ps[i]]?=some es[ps[i]]:=IG u;refine o8 (pl:=ps[i]) (e:=es[ps[i]]) x.1 x.2.1 hd l rfl x.2.2 n (by rw[ZCb,AS,AQ k];rfl) m λh' LC d=>?_;exact c _ h' s.toks (by rw[AS,AQ k];simp only[Lu,m,ZCx]) ⟨LC,d.extBut S o Af x.2.1,d.extBut T oT r x.2.2⟩ λb f a j=>d.extBut b f (λh=>a (by simp[h])) j
 done:=λs Q E x c=>by
  have y:ps.length=es.size:=by have q:=g.length_eq;simpa using q
  refine sX hh x.1 x.2.1 hd l rfl x.2.2 n (by rw[ZCb,AS,KP (by omega)];rfl) λh' z=>?_;exact c h' s.toks λb f a j=>z b f (λh=>a (by simp[h])) j
 self:=λ_ _ _ _ x c=>SG x.1 c
theorem bS(es:Array (Int×Value)):(List.range es.size).map (λp=>(es[p]?.map (·.2)).getD Value.none)=es.toList.map (·.2):=by
 refine T4 (by simp) λi h1 h2=>?_;have hi:i<es.size:=by simpa using h1
 simp[IG hi]
theorem ZAX{l:List (Int×Value)}(h:ElemsOf (PySem.strKind prog w) l):∃a,StrsAre (l.map (·.2)) a/\∀k,k∈a↔∃e∈l,(PySem.strKind prog w).is k e.2=true:=by
 induction l with
 |nil=>exact⟨[],.nil,λk=>by simp⟩
 |cons e r b=>
  obtain⟨a,h1,h2⟩:=b h.tail;obtain⟨⟨k,hk,_⟩,_⟩:=h.head;obtain⟨tk,c⟩:=JT hk;refine⟨k::a,?_,λk'=>?_⟩
  .rw[DG,c];exact .cons k tk h1
  .rw[CK,h2 k'];constructor
   .rintro(rfl|⟨x,hx,q⟩)
    .exact⟨e,Ar,hk⟩
    .exact⟨x,BG _ hx,q⟩
   .rintro⟨x,hx,q⟩;rcases List.mem_cons.mp hx with rfl|hx
    .exact .inl ((PySem.strKind prog w).inj x.2 k' k q hk)
    .exact .inr ⟨x,hx,q⟩
theorem StrsAre.len:∀{vs:List Value}{ss:List Str},StrsAre vs ss->vs.length=ss.length
 |_,_,.nil=>rfl
 |_,_,.cons _ _ h=>by rw[Az,Az,StrsAre.len h]
theorem StrsAre.perm{Br:List Value}(h:StrsAre vs ss)(p:Br.Perm vs):∃A6,StrsAre Br A6/\A6.Perm ss:=by
 refine⟨Br.map strOf,strsAre_map Br λv a=>h.all v (p.mem_iff.mp a),?_⟩;rw[<- h.strs];exact p.map strOf
section
theorem vn{f:Str->Bool}(L:Ab prog w s.heap S f n)
  (h:∀(I:Addr)(h1:Heap)(d:_)(fp:List Addr)(vs:List Value)(m:List Str)(St:Nat->Heap->Prop),(∀A2:Around,A2.handled=none->Walks prog w A2 I fp [I] n (λi v=>vs[i]?=some v) St)->St 0 h1->(∀b∈fp,b=S∨s.heap.objs.size<=b/\b<h1.objs.size)->s.heap.objs.size<=I->s.heap.objs.size<=h1.objs.size->
   (∀b o,s.heap.get? b=some o->h1.get? b=some o)->StrsAre vs m->m.length=n->(∀k,f k=true↔k∈m)->Q (.ref I) { s with heap:=h1,drawn:=d }):wpAny (model prog w) A (pyIter (.ref S)) Q E s:=by
 obtain⟨o,es,ep,t,ho,x,hd,BQ,BI,K,j,J,C3,BN⟩:=L;subst J;have C:s.TypeIs (.ref S) "set" := ⟨o,ho,x.1⟩;have y:S<s.heap.objs.size:=AU ho;obtain⟨G,t1,t2⟩:=ZAX BQ;have fin:∀(I:Addr)(h1:Heap)(d:_)(fp:List Addr)(vs:List Value)(St:Nat->Heap->Prop),(∀A2:Around,A2.handled=none->Walks prog w A2 I fp [I] es.size (λi v=>vs[i]?=some v) St)->St 0 h1->(∀b∈fp,b=S∨s.heap.objs.size<=b/\b<h1.objs.size)->s.heap.objs.size<=I->s.heap.objs.size<=h1.objs.size->
   (∀b o,s.heap.get? b=some o->h1.get? b=some o)->vs.Perm (es.toList.map (·.2))->Q (.ref I) { s with heap:=h1,drawn:=d }:=by
  intro I h1 d fp vs St a1 a2 R P O N M;obtain⟨m,H,B⟩:=StrsAre.perm t1 M;refine h I h1 d fp vs m St a1 a2 R P O N H ?_ λk=>?_
  .rw[B.length_eq,<- StrsAre.len t1];simp
  .rw[BI k,<- t2 k];exact B.mem_iff.symm
 refine ZB9 C YK (qf YK C Zt ?_ (F.args_set_iter_1 _));unfold Builtin.«frozenset.__iter__»;refine dP (rC (a:=S) rfl ?_);refine dP ?_;unfold Builtin.Frozenset.sizeOf;refine dP (rG ho hd j (k4 ?_));refine dP (eO ho hd j ?_)
 by_cases p:(!BV w && (!t.plain && decide (es.size > 1)))=true
 .rw[p7 p];refine dP ?_;refine Zw es.size (List.range es.size) _ _ (by rw[Cc];exact Aa _) λps d u=>?_;have pz:(ps.map λi:Nat=>rawInt i).length<=sizeLine:=by rw[AA,u.length_eq,Cc];exact sg K
  refine dP (ZAs ?_ pz);dsimp only;refine dP (tK (s:={ s with heap:=_,drawn:=d }) (Aj _ ho) hd j ?_)
  refine dP (r6 ?_);have g:∀(q:Obj)(b:Addr)(c:Obj),s.heap.get? b=some c->((s.heap.push (seqObj "tuple" (ps.map λi:Nat=>rawInt i).toArray 0)).push q).get? b=some c:=λq b c e=>Aj _ (Aj _ e);have l:(s.heap.push (seqObj "tuple" (ps.map λi:Nat=>rawInt i).toArray 0)).objs.size=s.heap.objs.size+1:=C2 ..;refine k4 ⟨_,rfl, "set_iterator", _,⟨_,B1 _ rfl,rfl⟩,Fy.lookup,?_⟩;refine fin _ _ d [(s.heap.push (seqObj "tuple" (ps.map λi:Nat=>rawInt i).toArray 0)).objs.size,S,s.heap.objs.size] _ _ (λA2 hh=>fK hh _ S s.heap.objs.size (by rw[l];exact An (Ej y)) (by rw[l];exact An (IL _)) hd j u (oT:=seqObj "tuple" (ps.map λi:Nat=>rawInt i).toArray 0) rfl) ⟨⟨_,B1 _ rfl,rfl,rfl⟩,g _ _ _ ho,Aj _ (B1 _ rfl)⟩ ?_ (by show s.heap.objs.size<=(s.heap.push (seqObj "tuple" (ps.map λi:Nat=>rawInt i).toArray 0)).objs.size;rw[l];exact DH _) ?_ (g _) ?_
  .intro b Bd;simp only[CK,BH,su]at Bd;rw[C2,l];rcases Bd with rfl|rfl|rfl
   .right;rw[l];exact⟨DH _,IL _⟩
   .left;rfl
   .right;exact⟨Aa _,Ej (IL _)⟩
  .rw[C2,l];exact Lr (DH _)
  .rw[<- bS];exact u.map _
 .rw[mD p];refine dP (k4 ?_);refine dP (tK ho hd j ?_);refine dP (r6 ?_);have g:∀(q:Obj)(b:Addr)(c:Obj),s.heap.get? b=some c->(s.heap.push q).get? b=some c:=λq b c e=>Aj _ e;refine k4 ⟨_,rfl, "set_iterator", _,⟨_,B1 _ rfl,rfl⟩,Fy.lookup,?_⟩;have D:∀(q:Obj),∀b∈[s.heap.objs.size,S],b=S∨s.heap.objs.size<=b/\b<(s.heap.push q).objs.size:=by
   intro q b Bd;simp only[CK,BH,su]at Bd;rw[C2];rcases Bd with rfl|rfl
   .right;omega
   .left;rfl
  cases r:BV w with
  |true=>
   refine fin _ _ s.drawn [s.heap.objs.size,S] _ _ (λA2 hh=>Ys r hh _ S (An y) hd j) ⟨⟨_,B1 _ rfl,rfl,rfl⟩,g _ _ _ ho⟩ (D _) (Aa _) (by rw[C2];omega) (g _) ?_;exact(NS _ _).map _
  |false=>
   have h1:es.size<=1:=by
    rw[r]at p
    by_cases z:es.size<=1
    .exact z
    .rw[BN (by omega),kc (by omega:es.size > 1)]at p;exact absurd rfl p
   refine fin _ _ s.drawn [s.heap.objs.size,S] _ _ (λA2 hh=>rD r hh _ S (An y) hd j h1 (by rw[C3,r];rfl)) ⟨⟨_,B1 _ rfl,rfl,rfl⟩,g _ _ _ ho⟩ (D _) (Aa _) (by rw[C2];omega) (g _) (Gq _)
theorem ix:typeLookup (.type "set") "__len__"=pure (some (.builtin "set.__len__")):=by rw[ZBc,ZAJ];kernel_rfl
theorem pI{f:Str->Bool}{Q:List Value->Shared->Prop}(hh:A.handled=none)(r:Ab prog w s.heap S f n)(O:n<=sizeLine)
  (h:∀(s':Shared)(vs:List Value)(c:List Str),(∀b o,s.heap.get? b=some o->s'.heap.get? b=some o)->s.heap.objs.size<=s'.heap.objs.size->s'.gens=s.gens->s'.os=s.os->StrsAre vs c->c.length=n->(∀k,f k=true↔k∈c)->Q vs s') :
  wpAny (model prog w) A (collect (.ref S)) Q E s:=by
 have X:S<s.heap.objs.size:=by obtain⟨o,_,_,_,ho,_⟩:=r;exact AU ho
 have y:s.heap.objs.size≠S:=DQ X;unfold collect;refine dP (ZAE (rQ F.entry_proto_collect ?_));rw[KJ F.plain_proto_collect _];show wpAny _ A.in1 (newList [] >>= λl=>again (.builtin "list.__iadd__" ⟨[l,.ref S],[]⟩)) _ _ s;refine dP (r6 ?_);refine k4 ⟨ZA2 YJ _,rQ F.entry_list_iadd ?_⟩;rw[KJ YJ _];generalize x:({ cls:=.type "list", data:=.seq ([]:List Value).toArray }:Obj)=so;have D:Ab prog w (s.heap.push so) S f n:=r.keep λo e=>Aj _ e;have U:(s.heap.push so).get? s.heap.objs.size=some so:=B1 _ (by rw[<- x];rfl);have sz:(s.heap.push so).objs.size=s.heap.objs.size+1:=C2 ..;have u:Shared.TypeIs { s with heap:=s.heap.push so } (.ref S) "set" := by obtain⟨o,_,_,_,ho,j,_⟩:=D;exact⟨o,ho,j.1⟩
 have h1:Builtin.List.listSameRef (.ref s.heap.objs.size) (.ref S)=false:=by simp[Builtin.List.listSameRef,y]
 show wpAny _ A.in1 (Builtin.List.listExtendWith (.ref s.heap.objs.size) (.ref S) (.ref s.heap.objs.size)) _ _ { s with heap:=s.heap.push so }
 unfold Builtin.List.listExtendWith;refine dP (ZAm u ?_);rw[mD (by rw[h1];decide)];refine dP (vn (s:={ s with heap:=s.heap.push so }) D λI h2 d fp vs c St W Kd JA R Y kp Kc tl L=>?_)
 have C:s.heap.objs.size∉fp:=λg=>by
  rcases JA _ g with z|⟨z,_⟩
  .exact y z
  .have K:(s.heap.push so).objs.size<=s.heap.objs.size:=z;rw[sz]at K;omega
 have m:Shared.TypeIs { s with heap:=h2,drawn:=d } (.ref S) "set" := by obtain⟨o,ho,P⟩:=u;exact⟨o,kp _ _ ho,P⟩
 refine dP (qY ?_);unfold Builtin.List.listLengthHint;refine dP (ZBY m ix ?_);generalize B:("set.__len__":String)=VA
 wp_delta
 rw[show splitId VA=some ("set","__len__")from by subst B;decide +kernel];subst B;refine dP (uh (b:=true) m (by rw[wB];kernel_rfl) ?_);rw[mD (by decide)];refine ZAb (λ_=>?_) (λBw=>absurd (by decide +kernel) Bw);refine dP (ZAm m ?_);refine k4 ?_;refine ZAb (λ_=>?_) (λBw=>absurd (by decide +kernel) Bw);refine dP (xU ?_);refine dP ?_;show wpAny _ _ (updateSeq s.heap.objs.size (·.push .none) >>= λ_=>updateSeq s.heap.objs.size (·.pop)) _ _ _
 have J:(#[]:Array Value).size<=sizeLine:=Bm _;have p:((#[]:Array Value).push Value.none).size<=sizeLine:=by show 1<=sizeLine;decide
 have H:((#[]:Array Value).push Value.none).size<=sizeLine+1:=Lr p;have G:(((#[]:Array Value).push Value.none).pop).size<=sizeLine+1:=Bm _;have t:=kp _ _ U;subst x;refine dP (ZAW (s:={ s with heap:=h2,drawn:=d }) t rfl ?_ J H)
 have q:=II (Obj.mapSeq (·.push Value.none)) t rfl
 refine ZAW q rfl ?_ p G;have M:=II (Obj.mapSeq (·.pop)) q rfl
 have v:∀b o,b≠s.heap.objs.size->h2.get? b=some o->((h2.update s.heap.objs.size (Obj.mapSeq (·.push Value.none))).update s.heap.objs.size (Obj.mapSeq (·.pop))).get? b=some o:=
  λb o a e=>(KL _ _ (Bh a)).trans ((KL _ _ (Bh a)).trans e)
 refine k4 ⟨ZA2 ZD1 _,codeAny_extend_loopS (W A.in1 hh).toS O _ C _ n 0 _ #[] _ rfl (Bm _) ?_ M (ItemsOf.nil _) λs' Ik c' g DV BB=>?_⟩
 .exact(W A.in1 hh).frame 0 h2 _ Kd λb a o e=>v b o (λz=>C (z▸a)) e
 .show wpAny _ A (load s.heap.objs.size >>= _) _ _ s';refine dP (ZAo DV ?_);have T:Ik.toList=vs:=by
   have N:vs.length=n:=(StrsAre.len Kc).trans tl;refine PN λi=>?_
   by_cases hi:i<n
   .have h1:Ik[i]?=some (Ik[i]'(by rw[BB.1];exact hi)):=IG _;rw[Lm,h1];exact(BB.2 i _ h1).symm
   .rw[KP (by rw[C9,BB.1];omega),KP (by omega)]
  refine k4 ?_;rw[<- T]at Kc;refine h s' Ik.toList c (λb o e=>?_) (Gu (AU DV)) g.gens g.os Kc tl L;have a:b<s.heap.objs.size:=AU e;refine g.heap b o ?_ (v b o (An a) (kp b o (Aj _ e)));simp only[CK,BH,su,ZBV];refine⟨An a,?_⟩;have V:s.heap.objs.size+1<=I:=by rw[<- sz];exact R
  exact An (CS a (ZCr V))
variable{R:Result->Shared->Prop}{wr:List Addr}{G:Array GenState->Array GenState->Prop}{P:Nat->Value->Prop}{St:Nat->Shared->Prop}
theorem ZBO(W:WalksS prog w A.in1 I fp wr G ss.length P St)(S:Addr)(FC:S∉fp)(L7:∀i v,P i v->∃(h:i<ss.length)(t:Tok),v=.str ss[i] t)(a:ss.length+1<scanBound):
  ∀(k i:Nat)(s:Shared),ss.length - i=k->i<=ss.length->St i s->Ab prog w s.heap S (λk'=>(dd (ss.take i)).any (· == k')) (dd (ss.take i)).length->
   (∀s',Moved (S::wr) G s s'->Ab prog w s'.heap S (λk'=>(dd ss).any (· == k')) (dd ss).length->R (.ok (.ret .none)) s')->
   codeAny (model prog w) A (.builtin "set.update.loop" ⟨[.ref S,.ref I],[]⟩) R s:=by
 have r:S∉wr:=λh=>FC (W.sub _ h);have j:∀{s s':Shared}{f:Str->Bool}{m:Nat},Moved wr G s s'->Ab prog w s.heap S f m->Ab prog w s'.heap S f m:=λc d=>d.keep λo ho=>c.heap S _ r ho;intro k
 induction k with
 |zero=>
  intro i s hk hi Ef d fin;have e:i=ss.length:=by omega
  subst e;refine rQ Yp ?_;rw[KJ Ph _];show wpAny _ A.in1 (pyNext (.ref I) >>= _) _ _ s;refine dP (W.done s _ _ Ef λs' c=>?_);show wpAny _ A.in1 (ret Value.none) _ _ s';rw[Ei]at d;exact k4 (fin s' (c.mono λb a=>BG _ a) (j c d))
 |succ k l=>
  intro i s hk hi Ef d fin;have g:i<ss.length:=by omega
  refine rQ Yp ?_;rw[KJ Ph _];show wpAny _ A.in1 (pyNext (.ref I) >>= _) _ _ s;refine dP (W.item i s _ _ g Ef λv s' n XS c=>?_);obtain⟨_,t,rfl⟩:=L7 i v n;have x:=j c d;show wpAny _ A.in1 (holding [Value.str ss[i] t] (setAdd S (.str ss[i] t)) >>= _) _ _ s';refine dP (qY ?_);unfold setAdd;have q:(PySem.strKind prog w).is ss[i] (.str ss[i] t)=true:=Yq prog w ss[i] t;refine qY (dP ((PySem.strKind prog w).pyHash q ?_));have u:(dd (ss.take i)).length+1<scanBound:=by
   have:=Xg (ss.take i);rw[Cj]at this;omega
  refine Ab.put (s:={ s' with toks:=s'.toks+1 }) x u λh' HE Ig=>?_
  have p:Ab prog w h' S (λk'=>(dd (ss.take (i+1))).any (· == k')) (dd (ss.take (i+1))).length:=
   Ig.congr (λk'=>by rw[iP ss i g,ua]) (by rw[iP ss i g,cE])
  refine k4 ⟨ZA2 Ph _,l (i+1) _ (by omega) g (W.frame _ s' _ _ XS (DH _) λb a o e=>?_) p λJM W5 VS=>?_⟩
  .rw[HE.2 b (by rintro rfl;exact FC a)];exact e
  .refine fin JM (Moved.trans W.gtrans ((c.mono λb a=>BG _ a).then_heap (DH _) λb o a e=>?_) W5) VS;rw[HE.2 b (by rintro rfl;exact a Ar)];exact e
theorem cq(a:Value)
  (h:Q₁ (.ref s.heap.objs.size) { s with heap:=s.heap.push { cls:=.type "set", dict:=none,data:=.set #[] 0 (.fresh 0 0 (!BV w)) } }) :
  codeAny (model prog w) A (.call (.builtin "set.__new__") ⟨[.type "set", a],[]⟩) (wants Q₁ E) s:=by
 refine ZBd ?_;show wpAny _ A.in1 (do checkBuiltinCall "set.__new__" ⟨[.type "set", a],[]⟩;again (.builtin "set.__new__" ⟨[.type "set", a],[]⟩)) _ _ s
 refine dP (rC (PySem.F.newCall_set_1 a) ?_);refine k4 ⟨ZA2 ZD2 _,rQ PySem.F.entry_set_new ?_⟩;rw[KJ ZD2 _];unfold Builtin.«set.__new__» Builtin.Frozenset.newClass;have c:isSubtype (.type "set") (.type "set")=pure true:=by rw[wB];kernel_rfl
 obtain⟨b,g,d,tk,os⟩:=s;dsimp only
 wp_walk
 refine rB (k4 ?_);dsimp only;simp only[newObj];refine dP (wpAny_alloc (k4 ?_));exact k4 h
theorem Zi{l:Addr}{T:String}{q:Option Addr}{Em:Array (Option Value)}(ho:s.heap.get? l=some { cls:=.type T,dict:=q,data:=.seq items nl,slots:=Em })
  (kl:isSubtype (.type T) (.type "set")=pure false) (Cz:isSubtype (.type T) (.type "frozenset")=pure false) (Af:(Value.type T == Value.type "dict")=false) (hb:ss.length+1<scanBound)
  (hit:∀(s1:Shared)(A1:Around)(Q1:Value->Shared->Prop),A1.handled=A.handled->s1.heap.get? l=s.heap.get? l->l<s1.heap.objs.size->
   (∀f St P,WalksS prog w A1.in1 s1.heap.objs.size [s1.heap.objs.size,l] [s1.heap.objs.size] (λa b=>b=a) ss.length P St->(∀i v,P i v->∃(h:i<ss.length)(t:Tok),v=.str ss[i] t)->St 0 { s1 with heap:=s1.heap.push f }->Q1 (.ref s1.heap.objs.size) { s1 with heap:=s1.heap.push f })->
   wpAny (model prog w) A1 (pyIter (.ref l)) Q1 E s1)
  (h:∀(h':Heap)(tk:Nat),Ab prog w h' s.heap.objs.size (λk'=>(dd ss).any (· == k')) (dd ss).length->(∀b o,b<s.heap.objs.size->s.heap.get? b=some o->h'.get? b=some o)->Q (.ref s.heap.objs.size) { s with heap:=h',toks:=tk }) :
  wpAny (model prog w) A (call (.type "set") [.ref l]) Q E s:=by
 have x:l<s.heap.objs.size:=AU ho;obtain⟨c,tl,N⟩:=PySem.F.called_set.mro;have O:=PySem.F.called_set.made;have V:=PySem.F.called_set.sub;refine wpAny_call (ZBd (by
  show wpAny _ _ (callAny (.type "set") _) _ _ _;refine k4 ⟨jD _ (by decide +kernel),rQ ZD0 ?_⟩;rw[Around.under_plain (weight_type_call_type "set" [.ref l] []) rfl];have h1:=PySem.F.called_set.notType;have h2:=PySem.F.called_set.canCreate;have C:=ZD6 (.ref l)
  repeat (any_goals (first|assumption|wp_step))
  refine zN (cq (.ref l) (E:=E) (Q₁:=λobj s₁=>obj=.ref s.heap.objs.size/\s₁={ s with heap:=s.heap.push { cls:=.type "set", dict:=none,data:=.set #[] 0 (.fresh 0 0 (!BV w)) } }) ⟨rfl,rfl⟩) λr s₁ j=>?_
  cases r with
  |error e=>exact j
  |ok G=>
   cases G with
   |ret obj=>
    obtain⟨rfl,rfl⟩:=j;generalize n:({ cls:=.type "set", dict:=none,data:=.set #[] 0 (.fresh 0 0 (!BV w)) }:Obj)=so;have hsz:(s.heap.push so).objs.size=s.heap.objs.size+1:=C2 ..;have u:(s.heap.push so).get? s.heap.objs.size=some so:=B1 _ (by rw[<- n];rfl);have D:Shared.TypeIs { s with heap:=s.heap.push so } (.ref s.heap.objs.size) "set" := ⟨_,u,by rw[<- n]⟩
    have U:=PySem.F.called_set.init.lookup;have S:=PySem.F.called_set.init.bind (.ref s.heap.objs.size)
    repeat (any_goals (first|assumption|wp_step))
    refine zN (codeAny_call_builtin (R:=wants (λr p=>r=.none/\∃h' tk,p={ s with heap:=h',toks:=tk }/\Ab prog w h' s.heap.objs.size (λk'=>(dd ss).any (· == k')) (dd ss).length/\
      (∀b o,b<s.heap.objs.size->s.heap.get? b=some o->h'.get? b=some o)) E) PySem.F.called_set.init.plain ZCz (check_set_init_1 D ?_)) λy p d=>?_
    .have M:(s.heap.push so).get? l=some { cls:=.type T,dict:=q,data:=.seq items nl,slots:=Em }:=Aj _ ho;subst n;unfold Builtin.«set.__init__» noKeywords Builtin.Frozenset.updateFrom;generalize K:pyIter=PI
     wp_walk
     subst K;refine hit { s with heap:=s.heap.push _ } _ _ rfl (M.trans ho.symm) (ZCs (Ej x) hsz.symm) λf St P W L7 Kd=>?_
     refine dP (ZAE ?_);have L:s.heap.objs.size∉[(s.heap.push { cls:=.type "set", dict:=none,data:=.set #[] 0 (.fresh 0 0 (!BV w)) }).objs.size,l]:=by
      rw[hsz];simp only[CK,BH,su,ZBV];exact⟨An (IL _),DQ x⟩
     refine ZBO W s.heap.objs.size L L7 hb (ss.length - 0) 0 _ rfl (Bm _) Kd ?_ ?_
     .have z:=Aj f u;exact⟨_,#[],0,_,z,⟨rfl,rfl,rfl⟩,rfl,λe B=>by simp at B,λk=>by simp[dd],by decide,by rfl,rfl,rfl,λh=>absurd h (by simp)⟩
     .intro s' g DV;obtain⟨h',g',d',Wu,Nt⟩:=s';have I:g'=s.gens:=g.gens;have J:d'=s.drawn:=g.drawn;have H:Nt=s.os:=g.os;subst I;subst J;subst H;show wpAny _ _ _ _ _ _;refine k4 ?_;show wpAny _ _ (ret Value.none) _ _ _;refine k4 ⟨rfl,h',Wu,rfl,DV,λb o Bd e=>?_⟩;refine g.heap b o ?_ (Aj _ (Aj _ e));rw[hsz];simp only[CK,BH,su,ZBV];exact⟨An Bd,An (Ej Bd)⟩
    .cases y with
     |error e=>exact d
     |ok m=>
      cases m with
      |ret r=>
       obtain⟨rfl,h',tk,rfl,DV,IC⟩:=d
       repeat (any_goals (first|assumption|wp_step))
       exact h _ _ DV IC
      |_=>exact d.elim
   |_=>exact j.elim))
end
noncomputable def DD(P:Program)(w:World)(a:Addr)(f:Str->Bool)(n:Nat):HO:=.ext λh=>Ab P w h a f n
theorem OS(t:X.calm=true):Bk X (.type "set") (λxs H Q=>∃(p:Addr)(tp:Bool)(ss:List Str),xs=[.ref p]/\C1 X.K tp H p (ss.map V.str)/\ss.length<4000/\
  ∀l,H l=none->Q (.ref l) (upd H l (DD X.prog X.w l (λk'=>(dd ss).any (· == k')) (dd ss).length))):=by
 intro Zd s Z H xs us Q I r h;obtain⟨p,tp,ss,rfl,m,B,q⟩:=h;obtain⟨u,rfl,z⟩:=vals1 r;cases z;have x:ss.length+1<scanBound:=by unfold scanBound;omega
 have fin:∀(h':Heap)(tk:Nat),Ab X.prog X.w h' s.heap.objs.size (λk'=>(dd ss).any (· == k')) (dd ss).length->(∀b o,b<s.heap.objs.size->s.heap.get? b=some o->h'.get? b=some o)->
   EP X Zd Z Q (.ref s.heap.objs.size) { s with heap:=h',toks:=tk }:=λh' tk y kp=>by
  refine⟨.ref s.heap.objs.size,_,I.laid (t':=tk) (λb o e=>kp b o (AU e) e) (Aa _) (show Bx X.prog X.w _ h' _ (DD X.prog X.w s.heap.objs.size _ _)from⟨y,?_,λh1 h2 EW GA=>?_⟩),rfl,q _ (I.AG.fresh (Aa _))⟩
  .obtain⟨o,_,_,_,ho,_⟩:=y;exact⟨o,ho⟩
  .exact EW.keep GA
 cases tp with
 |false=>
  obtain⟨A3,a,pl,Li⟩:=I.list m;have f:=a.length;rw[AA]at f;obtain⟨⟨c,d,dt,sl⟩,n,ho,Bn,hd,Fh⟩:=id pl;simp only at Bn hd Fh;subst Bn;subst hd;subst Fh;refine Zi ho ZD5 ZD4 (by decide) x (λs1 A1 Q1 j e1 l1 LY=>?_) fin;have g:s1.heap.IsList p A3.toArray:=⟨_,e1.trans ho,rfl,n,rfl⟩;have k:A3.toArray.size=ss.length:=List.size_toArray.trans f.symm;refine z9 g (LY _ (λi s=>s.heap.IsListIter s1.heap.objs.size p i/\s.heap.IsList p A3.toArray) (λi v=>A3.toArray[i]?=some v) (by
   have W:=(Yr (prog:=X.prog) (w:=X.w) (A:=A1.in1) (by rw[PJ,j];exact I.ok.hd t) s1.heap.objs.size p (An l1) A3.toArray).toS;rw[k]at W;exact W) (λi v e=>fc a (by simpa using e)) ⟨⟨_,B1 _ rfl,rfl,rfl⟩,g.push _⟩)
 |true=>
  obtain⟨A3,a,pl,Li⟩:=I.tuple m;have f:=a.length;rw[AA]at f;obtain⟨⟨c,d,dt,sl⟩,ho,Bn,n,Fh⟩:=id pl;simp only at Bn Fh;subst Bn;subst Fh;refine Zi ho sub_tuple_set sub_tuple_frozenset (by decide) x (λs1 A1 Q1 j e1 l1 LY=>?_) fin;have g:s1.heap.IsTuple p A3.toArray:=⟨_,e1.trans ho,rfl,n,rfl⟩;have k:A3.toArray.size=ss.length:=List.size_toArray.trans f.symm;refine xY g (LY _ (λi s=>s.heap.IsTupleIter s1.heap.objs.size p i/\s.heap.IsTuple p A3.toArray) (λi v=>A3.toArray[i]?=some v) (by
   have W:=(Walks.tuple (prog:=X.prog) (w:=X.w) (A:=A1.in1) (by rw[PJ,j];exact I.ok.hd t) s1.heap.objs.size p (An l1) A3.toArray).toS;rw[k]at W;exact W) (λi v e=>fc a (by simpa using e)) ⟨⟨_,B1 _ rfl,rfl,rfl⟩,?_⟩)
  exact⟨_,Aj _ (e1.trans ho),rfl,n,rfl⟩
theorem Inv.drew(I:Inv X Zd Z H s)(d:Drawn):Inv X Zd Z H { s with drawn:=d }:=
 I.step (h':=s.heap) (g':=s.gens) (t':=s.toks) (d':=d) (ch:=[]) (λ_ z=>nomatch z) (λb o _ _ _ e _=>e) (λb o _ _ _ e _=>⟨o.slots,e⟩) (λ_ _ _ _ n=>n) (λb o _ e=>⟨o,e⟩) (λ_ _ e=>e) (λ_ _ _ e=>e) (λm a=>a) I.AG I.bare
theorem gN{l:Addr}{Q:List Value->Shared->Prop}(a:IsTup s.heap l vs.toArray)(h:Q vs { s with heap:=(s.heap.push (seqObj "list" #[] 0)).update s.heap.objs.size (Obj.mapSeq (·++vs.toArray)) })(hsz:vs.length<=sizeLine):
  wpAny (model prog w) A (collect (.ref l)) Q E s:=by
 obtain⟨o,ho,b,n,hd⟩:=id a;unfold collect;refine dP (ZAE (rQ entry_proto_collect' ?_));show wpAny _ _ (newList [] >>= λx=>again (.builtin "list.__iadd__" ⟨[x,.ref l],[]⟩)) _ _ s;refine dP (ZAT ?_);refine k4 ⟨jD _ (by decide +kernel),rQ entry_list_iadd' ?_⟩;show wpAny _ _ (Builtin.List.listExtendWith (.ref s.heap.objs.size) (.ref l) (.ref s.heap.objs.size)) _ _ { s with heap:=s.heap.push (seqObj "list" #[] 0) }
 unfold Builtin.List.listExtendWith;have g:(s.heap.push (seqObj "list" #[] 0)).get? l=some o:=Aj _ ho;refine dP (ZAm (T:="tuple") ⟨o,g,b⟩ ?_);rw[p7 (by simp)];refine dP (listItems_at g hd ?_);refine dP (listItems_at (xs:=#[]) (n:=0) (B1 _ rfl) rfl ?_);rw[mD (by simp)];refine dP (listUpdate_at (xs:=#[]) (n:=0) (B1 _ rfl) rfl ?_ (Bm _) (by show(#[]++vs.toArray).size<=sizeLine+1;simp only[Array.size_append,Bu,KR];omega));refine k4 ?_;show wpAny (model prog w) A (load s.heap.objs.size >>= λo=>(match o.data with | .seq xs _=>pure xs.toList|_=>unsupported "internal:collect")) Q E _
 refine dP (ZAo (get?_update_seq (B1 _ rfl) _) ?_);show wpAny _ _ (pure ((#[]:Array Value)++vs.toArray).toList) Q E _;have e:((#[]:Array Value)++vs.toArray).toList=vs:=by simp
 rw[e];exact k4 h
theorem ZP(i:∀(A1:Around)(E1:Value->Shared->Prop)(Q1:List Value->Shared->Prop),A1.handled=A.handled->(∀vs s1,Pc vs s1->Q1 vs s1)->wpAny (model prog w) A1 (collect v) Q1 E1 s)
  (h:∀vs s1,Pc vs s1->vs.length<64/\∃ss,StrsAre vs ss/\∀out A6 e h',(∀b o,s1.heap.get? b=some o->h'.get? b=some o)->h'.get? s1.heap.objs.size=some (seqObj "list" out e)->StrsAre out.toList A6->A6.Perm ss->sortedS A6=true->Q (.ref s1.heap.objs.size) { s1 with heap:=h' }) :
  wpAny (model prog w) A (call (.builtin "sorted") [v]) Q E s:=by
 refine ZCM kind_sorted plain_sorted entry_sorted (args_sorted1 _) ?_;unfold Builtin.«sorted»;refine dP (m:=checkCount "sorted" 1 1 _) (k4 ?_);refine dP (i _ _ _ rfl λvs s1 f=>?_);obtain⟨By,ss,Jy,k⟩:=h vs s1 f;refine dP (ZAT ?_);have a:(s1.heap.push (seqObj "list" vs.toArray 0)).get? s1.heap.objs.size=some (seqObj "list" vs.toArray 0):=B1 _ rfl;refine dP (qY (qf slot_list_sort ⟨_,a,rfl⟩ entry_list_sort (list_sort_treeK (s:={ s1 with heap:=s1.heap.push (seqObj "list" vs.toArray 0) }) strKind_oneLt a Jy.keysOf (λq p rest e=>keyKind_strs (by rw[<- e];exact Jy)) By λFY a1 a2=>⟨_,rfl,?_⟩) (args_list_sort _)))
 obtain⟨A6,n,l,j⟩:=sorted_out_str Jy a1 a2;obtain⟨e,g⟩:=sortedHeap_at (out:=(arrOf FY).map (·.2)) a
 refine k4 ⟨_,rfl,k _ A6 e _ (λb o c=>?_) g n l j⟩;have d:=AU c;rw[sortedHeap_old (An d) (by rw[C2];exact Ej d)];exact Aj _ c
theorem il:∀{ss:List Str}{us:List Value},Vals (ss.map V.str) us->StrsAre us ss
 | [],_,.nil=>.nil
 |x::r,_,.cons ⟨t,e⟩ h=>by rw[e];exact .cons x t (il h)
theorem bu:∀{ss:List Str}{us:List Value},StrsAre us ss->Vals (ss.map V.str) us
 |_,_,.nil=>.nil
 |_,_,.cons x t h=>.cons ⟨t,rfl⟩ (bu h)
theorem aU{Q:VK}(I:Inv X Zd Z H s)(d:s1.gens=s.gens)(ho:s1.os=s.os)(hk:∀b o,s.heap.get? b=some o->s1.heap.get? b=some o)(c:s.heap.objs.size<=s1.heap.objs.size)
  {out:Array Value}{e:Nat}(kp:∀b o,s1.heap.get? b=some o->h'.get? b=some o) (f:h'.get? s1.heap.objs.size=some (seqObj "list" out e)) (g:StrsAre out.toList A6) (By:A6.length<64)
  (q:∀l,H l=none->Q (.ref l) (upd H l (.lst (A6.map V.str)))):EP X Zd Z Q (.ref s1.heap.objs.size) { s1 with heap:=h' }:=by
 obtain⟨h1,g1,h,t1,i⟩:=s1;simp only at d ho hk c kp f;subst d;subst ho;refine⟨.ref _,_,(I.drew h).laid (a:=h1.objs.size) (h':=h') (t':=t1) (o:=.lst (A6.map V.str)) (λb o q=>kp b o (hk b o q)) c ?_,rfl,q _ (I.AG.fresh c)⟩;refine⟨?_,out.toList,e,bu g,by simpa[seqObj]using f⟩
 rw[AA];exact CL (Gu By) (by decide +kernel)
def M5(K:ZDv):List V->Hp->VK->Prop:=λxs H Q=>∃(p:Addr)(tp:Bool)(ss:List Str),xs=[.ref p]/\C1 K tp H p (ss.map V.str)/\ss.length<64/\∀l A6,H l=none->A6.Perm ss->sortedS A6=true->Q (.ref l) (upd H l (.lst (A6.map V.str)))
theorem Lg:Bk X (.builtin "sorted") (M5 X.K):=by
 intro Zd s Z H xs us Q I r h;obtain⟨p,tp,ss,rfl,d,By,q⟩:=h;obtain⟨u,rfl,i⟩:=vals1 r;cases i;have key:∀A3:List Value,Vals (ss.map V.str) A3->(∀(A1:Around)(E1:Value->Shared->Prop)(Q1:List Value->Shared->Prop),Q1 A3 { s with heap:=(s.heap.push (seqObj "list" #[] 0)).update s.heap.objs.size (Obj.mapSeq (·++A3.toArray)) }->wpAny (model X.prog X.w) A1 (collect (.ref p)) Q1 E1 s)->
   wpAny (model X.prog X.w) X.A (call (.builtin "sorted") [.ref p]) (EP X Zd Z Q) X.xe s:=by
  intro A3 c W3;have a:=c.length;rw[AA]at a;refine ZP (Pc:=λvs s1=>vs=A3/\s1={ s with heap:=(s.heap.push (seqObj "list" #[] 0)).update s.heap.objs.size (Obj.mapSeq (·++A3.toArray)) }) (λA1 E1 Q1 _ k=>W3 A1 E1 Q1 (k _ _ ⟨rfl,rfl⟩)) ?_
  rintro vs s1⟨rfl,rfl⟩;refine⟨by omega,ss,il c,λout A6 e h' kp t v f m=>?_⟩;refine aU (s1:={ s with heap:=(s.heap.push (seqObj "list" #[] 0)).update s.heap.objs.size (Obj.mapSeq (·++vs.toArray)) }) I rfl rfl (λb o g=>?_) (by show s.heap.objs.size<=((s.heap.push (seqObj "list" #[] 0)).update s.heap.objs.size (Obj.mapSeq (·++vs.toArray))).objs.size;rw[YN,C2];exact DH _) kp t v (by rw[f.length_eq];exact By) λl n=>q l A6 n f m
  show((s.heap.push _).update _ _).get? b=some o;rw[YM _ _ _ _ (An (AU g))];exact Aj _ g
 cases tp with
 |false=>
  obtain⟨A3,c,pl,j⟩:=I.list d;have a:=c.length;exact key A3 c λA1 E1 Q1 k=>collect_list pl.isList k (by omega)
 |true=>
  obtain⟨A3,c,pl,j⟩:=I.tuple d;have a:=c.length;exact key A3 c λA1 E1 Q1 k=>gN pl k (by omega)
def ma(P:Program)(w:World):List V->Hp->VK->Prop:=λxs H Q=>∃(p:Addr)(f:Str->Bool)(n:Nat),xs=[.ref p]/\H p=some (DD P w p f n)/\n<64/\∀l a,H l=none->a.length=n->(∀k,f k=true↔k∈a)->sortedS a=true->Q (.ref l) (upd H l (.lst (a.map V.str)))
theorem uV(z:X.calm=true):Bk X (.builtin "sorted") (ma X.prog X.w):=by
 intro Zd s Z H xs us Q I r h;obtain⟨p,f,n,rfl,C,By,q⟩:=h;obtain⟨u,rfl,t⟩:=vals1 r;cases t;have B:Ab X.prog X.w s.heap p f n:=(I.AG p _ C).1;have hh:X.A.handled=none:=I.ok.hd z;refine ZP (Pc:=λvs s1=>∃a,(∀b o,s.heap.get? b=some o->s1.heap.get? b=some o)/\s.heap.objs.size<=s1.heap.objs.size/\s1.gens=s.gens/\s1.os=s.os/\StrsAre vs a/\a.length=n/\(∀k,f k=true↔k∈a)) (λA1 E1 Q1 D k=>?_) ?_
 .exact pI (D.trans hh) B (CL (Gu By) (by decide +kernel)) λs' vs a a1 a2 m j d c i=>k vs s' ⟨a,a1,a2,m,j,d,c,i⟩
 .rintro vs s1⟨a,a1,a2,m,j,d,c,i⟩;refine⟨by rw[StrsAre.len d,c];exact By,a,d,λout A6 e h' kp y DV g v=>?_⟩;exact aU I m j a1 a2 kp y DV (by rw[g.length_eq,c];exact By) λl x=>q l A6 x (g.length_eq.trans c) (λk=>(i k).trans g.mem_iff.symm) v
theorem eX(i:∀(A1:Around)(E1:Value->Shared->Prop)(Q1:List Value->Shared->Prop),A1.handled=A.handled->(∀vs s1,Pc vs s1->Q1 vs s1)->wpAny (model prog w) A1 (collect v) Q1 E1 s)
  (h:∀vs s1,Pc vs s1->vs.length<64/\∃ns,IntsAre vs ns/\∀out D1 e h',(∀b o,s1.heap.get? b=some o->h'.get? b=some o)->h'.get? s1.heap.objs.size=some (seqObj "list" out e)->IntsAre out.toList D1->D1.Perm ns->D1.Pairwise (·<=·)->Q (.ref s1.heap.objs.size) { s1 with heap:=h' }) :
  wpAny (model prog w) A (call (.builtin "sorted") [v]) Q E s:=by
 refine ZCM kind_sorted plain_sorted entry_sorted (args_sorted1 _) ?_;unfold Builtin.«sorted»;refine dP (m:=checkCount "sorted" 1 1 _) (k4 ?_);refine dP (i _ _ _ rfl λvs s1 f=>?_);obtain⟨By,ns,Jy,k⟩:=h vs s1 f;refine dP (ZAT ?_);have a:(s1.heap.push (seqObj "list" vs.toArray 0)).get? s1.heap.objs.size=some (seqObj "list" vs.toArray 0):=B1 _ rfl;refine dP (qY (qf slot_list_sort ⟨_,a,rfl⟩ entry_list_sort (list_sort_tree (s:={ s1 with heap:=s1.heap.push (seqObj "list" vs.toArray 0) }) a Jy By λout D1 n l j=>⟨_,rfl,?_⟩) (args_list_sort _)))
 obtain⟨e,g⟩:=sortedHeap_at (out:=out) a;refine k4 ⟨_,rfl,k _ D1 e _ (λb o c=>?_) g n l j⟩;have d:=AU c;rw[sortedHeap_old (An d) (by rw[C2];exact Ej d)];exact Aj _ c
theorem dD:∀{ss:List Int}{us:List Value},Vals (ss.map V.int) us->IntsAre us ss
 | [],_,.nil=>.nil
 |x::r,_,.cons ⟨t,e⟩ h=>by rw[e];exact .cons x t (dD h)
theorem dG:∀{ss:List Int}{us:List Value},IntsAre us ss->Vals (ss.map V.int) us
 |_,_,.nil=>.nil
 |_,_,.cons x t h=>.cons ⟨t,rfl⟩ (dG h)
theorem ZC{Q:VK}(I:Inv X Zd Z H s)(d:s1.gens=s.gens)(ho:s1.os=s.os)(hk:∀b o,s.heap.get? b=some o->s1.heap.get? b=some o)(c:s.heap.objs.size<=s1.heap.objs.size)
  {out:Array Value}{A6:List Int}{e:Nat}(kp:∀b o,s1.heap.get? b=some o->h'.get? b=some o) (f:h'.get? s1.heap.objs.size=some (seqObj "list" out e)) (g:IntsAre out.toList A6) (By:A6.length<64)
  (q:∀l,H l=none->Q (.ref l) (upd H l (.lst (A6.map V.int)))):EP X Zd Z Q (.ref s1.heap.objs.size) { s1 with heap:=h' }:=by
 obtain⟨h1,g1,h,t1,i⟩:=s1;simp only at d ho hk c kp f;subst d;subst ho;refine⟨.ref _,_,(I.drew h).laid (a:=h1.objs.size) (h':=h') (t':=t1) (o:=.lst (A6.map V.int)) (λb o q=>kp b o (hk b o q)) c ?_,rfl,q _ (I.AG.fresh c)⟩;refine⟨?_,out.toList,e,dG g,by simpa[seqObj]using f⟩
 rw[AA];exact CL (Gu By) (by decide +kernel)
def hZ(K:ZDv):List V->Hp->VK->Prop:=λxs H Q=>∃(p:Addr)(tp:Bool)(ss:List Int),xs=[.ref p]/\C1 K tp H p (ss.map V.int)/\ss.length<64/\∀(l:Addr)(A6:List Int),H l=none->A6.Perm ss->A6.Pairwise (·<=·)->Q (.ref l) (upd H l (.lst (A6.map V.int)))
theorem kQ:Bk X (.builtin "sorted") (hZ X.K):=by
 intro Zd s Z H xs us Q I r h;obtain⟨p,tp,ss,rfl,d,By,q⟩:=h;obtain⟨u,rfl,i⟩:=vals1 r;cases i;have key:∀A3:List Value,Vals (ss.map V.int) A3->(∀(A1:Around)(E1:Value->Shared->Prop)(Q1:List Value->Shared->Prop),Q1 A3 { s with heap:=(s.heap.push (seqObj "list" #[] 0)).update s.heap.objs.size (Obj.mapSeq (·++A3.toArray)) }->wpAny (model X.prog X.w) A1 (collect (.ref p)) Q1 E1 s)->
   wpAny (model X.prog X.w) X.A (call (.builtin "sorted") [.ref p]) (EP X Zd Z Q) X.xe s:=by
  intro A3 c W3;have a:=c.length;rw[AA]at a;refine eX (Pc:=λvs s1=>vs=A3/\s1={ s with heap:=(s.heap.push (seqObj "list" #[] 0)).update s.heap.objs.size (Obj.mapSeq (·++A3.toArray)) }) (λA1 E1 Q1 _ k=>W3 A1 E1 Q1 (k _ _ ⟨rfl,rfl⟩)) ?_
  rintro vs s1⟨rfl,rfl⟩;refine⟨by omega,ss,dD c,λout A6 e h' kp t v f m=>?_⟩;refine ZC (s1:={ s with heap:=(s.heap.push (seqObj "list" #[] 0)).update s.heap.objs.size (Obj.mapSeq (·++vs.toArray)) }) I rfl rfl (λb o g=>?_) (by show s.heap.objs.size<=((s.heap.push (seqObj "list" #[] 0)).update s.heap.objs.size (Obj.mapSeq (·++vs.toArray))).objs.size;rw[YN,C2];exact DH _) kp t v (by rw[f.length_eq];exact By) λl n=>q l A6 n f m
  show((s.heap.push _).update _ _).get? b=some o;rw[YM _ _ _ _ (An (AU g))];exact Aj _ g
 cases tp with
 |false=>
  obtain⟨A3,c,pl,j⟩:=I.list d;have a:=c.length;exact key A3 c λA1 E1 Q1 k=>collect_list pl.isList k (by omega)
 |true=>
  obtain⟨A3,c,pl,j⟩:=I.tuple d;have a:=c.length;exact key A3 c λA1 E1 Q1 k=>gN pl k (by omega)
end L2
namespace HT
open AutoSeq1 (wpAny_loadPart')
variable{prog:Program}{w:World}{A:Around}{E Q:Value->Shared->Prop}{it tu:Addr}{i:Nat}{old v:Value}
theorem rR(tu:Addr)(vals:Array Value)(k:Nat)(e:Option Addr)(Te:Array (Option Value)):
  Meets (Builtin.«enumerate.__new__» ⟨[.type "enumerate",.ref tu],[]⟩) (λ_ R s=>s.heap.get? tu=some { cls:=.type "tuple", dict:=e,data:=.seq vals k,slots:=Te }/\R (.ok (.ret (.ref (s.heap.push { cls:=.type "tuple_iterator", data:=.fields #[.ref tu,.int 0 0] }).objs.size)))
    { s with heap:=(s.heap.push { cls:=.type "tuple_iterator", data:=.fields #[.ref tu,.int 0 0] }).push { cls:=.type "enumerate", data:=.fields #[.none,.bool false,.ref s.heap.objs.size,rawInt 0,.none,.none] } }):=.of_wp λprog w A R s h=>by
 obtain⟨b,g,d,tk,os⟩:=s;obtain⟨ho,h⟩:=h;have f:=sub_enumerate;have a:Heap.IsTuple (Shared.heap ⟨b,g,d,tk,os⟩) tu vals:=⟨_,ho,rfl,k,rfl⟩
 wp_walk using wpAny_loadPart' ho
 refine wpAny_stack_any λi=>k4 ?_;split
 .rename_i c _ _ _ _ _;cases(c == Value.type "enumerate") <;> (wp_walk using wpAny_loadPart' ho,xY a;exact⟨_,rfl,h⟩)
 .wp_walk using wpAny_loadPart' ho,xY a
  exact⟨_,rfl,h⟩
section
variable{s:Shared}
theorem qS{vals:Array Value}(f:s.heap.IsTuple tu vals)
  (q:∀h',IsEnum h' (s.heap.objs.size+1) s.heap.objs.size 0 .none->h'.IsTupleIter s.heap.objs.size tu 0->h'.objs.size=s.heap.objs.size+2->(∀b o,s.heap.get? b=some o->h'.get? b=some o)->Q (.ref (s.heap.objs.size+1)) { s with heap:=h' }) :
  wpAny (model prog w) A (call (.type "enumerate") [.ref tu]) Q E s:=by
 obtain⟨⟨c,g,dt,Te⟩,ho,a,k,hd⟩:=f;replace a:c=.type "tuple" := a;replace hd:dt=.seq vals k:=hd;subst a hd;refine callType_new F.called_enumerate (by decide) (F.typeCall_enumerate_1 _) (F.newCall_enumerate_1 _) (λe=>F.args_object_init_2 e _) F.entry_enumerate_new (rR tu vals k g Te) ⟨ho,?_⟩;have z:(s.heap.push { cls:=.type "tuple_iterator", data:=.fields #[.ref tu,.int 0 0] }).objs.size=s.heap.objs.size+1:=C2 ..;show _/\_;rw[z];have d:IsEnum ((s.heap.push { cls:=.type "tuple_iterator", data:=.fields #[.ref tu,.int 0 0] }).push { cls:=.type "enumerate", data:=.fields #[.none,.bool false,.ref s.heap.objs.size,rawInt 0,.none,.none] }) (s.heap.objs.size+1) s.heap.objs.size 0 .none:=by
  have y:=B1 (s.heap.push { cls:=.type "tuple_iterator", data:=.fields #[.ref tu,.int 0 0] }) (o:={ cls:=.type "enumerate", data:=.fields #[.none,.bool false,.ref s.heap.objs.size,rawInt 0,.none,.none] }) rfl;rw[z]at y;exact y
 exact⟨⟨_,d,rfl⟩,q _ d ⟨_,Aj _ (B1 _ rfl),rfl,rfl⟩ (by rw[C2,z]) λb o y=>Aj _ (Aj _ y)⟩
theorem dr{vals:Array Value}(hi:s.heap.IsTupleIter it tu i)(c:s.heap.IsTuple tu vals)(b:vals[i]?=some v)
  (q:∀h',h'.IsTupleIter it tu (i+1)->Heap.SameBut it s.heap h'->Q v { s with heap:=h' }):wpAny (model prog w) A (Builtin.SmallTypes.nextOf (.ref it)) Q E s:=by
 obtain⟨o,ho,d,hd⟩:=id hi;obtain⟨e,DZ,_,k,a⟩:=c;unfold Builtin.SmallTypes.nextOf;refine dP (rl (name:=Str.ofString "__next__") hi.typeIs YL (qf YL hi.typeIs ZCO ?_ (ZCN _)));show wpAny _ _ (field (.ref it) 0 >>= _) _ _ s;refine dP (zH ho hd (x:=.ref tu) rfl ?_);show wpAny _ _ (if(Value.ref tu == Value.none)=true then _ else _) _ _ s;rw[mD (show ¬ ((Value.ref tu == Value.none)=true)from DO)]
 show wpAny _ _ (field (.ref it) 1 >>= _) _ _ s;refine dP (zH ho hd (x:=.int i 0) rfl ?_);show wpAny _ _ (seqItems? (.ref tu) >>= _) _ _ s;refine dP (ZA6 DZ a ?_);simp only[GG,b];refine dP (xX ho hd (by simp) (k4 ⟨v,rfl,k4 (q _ ?_ (FI ..))⟩));exact⟨_,II _ ho (TJ (JS hd _)),(Yn ..).trans d,by rw[JS hd];simp[rawInt]⟩
theorem Tu{vals:Array Value}(hh:A.handled=none)(hi:s.heap.IsTupleIter it tu i)(d:s.heap.IsTuple tu vals)(c:vals[i]?=none)
  (q:∀h' e,Heap.ExtBut it s.heap h'->(∃o,h'.get? e=some o/\o.cls=.type "StopIteration")->E (.ref e) { s with heap:=h' }):wpAny (model prog w) A (Builtin.SmallTypes.nextOf (.ref it)) Q E s:=by
 obtain⟨o,ho,g,hd⟩:=id hi;obtain⟨f,DZ,_,k,b⟩:=d;unfold Builtin.SmallTypes.nextOf;refine dP (rl (name:=Str.ofString "__next__") hi.typeIs YL (qf YL hi.typeIs ZCO ?_ (ZCN _)));show wpAny _ _ (field (.ref it) 0 >>= _) _ _ s;refine dP (zH ho hd (x:=.ref tu) rfl ?_);show wpAny _ _ (if(Value.ref tu == Value.none)=true then _ else _) _ _ s;rw[mD (show ¬ ((Value.ref tu == Value.none)=true)from DO)]
 show wpAny _ _ (field (.ref it) 1 >>= _) _ _ s;refine dP (zH ho hd (x:=.int i 0) rfl ?_);show wpAny _ _ (seqItems? (.ref tu) >>= _) _ _ s;refine dP (ZA6 DZ b ?_);simp only[GG,c];refine dP (xU (dP (xX ho hd (by simp) ?_)));show wpAny _ _ (newExc (.type "StopIteration") [] >>= _) _ _ _;refine dP ?_;simp only[newExc,newTuple];refine dP (r6 ?_ (by size_fits));refine dP (m:=firstArgMember _ _) (rC (a:=Value.none) (by first|rfl|(simp only[firstArgMember];rfl)) ?_);refine r6 ?_ (by size_fits)
 simp only[raiseNew];refine dP (wpAny_handled ?_);first|rw[show A.in1.handled=none from hh]|rw[hh]
 refine dP (k4 (wpAny_throw ?_));exact q _ _ (((FI ..).extBut.push _).push _) ⟨_,B1 _ rfl,rfl⟩
theorem qg{e:Addr}{vals:Array Value}{j:Int}{Q:Option Value->Shared->Prop}(hh:A.handled=none)(a:IsEnum s.heap e it j old)(hi:s.heap.IsTupleIter it tu i)(d:s.heap.IsTuple tu vals)(c:vals[i]?=none)
  (q:∀h',Heap.ExtBut it s.heap h'->Q none { s with heap:=h' }):wpAny (model prog w) A (pyNext (.ref e)) Q E s:=by
 have ty:s.TypeIs (.ref e) "enumerate" := ⟨_,a,rfl⟩;unfold pyNext;refine dP (zo (rl (name:=Str.ofString "__next__") ty F.slot_enumerate_next (qf F.slot_enumerate_next ty F.entry_enumerate_next ?_ (F.args_enumerate_next_1 _))));show wpAny _ _ (field (.ref e) 2 >>= _) _ _ _;refine dP (zH a rfl (x:=.ref it) rfl ?_);refine dP (Tu (show A.in1.handled=none from hh) hi d c λh' x g hx=>?_)
 obtain⟨o,ho,f⟩:=hx;exact dP (uh (T:="StopIteration") (b:=true) ⟨o,ho,f⟩ ZB0 (k4 (q _ g)))
end
theorem x6(hh:A.handled=none)(it tu:Addr)(Af:tu≠it)(vals:Array Value):
  Draws prog w A it [it,tu] vals.size (λi v=>vals[i]?=some v) (λi h=>h.IsTupleIter it tu i/\h.IsTuple tu vals) where
 live:=λ_ _ st=>by obtain⟨o,ho,_⟩:=st.1;exact⟨o,ho⟩
 frame:=λ_ _ _ st hk=>by
  obtain⟨⟨o,ho,r⟩,c,DZ,d⟩:=st;exact⟨⟨o,hk it (by simp) o ho,r⟩,c,hk tu (by simp) c DZ,d⟩
 item:=λi s Q E hi st e=>dr st.1 st.2 (v:=vals[i]) (by simp[hi]) λh' a b=>e _ h' s.toks (by simp[hi]) ⟨a,st.2.extBut b.extBut Af⟩ b
 done:=λs Q E st f=>Tu hh st.1 st.2 (by simp) f
end HT
namespace L2
variable{w:World}{es:List Expr}{k1:Nat}{p p1 pos:Pos}{t:TA}
section
variable{X:Cx}
noncomputable def aw(K:ZDv)(tp:Bool)(a:Addr)(xs:List V):It:=
 ⟨λi H=>C1 K tp H a xs/\i<xs.length,λi H x H'=>∃p y,xs[i]?=some y/\x=.ref p/\H p=none/\H'=upd H p (.tup [.int i,y]),λi H=>C1 K tp H a xs/\xs.length<=i⟩
theorem wJ{P:Program}{K:ZDv}(a e it:Addr)(xs:List V)(MD:e≠it):
  Turn P w K (.Tuple es k1 p1) (aw K true a xs) [e,it] e (λi h=>(∃old,IsEnum h e it i old)/\h.IsTupleIter it a i) where
 mem:=by simp
 obj:=λi h st b f=>by
  obtain⟨⟨old,h1⟩,o,h2,_,d⟩:=st;rcases List.mem_cons.mp f with z|z
  .subst z;exact⟨_,h1,λv z=>by cases z⟩
  .have y:b=it:=by simpa using z
   subst y;exact⟨o,h2,λv z=>by rw[d]at z;cases z⟩
 keep:=λi h h' st k=>⟨let ⟨old,h1⟩:=st.1;⟨old,k e (by simp) _ h1⟩,let ⟨o,h2,r⟩:=st.2;⟨o,k it (by simp) o h2,r⟩⟩
 item:=by
  intro X F hw G D i Zd s Z H E I x st C;subst F hw G;obtain⟨B,hi⟩:=C;obtain⟨⟨old,g⟩,c⟩:=st;obtain⟨A3,m,j,T⟩:=I.tuple B;obtain⟨u,U,O⟩:=m.get (AQ hi);have IY:A3.toArray[i]?=some u:=by simpa using U
  have W:a<s.heap.objs.size:=j.lt;have Y:a≠it:=by
   rintro rfl;obtain⟨o,t,Q,_⟩:=c;obtain⟨R,l,p,_⟩:=j;rw[t]at l;cases l;rw[Q]at p;exact absurd p (by decide)
  have M:e≠a:=by
   rintro rfl;obtain⟨R,l,p,_⟩:=j;have t:=g;unfold IsEnum at t;rw[t]at l;cases l;exact absurd (show Value.type "enumerate"=Value.type "tuple" from p) (by decide)
  have L:e<s.heap.objs.size:=AU g;refine wpAny_pyNext_enum_itemD (n:=A3.toArray.size) (HT.x6 (show X.A.in1.handled=none from I.ok.hd D) it a Y A3.toArray) g ⟨c,j⟩ (by rw[Bu,<- m.length];exact hi) MD (by simp[MD,M]) λv h1 Wv pv Hl S MX O5 UL=>⟨_,rfl,?_⟩;have σ:v=u:=by rw[IY]at pv;exact(BW pv).symm
  subst σ;refine ZB7 Hl λh2 Jh Cz=>?_;have J:h2.get? s.heap.objs.size=some { cls:=.type "tuple", data:=.seq #[.int i Wv,v] }:=(Cz.2 _ (DQ L)).trans MX;have kp:∀b o,b∉[e,it]->s.heap.get? b=some o->h2.get? b=some o:=λb o f q=>by
   have y:b≠e/\b≠it:=by simpa using f
   exact(Cz.2 b y.1).trans (UL b o y.1 y.2 q)
  refine⟨.ref s.heap.objs.size,_,I.RA (t':=Wv+1) (a:=s.heap.objs.size) (o:=.tup [.int i,xs[i]]) x kp (Aa _) ?_,rfl,⟨_,_,AQ hi,rfl,I.AG.fresh (Aa _),rfl⟩,⟨⟨_,Jh⟩,?_⟩,λb f=>?_⟩
  .exact⟨(by show 2<=sizeLine;decide),[.int i Wv,v],.cons ⟨_,rfl⟩ (.cons O .nil),⟨_,J,rfl,_,rfl⟩,λob q=>by rw[J]at q;cases q;rfl⟩
  .obtain⟨o,q,r⟩:=S.1;exact⟨o,(Cz.2 it (Bh MD)).trans q,r⟩
  .have y:b<s.heap.objs.size:=by
    rcases List.mem_cons.mp f with z|z
    .rw[z];exact L
    .have N:b=it:=by simpa using z
     obtain⟨o,q,_⟩:=c;rw[N];exact AU q
   rw[AY (An y)];exact(x b f).1
 done:=by
  intro X F hw G D i Zd s Z H E I x st C;subst F hw G;obtain⟨B,hx⟩:=C;obtain⟨⟨old,g⟩,c⟩:=st;obtain⟨A3,m,j,T⟩:=I.tuple B;have hl:=m.length;exact HT.qg (I.ok.hd D) g c j (by simp;omega) λh' eb=>⟨rfl,I.Rc (t':=s.toks) x λb o f q=>eb b o (λz=>f (by simp[z])) q⟩
 self:=λ_ _ _ _ _ st h=>let ⟨⟨_,g⟩,_⟩:=st;ZAI g h
def UX(K:ZDv)(t:TA):TI:=λZ H R=>t Z H λvs H1=>∃a tp xs,vs=[.ref a]/\C1 K tp H1 a xs/\R (aw K tp a xs) H1
theorem Z2{l:Expr}(A:Gl X "enumerate")(x:X.mg "enumerate"=none)(e:QA X [l] t)(w:starEach [l] X.env=[(false,eval l X.env)]:=by rfl):
  QI X (.Tuple es k1 p1) (.Call (.Name "enumerate" p) [l] [] pos) (UX X.K t):=⟨by
 have e:=e.h;intro Zd s Z H R I h;refine uU (HB I A x (show bootBuiltins "enumerate"=some (.type "enumerate") by decide +kernel) ?_ (by decide) (by decide));refine Lv (e.k pos I h λus s1 vs H1 I1 n o=>?_) w rfl;obtain⟨a,tp,xs,rfl,f,q⟩:=o;obtain⟨u,rfl,j⟩:=vals1 n;cases j;have g:s1.heap.objs.size+1≠s1.heap.objs.size:=Nat.succ_ne_self _;have fp:∀b∈[s1.heap.objs.size+1,s1.heap.objs.size],Eh X Zd H1 b:=λb B=>by
  have y:s1.heap.objs.size<=b:=by
   rcases List.mem_cons.mp B with z|z
   .rw[z];exact DH _
   .have i:b=s1.heap.objs.size:=by simpa using z
    rw[i];exact Aa _
  exact I1.Mt y (I1.AG.fresh y)
 cases tp with
 |false=>
  obtain⟨A3,m,p,r⟩:=I1.list f;refine call_enumerate_list p.isList λh' d c hsz kp=>ZAI d ?_;exact⟨s1.heap.objs.size+1,[s1.heap.objs.size+1,s1.heap.objs.size],_,_,H1,rfl,I1.kept (t':=s1.toks) kp,uu a _ _ xs g,⟨⟨_,d⟩,c⟩,fp,q⟩
 |true=>
  obtain⟨A3,m,v,r⟩:=I1.tuple f;refine HT.qS v λh' d c hsz kp=>ZAI d ?_;exact⟨s1.heap.objs.size+1,[s1.heap.objs.size+1,s1.heap.objs.size],_,_,H1,rfl,I1.kept (t':=s1.toks) kp,wJ a _ _ xs g,⟨⟨_,d⟩,c⟩,fp,q⟩⟩
noncomputable def iZ(K:ZDv)(a b:Addr)(xs ys:List V):It:=
 ⟨λi H=>AK K H a xs/\AK K H b ys/\i<xs.length/\i<ys.length,λi H x H'=>∃p d c,xs[i]?=some d/\ys[i]?=some c/\x=.ref p/\H p=none/\H'=upd H p (.tup [d,c]),λi H=>AK K H a xs/\AK K H b ys/\(xs.length<=i∨ys.length<=i)⟩
theorem uL{P:Program}{K:ZDv}(a b z TI TO i1 i2:Addr)(xs ys:List V)(D:ZipApart z TI TO i1 i2 a b):
  Turn P w K (.Tuple es k1 p1) (iZ K a b xs ys) [z,TI,TO,i1,i2] z (λi h=>(IsZip h z TI TO .none/\IsPair h TI (.ref i1) (.ref i2))/\(∃c d,IsPair h TO c d)/\h.IsListIter i1 a i/\h.IsListIter i2 b i) where
 mem:=by simp
 obj:=λi h st c g=>by
  obtain⟨⟨s1,s2⟩,⟨d,e,p⟩,⟨G,C,_,M⟩,F,B,_,L⟩:=st;simp only[CK,BH,su]at g;rcases g with rfl|rfl|rfl|rfl|rfl
  .exact⟨_,s1,λv y=>by cases y⟩
  .exact⟨_,s2,λv y=>by cases y⟩
  .exact⟨_,p,λv y=>by cases y⟩
  .exact⟨G,C,λv y=>by rw[M]at y;cases y⟩
  .exact⟨F,B,λv y=>by rw[L]at y;cases y⟩
 keep:=λi h h' st k=>⟨⟨k z (by simp) _ st.1.1,k TI (by simp) _ st.1.2⟩,let ⟨c,d,p⟩:=st.2.1;⟨c,d,k TO (by simp) _ p⟩,st.2.2.1.at λo q=>k i1 (by simp) o q,st.2.2.2.at λo q=>k i2 (by simp) o q⟩
 item:=by
  intro X t hw u g i Zd s Z H E I l st r;subst t hw u;obtain⟨Fg,HV,NH,Dw⟩:=r;obtain⟨⟨j,Fn⟩,⟨c,d,HQ⟩,HL,Iq⟩:=st;obtain⟨K6,HH,G6,_⟩:=I.list Fg;obtain⟨BE,HW,E7,_⟩:=I.list HV;obtain⟨n,RO,UM⟩:=HH.get (AQ NH);obtain⟨m,R3,WS⟩:=HW.get (AQ Dw);refine wpAny_pyNext_zip_item D j Fn HQ HL Iq G6.isList E7.isList (x:=n) (y:=m) (by simpa using RO) (by simpa using R3) λh1 a1 a2 Q O N S hk=>⟨_,rfl,?_⟩
  refine ZB8 a1 λh2 Gm Cz=>?_;have lz:z<s.heap.objs.size:=AU j;have up:∀b o,b≠z->h1.get? b=some o->h2.get? b=some o:=λb o f q=>(Cz.2 b f).trans q;have A:IsPair h2 s.heap.objs.size n m:=up _ _ (DQ lz) N;have kp:∀b o,b∉[z,TI,TO,i1,i2]->s.heap.get? b=some o->h2.get? b=some o:=λb o f q=>by
   simp only[CK,BH,su,ZBV]at f;exact up b o f.1 (hk b o f.1 f.2.2.1 f.2.2.2.1 f.2.2.2.2 q)
  refine⟨.ref s.heap.objs.size,_,I.RA (t':=s.toks) (a:=s.heap.objs.size) (o:=.tup [xs[i],ys[i]]) l kp (Aa _) ?_,rfl,⟨_,_,_,AQ NH,AQ Dw,rfl,I.AG.fresh (Aa _),rfl⟩,?_,λb f=>?_⟩
  .exact⟨(by show 2<=sizeLine;decide),[n,m],.cons UM (.cons WS .nil),⟨_,A,rfl,_,rfl⟩,λR q=>by rw[show h2.get? s.heap.objs.size=_ from A]at q;cases q;rfl⟩
  .exact⟨⟨Gm,up _ _ D.TIz (hk _ _ D.TIz D.TITO D.TIi1 D.TIi2 Fn)⟩,⟨_,_,up _ _ D.TOz a2⟩,Q.at λo q=>up _ _ D.i1z q,O.at λo q=>up _ _ D.i2z q⟩
  .have y:b<s.heap.objs.size:=by
    simp only[CK,BH,su]at f;rcases f with rfl|rfl|rfl|rfl|rfl
    .exact lz
    .exact AU Fn
    .exact AU HQ
    .obtain⟨o,q,_⟩:=HL;exact AU q
    .obtain⟨o,q,_⟩:=Iq;exact AU q
   rw[AY (An y)];exact(l b f).1
 done:=by
  intro X t hw u g i Zd s Z H E I l st r;subst t hw u;obtain⟨Fg,HV,hx⟩:=r;obtain⟨⟨j,Fn⟩,⟨c,d,HQ⟩,HL,Iq⟩:=st;obtain⟨K6,HH,G6,_⟩:=I.list Fg;obtain⟨BE,HW,E7,_⟩:=I.list HV;have l1:=HH.length;have l2:=HW.length;exact wpAny_pyNext_zip_end (I.ok.hd g) D j Fn HQ HL Iq G6.isList E7.isList (hx.imp (λh=>by simp;omega) (λh=>by simp;omega)) λh' J=>⟨rfl,I.Rc (t':=s.toks) l λb o f q=>by
   simp only[CK,BH,su,ZBV]at f;exact J b o f.1 f.2.2.1 f.2.2.2.1 f.2.2.2.2 q⟩
 self:=λ_ _ _ _ _ st h=>ZAQ st.1.1 h
def XB(K:ZDv)(t:TA):TI:=λZ H R=>t Z H λvs H1=>∃a b xs ys,vs=[.ref a,.ref b]/\AK K H1 a xs/\AK K H1 b ys/\R (iZ K a b xs ys) H1
theorem ZCA{l l2:Expr}(r:Gl X "zip")(o:X.mg "zip"=none)(c:QA X [l,l2] t)(n:starEach [l,l2] X.env=(false,eval l X.env)::starEach [l2] X.env:=by rfl)(hp:(backTo pos (starEach [l2] X.env)).any (·.1)=false:=by rfl):
  QI X (.Tuple es k1 p1) (.Call (.Name "zip" p) [l,l2] [] pos) (XB X.K t):=⟨by
 have c:=c.h;intro Zd s Z H R I h;refine uU (HB I r o (show bootBuiltins "zip"=some (.type "zip") by decide +kernel) ?_ (by decide) (by decide));refine Lv (c.k pos I h λus s1 vs H1 I1 j m=>?_) n hp;obtain⟨a,b,xs,ys,rfl,Fg,HV,q⟩:=m;obtain⟨B,A,rfl,i,g⟩:=vals2 j;cases i;cases g;obtain⟨K6,HH,G6,_⟩:=I1.list Fg;obtain⟨BE,HW,E7,_⟩:=I1.list HV;have e1:a<s1.heap.objs.size:=by obtain⟨_,e,_⟩:=G6.isList;exact AU e
 have u:b<s1.heap.objs.size:=by obtain⟨_,e,_⟩:=E7.isList;exact AU e
 refine call_zip_2 G6.isList E7.isList λh' f z x w v hsz kp=>?_;refine ZAQ f ?_;refine⟨_,[s1.heap.objs.size+4,s1.heap.objs.size+2,s1.heap.objs.size+3,s1.heap.objs.size,s1.heap.objs.size+1],_,_,H1,rfl,I1.kept (t':=s1.toks) kp,uL a b _ _ _ _ _ xs ys (zipApart_new e1 u),⟨⟨f,z⟩,⟨_,_,x⟩,w,v⟩,λb d=>?_,q⟩;have y:s1.heap.objs.size<=b:=by
  simp only[CK,BH,su]at d;rcases d with rfl|rfl|rfl|rfl|rfl
  .exact JQ _ 4
  .exact JQ _ 2
  .exact JQ _ 3
  .exact Aa _
  .exact JQ _ 1
 exact I1.Mt y (I1.AG.fresh y)⟩
variable{Zd:ZDw}{Z:St}{H:Hp}{s:Shared}
end
end L2
namespace MA
noncomputable def Oc:Nat->Nat->List Nat
 | 0,n=>[97+n]
 |k+1,n=>if n<26 then[97+n]else(97+n % 26)::Oc k (n / 26)
theorem Kt:∀(k:Nat){n:Nat},n<26->Oc k n=[97+n]
 | 0,_,_=>rfl
 |_+1,_,h=>p7 h
theorem iU:∀(k j n:Nat),n<=k->n<=j->Oc k n=Oc j n
 | 0,j,n,h,_=>by rw[Kt 0 (IK h (by decide)),Kt j (IK h (by decide))]
 |k+1,0,n,_,h=>by rw[Kt (k+1) (IK h (by decide)),Kt 0 (IK h (by decide))]
 |k+1,j+1,n,h1,h2=>by
  by_cases c:n<26
  .rw[Kt _ c,Kt _ c]
  .have d:n / 26<n:=Nat.div_lt_self (CS (by decide) (Yg c)) (by decide);show(if n<26 then _ else _)=(if n<26 then _ else _)
   rw[mD c,mD c,iU k j (n / 26) (PZ (CS d h1)) (PZ (CS d h2))]
def lets(n:Nat):List Nat:=Oc n n
noncomputable def vals:List Nat->Nat
 | []=>0
 |c::r=>(c - 97)+26 * vals r
theorem M0{n:Nat}(h:n<26):lets n=[97+n]:=Kt n h
theorem O2{n:Nat}(h:¬ n<26):lets n=(97+n % 26)::lets (n / 26):=by
 cases n with
 |zero=>exact absurd (by decide) h
 |succ k=>
  have d:(k+1) / 26<k+1:=Nat.div_lt_self (jV k) (by decide);show(if k+1<26 then _ else _)=_
  rw[mD h,iU k ((k+1) / 26) ((k+1) / 26) (PZ d) (Aa _)];rfl
theorem bI:∀n,vals (lets n)=n:=by
 intro n
 induction n using Nat.strongRecOn with
 |_ n a=>
  by_cases h:n<26
  .rw[M0 h];simp[vals]
  .rw[O2 h];have:=a (n / 26) (by omega);simp only[vals,this];omega
theorem nq{a b:Nat}(h:lets a=lets b):a=b:=by rw[<- bI a,h,bI]
theorem Tr(n:Nat):1<=(lets n).length:=by
 by_cases h:n<26
 .rw[M0 h];simp
 .rw[O2 h];simp
theorem QK:∀(k n:Nat),n<26 ^ (k+1)->(lets n).length<=k+1
 | 0,n,h=>by rw[M0 (by simpa using h)];simp
 |k+1,n,h=>by
  by_cases h1:n<26
  .rw[M0 h1];simp
  .rw[O2 h1];have:=QK k (n / 26) (by rw[jU]at h;exact Nat.div_lt_of_lt_mul (by rw[Nat.mul_comm];exact h));simp only[Az];omega
theorem yB:∀n,∀c∈lets n,97<=c/\c<=122:=by
 intro n
 induction n using Nat.strongRecOn with
 |_ n b=>
  by_cases h:n<26
  .rw[M0 h];intro c a;simp at a;omega
  .rw[O2 h];intro c a;rcases List.mem_cons.mp a with e|e
   .omega
   .exact b (n / 26) (by omega) c e
theorem Za{α:Type}[DecidableEq α]:∀(k:Nat)(f:Nat->α)(l:List α),(∀i j,i<k->j<k->f i=f j->i=j)->(∀i,i<k->f i∈l)->k<=l.length
 | 0,_,_,_,_=>Bm _
 |k+1,f,l,hi,hm=>by
  have h1:=hm k (IL k);have:=Za k f (l.erase (f k)) (λi j a b e=>hi i j (by omega) (by omega) e) (λi a=>by
   have c:f i≠f k:=λe=>by have:=hi i k (by omega) (by omega) e;omega
   exact(PX c).mpr (hm i (by omega)))
  rw[KQ h1]at this;have d:=T6 h1;omega
end MA
namespace Lw
open L2
variable{a l p:Addr}{H H' H2:Hp}{xs:List V}{o:HO}{α:Type}{n:Nat}{i j r:Int}{ns ss:List Str}
def Bq(H:Hp)(p:Addr):Prop:=∃a b:Int,H p=some (.lst [.int a,.int b])/\0<=a/\a<10 ^ 256/\0<=b/\b<2147483647
structure BM (p:Addr) (H H':Hp):Prop where
 AE:Bq H' p
 same:GK p H H'
theorem BM.trans{H1:Hp}(a:BM p H H1)(b:BM p H1 H2):BM p H H2:=⟨b.AE,a.same.trans b.same⟩
theorem BM.of(h:Bq H p)(s:AI H H'):BM p H H':=by
 obtain⟨a,b,e,r⟩:=h;exact⟨⟨a,b,s _ _ e,r⟩,GK.of s⟩
theorem BM.OH{K:ZDv}(s:BM p H H')(h:AK K H a xs)(Af:a≠p):AK K H' a xs:=by
 rcases h with(h|⟨o,h⟩)|h
 .exact .inl (.inl (s.same _ _ Af h))
 .exact .inl (.inr ⟨o,s.same _ _ Af h⟩)
 .exact .inr h
theorem BM.at'(s:BM p H H')(h:H a=some o)(Af:a≠p):H' a=some o:=s.same _ _ Af h
theorem Mx{a:Int}(c:-(10 ^ 20)<a)(h1:a<10 ^ 20):a.natAbs<2 ^ 1000:=by
 have b:a.natAbs<10 ^ 20:=by omega
 exact Yi b (by decide +kernel)
def Wd(K:ZDv):Sp:=λvs H Q _=>∃(a:Addr)(ns:List Int)(k:Int),vs=[.ref a,.int k]/\AK K H a (ns.map V.int)/\0<=k/\k<=1000/\∀p H',H p=none->AI H H'->Bq H' p->Q (.ref p) H'
def Hk:Sp:=λvs H Q _=>∃(p:Addr)(m:Int),vs=[.ref p,.int m]/\Bq H p/\0<m/\m<10 ^ 18/\∀r H',0<=r->r<m->BM p H H'->Q (.int r) H'
noncomputable def DM(l:List Nat):Str:=⟨l.toArray⟩
def ah:Sp:=λvs H Q _=>∃r:Int,vs=[.int r]/\0<=r/\r<26 ^ 8/\∀H',AI H H'->Q (.str (DM (MA.lets r.toNat))) H'
theorem R4{xs:List α}{k:Int}{v:α}(b:0<=k)(h:xs[k.toNat]?=some v):BZ xs k=some v:=by
 have a:k=((k.toNat:Nat):Int):=by omega
 have q:=D4 h;rw[<- a]at q;exact q
noncomputable abbrev Zx:Str:="abcdefghijklmnopqrstuvwxyz"
theorem pX:∀j,j<26->Zx.cps.toList[j]?=some (97+j):=by decide +kernel
theorem gb{k:Int}(a:0<=k)(h1:k<26):BZ Zx.cps.toList k=some (97+k.toNat):=R4 a (pX _ (by omega))
theorem iS(l:List Nat)(c:Nat):DM l++(⟨#[c]⟩:Str)=DM (l++[c]):=by
 show(⟨l.toArray++#[c]⟩:Str)=⟨(l++[c]).toArray⟩;simp
theorem RN(l:List Nat):(DM l).length=l.length:=by simp[DM,Str.length]
theorem cU{l:List Nat}:(V.str (DM l)=V.str (Str.ofString ""))↔l=[]:=by
 constructor
 .intro h;injection h with h
  have h2:=pZ (λx=>x.cps.toList) h;have e:(Str.ofString "").cps.toList=[]:=by decide +kernel
  rw[e]at h2
  simpa[DM]using h2
 .rintro rfl;rfl
theorem small(h:n<=100000):n<=sizeLine:=CL h (by decide +kernel)
theorem Zg{k:Nat}{pre:List Nat}(h:pre++MA.lets k=MA.lets n):(0<k / 26->(pre++[97+k % 26])++MA.lets (k / 26)=MA.lets n)/\(k / 26=0->pre++[97+k % 26]=MA.lets n):=by
 constructor
 .intro h1;rw[MA.O2 (by omega)]at h;rw[<- h,Bt];rfl
 .intro h1;have h2:k<26:=by omega
  rw[MA.M0 h2]at h;rw[<- h,Nat.mod_eq_of_lt h2]
def Nm(x:Str):Prop:=1<=x.length/\x.length<=8/\∀c∈x.cps.toList,97<=c/\c<=122
instance (x:Str):Decidable (Nm x):=by unfold Nm;exact inferInstance
theorem Il(x:Str):x.length=x.cps.toList.length:=by simp[Str.length]
theorem XZ(h:n<26 ^ 8):Nm (DM (MA.lets n)):=by
 refine⟨by rw[RN];exact MA.Tr n,by rw[RN];exact MA.QK 7 n h,λc a=>MA.yB n c (by simpa[DM]using a)⟩
noncomputable def menu:List Str:=["put","take","none","ahead","all","over","next","a","ab","abc","abcdefgh","b","step"]
theorem wD:∀x∈menu,Nm x:=by decide +kernel
noncomputable def Pt:List V:=[.str "put",.str "take",.str "none",.str "ahead",.str "all",.str "over",.str "next",.str "a",.str "ab",.str "abc",.str "abcdefgh",.str "b",.str "step"]
theorem l9(a:0<=i)(h1:i<13):∃x,BZ Pt i=some (.str x)/\Nm x:=by
 have b:menu.length=13:=rfl;have hi:i.toNat<menu.length:=by omega
 have e:Pt=menu.map V.str:=rfl;refine⟨menu[i.toNat],R4 a ?_,wD _ (Gs hi)⟩;rw[e,AS,AQ hi];rfl
theorem Vl(a:0<=i)(h1:i<ns.length):∃x,BZ (ns.map V.str) i=some (.str x)/\x∈ns/\ns[i.toNat]?=some x:=by
 have hi:i.toNat<ns.length:=by omega
 exact⟨ns[i.toNat],R4 a (by rw[AS,AQ hi];rfl),Gs hi,AQ hi⟩
theorem Ib(ns:List Str):(ns.map V.str).all ER=true:=by
 rw[Gr];intro x hx;obtain⟨y,_,rfl⟩:=List.mem_map.mp hx;rfl
theorem Ry(x:Str)(ns:List Str):Jm (.str x) (ns.map V.str)=decide (x∈ns):=by
 unfold Jm;rw[Hf,Lq,xt];constructor
 .rintro⟨v,b,h⟩;obtain⟨y,a,rfl⟩:=List.mem_map.mp b;have h':(y == x)=true:=h;have:y=x:=by simpa using h'
  rw[<- this];exact a
 .intro h;exact⟨.str x,List.mem_map.mpr ⟨x,h,rfl⟩,by show(x == x)=true;simp⟩
theorem de(xs:List V):FE xs []=decide (xs=[]):=by
 cases xs with
 |nil=>rfl
 |cons x r=>rw[Jx (by simp)];simp
theorem tF{x y:Str}(h:x.cps.toList=y.cps.toList):x=y:=by
 cases x;cases y;simp only[Str.mk.injEq];exact Array.toList_inj.mp h
theorem qr(z:Str){a b:Nat}{lo hi:Option Int}(Bw:a<=b)(c:b<=z.length)(e:Builtin.Str.strSliceIndices lo hi 1 z.length=Builtin.Str.strSliceIndices (some (a:Int)) (some (b:Int)) 1 z.length):
  (Txt.slice z lo hi).cps.toList=(z.cps.toList.drop a).take (b - a):=by
 have q:=StrLaws.sliced_plain z Bw c;rw[<- e]at q;unfold Txt.slice;split
 .rename_i h;have d:(Builtin.Str.strSliceIndices lo hi 1 z.length).length=z.length:=by simpa using h
  rw[e,StrLaws.strSliceIndices_plain Bw c,AA,Cc]at d;have h1:a=0:=by omega
  have h2:b=z.length:=by omega
  subst h1;subst h2;rw[jG,Ym,Il,Ei]
 .rw[<- q]
theorem vw(h:0<=j):max (0:Int) (min j (n:Int))=max 0 (min ((min j.toNat n:Nat):Int) (n:Int)):=by
 have e:((min j.toNat n:Nat):Int)=min j n:=by
  rcases Yh j.toNat n with c|c
  .rw[Yj c,PL h,Int.min_eq_left (by have:=Int.ofNat_le.mpr c;rw[PL h]at this;exact this)]
  .rw[Yk c,Int.min_eq_right (by have:=Int.ofNat_le.mpr c;rw[PL h]at this;exact this)]
 rw[e,Int.min_assoc,Int.min_self]
theorem wZ(z:Str)(h:0<=j):(Txt.slice z none (some j)).cps.toList=z.cps.toList.take j.toNat:=by
 have e:=qr z (a:=0) (b:=min j.toNat z.length) (lo:=none) (hi:=some j) (Bm _) (Nat.min_le_right _ _) (by
  have h1:¬ j<0:=by omega
  have h2:¬ (((min j.toNat z.length:Nat):Int)<0):=Int.not_lt.mpr (ZCQ _);have c:max (0:Int) (min j (z.length:Int))=max 0 (min ((min j.toNat z.length:Nat):Int) (z.length:Int)):=vw h;simp only[Builtin.Str.strSliceIndices,h1,h2,ZBp,c];rfl)
 rw[e,jG,Ym];rcases Yh j.toNat z.length with h1|h1
 .rw[Yj h1]
 .rw[Yk h1,Il,Ei,PY (by rw[<- Il];exact h1)]
theorem c8{z:Str}(h:1<=j)(d:j<=8)(b:1<=z.length)(a:∀c∈z.cps.toList,97<=c/\c<=122):Nm (Txt.slice z none (some j)):=by
 have e:=wZ z (j:=j) (by omega);refine⟨?_,?_,λc Ge=>a c ?_⟩
 .rw[Il,e,Cj,<- Il];omega
 .rw[Il,e,Cj];omega
 .rw[e]at Ge;exact T9 Ge
theorem bP(x y:Str):(x++y).cps.toList=x.cps.toList++y.cps.toList:=by
 show(x.cps++y.cps).toList=_;simp
theorem cR(x y:Str):(x++y).length=x.length+y.length:=by rw[Il,bP,BF,<- Il,<- Il]
def ZX(K:ZDv):Sp:=λvs H Q _=>∃(p q:Addr)(ns:List Str),vs=[.ref p,.ref q]/\Bq H p/\H q=some (.lst (ns.map V.str))/\q≠p/\(∀x∈ns,Nm x)/\ns.length<=1000/\∀x H',Nm x->x∉ns->BM p H H'->Q (.str x) H'
theorem r9{k:Nat}(h:∀j,j<k->DM (MA.lets j)∈ns):k<=ns.length:=
 MA.Za k (λj=>DM (MA.lets j)) ns (λi j _ _ e=>MA.nq (by
  have:=pZ (λx=>x.cps.toList) e
  simpa[DM]using this)) h
theorem xh:1000<26 ^ 8:=by decide +kernel
theorem yW:(1000:Int)<26 ^ 8:=by decide +kernel
theorem tw:(26:Int) ^ (8:Int).toNat - 26<26 ^ 8:=by decide +kernel
theorem vf:(26:Int)<26 ^ 8:=by decide +kernel
theorem jx:(0:Int)<26 ^ (8:Int).toNat - 26:=by decide +kernel
theorem vX:(26:Int) ^ (8:Int).toNat - 26<10 ^ 18:=by decide +kernel
theorem Yu(a:0<=r)(h:r<26 ^ 8):r.toNat<26 ^ 8:=by omega
theorem BM.upd(s:BM p H H2)(h:H l=none)(Af:l≠p):BM p H (upd H2 l o):=by
 obtain⟨a,b,e,r⟩:=s.AE;refine⟨⟨a,b,by rw[AY (Bh Af)];exact e,r⟩,λc u d q=>?_⟩;rw[AY (Dx q h)];exact s.same c u d q
theorem BM.none(s:BM p H H2)(h:H2 l=none):H l=none:=by
 cases q:H l with
 |none=>rfl
 |some o=>
  by_cases e:l=p
  .obtain⟨a,b,c,_⟩:=s.AE;rw[<- e,h]at c;cases c
  .rw[s.same l o e q]at h;cases h
theorem Bq.ne(h:Bq H p)(a:H l=none):l≠p:=by
 obtain⟨_,_,e,_⟩:=h;exact(Dx e a).symm
theorem AI.none(s:AI H H2)(h:H2 l=none):H l=none:=by
 cases q:H l with
 |none=>rfl
 |some o=>rw[s l o q]at h;cases h
def gu:Sp:=λvs H Q _=>∃(p:Addr)(m:Int),vs=[.ref p,.int m]/\Bq H p/\0<=m/\m<=100/\
 ∀l H'(ns:List Str),H l=none->BM p H H'->H' l=some (.lst (ns.map V.str))->(ns.length:Int)=m->(∀x∈ns,Nm x)->ns.Nodup->Q (.ref l) H'
def YA:Sp:=λvs H Q _=>∃(p:Addr)(m:Int),vs=[.ref p,.int m]/\Bq H p/\1<=m/\m<=100/\
 ∀l H'(ns:List Str),H l=none->BM p H H'->H' l=some (.lst (ns.map V.str))->(ns.length:Int)<=m->(∀x∈ns,Nm x)->ns.Nodup->Q (.ref l) H'
theorem Ui{l:List α}{x:α}(h:l.Nodup)(hx:x∉l):(l++[x]).Nodup:=by
 rw[FJ];exact⟨h,by simp,λa d b c=>by
  have:b=x:=by simpa using c
  subst this;rintro rfl;exact hx d⟩
theorem k6{m:Int}(b:0<=j)(h1:j<3)(a:1<=m):∃k:Int,BZ [V.int 0,V.int 1,V.int m] j=some (.int k)/\0<=k/\k<=m:=by
 have:j=0∨j=1∨j=2:=by omega
 rcases this with rfl|rfl|rfl
 .exact⟨0,rfl,by omega,by omega⟩
 .exact⟨1,rfl,by omega,by omega⟩
 .exact⟨m,rfl,by omega,by omega⟩
theorem xn(l:List α):l.filter (λ_=>true)=l:=List.filter_eq_self.mpr λ_ _=>rfl
theorem all_map{α:Type}(f:α->Bool)(l:List α):(l.map f).all id=l.all f:=by rw[PM];rfl
theorem qu{i:Nat}{v:V}(h:(ss.map V.str)[i]?=some v):∃x,v=.str x/\x∈ss:=by
 rw[AS]at h;cases q:ss[i]? with
 |none=>rw[q]at h;cases h
 |some x=>rw[q]at h;simp at h;exact⟨x,h.symm,Bc q⟩
theorem ZBj(xs:List Str):FE (xs.map V.str) (xs.map V.str)=true:=by
 rw[K5 rfl,Gr];intro j a;have b:j<xs.length:=by simpa using a
 have e:(xs.map V.str)[j]?=some (.str xs[j]):=by rw[AS,AQ b];rfl
 rw[Hc e];show(xs[j] == xs[j])=true;simp
theorem xj(K:ZDv)(t:String):PySem.W.kitOne K (.type t) (.type t)=some true:=by
 unfold PySem.W.kitOne;rw[p7 (by simp)]
def ZAR(K:ZDv):Sp:=λvs H Q _=>∃(a:Addr)(ns:List Int),vs=[.ref a]/\AK K H a (ns.map V.int)/\ns.length<=63/\∀H',Q (.bl true) H'
noncomputable def CF(tp:Bool)(xs:List V):HO:=match tp with
 |false=>.lst xs
 |true=>.tup xs
theorem CF.sq{K:ZDv}{tp:Bool}(h:H a=some (CF tp xs)):C1 K tp H a xs:=by
 cases tp
 .exact AK.of h
 .exact Al.of h
theorem ZW{c A B:Prop}[Decidable c](h:¬ c)(b:B):if c then A else B:=by rw[mD h];exact b
theorem Q0(ns:List Str):(ns.map V.str).length=ns.length:=AA _
end Lw
namespace Fz
open L2 Lw
variable{F F' H H':Hp}{v:V}{Br vs:List V}{i i0 j:Nat}{t:TA}{a l:Addr}{r:List V->Hp->VK->Prop}{Z τ:L2.St}{o:HO}{ta tc te:TE}{tb u:TS}{b neg tp:Bool}{A:List Addr}{α:Type}{Q:VK}{f:Int->Int->Int}{g:TG}{n:String}{c tt:TT}{wi:TI}{X:XK}
inductive PV where
 |A9|bl (b:Bool)|int (i:Int)|str (x:Str)|lst (xs:List PV)|tup (xs:List PV)
 |BA (ks:List Key) (xs:List PV)|obj (C:Addr) (ns:List Str) (xs:List PV)|exc (C:Addr) (ns:List Str) (xs:List PV)|con (a:Addr) (xs:List PV)
variable{p:PV}{ps xs:List PV}
noncomputable def Qj(a C:Addr)(dx:Option Addr):HO:=.ext λh=>∃b vs,h.get? a=some b/\b.cls=.ref C/\b.dict=dx/\b.data=.fields vs
mutual
inductive Rep (F:Hp):V->PV->Prop where
 |A9:Rep F .A9 .A9
 |bl (b:Bool):Rep F (.bl b) (.bl b)
 |int (i:Int):Rep F (.int i) (.int i)
 |str (x:Str):Rep F (.str x) (.str x)
 |lst {a:Addr}{vs:List V}{xs:List PV}:F a=some (.lst vs)->AJ F vs xs->Rep F (.ref a) (.lst xs)
 |tup {a:Addr}{vs:List V}{xs:List PV}:F a=some (.tup vs)->AJ F vs xs->Rep F (.ref a) (.tup xs)
 |BA {a:Addr}{ks:List Key}{vs:List V}{xs:List PV}:F a=some (.dK (ks.zip vs))->ks.length=vs.length->AJ F vs xs->Rep F (.ref a) (.BA ks xs)
 |obj {a C dx:Addr}{ns:List Str}{vs:List V}{xs:List PV}:F a=some (.ins C dx (ns.zip vs))->F dx=some (.own a)->ns.length=vs.length->AJ F vs xs->Rep F (.ref a) (.obj C ns xs)
 |con {a:Addr}{xs:List PV}:Rep F (.ref a) (.con a xs)
 |RH {a C:Addr}:F a=some (Qj a C none)->Rep F (.ref a) (.exc C [] [])
 |exc {a C dx:Addr}{ns:List Str}{vs:List V}{xs:List PV}:F a=some (Qj a C (some dx))->F dx=some (.xd (ns.zip vs))->ns.length=vs.length->AJ F vs xs->Rep F (.ref a) (.exc C ns xs)
inductive AJ (F:Hp):List V->List PV->Prop where
 |nil:AJ F [] []
 |cons {v:V}{p:PV}{vs:List V}{ps:List PV}:Rep F v p->AJ F vs ps->AJ F (v::vs) (p::ps)
end
theorem Rep.mono(s:AI F F')(r:Rep F v p):Rep F' v p:=
 Rep.rec (motive_1:=λv p _=>Rep F' v p) (motive_2:=λvs ps _=>AJ F' vs ps) .A9 .bl .int .str (λh _ i=>.lst (s _ _ h) i) (λh _ i=>.tup (s _ _ h) i) (λh e _ i=>.BA (s _ _ h) e i) (λh h2 e _ i=>.obj (s _ _ h) (s _ _ h2) e i) .con (λh=>.RH (s _ _ h)) (λh h2 e _ i=>.exc (s _ _ h) (s _ _ h2) e i) .nil (λ_ _ i k=>.cons i k) r
def pC(F:Hp)(v:V):PV->Prop
 | .A9=>v=.A9
 | .bl b=>v=.bl b
 | .int i=>v=.int i
 | .str x=>v=.str x
 | .lst xs=>∃a vs,v=.ref a/\F a=some (.lst vs)/\AJ F vs xs
 | .tup xs=>∃a vs,v=.ref a/\F a=some (.tup vs)/\AJ F vs xs
 | .BA ks xs=>∃a vs,v=.ref a/\F a=some (.dK (ks.zip vs))/\ks.length=vs.length/\AJ F vs xs
 | .obj C ns xs=>∃a dx vs,v=.ref a/\F a=some (.ins C dx (ns.zip vs))/\F dx=some (.own a)/\ns.length=vs.length/\AJ F vs xs
 | .con a _=>v=.ref a
 | .exc C ns xs=>(∃a,v=.ref a/\F a=some (Qj a C none)/\ns=[]/\xs=[])∨∃a dx vs,v=.ref a/\F a=some (Qj a C (some dx))/\F dx=some (.xd (ns.zip vs))/\ns.length=vs.length/\AJ F vs xs
theorem Rep.inv(r:Rep F v p):pC F v p:=by
 cases r with
 |lst h r=>exact⟨_,_,rfl,h,r⟩
 |tup h r=>exact⟨_,_,rfl,h,r⟩
 |BA h l r=>exact⟨_,_,rfl,h,l,r⟩
 |obj h h2 l r=>exact⟨_,_,_,rfl,h,h2,l,r⟩
 |RH h=>exact .inl ⟨_,rfl,h,rfl,rfl⟩
 |exc h h2 l r=>exact .inr ⟨_,_,_,rfl,h,h2,l,r⟩
 |_=>exact rfl
theorem AJ.inv(r:AJ F vs (p::ps)):∃v ws,vs=v::ws/\Rep F v p/\AJ F ws ps:=by
 cases r with
 |cons r t=>exact⟨_,_,rfl,r,t⟩
theorem AJ.DI(r:AJ F vs []):vs=[]:=by
 cases r;rfl
theorem AJ.mono(s:AI F F')(r:AJ F vs ps):AJ F' vs ps:=by
 induction ps generalizing vs with
 |nil=>cases r.DI;exact .nil
 |cons p ps c=>obtain⟨v,ws,rfl,a,b⟩:=r.inv;exact .cons (a.mono s) (c b)
theorem AJ.length{F:Hp}{vs:List V}{ps:List PV}(r:AJ F vs ps):vs.length=ps.length:=by
 induction ps generalizing vs with
 |nil=>cases r.DI;rfl
 |cons p ps c=>obtain⟨v,ws,rfl,a,b⟩:=r.inv;exact pZ (· + 1) (c b)
theorem AJ.get{F:Hp}{vs:List V}{ps:List PV}{i:Nat}{p:PV}(r:AJ F vs ps)(e:ps[i]?=some p):∃v,vs[i]?=some v/\Rep F v p:=by
 induction ps generalizing vs i with
 |nil=>cases e
 |cons q ps c=>
  obtain⟨v,ws,rfl,a,b⟩:=r.inv;cases i with
  |zero=>cases e;exact⟨_,rfl,a⟩
  |succ i=>exact c (vs:=ws) (i:=i) b e
theorem AJ.get'(r:AJ F vs ps)(e:vs[i]?=some v):∃p,ps[i]?=some p/\Rep F v p:=by
 induction ps generalizing vs i with
 |nil=>cases r.DI;cases e
 |cons q ps c=>
  obtain⟨u,ws,rfl,a,b⟩:=r.inv;cases i with
  |zero=>cases e;exact⟨_,rfl,a⟩
  |succ i=>exact c (vs:=ws) (i:=i) b e
theorem AJ.append{ws:List V}{c:List PV}(r:AJ F vs ps)(s:AJ F ws c):AJ F (vs++ws) (ps++c):=by
 induction ps generalizing vs with
 |nil=>cases r.DI;exact s
 |cons p ps d=>obtain⟨v,us,rfl,a,b⟩:=r.inv;exact .cons a (d b)
theorem AJ.take(n:Nat)(r:AJ F vs ps):AJ F (vs.take n) (ps.take n):=by
 induction ps generalizing vs n with
 |nil=>cases r.DI;rw[List.take_nil,List.take_nil];exact .nil
 |cons p ps c=>
  obtain⟨v,us,rfl,a,b⟩:=r.inv;cases n with
  |zero=>exact .nil
  |succ n=>exact .cons a (c n b)
theorem AJ.drop(n:Nat)(r:AJ F vs ps):AJ F (vs.drop n) (ps.drop n):=by
 induction ps generalizing vs n with
 |nil=>cases r.DI;rw[List.drop_nil,List.drop_nil];exact .nil
 |cons p ps c=>
  cases n with
  |zero=>exact r
  |succ n=>obtain⟨v,us,rfl,a,b⟩:=r.inv;exact c n b
theorem AJ.one{F:Hp}{v:V}{p:PV}(r:Rep F v p):AJ F [v] [p]:=.cons r .nil
noncomputable def flat:PV->Bool
 | .lst _=>false
 | .tup _=>false
 | .BA _ _=>false
 | .obj _ _ _=>false
 | .exc _ _ _=>false
 | .con _ _=>false
 |_=>true
noncomputable def enc:PV->V
 | .bl b=>.bl b
 | .int i=>.int i
 | .str x=>.str x
 |_=>.A9
theorem Rep.enc(h:flat p=true)(r:Rep F v p):v=enc p:=by
 cases r <;> first|rfl|cases h
theorem lW(h:flat p=true):Rep F (enc p) p:=by
 cases p with
 |A9=>exact .A9
 |bl b=>exact .bl b
 |int i=>exact .int i
 |str x=>exact .str x
 |lst xs=>cases h
 |tup xs=>cases h
 |BA ks xs=>cases h
 |obj C ns xs=>cases h
 |exc C ns xs=>cases h
 |con a xs=>cases h
theorem AJ.enc(h:ps.all flat=true)(r:AJ F vs ps):vs=ps.map enc:=by
 induction ps generalizing vs with
 |nil=>exact r.DI
 |cons p ps c=>
  obtain⟨v,us,rfl,a,b⟩:=r.inv;rw[T2,DN]at h;rw[DG,<- Rep.enc h.1 a,<- c h.2 b]
theorem Np(h:ps.all flat=true):AJ F (ps.map enc) ps:=by
 induction ps with
 |nil=>exact .nil
 |cons p r a=>
  rw[T2,DN]at h;exact .cons (lW h.1) (a h.2)
theorem SJ(h:flat p=true):ER (Fz.enc p)=true:=by cases p <;> first|rfl|cases h
theorem cP(ns:List Str):(ns.map PV.str).all flat=true:=by
 rw[Gr];intro x hx;obtain⟨y,_,rfl⟩:=List.mem_map.mp hx;rfl
theorem Sf(ns:List Int):(ns.map PV.int).all flat=true:=by
 rw[Gr];intro x hx;obtain⟨y,_,rfl⟩:=List.mem_map.mp hx;rfl
theorem l5(ns:List Bool):(ns.map PV.bl).all flat=true:=by
 rw[Gr];intro x hx;obtain⟨y,_,rfl⟩:=List.mem_map.mp hx;rfl
theorem cp(ns:List Str):(ns.map PV.str).map Fz.enc=ns.map V.str:=by rw[CJ];rfl
theorem tS(ns:List Bool):(ns.map PV.bl).map Fz.enc=ns.map V.bl:=by rw[CJ];rfl
theorem So(ns:List Int):(ns.map PV.int).map Fz.enc=ns.map V.int:=by rw[CJ];rfl
theorem AJ.strs{ns:List Str}(r:AJ F vs (ns.map PV.str)):vs=ns.map V.str:=(r.enc (cP ns)).trans (cp ns)
theorem UY(ns:List Str):AJ F (ns.map V.str) (ns.map PV.str):=by rw[<- cp];exact Np (cP ns)
theorem AJ.Yz{ns:List Bool}(r:AJ F vs (ns.map PV.bl)):vs=ns.map V.bl:=(r.enc (l5 ns)).trans (tS ns)
theorem AJ.ints{ns:List Int}(r:AJ F vs (ns.map PV.int)):vs=ns.map V.int:=(r.enc (Sf ns)).trans (So ns)
inductive NK where
 |lst|BA (ks:List Key)|obj (C dx:Addr) (ns:List Str)|Rg (ks:List (List Key))
noncomputable def NK.ho:NK->List V->HO
 | .lst,vs=>.lst vs
 | .BA ks,vs=>.dK (ks.zip vs)
 | .obj C dx ns,vs=>.ins C dx (ns.zip vs)
 | .Rg ks,vs=>.dT (ks.zip vs)
noncomputable def NK.more:NK->List Addr
 | .obj _ dx _=>[dx]
 |_=>[]
def NK.side(k:NK)(a:Addr)(H:Hp):Prop:=match k with
 | .obj _ dx _=>H dx=some (.own a)
 |_=>True
def NK.fit(k:NK)(n:Nat):Prop:=match k with
 | .BA ks=>ks.length=n
 | .obj _ _ ns=>ns.length=n
 | .Rg ks=>ks.length=n
 |_=>True
inductive OV where
 |fz (p:PV)
 |tp (xs:List OV)
 |nd (k:NK) (a:Addr) (xs:List OV)
mutual
def OV.addrs:OV->List Addr
 | .fz _=>[]
 | .tp xs=>OV.BD xs
 | .nd k a xs=>a::(k.more++OV.BD xs)
def OV.BD:List OV->List Addr
 | []=>[]
 |x::r=>x.addrs++OV.BD r
end
mutual
def OV.pv:OV->PV
 | .fz p=>p
 | .tp xs=>.tup (OV.HX xs)
 | .nd .lst _ xs=>.lst (OV.HX xs)
 | .nd (.BA ks) _ xs=>.BA ks (OV.HX xs)
 | .nd (.obj C _ ns) _ xs=>.obj C ns (OV.HX xs)
 | .nd (.Rg _) a _=>.con a []
def OV.HX:List OV->List PV
 | []=>[]
 |x::r=>x.pv::OV.HX r
end
mutual
inductive Aw (F H:Hp):V->OV->Prop where
 |fz {v:V}{p:PV}:Rep F v p->Aw F H v (.fz p)
 |tp {a:Addr}{vs:List V}{xs:List OV}:F a=some (.tup vs)->Be F H vs xs->Aw F H (.ref a) (.tp xs)
 |nd {k:NK}{a:Addr}{vs:List V}{xs:List OV}:H a=some (k.ho vs)->k.side a H->k.fit vs.length->Be F H vs xs->Aw F H (.ref a) (.nd k a xs)
inductive Be (F H:Hp):List V->List OV->Prop where
 |nil:Be F H [] []
 |cons {v:V}{t:OV}{vs:List V}{ts:List OV}:Aw F H v t->Be F H vs ts->Be F H (v::vs) (t::ts)
end
def qK(F H:Hp)(v:V):OV->Prop
 | .fz p=>Rep F v p
 | .tp xs=>∃a vs,v=.ref a/\F a=some (.tup vs)/\Be F H vs xs
 | .nd k a xs=>∃vs,v=.ref a/\H a=some (k.ho vs)/\k.side a H/\k.fit vs.length/\Be F H vs xs
theorem Aw.inv{t:OV}(r:Aw F H v t):qK F H v t:=by
 cases r with
 |fz r=>exact r
 |tp h r=>exact⟨_,_,rfl,h,r⟩
 |nd h a b r=>exact⟨_,rfl,h,a,b,r⟩
theorem Be.inv{t:OV}{a:List OV}(r:Be F H vs (t::a)):∃v ws,vs=v::ws/\Aw F H v t/\Be F H ws a:=by
 cases r with
 |cons r t=>exact⟨_,_,rfl,r,t⟩
theorem Be.DI(r:Be F H vs []):vs=[]:=by
 cases r;rfl
theorem OV.ET{k:NK}{xs:List OV}:(OV.nd k a xs).addrs=a::(k.more++OV.BD xs):=by rw[OV.addrs]
theorem OV.Hy{xs:List OV}:(OV.tp xs).addrs=OV.BD xs:=by rw[OV.addrs]
theorem OV.Mq:(OV.fz p).addrs=[]:=by rw[OV.addrs]
theorem OV.Dt{x:OV}{r:List OV}:OV.BD (x::r)=x.addrs++OV.BD r:=by rw[OV.BD]
theorem OV.L9:OV.BD []=[]:=by rw[OV.BD]
theorem NK.Zc{k:NK}(h:k.side a H)(s:∀b∈k.more,∀o,H b=some o->H' b=some o):k.side a H':=by
 cases k with
 |obj C dx ns=>exact s dx (by simp[NK.more]) _ h
 |_=>trivial
theorem Aw.mono(f:AI F F'){t:OV}(r:Aw F H v t):(∀a∈t.addrs,∀o,H a=some o->H' a=some o)->Aw F' H' v t:=
 Aw.rec (motive_1:=λv t _=>(∀a∈t.addrs,∀o,H a=some o->H' a=some o)->Aw F' H' v t) (motive_2:=λvs d _=>(∀a∈OV.BD d,∀o,H a=some o->H' a=some o)->Be F' H' vs d)
  (λr _=>.fz (r.mono f))
  (λh _ i s=>.tp (f _ _ h) (i (by rw[OV.Hy]at s;exact s)))
  (λh e j _ i s=>by
   rw[OV.ET]at s;exact .nd (s _ Ar _ h) (NK.Zc e λb g=>s b (BG _ (Dm _ g))) j (i λa c=>s a (BG _ (C5 _ c))))
  (λ_=>.nil)
  (λ_ _ i k s=>by
   rw[OV.Dt]at s;exact .cons (i λa c=>s a (Dm _ c)) (k λa c=>s a (C5 _ c)))
  r
theorem Be.mono(f:AI F F'){c:List OV}(r:Be F H vs c)(s:∀a∈OV.BD c,∀o,H a=some o->H' a=some o):Be F' H' vs c:=by
 induction c generalizing vs with
 |nil=>cases r.DI;exact .nil
 |cons p ps e=>
  obtain⟨v,ws,rfl,a,b⟩:=r.inv;rw[OV.Dt]at s;exact .cons (a.mono f λa d=>s a (Dm _ d)) (e b λa d=>s a (C5 _ d))
theorem Aw.there{t:OV}(r:Aw F H v t):∀a∈t.addrs,H a≠none:=
 Aw.rec (motive_1:=λv t _=>∀a∈t.addrs,H a≠none) (motive_2:=λvs d _=>∀a∈OV.BD d,H a≠none)
  (λ_ a c=>by rw[OV.Mq]at c;cases c)
  (λ_ _ i a c=>i a (by rw[OV.Hy]at c;exact c))
  (λ{k b vs xs}h f g _ i a c=>by
   rw[OV.ET,CK,PU]at c;rcases c with rfl|c|c
   .rw[h];exact λz=>by cases z
   .cases k with
    |obj C dx ns=>
     have e:a=dx:=List.mem_singleton.mp c;rw[e,show H dx=some (.own b)from f];exact λz=>by cases z
    |_=>cases c
   .exact i a c)
  (λa c=>by rw[OV.L9]at c;cases c)
  (λ_ _ i k a c=>by
   rw[OV.Dt,PU]at c;exact c.elim (i a) (k a))
  r
theorem Be.length{F H:Hp}{vs:List V}{c:List OV}(r:Be F H vs c):vs.length=c.length:=by
 induction c generalizing vs with
 |nil=>cases r.DI;rfl
 |cons p ps d=>obtain⟨v,ws,rfl,a,b⟩:=r.inv;exact pZ (· + 1) (d b)
inductive Slot where
 |any|is (p:PV)|own (xs:List PV)|AE|sq (tp:Bool) (xs:List PV)|raw (P:Hp->V->Prop)|ow (lt:Bool) (t:OV)
variable{ss:List Slot}{s:Slot}{fO nx:List Slot->Prop}
structure Ent0 where
 A:List Addr
 F0:Hp
 H0:Hp
 B:List Addr
variable{E:Ent0}
noncomputable abbrev E3(A:List Addr)(F H:Hp):Ent0:=⟨A,F,H,[]⟩
def Ok(E:Ent0)(F H:Hp):Slot->Option (Option V)->Prop
 | .any,_=>True
 | .is p,o=>∃v,o=some (some v)/\Rep F v p
 | .own xs,o=>∃l vs,o=some (some (.ref l))/\F l=none/\E.H0 l=none/\H l=some (.lst vs)/\AJ F vs xs
 | .AE,o=>∃l,o=some (some (.ref l))/\F l=none/\(E.H0 l=none∨l∈E.A)/\Bq H l
 | .sq true xs,o=>∃v,o=some (some v)/\Rep F v (.tup xs)
 | .sq false xs,o=>∃l vs,o=some (some (.ref l))/\(l∉E.A/\l∉E.B)/\E.H0 l=some (.lst vs)/\AJ F vs xs
 | .raw P,o=>∃v,o=some (some v)/\P F v/\∀F F',AI F F'->P F v->P F' v
 | .ow lt t,o=>∃v,o=some (some v)/\Aw F H v t/\t.addrs.Nodup/\∀a∈t.addrs,F a=none/\(E.H0 a=none∨(lt=true/\a∈E.B))
def Bf:Slot->Option (Option V)->Addr->Prop
 | .own _,o,l=>o=some (some (.ref l))
 | .AE,o,l=>o=some (some (.ref l))
 | .ow _ t,_,l=>l∈t.addrs
 |_,_,_=>False
structure Fin (E:Ent0) (F H:Hp):Prop where
 fh:AI F H
 f0:AI E.F0 F
 keep:∀a o,(a∉E.A/\a∉E.B)->E.H0 a=some o->H a=some o
 fresh:∀a o,F a=some o->E.F0 a=some o∨E.H0 a=none
 EI:∀a,a∈E.A->Bq H a
 MP:∀a,a∈E.A->F a=none
 a0:∀a,a∈E.A->E.H0 a≠none
 bF:∀a,a∈E.B->F a=none
 bH:∀a,a∈E.B->H a≠none
 b0:∀a,a∈E.B->E.H0 a≠none/\a∉E.A
structure Sg (E:Ent0) (ss:List Slot) (Z:L2.St) (F H:Hp):Prop extends Fin E F H where
 len:ss.length=Z.length
 ok:∀(i:Nat)s,ss[i]?=some s->Ok E F H s Z[i]?
 Bv:∀(i j:Nat)s u l,i≠j->ss[i]?=some s->ss[j]?=some u->Bf s Z[i]? l->¬ Bf u Z[j]? l
structure Ex where
 C:Addr
 ns:List Str
 xs:List PV
def Ex.at(x:Ex)(F:Hp)(C:Value)(dx:Option Addr):Prop:=
 C=.ref x.C/\((x.ns=[]/\x.xs=[]/\dx=none)∨∃a vs,dx=some a/\F a=some (.xd (x.ns.zip vs))/\x.ns.length=vs.length/\AJ F vs x.xs)
class Xw where
 e:L2.St->XK
 J:List Slot->Prop
 D:Ex->Prop
structure Ent [Xw] extends Ent0 where
 hx:∀(ss:List Slot)(Z:L2.St)(F H:Hp)(x:Ex)(C:Value)(dx:Option Addr),Xw.J ss->Sg toEnt0 ss Z F H->Xw.D x->x.at F C dx->Xw.e Z C dx H
instance [Xw]:CoeOut Ent Ent0:=⟨Ent.toEnt0⟩
noncomputable instance noX:Xw:=⟨λ_=>E0,λ_=>True,λ_=>False⟩
def Cp(ss:List Slot)(Z:L2.St)(a:Addr):Prop:=∀i:Nat,ss[i]?=some .AE->Z[i]?≠some (some (.ref a))
structure Mv (E:Ent0) (ss:List Slot) (Z:L2.St) (F H F' H':Hp):Prop where
 st:Sg E ss Z F' H'
 ff:AI F F'
 hh:∀a o,Cp ss Z a->H a=some o->H' a=some o
 nn:∀a o,F' a=some o->F a=some o∨H a=none
theorem Sg.Jn(S:Sg E ss Z F H)(h:H l=none):Cp ss Z l:=λi hi e=>by
 obtain⟨b,e1,_,_,_,_,a,_⟩:=S.ok i _ hi;rw[e]at e1;cases e1;rw[h]at a;cases a
theorem Mv.none(m:Mv E ss Z F H F' H')(h:H' a=none):H a=none:=by
 cases e:H a with
 |none=>rfl
 |some o=>rw[m.hh a o (m.st.Jn h) e]at h;cases h
theorem Mv.refl{E:Ent0}{ss:List Slot}{Z:L2.St}{F H:Hp}(S:Sg E ss Z F H):Mv E ss Z F H F H:=⟨S,AI.refl _,λ_ _ _ e=>e,λ_ _ e=>.inl e⟩
theorem Mv.trans{F1 H1 F2 H2:Hp}(a:Mv E ss Z F H F1 H1)(b:Mv E ss Z F1 H1 F2 H2):Mv E ss Z F H F2 H2:=
 ⟨b.st,a.ff.trans b.ff,λc o n e=>b.hh c o n (a.hh c o n e),λc o e=>(b.nn c o e).elim (λe=>a.nn c o e) λe=>.inr (a.none e)⟩
theorem Sg.Ee(S:Sg E ss Z F H){p:Addr}(h:H p=none):E.H0 p=none:=by
 cases e:E.H0 p with
 |none=>rfl
 |some o=>
  by_cases q:p∈E.A
  .obtain⟨_,_,e1,_⟩:=S.EI p q;rw[h]at e1;cases e1
  .by_cases a:p∈E.B
   .exact absurd h (S.bH p a)
   .rw[S.keep p o ⟨q,a⟩ e]at h;cases h
theorem Sg.Bo(S:Sg E ss Z F H){p:Addr}(h:H p=none):F p=none:=AI.none S.fh h
theorem Bq.keep(h:Bq H l)(k:∀o,H l=some o->H' l=some o):Bq H' l:=by
 obtain⟨a,b,e,r⟩:=h;exact⟨a,b,k _ e,r⟩
theorem Sg.Yy(S:Sg E ss Z F H)(h:F l=some o):Cp ss Z l:=λi hi e=>by
 obtain⟨b,e1,a,_⟩:=S.ok i _ hi;rw[e]at e1;cases e1;rw[h]at a;cases a
theorem Sg.ZF(S:Sg E ss Z F H)(a:l∉E.A)(h:E.H0 l=some o):Cp ss Z l:=λi hi e=>by
 obtain⟨b,e1,_,q,_⟩:=S.ok i _ hi;rw[e]at e1;cases e1;rcases q with q|q
 .rw[h]at q;cases q
 .exact a q
theorem Sg.pH(S:Sg E ss Z F H)(h:l∈E.B):Cp ss Z l:=λi hi e=>by
 obtain⟨c,e1,_,q,_⟩:=S.ok i _ hi;rw[e]at e1;cases e1;obtain⟨b,a⟩:=S.b0 l h;rcases q with q|q
 .exact b q
 .exact a q
theorem Sg.Gy(S:Sg E ss Z F H)(h:ss[i]?=some s)(m:Bf s Z[i]? l):H l≠none:=by
 have k:=S.ok i s h;cases s with
 |own xs=>obtain⟨b,vs,e1,_,_,a,_⟩:=k;rw[show Z[i]?=some (some (.ref l))from m]at e1;cases e1;rw[a];simp
 |AE=>obtain⟨b,e1,_,_,_,_,a,_⟩:=k;rw[show Z[i]?=some (some (.ref l))from m]at e1;cases e1;rw[a];simp
 |ow lt t=>obtain⟨v,_,r,_⟩:=k;exact r.there l m
 |_=>cases m
theorem Sg.Ku(S:Sg E ss Z F H)(h:ss[i]?=some s)(a:H l=none):¬ Bf s Z[i]? l:=λm=>S.Gy h m a
theorem Sg.Uj(S:Sg E ss Z F H)(h:ss[i]?=some s)(m:Bf s Z[i]? l)(np:s≠.AE):Cp ss Z l:=λj a b=>
 S.Bv i j s _ l (by rintro rfl;rw[h]at a;exact np (BW a)) h a m b
theorem Ok.go(S:Sg E ss Z F H)(hi:ss[i]?=some s)(ff:AI F F')(hk:∀a o,Bf s Z[i]? a->H a=some o->H' a=some o)(Bo:∀a,H a≠none->F a=none->F' a=none)(np:s≠.AE):Ok E F' H' s Z[i]?:=by
 have k:=S.ok i s hi;cases s with
 |any=>trivial
 |is p=>obtain⟨v,e,r⟩:=k;exact⟨v,e,r.mono ff⟩
 |own xs=>
  obtain⟨l,vs,e,e1,c,d,r⟩:=k;exact⟨l,vs,e,Bo l (by rw[d];simp) e1,c,hk l _ e d,r.mono ff⟩
 |AE=>exact absurd rfl np
 |sq tp xs=>
  cases tp with
  |true=>obtain⟨v,e,r⟩:=k;exact⟨v,e,r.mono ff⟩
  |false=>obtain⟨l,vs,e,e1,c,r⟩:=k;exact⟨l,vs,e,e1,c,r.mono ff⟩
 |raw P=>obtain⟨v,e,r,st⟩:=k;exact⟨v,e,st _ _ ff r,st⟩
 |ow lt t=>
  obtain⟨v,e,r,nd,q⟩:=k;exact⟨v,e,r.mono ff λa b o=>hk a o b,nd,λa b=>⟨Bo a (r.there a b) (q a b).1,(q a b).2⟩⟩
theorem Sg.step(S:Sg E ss Z F H)(ff:AI F F')(fh:AI F' H')(hk:∀a o,Cp ss Z a->H a=some o->H' a=some o)(d:∀a o,F' a=some o->F a=some o∨H a=none)
  (f:∀(i:Nat)l,ss[i]?=some .AE->Z[i]?=some (some (.ref l))->Bq H' l):Mv E ss Z F H F' H':=by
 have Bo:∀a,H a≠none->F a=none->F' a=none:=λa h1 h2=>by
  cases e:F' a with
  |none=>rfl
  |some o=>
   rcases d a o e with q|q
   .rw[h2]at q;cases q
   .exact absurd q h1
 have g:∀a,Bq H a->Cp ss Z a->Bq H' a:=λa p n=>Bq.keep p λo e=>hk a o n e;refine⟨⟨⟨fh,S.f0.trans ff,λa o b e=>?_,λa o e=>?_,λa b=>?_,λa b=>?_,S.a0,λa c=>Bo a (S.bH a c) (S.bF a c),λa c=>?_,S.b0⟩,S.len,λi s hi=>?_,S.Bv⟩,ff,hk,d⟩
 .exact hk a o (S.ZF b.1 e) (S.keep a o b e)
 .rcases d a o e with q|q
  .exact S.fresh a o q
  .exact .inr (S.Ee q)
 .by_cases q:∃i:Nat,ss[i]?=some .AE/\Z[i]?=some (some (.ref a))
  .obtain⟨i,j,h⟩:=q;exact f i a j h
  .exact g a (S.EI a b) λi h1 h2=>q ⟨i,h1,h2⟩
 .refine Bo a ?_ (S.MP a b);obtain⟨_,_,e1,_⟩:=S.EI a b;rw[e1];simp
 .obtain⟨o,e⟩:=Option.ne_none_iff_exists'.mp (S.bH a c);rw[hk a o (S.pH c) e];simp
 .by_cases np:s=.AE
  .subst np;obtain⟨l,e,e1,t,r⟩:=S.ok i _ hi;have u:=r;obtain⟨_,_,k,_⟩:=u;exact⟨l,e,Bo l (by rw[k];simp) e1,t,f i l hi e⟩
  .exact Ok.go S hi ff (λa o m=>hk a o (S.Uj hi m np)) Bo np
theorem Sg.Fp(S:Sg E ss Z F H)(hi:ss[i]?=some .AE)(e:Z[i]?=some (some (.ref l))):Bq H l:=by
 obtain⟨a,e1,_,_,p⟩:=S.ok i _ hi;rw[e]at e1;cases e1;exact p
theorem Sg.alloc(S:Sg E ss Z F H){p:Addr}(h:H p=none)(o:HO):Mv E ss Z F H (upd F p o) (upd H p o):=by
 refine S.step (CH (S.Bo h) _) (λa u e=>?_) (λa u _ e=>CH h o a u e) (λa u e=>?_) λi l hi e=>Bq.keep (S.Fp hi e) λu e=>CH h o l u e
 .by_cases q:a=p
  .subst q;rw[AZ]at e ⊢;exact e
  .rw[AY q]at e ⊢;exact S.fh a u e
 .by_cases q:a=p
  .subst q;exact .inr h
  .rw[AY q]at e;exact .inl e
theorem Sg.make(S:Sg E ss Z F H){p:Addr}(h:H p=none)(o:HO):Mv E ss Z F H F (upd H p o):=
 S.step (AI.refl _) (S.fh.trans (CH h o)) (λa u _ e=>CH h o a u e) (λa u e=>.inl e) λi l hi e=>Bq.keep (S.Fp hi e) λu e=>CH h o l u e
theorem Sg.grow(S:Sg E ss Z F H)(s:AI H H'):Mv E ss Z F H F H':=
 S.step (AI.refl _) (S.fh.trans s) (λa u _ e=>s a u e) (λa u e=>.inl e) λi l hi e=>Bq.keep (S.Fp hi e) λu e=>s l u e
theorem Sg.setG(S:Sg E ss Z F H)(AG:Ok E F H s (some (some v)))(d:∀l,Bf s (some (some v)) l->∀(i:Nat)u,i≠j->ss[i]?=some u->¬ Bf u Z[i]? l):Sg E (ss.set j s) (Z.set j (some v)) F H:=by
 refine⟨S.toFin,by rw[Hg,Hg];exact S.len,λi u hi=>?_,λi k u w l Rz hi hk mu b=>?_⟩
 .by_cases q:i=j
  .subst q;have a:i<ss.length:=by have:=(List.getElem?_eq_some_iff.mp hi).1;simpa using this
   rw[DP a]at hi;cases hi;rw[DP (by rw[<- S.len];exact a)];exact AG
  .rw[Cr (Bh q)]at hi ⊢;exact S.ok i u hi
 .by_cases q:i=j
  .subst q;have a:i<ss.length:=by have:=(List.getElem?_eq_some_iff.mp hi).1;simpa using this
   rw[DP a]at hi;rw[DP (by rw[<- S.len];exact a)]at mu;cases hi;rw[Cr Rz]at hk b;exact d l mu k w (Bh Rz) hk b
  .rw[Cr (Bh q)]at hi mu
   by_cases c:k=j
   .subst c;have a:k<ss.length:=by have:=(List.getElem?_eq_some_iff.mp hk).1;simpa using this
    rw[DP a]at hk;cases hk;rw[DP (by rw[<- S.len];exact a)]at b;exact d l b i u Rz hi mu
   .rw[Cr (Bh c)]at hk b;exact S.Bv i k u w l Rz hi hk mu b
theorem Sg.IE(S:Sg E ss Z F H)(r:Rep F v p):Sg E (ss.set j (.is p)) (Z.set j (some v)) F H:=S.setG ⟨v,rfl,r⟩ λ_ h=>by cases h
def Sv(ss:List Slot)(Z:L2.St)(F H:Hp)(v:V):Bool->List PV->Prop
 |true,xs=>Rep F v (.tup xs)
 |false,xs=>∃l vs,v=.ref l/\Cp ss Z l/\H l=some (.lst vs)/\AJ F vs xs
def Fv(E:Ent0)(F:Hp)(v:V):Bool->List PV->Prop
 |true,xs=>Rep F v (.tup xs)
 |false,xs=>∃l vs,v=.ref l/\(F l=some (.lst vs)∨((l∉E.A/\l∉E.B)/\E.H0 l=some (.lst vs)))/\AJ F vs xs
structure Wp [Xw] (ss:List Slot) (t:TE) (k:PV->Prop):Prop where
 go:∀(E:Ent)(Z:L2.St)(F H:Hp)(Q:VK),Sg E ss Z F H->(∀v p F' H',Mv E ss Z F H F' H'->Rep F' v p->k p->Q v H')->t Z H Q
structure Wn [Xw] (ss:List Slot) (t:TE) (k:List PV->Prop):Prop where
 go:∀(E:Ent)(Z:L2.St)(F H:Hp)(Q:VK),Sg E ss Z F H->(∀l vs xs F' H',Mv E ss Z F H F' H'->F' l=none->H l=none->H' l=some (.lst vs)->AJ F' vs xs->k xs->Q (.ref l) H')->t Z H Q
structure Wq [Xw] (ss:List Slot) (t:TE) (k:Bool->List PV->Prop):Prop where
 go:∀(E:Ent)(Z:L2.St)(F H:Hp)(Q:VK),Sg E ss Z F H->(∀v tp xs F' H',Mv E ss Z F H F' H'->Sv ss Z F' H' v tp xs->k tp xs->Q v H')->t Z H Q
structure Wz [Xw] (ss:List Slot) (t:TE) (k:Bool->List PV->Prop):Prop where
 go:∀(E:Ent)(Z:L2.St)(F H:Hp)(Q:VK),Sg E ss Z F H->(∀v tp xs F' H',Mv E ss Z F H F' H'->Fv E F' v tp xs->k tp xs->Q v H')->t Z H Q
structure Wt [Xw] (ss:List Slot) (t:TT) (k:Bool->Prop):Prop where
 go:∀(E:Ent)(Z:L2.St)(F H:Hp)(Q:Bool->Hp->Prop),Sg E ss Z F H->(∀b F' H',Mv E ss Z F H F' H'->k b->Q b H')->t Z H Q
def Av(ss:List Slot)(Z:L2.St)(F H:Hp)(v:V):Slot->Prop
 | .is p=>Rep F v p
 | .sq tp xs=>Sv ss Z F H v tp xs
 | .raw P=>P F v/\∀F F',AI F F'->P F v->P F' v
 |_=>False
inductive Hr (ss:List Slot) (Z:L2.St) (F H:Hp):List V->List Slot->Prop where
 |nil:Hr ss Z F H [] []
 |cons {v:V}{s:Slot}{vs:List V}{l:List Slot}:Av ss Z F H v s->Hr ss Z F H vs l->Hr ss Z F H (v::vs) (s::l)
structure Wa [Xw] (ss:List Slot) (t:TA) (k:List Slot->Prop):Prop where
 go:∀(E:Ent)(Z:L2.St)(F H:Hp)(Q:List V->Hp->Prop),Sg E ss Z F H->(∀vs l F' H',Mv E ss Z F H F' H'->Hr ss Z F' H' vs l->k l->Q vs H')->t Z H Q
inductive Ao where
 |is (k:PV->Prop)|new (k:List PV->Prop)|AE|ow (k:OV->Prop)|mt (k:PV->OV->Prop)|Jj (k:PV->OV->OV->Prop)
noncomputable def OV.val:OV->V
 | .nd _ a _=>.ref a
 |_=>.A9
def Ao.ok(R:Ao)(E:Ent0)(F' H':Hp)(v:V):Prop:=match R with
 | .is k=>∃p,Rep F' v p/\k p
 | .new k=>∃l vs xs,v=.ref l/\F' l=none/\E.H0 l=none/\H' l=some (.lst vs)/\AJ F' vs xs/\k xs
 | .AE=>∃l,v=.ref l/\F' l=none/\E.H0 l=none/\Bq H' l
 | .ow k=>∃t,Aw F' H' v t/\t.addrs.Nodup/\(∀a∈t.addrs,F' a=none/\E.H0 a=none)/\k t
 | .mt k=>∃p t,Rep F' v p/\Aw F' H' t.val t/\t.addrs.Nodup/\(∀a∈t.addrs,F' a=none/\(E.H0 a=none∨a∈E.B))/\k p t
 | .Jj k=>∃p t u,Rep F' v p/\Aw F' H' t.val t/\Aw F' H' u.val u/\(t.addrs++u.addrs).Nodup/\(∀a∈t.addrs++u.addrs,F' a=none/\(E.H0 a=none∨a∈E.B))/\k p t u
structure Ws [Xw] (ss:List Slot) (t:TS) (nx:List Slot->Prop) (R:Ao):Prop where
 go:∀(E:Ent)(D:Ends)(Z:L2.St)(F H:Hp),Sg E ss Z F H->(∀A6 σ' F' H',nx A6->Sg E A6 σ' F' H'->AI F F'->D.nx σ' H')->(∀v F' H',Fin E F' H'->R.ok E F' H' v->D.rt v H')->t D Z H
section
variable[Xw]
variable{K:ZDv}{tb:TE}{k:PV->Prop}{R:Ao}
theorem Sv.mv(h:Sv ss Z F H v tp xs)(m:Mv E ss Z F H F' H'):Sv ss Z F' H' v tp xs:=by
 cases tp with
 |true=>exact Rep.mono m.ff h
 |false=>
  obtain⟨l,vs,e,n,r,q⟩:=h;exact⟨l,vs,e,n,m.hh l _ n r,q.mono m.ff⟩
theorem Sv.seq(S:Sg E ss Z F H)(h:Sv ss Z F H v tp xs):∃l vs,v=.ref l/\H l=some (CF tp vs)/\AJ F vs xs:=by
 cases tp with
 |true=>cases h with|tup e r=>exact⟨_,_,rfl,S.fh _ _ e,r⟩
 |false=>obtain⟨l,vs,e,_,r,q⟩:=h;exact⟨l,vs,e,r,q⟩
theorem Fv.sv(S:Sg E ss Z F H)(h:Fv E F v tp xs):Sv ss Z F H v tp xs:=by
 cases tp with
 |true=>exact h
 |false=>
  obtain⟨l,vs,e,h1|⟨a,h1⟩,r⟩:=h
  .exact⟨l,vs,e,S.Yy h1,S.fh _ _ h1,r⟩
  .exact⟨l,vs,e,S.ZF a.1 h1,S.keep _ _ a h1,r⟩
theorem ofT{A B:Prop}(h:if true=true then A else B):A:=h
theorem Si{A B:Prop}(h:if false=true then A else B):B:=h
class Flt {α:Type} (f:α->PV) (g:outParam (α->V)):Prop where
 eq:∀{F:Hp}{v:V}{i:α},Rep F v (f i)->v=g i
instance:Flt PV.int V.int:=⟨λr=>r.inv⟩
instance:Flt PV.str V.str:=⟨λr=>r.inv⟩
instance:Flt PV.bl V.bl:=⟨λr=>r.inv⟩
instance:Flt (λn:Nat=>PV.int n) λn:Nat=>V.int n:=⟨λr=>r.inv⟩
theorem Wp.el{f:α->PV}{g:α->V}[i:Flt f g]{k:α->Prop}(h:Wp ss te λx=>∃i,x=f i/\k i)(E:Ent)(S:Sg E ss Z F H)(q:∀i F1 H1,Mv E ss Z F H F1 H1->k i->Q (g i) H1):te Z H Q:=
 h.go E Z F H Q S λv p F1 H1 m r z=>by
  obtain⟨j,e,kk⟩:=z;subst e;rw[i.eq r];exact q j F1 H1 m kk
theorem Wp.mono{k':PV->Prop}(h:Wp ss te k)(i:∀p,k p->k' p):Wp ss te k':=⟨λE Z F H Q S q=>h.go E Z F H Q S λv p F' H' m r kk=>q v p F' H' m r (i p kk)⟩
theorem A5(h:ss[i]?=some (.is p))(hk:k p):Wp ss (Ap i) k:=⟨λE Z F H Q S q=>by
 obtain⟨v,a,r⟩:=S.ok i _ h;exact⟨v,a,q v p F H (.refl S) r hk⟩⟩
theorem C6{i:Int}(hk:k (.int i)):Wp ss (tC (.int i)) k:=⟨λE Z F H Q S q=>q _ _ F H (.refl S) (.int i) hk⟩
theorem bQ{x:Str}(hk:k (.str x)):Wp ss (tC (.str x)) k:=⟨λE Z F H Q S q=>q _ _ F H (.refl S) (.str x) hk⟩
theorem Dp(hk:k (.bl b)):Wp ss (tC (.bl b)) k:=⟨λE Z F H Q S q=>q _ _ F H (.refl S) (.bl b) hk⟩
theorem M7(hk:k .A9):Wp ss (tC .A9) k:=⟨λE Z F H Q S q=>q _ _ F H (.refl S) .A9 hk⟩
theorem As(h:Wn ss te (λxs=>k (.lst xs))):Wp ss te k:=⟨λE Z F H Q S q=>h.go E Z F H Q S λl vs xs F' H' m c f E8 r kk=>by
 have b:=m.st;have z:Mv E ss Z F H (upd F' l (.lst vs)) H':=by
  have A:∀a,H' a≠none->a≠l->F' a=none->upd F' l (.lst vs) a=none:=λa _ h1 h2=>by rw[AY h1];exact h2
  refine⟨⟨⟨λa u e=>?_,b.f0.trans (CH c _),b.keep,λa u e=>?_,b.EI,λa y=>?_,b.a0,λa x=>?_,b.bH,b.b0⟩,b.len,λi s hi=>?_,b.Bv⟩,m.ff.trans (CH c _),m.hh,λa u e=>?_⟩
  .by_cases q:a=l
   .subst q;rw[AZ]at e;rw[<- e];exact E8
   .rw[AY q]at e;exact b.fh a u e
  .by_cases q:a=l
   .subst q;exact .inr (S.Ee f)
   .rw[AY q]at e;exact b.fresh a u e
  .by_cases q:a=l
   .subst q;obtain⟨_,_,e,_⟩:=S.EI _ y;rw[f]at e;cases e
   .rw[AY q];exact b.MP a y
  .by_cases q:a=l
   .subst q;exact absurd f (S.bH _ x)
   .rw[AY q];exact b.bF a x
  .have w:∀a,Bf s Z[i]? a->a≠l:=by
    rintro a m rfl;exact S.Ku hi f m
   have kk:=b.ok i s hi;cases s with
   |any=>trivial
   |is p=>obtain⟨v,e,r⟩:=kk;exact⟨v,e,r.mono (CH c _)⟩
   |own ys=>
    obtain⟨d,ws,e,e1,g,n,r⟩:=kk;exact⟨d,ws,e,by rw[AY (w d e)];exact e1,g,n,r.mono (CH c _)⟩
   |AE=>
    obtain⟨d,e,e1,g,n⟩:=kk;exact⟨d,e,by rw[AY (w d e)];exact e1,g,n⟩
   |sq tp ys=>
    cases tp with
    |true=>obtain⟨v,e,r⟩:=kk;exact⟨v,e,r.mono (CH c _)⟩
    |false=>obtain⟨d,ws,e,e1,g,r⟩:=kk;exact⟨d,ws,e,e1,g,r.mono (CH c _)⟩
   |raw P=>obtain⟨v,e,r,st⟩:=kk;exact⟨v,e,st _ _ (CH c _) r,st⟩
   |ow lt t=>
    obtain⟨v,e,r,nd,q⟩:=kk;exact⟨v,e,r.mono (CH c _) λa _ o h=>h,nd,λa j=>⟨by rw[AY (w a j)];exact(q a j).1,(q a j).2⟩⟩
  .by_cases q:a=l
   .subst q;exact .inr f
   .rw[AY q]at e;exact m.nn a u e
 exact q _ _ _ _ z (.lst AZ (r.mono (CH c _))) kk⟩
theorem B9{k:Bool->List PV->Prop}(h:Wp ss te (λp=>∃xs,(p=.lst xs/\k false xs)∨(p=.tup xs/\k true xs))):Wq ss te k:=⟨λE Z F H Q S q=>h.go E Z F H Q S λv p F' H' m r AX=>by
 obtain⟨xs,h⟩:=AX;rcases h with⟨rfl,kk⟩|⟨rfl,kk⟩
 .cases r with|lst h r=>exact q _ false xs F' H' m ⟨_,_,rfl,m.st.Yy h,m.st.fh _ _ h,r⟩ kk
 .exact q v true xs F' H' m r kk⟩
theorem Aq{k:Bool->List PV->Prop}(h:ss[i]?=some (.is (.lst xs)))(hk:k false xs):Wq ss (Ap i) k:=B9 (A5 h ⟨xs,.inl ⟨rfl,hk⟩⟩)
theorem MV{k:Bool->List PV->Prop}(h:ss[i]?=some (.is (.tup xs)))(hk:k true xs):Wq ss (Ap i) k:=B9 (A5 h ⟨xs,.inr ⟨rfl,hk⟩⟩)
theorem Hv{k:Bool->List PV->Prop}(h:ss[i]?=some (.own xs))(hk:k false xs):Wq ss (Ap i) k:=⟨λE Z F H Q S q=>by
 obtain⟨l,vs,e,e1,b,a,r⟩:=S.ok i _ h;exact⟨_,e,q _ false xs F H (.refl S) ⟨l,vs,rfl,S.Uj h e (by simp),a,r⟩ hk⟩⟩
theorem UB{k:Bool->List PV->Prop}(h:ss[i]?=some (.sq tp xs))(hk:k tp xs):Wz ss (Ap i) k:=⟨λE Z F H Q S q=>by
 have kk:=S.ok i _ h;cases tp with
 |true=>obtain⟨v,e,r⟩:=kk;exact⟨_,e,q _ true xs F H (.refl S) r hk⟩
 |false=>
  obtain⟨l,vs,e,a,b,r⟩:=kk;exact⟨_,e,q _ false xs F H (.refl S) ⟨l,vs,rfl,.inr ⟨a,b⟩,r⟩ hk⟩⟩
theorem CY{k:Bool->List PV->Prop}(h:Wp ss te (λp=>∃xs,(p=.lst xs/\k false xs)∨(p=.tup xs/\k true xs))):Wz ss te k:=⟨λE Z F H Q S q=>h.go E Z F H Q S λv p F' H' m r AX=>by
 obtain⟨xs,h⟩:=AX;rcases h with⟨rfl,kk⟩|⟨rfl,kk⟩
 .cases r with|lst h r=>exact q _ false xs F' H' m ⟨_,_,rfl,.inl h,r⟩ kk
 .exact q _ true xs F' H' m r kk⟩
theorem ze{k:Bool->List PV->Prop}(h:Wz ss te k):Wq ss te k:=⟨λE Z F H Q S q=>h.go E Z F H Q S λv tp xs F' H' m f kk=>q v tp xs F' H' m (f.sv m.st) kk⟩
theorem GU{k:Bool->List PV->Prop}(h:ss[i]?=some (.sq tp xs))(hk:k tp xs):Wq ss (Ap i) k:=ze (UB h hk)
theorem xi{C:Int->Int->Prop}(h:Wp ss ta λx=>∃i,x=.int i/\Wp ss tb λy=>∃j,y=.int j/\C i j/\k (.int (f i j))):Wp ss (Au (rI C λi j=>.int (f i j)) ta tb) k:=⟨λE Z F H Q S q=>
 h.el E S λi F1 H1 a h2=>
  h2.el E a.st λj F2 H2 m2 b=>by
   obtain⟨c,kk⟩:=b;exact⟨i,j,rfl,rfl,c,q _ _ F2 H2 (a.trans m2) (.int _) kk⟩⟩
theorem Jb(h:Wp ss ta λx=>∃i,x=.int i/\Wp ss tb λy=>∃j,y=.int j/\k (.int (f i j))):Wp ss (Au (GZ λi j=>.int (f i j)) ta tb) k:=⟨λE Z F H Q S q=>
 h.el E S λi F1 H1 a h2=>
  h2.el E a.st λj F2 H2 m2 kk=>by
   exact⟨i,j,rfl,rfl,q _ _ F2 H2 (a.trans m2) (.int _) kk⟩⟩
theorem uM{f:Int->Int->Bool}(h:Wp ss ta λx=>∃i,x=.int i/\Wp ss tb λy=>∃j,y=.int j/\k (.bl (f i j))):Wp ss (Au (GZ λi j=>.bl (f i j)) ta tb) k:=⟨λE Z F H Q S q=>
 h.el E S λi F1 H1 a h2=>
  h2.el E a.st λj F2 H2 m2 kk=>by
   exact⟨i,j,rfl,rfl,q _ _ F2 H2 (a.trans m2) (.bl _) kk⟩⟩
theorem WA{f:Int->Int}(h:Wp ss ta λx=>∃i,x=.int i/\k (.int (f i))):Wp ss (SO (rU λi=>.int (f i)) ta) k:=⟨λE Z F H Q S q=>
 h.el E S λi F1 H1 a kk=>by
  exact⟨i,rfl,q _ _ F1 H1 a (.int _) kk⟩⟩
noncomputable def alike:PV->PV->Bool
 | .int i,.int j=>decide (i=j)
 | .str i,.str j=>decide (i=j)
 | .bl i,.bl j=>decide (i=j)
 | .A9,.A9=>true
 |_,_=>false
def Mi(p q:PV):Bool:=flat p && flat q && U0 (Fz.enc p) (Fz.enc q)
theorem d8{q:PV}(h:Mi p q=true):decide (Fz.enc p=Fz.enc q)=alike p q:=by
 unfold Mi at h;rw[DN,DN]at h;obtain⟨⟨h1,h2⟩,a⟩:=h;cases p <;> first|exact Bool.noConfusion h1|skip
 all_goals cases q <;> first|exact Bool.noConfusion h2|exact Bool.noConfusion a|rfl|exact decide_eq_decide.mpr ⟨λe=>by injection e,pZ _⟩
theorem gR(h:Wp ss ta λx=>Wp ss tb λy=>Mi x y=true/\k (.bl (alike x y))):Wp ss (Au eU ta tb) k:=⟨λE Z F H Q S q=>
 h.go E Z F H _ S λv p F1 H1 a c h2=>h2.go E Z F1 H1 _ a.st λv2 p2 F2 H2 m2 b AX=>by
  obtain⟨sc,kk⟩:=AX;have d:=sc;unfold Mi at sc;rw[DN,DN]at sc;rw[c.enc sc.1.1,b.enc sc.1.2];refine⟨sc.2,?_⟩;rw[d8 d];exact q _ _ F2 H2 (a.trans m2) (.bl _) kk⟩
theorem cK(h:Wp ss ta λx=>Wp ss tb λy=>Mi x y=true/\k (.bl (!alike x y))):Wp ss (Au aX ta tb) k:=⟨λE Z F H Q S q=>
 h.go E Z F H _ S λv p F1 H1 a c h2=>h2.go E Z F1 H1 _ a.st λv2 p2 F2 H2 m2 b AX=>by
  obtain⟨sc,kk⟩:=AX;have d:=sc;unfold Mi at sc;rw[DN,DN]at sc;rw[c.enc sc.1.1,b.enc sc.1.2];refine⟨sc.2,?_⟩;rw[d8 d];exact q _ _ F2 H2 (a.trans m2) (.bl _) kk⟩
theorem Ru(h:Wp ss ta λx=>∃c,x=.bl c/\if c=true then Wp ss tb k else k (.bl false)):Wp ss (WQ ta tb) k:=⟨λE Z F H Q S q=>
 h.el E S λc F1 H1 a h2=>by
  refine⟨c,rfl,?_⟩;cases c with
  |true=>exact Og ((ofT h2).go E Z F1 H1 _ a.st λv2 p2 F2 H2 m2 b kk=>q _ _ F2 H2 (a.trans m2) b kk)
  |false=>exact ML (q _ _ F1 H1 a (.bl _) (Si h2))⟩
theorem yY(h:Wp ss ta λx=>∃c,x=.bl c/\if c=true then k (.bl true)else Wp ss tb k):Wp ss (Xc ta tb) k:=⟨λE Z F H Q S q=>
 h.el E S λc F1 H1 a h2=>by
  refine⟨c,rfl,?_⟩;cases c with
  |true=>exact Og (q _ _ F1 H1 a (.bl _) (ofT h2))
  |false=>exact ML ((Si h2).go E Z F1 H1 _ a.st λv2 p2 F2 H2 m2 b kk=>q _ _ F2 H2 (a.trans m2) b kk)⟩
theorem fM(h:Wp ss ta λx=>∃c,x=.bl c/\k (.bl (!c))):Wp ss (WR ta) k:=⟨λE Z F H Q S q=>
 h.el E S λc F1 H1 a kk=>⟨c,rfl,q _ _ F1 H1 a (.bl _) kk⟩⟩
theorem Od{f g:Int->Int->Bool}(h:Wp ss ta λx=>∃i,x=.int i/\Wp ss tb λy=>∃j,y=.int j/\if f i j=true then Wp ss tc (λz=>∃l,z=.int l/\k (.bl (g j l)))else k (.bl false)):
  Wp ss (PD (GZ λi j=>.bl (f i j)) (GZ λi j=>.bl (g i j)) ta tb tc) k:=⟨λE Z F H Q S q=>
 h.el E S λi F1 H1 b h2=>
  h2.el E b.st λj F2 H2 m2 a=>by
   refine⟨i,j,rfl,rfl,f i j,rfl,?_⟩;cases c:f i j with
   |true=>
    rw[c,p7 rfl]at a;rw[p7 rfl];exact a.el E m2.st λl F3 H3 d kk=>by
     exact⟨j,l,rfl,rfl,q _ _ F3 H3 (b.trans (m2.trans d)) (.bl _) kk⟩
   |false=>
    rw[c,mD (by decide)]at a;rw[mD (by decide)];exact q _ _ F2 H2 (b.trans m2) (.bl _) a⟩
theorem Ec{k:Bool->Prop}(h:Wp ss te λx=>∃c,x=.bl c/\k c):Wt ss (KY te) k:=⟨λE Z F H Q S q=>
 h.el E S λc F1 H1 a kk=>⟨c,rfl,q _ F1 H1 a kk⟩⟩
theorem GY{k:Bool->Prop}(h:Wp ss te λx=>∃c,x=.bl c/\k c):Wt ss (tB te) k:=⟨λE Z F H Q S q=>
 h.el E S λc F1 H1 a kk=>⟨c,rfl,q _ F1 H1 a kk⟩⟩
theorem G2{k:Bool->Prop}(h:k true):Wt ss MU k:=⟨λE Z F H Q S q=>q _ F H (.refl S) h⟩
theorem Le{t:TT}{k:Bool->Prop}(h:Wt ss t λc=>k (!c)):Wt ss (Xv t) k:=⟨λE Z F H Q S q=>h.go E Z F H _ S λc F1 H1 a kk=>q _ F1 H1 a kk⟩
theorem bh{t u:TT}{k:Bool->Prop}(h:Wt ss t λc=>if c=true then Wt ss u k else k false):Wt ss (Y7 t u) k:=⟨λE Z F H Q S q=>
 h.go E Z F H _ S λc F1 H1 a h2=>by
  show if c=true then _ else _
  cases c with
  |true=>exact Og ((ofT h2).go E Z F1 H1 _ a.st λb F2 H2 m2 kk=>q _ F2 H2 (a.trans m2) kk)
  |false=>exact ML (q _ F1 H1 a (Si h2))⟩
theorem L4{t u:TT}{k:Bool->Prop}(h:Wt ss t λc=>if c=true then k true else Wt ss u k):Wt ss (Ow t u) k:=⟨λE Z F H Q S q=>
 h.go E Z F H _ S λc F1 H1 a h2=>by
  show if c=true then _ else _
  cases c with
  |true=>exact Og (q _ F1 H1 a (ofT h2))
  |false=>exact ML ((Si h2).go E Z F1 H1 _ a.st λb F2 H2 m2 kk=>q _ F2 H2 (a.trans m2) kk)⟩
end
structure We [Xw] (ss:List Slot) (t:TA) (k:List PV->Prop):Prop where
 go:∀(E:Ent)(Z:L2.St)(F H:Hp)(Q:List V->Hp->Prop),Sg E ss Z F H->(∀vs ps F' H',Mv E ss Z F H F' H'->AJ F' vs ps->k ps->Q vs H')->t Z H Q
structure Wo [Xw] (ss:List Slot) (t:TO) (k:Option Int->Prop):Prop where
 go:∀(E:Ent)(Z:L2.St)(F H:Hp)(Q:Option Int->Hp->Prop),Sg E ss Z F H->(∀o F' H',Mv E ss Z F H F' H'->k o->Q o H')->t Z H Q
section
variable[Xw]
variable{K:ZDv}{tb:TE}{k:PV->Prop}{R:Ao}
theorem Cg{k:List PV->Prop}(h:k []):We ss BK k:=⟨λE Z F H Q S q=>q _ _ F H (.refl S) .nil h⟩
theorem Cb{k:List PV->Prop}(h:Wp ss te λp=>We ss t λps=>k (p::ps)):We ss (Ae te t) k:=⟨λE Z F H Q S q=>
 h.go E Z F H _ S λv p F1 H1 a c h2=>h2.go E Z F1 H1 _ a.st λvs ps F2 H2 m2 b kk=>q _ _ F2 H2 (a.trans m2) (.cons (c.mono m2.ff) b) kk⟩
theorem Bp{k:List Slot->Prop}(h:k []):Wa ss BK k:=⟨λE Z F H Q S q=>q _ _ F H (.refl S) .nil h⟩
theorem Ag{k:List Slot->Prop}(h:Wp ss te λp=>Wa ss t λl=>k (.is p::l)):Wa ss (Ae te t) k:=⟨λE Z F H Q S q=>
 h.go E Z F H _ S λv p F1 H1 a c h2=>h2.go E Z F1 H1 _ a.st λvs l F2 H2 m2 b kk=>q _ _ F2 H2 (a.trans m2) (.cons (s:=.is p) (c.mono m2.ff) b) kk⟩
theorem FO{k:List Slot->Prop}(h:Wq ss te λtp xs=>Wa ss t λl=>k (.sq tp xs::l)):Wa ss (Ae te t) k:=⟨λE Z F H Q S q=>
 h.go E Z F H _ S λv tp xs F1 H1 a c h2=>h2.go E Z F1 H1 _ a.st λvs l F2 H2 m2 b kk=>q _ _ F2 H2 (a.trans m2) (.cons (s:=.sq tp xs) (c.mv m2) b) kk⟩
theorem lg{k:List Slot->Prop}{P:Hp->V->Prop}(hi:ss[i]?=some (.raw P))(h:Wa ss t λl=>k (.raw P::l)):Wa ss (Ae (Ap i) t) k:=⟨λE Z F H Q S q=>by
 obtain⟨v,e,r,st⟩:=S.ok i _ hi;exact⟨v,e,h.go E Z F H _ S λvs l F2 H2 m2 a kk=>q _ _ F2 H2 m2 (.cons (s:=.raw P) ⟨st _ _ m2.ff r,st⟩ a) kk⟩⟩
theorem Nb{k:Option Int->Prop}(h:k none):Wo ss Im k:=⟨λE Z F H Q S q=>q _ F H (.refl S) h⟩
theorem OX{k:Option Int->Prop}(h:Wp ss te λp=>∃i,p=.int i/\k (some i)):Wo ss (J4 te) k:=⟨λE Z F H Q S q=>
 h.el E S λi F1 H1 a kk=>⟨i,rfl,q _ F1 H1 a kk⟩⟩
theorem LL{n:Nat}(h:n<=99999):n<sizeLine:=CS (Nat.lt_succ_of_le h) (small (Aa 100000))
theorem JK(h:We ss t λps=>ps.length<=100000/\k (.tup ps)):Wp ss (Qd t) k:=⟨λE Z F H Q S q=>
 h.go E Z F H _ S λvs ps F1 H1 c b AX=>by obtain⟨d,kk⟩:=AX;exact⟨small (by rw[b.length];exact d),λa e=>by
  have m2:=c.st.alloc e (.tup vs);exact q _ _ _ _ (c.trans m2) (.tup AZ (b.mono m2.ff)) kk⟩⟩
theorem EC{k:List PV->Prop}(h:We ss t λps=>ps.length<=100000/\k ps):Wn ss (O1 t) k:=⟨λE Z F H Q S q=>
 h.go E Z F H _ S λvs ps F1 H1 b d AX=>by obtain⟨f,kk⟩:=AX;exact⟨small (by rw[d.length];exact f),λa c=>by
  have m2:=b.st.make c (.lst vs);refine q a vs ps F1 _ (b.trans m2) (b.st.Bo c) ?_ AZ d kk;cases e:H a with
  |none=>rfl
  |some o=>rw[b.hh a o (b.st.Jn c) e]at c;cases c⟩⟩
theorem G0(h:Wq ss te λ_ xs=>k (.int xs.length)):Wp ss (CQ (JV K) (Ae te BK)) k:=⟨λE Z F H Q S q=>
 h.go E Z F H _ S λv tp xs F1 H1 a sv kk=>by
  obtain⟨l,vs,rfl,b,r⟩:=sv.seq a.st;refine⟨l,vs,rfl,(CF.sq (K:=K) b).or,?_⟩;rw[r.length];exact q _ _ F1 H1 a (.int _) kk⟩
theorem AJ.BZ{i:Int}(r:AJ F vs xs)(h:L2.BZ xs i=some p):∃u,L2.BZ vs i=some u/\Rep F u p:=by
 unfold L2.BZ at h ⊢;rw[r.length];cases e:FT xs.length i with
 |none=>rw[e]at h;cases h
 |some j=>
  rw[e]at h;exact r.get h
theorem DL(h:Wq ss ta λtp xs=>tp=false/\Wp ss tb λy=>∃i p,y=.int i/\L2.BZ xs i=some p/\k p):Wp ss (Au (DE K) ta tb) k:=⟨λE Z F H Q S q=>
 h.go E Z F H _ S λv tp xs F1 H1 a sv⟨j,h2⟩=>h2.go E Z F1 H1 _ a.st λv2 p2 F2 H2 m2 c⟨i,p,e,g,kk⟩=>by
  subst e;cases c.inv;subst j;obtain⟨l,vs,rfl,f,r⟩:=(sv.mv m2).seq m2.st;obtain⟨u,d,b⟩:=r.BZ g;exact⟨l,vs,i,u,rfl,rfl,AK.of f,d,q _ _ F2 H2 (a.trans m2) b kk⟩⟩
theorem JW(h:Wq ss ta λtp xs=>tp=true/\Wp ss tb λy=>∃i p,y=.int i/\L2.BZ xs i=some p/\k p):Wp ss (Au (HR K) ta tb) k:=⟨λE Z F H Q S q=>
 h.go E Z F H _ S λv tp xs F1 H1 a sv⟨j,h2⟩=>h2.go E Z F1 H1 _ a.st λv2 p2 F2 H2 m2 c⟨i,p,e,g,kk⟩=>by
  subst e;cases c.inv;subst j;obtain⟨l,vs,rfl,f,r⟩:=(sv.mv m2).seq m2.st;obtain⟨u,d,b⟩:=r.BZ g;exact⟨l,vs,i,u,rfl,rfl,Al.of f,d,q _ _ F2 H2 (a.trans m2) b kk⟩⟩
theorem VX(h:Wq ss ta λtp xs=>Wp ss tb λy=>∃i p,y=.int i/\L2.BZ xs i=some p/\k p):Wp ss (Au (λx y H Q=>DE K x y H Q∨HR K x y H Q) ta tb) k:=⟨λE Z F H Q S q=>
 h.go E Z F H _ S λv tp xs F1 H1 a sv h2=>h2.go E Z F1 H1 _ a.st λv2 p2 F2 H2 m2 f AX=>by
  obtain⟨i,p,e,g,kk⟩:=AX;subst e;cases f.inv;obtain⟨l,vs,rfl,d,r⟩:=(sv.mv m2).seq m2.st;obtain⟨u,c,b⟩:=r.BZ g;cases tp with
  |false=>exact .inl ⟨l,vs,i,u,rfl,rfl,AK.of d,c,q _ _ F2 H2 (a.trans m2) b kk⟩
  |true=>exact .inr ⟨l,vs,i,u,rfl,rfl,Al.of d,c,q _ _ F2 H2 (a.trans m2) b kk⟩⟩
theorem bG(h:Wp ss ta λp=>∃x,p=.str x/\Wq ss tb λ_ ys=>∃ns:List Str,ys=ns.map PV.str/\k (.bl (if neg then !decide (x∈ns)else decide (x∈ns)))):Wp ss (Au (Hn K neg) ta tb) k:=⟨λE Z F H Q S q=>
 h.el E S λx F1 H1 a h2=>by
  exact h2.go E Z F1 H1 _ a.st λv2 tp ys F2 H2 m2 sv Ks=>by
   obtain⟨ns,c,kk⟩:=Ks;subst c;obtain⟨l,vs,rfl,b,r⟩:=sv.seq m2.st;rw[r.strs]at b;refine⟨l,_,rfl,(CF.sq (K:=K) b).or,rfl,Ib ns,?_⟩;rw[Ry];exact q _ _ F2 H2 (a.trans m2) (.bl _) kk⟩
theorem GL{k:List PV->Prop}(d:r=λxs H Q=>∃p ys,xs=[.ref p]/\(AK K H p ys∨Al K H p ys)/\∀l,H l=none->Q (.ref l) (upd H l (.lst ys)))(h:Wq ss te λ_ xs=>k xs):Wn ss (CQ r (Ae te BK)) k:=⟨λE Z F H Q S q=>
 h.go E Z F H _ S λv tp xs F1 H1 b sv kk=>by
  subst d;obtain⟨l,vs,rfl,e,r⟩:=sv.seq b.st;refine⟨l,vs,rfl,(CF.sq (K:=K) e).or,λa c=>?_⟩;have m2:=b.st.make c (.lst vs);exact q a vs xs F1 _ (b.trans m2) (b.st.Bo c) (b.none c) AZ r kk⟩
theorem VT(d:r=λxs H Q=>∃p ys,xs=[.ref p]/\((AK K H p ys/\∀l,H l=none->Q (.ref l) (upd H l (.tup ys)))∨(Al K H p ys/\Q (.ref p) H)))(h:Wq ss te λ_ xs=>k (.tup xs)):Wp ss (CQ r (Ae te BK)) k:=⟨λE Z F H Q S q=>
 h.go E Z F H _ S λv tp xs F1 H1 b sv kk=>by
  subst d;cases tp with
  |false=>
   obtain⟨l,vs,rfl,f,r⟩:=sv.seq b.st;refine⟨l,vs,rfl,.inl ⟨AK.of f,λa g=>?_⟩⟩;have m2:=b.st.alloc g (.tup vs);exact q _ _ _ _ (b.trans m2) (.tup AZ (r.mono m2.ff)) kk
  |true=>
   have c:Rep F1 v (.tup xs):=sv;cases c with
   |tup e r=>exact⟨_,_,rfl,.inr ⟨Al.of (b.st.fh _ _ e),q _ _ F1 H1 b (.tup e r) kk⟩⟩⟩
theorem Pp{k:List PV->Prop}(h:Wq ss ta λtp xs=>tp=false/\Wq ss tb λBC ys=>BC=false/\xs.length+ys.length<=100000/\k (xs++ys)):Wn ss (Au K9 ta tb) k:=⟨λE Z F H Q S q=>
 h.go E Z F H _ S λv tp xs F1 H1 b sv⟨i,h2⟩=>h2.go E Z F1 H1 _ b.st λv2 BC ys F2 H2 m2 GC⟨Ky,f,kk⟩=>by
  subst i;subst Ky;obtain⟨l,vs,rfl,g,r⟩:=(sv.mv m2).seq m2.st;obtain⟨l2,Ez,rfl,Bl,d⟩:=GC.seq m2.st;refine⟨l,l2,vs,Ez,rfl,rfl,g,Bl,small (by rw[r.length,d.length];exact f),λa c=>?_⟩;have e:=m2.st.make c (.lst (vs++Ez));exact q a _ _ F2 _ (b.trans (m2.trans e)) (m2.st.Bo c) ((b.trans m2).none c) AZ (r.append d) kk⟩
def Ht(xs:List α)(lo hi:Option Int):List α:=(xs.drop (HT.Di xs.length 0 lo)).take (HT.Di xs.length xs.length hi - HT.Di xs.length 0 lo)
theorem AJ.cut(r:AJ F vs xs)(lo hi:Option Int):AJ F (LN vs lo hi) (Ht xs lo hi):=by
 unfold LN Ht;rw[r.length];exact(r.drop _).take _
theorem Ol{k:List PV->Prop}{tl th:TO}(h:Wq ss te λtp xs=>tp=false/\Wo ss tl λlo=>Wo ss th λhi=>k (Ht xs lo hi)):Wn ss (Ie (Ju K) te tl th) k:=⟨λE Z F H Q S q=>
 h.go E Z F H _ S λv tp xs F1 H1 c sv⟨i,h2⟩=>h2.go E Z F1 H1 _ c.st λlo F2 H2 m2 g=>g.go E Z F2 H2 _ m2.st λhi F3 H3 b kk=>by
  subst i;obtain⟨l,vs,rfl,f,r⟩:=(sv.mv (m2.trans b)).seq b.st;refine⟨l,vs,rfl,AK.of f,λa d=>?_⟩;have e:=b.st.make d (.lst (LN vs lo hi));exact q a _ _ F3 _ (c.trans (m2.trans (b.trans e))) (b.st.Bo d) ((c.trans (m2.trans b)).none d) AZ (r.cut lo hi) kk⟩
theorem L8{k:List PV->Prop}(h:Wq ss te λ_ xs=>∃ns:List Str,xs=ns.map PV.str/\ns.length<64/\∀D1:List Str,D1.Perm ns->sortedS D1=true->k (D1.map PV.str)):Wn ss (CQ (M5 K) (Ae te BK)) k:=⟨λE Z F H Q S q=>
 h.go E Z F H _ S λv tp xs F1 H1 b sv AX=>by
  obtain⟨ns,e,f,kk⟩:=AX;subst e;obtain⟨l,vs,rfl,d,r⟩:=sv.seq b.st;rw[r.strs]at d;refine⟨l,tp,ns,rfl,CF.sq d,f,λa D1 c i g=>?_⟩;have m2:=b.st.make c (.lst (D1.map V.str));exact q a _ _ F1 _ (b.trans m2) (b.st.Bo c) (b.none c) AZ (UY D1) (kk D1 i g)⟩
theorem lb(xs ys:List Str):FE (xs.map V.str) (ys.map V.str)=decide (xs=ys):=by
 by_cases h:xs=ys
 .subst h;rw[ZBj,kc rfl]
 .rw[oO h]
  by_cases a:xs.length=ys.length
  .rw[K5 (by simpa using a)]
   cases c:(List.range (xs.map V.str).length).all λj=>E6 ((xs.map V.str).getD j .A9) ((ys.map V.str).getD j .A9)with
   |false=>rfl
   |true=>
    exfalso;apply h;apply T4 a;intro j h1 h2;have q:=List.all_eq_true.mp c j (List.mem_range.mpr (by simpa using h1))
    have e1:(xs.map V.str)[j]?=some (.str xs[j]):=by rw[AS,AQ h1];rfl
    have d:(ys.map V.str)[j]?=some (.str ys[j]):=by rw[AS,AQ h2];rfl
    rw[Hc e1,Hc d]at q;have b:(xs[j] == ys[j])=true:=q
    simpa using b
  .rw[Jx (by simpa using a)]
theorem eR(h:Wq ss ta λtp xs=>∃ns:List Str,xs=ns.map PV.str/\Wq ss tb λBC ys=>BC=tp/\∃ms:List Str,ys=ms.map PV.str/\k (.bl (if neg then !decide (ns=ms)else decide (ns=ms)))):Wp ss (Au (Ir K neg) ta tb) k:=⟨λE Z F H Q S q=>
 h.go E Z F H _ S λv tp xs F1 H1 a sv⟨ns,e1,h2⟩=>h2.go E Z F1 H1 _ a.st λv2 BC ys F2 H2 m2 GC⟨d,ms,e,kk⟩=>by
  subst e1;subst e;subst d;obtain⟨l,vs,rfl,b,r⟩:=(sv.mv m2).seq m2.st;obtain⟨l2,Ez,rfl,Bl,c⟩:=GC.seq m2.st;rw[r.strs]at b;rw[c.strs]at Bl;refine⟨l,l2,ns.map V.str,ms.map V.str,rfl,rfl,?_,Ib _,Ib _,?_⟩
  .cases BC
   .exact .inl ⟨AK.of b,AK.of Bl⟩
   .exact .inr ⟨Al.of b,Al.of Bl⟩
  .rw[lb];cases neg
   .exact q _ _ F2 H2 (a.trans m2) (.bl _) kk
   .exact q _ _ F2 H2 (a.trans m2) (.bl _) kk⟩
theorem Ov(c:r=λxs H Q=>∃(p:Addr)(bs:List Bool),xs=[.ref p]/\AK K H p (bs.map V.bl)/\Q (.bl (bs.all id)) H)(h:Wq ss te λtp xs=>tp=false/\∃bs:List Bool,xs=bs.map PV.bl/\k (.bl (bs.all id))):Wp ss (CQ r (Ae te BK)) k:=⟨λE Z F H Q S q=>
 h.go E Z F H _ S λv tp xs F1 H1 a sv AX=>by
  obtain⟨d,bs,e,kk⟩:=AX;subst c;subst e;subst d;obtain⟨l,vs,rfl,b,r⟩:=sv.seq a.st;rw[r.Yz]at b;exact⟨l,bs,rfl,AK.of b,q _ _ F1 H1 a (.bl _) kk⟩⟩
theorem OL(c:r=λxs H Q=>∃(p:Addr)(bs:List Bool),xs=[.ref p]/\AK K H p (bs.map V.bl)/\Q (.bl (bs.any id)) H)(h:Wq ss te λtp xs=>tp=false/\∃bs:List Bool,xs=bs.map PV.bl/\k (.bl (bs.any id))):Wp ss (CQ r (Ae te BK)) k:=⟨λE Z F H Q S q=>
 h.go E Z F H _ S λv tp xs F1 H1 a sv AX=>by
  obtain⟨d,bs,e,kk⟩:=AX;subst c;subst e;subst d;obtain⟨l,vs,rfl,b,r⟩:=sv.seq a.st;rw[r.Yz]at b;exact⟨l,bs,rfl,AK.of b,q _ _ F1 H1 a (.bl _) kk⟩⟩
noncomputable def tyP:PV->String
 | .A9 => "NoneType"
 | .bl _ => "bool"
 | .int _ => "int"
 | .str _ => "str"
 | .lst _ => "list"
 | .tup _ => "tuple"
 | .BA _ _ => "dict"
 |_ => ""
def Kb:PV->Value
 | .obj _ _ _=>.none
 | .exc _ _ _=>.none
 | .con _ _=>.none
 |p=>.type (tyP p)
theorem Qt(h:PySem.W.kitOne K .none (.type n)=some b):False:=by
 unfold PySem.W.kitOne PySem.W.kitCls PySem.W.subIn at h;simp at h
theorem Rep.ZBN(s:AI F H)(r:Rep F v p)(a:PySem.W.kitOne K (Kb p) (.type n)=some b):FD K H v (Kb p):=by
 cases r with
 |A9=>exact .A9
 |bl b=>exact .bl b
 |int i=>exact .int i
 |str x=>exact .str x
 |lst h _=>exact .lst (s _ _ h)
 |tup h _=>exact .tup (s _ _ h)
 |BA h _ _=>exact .dK (s _ _ h)
 |obj _ _ _ _=>exact(Qt a).elim
 |RH _=>exact(Qt a).elim
 |con=>exact(Qt a).elim
 |exc _ _ _ _=>exact(Qt a).elim
theorem uK(h:Wp ss te λp=>∃b,PySem.W.kitOne K (Kb p) (.type n)=some b/\k (.bl b)):Wp ss (CQ (df K) (Ae te (Ae (tC (.ty n)) BK))) k:=⟨λE Z F H Q S q=>
 h.go E Z F H _ S λv p F1 H1 a r AX=>by obtain⟨b,c,kk⟩:=AX;exact⟨v,n,_,b,rfl,r.ZBN a.st.fh c,c,q _ _ F1 H1 a (.bl _) kk⟩⟩
theorem xk(c:r=λxs H Q=>∃i j,xs=[.int i,.int j]/\Q (.int (if j > i then j else i)) H)(h:Wp ss ta λx=>∃i,x=.int i/\Wp ss tb λy=>∃j,y=.int j/\k (.int (if j > i then j else i))):Wp ss (CQ r (Ae ta (Ae tb BK))) k:=⟨λE Z F H Q S q=>
 h.go E Z F H _ S λv p F1 H1 a b AX=>by
  obtain⟨i,e1,h2⟩:=AX;subst c;subst e1;cases b.inv;exact h2.el E a.st λj F2 H2 m2 kk=>by
   exact⟨i,j,rfl,q _ _ F2 H2 (a.trans m2) (.int _) kk⟩⟩
theorem tJ(c:r=λxs H Q=>∃i j,xs=[.int i,.int j]/\Q (.int (if j<i then j else i)) H)(h:Wp ss ta λx=>∃i,x=.int i/\Wp ss tb λy=>∃j,y=.int j/\k (.int (if j<i then j else i))):Wp ss (CQ r (Ae ta (Ae tb BK))) k:=⟨λE Z F H Q S q=>
 h.go E Z F H _ S λv p F1 H1 a b AX=>by
  obtain⟨i,e1,h2⟩:=AX;subst c;subst e1;cases b.inv;exact h2.el E a.st λj F2 H2 m2 kk=>by
   exact⟨i,j,rfl,q _ _ F2 H2 (a.trans m2) (.int _) kk⟩⟩
end
structure Src (E:Ent0) (F1:Hp) (J:It) (xs:List PV):Prop where
 go:∀(ss:List Slot)(Z:L2.St)(F H:Hp)(i:Nat),AI F1 F->Sg E ss Z F H->i<xs.length->J.go i H
 stop:∀(ss:List Slot)(Z:L2.St)(F H:Hp),AI F1 F->Sg E ss Z F H->J.stop xs.length H
 Dy:∀(ss:List Slot)(Z:L2.St)(F H:Hp)(i:Nat)(x:V)(H':Hp),AI F1 F->Sg E ss Z F H->i<xs.length->J.Dy i H x H'->∃p F',xs[i]?=some p/\Mv E ss Z F H F' H'/\Rep F' x p
structure Wi [Xw] (ss:List Slot) (wi:TI) (k:List PV->Prop):Prop where
 go:∀(E:Ent)(Z:L2.St)(F H:Hp)(R:It->Hp->Prop),Sg E ss Z F H->(∀J xs F' H',Mv E ss Z F H F' H'->Src E F' J xs->k xs->R J H')->wi Z H R
structure Wg [Xw] (ss:List Slot) (g:TG) (p:PV) (k:List Slot->Prop):Prop where
 go:∀(E:Ent)(Z:L2.St)(F H:Hp)(v:V)(Q:L2.St->Hp->Prop),Sg E ss Z F H->Rep F v p->(∀A6 σ',k A6->Sg E A6 σ' F H->Q σ' H)->g v Z H Q
section
variable[Xw]
variable{K:ZDv}{tb:TE}{k:PV->Prop}{R:Ao}
theorem j5(h:∀(ss:List Slot)(Z:L2.St)(F H:Hp),AI F' F->Sg E ss Z F H->H l=some (CF tp vs))(r:AJ F' vs xs):Src E F' (Jp K tp l vs) xs where
 go:=λss Z F H i s S hi=>⟨CF.sq (h ss Z F H s S),by rw[r.length];exact hi⟩
 stop:=λss Z F H s S=>⟨CF.sq (h ss Z F H s S),by rw[r.length];exact Aa _⟩
 Dy:=λss Z F H i x H' s S hi y=>by
  obtain⟨e,hx⟩:=y;subst e;obtain⟨p,b,a⟩:=r.get' hx;exact⟨p,F,b,.refl S,a.mono s⟩
theorem DR{k:List PV->Prop}(h:Wz ss te λ_ xs=>k xs):Wi ss (Q5 K te) k:=⟨λE Z F H R S q=>
 h.go E Z F H _ S λv tp xs F1 H1 a f kk=>by
  cases tp with
  |true=>
   have c:Rep F1 v (.tup xs):=f;cases c with
   |tup e r=>exact⟨true,_,_,rfl,Al.of (a.st.fh _ _ e),q _ _ F1 H1 a (j5 (tp:=true) (λss Z F H s S=>S.fh _ _ (s _ _ e)) r) kk⟩
  |false=>
   obtain⟨l,vs,rfl,h1,r⟩:=f;have b:∀(ss:List Slot)(Z:L2.St)(F H:Hp),AI F1 F->Sg E ss Z F H->H l=some (.lst vs):=λss Z F H s S=>by
    rcases h1 with h1|⟨hA,h1⟩
    .exact S.fh _ _ (s _ _ h1)
    .exact S.keep _ _ hA h1
   exact⟨false,l,vs,rfl,AK.of (b ss Z F1 H1 (AI.refl _) a.st),q _ _ F1 H1 a (j5 (tp:=false) b r) kk⟩⟩
noncomputable def GS(n:Nat):List PV:=(List.range n).map λi:Nat=>PV.int (i:Int)
theorem JZ(n:Nat):(GS n).length=n:=by simp[GS]
theorem NJ{n:Nat}(h:(GS n)[i]?=some p):i<n/\p=.int (i:Int):=by
 have hi:i<n:=by have:=(List.getElem?_eq_some_iff.mp h).1;rwa [JZ]at this
 unfold GS at h;rw[AS,N5 hi]at h;exact⟨hi,(BW h).symm⟩
theorem Kw{k:List PV->Prop}(h:Wp ss te λp=>∃j:Int,p=.int j/\j<=1000000/\-1000000<=j/\k (GS j.toNat)):Wi ss (RS (Ae te BK)) k:=⟨λE Z F H R S q=>
 h.el E S λj F1 H1 b a=>by
  obtain⟨h1,h2,kk⟩:=a;refine⟨j,rfl,by omega,by omega,q _ (GS j.toNat) F1 H1 b ⟨λss Z F H i s S hi=>?_,λss Z F H s S=>?_,λss Z F H i x H' s S hi y=>?_⟩ kk⟩
  .rw[JZ]at hi;exact hi
  .show _<=_;rw[JZ];exact Aa _
  .obtain⟨e,hx⟩:=y;subst e;subst hx;rw[JZ]at hi;refine⟨.int (i:Int),F,?_,.refl S,?_⟩
   .unfold GS;rw[AS,N5 hi];rfl
   .rw[Int.zero_add];exact .int _⟩
theorem GR{k:List Slot->Prop}(h:k (ss.set j (.is p))):Wg ss (D8 j) p k:=⟨λE Z F H v Q S r q=>q _ _ h (S.IE r)⟩
theorem NN{k:List Slot->Prop}(h:∃a b,p=.tup [a,b]/\k ((ss.set i (.is a)).set j (.is b))):Wg ss (KI K 2 (KA (D8 i) (KA (D8 j) NG))) p k:=⟨λE Z F H v Q S r q=>by
 obtain⟨a,b,rfl,kk⟩:=h;obtain⟨_,_,rfl,e,r⟩:=r.inv;obtain⟨_,_,rfl,d,r⟩:=r.inv;obtain⟨_,_,rfl,c,r⟩:=r.inv;obtain rfl:=r.DI;exact⟨_,_,rfl,Al.of (S.fh _ _ e),rfl,_,_,rfl,_,_,rfl,rfl,q _ _ kk ((S.IE d).IE c)⟩⟩
theorem xG{l:Nat}{k:List Slot->Prop}(h:∃a b c,p=.tup [a,b,c]/\k (((ss.set i (.is a)).set j (.is b)).set l (.is c))):Wg ss (KI K 3 (KA (D8 i) (KA (D8 j) (KA (D8 l) NG)))) p k:=⟨λE Z F H v Q S r q=>by
 obtain⟨a,b,c,rfl,kk⟩:=h;obtain⟨_,_,rfl,e,r⟩:=r.inv;obtain⟨_,_,rfl,g,r⟩:=r.inv;obtain⟨_,_,rfl,f,r⟩:=r.inv;obtain⟨_,_,rfl,d,r⟩:=r.inv;obtain rfl:=r.DI;exact⟨_,_,rfl,Al.of (S.fh _ _ e),rfl,_,_,rfl,_,_,rfl,_,_,rfl,rfl,q _ _ kk (((S.IE g).IE f).IE d)⟩⟩
theorem Ay{t:TS}(h:Ws ss t (λA6=>Ws A6 u nx R) R):Ws ss (N1 t u) nx R:=⟨λE D Z F H S c a=>
 h.go E { D with nx:=u D } Z F H S (λA6 σ' F' H' w S' s=>w.go E D σ' F' H' S' (λDW σ2 F2 H2 b S2 s2=>c DW σ2 F2 H2 b S2 (s.trans s2)) a) a⟩
theorem Dj{t:TS}(h:Ws ss t nx R):Ws ss (X0 t) nx R:=⟨λE D Z F H S b a=>⟨D.nx,h.go E { D with nx:=D.nx } Z F H S b a,λ_ _ q=>q⟩⟩
theorem Ws.mono{t:TS}(h:Ws ss t nx R)(i:∀s,nx s->fO s):Ws ss t fO R:=⟨λE D Z F H S b a=>h.go E D Z F H S (λA6 σ' F' H' n=>b A6 σ' F' H' (i _ n)) a⟩
theorem Ke{t:TS}(J:List Slot->Prop)(h:Ws ss t J R)(h2:∀A6,J A6->Ws A6 u nx R):Ws ss (N1 t u) nx R:=Ay (h.mono h2)
theorem GW(h:Wp ss te λp=>nx (ss.set i (.is p))):Ws ss (EH te (D8 i)) nx R:=⟨λE D Z F H S b c=>
 h.go E Z F H _ S λv p F1 H1 a r kk=>b _ _ F1 H1 kk (a.st.IE r) a.ff⟩
theorem QM(h:Wp ss te λp=>Wg ss g p nx):Ws ss (EH te g) nx R:=⟨λE D Z F H S b c=>
 h.go E Z F H _ S λv p F1 H1 a r kk=>kk.go E Z F1 H1 v _ a.st r λA6 σ' n S'=>b _ _ F1 H1 n S' a.ff⟩
theorem En(h:Wn ss te λxs=>nx (ss.set i (.own xs))):Ws ss (EH te (D8 i)) nx R:=⟨λE D Z F H S d k=>
 h.go E Z F H _ S λl vs xs F1 H1 a f b Ed r kk=>d _ _ F1 H1 kk (a.st.setG ⟨l,vs,rfl,f,S.Ee b,Ed,r⟩ λg e j u _ c mu=>by cases e;exact S.Ku c b mu) a.ff⟩
theorem CO(h:Wp ss te k):Ws ss (Fb te) nx (.is k):=⟨λE D Z F H S c b=>
 h.go E Z F H _ S λv p F1 H1 a r kk=>b v F1 H1 a.st.toFin ⟨p,r,kk⟩⟩
theorem Fs{k:List PV->Prop}(h:Wn ss te k):Ws ss (Fb te) nx (.new k):=⟨λE D Z F H S e b=>
 h.go E Z F H _ S λl vs xs F1 H1 a d c Ed r kk=>b _ F1 H1 a.st.toFin ⟨l,vs,xs,rfl,d,S.Ee c,Ed,r,kk⟩⟩
theorem Qb{k:List PV->Prop}(h:ss[i]?=some (.own xs))(kk:k xs):Ws ss (Fb (Ap i)) nx (.new k):=⟨λE D Z F H S d a=>by
 obtain⟨l,vs,e,e1,c,b,r⟩:=S.ok i _ h;exact⟨_,e,a _ F H S.toFin ⟨l,vs,xs,rfl,e1,c,b,r,kk⟩⟩⟩
theorem D2{t:TS}(h:Wt ss c λb=>if b=true then Ws ss t nx R else Ws ss u nx R):Ws ss (MM c t u) nx R:=⟨λE D Z F H S e d=>
 h.go E Z F H _ S λb F1 H1 a w=>by
  show if b=true then _ else _
  cases b with
  |true=>rw[p7 rfl]at w ⊢;exact w.go E D Z F1 H1 a.st (λDW σ2 F2 H2 n S2 s2=>e DW σ2 F2 H2 n S2 (a.ff.trans s2)) d
  |false=>rw[mD (by decide)]at w ⊢;exact w.go E D Z F1 H1 a.st (λDW σ2 F2 H2 n S2 s2=>e DW σ2 F2 H2 n S2 (a.ff.trans s2)) d⟩
theorem C0(h:nx ss):Ws ss Sd nx R:=⟨λE D Z F H S a b=>a ss Z F H h S (AI.refl _)⟩
theorem Uu(h:Wp ss te λ_=>nx ss):Ws ss (Kg te) nx R:=⟨λE D Z F H S b c=>
 h.go E Z F H _ S λv p F1 H1 a r kk=>b ss Z F1 H1 kk a.st a.ff⟩
theorem Sg.drop(S:Sg E ss Z F H)(i:Nat):Sg E (ss.set i .any) Z F H:=by
 have b:∀(j:Nat)u,(ss.set i .any)[j]?=some u->u=.any∨ss[j]?=some u:=λj u a=>by
  by_cases q:j=i
  .subst q;have d:j<ss.length:=by have:=(List.getElem?_eq_some_iff.mp a).1;simpa using this
   rw[DP d]at a;exact .inl (BW a).symm
  .rw[Cr (Bh q)]at a;exact .inr a
 refine⟨S.toFin,by rw[Hg];exact S.len,λj u a=>?_,λj k u w l Po a hk mu c=>?_⟩
 .rcases b j u a with rfl|h
  .trivial
  .exact S.ok j u h
 .rcases b j u a with rfl|h
  .cases mu
  .rcases b k w hk with rfl|h2
   .cases c
   .exact S.Bv j k u w l Po h h2 mu c
theorem Mz(e:Z[i]?=some (some v)):Z.set i (some v)=Z:=by
 apply PN;intro j
 by_cases q:j=i
 .subst q;rw[DP (List.getElem?_eq_some_iff.mp e).1,e]
 .rw[Cr (Bh q)]
theorem Sg.MJ(S:Sg E ss Z F H)(k:F a=none)(c:E.H0 a=none∨a∈E.B)(g:∀(i:Nat)s,ss[i]?=some s->¬ Bf s Z[i]? a):Sg E ss Z F (upd H a o):=by
 have f:∀b u,b≠a->H b=some u->upd H a o b=some u:=λb u h e=>by rw[AY h];exact e
 refine⟨⟨λb u e=>?_,S.f0,λb u d e=>?_,S.fresh,λb d=>?_,S.MP,S.a0,S.bF,λb j=>?_,S.b0⟩,S.len,λi s hi=>?_,S.Bv⟩
 .exact f b u (Dx e k) (S.fh b u e)
 .refine f b u ?_ (S.keep b u d e);rintro rfl;rcases c with c|c
  .rw[c]at e;cases e
  .exact d.2 c
 .refine Bq.keep (S.EI b d) λu e=>f b u ?_ e;rintro rfl;rcases c with c|c
  .exact S.a0 _ d c
  .exact(S.b0 _ c).2 d
 .by_cases q:b=a
  .subst q;rw[AZ];simp
  .rw[AY q];exact S.bH b j
 .by_cases np:s=.AE
  .subst np;obtain⟨l,e,e1,p,n⟩:=S.ok i _ hi;exact⟨l,e,e1,p,Bq.keep n λu h=>f l u (by rintro rfl;exact g i _ hi e) h⟩
  .exact Ok.go S hi (AI.refl _) (λb u m h=>f b u (by rintro rfl;exact g i _ hi m) h) (λ_ _ h=>h) np
theorem Sg.put(S:Sg E ss Z F H){ys:List PV}(hi:ss[i]?=some (.own xs))(e:Z[i]?=some (some (.ref l)))(f:F l=none)(d:E.H0 l=none)(r:AJ F Br ys):Sg E (ss.set i (.own ys)) Z F (upd H l (.lst Br)):=by
 have a:∀(j:Nat)s,(ss.set i .any)[j]?=some s->¬ Bf s Z[j]? l:=λj s b c=>by
  by_cases q:j=i
  .subst q;have n:j<ss.length:=(List.getElem?_eq_some_iff.mp hi).1;rw[DP n]at b;cases b;cases c
  .rw[Cr (Bh q)]at b;exact S.Bv j i s _ l q b hi c e
 have m:=(S.drop i).MJ (o:=.lst Br) f (.inl d) a;have g:=m.setG (j:=i) (s:=.own ys) (v:=.ref l) ⟨l,Br,rfl,f,d,AZ,r⟩ λp k j u b h mu=>by cases k;exact a j u h mu
 rw[Mz e,TH]at g;exact g
theorem UT(hi:ss[i]?=some (.own xs))(h:Wp ss te λp=>xs.length<=99999/\nx (ss.set i (.own (xs++[p])))):Ws ss (Kg (QF K "list" Xd (Ap i) (Ae te BK))) nx R:=⟨λE D Z F H S g m=>by
 obtain⟨l,vs,e,e1,n,j,r⟩:=S.ok i _ hi;refine⟨_,e,.inl ⟨rfl,_,AK.of j⟩,h.go E Z F H _ S λv p F1 H1 a d⟨f,kk⟩=>?_⟩;obtain⟨k,Br,c,Cf,BL,LG,b⟩:=a.st.ok i _ hi;rw[e]at c;cases c;refine⟨l,Br,v,rfl,rfl,LG,LL (by rw[b.length];exact f),?_⟩;exact g _ Z F1 _ kk (a.st.put hi e Cf BL (b.append (.one d))) a.ff⟩
theorem bE(hi:ss[i]?=some (.own xs))(h:Wp ss ta λa=>∃j:Int,a=.int j/\0<=j/\j<=xs.length/\Wp ss te λp=>xs.length<=99999/\nx (ss.set i (.own (xs.take j.toNat++p::xs.drop j.toNat)))):
  Ws ss (Kg (QF K "list" Ti (Ap i) (Ae ta (Ae te BK)))) nx R:=⟨λE D Z F H S n t=>by
 obtain⟨l,vs,e,e1,u,q,r⟩:=S.ok i _ hi;refine⟨_,e,.inl ⟨rfl,_,AK.of q⟩,h.go E Z F H _ S λv1 p1 F1 H1 c HH⟨j,o,k,g,h2⟩=>?_⟩;subst o;cases HH.inv;refine h2.go E Z F1 H1 _ c.st λv p F2 H2 m2 f⟨m,kk⟩=>?_;obtain⟨s,Br,d,Cf,BL,LG,b⟩:=m2.st.ok i _ hi;rw[e]at d;cases d;refine⟨l,Br,j,v,rfl,rfl,LG,k,by rw[b.length];exact g,LL (by rw[b.length];exact m),?_⟩;exact n _ Z F2 _ kk (m2.st.put hi e Cf BL ((b.take _).append (.cons f (b.drop _)))) (c.ff.trans m2.ff)⟩
noncomputable def FK(F H:Hp)(as:List Addr):Hp:=λa=>if a∈as then H a else F a
theorem Sg.lay(S:Sg E ss Z F H)(as:List Addr)(g:∀a∈as,F a=none/\E.H0 a=none/\H a≠none)(w:∀a∈as,∀(i:Nat)s,ss[i]?=some s->¬ Bf s Z[i]? a):Sg E ss Z (FK F H as) H/\AI F (FK F H as):=by
 have x:∀a,a∈as->FK F H as a=H a:=λa h=>p7 h;have j:∀a,a∉as->FK F H as a=F a:=λa h=>mD h;have ff:AI F (FK F H as):=λa o e=>by
  by_cases q:a∈as
  .rw[(g a q).1]at e;cases e
  .rw[j a q];exact e
 have f:∀a,a∉as->F a=none->FK F H as a=none:=λa q h=>by rw[j a q];exact h
 refine⟨⟨⟨λa o e=>?_,S.f0.trans ff,S.keep,λa o e=>?_,S.EI,λa u=>?_,S.a0,λa n=>?_,S.bH,S.b0⟩,S.len,λi s hi=>?_,S.Bv⟩,ff⟩
 .by_cases q:a∈as
  .rw[x a q]at e;exact e
  .rw[j a q]at e;exact S.fh a o e
 .by_cases q:a∈as
  .exact .inr (g a q).2.1
  .rw[j a q]at e;exact S.fresh a o e
 .exact f a (λq=>S.a0 a u (g a q).2.1) (S.MP a u)
 .exact f a (λq=>(S.b0 a n).1 (g a q).2.1) (S.bF a n)
 .have no:∀a,Bf s Z[i]? a->a∉as:=λa m q=>w a q i s hi m;have kk:=S.ok i s hi;cases s with
  |any=>trivial
  |is p=>obtain⟨v,e,r⟩:=kk;exact⟨v,e,r.mono ff⟩
  |own ys=>
   obtain⟨b,ws,q,d,c,k,r⟩:=kk;exact⟨b,ws,q,f b (no b q) d,c,k,r.mono ff⟩
  |AE=>
   obtain⟨b,q,d,c,k⟩:=kk;exact⟨b,q,f b (no b q) d,c,k⟩
  |sq tp ys=>
   cases tp with
   |true=>obtain⟨v,e,r⟩:=kk;exact⟨v,e,r.mono ff⟩
   |false=>obtain⟨b,ws,q,d,c,r⟩:=kk;exact⟨b,ws,q,d,c,r.mono ff⟩
  |raw P=>obtain⟨v,e,r,st⟩:=kk;exact⟨v,e,st _ _ ff r,st⟩
  |ow lt t=>
   obtain⟨v,e,r,nd,q⟩:=kk;exact⟨v,e,r.mono ff λa _ o h=>h,nd,λa l=>⟨f a (no a l) (q a l).1,(q a l).2⟩⟩
theorem IA{t:TS}(i:Nat)(hi:ss[i]?=some (.own xs))(h:Ws (ss.set i (.is (.lst xs))) t nx R):Ws ss t nx R:=⟨λE D Z F H S k g=>by
 obtain⟨l,vs,e,e1,o,f,r⟩:=S.ok i _ hi;have one:∀a,a∈[l]->a=l:=λa h=>by simpa using h
 obtain⟨S1,d⟩:=(S.drop i).lay [l] (λa h=>by rw[one a h,f];exact⟨e1,o,by simp⟩) λa h j s b m=>by
  rw[one a h]at m
  by_cases q:j=i
  .subst q;rw[DP (List.getElem?_eq_some_iff.mp hi).1]at b;cases b;cases m
  .rw[Cr (Bh q)]at b;exact S.Bv j i s _ l q b hi m e
 have c:=S1.IE (j:=i) (v:=.ref l) (p:=.lst xs) (.lst (by unfold FK;rw[p7 (by simp)];exact f) (r.mono d));rw[Mz e,TH]at c;exact h.go E D Z _ H c (λDW σ2 F2 H2 n c s2=>k DW σ2 F2 H2 n c (d.trans s2)) g⟩
theorem FP{tb:TS}(I:List PV->Nat->List Slot->Prop)(h:Wi ss wi λxs=>I xs 0 ss/\(∀(i:Nat)p A6,xs[i]?=some p->I xs i A6->Wg A6 g p λDW=>Ws DW tb (I xs (i+1)) R)/\∀A6,I xs xs.length A6->nx A6):Ws ss (Uo wi g tb) nx R:=⟨λE D Z F H S v t=>
 h.go E Z F H _ S λJ xs F1 H1 k d AX=>by
  obtain⟨i0,s,hd⟩:=AX;refine⟨λi m σ' H'=>m=xs.length - i/\i<=xs.length/\∃A6 F',I xs i A6/\Sg E A6 σ' F' H'/\AI F1 F',⟨_,rfl,Bm _,ss,F1,i0,k.st,AI.refl _⟩,?_⟩;rintro i m σ' H'⟨rfl,hi,A6,F',l,S',s'⟩
  by_cases f:i<xs.length
  .refine .inr ⟨d.go A6 σ' F' H' i s' S' f,λσ2 H2=>∃DW F2,I xs (i+1) DW/\Sg E DW σ2 F2 H2/\AI F1 F2,λσ2 H2 Ks=>by obtain⟨DW,F2,a,b,c⟩:=Ks;exact⟨_,by omega,rfl,f,DW,F2,a,b,c⟩,λx H3 y=>?_⟩;obtain⟨p,F3,u,j,q⟩:=d.Dy A6 σ' F' H' i x H3 s' S' f y;refine(s i p A6 u l).go E σ' F3 H3 x _ j.st q λn σ4 w S4=>?_;exact w.go E _ σ4 F3 H3 S4 (λXo σ5 F5 H5 r S5 o=>⟨Xo,F5,r,S5,(s'.trans j.ff).trans o⟩) t
  .have e:i=xs.length:=by omega
   subst e;exact .inl ⟨d.stop A6 σ' F' H' s' S',v A6 σ' F' H' (hd A6 l) S' (k.ff.trans s')⟩⟩
theorem gU{tb:TS}(I:Nat->List Slot->Prop)(e:Nat)(o:I e ss)(h:∀m A6,I m A6->Wt A6 c λb=>if b=true then Ws A6 tb (λDW=>∃a,a < m/\I a DW) R else nx A6):Ws ss (Uy c tb) nx R:=⟨λE D Z F H S k j=>by
 refine⟨λm σ' H'=>∃A6 F',I m A6/\Sg E A6 σ' F' H'/\AI F F',⟨e,ss,F,o,S,AI.refl _⟩,?_⟩;rintro m σ' H'⟨A6,F',n,S',s'⟩;refine(h m A6 n).go E σ' F' H' _ S' λb F1 H1 d w=>?_;cases b with
 |true=>
  rw[p7 rfl]at w;refine⟨λσ2 H2=>∃DW F2,(∃a,a < m/\I a DW)/\Sg E DW σ2 F2 H2/\AI F F2,λσ2 H2 AX=>by obtain⟨DW,F2,⟨a,l,i⟩,b,c⟩:=AX;exact⟨a,l,DW,F2,i,b,c⟩,?_⟩;exact w.go E _ σ' F1 H1 d.st (λXo σ5 F5 H5 g S5 f=>⟨Xo,F5,g,S5,(s'.trans d.ff).trans f⟩) j
 |false=>
  rw[mD (by decide)]at w;exact k A6 σ' F1 H1 w d.st (s'.trans d.ff)⟩
end
noncomputable def C7(js:List Nat)(ss:List Slot):List Slot:=js.map λj=>(ss[j]?).getD .any
def Mh(js:List Nat)(ss:List Slot):Bool:=js.all λj=>match ss[j]? with
 |some .AE=>false
 |_=>true
section
variable[Xw]
variable{K:ZDv}{js:List Nat}
theorem aC(h:js[i]?=some j)(e:(C7 js ss)[i]?=some s):s=(ss[j]?).getD .any:=by
 unfold C7 at e;rw[AS,h]at e;exact(BW e).symm
theorem Sg.A8(S:Sg E ss Z F H)(nd:js.Nodup)(r:AJ F vs ps):Sg E (C7 js ss++ps.map .is) (B3 js Z++vs.map some) F H:=by
 have d:(C7 js ss).length=js.length:=by simp[C7]
 have f:(B3 js Z).length=js.length:=by simp[B3]
 have k:∀(i:Nat)(hi:i<js.length),(C7 js ss++ps.map .is)[i]?=some ((ss[js[i]]?).getD .any)/\(B3 js Z++vs.map some)[i]?=some ((Z[js[i]]?).join):=λi hi=>by
  rw[Dk (by rw[d];exact hi),Dk (by rw[f];exact hi)];unfold C7 B3;rw[AS,AS,AQ hi];exact⟨rfl,rfl⟩
 have c:∀(i:Nat)s,js.length<=i->(C7 js ss++ps.map .is)[i]?=some s->∃p v,s=.is p/\(B3 js Z++vs.map some)[i]?=some (some v)/\Rep F v p:=λi s hi e=>by
  rw[Fe (by rw[d];exact hi),d,AS]at e;rw[Fe (by rw[f];exact hi),f,AS];cases q:ps[i - js.length]? with
  |none=>rw[q]at e;cases e
  |some p=>
   rw[q]at e;obtain⟨v,h,g⟩:=r.get q;rw[h];exact⟨p,v,(BW e).symm,rfl,g⟩
 have C:∀(s:Slot)(m:Nat)(l:Addr),Bf s (some (Z[m]?).join) l->Bf s Z[m]? l:=λs m l o=>by
  have w:∀l,some (Z[m]?).join=some (some (V.ref l))->Z[m]?=some (some (.ref l)):=λl e=>by
   cases q:Z[m]? with
   |none=>rw[q]at e;cases e
   |some o=>rw[q]at e;cases o with
    |none=>cases e
    |some v=>simpa using e
  cases s with
  |own xs=>exact w l o
  |AE=>exact w l o
  |ow lt t=>exact o
  |_=>exact o
 have n:∀(i:Nat)s l,(C7 js ss++ps.map .is)[i]?=some s->Bf s (B3 js Z++vs.map some)[i]? l->∃hi:i<js.length,ss[js[i]]?=some s/\Bf s Z[js[i]]? l:=λi s l e m=>by
  by_cases hi:i<js.length
  .rw[(k i hi).2]at m;refine⟨hi,?_,C s _ l m⟩;rw[(k i hi).1]at e;cases q:ss[js[i]]? with
   |none=>rw[q]at e;cases e;cases m
   |some u=>rw[q]at e;exact e
  .obtain⟨p,v,rfl,_⟩:=c i s (by omega) e;cases m
 refine⟨S.toFin,?_,λi s e=>?_,λi j s u l Ck hi B ms mu=>?_⟩
 .rw[BF,BF,d,f,AA,AA,r.length]
 .by_cases hi:i<js.length
  .obtain⟨a,b⟩:=k i hi;rw[a]at e;rw[b];cases q:ss[js[i]]? with
   |none=>rw[q]at e;cases e;trivial
   |some u=>
    rw[q]at e;have D:u=s:=BW e;subst D;have kk:=S.ok _ _ q;cases u with
    |any=>trivial
    |is p=>obtain⟨v,e,r⟩:=kk;rw[e];exact⟨v,rfl,r⟩
    |own xs=>obtain⟨l,vs,e,r⟩:=kk;rw[e];exact⟨l,vs,rfl,r⟩
    |AE=>obtain⟨l,e,r⟩:=kk;rw[e];exact⟨l,rfl,r⟩
    |sq tp xs=>
     cases tp with
     |true=>obtain⟨v,e,r⟩:=kk;rw[e];exact⟨v,rfl,r⟩
     |false=>obtain⟨l,vs,e,r⟩:=kk;rw[e];exact⟨l,vs,rfl,r⟩
    |raw P=>obtain⟨v,e,r⟩:=kk;rw[e];exact⟨v,rfl,r⟩
    |ow lt t=>obtain⟨v,e,r⟩:=kk;rw[e];exact⟨v,rfl,r⟩
  .obtain⟨p,v,rfl,h,g⟩:=c i s (by omega) e;rw[h];exact⟨v,rfl,g⟩
 .obtain⟨I,y,A⟩:=n i s l hi ms;obtain⟨G,x,z⟩:=n j u l B mu;refine S.Bv js[i] js[j] s u l (λe=>Ck ?_) y x A z;exact(ZCd nd).mp e
theorem Mv.out(S:Sg E ss Z F H)(np:Mh js ss=true)(m:Mv E (C7 js ss++ps.map .is) τ F H F' H'):Mv E ss Z F H F' H':=by
 have nn:∀a,Cp (C7 js ss++ps.map .is) τ a:=λa i hi _=>by
  by_cases h:i<(C7 js ss).length
  .rw[Dk h]at hi;have b:i<js.length:=by simpa[C7]using h
   have q:=aC (AQ b) hi;have z:=List.all_eq_true.mp np js[i] (Gs b);cases w:ss[js[i]]? with
   |none=>rw[w]at q;cases q
   |some u=>rw[w]at q z;cases q;cases z
  .rw[Fe (by omega),AS]at hi;cases w:ps[i - (C7 js ss).length]? with
   |none=>rw[w]at hi;cases hi
   |some p=>rw[w]at hi;cases hi
 have hk:∀a o,H a=some o->H' a=some o:=λa o e=>m.hh a o (nn a) e;exact S.step m.ff m.st.fh (λa o _ e=>hk a o e) m.nn λi l hi e=>Bq.keep (S.Fp hi e) λo e=>hk l o e
theorem WI{k:List PV->Prop}(f:PV->Bool)(g:PV->PV)
  (h:Wi ss wi λxs=>xs.length<=100000/\(∀x∈xs,Wt (C7 js ss++[.is x]) tt λb=>b=f x)/\(∀x∈xs,f x=true->Wp (C7 js ss++[.is x]) te λp=>p=g x)/\k ((xs.filter f).map g))
  (nd:js.Nodup:=by decide) (np:Mh js ss=true:=by rfl):Wn ss (HP wi js tt te) k:=⟨λE Z F H Q S q=>
 h.go E Z F H _ S λJ xs F1 H1 c B⟨hz,R,T,kk⟩acc BB=>by
  have L:Cp ss Z acc:=c.st.Jn BB;have Lb:=c.st.Ee BB;have LQ:∀(i:Nat)s,ss[i]?=some s->¬ Bf s Z[i]? acc:=λi s hi=>c.st.Ku hi BB;refine⟨λi m H2=>m=xs.length - i/\i<=xs.length/\∃F2 vs,Mv E ss Z F1 H1 F2 H2/\F2 acc=none/\H2 acc=some (.lst vs)/\AJ F2 vs (((xs.take i).filter f).map g),⟨_,rfl,Bm _,F1,[],c.st.make BB _,c.st.Bo BB,AZ,.nil⟩,?_⟩;rintro i m H2⟨rfl,hi,F2,vs,m2,I,v,r⟩
  by_cases l:i<xs.length
  .refine .inr ⟨B.go ss Z F2 H2 i m2.ff m2.st l,λx H3 y=>?_⟩;obtain⟨p,F3,D,t,G⟩:=B.Dy ss Z F2 H2 i x H3 m2.ff m2.st l y;have N:p∈xs:=Bc D;have FL:(xs.take (i+1))=xs.take i++[p]:=by
    have W:xs[i]=p:=by rw[AQ l]at D;exact BW D
    rw[JP l,W]
   have e1:List.filter f (xs.take (i+1))=(xs.take i).filter f++(if f p=true then[p]else[]):=by
    rw[FL,jI];congr 1
    by_cases d:f p=true <;> simp[d]
   have K:∀{F4:Hp},(∀a o,F4 a=some o->F2 a=some o∨H2 a=none)->F4 acc=none:=λ{F4}n=>by
    cases e:F4 acc with
    |none=>rfl
    |some o=>
     rcases n acc o e with w|w
     .rw[I]at w;cases w
     .rw[v]at w;cases w
   have Y:=t.st.A8 (js:=js) nd (.one G);refine(R p N).go E _ F3 H3 _ Y λb F4 H4 C U=>?_;have j:=t.trans (C.out (ps:=[p]) t.st np);show if b=true then _ else _
   rw[U]
   by_cases d:f p=true
   .rw[p7 d];have X:=j.st.A8 (js:=js) nd (.one (G.mono (C.out (ps:=[p]) t.st np).ff));refine(T p N d).go E _ F4 H4 _ X λw pw F5 H5 O IS V=>?_;have P:=C.out (ps:=[p]) t.st np;have LB:=O.out (ps:=[p]) j.st np;have z:=j.trans LB;have σ:=z.hh acc _ L v;have M:=K z.nn;have u:vs.length<=99999:=by
     rw[r.length,AA];have:=PR f (xs.take i);rw[Cj]at this;omega
    refine⟨vs,σ,LL u,xs.length - (i+1),by omega,rfl,l,F5,vs++[w],?_,M,AZ,?_⟩
    .have A:=m2.trans z;refine⟨A.st.MJ M (.inl Lb) LQ,A.ff,λa o n e=>?_,A.nn⟩;rw[AY (Dx e BB)];exact A.hh a o n e
    .rw[e1,p7 d,Cs];rw[V]at IS;exact(r.mono z.ff).append (.one IS)
   .have Kx:f p=false:=by simpa using d
    rw[Kx,mD (by decide)];refine⟨xs.length - (i+1),by omega,rfl,l,F4,vs,m2.trans j,K j.nn,j.hh acc _ L v,?_⟩;rw[e1,mD d,GH];exact r.mono j.ff
  .have e:i=xs.length:=by omega
   subst e;refine .inl ⟨B.stop ss Z F2 H2 m2.ff m2.st,q acc vs _ F2 H2 (c.trans m2) I (c.none BB) v ?_ kk⟩;rw[Ei]at r;exact r⟩
end
abbrev Pre:=List Slot->Ao->Prop
def Ad(pre:Pre):Sp:=λvs H Q _=>∃(ss:List Slot)(R:Ao)(F:Hp)(A:List Addr),pre ss R/\Sg (E3 A F H) ss (vs.map some) F H/\∀v F' H',Fin (E3 A F H) F' H'->R.ok (E3 A F H) F' H' v->Q v H'
section
variable[Xw]
variable{pre:Pre}{k:PV->Prop}
theorem Hr.at{l:List Slot}(h:Hr ss Z F H vs l):∀{i:Nat}{s:Slot},l[i]?=some s->∃v,vs[i]?=some v/\Av ss Z F H v s:=by
 induction h with
 |nil=>intro i s e;simp at e
 |cons a _ b=>
  intro i s e;cases i with
  |zero=>simp at e;subst e;exact⟨_,rfl,a⟩
  |succ i=>exact b (by simpa using e)
theorem Hr.len{l:List Slot}(h:Hr ss Z F H vs l):l.length=vs.length:=by
 induction h with
 |nil=>rfl
 |cons a _ b=>rw[Az,Az,b]
theorem Av.ok(S:Sg E ss Z F H)(a:Av ss Z F H v s)(b:∀l,Cp ss Z l->l∉A):Ok (E3 A F H) F H s (some (some v))/\∀o l,¬ Bf s o l:=by
 cases s with
 |is p=>exact⟨⟨v,rfl,a⟩,λ_ _ z=>z⟩
 |sq tp xs=>
  cases tp with
  |true=>exact⟨⟨v,rfl,a⟩,λ_ _ z=>z⟩
  |false=>obtain⟨l,vs,rfl,n,h,r⟩:=a;exact⟨⟨l,vs,rfl,⟨b l n,BH⟩,h,r⟩,λ_ _ z=>z⟩
 |raw P=>exact⟨⟨v,rfl,a⟩,λ_ _ z=>z⟩
 |any=>exact a.elim
 |own xs=>exact a.elim
 |AE=>exact a.elim
 |ow lt t=>exact a.elim
theorem Sg.gA(S:Sg E ss Z F H){l:List Slot}(a:Hr ss Z F H vs l):Sg (E3 [] F H) l (vs.map some) F H:=by
 have nn:∀{p:Prop}(a:Addr),a∈([]:List Addr)->p:=λa h=>absurd h BH;refine⟨⟨S.fh,AI.refl _,λ_ _ _ e=>e,λ_ _ e=>.inl e,λa h=>nn a h,λa h=>nn a h,λa h=>nn a h,λa h=>nn a h,λa h=>nn a h,λa h=>nn a h⟩,by rw[AA];exact a.len,λi s hi=>?_,λi j s u l Ck hi c ms mu=>?_⟩
 .obtain⟨v,b,q⟩:=a.at hi;rw[AS,b];exact(q.ok S λ_ _ h=>absurd h BH).1
 .obtain⟨v,b,q⟩:=a.at hi;exact(q.ok S (A:=[]) λ_ _ h=>absurd h BH).2 _ _ ms
theorem Sg.yL(S:Sg E ss Z F H){p:Addr}(hi:ss[i0]?=some .AE)(e:Z[i0]?=some (some (.ref p))){l:List Slot}(a:Hr ss Z F H vs l):Sg (E3 [p] F H) (.AE::l) ((V.ref p::vs).map some) F H:=by
 obtain⟨r,g,fp,_,b⟩:=S.ok i0 _ hi;rw[e]at g;cases g;have f:∀l,Cp ss Z l->l∉[p]:=λl n h=>by
  have:l=p:=by simpa using h
  subst this;exact n i0 hi e
 have one:∀a,a∈[p]->a=p:=λa h=>by simpa using h
 have nn:∀{p:Prop}(a:Addr),a∈([]:List Addr)->p:=λa h=>absurd h BH;refine⟨⟨S.fh,AI.refl _,λ_ _ _ e=>e,λ_ _ e=>.inl e,λa h=>(one a h)▸b,λa h=>(one a h)▸fp,λa h=>?_,λa h=>nn a h,λa h=>nn a h,λa h=>nn a h⟩,by rw[AA,Az,Az];rw[a.len],λi s hi=>?_,λi j s u c Ck hi k ms mu=>?_⟩
 .rw[one a h];obtain⟨_,_,q,_⟩:=b;show H p≠none;rw[q];simp
 .cases i with
  |zero=>simp at hi;subst hi;exact⟨p,rfl,fp,.inr (by simp),b⟩
  |succ i=>
   obtain⟨v,d,q⟩:=a.at (i:=i) (s:=s) (by simpa using hi)
   have:((V.ref p::vs).map some)[i+1]?=some (some v):=by rw[DG,List.getElem?_cons_succ,AS,d];rfl
   rw[this];exact(q.ok S f).1
 .have z:∀(i:Nat)s o c,(Slot.AE::l)[i]?=some s->Bf s o c->i=0:=λi s o c h m=>by
   cases i with
   |zero=>rfl
   |succ i=>
    obtain⟨v,d,q⟩:=a.at (i:=i) (s:=s) (by simpa using h)
    exact((q.ok S f).2 _ _ m).elim
  exact absurd ((z i s _ _ hi ms).trans (z j u _ _ k mu).symm) Ck
theorem Sg.back(S:Sg E ss Z F H)(d:∀a,a∈A->∃i:Nat,ss[i]?=some .AE/\Z[i]?=some (some (.ref a)))(f:Fin (E3 A F H) F' H'):Mv E ss Z F H F' H':=by
 refine S.step f.f0 f.fh (λa o n e=>f.keep a o ⟨λh=>?_,BH⟩ e) f.fresh λi l hi e=>?_
 .obtain⟨i,c,b⟩:=d a h;exact n i c b
 .by_cases q:l∈A
  .exact f.EI l q
  .exact Bq.keep (S.Fp hi e) λo e=>f.keep l o ⟨q,BH⟩ e
theorem wp_call(h:Wa ss t λl=>∃k',pre l (.is k')/\∀p,k' p->k p):Wp ss (EZ (Ad pre) [] E0 t) k:=⟨λE Z F H Q S q=>
 h.go E Z F H _ S λvs l F1 H1 b a⟨k',c,kk⟩=>by
  rw[GH];refine⟨l,.is k',F1,[],c,b.st.gA a,λv F' H' f⟨p,r,kp⟩=>?_⟩;exact q v p F' H' (b.trans (b.st.back (λ_ h=>absurd h BH) f)) r (kk p kp)⟩
theorem Me{k:List PV->Prop}(h:Wa ss t λl=>∃k',pre l (.new k')/\∀xs,k' xs->k xs):Wn ss (EZ (Ad pre) [] E0 t) k:=⟨λE Z F H Q S q=>
 h.go E Z F H _ S λvs l F1 H1 b a⟨k',d,kk⟩=>by
  rw[GH];refine⟨l,.new k',F1,[],d,b.st.gA a,λv F' H' f⟨l,vs,xs,e,i,g,E8,r,c⟩=>?_⟩;subst e;exact q l vs xs F' H' (b.trans (b.st.back (λ_ h=>absurd h BH) f)) i (b.none g) E8 r (kk xs c)⟩
theorem Qq{k:List PV->Prop}(hi:ss[i]?=some .AE)(h:Wa ss t λl=>∃k',pre (.AE::l) (.new k')/\∀xs,k' xs->k xs):Wn ss (EZ (Ad pre) [] E0 (Ae (Ap i) t)) k:=⟨λE Z F H Q S q=>by
 obtain⟨p,e,_⟩:=S.ok i _ hi;refine⟨_,e,h.go E Z F H _ S λvs l F1 H1 b a⟨k',d,kk⟩=>?_⟩;show Ad pre ((V.ref p::vs)++[]) H1 Q E0;rw[GH];refine⟨.AE::l,.new k',F1,[p],d,b.st.yL hi e a,λv F' H' f⟨l,vs,xs,m,j,g,E8,r,c⟩=>?_⟩;subst m;exact q l vs xs F' H' (b.trans (b.st.back (A:=[p]) (λa h=>⟨i,hi,(show a=p from by simpa using h)▸e⟩) f)) j (b.none g) E8 r (kk xs c)⟩
theorem Sg.grown(S:Sg E ss Z F H)(n:Nat):Sg E (ss++List.replicate n .any) (Z++List.replicate n none) F H:=by
 have f:∀(i:Nat)s,(ss++List.replicate n .any)[i]?=some s->s≠.any->ss[i]?=some s/\(Z++List.replicate n none)[i]?=Z[i]?:=λi s e k=>by
  by_cases h:i<ss.length
  .rw[Dk h]at e;rw[Dk (by rw[<- S.len];exact h)];exact⟨e,rfl⟩
  .rw[Fe (by omega),jJ]at e;split at e
   .exact absurd (BW e).symm k
   .cases e
 refine⟨S.toFin,by simp[S.len],λi s e=>?_,λi j s u l Ck hi m ms mu=>?_⟩
 .cases s with
  |any=>trivial
  |_=>obtain⟨a,b⟩:=f i _ e (by simp);rw[b];exact S.ok i _ a
 .have ns:s≠.any:=by rintro rfl;cases ms
  have g:u≠.any:=by rintro rfl;cases mu
  obtain⟨a,b⟩:=f i s hi ns;obtain⟨c,d⟩:=f j u m g;rw[b]at ms;rw[d]at mu;exact S.Bv i j s u l Ck a c ms mu
end
section
variable{pre:Pre}{k:PV->Prop}
noncomputable def W0(E:Ent0):Ent:=⟨E,λ_ _ _ _ _ _ _ _ _ d=>d.elim⟩
theorem bU{N:List Str}{n:Nat}{t:TS}(h:Ad pre vs H Q X)(c:∀ss R,pre ss R->ss.length=n)
  (hw:∀ss R,pre ss R->Ws (ss++List.replicate (N.length - n) .any) t (λ_=>∃k,R=.is k/\k .A9) R):t { nx:=λ_ H'=>Q .A9 H',rt:=Q } (L2.start N vs) H:=by
 obtain⟨ss,R,F,A,a,S,q⟩:=h;have e:vs.length=n:=by have:=S.len;rw[AA]at this;rw[<- this];exact c ss R a
 unfold L2.start;rw[e];refine(hw ss R a).go (W0 (E3 A F H)) _ _ F H (S.grown _) (λA6 σ' F' H'⟨k,e,b⟩S' _=>?_) λv F' H' f ok=>q v F' H' f ok;subst e;exact q .A9 F' H' S'.toFin ⟨.A9,.A9,b⟩
theorem ee{n:Nat}(b:∀ss R,pre ss R->ss.length=n)(h:Ad pre vs H Q X):vs.length=n:=by
 obtain⟨ss,R,F,A,a,S,q⟩:=h;have:=S.len;rw[AA]at this;rw[<- this];exact b ss R a
end
end Fz
namespace L2
section
variable{X:Cx}
def ie(K:ZDv):R2:=λx y H Q=>∃p q xs,x=.ref p/\y=.ref q/\AK K H p xs/\AK K H q []/\Q (.bl (!decide (xs=[]))) H
theorem SQ(a:X.A.units<cLine):B0 X (compareOp .NotEq) (ie X.K):=by
 intro Zd s Z H x y v u Q I f e h;obtain⟨p,q,xs,rfl,rfl,c,b,d⟩:=h;cases f;cases e;obtain⟨A3,i,p1,l⟩:=I.list c;obtain⟨BE,g,p2,k⟩:=I.list b;have l1:=i.length;have l2:=g.length;cases xs with
 |nil=>exact NL a Zd s Z H _ _ _ _ Q I (show RelV (.ref p) (.ref p)from rfl) (show RelV (.ref q) (.ref q)from rfl) ⟨p,q,[],[],rfl,rfl,.inl ⟨c,b⟩,rfl,rfl,d⟩
 |cons y ys=>
  have j:(A3.toArray.size != BE.toArray.size)=true:=by simp only[Bu,<- l1,<- l2];simp
  exact ZDB p1.isList p2.isList j a _ _ _ _ ⟨.bl true,H,I,rfl,d⟩
def ZV(K:ZDv):R2:=λx y H Q=>∃p q xs,x=.ref p/\y=.ref q/\AK K H p xs/\AK K H q []/\Q (.bl (decide (xs=[]))) H
theorem gS(a:X.A.units<cLine):B0 X (compareOp .Eq) (ZV X.K):=by
 intro Zd s Z H x y v u Q I f e h;obtain⟨p,q,xs,rfl,rfl,c,b,d⟩:=h;cases f;cases e;obtain⟨A3,i,p1,l⟩:=I.list c;obtain⟨BE,g,p2,k⟩:=I.list b;have l1:=i.length;have l2:=g.length;cases xs with
 |nil=>exact Mw a Zd s Z H _ _ _ _ Q I (show RelV (.ref p) (.ref p)from rfl) (show RelV (.ref q) (.ref q)from rfl) ⟨p,q,[],[],rfl,rfl,.inl ⟨c,b⟩,rfl,rfl,d⟩
 |cons y ys=>
  have j:(A3.toArray.size != BE.toArray.size)=true:=by simp only[Bu,<- l1,<- l2];simp
  exact ZDC p1.isList p2.isList j a ⟨.bl false,H,I,rfl,d⟩
end
end L2
namespace Lw
open L2
variable{acc l ns ss:List Str}{g j:Int}{r:Str}
theorem NV:∀l:List Nat,¬ l<l
 | [],h=>by simp at h
 |a::r,h=>by
  rw[YT]at h;rcases h with h|⟨_,h⟩
  .omega
  .exact NV r h
theorem Uw:∀{a b c:List Nat},a<b->b<c->a<c
 |_,[],_,h,_=>by simp at h
 |_,_::_,[],_,h=>by simp at h
 | [],_::_,_::_,_,_=>by simp
 |a::r,b::s,c::t,h,h'=>by
  rw[YT]at h h' ⊢;rcases h with h|⟨rfl,h⟩
  .rcases h' with h'|⟨rfl,h'⟩
   .left;omega
   .left;exact h
  .rcases h' with h'|⟨rfl,h'⟩
   .left;exact h'
   .right;exact⟨rfl,Uw h h'⟩
theorem cN:∀a b:List Nat,a<b∨a=b∨b<a
 | [],[]=>.inr (.inl rfl)
 | [],_::_=>.inl (by simp)
 |_::_,[]=>.inr (.inr (by simp))
 |a::r,b::s=>by
  rw[YT,YT];rcases ZCu a b with h|rfl|h
  .exact .inl (.inl h)
  .rcases cN r s with h|rfl|h
   .exact .inl (.inr ⟨rfl,h⟩)
   .exact .inr (.inl rfl)
   .exact .inr (.inr (.inr ⟨rfl,h⟩))
  .exact .inr (.inr (.inl h))
abbrev J6(a b:Str):Prop:=a.cps.toList<b.cps.toList
theorem Ts(a b:Str):J6 a b∨a=b∨J6 b a:=by
 rcases cN a.cps.toList b.cps.toList with h|h|h
 .exact .inl h
 .exact .inr (.inl (tF h))
 .exact .inr (.inr h)
abbrev Up(ss:List Str):Prop:=ss.Pairwise J6
theorem Wf(h:Up ss):ss.Nodup:=by
 refine ZCR (λ{a b}(Bw:J6 a b)(e:a=b)=>?_) h;subst e;exact NV _ Bw
theorem eM:∀(l:List Str)(p:Str),risingS p l=true->(∀x∈l,¬ J6 x p)/\l.Pairwise λa b=>¬ J6 b a
 | [],p,_=>⟨λx hx=>absurd hx (by simp),.nil⟩
 |y::r,p,h=>by
  have h1:(!ltCps y.cps.toList p.cps.toList && risingS y r)=true:=h;rw[DN,ltCps_eq]at h1;have c:¬ J6 y p:=by
   intro z;rw[kc z]at h1;exact absurd h1.1 (by decide)
  obtain⟨h2,d⟩:=eM r y h1.2;refine⟨λx hx=>?_,List.pairwise_cons.mpr ⟨λx hx=>h2 x hx,d⟩⟩;rcases List.mem_cons.mp hx with rfl|hx
  .exact c
  .intro z;rcases Ts y p with q|q|q
   .exact c q
   .exact h2 x hx (q▸z)
   .exact h2 x hx (Uw z q)
theorem XJ(h:sortedS l=true):l.Pairwise λa b=>¬ J6 b a:=by
 cases l with
 |nil=>exact .nil
 |cons x r=>
  obtain⟨h1,h2⟩:=eM r x h;exact List.pairwise_cons.mpr ⟨h1,h2⟩
theorem XC(h:sortedS l=true)(nd:l.Nodup):Up l:=by
 have w:=XJ h;have q:=List.Pairwise.and w nd;refine q.imp λ{a b}Bw=>?_;rcases Ts a b with z|z|z
 .exact z
 .exact absurd z Bw.2
 .exact absurd z Bw.1
theorem RX:∀{as bs:List Str},Up as->Up bs->(∀x,x∈as↔x∈bs)->as=bs
 | [],[],_,_,_=>rfl
 | [],b::bs,_,_,h=>absurd ((h b).mpr Ar) (by simp)
 |a::as,[],_,_,h=>absurd ((h a).mp Ar) (by simp)
 |a::as,b::bs,ha,hb,h=>by
  obtain⟨a1,a2⟩:=List.pairwise_cons.mp ha;obtain⟨c,d⟩:=List.pairwise_cons.mp hb;have e:a=b:=by
   rcases List.mem_cons.mp ((h a).mp Ar)with z|z
   .exact z
   .rcases List.mem_cons.mp ((h b).mpr Ar)with y|y
    .exact y.symm
    .exact absurd (Uw (a1 b y) (c a z)) (NV _)
  subst e
  congr 1
  refine RX a2 d λx=>⟨λhx=>?_,λhx=>?_⟩
  .rcases List.mem_cons.mp ((h x).mp (BG _ hx))with z|z
   .exact absurd (z▸a1 x hx) (NV _)
   .exact z
  .rcases List.mem_cons.mp ((h x).mpr (BG _ hx))with z|z
   .exact absurd (z▸c x hx) (NV _)
   .exact z
theorem Wb:∀{as bs:List Str},as.Nodup->(∀x∈as,x∈bs)->as.length<=bs.length
 | [],_,_,_=>Bm _
 |a::as,bs,nd,h=>by
  obtain⟨h1,h2⟩:=List.nodup_cons.mp nd;have b:=h a Ar;have q:=Wb (bs:=bs.erase a) h2 λx hx=>(PX (λe:x=a=>h1 (by rw[<- e];exact hx))).mpr (h x (BG _ hx));have e:=KQ b;have p:=T6 b;simp only[Az];omega
theorem da:∀{as bs:List Str},as.Nodup->(∀x∈as,x∈bs)->bs.length=as.length->bs.Nodup
 | [],bs,_,_,hl=>by
  have e:bs=[]:=List.length_eq_zero_iff.mp (by simpa using hl)
  rw[e];exact Hh
 |a::as,bs,nd,h,hl=>by
  obtain⟨h1,h2⟩:=List.nodup_cons.mp nd;have b:=h a Ar;have d:bs.length=as.length+1:=by simpa using hl
  have sub:∀x∈as,x∈bs.erase a:=λx hx=>(PX (λe:x=a=>h1 (by rw[<- e];exact hx))).mpr (h x (BG _ hx));have e:=KQ b;have q:=da (bs:=bs.erase a) h2 sub (by omega);have p:=List.perm_cons_erase b;rw[p.nodup_iff,List.nodup_cons];refine⟨λc=>?_,q⟩;have r:=Wb (as:=a::as) (bs:=bs.erase a) nd λx hx=>by
   rcases List.mem_cons.mp hx with rfl|hx
   .exact c
   .exact sub x hx
  simp only[Az]at r;omega
theorem yD{x k:Str}:k∈Ep acc x↔k∈acc∨k=x:=by
 unfold Ep
 by_cases h:acc.any (· == x)=true
 .rw[p7 h];refine⟨.inl,λq=>q.elim id λe=>?_⟩;obtain⟨y,a,b⟩:=List.any_eq_true.mp h;have:y=x:=by simpa using b
  rw[e,<- this];exact a
 .rw[mD h];simp
theorem Vc:∀(l acc:List Str),acc.Nodup->(l.foldl Ep acc).Nodup/\∀k,k∈l.foldl Ep acc↔k∈acc∨k∈l
 | [],acc,h=>⟨h,λk=>by simp⟩
 |x::r,acc,h=>by
  have a:(Ep acc x).Nodup:=by
   unfold Ep
   by_cases c:acc.any (· == x)=true
   .rw[p7 c];exact h
   .rw[mD c];exact Ui h λb=>c (List.any_eq_true.mpr ⟨x,b,by simp⟩)
  obtain⟨h1,h2⟩:=Vc r (Ep acc x) a;refine⟨h1,λk=>?_⟩;rw[N4,h2 k,yD,CK,or_assoc]
theorem Qv(ss:List Str):(dd ss).Nodup:=(Vc ss [] Hh).1
theorem Ko(ss:List Str)(k:Str):k∈dd ss↔k∈ss:=by
 have q:=(Vc ss [] Hh).2 k;refine(show(k∈dd ss↔_)from q).trans ⟨λz=>z.elim (λy=>absurd y (by simp)) id,.inr⟩
theorem d5(l:List Str)(k:Str):l.any (· == k)=true↔k∈l:=by
 rw[Lq];exact⟨λ⟨y,a,e⟩=>by
   have:y=k:=by simpa using e
   rw[<- this];exact a,λh=>⟨k,h,by simp⟩⟩
theorem zD{a:List Str}(e:a.length=(dd ss).length)(c:∀k,(dd ss).any (· == k)=true↔k∈a)(d:sortedS a=true):(ss=a)↔Up ss:=by
 have nd:a.Nodup:=da (Qv ss) (λx hx=>(c x).mp ((d5 _ _).mpr hx)) e;have b:=XC d nd;constructor
 .rintro rfl;exact b
 .intro us;exact RX us b λx=>by rw[<- c x,d5,Ko]
theorem vL:∀(as bs:List Str),FE (as.map V.str) (bs.map V.str)=decide (as=bs):=by
 intro as bs
 by_cases a:as.length=bs.length
 .rw[K5 (by simpa using a),Hf,Gr,xt]
  constructor
  .intro h;refine T4 a λi h1 h2=>?_;have q:=h i (by simpa using h1)
   have e1:(as.map V.str)[i]?=some (.str as[i]):=by rw[AS,AQ h1];rfl
   have c:(bs.map V.str)[i]?=some (.str bs[i]):=by rw[AS,AQ h2];rfl
   rw[Hc e1,Hc c]at q;have b:(as[i] == bs[i])=true:=q
   simpa using b
  .rintro rfl i hi;have h1:i<as.length:=by simpa using hi
   have e1:(as.map V.str)[i]?=some (.str as[i]):=by rw[AS,AQ h1];rfl
   rw[Hc e1];show(as[i] == as[i])=true;simp
 .rw[Jx (by simpa using a),oO]
  rintro rfl;exact a rfl
noncomputable def Gg:List Str:=["none","ahead","all"]
noncomputable def Jt(ss:List Str):Bool:=decide (Up ss)
def JY(ns ss:List Str):Bool:=ss.all λx=>decide (x∈ns)
noncomputable def L3(n:Nat)(g:Int):Bool:=decide (0<=g) && decide (g<=(n:Int))
def Fi(ns:List Str)(r:Str)(g:Int)(ss:List Str):Bool:=decide (r∈Gg) && (L3 ns.length g && (Jt ss && JY ns ss))
def gZ(K:ZDv):Sp:=λvs H Q _=>∃(a:Addr)(tp:Bool)(ns:List Str)(g:Int),vs=[.ref a,.int g]/\C1 K tp H a (ns.map V.str)/\Q (.bl (L3 ns.length g)) H
def d3(K:ZDv):Sp:=λvs H Q _=>∃(a:Addr)(tp:Bool)(ns:List Str)(c:Addr)(ss:List Str),vs=[.ref a,.ref c]/\C1 K tp H a (ns.map V.str)/\Al K H c (ss.map V.str)/\ss.length<64/\∀H',AI H H'->Q (.bl (Jt ss && JY ns ss)) H'
def LoopAt(K:ZDv)(H:Hp)(t:Addr)(r:Str)(g:Int)(ss:List Str):Prop:=∃c,Al K H t [.str r,.int g,.ref c]/\Al K H c (ss.map V.str)
def cJ(K:ZDv):Sp:=λvs H Q _=>∃(a:Addr)(tp:Bool)(ns:List Str)(t:Addr)(r:Str)(g:Int)(ss:List Str),vs=[.ref a,.ref t]/\C1 K tp H a (ns.map V.str)/\LoopAt K H t r g ss/\ss.length<64/\∀H',AI H H'->Q (.bl (Fi ns r g ss)) H'
def pY(p:Addr)(H:Hp)(Q:VK)(W:Str->Int->List Str->Prop):Prop:=∀t c r g ss H',H t=none->H c=none->BM p H H'->H' t=some (.tup [.str r,.int g,.ref c])->H' c=some (.tup (ss.map V.str))->W r g ss->Q (.ref t) H'
def V0:Sp:=λvs H Q _=>∃(p q:Addr)(ns:List Str),vs=[.ref p,.ref q]/\Bq H p/\H q=some (.lst (ns.map V.str))/\q≠p/\ns.length<=40/\ns.Nodup/\
 pY p H Q λr g ss=>r∈Gg/\0<=g/\g<=(ns.length:Int)/\Up ss/\(∀x∈ss,x∈ns)/\ss.length<=40
theorem uN(ns ss:List Str):((ss.map V.str).filter λ_=>true).map (λv=>V.bl (Jm v (ns.map V.str)))=(ss.map λx=>decide (x∈ns)).map V.bl:=by
 rw[xn,CJ,CJ];refine YW λx _=>?_;show V.bl _=V.bl _;rw[Ry]
theorem p5{i:Nat}{v:V}(h:(ss.map V.str)[i]?=some v):∃x,v=.str x/\ss[i]?=some x:=by
 rw[AS]at h;cases q:ss[i]? with
 |none=>rw[q]at h;cases h
 |some x=>rw[q]at h;simp at h;exact⟨x,h.symm,rfl⟩
theorem bX(c:0<=j)(h1:j<3):∃r,BZ (Gg.map V.str) j=some (.str r)/\r∈Gg:=by
 obtain⟨x,a,b,_⟩:=Vl (ns:=Gg) c h1;exact⟨x,a,b⟩
def YB(H:Hp)(t:Addr)(r:Str)(g:Int)(ss:List Str):Prop:=∃c,H t=some (.tup [.str r,.int g,.ref c])/\H c=some (.tup (ss.map V.str))
theorem YB.at{H:Hp}{K:ZDv}{t:Addr}(h:YB H t r g ss):LoopAt K H t r g ss:=by
 obtain⟨c,a,b⟩:=h;exact⟨c,Al.of a,Al.of b⟩
structure CD (ns:List Str) (r:Str) (g:Int) (ss:List Str):Prop where
 rule:r∈Gg
 g0:0<=g
 g1:g<=(ns.length:Int)
 up:Up ss
 sub:∀x∈ss,x∈ns
theorem CD.Fi(h:CD ns r g ss):Fi ns r g ss=true:=by
 unfold Lw.Fi L3 Jt JY;rw[kc h.rule,kc h.g0,kc h.g1,kc h.up,GF,GF,GF,GF,Gr];intro x hx;exact kc (h.sub x hx)
def Ve(K:ZDv):Sp:=λvs H Q _=>∃(a:Addr)(tp:Bool)(ns:List Str)(t:Addr)(r:Str)(g:Int)(ss:List Str),vs=[.ref a,.ref t]/\C1 K tp H a (ns.map V.str)/\LoopAt K H t r g ss/\ss.length<64/\Fi ns r g ss=true/\∀H',AI H H'->Q .A9 H'
end Lw
namespace Lw
open L2
theorem CD.len{ns:List Str}{r:Str}{g:Int}{ss:List Str}(h:CD ns r g ss):ss.length<=ns.length:=Wb (Wf h.up) h.sub
end Lw
namespace L2
variable{H H2:Hp}{s s2:Shared}{outer scope:Scope}{C acc it:Addr}{N:List Str}{wi:TI}
structure IX (N:List Str) (outer scope:Scope) (x z:Str) (A8:List Str) (js:List Nat):Prop where
 kind:scope.kind=.function
 HM:∀y∈scope.names,y.2≠.cell
 loc:∀y∈scope.names,y.2=.local->scope.names.lookup y.1=some .local
 Hj:scope.names.lookup x=some .local
 zG:scope.names.lookup z=some .local
 at':js.map (λj=>N[j]?)=A8.map some
 cell:∀y∈A8,outer.names.lookup y=some .cell
 free:∀y∈A8,scope.names.lookup y=some .free
 all:∀y∈scope.names,y.2=.free->outer.names.lookup y.1=some .cell
 nd:(A8++[x,z]).Nodup
def iV(K:ZDv)(J:It)(js:List Nat)(te:TE)(Z:St)(H1:Hp)(acc:Addr)(Q:VK):Prop:=
 ∃W:Nat->Nat->Hp->Prop,(∃m,W 0 m (upd H1 acc (.lst [])))/\∀i m H2,W i m H2->
  (J.stop i H2/\Q (.ref acc) H2)∨(J.go i H2/\∀x H3,J.Dy i H2 x H3->∃a u v,x=.ref a/\Al K H3 a [u,v]/\te (B3 js Z++[some u,some v]) H3 λy H5=>∃ys,H5 acc=some (.lst ys)/\ys.length<sizeLine/\∃b,b < m/\W (i+1) b (upd H5 acc (.lst (ys++[y]))))
def Qy(K:ZDv)(wi:TI)(js:List Nat)(te:TE):TE:=λZ H Q=>wi Z H λJ H1=>∀acc,H1 acc=none->iV K J js te Z H1 acc Q
section
variable{X:Cx}{Zd:ZDw}{Z:St}{elt iter:Expr}{x z:Str}{px pz tp pos:Pos}{tk:Nat}{A8:List Str}{js:List Nat}{te:TE}{J:It}{fp:List Addr}{tn:Nat->Heap->Prop}
theorem IX.G(S:IX N outer scope x z A8 js):Dd N outer scope none [x,z] A8 js:=.Zz S.kind S.HM S.loc S.at' S.cell S.free S.all S.nd
theorem IX.pg{cl:List (Str×Addr)}(b:X.calm=true)(S:IX X.N X.env.scope scope x z A8 js):PG (Eo X (A8++[x,z]) scope none cl C s H fp) (.Tuple [.Name x px,.Name z pz] tk tp) (KI X.K 2 (JX A8.length 2)):=
 v7 b S.G (λy a=>by rcases List.mem_cons.mp a with rfl|a;exact S.Hj;rw[List.mem_singleton.mp a];exact S.zG) (.cons (.cons .nil)) (λ_=>rfl) (λ_=>rfl)
theorem yd{W:Nat->Nat->Hp->Prop}{i m:Nat}(q:te Z H λy H5=>∃ys,H5 acc=some (.lst ys)/\ys.length<sizeLine/\∃a,a < m/\W (i+1) a (upd H5 acc (.lst (ys++[y])))):OE MU te acc W i m Z H:=by
 show(if true=true then(te Z H λy H5=>∃ys,H5 acc=some (.lst ys)/\ys.length<sizeLine/\∃a,a < m/\W (i+1) a (upd H5 acc (.lst (ys++[y]))))else ∃a,a < m/\W (i+1) a H)
 rw[p7 rfl];exact q
theorem ZAL{K:ZDv}{tt:TT}(S:IX N outer scope x z A8 js)(J:It)(Z:St)(H1:Hp)(acc:Addr)(Q:VK)
  (h:∃W:Nat->Nat->Hp->Prop,(∃m,W 0 m (upd H1 acc (.lst [])))/\∀i m H2,W i m H2->
   (J.stop i H2/\Q (.ref acc) H2)∨(J.go i H2/\∀x H3,J.Dy i H2 x H3->∃a u v,x=.ref a/\Al K H3 a [u,v]/\OE tt te acc W i m (B3 js Z++[some u,some v]) H3)):Mf (KI K 2 (JX A8.length 2)) 2 J js tt te Z H1 acc Q:=by
 obtain⟨W,c,h⟩:=h;refine vb S.G J Z H1 acc Q ⟨W,c,λi m H2 w=>(h i m H2 w).imp id λz=>⟨z.1,λx H3 y=>?_⟩⟩;obtain⟨a,u,v,e,b,q⟩:=z.2 x H3 y;exact⟨a,[u,v],e,b,rfl,q⟩
theorem u4(c:X.calm=true)(S:IX X.N X.env.scope scope x z A8 js)(hi:PI X (.Tuple [.Name x px,.Name z pz] tk tp) iter wi)
  (DT:∀fp C s H,PE (GQ X (A8++[x,z]) scope (BX X.env.cells scope.names) C s H fp) elt te)
  (b:∀v,foldedSetIterable iter X.env v=pure v:=by intro _;rfl):PE X (.ListComp elt [⟨.Tuple [.Name x px,.Name z pz] tk tp,iter,[],0⟩] scope pos) (Qy X.K wi js te):=
 YC (CW:=λJ Z H1 acc Q=>iV X.K J js te Z H1 acc Q) (tt:=MU) (λJ Z H1 acc Q⟨W,d,h⟩=>ZAL S J Z H1 acc Q ⟨W,d,λi m H2 w=>(h i m H2 w).imp id λz=>⟨z.1,λx H3 y=>by
  obtain⟨a,u,v,e,b,q⟩:=z.2 x H3 y;exact⟨a,u,v,e,b,yd q⟩⟩⟩) c S.G hi (λ_ _ _ _=>S.pg c) (λ_ _ _ _=>dO) DT b
theorem aQ(b:X.calm=true)(S:IX X.N X.env.scope scope x z A8 js)(hi:QI X (.Tuple [.Name x px,.Name z pz] tk tp) iter wi)(DT:∀fp C s H,QE (GQ X (A8++[x,z]) scope (BX X.env.cells scope.names) C s H fp) elt te)
  (a:∀v,foldedSetIterable iter X.env v=pure v:=by intro _;rfl):QE X (.ListComp elt [⟨.Tuple [.Name x px,.Name z pz] tk tp,iter,[],0⟩] scope pos) (Qy X.K wi js te):=⟨u4 b S hi.h (λfp C s H=>(DT fp C s H).h) a⟩
end
end L2
namespace Fz
open L2 Lw
variable{E:Ent0}{ss:List Slot}{Z:L2.St}{F F' H H':Hp}{js:List Nat}{ta tb te:TE}{nx:List Slot->Prop}{R:Ao}{wi:TI}{i:Nat}{α:Type}{xs:List PV}
section
variable[Xw]
variable{K:ZDv}{k:PV->Prop}
theorem fW{k:List PV->Prop}(g:PV->PV)
  (h:Wi ss wi λxs=>xs.length<=100000/\(∀x∈xs,∃a b,x=.tup [a,b]/\Wp (C7 js ss++[.is a,.is b]) te λp=>p=g x)/\k (xs.map g))
  (nd:js.Nodup:=by decide) (np:Mh js ss=true:=by rfl):Wn ss (Qy K wi js te) k:=⟨λE Z F H Q S q=>
 h.go E Z F H _ S λJ xs F1 H1 c v⟨hz,M,kk⟩acc BB=>by
  have X:Cp ss Z acc:=c.st.Jn BB;have T:=c.st.Ee BB;have U:∀(i:Nat)s,ss[i]?=some s->¬ Bf s Z[i]? acc:=λi s hi=>c.st.Ku hi BB;refine⟨λi m H2=>m=xs.length - i/\i<=xs.length/\∃F2 vs,Mv E ss Z F1 H1 F2 H2/\F2 acc=none/\H2 acc=some (.lst vs)/\AJ F2 vs ((xs.take i).map g),⟨_,rfl,Bm _,F1,[],c.st.make BB _,c.st.Bo BB,AZ,.nil⟩,?_⟩;rintro i m H2⟨rfl,hi,F2,vs,m2,C,A,j⟩
  by_cases f:i<xs.length
  .refine .inr ⟨v.go ss Z F2 H2 i m2.ff m2.st f,λx H3 y=>?_⟩;obtain⟨p,F3,z,l,B⟩:=v.Dy ss Z F2 H2 i x H3 m2.ff m2.st f y;have Y:p∈xs:=Bc z;have σ:(xs.take (i+1))=xs.take i++[p]:=by
    have O:xs[i]=p:=by rw[AQ f]at z;exact BW z
    rw[JP f,O]
   have W:∀{F4:Hp},(∀a o,F4 a=some o->F2 a=some o∨H2 a=none)->F4 acc=none:=λ{F4}n=>by
    cases e:F4 acc with
    |none=>rfl
    |some o=>
     rcases n acc o e with w|w
     .rw[C]at w;cases w
     .rw[A]at w;cases w
   obtain⟨a,b,ep,hw⟩:=M p Y;rw[ep]at B;obtain⟨_,_,rfl,e,r⟩:=B.inv;obtain⟨_,_,rfl,I,r⟩:=r.inv;obtain⟨_,_,rfl,G,r⟩:=r.inv;obtain rfl:=r.DI;refine⟨_,_,_,rfl,Al.of (l.st.fh _ _ e),?_⟩;have P:=l.st.A8 (js:=js) nd (.cons I (.one G));refine hw.go E _ F3 H3 _ P λw pw F5 H5 L IS N=>?_;have V:=L.out (ps:=[a,b]) l.st np;have t:=l.trans V;have R:=t.hh acc _ X A;have D:=W t.nn;have d:vs.length<=99999:=by
    rw[j.length,AA,Cj];omega
   refine⟨vs,R,LL d,xs.length - (i+1),by omega,rfl,f,F5,vs++[w],?_,D,AZ,?_⟩
   .have u:=m2.trans t;refine⟨u.st.MJ D (.inl T) U,u.ff,λa o n e=>?_,u.nn⟩;rw[AY (Dx e BB)];exact u.hh a o n e
   .rw[σ,Cs];rw[N]at IS;exact(j.mono t.ff).append (.one IS)
  .have e:i=xs.length:=by omega
   subst e;refine .inl ⟨v.stop ss Z F2 H2 m2.ff m2.st,q acc vs _ F2 H2 (c.trans m2) C (c.none BB) A ?_ kk⟩;rw[Ei]at j;exact j⟩
theorem Sg.WO(S:Sg E ss Z F H){p:Addr}(hi:ss[i]?=some .AE)(e:Z[i]?=some (some (.ref p)))(s:BM p H H'):Mv E ss Z F H F H':=by
 obtain⟨g,b,fp,_,f⟩:=S.ok i _ hi;rw[e]at b;cases b;refine S.step (AI.refl _) (λa o q=>s.same a o (Dx q fp) (S.fh a o q)) (λa o n q=>s.same a o (λz=>?_) q) (λa o q=>.inl q) λj l c d=>?_
 .rw[z]at n;exact n i hi e
 .by_cases z:l=p
  .rw[z];exact s.AE
  .exact Bq.keep (S.Fp c d) λo q=>s.same l o z q
theorem k7(hi:ss[i]?=some .AE)(h:Wp ss te λx=>∃m,x=.int m/\0<m/\m<10 ^ 18/\∀r:Int,0<=r->r<m->k (.int r)):Wp ss (EZ Hk [] E0 (Ae (Ap i) (Ae te BK))) k:=⟨λE Z F H Q S q=>by
 obtain⟨p,e,_⟩:=S.ok i _ hi;refine⟨_,e,h.go E Z F H _ S λv x F1 H1 a r⟨m,f,d,OI,kk⟩=>?_⟩;subst f;cases r.inv;exact⟨p,m,rfl,a.st.Fp hi e,d,OI,λr H2 c b s=>q _ _ F1 H2 (a.trans (a.st.WO hi e s)) (.int r) (kk r c b)⟩⟩
theorem ym{sp:Sp}{k:List PV->Prop}(Fw:sp=YA)(hi:ss[i]?=some .AE)(h:Wp ss te λx=>∃m,x=.int m/\1<=m/\m<=100/\∀ns:List Str,(ns.length:Int)<=m->(∀x∈ns,Nm x)->ns.Nodup->k (ns.map PV.str)):Wn ss (EZ sp [] E0 (Ae (Ap i) (Ae te BK))) k:=⟨λE Z F H Q S q=>by
 subst Fw;obtain⟨p,e,_⟩:=S.ok i _ hi;refine⟨_,e,h.go E Z F H _ S λv x F1 H1 a r⟨m,g,c,OI,kk⟩=>?_⟩;subst g;cases r.inv;refine⟨p,m,rfl,a.st.Fp hi e,c,OI,λl H2 ns b s Bl d f nd=>?_⟩;have m2:=a.st.WO hi e s;exact q l _ _ F1 H2 (a.trans m2) (a.st.Bo b) (a.none b) Bl (UY ns) (kk ns d f nd)⟩
def Tc(K:ZDv)(ns:List Int):Hp->V->Prop:=λF v=>∃a,v=.ref a/\AK K F a (ns.map V.int)
theorem VD(K:ZDv)(ns:List Int):∀(v:V)(F F':Hp),AI F F'->Tc K ns F v->Tc K ns F' v:=λv F F' s AX=>by obtain⟨a,e,h⟩:=AX;exact⟨a,e,by
 rcases h with(h|⟨o,h⟩)|h
 .exact .inl (.inl (s _ _ h))
 .exact .inl (.inr ⟨o,s _ _ h⟩)
 .exact .inr h⟩
end
section
variable[Xw]
variable{K:ZDv}{k:PV->Prop}
theorem Wi.mono{k k':List PV->Prop}(h:Wi ss wi k)(i:∀xs,k xs->k' xs):Wi ss wi k':=⟨λE Z F H R S q=>h.go E Z F H R S λJ xs F' H' m s kk=>q J xs F' H' m s (i xs kk)⟩
theorem EL{tt:TT}{k:List PV->Prop}(c:α->PV)(f:α->Bool)(g:α->PV)
  (h:Wi ss wi λxs=>∃ns:List α,xs=ns.map c/\ns.length<=100000/\(∀x∈ns,Wt (C7 js ss++[.is (c x)]) tt λb=>b=f x)/\(∀x∈ns,f x=true->Wp (C7 js ss++[.is (c x)]) te λp=>p=g x)/\k ((ns.filter f).map g))
  (inj:∀x y,c x=c y->x=y) (nd:js.Nodup:=by decide) (np:Mh js ss=true:=by rfl):Wn ss (HP wi js tt te) k:=by
 by_cases hα:Nonempty α
 .obtain⟨l⟩:=hα;have inv:∀p:PV,∃x:α,∀y,c y=p->y=x:=λp=>by
   by_cases q:∃y,c y=p
   .obtain⟨y,a⟩:=q;exact⟨y,λz i=>inj _ _ (i.trans a.symm)⟩
   .exact⟨l,λy a=>absurd ⟨y,a⟩ q⟩
  let d:PV->α:=λp=>Classical.choose (inv p)
  have hd:∀x,d (c x)=x:=λx=>(jC (inv (c x)) x rfl).symm;refine WI (λp=>f (d p)) (λp=>g (d p)) (h.mono λxs⟨ns,e,i,h1,h2,kk⟩=>?_) nd np;subst e;refine⟨by rw[AA];exact i,λx hx=>?_,λx hx j=>?_,?_⟩
  .obtain⟨y,a,rfl⟩:=List.mem_map.mp hx;rw[hd];exact h1 y a
  .obtain⟨y,a,rfl⟩:=List.mem_map.mp hx;rw[hd]at j ⊢;exact h2 y a j
  .have e:((ns.map c).filter λp=>f (d p)).map (λp=>g (d p))=(ns.filter f).map g:=by
    rw[List.filter_map,CJ]
    congr 1
    .funext x;show g (d (c x))=g x;rw[hd]
    .congr 1;funext x;show f (d (c x))=f x;rw[hd]
   rw[e];exact kk
 .refine WI (λ_=>true) (λp=>p) (h.mono λxs⟨ns,e,i,h1,h2,kk⟩=>?_) nd np;have m:ns=[]:=by
   cases ns with
   |nil=>rfl
   |cons x r=>exact absurd ⟨x⟩ hα
  subst m;subst e;exact⟨by simp,λx hx=>absurd hx (by simp),λx hx=>absurd hx (by simp),kk⟩
theorem Rt:∀x y:Nat,PV.int (x:Int)=PV.int (y:Int)->x=y:=λ_ _ e=>by injection e with e;omega
theorem uP(h:Wp ss ta λp=>∃x,p=.str x/\Wq ss tb λ_ ys=>∃ns:List Str,ys=ns.map PV.str/\k (.bl (decide (x∈ns)))):Wp ss (Au (Hn K false) ta tb) k:=bG h
theorem mM(h:Wp ss ta λp=>∃x,p=.str x/\Wq ss tb λ_ ys=>∃ns:List Str,ys=ns.map PV.str/\k (.bl (!decide (x∈ns)))):Wp ss (Au (Hn K true) ta tb) k:=bG h
theorem SH(h:Wq ss ta λtp xs=>∃ns:List Str,xs=ns.map PV.str/\Wq ss tb λBC ys=>BC=tp/\∃ms:List Str,ys=ms.map PV.str/\k (.bl (decide (ns=ms)))):Wp ss (Au (Ir K false) ta tb) k:=eR h
theorem cV(h:Wq ss ta λtp xs=>∃ns:List Str,xs=ns.map PV.str/\Wq ss tb λBC ys=>BC=tp/\∃ms:List Str,ys=ms.map PV.str/\k (.bl (!decide (ns=ms)))):Wp ss (Au (Ir K true) ta tb) k:=eR h
theorem Wq.mono{k k':Bool->List PV->Prop}(h:Wq ss te k)(i:∀b xs,k b xs->k' b xs):Wq ss te k':=⟨λE Z F H Q S q=>h.go E Z F H Q S λv tp xs F' H' m s kk=>q v tp xs F' H' m s (i tp xs kk)⟩
theorem TL{β:Type}(c:α->β)(xs:List α)(lo hi:Option Int):Ht (xs.map c) lo hi=(Ht xs lo hi).map c:=by
 unfold Ht;rw[AA,List.map_take,YX]
theorem kC(xs:List α)(g:Nat):Ht xs none (some (g:Int))=xs.take g:=by
 unfold Ht;rw[HT.bw,HT.aj,jG,Ym];rcases Yh g xs.length with h|h
 .rw[Yj h]
 .rw[Yk h,Ei,PY h]
theorem W8(xs:List α)(g:Nat):Ht xs (some (g:Int)) none=xs.drop g:=by
 unfold Ht;rw[HT.bw,HT.aj];rcases Yh g xs.length with h|h
 .rw[Yj h,PY (by rw[Dl];omega)]
 .rw[Yk h,jF,List.drop_of_length_le h];simp
variable{ys:List PV}
noncomputable def K0(xs:List PV):List PV:=(List.range xs.length).map λi:Nat=>.tup [.int (i:Int),xs.getD i .A9]
theorem Oq(xs:List PV):(K0 xs).length=xs.length:=by simp[K0]
theorem WT{x:PV}(h:xs[i]?=some x):(K0 xs)[i]?=some (.tup [.int (i:Int),x]):=by
 have hi:i<xs.length:=(List.getElem?_eq_some_iff.mp h).1;unfold K0;rw[AS,N5 hi];show some (PV.tup [PV.int (i:Int),xs.getD i PV.A9])=_;rw[IJ,h];rfl
theorem ZAM{p:PV}(h:(K0 xs)[i]?=some p):∃x,xs[i]?=some x/\p=.tup [.int (i:Int),x]:=by
 have hi:i<xs.length:=by have:=(List.getElem?_eq_some_iff.mp h).1;rwa [Oq]at this
 have e:=AQ hi;refine⟨xs[i],e,?_⟩;rw[WT e]at h;exact(BW h).symm
theorem TQ{k:List PV->Prop}(h:Wz ss te λ_ xs=>k (K0 xs)):Wi ss (UX K (Ae te BK)) k:=⟨λE Z F H R S q=>
 h.go E Z F H _ S λv tp xs F1 H1 b f kk=>by
  obtain⟨l,vs,o,a,r⟩:∃l vs,v=.ref l/\(∀(ss:List Slot)(Z:L2.St)(F H:Hp),AI F1 F->Sg E ss Z F H->H l=some (CF tp vs))/\AJ F1 vs xs:=by
   cases tp with
   |true=>
    have n:Rep F1 v (.tup xs):=f;cases n with
    |tup e r=>exact⟨_,_,rfl,λss Z F H s S=>S.fh _ _ (s _ _ e),r⟩
   |false=>
    obtain⟨l,vs,e,h1,r⟩:=f;refine⟨l,vs,e,λss Z F H s S=>?_,r⟩;rcases h1 with h1|⟨hA,h1⟩
    .exact S.fh _ _ (s _ _ h1)
    .exact S.keep _ _ hA h1
  subst o;refine⟨l,tp,vs,rfl,CF.sq (a ss Z F1 H1 (AI.refl _) b.st),q _ (K0 xs) F1 H1 b ⟨λss Z F H i s S hi=>?_,λss Z F H s S=>?_,λss Z F H i x H' s S hi y=>?_⟩ kk⟩
  .rw[Oq]at hi;exact⟨CF.sq (a ss Z F H s S),by rw[r.length];exact hi⟩
  .refine⟨CF.sq (a ss Z F H s S),?_⟩;rw[Oq,r.length];exact Aa _
  .obtain⟨p,y,g,ex,j,t⟩:=y;subst ex;subst t;obtain⟨z,d,c⟩:=r.get' g;have m:=S.alloc j (.tup [.int i,y]);exact⟨_,_,WT d,m,.tup AZ (.cons (.int _) (.one (c.mono (s.trans m.ff))))⟩⟩
theorem iL{k:List PV->Prop}(c d:α->PV)(g:α->PV)
  (h:Wi ss wi λxs=>∃ns:List α,xs=ns.map (λa=>.tup [c a,d a])/\ns.length<=100000/\(∀a∈ns,Wp (C7 js ss++[.is (c a),.is (d a)]) te λp=>p=g a)/\k (ns.map g))
  (inj:∀x y,c x=c y->d x=d y->x=y) (nd:js.Nodup:=by decide) (np:Mh js ss=true:=by rfl):Wn ss (Qy K wi js te) k:=by
 by_cases hα:Nonempty α
 .obtain⟨i⟩:=hα;have inv:∀p:PV,∃x:α,∀y,PV.tup [c y,d y]=p->y=x:=λp=>by
   by_cases q:∃y,PV.tup [c y,d y]=p
   .obtain⟨y,b⟩:=q;refine⟨y,λz f=>?_⟩;have e:=f.trans b.symm;injection e with e
    simp only[List.cons.injEq,and_true]at e;exact inj _ _ e.1 e.2
   .exact⟨i,λy b=>absurd ⟨y,b⟩ q⟩
  let w:PV->α:=λp=>Classical.choose (inv p)
  have hw:∀x,w (.tup [c x,d x])=x:=λx=>(jC (inv (.tup [c x,d x])) x rfl).symm;refine fW (λp=>g (w p)) (h.mono λxs⟨ns,e,f,h1,kk⟩=>?_) nd np;subst e;refine⟨by rw[AA];exact f,λx hx=>?_,?_⟩
  .obtain⟨y,b,rfl⟩:=List.mem_map.mp hx;refine⟨_,_,rfl,?_⟩;rw[hw];exact h1 y b
  .have e:(ns.map λa=>PV.tup [c a,d a]).map (λp=>g (w p))=ns.map g:=by
    rw[CJ]
    congr 1
    funext x;show g (w _)=g x;rw[hw]
   rw[e];exact kk
 .refine fW (λp=>p) (h.mono λxs⟨ns,e,f,h1,kk⟩=>?_) nd np;have j:ns=[]:=by
   cases ns with
   |nil=>rfl
   |cons x r=>exact absurd ⟨x⟩ hα
  subst j;subst e;exact⟨by simp,λx hx=>absurd hx (by simp),kk⟩
theorem U6(h:Wq ss ta λtp xs=>tp=false/\Wq ss tb λBC ys=>BC=false/\ys=[]/\k (.bl (decide (xs.length=0)))):Wp ss (Au (ZV K) ta tb) k:=⟨λE Z F H Q S q=>
 h.go E Z F H _ S λv tp xs F1 H1 a sv⟨f,h2⟩=>h2.go E Z F1 H1 _ a.st λv2 BC ys F2 H2 m2 GC⟨Ky,d,kk⟩=>by
  subst f;subst Ky;subst d;obtain⟨l,vs,rfl,c,r⟩:=(sv.mv m2).seq m2.st;obtain⟨l2,Ez,rfl,Bl,b⟩:=GC.seq m2.st;cases b;refine⟨l,l2,vs,rfl,rfl,AK.of c,AK.of Bl,?_⟩;have e:decide (vs=[])=decide (xs.length=0):=by
   rw[<- r.length];cases vs <;> simp
  rw[e];exact q _ _ F2 H2 (a.trans m2) (.bl _) kk⟩
theorem ji{r:List V->Hp->VK->Prop}(c:r=λxs H Q=>(∃i,xs=[.int i]/\Q (.int i) H)∨∃k,xs=[.bl k]/\Q (.int (if k then 1 else 0)) H)(h:Wp ss te λp=>∃b,p=.bl b/\k (.int (if b then 1 else 0))):Wp ss (CQ r (Ae te BK)) k:=⟨λE Z F H Q S q=>
 h.go E Z F H _ S λv p F1 H1 a r AX=>by
  obtain⟨b,e,kk⟩:=AX;subst c;subst e;cases r.inv;exact .inr ⟨b,rfl,q _ _ F1 H1 a (.int _) kk⟩⟩
end
theorem sM{a b:List Str}(p:a.Perm b)(d:sortedS a=true)(c:sortedS b=true):a=b:=by
 refine List.Perm.eq_of_pairwise (le:=λa b=>¬ J6 b a) (λx y _ _ h1 h2=>?_) (XJ d) (XJ c) p;rcases Ts x y with z|z|z
 .exact absurd z h2
 .exact z
 .exact absurd z h1
end Fz
namespace L2
theorem ZCC{X:Cx}{tg:Expr}{a b:Expr}{ta:TA}{p pos:Pos}(w:Gl X "range")(v:X.mg "range"=none)(f:QA X [a,b] ta)(u:starEach [a,b] X.env=[(false,eval a X.env),(false,eval b X.env)]:=by rfl)(Cz:starEach [b] X.env=[(false,eval b X.env)]:=by rfl):QI X tg (.Call (.Name "range" p) [a,b] [] pos) (Wr ta):=⟨by
 have f:=f.h;intro Zd s Z H R I h;refine Call_ (HB I w v boot_range (Lv (f.k pos I h λus s1 vs H1 I1 g d=>?_) (by rw[u,Cz]) (by rw[Cz];rfl)));obtain⟨i,j,e,⟨d,o,n,m⟩,q⟩:=d;subst e;cases g with
 |cons r c=>
  cases c with
  |cons l c=>
   cases c;obtain⟨t,rfl⟩:=r;obtain⟨t',rfl⟩:=l;exact call_range_2 (fq I1 d o n m q)⟩
end L2
namespace Fz
open L2 Lw
section
variable[Xw]
variable{E:Ent0}{ss:List Slot}{Z:L2.St}{F H F' H':Hp}{K:ZDv}{js:List Nat}{ta tb tc te:TE}{k:PV->Prop}{nx:List Slot->Prop}{R:Ao}{xs ys:List PV}
noncomputable def LK(i:Int)(n:Nat):List PV:=(List.range n).map λj:Nat=>PV.int (i+(j:Int))
theorem O4(i:Int)(n:Nat):(LK i n).length=n:=by simp[LK]
theorem vg{i:Int}{n j:Nat}{p:PV}(h:(LK i n)[j]?=some p):j<n/\p=.int (i+(j:Int)):=by
 have a:j<n:=by have:=(List.getElem?_eq_some_iff.mp h).1;rwa [O4]at this
 unfold LK at h;rw[AS,N5 a]at h;exact⟨a,(BW h).symm⟩
theorem fi{k:List PV->Prop}(h:Wp ss ta λp=>∃i:Int,p=.int i/\Wp ss tb λp=>∃j:Int,p=.int j/\(i<=1000000/\-1000000<=i/\j<=1000000/\-1000000<=j)/\k (LK i (j - i).toNat)):Wi ss (Wr (Ae ta (Ae tb BK))) k:=⟨λE Z F H R S q=>
 h.el E S λi F1 H1 b h2=>
  h2.el E b.st λj F2 H2 m2 c=>by
   obtain⟨d,kk⟩:=c;refine⟨i,j,rfl,by omega,q _ (LK i (j - i).toNat) F2 H2 (b.trans m2) ⟨λss Z F H n s S a=>?_,λss Z F H s S=>?_,λss Z F H n x H' s S a y=>?_⟩ kk⟩
   .rw[O4]at a;exact a
   .show _<=_;rw[O4];exact Aa _
   .obtain⟨e,hx⟩:=y;subst e;subst hx;rw[O4]at a;refine⟨.int (i+(n:Int)),F,?_,.refl S,.int _⟩;unfold LK;rw[AS,N5 a];rfl⟩
end
end Fz
namespace Fz
open L2 Lw
section
variable[Xw]
variable{E:Ent0}{ss:List Slot}{Z:L2.St}{F H F' H':Hp}{K:ZDv}{js:List Nat}{ta tb tc te:TE}{k:PV->Prop}{nx:List Slot->Prop}{R:Ao}{xs ys:List PV}{P:Program}{w:World}
theorem UZ(h:Wq ss ta λtp xs=>tp=false/\Wq ss tb λBC ys=>BC=false/\ys=[]/\k (.bl (!decide (xs.length=0)))):Wp ss (Au (ie K) ta tb) k:=⟨λE Z F H Q S q=>
 h.go E Z F H _ S λv tp xs F1 H1 a sv⟨f,h2⟩=>h2.go E Z F1 H1 _ a.st λv2 BC ys F2 H2 m2 GC⟨Ky,d,kk⟩=>by
  subst f;subst Ky;subst d;obtain⟨l,vs,rfl,c,r⟩:=(sv.mv m2).seq m2.st;obtain⟨l2,Ez,rfl,Bl,b⟩:=GC.seq m2.st;cases b;refine⟨l,l2,vs,rfl,rfl,AK.of c,AK.of Bl,?_⟩;have e:decide (vs=[])=decide (xs.length=0):=by
   rw[<- r.length];cases vs <;> simp
  rw[e];exact q _ _ F2 H2 (a.trans m2) (.bl _) kk⟩
end
end Fz
namespace L2
variable{JF Tf p1 p2:Pos}{e:Expr}{t:TA}
section
variable{X:Cx}{Zd:ZDw}{Z:St}{H:Hp}{s:Shared}
theorem fD:∀{xs:List V}{us:List Value},xs.length=us.length->(∀(j:Nat)(x:V)(v:Value),xs[j]?=some x->us[j]?=some v->RelV x v)->Vals xs us
 | [],[],_,_=>.nil
 | [],_::_,h,_=>by cases h
 |_::_,[],h,_=>by cases h
 |_::xs,_::us,h,f=>.cons (f 0 _ _ rfl rfl) (fD (JR h) λj x v hx a=>f (j+1) x v hx a)
def VJ(t:TA):TE:=λZ H Q=>t Z H λvs H1=>∃n:Nat,vs=[.int n]/\n<=1000/\∀l,H1 l=none->Q (.ref l) (upd H1 l (.lst ((List.range n).map λi:Nat=>V.int i)))
theorem ZBR(C:X.calm=true)(Td:Gl X "list")(XD:X.mg "list"=none)(VQ:Gl X "range")(Vk:X.mg "range"=none)(D:PA X [e] t)
  (B:starEach [e] X.env=[(false,eval e X.env)]:=by rfl) (Jh:starEach [.Call (.Name "range" p2) [e] [] JF] X.env=[(false,eval (.Call (.Name "range" p2) [e] [] JF) X.env)]:=by rfl) :
  PE X (.Call (.Name "list" p1) [.Call (.Name "range" p2) [e] [] JF] [] Tf) (VJ t):=by
 intro Zd s Z H Q I h;refine uU (HB I Td XD (show bootBuiltins "list"=some (.type "list") by decide +kernel) ?_ (by decide) (by decide));refine Lv ?_ Jh rfl;rw[Jh];show wpAny _ _ (spliced ((false,eval (.Call (.Name "range" p2) [e] [] JF) X.env)::[])) _ _ s;refine Calls.spliced_cons ?_;refine uU (HB I VQ Vk (show bootBuiltins "range"=some (.type "range") by decide +kernel) ?_ (by decide) (by decide));refine Lv (D.k JF I h λus s1 vs H1 I1 p r=>?_) B rfl;obtain⟨n,rfl,z,q⟩:=r;obtain⟨u,rfl,l⟩:=vals1 p;obtain⟨g,rfl⟩:=l;have hh:X.A.handled=none:=I1.ok.hd C;refine call_range_1 ?_;refine Calls.spliced_nil ?_;refine call_list_range (n:=n) hh (IsRange.new ..) (small_one (by omega) (by omega) (by omega) (by omega)) (by rw[rangeSize_one];split <;> omega) (by omega) λh' tk acc c hk E BB=>?_
 have kp:∀b o,s1.heap.get? b=some o->h'.get? b=some o:=λb o e=>hk b o (Aj _ e);have hsz:∀f:Obj,(s1.heap.push f).objs.size=s1.heap.objs.size+1:=λf=>C2 ..;have a:Vals ((List.range n).map λi:Nat=>V.int i) acc.toList:=by
  obtain⟨y,a⟩:=BB;refine fD (by rw[AA,Cc,C9,y]) λj x v hx ME=>?_;rw[Lm]at ME;obtain⟨t,rfl⟩:=a j v ME;rw[AS]at hx;cases d:(List.range n)[j]? with
  |none=>rw[d]at hx;cases hx
  |some m=>
   rw[d]at hx;cases hx;have:=List.getElem?_eq_some_iff.mp d;obtain⟨h1,h2⟩:=this;rw[List.getElem_range]at h2;subst h2;exact⟨t,by congr 1;omega⟩
 refine⟨.ref _,_,I1.laid (t':=tk) kp (by rw[hsz];exact DH _) (show Bx X.prog X.w _ h' _ (.lst _)from⟨by rw[AA,Cc];exact CL z (by decide),acc.toList,c,a,by rw[ZCG];exact E⟩),rfl,q _ (I1.AG.fresh (by show _<=_;rw[hsz];exact DH _))⟩
theorem ZAd(b:X.calm=true)(Td:Gl X "list")(XD:X.mg "list"=none)(VQ:Gl X "range")(Vk:X.mg "range"=none)(c:QA X [e] t)
  (a:starEach [e] X.env=[(false,eval e X.env)]:=by rfl) (Jh:starEach [.Call (.Name "range" p2) [e] [] JF] X.env=[(false,eval (.Call (.Name "range" p2) [e] [] JF) X.env)]:=by rfl) :
  QE X (.Call (.Name "list" p1) [.Call (.Name "range" p2) [e] [] JF] [] Tf) (VJ t):=⟨ZBR b Td XD VQ Vk c.h a Jh⟩
end
end L2
namespace Fz
open L2 Lw
section
variable[Xw]
variable{K:ZDv}{E:Ent0}{ss:List Slot}{Z:L2.St}{F H:Hp}{te ta tb:TE}{k:PV->Prop}{nx:List Slot->Prop}{R:Ao}{xs ys:List PV}
theorem aq{k:List PV->Prop}(h:Wp ss te λp=>∃j:Int,p=.int j/\0<=j/\j<=1000/\k (GS j.toNat)):Wn ss (VJ (Ae te BK)) k:=⟨λE Z F H Q S q=>
 h.el E S λj F1 H1 b d=>by
  obtain⟨g,m,kk⟩:=d;generalize f:j.toNat=n at kk;refine⟨n,by rw[<- f,PL g],by omega,λa c=>?_⟩;have m2:=b.st.make c (.lst ((List.range n).map λi:Nat=>V.int i));have e:AJ F1 ((List.range n).map λi:Nat=>V.int i) (GS n):=by
   have e1:GS n=((List.range n).map λi:Nat=>(i:Int)).map PV.int:=by unfold GS;rw[CJ];rfl
   have l:((List.range n).map λi:Nat=>V.int (i:Int))=(GS n).map Fz.enc:=by rw[e1,So,CJ];rfl
   rw[l];exact Np (by rw[e1];exact Sf _)
  exact q a _ _ F1 _ (b.trans m2) (b.st.Bo c) (b.none c) AZ e kk⟩
end
end Fz
namespace Lw
open L2
variable{c t:Addr}{r:Str}{g:Int}{ss:List Str}
def Kr(H:Hp)(t c:Addr)(r:Str)(g:Int)(ss:List Str):Prop:=H t=some (.tup [.str r,.int g,.ref c])/\H c=some (.tup (ss.map V.str))
theorem Kr.h{H:Hp}(h:Kr H t c r g ss):YB H t r g ss:=⟨c,h⟩
theorem Kr.same{H H':Hp}(s:AI H H')(h:Kr H t c r g ss):Kr H' t c r g ss:=⟨s _ _ h.1,s _ _ h.2⟩
end Lw
namespace Fz
open L2 Lw
variable{E:Ent0}{ss:List Slot}{Z:L2.St}{F F' F0 F1 H H' H0:Hp}{js m p:List Nat}{ta tb tc te ti:TE}{nx:List Slot->Prop}{R:Ao}{n t u x y:OV}{v:V}{r:Str}{g i j:Nat}{cs:List Str}{gH ps xs ys:List PV}{Br vs ws:List V}{A:Around}{A3 BE:List Value}{BC tp:Bool}{a b:Addr}{q:PV}{us:List OV}{as:List Addr}
noncomputable def Md(r:Str)(g:Nat)(ss:List Str):PV:=.tup [.str r,.int g,.tup (ss.map .str)]
section
variable[Xw]
variable{K:ZDv}{k:PV->Prop}
theorem Mv.adopt(m:Mv E ss Z F H F1 H')(S:Sg E ss Z F H){t:Addr}{o:HO}(c:H t=Option.none)(e:H' t=some o):Mv E ss Z F H (upd F1 t o) H':=by
 have b:AI F1 (upd F1 t o):=λa u q=>by
  by_cases z:a=t
  .subst z;have w:=m.st.fh _ _ q;rw[e]at w;rw[AZ];exact w
  .rw[AY z];exact q
 refine S.step (m.ff.trans b) (λa u q=>?_) m.hh (λa u q=>?_) λi l hi d=>m.st.Fp hi d
 .by_cases z:a=t
  .subst z;rw[AZ]at q;rw[<- q];exact e
  .rw[AY z]at q;exact m.st.fh a u q
 .by_cases z:a=t
  .subst z;exact .inr c
  .rw[AY z]at q;exact m.nn a u q
theorem m7(h:Rep F v (Md r g cs)):∃t c,v=.ref t/\Kr F t c r g cs:=by
 obtain⟨_,_,rfl,e,q⟩:=h.inv;obtain⟨_,_,rfl,a,q⟩:=q.inv;obtain⟨_,_,rfl,b,q⟩:=q.inv;obtain⟨_,_,rfl,c,q⟩:=q.inv;cases q;cases a;cases b;obtain⟨_,_,rfl,d,f⟩:=c.inv;rw[f.strs]at d;exact⟨_,_,rfl,e,d⟩
theorem uI{t c:Addr}(h:Kr F t c r g cs):Rep F (.ref t) (Md r g cs):=.tup h.1 (.cons (.str _) (.cons (.int _) (.one (.tup h.2 (UY cs)))))
theorem x9(hi:ss[i]?=some .AE)(h:Wq ss ta λtp xs=>tp=false/\∃ns:List Str,xs=ns.map PV.str/\ns.length<=40/\ns.Nodup/\∀(r:Str)(g:Nat)(cs:List Str),CD ns r g cs->cs.length<=40->k (Md r g cs)):
  Wp ss (EZ V0 [] E0 (Ae (Ap i) (Ae ta BK))) k:=⟨λE Z F H Q S q=>by
 obtain⟨p,e,_⟩:=S.ok i _ hi;refine⟨_,e,h.go E Z F H _ S λv tp xs F1 H1 a sv⟨J,ns,ex,A,nd,kk⟩=>?_⟩;subst J;subst ex;obtain⟨l,vs,I,C,d,r⟩:=sv;subst I;rw[r.strs]at d;refine⟨p,l,ns,rfl,a.st.Fp hi e,d,λz=>C i hi (z▸e),A,nd,λt c r g cs H3 B D s e1 f G=>?_⟩;obtain⟨w,b,u,o,m,j⟩:=G;obtain⟨n,rfl⟩:=YO b;have y:=(a.st.WO hi e s).adopt a.st D f;have x:=y.adopt a.st B e1;refine q _ _ _ H3 (a.trans x) (uI (c:=c) ⟨AZ,?_⟩) (kk r n cs ⟨w,b,u,o,m⟩ j)
 by_cases z:c=t
 .subst z;rw[AZ];exact e1.symm.trans f
 .rw[AY z,AZ]⟩
theorem XM{n:Nat}(h:j<n):FT n (j:Int)=some j:=by
 unfold FT;simp;omega
theorem AJ.set:∀{xs:List PV}(j:Nat){v:V}{p:PV},AJ F vs xs->Rep F v p->AJ F (vs.set j v) (xs.set j p):=by
 intro xs
 induction vs generalizing xs with
 |nil=>intro j v p h r;cases h;exact .nil
 |cons a vs c=>
  intro j v p h r;cases h with
  |cons b t=>
   cases j with
   |zero=>exact .cons r t
   |succ j=>exact .cons b (c j t r)
theorem gy(hi:ss[i]?=some (.own xs))(h:Wp ss te λp=>Wp ss ti λq=>∃j:Nat,q=.int j/\j<xs.length/\nx (ss.set i (.own (xs.set j p)))):Ws ss (EH te (Nl (Ap i) ti RT)) nx R:=⟨λE D Z F H S g o=>
 h.go E Z F H _ S λv p F1 H1 a d h2=>by
  obtain⟨l,vs,e,e1,t,s,r⟩:=a.st.ok i _ hi;refine⟨_,e,h2.go E Z F1 H1 _ a.st λv2 q F2 H2 m2 f⟨j,m,k,kk⟩=>?_⟩;subst m;cases f.inv;obtain⟨n,Br,c,Cf,BL,LG,b⟩:=m2.st.ok i _ hi;rw[e]at c;cases c;refine⟨l,Br,_,j,rfl,rfl,LG,XM (by rw[b.length];exact k),?_⟩;exact g _ Z F2 _ kk (m2.st.put hi e Cf BL (b.set j (d.mono m2.ff))) (a.ff.trans m2.ff)⟩
end
mutual
def Bb:PV->PV->Bool
 | .lst xs,.lst ys=>Cw xs ys
 | .tup xs,.tup ys=>Cw xs ys
 | .tup xs,.con _ ys=>Cw xs ys
 | .con _ xs,.tup ys=>Cw xs ys
 | .con _ xs,.con _ ys=>Cw xs ys
 | .A9,.A9=>true
 | .bl a,.bl b=>a == b
 | .bl a,.int b=>(if a then 1 else 0) == b
 | .int a,.bl b=>a == (if b then 1 else 0)
 | .int a,.int b=>a == b
 | .str a,.str b=>a == b
 |_,_=>false
def Cw:List PV->List PV->Bool
 | [],[]=>true
 |x::r,y::t=>Bb x y && Cw r t
 |_,_=>false
end
theorem QJ(x y:PV)(r t:List PV):Cw (x::r) (y::t)=(Bb x y && Cw r t):=by rw[Cw]
theorem W7:∀(xs ys:List PV),xs.length≠ys.length->Cw xs ys=false
 | [],[],h=>absurd rfl h
 | [],_::_,_=>by rw[Cw];all_goals simp
 |_::_,[],_=>by rw[Cw];all_goals simp
 |x::r,y::t,h=>by rw[QJ,W7 r t (by simpa using h),IH]
theorem V6:∀(xs ys:List PV),xs.length=ys.length->Cw xs ys=(List.range xs.length).all λj=>Bb (xs.getD j .A9) (ys.getD j .A9)
 | [],[],_=>by rw[Cw];rfl
 |x::r,y::t,h=>by
  rw[QJ,V6 r t (by simpa using h),Az,List.range_succ_eq_map,T2,PM]
  rfl
def dat(K:ZDv):Nat->PV->Prop
 |_,.A9=>True
 |_,.bl _=>True
 |_,.int _=>True
 |_,.str _=>True
 |d+1,.lst xs=>∀x∈xs,dat K d x
 |d+1,.tup xs=>∀x∈xs,dat K d x
 |d+1,.con a xs=>(∀x∈xs,dat K d x)/\xs.all flat=true/\∀H,Al K H a (xs.map Fz.enc)
 |_,_=>False
inductive GX (K:ZDv) (H:Hp):V->PV->Bool->Addr->List V->List PV->Prop where
 |lst {a:Addr}{vs:List V}{xs:List PV}:AK K H a vs->AJ H vs xs->GX K H (.ref a) (.lst xs) false a vs xs
 |tup {a:Addr}{vs:List V}{xs:List PV}:Al K H a vs->AJ H vs xs->GX K H (.ref a) (.tup xs) true a vs xs
 |con {a:Addr}{vs:List V}{xs:List PV}:Al K H a vs->AJ H vs xs->GX K H (.ref a) (.con a xs) true a vs xs
theorem G3{K:ZDv}:∀{d:Nat}{x:V}{p:PV},dat K d p->Rep H x p->(flat p=true/\x=Fz.enc p)∨∃d' tp a vs xs,d=d'+1/\GX K H x p tp a vs xs/\∀y∈xs,dat K d' y:=by
 intro d x p h r;cases r with
 |A9=>exact .inl ⟨rfl,rfl⟩
 |bl b=>exact .inl ⟨rfl,rfl⟩
 |int b=>exact .inl ⟨rfl,rfl⟩
 |str b=>exact .inl ⟨rfl,rfl⟩
 |lst e r=>cases d with
  |zero=>exact h.elim
  |succ d=>exact .inr ⟨d,_,_,_,_,rfl,.lst (AK.of e) r,h⟩
 |tup e r=>cases d with
  |zero=>exact h.elim
  |succ d=>exact .inr ⟨d,_,_,_,_,rfl,.tup (Al.of e) r,h⟩
 |con=>cases d with
  |zero=>exact h.elim
  |succ d=>obtain⟨h1,h2,c⟩:=h;exact .inr ⟨d,_,_,_,_,rfl,.con (c H) (Np h2),h1⟩
 |BA _ _ _=>cases d <;> exact h.elim
 |obj _ _ _ _=>cases d <;> exact h.elim
 |RH _=>cases d <;> exact h.elim
 |exc _ _ _ _=>cases d <;> exact h.elim
section
variable{X:Cx}{Zd:ZDw}{s:Shared}
theorem tX(b:Vals vs A3)(a:Vals ws BE)(d:AJ H vs xs)(c:AJ H ws ys)
  (h:∀(x y:V)(p q:PV)(u v:Value),p∈xs->q∈ys->Rep H x p->Rep H y q->RelV x u->RelV y v->SeqAt.EqAt A s u v (Bb p q)) :
  ∀j(h1:j<A3.toArray.size)(h2:j<BE.toArray.size),SeqAt.EqAt A s A3.toArray[j] BE.toArray[j] ((λj=>Bb (xs.getD j .A9) (ys.getD j .A9)) j):=λj h1 h2=>by
 have l1:=b.length;have l2:=a.length;have B:=d.length;have z:=c.length;have w:j<A3.length:=by simpa using h1
 have t:j<BE.length:=by simpa using h2
 have a1:j<xs.length:=by omega
 have a2:j<ys.length:=by omega
 obtain⟨x,hx,k⟩:=d.get (i:=j) (p:=xs[j]) (AQ a1);obtain⟨y,n,g⟩:=c.get (i:=j) (p:=ys[j]) (AQ a2);obtain⟨u,f,m⟩:=b.get hx;obtain⟨v,e,l⟩:=a.get n;rw[AQ w]at f;rw[AQ t]at e;have r:A3[j]=u:=BW f;have o:BE[j]=v:=BW e;have q:=h x y _ _ u v (Gs a1) (Gs a2) k g m l;rw[<- r,<- o]at q;show SeqAt.EqAt A s _ _ (Bb (xs.getD j .A9) (ys.getD j .A9));rw[IJ,AQ a1,IJ,AQ a2]
 simpa using q
theorem Rf{p:PV}{x:V}(h:GX X.K H x p tp a vs xs)(f:flat q=true):Bb p q=false/\Bb q p=false:=by
 cases h <;> cases q <;> first|exact Bool.noConfusion f|exact⟨rfl,rfl⟩
theorem Vs{p:PV}{x y:V}(h:GX X.K H x p tp a vs xs)(h2:GX X.K H y q BC b ws ys):Bb p q=(if tp=BC then Cw xs ys else false):=by
 cases h <;> cases h2 <;> rfl
theorem RK{p:PV}(h:flat p=true)(h2:flat q=true):Bb p q=E6 (Fz.enc p) (Fz.enc q):=by
 cases p <;> cases q <;> first|exact Bool.noConfusion h|exact Bool.noConfusion h2|rfl
theorem ZA5{p:PV}{u v:Value}(h:flat p=true)(h2:flat q=true)(b:RelV (Fz.enc p) u)(a:RelV (Fz.enc q) v):SeqAt.RcAt A s u v (Bb p q)/\SeqAt.RcNeAt A s u v (!Bb p q):=by
 cases p <;> first|exact Bool.noConfusion h|skip
 all_goals cases q <;> first|exact Bool.noConfusion h2|skip
 .cases b;cases a;exact⟨.none_none,.none_none⟩
 .cases b;cases a;exact⟨.none_bool _,.none_bool _⟩
 .cases b;obtain⟨t,rfl⟩:=a;exact⟨.none_int _ _,.none_int _ _⟩
 .cases b;obtain⟨t,rfl⟩:=a;exact⟨.none_str _ _,.none_str _ _⟩
 .cases b;cases a;exact⟨.bool_none _,.bool_none _⟩
 .cases b;cases a;exact⟨.bool_bool _ _,.bool_bool _ _⟩
 .cases b;obtain⟨t,rfl⟩:=a;exact⟨.bool_int _ _ _,.bool_int _ _ _⟩
 .cases b;obtain⟨t,rfl⟩:=a;exact⟨.bool_str _ _ _,.bool_str _ _ _⟩
 .obtain⟨t,rfl⟩:=b;cases a;exact⟨.int_none _ _,.int_none _ _⟩
 .obtain⟨t,rfl⟩:=b;cases a;exact⟨.int_bool _ _ _,.int_bool _ _ _⟩
 .obtain⟨t,rfl⟩:=b;obtain⟨t2,rfl⟩:=a;exact⟨.int_int _ _ _ _,.int_int _ _ _ _⟩
 .obtain⟨t,rfl⟩:=b;obtain⟨t2,rfl⟩:=a;exact⟨.int_str _ _ _ _,.int_str _ _ _ _⟩
 .obtain⟨t,rfl⟩:=b;cases a;exact⟨.str_none _ _,.str_none _ _⟩
 .obtain⟨t,rfl⟩:=b;cases a;exact⟨.str_bool _ _ _,.str_bool _ _ _⟩
 .obtain⟨t,rfl⟩:=b;obtain⟨t2,rfl⟩:=a;exact⟨.str_int _ _ _ _,.str_int _ _ _ _⟩
 .obtain⟨t,rfl⟩:=b;obtain⟨t2,rfl⟩:=a;exact⟨.str_str _ _ _ _,.str_str _ _ _ _⟩
def R5(h:Heap)(tp:Bool)(a:Addr)(A3:Array Value):Prop:=if tp then IsTup h a A3 else h.IsList a A3
theorem GX.Gn(I:Inv X Zd Z H s){x:V}{p:PV}(h:GX X.K H x p tp a vs xs):∃A3:List Value,x=.ref a/\Vals vs A3/\R5 s.heap tp a A3.toArray/\AJ H vs xs:=by
 cases h with
 |lst h r=>obtain⟨A3,b,p1,_⟩:=I.list h;exact⟨A3,rfl,b,p1.isList,r⟩
 |tup h r=>obtain⟨A3,b,p1,_⟩:=I.tuple h;exact⟨A3,rfl,b,p1,r⟩
 |con h r=>obtain⟨A3,b,p1,_⟩:=I.tuple h;exact⟨A3,rfl,b,p1,r⟩
theorem Sx{A3:Array Value}{v:Value}(h:R5 s.heap tp a A3)(f:flat q=true)(c:RelV (Fz.enc q) v)(b:A.units<cLine):
  (SeqAt.EqAt A s (.ref a) v false/\SeqAt.EqAt A s v (.ref a) false)/\(SeqAt.RcAt A s (.ref a) v false/\SeqAt.RcAt A s v (.ref a) false)/\(SeqAt.RcNeAt A s (.ref a) v true/\SeqAt.RcNeAt A s v (.ref a) true):=by
 cases tp with
 |false=>
  have h':s.heap.IsList a A3:=h;cases q <;> first|exact Bool.noConfusion f|skip
  .cases c;exact⟨⟨.list_none h' b,.none_list h' b⟩,⟨.list_none h' b,.none_list h' b⟩,⟨.list_none h' b,.none_list h' b⟩⟩
  .cases c;exact⟨⟨.list_bool _ h' b,.bool_list _ h' b⟩,⟨.list_bool _ h' b,.bool_list _ h' b⟩,⟨.list_bool _ h' b,.bool_list _ h' b⟩⟩
  .obtain⟨t,rfl⟩:=c;exact⟨⟨.list_int _ _ h' b,.int_list _ _ h' b⟩,⟨.list_int _ _ h' b,.int_list _ _ h' b⟩,⟨.list_int _ _ h' b,.int_list _ _ h' b⟩⟩
  .obtain⟨t,rfl⟩:=c;exact⟨⟨.list_str _ _ h' b,.str_list _ _ h' b⟩,⟨.list_str _ _ h' b,.str_list _ _ h' b⟩,⟨.list_str _ _ h' b,.str_list _ _ h' b⟩⟩
 |true=>
  have h':IsTup s.heap a A3:=h;cases q <;> first|exact Bool.noConfusion f|skip
  .cases c;exact⟨⟨.tuple_none h' b,.none_tuple h' b⟩,⟨.tuple_none h' b,.none_tuple h' b⟩,⟨.tuple_none h' b,.none_tuple h' b⟩⟩
  .cases c;exact⟨⟨.tuple_bool _ h' b,.bool_tuple _ h' b⟩,⟨.tuple_bool _ h' b,.bool_tuple _ h' b⟩,⟨.tuple_bool _ h' b,.bool_tuple _ h' b⟩⟩
  .obtain⟨t,rfl⟩:=c;exact⟨⟨.tuple_int _ _ h' b,.int_tuple _ _ h' b⟩,⟨.tuple_int _ _ h' b,.int_tuple _ _ h' b⟩,⟨.tuple_int _ _ h' b,.int_tuple _ _ h' b⟩⟩
  .obtain⟨t,rfl⟩:=c;exact⟨⟨.tuple_str _ _ h' b,.str_tuple _ _ h' b⟩,⟨.tuple_str _ _ h' b,.str_tuple _ _ h' b⟩,⟨.tuple_str _ _ h' b,.str_tuple _ _ h' b⟩⟩
theorem GX.inj(I:Inv X Zd Z H s){x y:V}{p q:PV}{tp BC:Bool}{a:Addr}{vs ws:List V}{xs ys:List PV}(h:GX X.K H x p tp a vs xs)(h2:GX X.K H y q BC a ws ys):tp=BC/\vs=ws:=by
 have no:∀{vs ws:List V},AK X.K H a vs->Al X.K H a ws->False:=λ{vs ws}h1 h2=>by
  obtain⟨A3,_,p1,_⟩:=I.list h1;obtain⟨BE,_,p2,_⟩:=I.tuple h2;obtain⟨o,n,e,c,_⟩:=p1;obtain⟨f,b,d,_⟩:=p2;rw[e]at b;cases b;rw[c]at d;exact absurd d (by decide)
 cases h with
 |lst h r=>cases h2 with
  |lst h2 _=>exact⟨rfl,I.eN h h2⟩
  |tup h2 _=>exact(no h h2).elim
  |con h2 _=>exact(no h h2).elim
 |tup h r=>cases h2 with
  |lst h2 _=>exact(no h2 h).elim
  |tup h2 _=>exact⟨rfl,I.OK h h2⟩
  |con h2 _=>exact⟨rfl,I.OK h h2⟩
 |con h r=>cases h2 with
  |lst h2 _=>exact(no h2 h).elim
  |tup h2 _=>exact⟨rfl,I.OK h h2⟩
  |con h2 _=>exact⟨rfl,I.OK h h2⟩
theorem ay{p:PV}(h:flat p=true):E6 (Fz.enc p) (Fz.enc p)=true:=by cases p <;> first|exact Bool.noConfusion h|exact vh _|rfl
theorem sZ(i:∀(x:V)(p q:PV),Rep H x p->Rep H x q->dat X.K d p->dat X.K d q->Bb p q=true)(f:AJ H vs xs)(c:AJ H vs ys)(h1:∀x∈xs,dat X.K d x)(h2:∀y∈ys,dat X.K d y):Cw xs ys=true:=by
 induction xs generalizing vs ys with
 |nil=>
  cases f.DI;cases ys with
  |nil=>rfl
  |cons y t=>obtain⟨v,ws,e,_⟩:=c.inv;cases e
 |cons x xs h=>
  obtain⟨v,ws,rfl,a,b⟩:=f.inv;cases ys with
  |nil=>have e:=c.DI;cases e
  |cons y t=>
   obtain⟨v2,g,e,a2,j⟩:=c.inv;cases e;rw[QJ,i _ _ _ a a2 (h1 _ Ar) (h2 _ Ar),h b j (λx hx=>h1 x (BG _ hx)) (λx hx=>h2 x (BG _ hx))];rfl
theorem mW(I:Inv X Zd Z H s):∀(d:Nat)(x:V)(p q:PV),Rep H x p->Rep H x q->dat X.K d p->dat X.K d q->Bb p q=true:=λd=>by
 induction d with
 |zero=>
  intro x p q k h h1 h2;rcases G3 h1 k with⟨j,e1⟩|⟨d',_,_,_,_,e,_⟩
  .rcases G3 h2 h with⟨c,g⟩|⟨d',_,_,_,_,e,_⟩
   .rw[RK j c,<- e1,g];exact ay c
   .cases e
  .cases e
 |succ d o=>
  intro x p q k h h1 h2;rcases G3 h1 k with⟨j,e1⟩|⟨v,tp,a,vs,xs,e,i,k1⟩
  .rcases G3 h2 h with⟨c,g⟩|⟨u,BC,b,ws,ys,e,f,k2⟩
   .rw[RK j c,<- e1,g];exact ay c
   .obtain⟨_,ex,_⟩:=f.Gn I;subst ex;cases p <;> first|(cases j;done)|(cases e1;done)
  .cases e;rcases G3 h2 h with⟨c,g⟩|⟨u,BC,b,ws,ys,e,f,k2⟩
   .obtain⟨_,ex,_⟩:=i.Gn I;subst ex;cases q <;> first|(cases c;done)|(cases g;done)
   .cases e;obtain⟨_,ex,_,_,n⟩:=i.Gn I;obtain⟨_,l,_,_,m⟩:=f.Gn I;rw[ex]at l;cases l;obtain⟨t,r⟩:=i.inj I f;subst r;rw[Vs i f,p7 t];exact sZ o n m k1 k2
theorem oA(b:Vals vs A3)(a:Vals ws BE)(d:AJ H vs xs)(c:AJ H ws ys):A3.toArray.size=xs.length/\BE.toArray.size=ys.length:=by
 have l1:=b.length;have l2:=a.length;have f:=d.length;have e:=c.length;simp only[Bu];omega
theorem fo(h1:R5 s.heap tp a A3.toArray)(h2:R5 s.heap BC b BE.toArray)(m:Vals vs A3)(l:Vals ws BE)(o:AJ H vs xs)(n:AJ H ws ys)(c:A.units<cLine)
  (h:∀(x y:V)(p q:PV)(u v:Value),p∈xs->q∈ys->Rep H x p->Rep H y q->RelV x u->RelV y v->SeqAt.EqAt A.in1 s u v (Bb p q)) :
  SeqAt.RcAt A s (.ref a) (.ref b) (if tp=BC then Cw xs ys else false)/\SeqAt.RcNeAt A s (.ref a) (.ref b) (!(if tp=BC then Cw xs ys else false)):=by
 obtain⟨i,k⟩:=oA m l o n;have it:=tX (A:=A.in1) m l o n h;cases tp with
 |false=>cases BC with
  |false=>
   rw[p7 rfl];have g:s.heap.IsList a A3.toArray:=h1;have f:s.heap.IsList b BE.toArray:=h2
   by_cases d:xs.length=ys.length
   .rw[V6 xs ys d,<- i];exact⟨.lists g f (by omega) c it,.lists g f (by omega) c it⟩
   .rw[W7 xs ys d];have r:(A3.toArray.size != BE.toArray.size)=true:=by simp only[bne_iff_ne,ne_eq];omega
    exact⟨.lists_lengths g f r c,.lists_lengths g f r c⟩
  |true=>rw[mD (by decide)];exact⟨.list_tuple h1 h2 c,.list_tuple h1 h2 c⟩
 |true=>cases BC with
  |false=>rw[mD (by decide)];exact⟨.tuple_list h1 h2 c,.tuple_list h1 h2 c⟩
  |true=>
   rw[p7 rfl];have g:IsTup s.heap a A3.toArray:=h1;have f:IsTup s.heap b BE.toArray:=h2;have e:((List.range (min A3.toArray.size BE.toArray.size)).all (λj=>Bb (xs.getD j .A9) (ys.getD j .A9)) && A3.toArray.size == BE.toArray.size)=Cw xs ys:=by
    by_cases d:xs.length=ys.length
    .rw[V6 xs ys d,i,k,<- d,jT,vh,Sz]
    .rw[W7 xs ys d,i,k,show(xs.length == ys.length)=false from by simpa using d,IH]
   have k1:=SeqAt.RcAt.tuples (A:=A) (e:=λj=>Bb (xs.getD j .A9) (ys.getD j .A9)) g f c it;have k2:=SeqAt.RcNeAt.tuples (A:=A) (e:=λj=>Bb (xs.getD j .A9) (ys.getD j .A9)) g f c it;rw[e]at k1 k2;exact⟨k1,k2⟩
theorem cW(I:Inv X Zd Z H s):∀(d:Nat)(x y:V)(p q:PV),Rep H x p->Rep H y q->dat X.K d p->dat X.K d q->∀(A:Around)(u v:Value),RelV x u->RelV y v->A.units+d<cLine->SeqAt.EqAt A s u v (Bb p q):=λd=>by
 induction d with
 |zero=>
  intro x y p q k h h1 h2 A u v f c D;rcases G3 h1 k with⟨i,e1⟩|⟨_,_,_,_,_,e,_⟩
  .rcases G3 h2 h with⟨g,m⟩|⟨_,_,_,_,_,e,_⟩
   .subst e1;subst m;rw[RK i g];exact Qz f c (SJ i) (SJ g)
   .cases e
  .cases e
 |succ d C=>
  intro x y p q k h h1 h2 A u v f c D;rcases G3 h1 k with⟨i,e1⟩|⟨J,tp,a,vs,xs,e,n,k1⟩
  .rcases G3 h2 h with⟨g,m⟩|⟨G,BC,b,ws,ys,e,l,k2⟩
   .subst e1;subst m;rw[RK i g];exact Qz f c (SJ i) (SJ g)
   .obtain⟨A3,o,_,j,_⟩:=l.Gn I;subst e1;subst o;cases(show v=Value.ref b from c);rw[(Rf l i).2];exact(Sx j i f (by omega)).1.2
  .cases e;rcases G3 h2 h with⟨g,m⟩|⟨G,BC,b,ws,ys,e,l,k2⟩
   .obtain⟨A3,ex,_,j,_⟩:=n.Gn I;subst m;subst ex;cases(show u=Value.ref a from f);rw[(Rf n g).1];exact(Sx j g c (by omega)).1.1
   .cases e;obtain⟨A3,ex,v1,B,w⟩:=n.Gn I;obtain⟨BE,o,v2,z,t⟩:=l.Gn I;subst ex;subst o;cases(show u=Value.ref a from f);cases(show v=Value.ref b from c)
    by_cases r:a=b
    .subst r;rw[mW I (d+1) _ p q k h h1 h2];exact .same _
    .rw[Vs n l];refine SeqAt.EqAt.of_refs r (fo B z v1 v2 w t (by omega) λx y p q u v F E k h f c=>?_).1;exact C x y p q k h (k1 p F) (k2 q E) A.in1 u v f c (by show A.units+1+d<cLine;omega)
theorem ZBb(I:Inv X Zd Z H s)(d:Nat)(x y:V)(p q:PV)(m:Rep H x p)(i:Rep H y q)(h1:dat X.K d p)(h2:dat X.K d q)(A:Around)(u v:Value)(f:RelV x u)(c:RelV y v)(G:A.units+d<cLine):SeqAt.RcAt A s u v (Bb p q)/\SeqAt.RcNeAt A s u v (!Bb p q):=by
 rcases G3 h1 m with⟨n,e1⟩|⟨r,tp,a,vs,xs,e,k,k1⟩
 .rcases G3 h2 i with⟨l,h⟩|⟨F,BC,b,ws,ys,e,g,k2⟩
  .subst e1;subst h;exact ZA5 n l f c
  .obtain⟨A3,o,_,j,_⟩:=g.Gn I;subst e1;subst o;cases(show v=Value.ref b from c);rw[(Rf g n).2];have z:=Sx (A:=A) j n f (by omega);exact⟨z.2.1.2,z.2.2.2⟩
 .rcases G3 h2 i with⟨l,h⟩|⟨F,BC,b,ws,ys,h,g,k2⟩
  .obtain⟨A3,ex,_,j,_⟩:=k.Gn I;subst h;subst ex;cases(show u=Value.ref a from f);rw[(Rf k l).1];have z:=Sx (A:=A) j l c (by omega);exact⟨z.2.1.1,z.2.2.1⟩
  .subst e;cases h;obtain⟨A3,ex,v1,C,w⟩:=k.Gn I;obtain⟨BE,o,v2,B,t⟩:=g.Gn I;subst ex;subst o;cases(show u=Value.ref a from f);cases(show v=Value.ref b from c);rw[Vs k g];exact fo C B v1 v2 w t (by omega) λx y p q u v E D m i f c=>cW I r x y p q m i (k1 p E) (k2 q D) A.in1 u v f c (by show A.units+1+r<cLine;omega)
def cS(K:ZDv)(neg:Bool):R2:=λx y H Q=>∃p q,Rep H x p/\Rep H y q/\dat K 40 p/\dat K 40 q/\Q (.bl (if neg then !Bb p q else Bb p q)) H
theorem wH(i:X.A.units+64<cLine):B0 X (compareOp .NotEq) (cS X.K true):=by
 intro Zd s Z H x y v u Q I b a h;obtain⟨p,q,d,c,g,f,e⟩:=h;exact(ZBb I 40 x y p q d c g f X.A _ _ b a (by omega)).2 _ _ _ _ ⟨.bl (!Bb p q),H,I,rfl,e⟩
end
section
variable[Xw]
variable{K:ZDv}{k:PV->Prop}
theorem fG(h:Wp ss ta λp=>Wp ss tb λq=>dat K 40 p/\dat K 40 q/\k (.bl (!Bb p q))):Wp ss (Au (cS K true) ta tb) k:=⟨λE Z F H Q S q=>
 h.go E Z F H _ S λv p F1 H1 a c h2=>h2.go E Z F1 H1 _ a.st λv2 p2 F2 H2 m2 b⟨e,d,kk⟩=>
  ⟨p,p2,(c.mono m2.ff).mono m2.st.fh,b.mono m2.st.fh,e,d,q _ _ F2 H2 (a.trans m2) (.bl _) kk⟩⟩
end
noncomputable def OV.at(t:OV):List Nat->Option OV
 | []=>some t
 |j::p=>match t with
  | .nd _ _ xs=>(xs[j]?).bind λx=>OV.at x p
  | .tp xs=>(xs[j]?).bind λx=>OV.at x p
  | .fz _=>none
noncomputable def OV.put(t:OV)(l:List Nat)(n:OV):OV:=match l with
 | []=>n
 |j::p=>match t with
  | .nd k a xs=>match xs[j]? with
   |some x=>.nd k a (xs.set j (OV.put x p n))
   |none=>.nd k a xs
  | .tp xs=>match xs[j]? with
   |some x=>.tp (xs.set j (OV.put x p n))
   |none=>.tp xs
  | .fz q=>.fz q
theorem OV.Mk:t.at []=some t:=by rw[OV.at]
theorem OV.OU{k:NK}{xs:List OV}:(OV.nd k a xs).at (j::p)=(xs[j]?).bind λx=>x.at p:=by rw[OV.at]
theorem OV.NP{xs:List OV}:(OV.tp xs).at (j::p)=(xs[j]?).bind λx=>x.at p:=by rw[OV.at]
theorem OV.Ny:t.put [] n=n:=by rw[OV.put]
theorem OV.SS{k:NK}{xs:List OV}(h:xs[j]?=some x):(OV.nd k a xs).put (j::p) n=.nd k a (xs.set j (x.put p n)):=by rw[OV.put,h]
theorem OV.Rh{xs:List OV}(h:xs[j]?=some x):(OV.tp xs).put (j::p) n=.tp (xs.set j (x.put p n)):=by rw[OV.put,h]
theorem OV.R9{u w:OV}:∀{p:List Nat}{t:OV}{j:Nat},t.at p=some u->u.at [j]=some w->t.at (p++[j])=some w
 | [],t,j,h,h2=>by rw[OV.Mk]at h;cases h;exact h2
 |i::p,.nd k a xs,j,h,h2=>by
  rw[OV.OU]at h;rw[YS,OV.OU];cases e:xs[i]? with
  |none=>rw[e]at h;cases h
  |some x=>rw[e]at h;exact OV.R9 (t:=x) h h2
 |i::p,.tp xs,j,h,h2=>by
  rw[OV.NP]at h;rw[YS,OV.NP];cases e:xs[i]? with
  |none=>rw[e]at h;cases h
  |some x=>rw[e]at h;exact OV.R9 (t:=x) h h2
 |i::p,.fz q,j,h,h2=>by rw[OV.at]at h;cases h
theorem Kp:∀{xs:List OV}{j:Nat}{x:OV},xs[j]?=some x->∃l r,OV.BD xs=l++x.addrs++r/\∀y:OV,OV.BD (xs.set j y)=l++y.addrs++r
 |x::xs,0,z,h=>by
  simp at h;subst h;exact⟨[],OV.BD xs,by rw[OV.Dt];rfl,λy=>by rw[jP,OV.Dt];rfl⟩
 |x::xs,j+1,z,h=>by
  obtain⟨l,r,e1,a⟩:=Kp (xs:=xs) (j:=j) (x:=z) (by simpa using h)
  refine⟨x.addrs++l,r,by rw[OV.Dt,e1];simp[Bt],λy=>by rw[TF,OV.Dt,a];simp[Bt]⟩
theorem OV.split{u:OV}:∀{p:List Nat}{t:OV},t.at p=some u->∃l r,t.addrs=l++u.addrs++r/\∀n:OV,(t.put p n).addrs=l++n.addrs++r
 | [],t,h=>by rw[OV.Mk]at h;cases h;exact⟨[],[],by simp,λn=>by rw[OV.Ny];simp⟩
 |j::p,.nd k a xs,h=>by
  rw[OV.OU]at h;cases e:xs[j]? with
  |none=>rw[e]at h;cases h
  |some x=>
   rw[e]at h;obtain⟨l,r,e1,f⟩:=Kp e;obtain⟨l2,b,d,c⟩:=OV.split (t:=x) h;refine⟨a::(k.more++(l++l2)),b++r,by rw[OV.ET,e1,d];simp[Bt],λn=>by rw[OV.SS e,OV.ET,f,c];simp[Bt]⟩
 |j::p,.tp xs,h=>by
  rw[OV.NP]at h;cases e:xs[j]? with
  |none=>rw[e]at h;cases h
  |some x=>
   rw[e]at h;obtain⟨l,r,e1,f⟩:=Kp e;obtain⟨l2,b,d,c⟩:=OV.split (t:=x) h;refine⟨l++l2,b++r,by rw[OV.Hy,e1,d];simp[Bt],λn=>by rw[OV.Rh e,OV.Hy,f,c];simp[Bt]⟩
 |j::p,.fz q,h=>by rw[OV.at]at h;cases h
theorem Be.get{F H:Hp}{vs:List V}{c:List OV}{j:Nat}{t:OV}(r:Be F H vs c)(e:c[j]?=some t):∃v,vs[j]?=some v/\Aw F H v t:=by
 induction c generalizing vs j with
 |nil=>cases e
 |cons q ps d=>
  obtain⟨v,ws,rfl,a,b⟩:=r.inv;cases j with
  |zero=>cases e;exact⟨_,rfl,a⟩
  |succ j=>exact d (vs:=ws) (j:=j) b e
theorem Be.append{xs ys:List OV}(r:Be F H vs xs)(s:Be F H ws ys):Be F H (vs++ws) (xs++ys):=by
 induction xs generalizing vs with
 |nil=>cases r.DI;exact s
 |cons p ps c=>obtain⟨v,us,rfl,a,b⟩:=r.inv;exact .cons a (c b)
theorem Be.one{F H:Hp}{v:V}{t:OV}(r:Aw F H v t):Be F H [v] [t]:=.cons r .nil
theorem cj(r:AJ F vs xs):Be F H vs (xs.map .fz):=by
 induction xs generalizing vs with
 |nil=>cases r.DI;exact .nil
 |cons p ps c=>obtain⟨v,us,rfl,a,b⟩:=r.inv;exact .cons (.fz a) (c b)
theorem Be.p6(r:Be F H vs (xs.map .fz)):AJ F vs xs:=by
 induction xs generalizing vs with
 |nil=>cases r.DI;exact .nil
 |cons p ps c=>obtain⟨v,us,rfl,a,b⟩:=r.inv;exact .cons a.inv (c b)
theorem RQ:∀(xs:List PV),OV.BD (xs.map .fz)=[]
 | []=>by rw[T8,OV.BD]
 |x::r=>by rw[DG,OV.Dt,OV.Mq,RQ r];rfl
theorem Be.set{xs:List OV}(j:Nat)(r:Be F H vs xs)(q:Aw F H v t):Be F H (vs.set j v) (xs.set j t):=by
 induction xs generalizing vs j with
 |nil=>cases r.DI;exact .nil
 |cons p ps c=>
  obtain⟨u,us,rfl,a,b⟩:=r.inv;cases j with
  |zero=>exact .cons q b
  |succ j=>exact .cons a (c j b)
theorem Be.swap{xs:List OV}(r:Be F H vs xs)(h:xs[j]?=some x)(e:vs[j]?=some v)(hk:∀l r,OV.BD xs=l++x.addrs++r->(∀z:OV,OV.BD (xs.set j z)=l++z.addrs++r)->∀b∈l++r,∀o,H b=some o->H' b=some o)(f:Aw F H' v y):Be F H' vs (xs.set j y):=by
 induction xs generalizing vs j with
 |nil=>cases h
 |cons p ps k=>
  obtain⟨u,us,rfl,a,b⟩:=r.inv;cases j with
  |zero=>
   cases h;cases e;refine .cons f (b.mono (AI.refl _) λc d o=>hk [] (OV.BD ps) (by rw[OV.Dt];rfl) (λz=>by rw[jP,OV.Dt];rfl) c d o)
  |succ j=>
   rw[TF];obtain⟨l,q,e1,m⟩:=Kp (xs:=ps) (j:=j) h;refine .cons (a.mono (AI.refl _) λc d o=>hk (p.addrs++l) q (by rw[OV.Dt,e1,Bt,Bt,Bt]) (λz=>by rw[TF,OV.Dt,m,Bt,Bt,Bt]) c (Dm _ (Dm _ d)) o) (k (vs:=us) (j:=j) b h e λi g Cf BL c d o=>?_);refine hk (p.addrs++i) g (by rw[OV.Dt,Cf,Bt,Bt,Bt]) (λz=>by rw[TF,OV.Dt,BL,Bt,Bt,Bt]) c ?_ o;rcases List.mem_append.mp d with hz|hz
   .exact Dm _ (C5 _ hz)
   .exact C5 _ hz
theorem Aw.at{F H:Hp}{u:OV}:∀{p:List Nat}{t:OV}{v:V},Aw F H v t->t.at p=some u->∃w,Aw F H w u/\∀(H':Hp)(n:OV),Aw F H' w n->(∀l r,t.addrs=l++u.addrs++r->(∀n:OV,(t.put p n).addrs=l++n.addrs++r)->∀b∈l++r,∀o,H b=some o->H' b=some o)->Aw F H' v (t.put p n)
 | [],t,v,h,e=>by rw[OV.Mk]at e;cases e;exact⟨v,h,λH' n r _=>by rw[OV.Ny];exact r⟩
 |j::p,.fz q,v,h,e=>by rw[OV.at]at e;cases e
 |j::p,.nd k a xs,_,.nd h sd ft r,e=>by
  rw[OV.OU]at e;cases ex:xs[j]? with
  |none=>rw[ex]at e;cases e
  |some x=>
   rw[ex]at e;obtain⟨D,Xk,y⟩:=r.get ex;obtain⟨w,d,go⟩:=Aw.at (t:=x) y e;refine⟨w,d,λH' n s hk=>?_⟩;obtain⟨l2,m,C,B⟩:=OV.split e;have key:∀l r,OV.BD xs=l++x.addrs++r->(∀z:OV,OV.BD (xs.set j z)=l++z.addrs++r)->∀b,b∈(a::(k.more++(l++l2)))++(m++r)->∀o,H b=some o->H' b=some o:=λl r e1 i b c o=>
    hk (a::(k.more++(l++l2))) (m++r) (by rw[OV.ET,e1,C];simp[Bt]) (λn=>by rw[OV.SS ex,OV.ET,i,B];simp[Bt]) b c o
   obtain⟨l,q,e1,i⟩:=Kp ex;rw[OV.SS ex];refine .nd (key l q e1 i a (by simp) _ h) (NK.Zc sd λb c=>key l q e1 i b (by simp[c])) ft ?_;refine r.swap ex Xk (λg f Cf BL b c o=>key g f Cf BL b (by rcases List.mem_append.mp c with hz|hz <;> simp[hz]) o) ?_
   refine go H' n s λg f g1 A b c o=>?_;refine hk (a::(k.more++(l++g))) (f++q) (by rw[OV.ET,e1,g1];simp[Bt]) (λn=>by rw[OV.SS ex,OV.ET,i,A];simp[Bt]) b (by rcases List.mem_append.mp c with hz|hz <;> simp[hz]) o
 |j::p,.tp xs,_,.tp h r,e=>by
  rw[OV.NP]at e;cases ex:xs[j]? with
  |none=>rw[ex]at e;cases e
  |some x=>
   rw[ex]at e;obtain⟨D,Xk,y⟩:=r.get ex;obtain⟨w,d,go⟩:=Aw.at (t:=x) y e;refine⟨w,d,λH' n s hk=>?_⟩;obtain⟨l2,m,C,B⟩:=OV.split e;obtain⟨l,q,e1,i⟩:=Kp ex;rw[OV.Rh ex];refine .tp h (r.swap ex Xk (λg f Cf BL b c o=>?_) (go H' n s λg f g1 A b c o=>?_))
   .exact hk (g++l2) (m++f) (by rw[OV.Hy,Cf,C];simp[Bt]) (λn=>by rw[OV.Rh ex,OV.Hy,BL,B];simp[Bt]) b (by rcases List.mem_append.mp c with hz|hz <;> simp[hz]) o
   .exact hk (l++g) (f++q) (by rw[OV.Hy,e1,g1];simp[Bt]) (λn=>by rw[OV.Rh ex,OV.Hy,i,A];simp[Bt]) b (by rcases List.mem_append.mp c with hz|hz <;> simp[hz]) o
theorem Zy{l u r n:List Addr}(h:(l++u++r).Nodup)(g:n.Nodup)(hd:∀b∈n,b∈u∨b∉l++u++r):(l++n++r).Nodup:=by
 rw[FJ]at h ⊢;obtain⟨h1,h2,f⟩:=h;rw[FJ]at h1 ⊢;obtain⟨a1,a2,i⟩:=h1;refine⟨⟨a1,g,λa c b d e=>?_⟩,h2,λa c b d e=>?_⟩
 .subst e;rcases hd a d with z|z
  .exact i a c a z rfl
  .exact z (by simp[c])
 .subst e;rcases List.mem_append.mp c with c|c
  .exact f a (by simp[c]) a d rfl
  .rcases hd a c with z|z
   .exact f a (by simp[z]) a d rfl
   .exact z (by simp[d])
theorem Sg.gY(S:Sg E ss Z F H){k:NK}{xs:List OV}{ho:HO}{lt:Bool}(hi:ss[i]?=some (.ow lt t))(D9:t.at p=some (.nd k a xs))(L:Aw F (upd H a ho) (.ref a) n)(nd:n.addrs.Nodup)
  (A:∀b∈n.addrs,b∈(OV.nd k a xs).addrs∨(F b=none/\E.H0 b=none/\∀(j:Nat)s,ss[j]?=some s->¬ Bf s Z[j]? b)):Sg E (ss.set i (.ow lt (t.put p n))) Z F (upd H a ho):=by
 obtain⟨v,e,r,Xe,q⟩:=S.ok i _ hi;obtain⟨l,I,e1,C⟩:=OV.split D9;have f:a∈(OV.nd k a xs).addrs:=by rw[OV.ET];simp
 have h:∀b∈(OV.nd k a xs).addrs,b∈t.addrs:=λb c=>by rw[e1];simp[c]
 have U:∀b∈n.addrs,b∈(OV.nd k a xs).addrs∨b∉t.addrs:=λb c=>(A b c).imp id λz m=>z.2.2 i _ hi m;obtain⟨w,u,go⟩:=r.at D9;have M:w=.ref a:=by cases u;rfl
 subst M;have g:∀(j:Nat)s,(ss.set i .any)[j]?=some s->∀b,b∈t.addrs->¬ Bf s Z[j]? b:=λj s d b c m=>by
  by_cases z:j=i
  .subst z;rw[DP (List.getElem?_eq_some_iff.mp hi).1]at d;cases d;cases m
  .rw[Cr (Bh z)]at d;exact S.Bv j i s _ b z d hi m c
 have T:=(S.drop i).MJ (o:=ho) (q a (h a f)).1 ((q a (h a f)).2.imp id λz=>z.2) λj s d=>g j s d a (h a f);have y:=Xe;rw[e1,FJ,FJ]at y;obtain⟨⟨_,_,O⟩,_,N⟩:=y;have R:∀b,b∈l++I->b≠a:=λb c z=>by
  subst z;rcases List.mem_append.mp c with c|c
  .exact O b c b f rfl
  .exact N b (by simp[f]) b c rfl
 have J:Aw F (upd H a ho) v (t.put p n):=go _ n L λW V g1 X b c o K=>by
  rw[AY ?_];exact K;rintro rfl;have B:=Xe;rw[g1,FJ,FJ]at B;obtain⟨⟨_,_,Q⟩,_,P⟩:=B;rcases List.mem_append.mp c with c|c
  .exact Q b c b f rfl
  .exact P b (by simp[f]) b c rfl
 have D:∀b∈(t.put p n).addrs,b∈t.addrs∨(F b=none/\E.H0 b=none/\∀(j:Nat)s,ss[j]?=some s->¬ Bf s Z[j]? b):=λb c=>by
  rw[C]at c;rcases List.mem_append.mp c with c|c
  .rcases List.mem_append.mp c with c|c
   .exact .inl (by rw[e1];simp[c])
   .exact(A b c).imp (h b) id
  .exact .inl (by rw[e1];simp[c])
 have G:=T.setG (j:=i) (s:=.ow lt (t.put p n)) (v:=v) ⟨v,rfl,J,by rw[C];exact Zy (e1▸Xe) nd λb c=>(U b c).imp id (by rw[e1];exact id),λb c=>(D b c).elim (q b) λz=>⟨z.1,.inl z.2.1⟩⟩ λb c j s d x m=>by
  rcases D b c with z|z
  .exact g j s x b z m
  .rw[Cr (Bh d)]at x;exact z.2.2 j s x m
 rw[Mz e,TH]at G;exact G
structure Wl [Xw] (ss:List Slot) (i:Nat) (t:OV) (te:TE) (k:List Nat->OV->Prop):Prop where
 hi:∃lt,ss[i]?=some (.ow lt t)
 go:∀(E:Ent)(Z:L2.St)(F H:Hp)(Q:VK),Sg E ss Z F H->(∀v p u F' H',Mv E ss Z F H F' H'->Aw F' H' v u->t.at p=some u->k p u->Q v H')->te Z H Q
noncomputable def EK:List Nat->List Slot->List Slot
 | [],ss=>ss
 |i::m,ss=>EK m (ss.set i .any)
structure Wx [Xw] (ss:List Slot) (te:TE) (k:List Nat->OV->Prop):Prop where
 go:∀(E:Ent)(Z:L2.St)(F H:Hp)(Q:VK),Sg E ss Z F H->(∀v m u F' H',Mv E ss Z F H F' H'->Aw F' H' v u->u.addrs.Nodup->(∀a∈u.addrs,F' a=none/\E.H0 a=none/\((∃i∈m,∃s,s≠Slot.AE/\ss[i]?=some s/\Bf s Z[i]? a)∨H a=none))->k m u->Q v H')->te Z H Q
section
variable[Xw]
variable{K:ZDv}{k:PV->Prop}
theorem OV.QL(h:t.at p=some u):∀a∈u.addrs,a∈t.addrs:=λa b=>by
 obtain⟨l,r,e,_⟩:=OV.split h;rw[e];simp[b]
theorem Aw.mv(r:Aw F H v u)(S:Sg E ss Z F H)(hi:∃lt,ss[i]?=some (.ow lt t))(h:t.at p=some u)(m:Mv E ss Z F H F' H'):Aw F' H' v u:=
 r.mono m.ff λa b o e=>m.hh a o (S.Uj hi.choose_spec (OV.QL h a b) (by simp)) e
theorem HA{lt:Bool}{k:List Nat->OV->Prop}(hi:ss[i]?=some (.ow lt t))(hk:k [] t):Wl ss i t (Ap i) k:=⟨⟨lt,hi⟩,λE Z F H Q S q=>by
 obtain⟨v,e,r,_,_⟩:=S.ok i _ hi;exact⟨v,e,q v [] t F H (.refl S) r OV.Mk hk⟩⟩
theorem ND{k:List Nat->OV->Prop}(h:Wl ss i t ta λp u=>∃a xs,u=.nd .lst a xs/\Wp ss tb λq=>∃(j:Int)(n:Nat)(w:OV),q=.int j/\FT xs.length j=some n/\xs[n]?=some w/\k (p++[n]) w):Wl ss i t (Au (DE K) ta tb) k:=⟨h.hi,λE Z F H Q S q=>
 h.go E Z F H _ S λv p u F1 H1 b l h1⟨a,xs,r,h2⟩=>h2.go E Z F1 H1 _ b.st λv2 p2 F2 H2 m2 g⟨j,n,w,e,m,hw,kk⟩=>by
  subst e;cases g.inv;have f:=l.mv b.st h.hi h1 m2;subst r;obtain⟨_,rfl,o,s,y,c⟩:=f.inv;obtain⟨x,hx,d⟩:=c.get hw;refine⟨a,_,j,x,rfl,rfl,AK.of o,?_,q x (p++[n]) w F2 H2 (b.trans m2) d (OV.R9 h1 (by rw[OV.OU,hw];exact OV.Mk)) kk⟩;unfold L2.BZ;rw[c.length,m];exact hx⟩
theorem Q3{k:List Nat->OV->Prop}(h:Wl ss i t ta λp u=>∃xs,u=.tp xs/\Wp ss tb λq=>∃(j:Int)(n:Nat)(w:OV),q=.int j/\FT xs.length j=some n/\xs[n]?=some w/\k (p++[n]) w):Wl ss i t (Au (HR K) ta tb) k:=⟨h.hi,λE Z F H Q S q=>
 h.go E Z F H _ S λv p u F1 H1 a g h1⟨xs,o,h2⟩=>h2.go E Z F1 H1 _ a.st λv2 p2 F2 H2 m2 f⟨j,n,w,e,l,hw,kk⟩=>by
  subst e;cases f.inv;have d:=g.mv a.st h.hi h1 m2;subst o;obtain⟨_,_,rfl,m,b⟩:=d.inv;obtain⟨x,hx,c⟩:=b.get hw;refine⟨_,_,j,x,rfl,rfl,Al.of (m2.st.fh _ _ m),?_,q x (p++[n]) w F2 H2 (a.trans m2) c (OV.R9 h1 (by rw[OV.NP,hw];exact OV.Mk)) kk⟩;unfold L2.BZ;rw[b.length,l];exact hx⟩
theorem M6(h:Wl ss i t te λ_ u=>∃p,u=.fz p/\k p):Wp ss te k:=⟨λE Z F H Q S q=>
 h.go E Z F H _ S λv p u F1 H1 b a h1 AX=>by obtain⟨p,c,kk⟩:=AX;subst c;cases a with|fz r=>exact q v p F1 H1 b r kk⟩
theorem ax{k:List Nat->OV->Prop}(h:Wp ss te λp=>k [] (.fz p)):Wx ss te k:=⟨λE Z F H Q S q=>
 h.go E Z F H _ S λv p F1 H1 c r kk=>q v [] (.fz p) F1 H1 c (.fz r) (by rw[OV.Mq];exact Hh) (λa b=>by rw[OV.Mq]at b;cases b) kk⟩
theorem Sq(a:Addr)(xs:List PV):(OV.nd .lst a (xs.map .fz)).addrs=[a]:=by rw[OV.ET,RQ];rfl
theorem Rj{j:Nat}{s:Slot}:∀{m:List Nat}{ss:List Slot},(EK m ss)[j]?=some s->s=.any∨(ss[j]?=some s/\j∉m)
 | [],ss,h=>.inr ⟨h,by simp⟩
 |i::m,ss,h=>by
  rcases Rj (m:=m) (ss:=ss.set i .any) h with e|⟨e,hm⟩
  .exact .inl e
  .by_cases q:j=i
   .subst q;have a:j<ss.length:=by have:=(List.getElem?_eq_some_iff.mp e).1;simpa using this
    rw[DP a]at e;exact .inl (BW e).symm
   .rw[Cr (Bh q)]at e;exact .inr ⟨e,by simp[q,hm]⟩
theorem Sg.EK{E:Ent0}{Z:L2.St}{F H:Hp}:∀(m:List Nat){ss:List Slot},Sg E ss Z F H->Sg E (Fz.EK m ss) Z F H
 | [],_,S=>S
 |i::m,_,S=>Sg.EK m (S.drop i)
theorem Sg.aA(S0:Sg E ss Z F0 H0)(S:Sg E ss Z F H)(r:Aw F H v u)(nd:u.addrs.Nodup)(c:∀a∈u.addrs,F a=none/\E.H0 a=none/\((∃i∈m,∃s,s≠Slot.AE/\ss[i]?=some s/\Bf s Z[i]? a)∨H0 a=none)):
  Sg E ((Fz.EK m ss).set j (.ow false u)) (Z.set j (some v)) F H:=by
 refine(S.EK m).setG ⟨v,rfl,r,nd,λa b=>⟨(c a b).1,.inl (c a b).2.1⟩⟩ λa b i s Ck f o=>?_;rcases Rj f with e|⟨Gp,hm⟩
 .subst e;cases o
 .rcases(c a b).2.2 with⟨i2,Dw,s2,_,Cz,d⟩|z
  .exact S.Bv i i2 s s2 a (by rintro rfl;exact hm Dw) Gp Cz o d
  .exact S0.Gy Gp o z
theorem d7(h:Wx ss te λm u=>nx ((Fz.EK m ss).set j (.ow false u))):Ws ss (EH te (D8 j)) nx R:=⟨λE D Z F H S c d=>
 h.go E Z F H _ S λv m u F1 H1 a r nd b kk=>c _ _ F1 H1 kk (Sg.aA S a.st r nd b) a.ff⟩
theorem tj{t':TS}(i:Nat)(hi:ss[i]?=some (.own xs))(h:∀l,Ws (ss.set i (.ow false (.nd .lst l (xs.map .fz)))) t' nx R):Ws ss t' nx R:=⟨λE D Z F H S f d=>by
 obtain⟨l,vs,e,e1,o,n,r⟩:=S.ok i _ hi;have b:=Sg.aA (j:=i) (m:=[i]) (v:=.ref l) (u:=.nd .lst l (xs.map .fz)) S S (.nd (k:=.lst) n trivial trivial (cj r)) (by rw[Sq];simp) λa c=>by
  rw[Sq]at c;have ea:a=l:=by simpa using c
  subst ea;exact⟨e1,o,.inl ⟨i,by simp,_,by simp,hi,e⟩⟩
 rw[Mz e]at b;have g:(Fz.EK [i] ss).set i (.ow false (.nd .lst l (xs.map .fz)))=ss.set i (.ow false (.nd .lst l (xs.map .fz))):=by show(ss.set i .any).set i _=_;rw[TH]
 rw[g]at b;exact(h l).go E D Z F H b f d⟩
theorem Aw.rep(ff:AI F F1):∀{v:V}{t:OV},Aw F H v t->(∀a∈t.addrs,∀o,H a=some o->F1 a=some o)->Rep F1 v t.pv:=by
 intro v t r h;exact Aw.rec (motive_1:=λv t _=>(∀a∈t.addrs,∀o,H a=some o->F1 a=some o)->Rep F1 v t.pv) (motive_2:=λvs g _=>(∀a∈OV.BD g,∀o,H a=some o->F1 a=some o)->AJ F1 vs (OV.HX g))
  (λ{v p}r _=>by rw[OV.pv];exact r.mono ff)
  (λ{a vs xs}e _ c h=>by rw[OV.pv];exact .tup (ff _ _ e) (c (by rw[OV.Hy]at h;exact h)))
  (λ{k a vs xs}e j i _ c h=>by
   rw[OV.ET]at h;have f:=c λa b=>h a (by simp[b]);have d:=h a (by simp) _ e;cases k with
   |lst=>rw[OV.pv];exact .lst d f
   |BA ks=>rw[OV.pv];exact .BA d i f
   |obj C dx ns=>rw[OV.pv];exact .obj d (h dx (by simp[NK.more]) _ j) i f
   |Rg ks=>rw[OV.pv];exact .con)
  (λ_=>by rw[OV.HX];exact .nil)
  (λ_ _ OJ NT h=>by
   rw[OV.Dt]at h;rw[OV.HX];exact .cons (OJ λa b=>h a (by simp[b])) (NT λa b=>h a (by simp[b])))
  r h
variable{lt:Bool}
theorem Sr:(OV.nd .lst a us).addrs=a::OV.BD us:=by rw[OV.ET];rfl
theorem Xh:∀(us ws:List OV),OV.BD (us++ws)=OV.BD us++OV.BD ws
 | [],ws=>by rw[Yb,OV.L9,Yb]
 |u::us,ws=>by rw[YS,OV.Dt,OV.Dt,Xh us ws,Bt]
theorem eG(u:OV):OV.BD [u]=u.addrs:=by rw[OV.Dt,OV.L9,GH]
theorem Sg.vD{DK:List OV}(S0:Sg E ss Z F0 H0)(S:Sg E ss Z F H)(hi:ss[i]?=some (.ow lt t))(D9:t.at p=some (.nd .lst a us))
  (d:∀a∈u.addrs,F a=none/\E.H0 a=none/\((∃i∈m,∃s,s≠Slot.AE/\ss[i]?=some s/\Bf s Z[i]? a)∨H0 a=none)) (Ja:i∉m)
  (G:Be F H Br DK) (Vb:(OV.BD DK).Nodup) (J0:∀b∈OV.BD DK,b∈OV.BD us∨b∈u.addrs):Sg E ((Fz.EK m ss).set i (.ow lt (t.put p (.nd .lst a DK)))) Z F (upd H a (.lst Br)):=by
 have K:(Fz.EK m ss)[i]?=some (.ow lt t):=by
  have n:∀(m:List Nat)(ss:List Slot),ss[i]?=some (.ow lt t)->i∉m->(Fz.EK m ss)[i]?=some (.ow lt t):=by
   intro m
   induction m with
   |nil=>intro ss h _;exact h
   |cons j m D=>
    intro ss h f;refine D _ ?_ λz=>f (by simp[z]);rw[Cr (by rintro rfl;exact f (by simp))];exact h
  exact n m ss hi Ja
 obtain⟨v,e,r,nd,q⟩:=S.ok i _ hi;have B:∀b,b∈a::OV.BD us->b∈t.addrs:=λb c=>OV.QL D9 b (by rw[Sr];exact c);have J:∀b∈u.addrs,b∉t.addrs:=λb c z=>by
  rcases(d b c).2.2 with⟨j,I,s,_,g,o⟩|w
  .exact S.Bv j i s _ b (by rintro rfl;exact Ja I) g hi o z
  .exact S0.Gy hi z w
 have A:(OV.nd .lst a us).addrs.Nodup:=by
  obtain⟨l,L,e1,_⟩:=OV.split D9;rw[e1,FJ,FJ]at nd;exact nd.1.2.1
 rw[Sr]at A;have x:∀b∈OV.BD DK,b≠a:=λb c z=>by
  subst z;rcases J0 b c with w|w
  .exact(List.nodup_cons.mp A).1 w
  .exact J b w (B b (by simp))
 refine(S.EK m).gY K D9 (.nd (k:=.lst) AZ trivial trivial (G.mono (AI.refl _) λb c o ho=>by rw[AY (x b c)];exact ho)) (by rw[Sr];exact List.nodup_cons.mpr ⟨λz=>x a z rfl,Vb⟩) λb c=>?_;rw[Sr]at c ⊢;rcases List.mem_cons.mp c with w|w
 .exact .inl (by simp[w])
 .rcases J0 b w with z|z
  .exact .inl (by simp[z])
  .refine .inr ⟨(d b z).1,(d b z).2.1,λj s g o=>?_⟩;rcases Rj g with y|⟨Gp,f⟩
   .subst y;cases o
   .rcases(d b z).2.2 with⟨i2,Dw,s2,_,Cz,C⟩|y
    .exact S.Bv j i2 s s2 b (by rintro rfl;exact f Dw) Gp Cz o C
    .exact S0.Gy Gp o y
end
def ptr(a:Addr):Hp->V->Prop:=λ_ v=>v=.ref a
section
variable[Xw]
variable{K:ZDv}{k:PV->Prop}{lt:Bool}
theorem Sg.jf(S:Sg E ss Z F H)(hi:ss[i]?=some (.ow lt t))(D9:t.at p=some (.nd .lst a (ps.map .fz)))(e:AJ F Br gH):Sg E (ss.set i (.ow lt (t.put p (.nd .lst a (gH.map .fz))))) Z F (upd H a (.lst Br)):=
 Sg.vD (m:=[]) (u:=.fz .A9) S S hi D9 (λa d=>by rw[OV.Mq]at d;cases d) (by simp) (cj e) (by rw[RQ];exact Hh) λb c=>by rw[RQ]at c;cases c
theorem Sg.uB(S:Sg E ss Z F H)(hi:ss[i]?=some (.ow lt t))(D9:t.at p=some (.nd .lst a (ps.map .fz))):∃vs,H a=some (.lst vs)/\AJ F vs ps:=by
 obtain⟨v,e,r,_,_⟩:=S.ok i _ hi;obtain⟨w,b,_⟩:=r.at D9;obtain⟨_,rfl,d,_,_,c⟩:=b.inv;exact⟨_,d,c.p6⟩
theorem pR(h:Wp ss te λq=>Wl ss i t ta λp u=>∃(lt:Bool)(a:Addr)(ps:List PV),ss[i]?=some (.ow lt t)/\u=.nd .lst a (ps.map .fz)/\Wp ss ti λj=>∃n:Nat,j=.int n/\n<ps.length/\nx (ss.set i (.ow lt (t.put p (.nd .lst a ((ps.set n q).map .fz)))))):Ws ss (EH te (Nl ta ti RT)) nx R:=⟨λE D Z F H S l y=>
 h.go E Z F H _ S λv q F1 H1 d e h2=>h2.go E Z F1 H1 _ d.st λv2 p u F2 H2 m2 g D9⟨lt,a,ps,hi,r,m⟩=>by
  subst r;have o:v2=.ref a:=by cases g;rfl
  subst o;refine m.go E Z F2 H2 _ m2.st λw x F3 H3 b f⟨n,s,Xf,kk⟩=>?_;subst s;cases f;obtain⟨vs,k,c⟩:=b.st.uB hi D9;refine⟨a,vs,_,n,rfl,rfl,k,XM (by rw[c.length];exact Xf),?_⟩;exact l _ Z F3 _ kk (b.st.jf hi D9 (c.set n (e.mono (m2.ff.trans b.ff)))) (d.ff.trans (m2.ff.trans b.ff))⟩
end
theorem Aw.ZC5(r:Aw F H v t):∀a∈t.addrs,∀vs,H a≠some (.tup vs):=
 Aw.rec (motive_1:=λ_ t _=>∀a∈t.addrs,∀vs,H a≠some (.tup vs)) (motive_2:=λ_ f _=>∀a∈OV.BD f,∀vs,H a≠some (.tup vs))
  (λ_ a c _=>by rw[OV.Mq]at c;cases c)
  (λ_ _ i a c vs=>by rw[OV.Hy]at c;exact i a c vs)
  (λ{k}{b}{_}{_}h g _ _ i a c vs=>by
   rw[OV.ET,CK,PU]at c;rcases c with rfl|c|c
   .rw[h];cases k <;> (intro z;cases z)
   .cases k with
    |obj C dx ns=>
     have e:a=dx:=List.mem_singleton.mp c;subst e;have d:H a=some (.own b):=g;rw[d];intro z;cases z
    |_=>exact absurd c BH
   .exact i a c vs)
  (λa c _=>by rw[OV.L9]at c;cases c)
  (λ_ _ i k a c ws=>by
   rw[OV.Dt,PU]at c;rcases c with c|c
   .exact i a c ws
   .exact k a c ws)
  r
mutual
def NM:PV->Bool
 | .lst _=>false
 | .BA _ _=>false
 | .obj _ _ _=>false
 | .exc _ _ _=>false
 | .tup xs=>Ld xs
 |_=>true
def Ld:List PV->Bool
 | []=>true
 |x::r=>NM x && Ld r
end
noncomputable def Ho(F:Hp)(as:List Addr):Hp:=λa=>if a∈as then none else F a
theorem Rep.sub(h:∀a∈as,∀vs,F a≠some (.tup vs)):∀{v:V}{p:PV},Rep F v p->NM p=true->Rep (Ho F as) v p:=by
 intro v p r d;exact Rep.rec (motive_1:=λv p _=>NM p=true->Rep (Ho F as) v p) (motive_2:=λvs ps _=>Ld ps=true->AJ (Ho F as) vs ps)
  (λ_=>.A9) (λb _=>.bl b) (λi _=>.int i) (λx _=>.str x)
  (λ_ _ _ z=>Bool.noConfusion (show false=true from z))
  (λ{a vs xs}e _ c z=>.tup (by unfold Ho;rw[mD (λq=>h a q vs e)];exact e) (c z))
  (λ_ _ _ _ z=>Bool.noConfusion (show false=true from z))
  (λ_ _ _ _ _ z=>Bool.noConfusion (show false=true from z))
  (λ_=>.con)
  (λ_ z=>Bool.noConfusion (show false=true from z))
  (λ_ _ _ _ _ z=>Bool.noConfusion (show false=true from z))
  (λ_=>.nil)
  (λ_ _ OJ NT z=>by
   have z:=(DN _ _).mp z;exact .cons (OJ z.1) (NT z.2))
  r d
theorem AJ.sub(h:∀a∈as,∀vs,F a≠some (.tup vs))(r:AJ F vs ps)(z:Ld ps=true):AJ (Ho F as) vs ps:=by
 induction ps generalizing vs with
 |nil=>cases r.DI;exact .nil
 |cons p ps c=>
  obtain⟨v,ws,rfl,a,b⟩:=r.inv;have z:=(DN _ _).mp z;exact .cons (a.sub h z.1) (c b z.2)
theorem Qr:∀{xs:List PV},(∀x∈xs,Bb x x=true)->Cw xs xs=true
 | [],_=>by rw[Cw]
 |x::r,h=>by rw[QJ,h x (by simp),Qr (xs:=r) λy a=>h y (by simp[a])];rfl
theorem nZ{K:ZDv}:∀(d:Nat){p:PV},dat K d p->Bb p p=true:=by
 intro d
 induction d with
 |zero=>intro p h;cases p <;> first|exact h.elim|rfl|exact vh _
 |succ d b=>
  intro p h;cases p with
  |lst xs=>show Cw xs xs=true;exact Qr λx hx=>b (h x hx)
  |tup xs=>show Cw xs xs=true;exact Qr λx hx=>b (h x hx)
  |con a xs=>show Cw xs xs=true;exact Qr λx hx=>b (h.1 x hx)
  |_=>first|exact h.elim|rfl|exact vh _
theorem UH:∀(xs:List PV),OV.HX (xs.map .fz)=xs
 | []=>by rw[T8,OV.HX]
 |x::r=>by rw[DG,OV.HX,OV.pv,UH r]
end Fz
namespace L2
variable{M:Model}{A:Around}{E xe:Value->Shared->Prop}{s:Shared}{Zl:Heap}{env:Env}{outer:List Env}{C S ea f fI:Addr}{dx tb:Option Addr}{w:World}{mg:ZDx}{N ps sn:List Str}{n name par qual x:Str}{scope:Scope}{cd v:Value}{H:Hp}{X:Cx}{E':St->XK}{Ct MW np p pos:Pos}{e e0:Expr}{es:List Expr}{t:TA}{ab y6:Bool}{prog:Program}{ZDu Zd:ZDw}{Z:St}{j kk:Nat}{fd:FuncData}{body iN:List Stmt}{b0:Stmt}{gi:(St->XK)->TS}{th:TS}{sp:Sp}
theorem Q0{α:Type}{l:List α}{n:Nat}(h:l.length=n+1):∃a r,l=a::r/\r.length=n:=by
 cases l with
 |nil=>cases h
 |cons a r=>exact⟨a,r,rfl,JR h⟩
section
variable{K:ZDv}{x t:Addr}
section
open PySem.Builtin PySem.Builtin.ObjectAttr
end
end
end L2
namespace Fz
open L2 Lw
section
variable[Xw]
variable{E:Ent0}{ss:List Slot}{Z:L2.St}{F H F' H':Hp}{K:ZDv}{ta tb tc te:TE}{k:PV->Prop}{v:V}{tp:Bool}{xs:List PV}{nx:List Slot->Prop}{R:Ao}
theorem r8{k:List PV->Prop}(h:Wq ss te λ_ xs=>∃ns:List Int,xs=ns.map PV.int/\ns.length<64/\∀D1:List Int,D1.Perm ns->D1.Pairwise (·<=·)->k (D1.map PV.int)):Wn ss (CQ (hZ K) (Ae te BK)) k:=⟨λE Z F H Q S q=>
 h.go E Z F H _ S λv tp xs F1 H1 b sv AX=>by
  obtain⟨ns,e,f,kk⟩:=AX;subst e;obtain⟨l,vs,rfl,d,r⟩:=sv.seq b.st;rw[r.ints]at d;refine⟨l,tp,ns,rfl,CF.sq d,f,λa D1 c i g=>?_⟩;have m2:=b.st.make c (.lst (D1.map V.int));exact q a _ _ F1 _ (b.trans m2) (b.st.Bo c) (b.none c) AZ (by rw[<- So];exact Np (Sf D1)) (kk D1 i g)⟩
variable{F1:Hp}{js:List Nat}{ti:TE}
end
end Fz
namespace Fz
open L2 Lw
variable{E:Ent0}{ss:List Slot}{Z:L2.St}{F F' H H':Hp}{te:TE}{nx:List Slot->Prop}{R:Ao}{pre:SI}
@[reducible] noncomputable def ZDs (X:XK) (D:Ex->Prop):Xw:=⟨λ_=>X,λ_=>True,D⟩
@[reducible] noncomputable def xwT (E:Ent0) (J:List Slot->Prop) (D:Ex->Prop):Xw:=⟨λZ C dx H=>∃ss F x,J ss/\Sg E ss Z F H/\D x/\x.at F C dx,J,D⟩
end Fz
namespace Fz
open L2 Lw
variable{i j n:Nat}{l ss:List Slot}{ta tb te:TE}{a a0:Addr}{N ms ns:List Str}{xs:List PV}{us:List OV}{vs:List V}{t t' u:OV}{pre:Pre}{X:XK}{F F' H H':Hp}{Z:L2.St}{E:Ent0}{nk:NK}{Q:VK}
theorem yR{b c n:Int}(e:1<=b)(d:b<=c)(a:0<=n):∃m:Nat,(if(if c<n then c else n) > b then(if c<n then c else n)else b)=(m:Int)/\(m:Int)<=c:=by
 have h:∀z:Int,1<=z->z<=c->∃m:Nat,z=(m:Int)/\(m:Int)<=c:=λz f h1=>⟨z.toNat,by omega,by omega⟩;apply h
 .split
  .omega
  .omega
 .split
  .split <;> omega
  .omega
theorem ZE{as bs us vs:List Str}(p1:us.Perm as)(s1:sortedS us=true)(p2:vs.Perm bs)(s2:sortedS vs=true):decide (us=vs)=decide (as.Perm bs):=by
 rw[Hf,xt,xt];exact⟨λe=>p1.symm.trans (e▸p2),λh=>sM (p1.trans (h.trans p2.symm)) s1 s2⟩
def UU(K:ZDv):List V->Hp->VK->Prop:=λxs H Q=>∃p ys,xs=[.ref p]/\(AK K H p ys∨Al K H p ys)/\∀l,H l=none->Q (.ref l) (upd H l (.lst ys))
theorem fk{X:Cx}:Bk X (.type "list") (UU X.K):=HF
noncomputable def Iw(xs ys:List PV):List PV:=List.zipWith (λx y=>.tup [x,y]) xs ys
theorem SD(xs ys:List PV):(Iw xs ys).length=min xs.length ys.length:=by unfold Iw;rw[List.length_zipWith]
theorem fR{ys:List PV}{x y:PV}(h:xs[i]?=some x)(h2:ys[i]?=some y):(Iw xs ys)[i]?=some (.tup [x,y]):=by
 unfold Iw;rw[List.getElem?_zipWith,h,h2]
section
variable[Xw]
variable{K:ZDv}
theorem lJ{k:List PV->Prop}(h:Wz ss ta λtp xs=>tp=false/\Wz ss tb λBC ys=>BC=false/\k (Iw xs ys)):Wi ss (XB K (Ae ta (Ae tb BK))) k:=⟨λE Z F H R S q=>
 h.go E Z F H _ S λv tp xs F1 H1 b f⟨t,h2⟩=>h2.go E Z F1 H1 _ b.st λv2 BC ys F2 H2 m2 o⟨Ky,kk⟩=>by
  subst t;subst Ky;obtain⟨l,vs,e,h1,r⟩:=f;obtain⟨l2,Ez,w,My,a⟩:=o;have r:=r.mono m2.ff;have a1:∀(ss:List Slot)(Z:L2.St)(F H:Hp),AI F2 F->Sg E ss Z F H->H l=some (.lst vs):=λss Z F H s S=>by
   rcases h1 with h1|⟨hA,h1⟩
   .exact S.fh _ _ (s _ _ (m2.ff _ _ h1))
   .exact S.keep _ _ hA h1
  have a2:∀(ss:List Slot)(Z:L2.St)(F H:Hp),AI F2 F->Sg E ss Z F H->H l2=some (.lst Ez):=λss Z F H s S=>by
   rcases My with h1|⟨hA,h1⟩
   .exact S.fh _ _ (s _ _ h1)
   .exact S.keep _ _ hA h1
  subst e;subst w;have c:=r.length;have B:=a.length;refine⟨l,l2,vs,Ez,rfl,AK.of (a1 ss Z F2 H2 (AI.refl _) m2.st),AK.of (a2 ss Z F2 H2 (AI.refl _) m2.st),q _ (Iw xs ys) F2 H2 (b.trans m2) ⟨λss Z F H i s S hi=>?_,λss Z F H s S=>?_,λss Z F H i x H' s S hi y=>?_⟩ kk⟩
  .rw[SD]at hi;exact⟨AK.of (a1 ss Z F H s S),AK.of (a2 ss Z F H s S),by omega,by omega⟩
  .refine⟨AK.of (a1 ss Z F H s S),AK.of (a2 ss Z F H s S),?_⟩;rw[SD];omega
  .obtain⟨p,g,d,hx,j,ex,n,u⟩:=y;subst ex;subst u;obtain⟨A,O5,Xz⟩:=r.get' hx;obtain⟨z,Gm,V5⟩:=a.get' j;have m:=S.alloc n (.tup [g,d]);exact⟨_,_,fR O5 Gm,m,.tup AZ (.cons (Xz.mono (s.trans m.ff)) (.one (V5.mono (s.trans m.ff))))⟩⟩
end
def Ey(pre:Pre):Sp:=λvs H Q _=>∃(ss:List Slot)(R:Ao)(F:Hp)(A B:List Addr),pre ss R/\Sg ⟨A,F,H,B⟩ ss (vs.map some) F H/\∀v F' H',Fin ⟨A,F,H,B⟩ F' H'->R.ok ⟨A,F,H,B⟩ F' H' v->Q v H'
inductive Ip (F:Hp):List V->List Slot->Prop where
 |nil:Ip F [] []
 |cons {v:V}{p:PV}{vs:List V}{l:List Slot}:Rep F v p->Ip F vs l->Ip F (v::vs) (.is p::l)
inductive IT (Z:L2.St) (F:Hp) (i:Nat) (t:OV):List V->List Slot->Prop where
 |here {v:V}{vs:List V}{l:List Slot}:Z[i]?=some (some v)->Ip F vs l->IT Z F i t (v::vs) (.ow true t::l)
 |there {v:V}{p:PV}{vs:List V}{l:List Slot}:Rep F v p->IT Z F i t vs l->IT Z F i t (v::vs) (.is p::l)
theorem Ip.len:∀{vs:List V}{l:List Slot},Ip F vs l->l.length=vs.length:=by
 intro vs l h
 induction h with
 |nil=>rfl
 |cons _ _ a=>rw[Az,Az,a]
theorem IT.len:∀{vs:List V}{l:List Slot},IT Z F i t vs l->l.length=vs.length:=by
 intro vs l h
 induction h with
 |here _ r=>rw[Az,Az,r.len]
 |there _ _ a=>rw[Az,Az,a]
theorem Ip.at:∀{vs:List V}{l:List Slot},Ip F vs l->∀{n:Nat}{s:Slot},l[n]?=some s->∃v p,vs[n]?=some v/\s=.is p/\Rep F v p:=by
 intro vs l h
 induction h with
 |nil=>intro n s e;rw[List.getElem?_nil]at e;cases e
 |cons r _ a=>
  intro n s e;cases n with
  |zero=>cases(show some _=some s from e);exact⟨_,_,rfl,rfl,r⟩
  |succ n=>exact a (n:=n) e
theorem IT.at:∀{vs:List V}{l:List Slot},IT Z F i t vs l->∃m:Nat,∀{n:Nat}{s:Slot},l[n]?=some s->(n=m/\s=.ow true t/\∃v,vs[n]?=some v/\Z[i]?=some (some v))∨∃v p,vs[n]?=some v/\s=.is p/\Rep F v p:=by
 intro vs l h
 induction h with
 |here e r=>
  refine⟨0,λ{n s}h=>?_⟩;cases n with
  |zero=>cases(show some _=some s from h);exact .inl ⟨rfl,rfl,_,rfl,e⟩
  |succ n=>exact .inr (r.at (n:=n) h)
 |there r _ b=>
  obtain⟨m,c⟩:=b;refine⟨m+1,λ{n s}q=>?_⟩;cases n with
  |zero=>cases(show some _=some s from q);exact .inr ⟨_,_,rfl,rfl,r⟩
  |succ n=>
   rcases c (n:=n) (s:=s) q with⟨e,es,a⟩|a
   .exact .inl ⟨pZ Nat.succ e,es,a⟩
   .exact .inr a
structure Jr (E:Ent0) (ss:List Slot) (Z:L2.St) (i:Nat) (lt:Bool) (t t':OV) (F H F' H':Hp):Prop where
 st:Sg E (ss.set i (.ow lt t')) Z F' H'
 ff:AI F F'
 hh:∀a o,Cp ss Z a->a∉t.addrs->H a=some o->H' a=some o
 nn:∀a o,F' a=some o->F a=some o∨H a=none
structure cM [Xw] (ss:List Slot) (ta:TA) (k:List Slot->Prop):Prop where
 go:∀(E:Ent)(Z:L2.St)(F H:Hp)(Q:List V->Hp->Prop),Sg E ss Z F H->(∀vs l F' H',Mv E ss Z F H F' H'->Ip F' vs l->k l->Q vs H')->ta Z H Q
structure Qa [Xw] (ss:List Slot) (i:Nat) (t:OV) (ta:TA) (k:List Slot->Prop):Prop where
 go:∀(E:Ent)(Z:L2.St)(F H:Hp)(Q:List V->Hp->Prop),Sg E ss Z F H->(∀vs l F' H',Mv E ss Z F H F' H'->IT Z F' i t vs l->k l->Q vs H')->ta Z H Q
structure Wm [Xw] (ss:List Slot) (i:Nat) (lt:Bool) (t:OV) (te:TE) (k:PV->OV->Prop):Prop where
 go:∀(E:Ent)(Z:L2.St)(F H:Hp)(Q:VK),Sg E ss Z F H->(∀v p t' F' H',Jr E ss Z i lt t t' F H F' H'->Rep F' v p->k p t'->Q v H')->te Z H Q
structure QP [Xw] (ss:List Slot) (i:Nat) (lt:Bool) (t:OV) (c:TT) (k:Bool->OV->Prop):Prop where
 go:∀(E:Ent)(Z:L2.St)(F H:Hp)(Q:Bool->Hp->Prop),Sg E ss Z F H->(∀b t' F' H',Jr E ss Z i lt t t' F H F' H'->k b t'->Q b H')->c Z H Q
theorem Jr.of{lt:Bool}(hi:ss[i]?=some (.ow lt t))(m:Mv E ss Z F H F' H'):Jr E ss Z i lt t t F H F' H':=⟨by
 rw[show ss.set i (.ow lt t)=ss from by
  apply PN;intro n
  by_cases q:i=n
  .subst q;rw[DP (List.getElem?_eq_some_iff.mp hi).1,hi]
  .rw[Cr q]]
 exact m.st,m.ff,λa o n _ e=>m.hh a o n e,m.nn⟩
theorem Sg.xS{lt:Bool}(S:Sg E ss Z F H)(hi:ss[i]?=some (.ow lt t))(a:IT Z F i t vs l):Sg ⟨[],F,H,t.addrs⟩ l (vs.map some) F H:=by
 obtain⟨w,e0,c,Kj,k⟩:=S.ok i _ hi;have nn:∀{p:Prop}(a:Addr),a∈([]:List Addr)->p:=λa h=>absurd h BH;obtain⟨m,g⟩:=a.at;refine⟨⟨S.fh,AI.refl _,λ_ _ _ e=>e,λ_ _ e=>.inl e,λa h=>nn a h,λa h=>nn a h,λa h=>nn a h,λa h=>(k a h).1,λa h=>c.there a h,λa h=>⟨c.there a h,BH⟩⟩,by rw[AA];exact a.len,λn s f=>?_,λn j s u b O6 f x ms mu=>?_⟩
 .rcases g f with⟨_,rfl,v,d,q⟩|⟨v,p,d,rfl,r⟩
  .rw[AS,d];rw[e0]at q;cases q;exact⟨w,rfl,c,Kj,λa o=>⟨(k a o).1,.inr ⟨rfl,o⟩⟩⟩
  .rw[AS,d];exact⟨v,rfl,r⟩
 .rcases g f with⟨e1,rfl,_⟩|⟨_,_,_,rfl,_⟩
  .rcases g x with⟨y,rfl,_⟩|⟨_,_,_,rfl,_⟩
   .exact O6 (e1.trans y.symm)
   .cases mu
  .cases ms
theorem Sg.tN{lt:Bool}{Hu:NK}{DK:List OV}(S:Sg E ss Z F H)(hi:ss[i]?=some (.ow lt (.nd nk a0 us)))(f:Fin ⟨[],F,H,(OV.nd nk a0 us).addrs⟩ F' H')(r:Aw F' H' (.ref a0) (.nd Hu a0 DK))(nd:(OV.nd Hu a0 DK).addrs.Nodup)(q:∀a∈(OV.nd Hu a0 DK).addrs,F' a=none/\(H a=none∨a∈(OV.nd nk a0 us).addrs)):
  Jr E ss Z i lt (.nd nk a0 us) (.nd Hu a0 DK) F H F' H':=by
 obtain⟨G,e0,I,Kj,w⟩:=S.ok i _ hi;have M:G=.ref a0:=by cases I;rfl
 subst M;have D:i<ss.length:=(List.getElem?_eq_some_iff.mp hi).1;have kp:∀a o,a∉(OV.nd nk a0 us).addrs->H a=some o->H' a=some o:=λa o n e=>f.keep a o ⟨BH,n⟩ e;have Bo:∀a,H a≠none->F a=none->F' a=none:=λa h1 h2=>by
  cases e:F' a with
  |none=>rfl
  |some o=>
   rcases f.fresh a o e with z|z
   .rw[show F a=some o from z]at h2;cases h2
   .exact absurd z h1
 have N:∀a,a∈E.A->a∉(OV.nd nk a0 us).addrs:=λa h m=>by
  rcases(w a m).2 with z|⟨_,z⟩
  .exact S.a0 a h z
  .exact(S.b0 a z).2 h
 have d:∀(j:Nat)s,j≠i->ss[j]?=some s->∀a,Bf s Z[j]? a->a∉(OV.nd nk a0 us).addrs:=λj s g t a ho m=>S.Bv j i s _ a g t hi ho m;refine⟨⟨⟨f.fh,S.f0.trans f.f0,λa o h e=>?_,λa o e=>?_,λa h=>?_,λa h=>?_,S.a0,λa v=>?_,λa v=>?_,S.b0⟩,by rw[Hg];exact S.len,λj s g=>?_,λj k s u b Po g hk ms mu=>?_⟩,f.f0,λa o _ n e=>kp a o n e,λa o e=>f.fresh a o e⟩
 .refine kp a o (λm=>?_) (S.keep a o h e);rcases(w a m).2 with z|⟨_,z⟩
  .rw[e]at z;cases z
  .exact h.2 z
 .rcases f.fresh a o e with z|z
  .exact S.fresh a o z
  .exact .inr (S.Ee z)
 .exact Bq.keep (S.EI a h) λo e=>kp a o (N a h) e
 .obtain⟨_,_,e1,_⟩:=S.EI a h;exact Bo a (by rw[e1];simp) (S.MP a h)
 .exact Bo a (S.bH a v) (S.bF a v)
 .by_cases m:a∈(OV.nd nk a0 us).addrs
  .exact f.bH a m
  .intro z;cases e:H a with
   |none=>exact S.bH a v e
   |some o=>rw[kp a o m e]at z;cases z
 .by_cases c:j=i
  .subst c;rw[DP D]at g;cases g;refine⟨.ref a0,e0,r,nd,λa y=>⟨(q a y).1,?_⟩⟩;rcases(q a y).2 with z|z
   .exact .inl (S.Ee z)
   .exact(w a z).2
  .rw[Cr (Bh c)]at g
   by_cases np:s=.AE
   .subst np;obtain⟨l,e,L,K,pt⟩:=S.ok j _ g;obtain⟨_,_,e1,_⟩:=id pt;exact⟨l,e,Bo l (by rw[e1];simp) L,K,Bq.keep pt λo z=>kp l o (d j _ c g l e) z⟩
   .exact Ok.go S g f.f0 (λa o ho e=>kp a o (d j s c g a ho) e) Bo np
 .have at_:∀(n:Nat)s,(ss.set i (.ow lt (.nd Hu a0 DK)))[n]?=some s->(n=i/\s=.ow lt (.nd Hu a0 DK))∨(n≠i/\ss[n]?=some s):=λn s p=>by
   by_cases c:n=i
   .subst c;rw[DP D]at p;exact .inl ⟨rfl,(BW p).symm⟩
   .rw[Cr (Bh c)]at p;exact .inr ⟨c,p⟩
  have C:∀(n:Nat)s,n≠i->ss[n]?=some s->Bf s Z[n]? b->b∉(OV.nd Hu a0 DK).addrs:=λn s p t ho m=>by
   rcases(q b m).2 with z|z
   .exact S.Gy t ho z
   .exact d n s p t b ho z
  rcases at_ j s g with⟨e1,rfl⟩|⟨J,h1⟩
  .rcases at_ k u hk with⟨B,rfl⟩|⟨x,h2⟩
   .exact Po (e1.trans B.symm)
   .exact C k u x h2 mu ms
  .rcases at_ k u hk with⟨B,rfl⟩|⟨x,h2⟩
   .exact C j s J h1 ms mu
   .exact S.Bv j k s u b Po h1 h2 ms mu
section
variable[Xw]
variable{ta:TA}{lt:Bool}{nx:List Slot->Prop}{R:Ao}
theorem Yt{k:List Slot->Prop}(h:k []):cM ss BK k:=⟨λE Z F H Q S q=>q [] [] F H (Mv.refl S) .nil h⟩
theorem eY{k:List Slot->Prop}(hi:ss[i]?=some (.ow lt t))(h:cM ss ta λl=>k (.ow true t::l)):Qa ss i t (Ae (Ap i) ta) k:=⟨λE Z F H Q S q=>by
 obtain⟨b,e0,_⟩:=S.ok i _ hi;exact⟨_,e0,h.go E Z F H _ S λvs l F2 H2 m2 a kk=>q _ _ F2 H2 m2 (.here e0 a) kk⟩⟩
theorem Mb{k:List Slot->Prop}(h:Wp ss te λp=>Qa ss i t ta λl=>k (.is p::l)):Qa ss i t (Ae te ta) k:=⟨λE Z F H Q S q=>
 h.go E Z F H _ S λv p F1 H1 b r h2=>h2.go E Z F1 H1 _ b.st λvs l F2 H2 m2 a kk=>q _ _ F2 H2 (b.trans m2) (.there (r.mono m2.ff) a) kk⟩
theorem Mv.Zu{F1 H1 F2 H2:Hp}(hi:ss[i]?=some (.ow lt t))(a:Mv E ss Z F H F1 H1)(b:Jr E ss Z i lt t t' F1 H1 F2 H2):Jr E ss Z i lt t t' F H F2 H2:=
 ⟨b.st,a.ff.trans b.ff,λc o n z e=>b.hh c o n z (a.hh c o n e),λc o e=>(b.nn c o e).elim (λe=>a.nn c o e) λe=>.inr (a.none e)⟩
theorem j6{k:PV->OV->Prop}(hi:ss[i]?=some (.ow lt (.nd nk a0 us)))(h:Qa ss i (.nd nk a0 us) ta λl=>∃k',pre l (.mt k')/\∀p t',k' p t'->∃Hu DK,t'=.nd Hu a0 DK/\k p t'):Wm ss i lt (.nd nk a0 us) (EZ (Ey pre) [] E0 ta) k:=⟨λE Z F H Q S q=>
 h.go E Z F H _ S λvs l F1 H1 b a⟨k',e,kk⟩=>by
  rw[GH];refine⟨l,.mt k',F1,[],(OV.nd nk a0 us).addrs,e,b.st.xS hi a,λv F' H' f⟨p,t',r,c,nd,d,kp⟩=>?_⟩;obtain⟨Hu,DK,rfl,k2⟩:=kk p t' kp;exact q v p _ F' H' (b.Zu hi (b.st.tN hi f c nd d)) r k2⟩
theorem me{k:Bool->OV->Prop}(h:Wm ss i lt t te λp t'=>∃c,p=.bl c/\k c t'):QP ss i lt t (tB te) k:=⟨λE Z F H Q S q=>
 h.go E Z F H _ S λv p t' F1 H1 a r AX=>by
  obtain⟨c,e,kk⟩:=AX;subst e;cases r.inv;exact⟨c,rfl,q c t' F1 H1 a kk⟩⟩
theorem ni{c d:TT}{k:Bool->OV->Prop}(hi:ss[i]?=some (.ow lt t))(h:Wt ss c λb=>if b=true then k true t else QP ss i lt t d k):QP ss i lt t (Ow c d) k:=⟨λE Z F H Q S q=>
 h.go E Z F H _ S λb F1 H1 a kk=>by
  cases b with
  |false=>rw[mD (by decide)]at kk;exact kk.go E Z F1 H1 _ a.st λb t' F2 H2 m2 k2=>q b t' F2 H2 (a.Zu hi m2) k2
  |true=>rw[p7 rfl]at kk;exact q true t F1 H1 (Jr.of hi a) kk⟩
theorem ug{c:TT}{u v:TS}(h:QP ss i lt t c λb t'=>if b=true then Ws (ss.set i (.ow lt t')) u nx R else Ws (ss.set i (.ow lt t')) v nx R):Ws ss (MM c u v) nx R:=⟨λE D Z F H S e d=>
 h.go E Z F H _ S λb t' F1 H1 a kk=>by
  cases b with
  |true=>rw[p7 rfl]at kk;exact kk.go E D Z F1 H1 a.st (λA6 σ' F' H' n S' s=>e A6 σ' F' H' n S' (a.ff.trans s)) d
  |false=>rw[mD (by decide)]at kk;exact kk.go E D Z F1 H1 a.st (λA6 σ' F' H' n S' s=>e A6 σ' F' H' n S' (a.ff.trans s)) d⟩
theorem wY(h:Wm ss i lt t te λ_ t'=>nx (ss.set i (.ow lt t'))):Ws ss (Kg te) nx R:=⟨λE D Z F H S b c=>
 h.go E Z F H _ S λv p t' F1 H1 a r kk=>b _ Z F1 H1 kk a.st a.ff⟩
theorem yF{k:PV->OV->Prop}(hi:ss[i]?=some (.ow lt (.nd nk a0 us)))(h:Wp ss te λp=>k p (.nd nk a0 us)):Ws ss (Fb te) nx (.mt k):=⟨λE D Z F H S l g=>
 h.go E Z F H _ S λv p F1 H1 d r kk=>by
  obtain⟨f,e0,b,Kj,c⟩:=d.st.ok i _ hi;have j:f=.ref a0:=by cases b;rfl
  subst j;exact g v F1 H1 d.st.toFin ⟨p,.nd nk a0 us,r,b,Kj,λa e=>⟨(c a e).1,(c a e).2.imp id λz=>z.2⟩,kk⟩⟩
end
theorem ZC4{t:TS}(h:Ey pre vs H Q X)(b:∀ss R,pre ss R->ss.length=n)
  (hw:∀ss R,pre ss R->Ws (ss++List.replicate (N.length - n) .any) t (λ_=>False) R):t { nx:=λ_ H'=>Q .A9 H',rt:=Q } (L2.start N vs) H:=by
 obtain⟨ss,R,F,A,B,a,S,q⟩:=h;have e:vs.length=n:=by have:=S.len;rw[AA]at this;rw[<- this];exact b ss R a
 unfold L2.start;rw[e];exact(hw ss R a).go (W0 ⟨A,F,H,B⟩) _ _ F H (S.grown _) (λA6 σ' F' H' z S' _=>z.elim) λv F' H' f ok=>q v F' H' f ok
theorem y8(b:∀ss R,pre ss R->ss.length=n)(h:Ey pre vs H Q X):vs.length=n:=by
 obtain⟨ss,R,F,A,B,a,S,q⟩:=h;have:=S.len;rw[AA]at this;rw[<- this];exact b ss R a
theorem Sg.ia(S:Sg E ss Z F H)(d:ss[j]?=some (.ow false u)):Sg E (ss.set j (.is u.pv)) Z (FK F H u.addrs) H/\AI F (FK F H u.addrs):=by
 obtain⟨v,e,r,nd,f⟩:=S.ok j _ d;obtain⟨S1,g⟩:=(S.drop j).lay u.addrs (λa b=>⟨(f a b).1,(f a b).2.elim id (λz=>by cases z.1),r.there a b⟩) λa b n s c m=>by
  by_cases q:n=j
  .subst q;rw[DP (List.getElem?_eq_some_iff.mp d).1]at c;cases c;cases m
  .rw[Cr (Bh q)]at c;exact S.Bv n j s _ a q c d m b
 have h:=S1.IE (j:=j) (v:=v) (p:=u.pv) (r.rep g λa b o ho=>by unfold FK;rw[p7 b];exact ho);rw[Mz e,TH]at h;exact⟨h,g⟩
theorem yk{p:Slot}(c:ss[j]?=some (.ow false u))(b:p≠.AE)(a:Addr):Cp ss Z a->Cp (ss.set j p) Z a:=λn k hk=>by
 by_cases q:k=j
 .subst q;rw[DP (List.getElem?_eq_some_iff.mp c).1]at hk;cases hk;exact absurd rfl b
 .rw[Cr (Bh q)]at hk;exact n k hk
theorem Sg.sU(S:Sg E ss Z F H)(d:ss[j]?=some (.ow false u))(ff:AI (FK F H u.addrs) F')(fh:AI F' H'):(∀a∈u.addrs,F' a=H a/\H' a=H a/\H a≠none)/\∀a∈u.addrs,∀ws,F' a≠some (.tup ws):=by
 obtain⟨v,e,r,nd,f⟩:=S.ok j _ d;have at_:∀a∈u.addrs,F' a=H a/\H' a=H a/\H a≠none:=λa b=>by
  cases q:H a with
  |none=>exact absurd q (r.there a b)
  |some o=>
   have c:F' a=some o:=ff a o (by unfold FK;rw[p7 b];exact q);exact⟨c,fh a o c,by simp⟩
 exact⟨at_,λa b ws q=>by rw[(at_ a b).1]at q;exact r.ZC5 a b ws q⟩
theorem Sg.ZBl(S:Sg E ss Z F H)(b:ss[j]?=some (.ow false u))(m:Mv E (ss.set j (.is u.pv)) Z (FK F H u.addrs) H F' H'):Mv E ss Z F H (Ho F' u.addrs) H'/\∀a∈u.addrs,∀ws,F' a≠some (.tup ws):=by
 obtain⟨v,e,r,nd,c⟩:=S.ok j _ b;obtain⟨S2,f⟩:=S.ia b;obtain⟨at_,d⟩:=S.sU b m.ff m.st.fh;refine⟨S.step (λa o ea=>?_) (λa o ea=>?_) (λa o n ea=>m.hh a o (yk b (λz=>by cases z) a n) ea) (λa o ea=>?_) (λk l hk g=>?_),d⟩
 .unfold Ho;rw[mD (λq=>by rw[(c a q).1]at ea;cases ea)];exact m.ff a o (f a o ea)
 .unfold Ho at ea;split at ea
  .cases ea
  .exact m.st.fh a o ea
 .unfold Ho at ea;split at ea
  .cases ea
  .rename_i q;rcases m.nn a o ea with z|z
   .unfold FK at z;rw[mD q]at z;exact .inl z
   .exact .inr z
 .refine m.st.Fp (i:=k) ?_ g;rw[Cr (λq=>by subst q;rw[b]at hk;cases hk)];exact hk
section
variable[Xw]
variable{lt:Bool}
theorem Z8{k:List PV->Prop}(j:Nat)(a:ss[j]?=some (.ow false u))(h:Wn (ss.set j (.is u.pv)) te λys=>Ld ys=true/\k ys):Wn ss te k:=⟨λE Z F H Q S q=>by
 obtain⟨S2,f⟩:=S.ia a;refine h.go E Z _ H Q S2 λl2 Ez ys F' H' m e h2 DU b⟨d,kk⟩=>?_;obtain⟨M,c⟩:=S.ZBl a m;exact q l2 Ez ys _ H' M (by unfold Ho;split <;> first|rfl|exact e) h2 DU (b.sub c d) kk⟩
end
end Fz
namespace L2
section
variable{X:Cx}{o i value:Expr}{td ty tv:TE}{pos pos':Pos}
theorem uX(f:X.A.units+1<cLine)(ho:QE X o td)(hi:QE X i ty)(j:Vn i):QE X (.Subscript o i pos) (Vm td ty):=⟨by
 have ho:=ho.h;have hi:=hi.h;intro Zd s Z H Q I h;refine jv PySem.F.slot_dict_getitem.lookup j (ho.k I h λu s1 x H1 I1 c e=>hi.k I1 e λn s2 y H2 I2 b⟨a,v,ex,g,d⟩=>?_);subst ex;obtain rfl:u=Value.ref a:=c;exact⟨yy I2 g,oZ f I2 g b λl m I3 Ic=>⟨v,H2,I3,Ic,d⟩⟩⟩
theorem az(m:X.A.units+1<cLine)(ho:QE X o td)(hi:QE X i ty)(b:QE X value tv)(n:swapsWith value (some (.Subscript o i pos')) pos.line X.env=pure false:=by rfl):
  QS X (.Assign [.Subscript o i pos'] value pos) (SF td ty tv):=⟨by
 have ho:=ho.h;have hi:=hi.h;have b:=b.h;intro Zd s Z H D I h;refine wpAny_Assign_Subscript (b.k I h λr s1 v H1 I1 e l=>ho.k I1 l λu s2 x H2 I2 d j=>hi.k I2 j λq p y H3 I3 c⟨a,H4,ex,g,f⟩=>?_) n;subst ex;obtain rfl:u=Value.ref a:=d;exact zm m I3 g c e λs4 I4=>⟨Z,H4,I4,f⟩⟩
theorem VV:QE X (.Dict [] [] pos) SX:=⟨λZd s Z H Q I h=>
 wpAny_Dict_empty ⟨.ref s.heap.objs.size,_,I.laid (a:=s.heap.objs.size) (o:=.dK []) (t':=s.toks) (λ_ _ q=>Aj _ q) (Aa _) (si s.heap I.big),rfl,h _ (I.AG.fresh (Aa _))⟩⟩
end
end L2
namespace Fz
open L2 Lw
variable{F:Hp}{ss:List Slot}{td tv ty:TE}{nx:List Slot->Prop}{R:Ao}{i:Nat}{ks:List Key}{Br vs:List V}{t u:OV}{a:Addr}{us:List OV}{m p:List Nat}{f:Str}
noncomputable def Ob:Key->PV
 | .inl i=>.int i
 | .inr x=>.str x
noncomputable def M1:List Key->List PV->Key->Option PV
 |k'::ks,x::xs,k=>if k'=k then some x else M1 ks xs k
 |_,_,_=>none
def HS(ks:List Key)(k:Key):Bool:=ks.any λk'=>decide (k'=k)
def JU(ks:List Key)(k:Key):List Key:=if HS ks k=true then ks else ks++[k]
theorem Q7{v:V}{k:Key}(r:Rep F v (Ob k)):v=kV k:=by
 cases k with
 |inl i=>cases r.inv;rfl
 |inr x=>cases r.inv;rfl
theorem ZAv{k:Key}{y:PV}:∀{ks:List Key}{vs:List V}{xs:List PV},AJ F vs xs->ks.length=vs.length->M1 ks xs k=some y->∃v,Eu (ks.zip vs) k=some v/\Rep F v y:=by
 intro ks
 induction ks with
 |nil=>intro vs xs _ _ h;cases h
 |cons k' ks d=>
  intro vs xs r e h;cases xs with
  |nil=>cases h
  |cons x xs=>
   obtain⟨v,ws,rfl,a,b⟩:=r.inv;have h:(if k'=k then some x else M1 ks xs k)=some y:=h
   rw[Yf]
   by_cases c:k'=k
   .rw[p7 c]at h;cases h;exact⟨v,Qf c,a⟩
   .rw[mD c]at h;obtain⟨w,h1,h2⟩:=d b (JR e) h;exact⟨w,by rw[Rq c];exact h1,h2⟩
section
variable[Xw]
variable{k:PV->Prop}{lt:Bool}
theorem tO(h:Wp ss td λp=>∃ks xs,p=.BA ks xs/\Wp ss ty λq=>∃key y,q=Ob key/\M1 ks xs key=some y/\k y):Wp ss (Vm td ty) k:=⟨λE Z F H Q S q=>
 h.go E Z F H _ S λv p F1 H1 b f⟨ks,xs,e,h2⟩=>h2.go E Z F1 H1 _ b.st λv2 p2 F2 H2 m2 d⟨key,y,l,g,kk⟩=>by
  subst e;subst l;have m:=f.mono m2.ff;cases m with
  |BA j i c=>
   obtain⟨w,hw,a⟩:=ZAv c i g;refine⟨_,w,rfl,?_,q w y F2 H2 (b.trans m2) a kk⟩;rw[<- hw,Q7 d];exact Hi.k (m2.st.fh _ _ j)⟩
theorem iQ{k:List Nat->OV->Prop}(h:∀a,k [] (.nd (.BA []) a (([]:List PV).map .fz))):Wx ss SX k:=⟨λE Z F H Q S q p b=>by
 have m:=S.make b (.dK []);refine q _ [] (.nd (.BA []) p (([]:List PV).map .fz)) F _ m (.nd (k:=.BA []) (vs:=[]) AZ trivial rfl .nil) (by rw[OV.ET];simp[NK.more,OV.L9]) (λa c=>?_) (h p);rw[OV.ET]at c;have e:a=p:=by simpa[NK.more,OV.L9]using c
 subst e;exact⟨S.Bo b,S.Ee b,.inr b⟩⟩
theorem U7:∀{ks:List Key}{vs:List V}{key:Key},ks.length=vs.length->(ks.zip vs).any (λkv=>decide (kv.1=key))=HS ks key
 | [],vs,key,h=>rfl
 |k'::ks,w::vs,key,h=>by
  rw[Yf,N3,U7 (by simpa using h)]
  rfl
 |_::_,[],_,h=>by simp at h
noncomputable def HZ:List Key->List V->Key->V->List V
 |k'::ks,x::xs,k,p=>(if k'=k then p else x)::HZ ks xs k p
 |_,xs,_,_=>xs
theorem fm:∀{ks:List Key}{vs:List V}{key:Key}{v:V},(ks.zip vs).map (λkv=>if kv.1=key then(kv.1,v)else kv)=ks.zip (HZ ks vs key v)
 | [],vs,key,v=>by simp
 |k'::ks,w::vs,key,v=>by
  rw[Yf,DG,fm,HZ,Yf]
  by_cases c:k'=key
  .rw[p7 c,p7 c]
  .rw[mD c,mD c]
 |_::_,[],_,_=>by simp[HZ]
end
noncomputable def G5:List Key->Key->Option Nat
 | [],_=>none
 |k'::ks,k=>if k'=k then some 0 else(G5 ks k).map (· + 1)
theorem Zh:∀{ks:List Key}{key:Key}{n:Nat},G5 ks key=some n->ks[n]?=some key
 | [],_,_,h=>by cases h
 |k'::ks,key,n,h=>by
  rw[G5]at h
  by_cases c:k'=key
  .rw[p7 c]at h;cases h;subst c;rfl
  .rw[mD c]at h;cases e:G5 ks key with
   |none=>rw[e]at h;cases h
   |some m=>rw[e]at h;cases h;exact Zh (ks:=ks) e
theorem Sw:∀{ks:List Key}{key:Key},(G5 ks key).isSome=HS ks key
 | [],_=>rfl
 |k'::ks,key=>by
  rw[G5];unfold HS;rw[N3]
  by_cases c:k'=key
  .rw[p7 c,kc c];rfl
  .rw[mD c,oO c,YI,jX,Sw];rfl
theorem i4{key:Key}(a:ks.length=vs.length):(Eu (ks.zip vs) key).isSome=HS ks key:=by
 rw[<- VC,U7 a]
theorem iC:∀{ks:List Key}{vs:List V}{key:Key}{n:Nat}{v:V},ks.Nodup->G5 ks key=some n->HZ ks vs key v=vs.set n v
 | [],_,_,_,_,_,h=>by cases h
 |k'::ks,[],key,n,v,_,h=>by rw[HZ];simp;simp
 |k'::ks,w::vs,key,n,v,nd,h=>by
  rw[G5]at h;obtain⟨f,d⟩:=List.nodup_cons.mp nd;rw[HZ]
  by_cases c:k'=key
  .rw[p7 c]at h;cases h;rw[p7 c,jP]
   congr 1
   subst c;have a:∀{ks:List Key}{vs:List V},k'∉ks->HZ ks vs k' v=vs:=by
    intro ks
    induction ks with
    |nil=>intro vs _;rw[HZ];simp
    |cons k2 ks g=>
     intro vs b;cases vs with
     |nil=>rw[HZ];simp
     |cons u vs=>
      rw[HZ,mD (λz=>b (by rw[z];simp)),g (λz=>b (by simp[z]))]
   exact a f
  .rw[mD c]at h;cases e:G5 ks key with
   |none=>rw[e]at h;cases h
   |some m=>
    rw[e]at h;cases h;rw[mD c,TF,iC d e]
section
variable[Xw]
variable{ta:TE}{k:PV->Prop}
theorem gk(h:Wp ss ty λq=>Wl ss i t td λ_ u=>∃ks a us key,u=.nd (.BA ks) a us/\q=Ob key/\k (.bl (!HS ks key))):Wp ss (Qn ty td) k:=⟨λE Z F H Q S q=>
 h.go E Z F H _ S λv p F1 H1 b d h2=>h2.go E Z F1 H1 _ b.st λv2 p2 u F2 H2 m2 c D9 AX=>by
  obtain⟨ks,a,us,key,g,eq,kk⟩:=AX;subst g;subst eq;obtain⟨vs,rfl,e,j,f,l⟩:=c.inv;refine⟨a,Eu (ks.zip vs) key,rfl,by rw[Q7 d];exact Hi.k e,?_⟩;rw[i4 f];exact q _ _ F2 H2 (b.trans m2) (.bl _) kk⟩
theorem ue(h:Wp ss ty λq=>Wp ss td λu=>∃ks xs key,u=.BA ks xs/\q=Ob key/\k (.bl (!HS ks key))):Wp ss (Qn ty td) k:=⟨λE Z F H Q S q=>
 h.go E Z F H _ S λv p F1 H1 b d h2=>h2.go E Z F1 H1 _ b.st λv2 u F2 H2 m2 c AX=>by
  obtain⟨ks,xs,key,f,eq,kk⟩:=AX;subst f;subst eq;cases c with
  |@BA a _ vs _ g e i=>
   refine⟨a,Eu (ks.zip vs) key,rfl,by rw[Q7 d];exact Hi.k (m2.st.fh _ _ g),?_⟩;rw[i4 e];exact q _ _ F2 H2 (b.trans m2) (.bl _) kk⟩
theorem MB:(OV.nd (.BA ks) a us).addrs=a::OV.BD us:=by rw[OV.ET];rfl
theorem n9{lt:Bool}:∀(m:List Nat)(ss:List Slot),ss[i]?=some (.ow lt t)->i∉m->(Fz.EK m ss)[i]?=some (.ow lt t):=by
 intro m
 induction m with
 |nil=>intro ss h _;exact h
 |cons j m b=>
  intro ss h a;refine b _ ?_ λz=>a (by simp[z]);rw[Cr (by rintro rfl;exact a (by simp))];exact h
theorem Sg.yt{lt:Bool}{E:Ent0}{Z:L2.St}{F0 H0 H:Hp}{R6:List Key}{DK:List OV}(S0:Sg E ss Z F0 H0)(S:Sg E ss Z F H)(hi:ss[i]?=some (.ow lt t))(D9:t.at p=some (.nd (.BA ks) a us))
  (d:∀a∈u.addrs,F a=none/\E.H0 a=none/\((∃i∈m,∃s,s≠Slot.AE/\ss[i]?=some s/\Bf s Z[i]? a)∨H0 a=none)) (Ja:i∉m)
  (A:Be F H Br DK) (B:R6.length=Br.length) (Vb:(OV.BD DK).Nodup) (J0:∀b∈OV.BD DK,b∈OV.BD us∨b∈u.addrs):Sg E ((Fz.EK m ss).set i (.ow lt (t.put p (.nd (.BA R6) a DK)))) Z F (upd H a (.dK (R6.zip Br))):=by
 have G:=n9 m ss hi Ja;obtain⟨v,e,r,nd,q⟩:=S.ok i _ hi;have n:∀b,b∈a::OV.BD us->b∈t.addrs:=λb c=>OV.QL D9 b (by rw[MB];exact c);have D:∀b∈u.addrs,b∉t.addrs:=λb c z=>by
  rcases(d b c).2.2 with⟨j,C,s,_,f,o⟩|w
  .exact S.Bv j i s _ b (by rintro rfl;exact Ja C) f hi o z
  .exact S0.Gy hi z w
 have h:(OV.nd (.BA ks) a us).addrs.Nodup:=by
  obtain⟨l,I,e1,_⟩:=OV.split D9;rw[e1,FJ,FJ]at nd;exact nd.1.2.1
 rw[MB]at h;have g:∀b∈OV.BD DK,b≠a:=λb c z=>by
  subst z;rcases J0 b c with w|w
  .exact(List.nodup_cons.mp h).1 w
  .exact D b w (n b (by simp))
 refine(S.EK m).gY G D9 (.nd (k:=.BA R6) AZ trivial B (A.mono (AI.refl _) λb c o ho=>by rw[AY (g b c)];exact ho)) (by rw[MB];exact List.nodup_cons.mpr ⟨λz=>g a z rfl,Vb⟩) λb c=>?_;rw[MB]at c ⊢;rcases List.mem_cons.mp c with w|w
 .exact .inl (by simp[w])
 .rcases J0 b w with z|z
  .exact .inl (by simp[z])
  .refine .inr ⟨(d b z).1,(d b z).2.1,λj s f o=>?_⟩;rcases Rj f with y|⟨Gp,hm⟩
   .subst y;cases o
   .rcases(d b z).2.2 with⟨i2,Dw,s2,_,Cz,x⟩|y
    .exact S.Bv j i2 s s2 b (by rintro rfl;exact hm Dw) Gp Cz o x
    .exact S0.Gy Gp o y
def J8(ks:List Key)(us:List OV)(key:Key)(w:OV):List OV:=match G5 ks key with
 |some n=>us.set n w
 |none=>us++[w]
theorem hX(h:Wx ss tv λm w=>Wl ss i t td λp u=>∃lt a ks us,ss[i]?=some (.ow lt t)/\u=.nd (.BA ks) a us/\us.length<=99999/\ks.Nodup/\i∉m/\Wp ss ty λq=>∃key,q=Ob key/\nx ((Fz.EK m ss).set i (.ow lt (t.put p (.nd (.BA (JU ks key)) a (J8 ks us key w)))))):Ws ss (SF td ty tv) nx R:=⟨λE D Z F H S hn hr=>
 h.go E Z F H _ S λv m w F1 H1 P N X a1 h2=>h2.go E Z F1 H1 _ P.st λv2 p u F2 H2 m2 M D9 z=>by
  obtain⟨lt,a,ks,us,hi,rfl,hz,hk,Ja,h3⟩:=z;refine h3.go E Z F2 H2 _ m2.st λv3 q F3 H3 B r3 z=>?_;obtain⟨key,rfl,kk⟩:=z;have ev:v2=.ref a:=M.inv.elim λ_ h=>h.1;subst ev;have G:=m2.trans B;have np:∀b∈w.addrs,Cp ss Z b:=λb d k hk T=>by
   rcases(a1 b d).2.2 with⟨j,Q,s,I,Jy,o⟩|z
   .exact S.Bv j k s _ b (λe=>by subst e;rw[Jy]at hk;exact I (BW hk)) Jy hk o T
   .exact S.Gy hk T z
  have Y:Aw F3 H3 v w:=N.mono G.ff λb d o e=>G.hh b o (np b d) e;have Xb:∀b∈w.addrs,F3 b=none/\E.H0 b=none/\((∃i∈m,∃s,s≠Slot.AE/\ss[i]?=some s/\Bf s Z[i]? b)∨H b=none):=λb d=>by
   refine⟨?_,(a1 b d).2⟩;cases e:F3 b with
   |none=>rfl
   |some o=>
    rcases G.nn b o e with z|z
    .rw[(a1 b d).1]at z;cases z
    .exact absurd z (N.there b d)
  have r4:=M.mv m2.st ⟨lt,hi⟩ D9 B;cases r4 with
  |@nd _ _ vs _ ha sd ft A=>
   have C:ks.length=vs.length:=ft;have vl:=A.length;have l7:(ks.zip vs).length<=99999:=by rw[jN];omega
   refine⟨a,_,rfl,by rw[Q7 r3];exact P0.k ha (LL l7),?_⟩;obtain⟨v0,e0,r0,Kj,q0⟩:=B.st.ok i _ hi;have L:(OV.nd (.BA ks) a us).addrs.Nodup:=by
    obtain⟨l,A,e1,_⟩:=OV.split D9;rw[e1,FJ,FJ]at Kj;exact Kj.1.2.1
   rw[MB]at L;have f:∀b∈w.addrs,b∉OV.BD us:=λb d z=>by
    have W:b∈t.addrs:=OV.QL D9 b (by rw[MB];simp[z]);rcases(a1 b d).2.2 with⟨j,Q,s,_,I,o⟩|y
    .exact S.Bv j i s _ b (by rintro rfl;exact Ja Q) I hi o W
    .exact S.Gy hi W y
   obtain⟨Br,ep,K,qc,Lj,σ⟩:∃Br:List V,putK (ks.zip vs) key v=(JU ks key).zip Br/\(JU ks key).length=Br.length/\Be F3 H3 Br (J8 ks us key w)/\(OV.BD (J8 ks us key w)).Nodup/\∀b∈OV.BD (J8 ks us key w),b∈OV.BD us∨b∈w.addrs:=by
    unfold putK JU J8;rw[U7 C];cases e:G5 ks key with
    |some n=>
     have c:HS ks key=true:=by rw[<- Sw,e];rfl
     have J:n<us.length:=by
      have:=(List.getElem?_eq_some_iff.mp (Zh e)).1;omega
     obtain⟨l,r,e1,U⟩:=Kp (AQ J);rw[p7 c,p7 c,fm,iC hk e];refine⟨vs.set n v,rfl,by rw[Hg];exact C,A.set n Y,?_,λb d=>?_⟩
     .show(OV.BD (us.set n w)).Nodup;rw[U];have O:=(List.nodup_cons.mp L).2;rw[e1]at O;exact Zy O X λb d=>.inr (by rw[<- e1];exact f b d)
     .have g:b∈OV.BD (us.set n w):=d;rw[U]at g;rcases List.mem_append.mp g with z|z
      .rcases List.mem_append.mp z with z|z
       .exact .inl (by rw[e1];simp[z])
       .exact .inr z
      .exact .inl (by rw[e1];simp[z])
    |none=>
     have c:¬ HS ks key=true:=by rw[<- Sw,e];decide
     rw[mD c,mD c];refine⟨vs++[v],by rw[List.zip_append C];rfl,by rw[BF,BF,C];rfl,A.append (.one Y),?_,λb d=>?_⟩
     .show(OV.BD (us++[w])).Nodup;rw[Xh,eG,FJ];exact⟨(List.nodup_cons.mp L).2,X,λx hx y hy e=>f y hy (e▸hx)⟩
     .have g:b∈OV.BD (us++[w]):=d;rw[Xh,eG]at g;exact List.mem_append.mp g
   rw[ep];exact hn _ Z F3 _ kk (Sg.yt (u:=w) S B.st hi D9 Xb Ja qc K Lj σ) (P.ff.trans G.ff)⟩
variable{K:ZDv}
end
end Fz
namespace L2
variable{o:Obj}{es:Array (Int×Value)}{C a:Addr}{ep i j n:Nat}{t:SetTable}{xs:Array Nat}{prog:Program}{w:World}{S f:Int->Bool}{A:Around}{E:Value->Shared->Prop}{s:Shared}
def Ce(xs:Array Nat):Prop:=xs.toList.Pairwise (· < ·)
theorem Ce.get{xs:Array Nat}(a:Ce xs){i j:Nat}(Ck:i<j)(h:j<xs.size):xs[i]'(by omega)<xs[j]:=by
 have q:=List.pairwise_iff_getElem.mp a i j (by rw[C9];omega) (by rw[C9];omega) Ck
 simpa using q
theorem v8(xs:Array Nat)(g:Ce xs)(j:Nat):∀(f lo hi:Nat),lo<=hi->hi<=xs.size->hi - lo<=f->(∀i,i<lo->(h:i<xs.size)->xs[i]<j)->(∀i,hi<=i->(h:i<xs.size)->j<=xs[i])->
  SetTable.below.go xs j f lo hi<=xs.size/\(∀i,i<SetTable.below.go xs j f lo hi->(h:i<xs.size)->xs[i]<j)/\∀i,SetTable.below.go xs j f lo hi<=i->(h:i<xs.size)->j<=xs[i]:=by
 intro f
 induction f with
 |zero=>
  intro lo hi h1 h2 m c b;have e:lo=hi:=by omega
  subst e;exact⟨h2,c,b⟩
 |succ f d=>
  intro lo hi h1 h2 m c b;unfold SetTable.below.go
  by_cases l:lo<hi
  .rw[p7 l];have k:(lo+hi) / 2<xs.size:=by omega
   have n:xs.getD ((lo+hi) / 2) j=xs[(lo+hi) / 2]:=by simp[Array.getD,k]
   dsimp only;rw[n]
   by_cases a:xs[(lo+hi) / 2]<j
   .rw[p7 a];refine d _ _ (by omega) h2 (by omega) (λi CZ h=>?_) b
    by_cases e:i=(lo+hi) / 2
    .subst e;exact a
    .exact Yi (g.get (by omega) k) a
   .rw[mD a];refine d _ _ (by omega) (by omega) (by omega) c (λi CZ h=>?_)
    by_cases e:i=(lo+hi) / 2
    .subst e;omega
    .exact Gu (IK (Yg a) (g.get (by omega) h))
  .rw[mD l];have e:lo=hi:=by omega
   subst e;exact⟨h2,c,b⟩
theorem QC(a:Ce xs)(j:Nat):SetTable.below xs j<=xs.size/\(∀i,i<SetTable.below xs j->(h:i<xs.size)->xs[i]<j)/\∀i,SetTable.below xs j<=i->(h:i<xs.size)->j<=xs[i]:=
 v8 xs a j _ _ _ (Bm _) (Aa _) (by omega) (λi h=>by omega) (λi h h'=>by omega)
theorem zA(a:Ce xs):SetTable.below xs 0=0:=by
 obtain⟨h1,h2,b⟩:=QC a 0
 by_cases z:SetTable.below xs 0=0
 .exact z
 .have:=h2 0 (by omega) (by omega);omega
theorem oY(c:Ce xs)(hi:i<xs.size):SetTable.below xs (xs[i]+1)=i+1:=by
 obtain⟨h1,h2,d⟩:=QC c (xs[i]+1);have a:i<SetTable.below xs (xs[i]+1):=by
  rcases Nat.lt_or_ge i (SetTable.below xs (xs[i]+1))with h|h
  .exact h
  .have:=d i h hi;omega
 have b:¬ i+1<SetTable.below xs (xs[i]+1):=by
  intro h;have q:=h2 (i+1) h (by omega);have r:=c.get (i:=i) (j:=i+1) (by omega) (by omega);omega
 omega
theorem uG{α:Type}(xs:Array α)(p:Nat)(x:α)(a:p<=xs.size):(SetTable.insertAt xs p x).toList=xs.toList.take p++x::xs.toList.drop p:=by
 unfold SetTable.insertAt;simp[PY]
theorem Ce.insert(f:Ce xs)(l:j∉xs.toList):Ce (SetTable.insertAt xs (SetTable.below xs j) j):=by
 obtain⟨h1,h2,k⟩:=QC f j;unfold Ce;rw[uG _ _ _ h1,List.pairwise_append];refine⟨jE (jR _ _) f,List.pairwise_cons.mpr ⟨λa d=>?_,jE (List.drop_sublist _ _) f⟩,λa d b g=>?_⟩
 .obtain⟨i,hi,e⟩:=List.mem_iff_getElem.mp d;rw[ZCc]at e;have h:SetTable.below xs j+i<xs.size:=by rw[Dl,C9]at hi;omega
  have q:=k _ (JQ _ _) h;have c:xs[SetTable.below xs j+i]=a:=by simpa using e
  rw[c]at q;have:a≠j:=λz=>l (z▸Ya d);omega
 .have m:a<j:=by
   obtain⟨i,hi,e⟩:=List.mem_iff_getElem.mp d;rw[List.getElem_take]at e;rw[Cj,C9]at hi;have q:=h2 i (by omega) (by omega);have c:xs[i]=a:=by simpa using e
   rw[c]at q;exact q
  rcases List.mem_cons.mp g with rfl|g
  .exact m
  .obtain⟨i,hi,e⟩:=List.mem_iff_getElem.mp g;rw[ZCc]at e;have h:SetTable.below xs j+i<xs.size:=by rw[Dl,C9]at hi;omega
   have q:=k _ (JQ _ _) h;have c:xs[SetTable.below xs j+i]=b:=by simpa using e
   rw[c]at q;omega
theorem ZA(a:Ce t.place)(h:∀i,t.slot j≠.live i):j∉t.place.toList:=by
 intro b;obtain⟨i,hi,e⟩:=List.mem_iff_getElem.mp b;rw[C9]at hi;have f:t.place[i]=j:=by simpa using e
 obtain⟨h1,h2,d⟩:=QC a j;have c:SetTable.below t.place j=i:=by
  rcases ZCu i (SetTable.below t.place j)with z|z|z
  .have:=h2 i z hi;omega
  .exact z.symm
  .have q:=d _ (Aa _) (by omega);have r:=a.get z hi;omega
 refine h (SetTable.below t.place j) ?_;unfold SetTable.slot;dsimp only;rw[p7 (by rw[c,IG hi,f];simp)]
theorem rX(t:SetTable)(g:Nat->Int)(h:Int):∀(f:Nat)(p:SetTable.Probe)(j:Nat)(d:Option Nat),(∀d',p.dummy=some d'->∀i,t.slot d'≠.live i)->SetTable.probe.go t g h f p=some (.empty j d)->
  (∀i,t.slot j≠.live i)/\∀d',d=some d'->∀i,t.slot d'≠.live i:=by
 intro f
 induction f with
 |zero=>intro p j d _ e;simp[SetTable.probe.go]at e
 |succ f b=>
  intro p j d hd e;have c:∀q:SetTable.Probe,(t.advance q).dummy=q.dummy:=by
   intro q;unfold SetTable.advance;split <;> rfl
  unfold SetTable.probe.go at e;split at e
  .next Gp=>
   simp only[Pe,SetTable.Met.empty.injEq]at e;obtain⟨e1,k⟩:=e;subst e1;subst k;exact⟨λi z=>(by rw[Gp]at z;cases z),hd⟩
  .next Gp=>
   refine b _ j d (λd' a i=>?_) e;rw[c]at a;cases a;rw[Gp];intro z;cases z
  .split at e
   .simp at e
   .refine b _ j d (λd' a i=>?_) e;rw[c]at a;exact hd d' a i
theorem wR(a:Ce t.place){h:Int}{b:Bool}(e:t.freeSlot h=some (j,b)):j∉t.place.toList:=by
 unfold SetTable.freeSlot at e;split at e
 .next j0 d hp=>
  unfold SetTable.probe at hp;obtain⟨h1,h2⟩:=rX t _ h _ _ j0 d (λd' z=>by simp[SetTable.probeStart]at z) hp;simp only[Pe,Prod.mk.injEq]at e;obtain⟨e1,_⟩:=e;subst e1;cases d with
  |none=>exact ZA a h1
  |some d=>exact ZA a (h2 d rfl)
 .simp at e
theorem Qg(n:Nat):Ce (Array.range n):=by
 unfold Ce;rw[Array.toList_range];exact ZCj
theorem vU(h:Ce t.place):Ce (t.orStandIn n).place:=by
 unfold SetTable.orStandIn;split
 .exact h
 .exact Qg n
theorem jo(a:Ce t.place)(es:Array (Int×Value))(h:Int)(x:Value):Ce (layNew t es h x).2.1.place:=by
 unfold layNew;split
 .next j b e=>
  refine vU ?_;exact a.insert (wR a e)
 .exact Qg _
theorem zP(es:Array (Int×Value))(n:Nat):Ce (relayAll t es n).2.1.place:=by
 unfold relayAll;split
 .next t' order hr=>
  dsimp only;split
  .unfold SetTable.relaid SetTable.laid at hr;generalize SetTable.layClean _ _=lc at hr;cases lc with
   |none=>simp at hr
   |some ow=>
    simp only[Option.bind_eq_bind,ZCv,Option.pure_def,Pe,Prod.mk.injEq]at hr;obtain⟨rfl,_⟩:=hr;unfold Ce;simp only;rw[Yc,List.pairwise_filterMap];refine ZCR ?_ (ZCj (n:=SetTable.sizeAbove n - 1+1));intro a b Bw u d v c;cases f:ow.getD a none with
    |none=>rw[f]at d;simp at d
    |some h=>
     rw[f]at d;cases e:ow.getD b none with
     |none=>rw[e]at c;simp at c
     |some g=>
      rw[e]at c;simp only[Lu,Pe]at d c;subst d;subst c;exact Bw
  .exact Qg _
 .exact Qg _
noncomputable def Fj(acc:List Int)(x:Int):List Int:=if acc.any (· == x)then acc else acc++[x]
def CP(ss:List Int):List Int:=ss.foldl Fj []
theorem yO(acc:List Int)(x k:Int):(Fj acc x).any (· == k)=(acc.any (· == k) || decide (k=x)):=by
 unfold Fj
 by_cases h:acc.any (· == x)=true
 .rw[p7 h]
  by_cases e:k=x
  .subst e;rw[h];simp
  .simp[e]
 .rw[mD h,List.any_append]
  by_cases e:k=x
  .subst e;simp
  .have a:(x == k)=false:=by simpa[ZAO]using(λh':x=k=>e h'.symm)
   simp[a,e]
theorem gh(acc:List Int)(x:Int):(Fj acc x).length=if acc.any (· == x)then acc.length else acc.length+1:=by
 unfold Fj;split <;> simp
theorem Zm(ss:List Int)(i:Nat)(h:i<ss.length):CP (ss.take (i+1))=Fj (CP (ss.take i)) ss[i]:=by
 unfold CP;rw[JP h,ZCa];rfl
theorem iA(ss:List Int):(CP ss).length<=ss.length:=by
 have:∀(l acc:List Int),(l.foldl Fj acc).length<=acc.length+l.length:=by
  intro l
  induction l with
  |nil=>intro acc;simp
  |cons x r a=>
   intro acc;rw[N4];have h1:=a (Fj acc x);rw[gh]at h1;simp only[Az];split at h1 <;> omega
 have q:=this ss [];simp only[KR,Pd]at q;exact q
theorem tf(t:SetTable)(es:Array (Int×Value))(n:Nat):(relayAll t es n).2.1.led=t.led:=by
 unfold relayAll;split
 .next t' order hr=>
  have q:=Zk (p:=(t',order)) hr;dsimp only at q ⊢;split
  .exact q.1
  .rfl
 .rfl
def D6(prog:Program)(w:World)(h:Heap)(a:Addr)(S:Int->Bool)(n:Nat):Prop:=
 ∃o es ep t,h.get? a=some o/\o.ExactSet/\o.data=.set es ep t/\ElemsOf (PySem.intKind prog w) es.toList/\(∀k,S k=true↔∃e∈es.toList,(PySem.intKind prog w).is k e.2=true)/\
  es.size<scanBound/\t.fits es.size=true/\es.size=n/\(t.led=!BV w)/\Ce t.place
theorem D6.keep{h h':Heap}(x:D6 prog w h a S n)(k:∀o,h.get? a=some o->h'.get? a=some o):D6 prog w h' a S n:=by
 obtain⟨o,es,ep,t,ho,r⟩:=x;exact⟨o,es,ep,t,k o ho,r⟩
theorem D6.congr{h:Heap}{S':Int->Bool}{b:Nat}(x:D6 prog w h a S n)(e:∀k,S k=S' k)(m:n=b):D6 prog w h a S' b:=by
 obtain⟨o,es,ep,t,h1,h2,l,j,i,g,f,d,c⟩:=x;exact⟨o,es,ep,t,h1,h2,l,j,λk=>by rw[<- e k];exact i k,g,f,d.trans m,c⟩
theorem D6.put{k:Int}{tk:Tok}{Q:Bool->Shared->Prop}(σ:D6 prog w s.heap a S n)(HG:n+1<scanBound)
  (h:∀h',Heap.SameBut a s.heap h'->D6 prog w h' a (λk'=>S k' || decide (k'=k)) (if S k then n else n+1)->Q (!S k) { s with heap:=h' }) :
  wpAny (model prog w) A (setAddHashed a (.int k tk) ((PySem.intKind prog w).hash k)) Q E s:=by
 obtain⟨o,es,ep,t,ho,d,hd,BQ,BI,J,y,v,C3,BN⟩:=σ;have D:(PySem.intKind prog w).is k (.int k tk)=true:=by simp[PySem.intKind,Value.isInt]
 have F:(Value.int k tk).scannable=true:=rfl;have rm:es.size+1<scanBound:=by rw[v];exact HG
 have K:∀(b:Bool)(s1:Shared)(Q1:Unit->Shared->Prop),Q1 () s1->wpAny (model prog w) A (match b with|true=>rule "set.scan.the-table-gave-way" |false=>pure ()) Q1 E s1:=by
  intro b s1 Q1 q;cases b
  .exact k4 q
  .exact xU q
 unfold setAddHashed setAddHashedIn;refine qY ?_;refine dP (qJ ho hd y ?_);dsimp only;rw[byScan_of F J BQ];simp only[↓reduceIte];unfold setAddByScan;refine dP ?_;refine dP (xU ?_);refine dP (ZBL D ho hd y BQ ?_);cases I:List.findIdx? (λe=>(PySem.intKind prog w).is k e.2) es.toList with
 |some j=>
  dsimp only;obtain⟨Y,M9,_⟩:=List.findIdx?_eq_some_iff_getElem.mp I;have hk:S k=true:=(BI k).mpr ⟨es.toList[j],Gs Y,M9⟩;refine k4 ?_;refine k4 ?_;have q:=h s.heap (Ln a s.heap) ⟨o,es,ep,t,ho,d,hd,BQ,λk'=>by
   rw[<- BI k',Bool.or_eq_true,qO];exact⟨λz=>z.elim id λe=>e▸hk,Or.inl⟩,J,y,by rw[p7 hk];exact v,C3,BN⟩
  rw[hk]at q;exact q
 |none=>
  dsimp only;have hk:S k=false:=by
   cases e:S k with
   |false=>rfl
   |true=>
    obtain⟨x,hx,X⟩:=(BI k).mp e;have q:=List.findIdx?_eq_none_iff.mp I x hx;rw[X]at q;exact Bool.noConfusion q
  have p1:=layNew_perm t es ((PySem.intKind prog w).hash k) (.int k tk);have l:=layNew_fits t es ((PySem.intKind prog w).hash k) (.int k tk);have f:=jo BN es ((PySem.intKind prog w).hash k) (.int k tk);have l1:=dz t es ((PySem.intKind prog w).hash k) (.int k tk);generalize layNew t es ((PySem.intKind prog w).hash k) (.int k tk)=L at p1 l f l1 ⊢;obtain⟨B2,t1,R,gv⟩:=L;dsimp only at p1 l f l1 ⊢;rw[jA]at p1;have Y9:ElemsOf (PySem.intKind prog w) B2.toList:=(BQ.push D F).perm p1;have V:∀k',(S k' || decide (k'=k))=true↔∃e∈B2.toList,(PySem.intKind prog w).is k' e.2=true:=mem_push_iff D BI p1;have G:B2.size=n+1:=by rw[<- C9,p1.length_eq,BF,C9,v];rfl
  have M:B2.size<scanBound:=by rw[G];exact HG
  have fin:∀(h':Heap)(o':Obj)(BJ:Array (Int×Value))(Es:Nat)(t':SetTable),Heap.SameBut a s.heap h'->h'.get? a=some o'->o'.ExactSet->o'.data=.set BJ Es t'->BJ.toList.Perm B2.toList->t'.fits BJ.size=true->t'.led=t.led->Ce t'.place->
    Q true { s with heap:=h' }:=by
   intro h' o' BJ Es t' T go P d' g ff W U;have zz:BJ.size=n+1:=by rw[<- G,<- C9,g.length_eq,C9]
   have q:=h h' T ⟨o',BJ,Es,t',go,P,d',Y9.perm g,λk'=>(V k').trans ⟨λ⟨e,B,q⟩=>⟨e,g.mem_iff.mpr B,q⟩,λ⟨e,B,q⟩=>⟨e,g.mem_iff.mp B,q⟩⟩,by rw[zz];exact HG,ff,by rw[hk];exact zz,W.trans C3,U⟩;rw[hk]at q;exact q
  have c:∀(t2:SetTable),t2.fits B2.size=true->t2.led=t.led->Ce t2.place->wpAny (model prog w) A (do
    storeSet a B2 t2
    if(
      !R && t2.tooFull)=true then do
      (match(relayAll t2 B2 (SetTable.grown B2.size)).2.2 with|true=>rule "set.scan.the-table-gave-way" |false=>pure ())
      storeSet a (relayAll t2 B2 (SetTable.grown B2.size)).1 (relayAll t2 B2 (SetTable.grown B2.size)).2.1
      pure (some true)
     else pure (some true)) (λr s'=>match r with|some b=>Q b s'|none=>False) E s:=by
   intro t2 f2 l2 E7;refine dP (tG ho hd ?_ (sg M));have p:=Hq ho hd B2 t2;have N:=FI s.heap a (Obj.putSet B2 t2);split
   .have i:=relayAll_perm t2 B2 (SetTable.grown B2.size);have C:=relayAll_fits t2 B2 (SetTable.grown B2.size);have m:=zP (t:=t2) B2 (SetTable.grown B2.size);have u:=tf t2 B2 (SetTable.grown B2.size);generalize relayAll t2 B2 (SetTable.grown B2.size)=Rl at i C m u ⊢;obtain⟨GJ,H,g3⟩:=Rl;dsimp only at i C m u ⊢;have O:GJ.size=B2.size:=by rw[<- C9,i.length_eq,C9]
    refine dP (K _ _ _ ?_);refine dP (tG p rfl ?_ (sg (by rw[O];exact M)));refine k4 ?_;exact fin _ _ GJ _ H (N.trans (FI _ a _)) (Hq p rfl GJ H) d rfl i C (u.trans l2) m
   .exact k4 (fin _ _ B2 _ t2 N p d rfl (Gq _) f2 l2 E7)
  refine dP (K _ _ _ ?_);split
  .next Ra=>
   refine dP ?_;rw[hashByValue_scannable 8 F];refine k4 ?_;refine qP (c t1 l l1 f) (λr s' q=>?_) λ_ _ e=>e;cases r with
   |none=>exact q.elim
   |some b=>exact k4 q
  .next Ra=>
   refine dP (k4 ?_);simp only[↓reduceIte];refine qP (c t1 l l1 f) (λr s' q=>?_) λ_ _ e=>e;cases r with
   |none=>exact q.elim
   |some b=>exact k4 q
theorem eF{sl:Nat}{Q:Option (Value×Nat)->Shared->Prop}(d:BV w=false)(ho:s.heap.get? a=some o)(hd:o.data=.set es ep t)(c:t.fits es.size=true)
  (h1:(!t.plain && decide (es.size > 1))=false) (b:t.led=true)
  (h:Q (match es[SetTable.below t.place sl]?,t.place[SetTable.below t.place sl]? with|some (_,x),some j=>some (x,j+1)|_,_=>none) s):wpAny (model prog w) A (setNext a sl i ep) Q E s:=by
 have e:w.params.followText "set-order"=false:=d;unfold setNext;refine dP (qJ ho hd c ?_);dsimp only;unfold setsByText;refine dP (dP (rB (k4 ?_)));show wpAny _ _ (if w.params.followText "set-order"=true then _ else _) _ _ _
 rw[mD (by rw[e];decide)];show wpAny _ _ (if(!t.plain && decide (es.size > 1))=true then _ else _) _ _ _
 rw[mD (by rw[h1];decide)];refine dP (m:=_) ?_
 wp_delta
 rw[b];exact k4 (k4 h)
noncomputable def P4(t:SetTable)(i:Nat):Nat:=if i=0 then 0 else t.place.getD (i - 1) 0+1
theorem fF(a:Ce t.place)(hi:i<=t.place.size):SetTable.below t.place (P4 t i)=i:=by
 unfold P4;split
 .next z=>subst z;exact zA a
 .next z=>
  have h1:i - 1<t.place.size:=by omega
  have e:t.place.getD (i - 1) 0=t.place[i - 1]:=by simp[Array.getD,h1]
  rw[e,oY a h1];omega
theorem ZCB(a:BV w=false)(hh:A.handled=none)(I S:Addr)(Af:S≠I)(hd:o.data=.set es ep t)(c:t.fits es.size=true)(h1:(!t.plain && decide (es.size > 1))=false)(n:t.led=true)(m:Ce t.place):
  Walks prog w A I [I,S] [I] es.size (λi v=>(es.toList.map (·.2))[i]?=some v) (λi h=>EV h I (rawInt ((P4 t i:Nat):Int)) i S es.size ep/\h.get? S=some o) where
 sub:=λb a=>by simp at a;simp[a]
 frame:=λ_ _ _ x hk=>⟨x.1.at λo e=>hk I (by simp) o e,hk S (by simp) _ x.2⟩
 item:=λi s Q E hi x d=>by
  have p:t.place.size=es.size:=OM c;have g:i<t.place.size:=by omega
  have j:=x.1;refine Xl (x:=es[i].2) (nx:=t.place[i]+1) j x.2 hd c rfl (λA1 E1 Q1 q=>eF a x.2 hd c h1 n (by rw[fF m (Gu g),IG hi,IG g];exact q)) λh' LC l=>?_;refine d _ h' s.toks (by rw[AS,Lm,IG hi];rfl) ⟨?_,l.extBut S o Af x.2⟩ λb f a k=>l.extBut b f (λh=>a (by simp[h])) k;have e:P4 t (i+1)=t.place[i]+1:=by
   unfold P4;rw[mD (by omega)];simp[Array.getD,g]
  rw[e];exact LC
 done:=λs Q E x d=>by
  have p:t.place.size=es.size:=OM c;refine WU hh x.1 x.2 hd c rfl (λA1 E1 Q1 q=>eF a x.2 hd c h1 n ?_) λh' r=>?_
  .rw[fF m (by omega),YG (by omega)];exact q
  .exact d h' s.toks λb f a k=>r b f (λh=>a (by simp[h])) k
 self:=λ_ _ _ _ x d=>SG x.1 d
theorem ints_of{l:List (Int×Value)}(h:ElemsOf (PySem.intKind prog w) l):∃a,IntsAre (l.map (·.2)) a/\∀k,k∈a↔∃e∈l,(PySem.intKind prog w).is k e.2=true:=by
 induction l with
 |nil=>exact⟨[],.nil,λk=>by simp⟩
 |cons e r b=>
  obtain⟨a,h1,h2⟩:=b h.tail;obtain⟨⟨k,hk,_⟩,_⟩:=h.head;obtain⟨tk,c⟩:=Value.isInt_shape hk;refine⟨k::a,?_,λk'=>?_⟩
  .rw[DG,c];exact .cons k tk h1
  .rw[CK,h2 k'];constructor
   .rintro(rfl|⟨x,hx,q⟩)
    .exact⟨e,Ar,hk⟩
    .exact⟨x,BG _ hx,q⟩
   .rintro⟨x,hx,q⟩;rcases List.mem_cons.mp hx with rfl|hx
    .exact .inl ((PySem.intKind prog w).inj x.2 k' k q hk)
    .exact .inr ⟨x,hx,q⟩
theorem IntsAre.len:∀{vs:List Value}{ss:List Int},IntsAre vs ss->vs.length=ss.length
 |_,_,.nil=>rfl
 |_,_,.cons _ _ h=>by rw[Az,Az,IntsAre.len h]
noncomputable def RP:Value->Int
 | .int n _=>n
 |_=>0
theorem IntsAre.map:∀{vs:List Value}{ss:List Int},IntsAre vs ss->vs.map RP=ss
 |_,_,.nil=>rfl
 |_,_,.cons x t h=>by rw[DG,IntsAre.map h];rfl
theorem IntsAre.mk:∀(vs:List Value),(∀v∈vs,∃n t,v=.int n t)->IntsAre vs (vs.map RP)
 | [],_=>.nil
 |v::r,h=>by
  obtain⟨n,t,rfl⟩:=h v Ar;exact .cons n t (IntsAre.mk r λx hx=>h x (BG _ hx))
theorem IntsAre.mem:∀{vs:List Value}{ss:List Int},IntsAre vs ss->∀v∈vs,∃n t,v=.int n t
 |_,_,.nil,v,h=>nomatch h
 |_,_,.cons x t h,v,hv=>by
  rcases List.mem_cons.mp hv with rfl|hv
  .exact⟨x,t,rfl⟩
  .exact IntsAre.mem h v hv
theorem IntsAre.perm{vs Br:List Value}{ss:List Int}(h:IntsAre vs ss)(p:Br.Perm vs):∃A6,IntsAre Br A6/\A6.Perm ss:=by
 refine⟨Br.map RP,IntsAre.mk Br λv a=>IntsAre.mem h v (p.mem_iff.mp a),?_⟩;rw[<- IntsAre.map h];exact p.map RP
theorem oM{S:Addr}{Q:Value->Shared->Prop}(K:D6 prog w s.heap S f n)
  (h:∀(I:Addr)(h1:Heap)(d:_)(fp:List Addr)(vs:List Value)(m:List Int)(St:Nat->Heap->Prop),(∀A2:Around,A2.handled=none->Walks prog w A2 I fp [I] n (λi v=>vs[i]?=some v) St)->St 0 h1->(∀b∈fp,b=S∨s.heap.objs.size<=b/\b<h1.objs.size)->s.heap.objs.size<=I->s.heap.objs.size<=h1.objs.size->
   (∀b o,s.heap.get? b=some o->h1.get? b=some o)->IntsAre vs m->m.length=n->(∀k,f k=true↔k∈m)->Q (.ref I) { s with heap:=h1,drawn:=d }):wpAny (model prog w) A (pyIter (.ref S)) Q E s:=by
 obtain⟨o,es,ep,t,ho,x,hd,BQ,BI,J,j,H,C3,BN⟩:=K;subst H;have B:s.TypeIs (.ref S) "set" := ⟨o,ho,x.1⟩;have y:S<s.heap.objs.size:=AU ho;obtain⟨D,t1,t2⟩:=ints_of BQ;have fin:∀(I:Addr)(h1:Heap)(d:_)(fp:List Addr)(vs:List Value)(St:Nat->Heap->Prop),(∀A2:Around,A2.handled=none->Walks prog w A2 I fp [I] es.size (λi v=>vs[i]?=some v) St)->St 0 h1->(∀b∈fp,b=S∨s.heap.objs.size<=b/\b<h1.objs.size)->s.heap.objs.size<=I->s.heap.objs.size<=h1.objs.size->
   (∀b o,s.heap.get? b=some o->h1.get? b=some o)->vs.Perm (es.toList.map (·.2))->Q (.ref I) { s with heap:=h1,drawn:=d }:=by
  intro I h1 d fp vs St a1 a2 P O N M L;obtain⟨m,G,z⟩:=IntsAre.perm t1 L;refine h I h1 d fp vs m St a1 a2 P O N M G ?_ λk=>?_
  .rw[z.length_eq,<- IntsAre.len t1];simp
  .rw[BI k,<- t2 k];exact z.mem_iff.symm
 refine ZB9 B YK (qf YK B Zt ?_ (F.args_set_iter_1 _));unfold Builtin.«frozenset.__iter__»;refine dP (rC (a:=S) rfl ?_);refine dP ?_;unfold Builtin.Frozenset.sizeOf;refine dP (rG ho hd j (k4 ?_));refine dP (eO ho hd j ?_)
 by_cases p:(!BV w && (!t.plain && decide (es.size > 1)))=true
 .rw[p7 p];refine dP ?_;refine Zw es.size (List.range es.size) _ _ (by rw[Cc];exact Aa _) λps d u=>?_;have pz:(ps.map λi:Nat=>rawInt i).length<=sizeLine:=by rw[AA,u.length_eq,Cc];exact sg J
  refine dP (ZAs ?_ pz);dsimp only;refine dP (tK (s:={ s with heap:=_,drawn:=d }) (Aj _ ho) hd j ?_)
  refine dP (r6 ?_);have g:∀(q:Obj)(b:Addr)(c:Obj),s.heap.get? b=some c->((s.heap.push (seqObj "tuple" (ps.map λi:Nat=>rawInt i).toArray 0)).push q).get? b=some c:=λq b c e=>Aj _ (Aj _ e);have l:(s.heap.push (seqObj "tuple" (ps.map λi:Nat=>rawInt i).toArray 0)).objs.size=s.heap.objs.size+1:=C2 ..;refine k4 ⟨_,rfl, "set_iterator", _,⟨_,B1 _ rfl,rfl⟩,Fy.lookup,?_⟩;refine fin _ _ d [(s.heap.push (seqObj "tuple" (ps.map λi:Nat=>rawInt i).toArray 0)).objs.size,S,s.heap.objs.size] _ _ (λA2 hh=>fK hh _ S s.heap.objs.size (by rw[l];exact An (Ej y)) (by rw[l];exact An (IL _)) hd j u (oT:=seqObj "tuple" (ps.map λi:Nat=>rawInt i).toArray 0) rfl) ⟨⟨_,B1 _ rfl,rfl,rfl⟩,g _ _ _ ho,Aj _ (B1 _ rfl)⟩ ?_ (by show s.heap.objs.size<=(s.heap.push (seqObj "tuple" (ps.map λi:Nat=>rawInt i).toArray 0)).objs.size;rw[l];exact DH _) ?_ (g _) ?_
  .intro b Bd;simp only[CK,BH,su]at Bd;rw[C2,l];rcases Bd with rfl|rfl|rfl
   .right;rw[l];exact⟨DH _,IL _⟩
   .left;rfl
   .right;exact⟨Aa _,Ej (IL _)⟩
  .rw[C2,l];exact Lr (DH _)
  .rw[<- bS];exact u.map _
 .rw[mD p];refine dP (k4 ?_);refine dP (tK ho hd j ?_);refine dP (r6 ?_);have g:∀(q:Obj)(b:Addr)(c:Obj),s.heap.get? b=some c->(s.heap.push q).get? b=some c:=λq b c e=>Aj _ e;refine k4 ⟨_,rfl, "set_iterator", _,⟨_,B1 _ rfl,rfl⟩,Fy.lookup,?_⟩;have C:∀(q:Obj),∀b∈[s.heap.objs.size,S],b=S∨s.heap.objs.size<=b/\b<(s.heap.push q).objs.size:=by
   intro q b Bd;simp only[CK,BH,su]at Bd;rw[C2];rcases Bd with rfl|rfl
   .right;omega
   .left;rfl
  cases r:BV w with
  |true=>
   refine fin _ _ s.drawn [s.heap.objs.size,S] _ _ (λA2 hh=>Ys r hh _ S (An y) hd j) ⟨⟨_,B1 _ rfl,rfl,rfl⟩,g _ _ _ ho⟩ (C _) (Aa _) (by rw[C2];omega) (g _) ?_;exact(NS _ _).map _
  |false=>
   have h1:(!t.plain && decide (es.size > 1))=false:=by
    rw[r]at p
    simpa using p
   refine fin _ _ s.drawn [s.heap.objs.size,S] _ _ (λA2 hh=>ZCB r hh _ S (An y) hd j h1 (by rw[C3,r];rfl) BN) ⟨⟨_,B1 _ rfl,rfl,rfl⟩,g _ _ _ ho⟩ (C _) (Aa _) (by rw[C2];omega) (g _) (Gq _)
theorem oG{S:Addr}{Q:List Value->Shared->Prop}(hh:A.handled=none)(r:D6 prog w s.heap S f n)(O:n<=sizeLine)
  (h:∀(s':Shared)(vs:List Value)(c:List Int),(∀b o,s.heap.get? b=some o->s'.heap.get? b=some o)->s.heap.objs.size<=s'.heap.objs.size->s'.gens=s.gens->s'.os=s.os->IntsAre vs c->c.length=n->(∀k,f k=true↔k∈c)->Q vs s') :
  wpAny (model prog w) A (collect (.ref S)) Q E s:=by
 have X:S<s.heap.objs.size:=by obtain⟨o,_,_,_,ho,_⟩:=r;exact AU ho
 have y:s.heap.objs.size≠S:=DQ X;unfold collect;refine dP (ZAE (rQ F.entry_proto_collect ?_));rw[KJ F.plain_proto_collect _];show wpAny _ A.in1 (newList [] >>= λl=>again (.builtin "list.__iadd__" ⟨[l,.ref S],[]⟩)) _ _ s;refine dP (r6 ?_);refine k4 ⟨ZA2 YJ _,rQ F.entry_list_iadd ?_⟩;rw[KJ YJ _];generalize x:({ cls:=.type "list", data:=.seq ([]:List Value).toArray }:Obj)=so;have D:D6 prog w (s.heap.push so) S f n:=r.keep λo e=>Aj _ e;have U:(s.heap.push so).get? s.heap.objs.size=some so:=B1 _ (by rw[<- x];rfl);have sz:(s.heap.push so).objs.size=s.heap.objs.size+1:=C2 ..;have u:Shared.TypeIs { s with heap:=s.heap.push so } (.ref S) "set" := by obtain⟨o,_,_,_,ho,j,_⟩:=D;exact⟨o,ho,j.1⟩
 have h1:Builtin.List.listSameRef (.ref s.heap.objs.size) (.ref S)=false:=by simp[Builtin.List.listSameRef,y]
 show wpAny _ A.in1 (Builtin.List.listExtendWith (.ref s.heap.objs.size) (.ref S) (.ref s.heap.objs.size)) _ _ { s with heap:=s.heap.push so }
 unfold Builtin.List.listExtendWith;refine dP (ZAm u ?_);rw[mD (by rw[h1];decide)];refine dP (oM (s:={ s with heap:=s.heap.push so }) D λI h2 d fp vs c St W Kd JA R Y kp Kc tl L=>?_)
 have C:s.heap.objs.size∉fp:=λg=>by
  rcases JA _ g with z|⟨z,_⟩
  .exact y z
  .have K:(s.heap.push so).objs.size<=s.heap.objs.size:=z;rw[sz]at K;omega
 have m:Shared.TypeIs { s with heap:=h2,drawn:=d } (.ref S) "set" := by obtain⟨o,ho,P⟩:=u;exact⟨o,kp _ _ ho,P⟩
 refine dP (qY ?_);unfold Builtin.List.listLengthHint;refine dP (ZBY m ix ?_);generalize B:("set.__len__":String)=VA
 wp_delta
 rw[show splitId VA=some ("set","__len__")from by subst B;decide +kernel];subst B;refine dP (uh (b:=true) m (by rw[wB];kernel_rfl) ?_);rw[mD (by decide)];refine ZAb (λ_=>?_) (λBw=>absurd (by decide +kernel) Bw);refine dP (ZAm m ?_);refine k4 ?_;refine ZAb (λ_=>?_) (λBw=>absurd (by decide +kernel) Bw);refine dP (xU ?_);refine dP ?_;show wpAny _ _ (updateSeq s.heap.objs.size (·.push .none) >>= λ_=>updateSeq s.heap.objs.size (·.pop)) _ _ _
 have J:(#[]:Array Value).size<=sizeLine:=Bm _;have p:((#[]:Array Value).push Value.none).size<=sizeLine:=by show 1<=sizeLine;decide
 have H:((#[]:Array Value).push Value.none).size<=sizeLine+1:=Lr p;have G:(((#[]:Array Value).push Value.none).pop).size<=sizeLine+1:=Bm _;have t:=kp _ _ U;subst x;refine dP (ZAW (s:={ s with heap:=h2,drawn:=d }) t rfl ?_ J H)
 have q:=II (Obj.mapSeq (·.push Value.none)) t rfl
 refine ZAW q rfl ?_ p G;have M:=II (Obj.mapSeq (·.pop)) q rfl
 have v:∀b o,b≠s.heap.objs.size->h2.get? b=some o->((h2.update s.heap.objs.size (Obj.mapSeq (·.push Value.none))).update s.heap.objs.size (Obj.mapSeq (·.pop))).get? b=some o:=
  λb o a e=>(KL _ _ (Bh a)).trans ((KL _ _ (Bh a)).trans e)
 refine k4 ⟨ZA2 ZD1 _,codeAny_extend_loopS (W A.in1 hh).toS O _ C _ n 0 _ #[] _ rfl (Bm _) ?_ M (ItemsOf.nil _) λs' Ik c' g DV BB=>?_⟩
 .exact(W A.in1 hh).frame 0 h2 _ Kd λb a o e=>v b o (λz=>C (z▸a)) e
 .show wpAny _ A (load s.heap.objs.size >>= _) _ _ s';refine dP (ZAo DV ?_);have T:Ik.toList=vs:=by
   have N:vs.length=n:=(IntsAre.len Kc).trans tl;refine PN λi=>?_
   by_cases hi:i<n
   .have h1:Ik[i]?=some (Ik[i]'(by rw[BB.1];exact hi)):=IG _;rw[Lm,h1];exact(BB.2 i _ h1).symm
   .rw[KP (by rw[C9,BB.1];omega),KP (by omega)]
  refine k4 ?_;rw[<- T]at Kc;refine h s' Ik.toList c (λb o e=>?_) (Gu (AU DV)) g.gens g.os Kc tl L;have a:b<s.heap.objs.size:=AU e;refine g.heap b o ?_ (v b o (An a) (kp b o (Aj _ e)));simp only[CK,BH,su,ZBV];refine⟨An a,?_⟩;have V:s.heap.objs.size+1<=I:=by rw[<- sz];exact R
  exact An (CS a (ZCr V))
end L2
set_option maxHeartbeats 200000
namespace L2
section
variable{prog:Program}{w:World}{A:Around}{E:Value->Shared->Prop}{s:Shared}
theorem MG{v:Value}{Q:Bool->Shared->Prop}(a:s.TypeIs v "set")(h:Q true s):wpAny (model prog w) A (Builtin.Frozenset.isAnySet v) Q E s:=by
 unfold Builtin.Frozenset.isAnySet;refine dP (uh (b:=true) a (by rw[wB];kernel_rfl) ?_);exact k4 h
theorem ic{a:Addr}{o:Obj}{es:Array (Int×Value)}{ep:Nat}{t:SetTable}{Q:Array (Int×Value)->Shared->Prop}(ho:s.heap.get? a=some o)(hd:o.data=.set es ep t)(c:t.fits es.size=true)(C3:t.led=!BV w)(GP:BV w=false->(!t.plain && decide (es.size > 1))=false)
  (h:∀BJ:Array (Int×Value),BJ.toList.Perm es.toList->Q BJ s):wpAny (model prog w) A (setWalk a) Q E s:=by
 unfold setWalk setsByText;refine dP (qJ ho hd c ?_);dsimp only;refine dP (dP (rB (k4 ?_)));show wpAny _ _ (if BV w=true then _ else _) _ _ _
 cases b:BV w with
 |true=>
  rw[p7 rfl];exact dP (rB (k4 (h _ (NS _ _))))
 |false=>
  rw[mD (by decide)];show wpAny _ _ (if(!t.plain && decide (es.size > 1))=true then _ else _) _ _ _
  rw[mD (by rw[GP b];decide)];refine dP (m:=_) ?_
  wp_delta
  rw[C3,b];exact k4 (k4 (h es (Gq _)))
theorem ZBP:entryFor table "set.__sub__"=some Builtin.«frozenset.__sub__»:=
 ZB1 (id' := "frozenset.__sub__") (by kernel_rfl) (by first|rfl|decide +kernel|(unfold String.splitOn;simp +decide [String.splitOnAux])) (by decide +kernel) (by kernel_rfl)
end
end L2
set_option maxHeartbeats 4000000
namespace L2
variable{prog:Program}{w:World}{ss:List Int}{i n nl:Nat}{I l:Addr}{E Q:Value->Shared->Prop}{X:Cx}
theorem isInt_self(k:Int)(t:Tok):(PySem.intKind prog w).is k (.int k t)=true:=by simp[PySem.intKind,Value.isInt]
theorem ZAV(b:Bool):Ce (SetTable.fresh 0 0 b).place:=List.Pairwise.nil
theorem cy{A3:List Value}(r:Vals (ss.map V.int) A3){v:Value}(e:A3[i]?=some v):∃(h:i<ss.length)(t:Tok),v=.int ss[i] t:=by
 have d:=r.length;rw[AA]at d;have hi:i<A3.length:=(List.getElem?_eq_some_iff.mp e).1;have b:i<ss.length:=by omega
 have e1:(ss.map V.int)[i]?=some (.int ss[i]):=by rw[AS,AQ b];rfl
 obtain⟨u,a,c⟩:=r.get e1;rw[e]at a;cases a;obtain⟨t,q⟩:=c;exact⟨b,t,q⟩
section
variable{A:Around}{R:Result->Shared->Prop}{fp wr:List Addr}{G:Array GenState->Array GenState->Prop}{P:Nat->Value->Prop}{St:Nat->Shared->Prop}
theorem uJ(W:WalksS prog w A.in1 I fp wr G ss.length P St)(S:Addr)(FC:S∉fp)(L7:∀i v,P i v->∃(h:i<ss.length)(t:Tok),v=.int ss[i] t)(a:ss.length+1<scanBound):
  ∀(k i:Nat)(s:Shared),ss.length - i=k->i<=ss.length->St i s->D6 prog w s.heap S (λk'=>(CP (ss.take i)).any (· == k')) (CP (ss.take i)).length->
   (∀s',Moved (S::wr) G s s'->D6 prog w s'.heap S (λk'=>(CP ss).any (· == k')) (CP ss).length->R (.ok (.ret .none)) s')->
   codeAny (model prog w) A (.builtin "set.update.loop" ⟨[.ref S,.ref I],[]⟩) R s:=by
 have r:S∉wr:=λh=>FC (W.sub _ h);have j:∀{s s':Shared}{f:Int->Bool}{m:Nat},Moved wr G s s'->D6 prog w s.heap S f m->D6 prog w s'.heap S f m:=λc d=>d.keep λo ho=>c.heap S _ r ho;intro k
 induction k with
 |zero=>
  intro i s hk hi Ef d fin;have e:i=ss.length:=by omega
  subst e;refine rQ Yp ?_;rw[KJ Ph _];show wpAny _ A.in1 (pyNext (.ref I) >>= _) _ _ s;refine dP (W.done s _ _ Ef λs' c=>?_);show wpAny _ A.in1 (ret Value.none) _ _ s';rw[Ei]at d;exact k4 (fin s' (c.mono λb a=>BG _ a) (j c d))
 |succ k l=>
  intro i s hk hi Ef d fin;have g:i<ss.length:=by omega
  refine rQ Yp ?_;rw[KJ Ph _];show wpAny _ A.in1 (pyNext (.ref I) >>= _) _ _ s;refine dP (W.item i s _ _ g Ef λv s' n XS c=>?_);obtain⟨_,t,rfl⟩:=L7 i v n;have x:=j c d;show wpAny _ A.in1 (holding [Value.int ss[i] t] (setAdd S (.int ss[i] t)) >>= _) _ _ s';refine dP (qY ?_);unfold setAdd;have q:(PySem.intKind prog w).is ss[i] (.int ss[i] t)=true:=isInt_self ss[i] t;refine qY (dP ((PySem.intKind prog w).pyHash q ?_));have u:(CP (ss.take i)).length+1<scanBound:=by
   have:=iA (ss.take i);rw[Cj]at this;omega
  refine D6.put (k:=ss[i]) (s:={ s' with toks:=s'.toks+1 }) x u λh' HE Ig=>?_
  have p:D6 prog w h' S (λk'=>(CP (ss.take (i+1))).any (· == k')) (CP (ss.take (i+1))).length:=
   Ig.congr (λk'=>by rw[Zm ss i g,yO]) (by rw[Zm ss i g,gh])
  refine k4 ⟨ZA2 Ph _,l (i+1) _ (by omega) g (W.frame _ s' _ _ XS (DH _) λb a o e=>?_) p λJM W5 VS=>?_⟩
  .rw[HE.2 b (by rintro rfl;exact FC a)];exact e
  .refine fin JM (Moved.trans W.gtrans ((c.mono λb a=>BG _ a).then_heap (DH _) λb o a e=>?_) W5) VS;rw[HE.2 b (by rintro rfl;exact a Ar)];exact e
variable{s:Shared}
theorem i3{T:String}{items:Array Value}{q:Option Addr}{Em:Array (Option Value)}(ho:s.heap.get? l=some { cls:=.type T,dict:=q,data:=.seq items nl,slots:=Em })
  (kl:isSubtype (.type T) (.type "set")=pure false) (Cz:isSubtype (.type T) (.type "frozenset")=pure false) (Af:(Value.type T == Value.type "dict")=false) (hb:ss.length+1<scanBound)
  (hit:∀(s1:Shared)(A1:Around)(Q1:Value->Shared->Prop),A1.handled=A.handled->s1.heap.get? l=s.heap.get? l->l<s1.heap.objs.size->
   (∀f St P,WalksS prog w A1.in1 s1.heap.objs.size [s1.heap.objs.size,l] [s1.heap.objs.size] (λa b=>b=a) ss.length P St->(∀i v,P i v->∃(h:i<ss.length)(t:Tok),v=.int ss[i] t)->St 0 { s1 with heap:=s1.heap.push f }->Q1 (.ref s1.heap.objs.size) { s1 with heap:=s1.heap.push f })->
   wpAny (model prog w) A1 (pyIter (.ref l)) Q1 E s1)
  (h:∀(h':Heap)(tk:Nat),D6 prog w h' s.heap.objs.size (λk'=>(CP ss).any (· == k')) (CP ss).length->(∀b o,b<s.heap.objs.size->s.heap.get? b=some o->h'.get? b=some o)->Q (.ref s.heap.objs.size) { s with heap:=h',toks:=tk }) :
  wpAny (model prog w) A (call (.type "set") [.ref l]) Q E s:=by
 have x:l<s.heap.objs.size:=AU ho;obtain⟨c,tl,N⟩:=PySem.F.called_set.mro;have O:=PySem.F.called_set.made;have V:=PySem.F.called_set.sub;refine wpAny_call (ZBd (by
  show wpAny _ _ (callAny (.type "set") _) _ _ _;refine k4 ⟨jD _ (by decide +kernel),rQ ZD0 ?_⟩;rw[Around.under_plain (weight_type_call_type "set" [.ref l] []) rfl];have h1:=PySem.F.called_set.notType;have h2:=PySem.F.called_set.canCreate;have C:=ZD6 (.ref l)
  repeat (any_goals (first|assumption|wp_step))
  refine zN (cq (.ref l) (E:=E) (Q₁:=λobj s₁=>obj=.ref s.heap.objs.size/\s₁={ s with heap:=s.heap.push { cls:=.type "set", dict:=none,data:=.set #[] 0 (.fresh 0 0 (!BV w)) } }) ⟨rfl,rfl⟩) λr s₁ j=>?_
  cases r with
  |error e=>exact j
  |ok G=>
   cases G with
   |ret obj=>
    obtain⟨rfl,rfl⟩:=j;generalize n:({ cls:=.type "set", dict:=none,data:=.set #[] 0 (.fresh 0 0 (!BV w)) }:Obj)=so;have hsz:(s.heap.push so).objs.size=s.heap.objs.size+1:=C2 ..;have u:(s.heap.push so).get? s.heap.objs.size=some so:=B1 _ (by rw[<- n];rfl);have D:Shared.TypeIs { s with heap:=s.heap.push so } (.ref s.heap.objs.size) "set" := ⟨_,u,by rw[<- n]⟩
    have U:=PySem.F.called_set.init.lookup;have S:=PySem.F.called_set.init.bind (.ref s.heap.objs.size)
    repeat (any_goals (first|assumption|wp_step))
    refine zN (codeAny_call_builtin (R:=wants (λr p=>r=.none/\∃h' tk,p={ s with heap:=h',toks:=tk }/\D6 prog w h' s.heap.objs.size (λk'=>(CP ss).any (· == k')) (CP ss).length/\
      (∀b o,b<s.heap.objs.size->s.heap.get? b=some o->h'.get? b=some o)) E) PySem.F.called_set.init.plain ZCz (check_set_init_1 D ?_)) λy p d=>?_
    .have M:(s.heap.push so).get? l=some { cls:=.type T,dict:=q,data:=.seq items nl,slots:=Em }:=Aj _ ho;subst n;unfold Builtin.«set.__init__» noKeywords Builtin.Frozenset.updateFrom;generalize K:pyIter=PI
     wp_walk
     subst K;refine hit { s with heap:=s.heap.push _ } _ _ rfl (M.trans ho.symm) (ZCs (Ej x) hsz.symm) λf St P W L7 Kd=>?_
     refine dP (ZAE ?_);have L:s.heap.objs.size∉[(s.heap.push { cls:=.type "set", dict:=none,data:=.set #[] 0 (.fresh 0 0 (!BV w)) }).objs.size,l]:=by
      rw[hsz];simp only[CK,BH,su,ZBV];exact⟨An (IL _),DQ x⟩
     refine uJ W s.heap.objs.size L L7 hb (ss.length - 0) 0 _ rfl (Bm _) Kd ?_ ?_
     .have z:=Aj f u;exact⟨_,#[],0,_,z,⟨rfl,rfl,rfl⟩,rfl,λe B=>by simp at B,λk=>by simp[CP],by decide,by rfl,rfl,rfl,ZAV _⟩
     .intro s' g DV;obtain⟨h',g',d',Wu,Nt⟩:=s';have I:g'=s.gens:=g.gens;have J:d'=s.drawn:=g.drawn;have H:Nt=s.os:=g.os;subst I;subst J;subst H;show wpAny _ _ _ _ _ _;refine k4 ?_;show wpAny _ _ (ret Value.none) _ _ _;refine k4 ⟨rfl,h',Wu,rfl,DV,λb o Bd e=>?_⟩;refine g.heap b o ?_ (Aj _ (Aj _ e));rw[hsz];simp only[CK,BH,su,ZBV];exact⟨An Bd,An (Ej Bd)⟩
    .cases y with
     |error e=>exact d
     |ok m=>
      cases m with
      |ret r=>
       obtain⟨rfl,h',tk,rfl,DV,IC⟩:=d
       repeat (any_goals (first|assumption|wp_step))
       exact h _ _ DV IC
      |_=>exact d.elim
   |_=>exact j.elim))
end
noncomputable def OR(P:Program)(w:World)(a:Addr)(f:Int->Bool)(n:Nat):HO:=.ext λh=>D6 P w h a f n
theorem nB(t:X.calm=true):Bk X (.type "set") (λxs H Q=>∃(p:Addr)(tp:Bool)(ss:List Int),xs=[.ref p]/\C1 X.K tp H p (ss.map V.int)/\ss.length<4000/\
  ∀l,H l=none->Q (.ref l) (upd H l (OR X.prog X.w l (λk'=>(CP ss).any (· == k')) (CP ss).length))):=by
 intro Zd s Z H xs us Q I r h;obtain⟨p,tp,ss,rfl,m,B,q⟩:=h;obtain⟨u,rfl,z⟩:=vals1 r;cases z;have x:ss.length+1<scanBound:=by unfold scanBound;omega
 have fin:∀(h':Heap)(tk:Nat),D6 X.prog X.w h' s.heap.objs.size (λk'=>(CP ss).any (· == k')) (CP ss).length->(∀b o,b<s.heap.objs.size->s.heap.get? b=some o->h'.get? b=some o)->
   EP X Zd Z Q (.ref s.heap.objs.size) { s with heap:=h',toks:=tk }:=λh' tk y kp=>by
  refine⟨.ref s.heap.objs.size,_,I.laid (t':=tk) (λb o e=>kp b o (AU e) e) (Aa _) (show Bx X.prog X.w _ h' _ (OR X.prog X.w s.heap.objs.size _ _)from⟨y,?_,λh1 h2 EW GA=>?_⟩),rfl,q _ (I.AG.fresh (Aa _))⟩
  .obtain⟨o,_,_,_,ho,_⟩:=y;exact⟨o,ho⟩
  .exact EW.keep GA
 cases tp with
 |false=>
  obtain⟨A3,a,pl,Li⟩:=I.list m;have f:=a.length;rw[AA]at f;obtain⟨⟨c,d,dt,sl⟩,n,ho,Bn,hd,Fh⟩:=id pl;simp only at Bn hd Fh;subst Bn;subst hd;subst Fh;refine i3 ho ZD5 ZD4 (by decide) x (λs1 A1 Q1 j e1 l1 LY=>?_) fin;have g:s1.heap.IsList p A3.toArray:=⟨_,e1.trans ho,rfl,n,rfl⟩;have k:A3.toArray.size=ss.length:=List.size_toArray.trans f.symm;refine z9 g (LY _ (λi s=>s.heap.IsListIter s1.heap.objs.size p i/\s.heap.IsList p A3.toArray) (λi v=>A3.toArray[i]?=some v) (by
   have W:=(Yr (prog:=X.prog) (w:=X.w) (A:=A1.in1) (by rw[PJ,j];exact I.ok.hd t) s1.heap.objs.size p (An l1) A3.toArray).toS;rw[k]at W;exact W) (λi v e=>cy a (by simpa using e)) ⟨⟨_,B1 _ rfl,rfl,rfl⟩,g.push _⟩)
 |true=>
  obtain⟨A3,a,pl,Li⟩:=I.tuple m;have f:=a.length;rw[AA]at f;obtain⟨⟨c,d,dt,sl⟩,ho,Bn,n,Fh⟩:=id pl;simp only at Bn Fh;subst Bn;subst Fh;refine i3 ho sub_tuple_set sub_tuple_frozenset (by decide) x (λs1 A1 Q1 j e1 l1 LY=>?_) fin;have g:s1.heap.IsTuple p A3.toArray:=⟨_,e1.trans ho,rfl,n,rfl⟩;have k:A3.toArray.size=ss.length:=List.size_toArray.trans f.symm;refine xY g (LY _ (λi s=>s.heap.IsTupleIter s1.heap.objs.size p i/\s.heap.IsTuple p A3.toArray) (λi v=>A3.toArray[i]?=some v) (by
   have W:=(Walks.tuple (prog:=X.prog) (w:=X.w) (A:=A1.in1) (by rw[PJ,j];exact I.ok.hd t) s1.heap.objs.size p (An l1) A3.toArray).toS;rw[k]at W;exact W) (λi v e=>cy a (by simpa using e)) ⟨⟨_,B1 _ rfl,rfl,rfl⟩,?_⟩)
  exact⟨_,Aj _ (e1.trans ho),rfl,n,rfl⟩
def gX(P:Program)(w:World):List V->Hp->VK->Prop:=λxs H Q=>∃(p:Addr)(f:Int->Bool)(n:Nat),xs=[.ref p]/\H p=some (OR P w p f n)/\n<64/\∀(l:Addr)(a:List Int),H l=none->a.length=n->(∀k,f k=true↔k∈a)->a.Pairwise (·<=·)->Q (.ref l) (upd H l (.lst (a.map V.int)))
theorem rO(z:X.calm=true):Bk X (.builtin "sorted") (gX X.prog X.w):=by
 intro Zd s Z H xs us Q I r h;obtain⟨p,f,n,rfl,C,By,q⟩:=h;obtain⟨u,rfl,t⟩:=vals1 r;cases t;have B:D6 X.prog X.w s.heap p f n:=(I.AG p _ C).1;have hh:X.A.handled=none:=I.ok.hd z;refine eX (Pc:=λvs s1=>∃a,(∀b o,s.heap.get? b=some o->s1.heap.get? b=some o)/\s.heap.objs.size<=s1.heap.objs.size/\s1.gens=s.gens/\s1.os=s.os/\IntsAre vs a/\a.length=n/\(∀k,f k=true↔k∈a)) (λA1 E1 Q1 D k=>?_) ?_
 .exact oG (D.trans hh) B (CL (Gu By) (by decide +kernel)) λs' vs a a1 a2 m j d c i=>k vs s' ⟨a,a1,a2,m,j,d,c,i⟩
 .rintro vs s1⟨a,a1,a2,m,j,d,c,i⟩;refine⟨by rw[IntsAre.len d,c];exact By,a,d,λout A6 e h' kp y DV g v=>?_⟩;exact ZC I m j a1 a2 kp y DV (by rw[g.length_eq,c];exact By) λl x=>q l A6 x (g.length_eq.trans c) (λk=>(i k).trans g.mem_iff.symm) v
def ig(K:ZDv)(P:PySem.Program)(w:PySem.World):List V->Hp->VK->Prop:=λxs H Q=>∃(p:PySem.Addr)(tp:Bool)(ss:List Int),xs=[.ref p]/\C1 K tp H p (ss.map V.int)/\ss.length<4000/\
  ∀l,H l=none->Q (.ref l) (upd H l (OR P w l (λk'=>(CP ss).any (· == k')) (CP ss).length))
theorem uW(a:X.calm=true):Bk X (.type "set") (ig X.K X.prog X.w):=nB a
theorem WB(ss:List Int):(CP ss).Nodup/\∀k,k∈CP ss↔k∈ss:=by
 have:∀(l acc:List Int),acc.Nodup->(l.foldl Fj acc).Nodup/\∀k,k∈l.foldl Fj acc↔k∈acc∨k∈l:=by
  intro l
  induction l with
  |nil=>intro acc h;exact⟨h,λk=>by simp⟩
  |cons x r f=>
   intro acc h;rw[N4];have h1:(Fj acc x).Nodup/\∀k,k∈Fj acc x↔k∈acc∨k=x:=by
    unfold Fj
    by_cases hx:acc.any (· == x)=true
    .rw[p7 hx];have c:x∈acc:=by simpa using hx
     exact⟨h,λk=>⟨.inl,λz=>z.elim id λe=>e▸c⟩⟩
    .rw[mD hx];have c:x∉acc:=by simpa using hx
     refine⟨?_,λk=>by simp⟩;rw[FJ];exact⟨h,List.nodup_cons.mpr ⟨by simp,Hh⟩,λa g b d=>by
      rw[KS]at d;subst d;exact λe=>c (e▸g)⟩
   obtain⟨a,b⟩:=f _ h1.1;refine⟨a,λk=>?_⟩;rw[b k,h1.2 k,CK];exact⟨λz=>z.elim (λz=>z.elim .inl λe=>.inr (.inl e)) λz=>.inr (.inr z),λz=>z.elim (λz=>.inl (.inl z)) λz=>z.elim (λe=>.inl (.inr e)) .inr⟩
 obtain⟨a,b⟩:=this ss [] Hh;exact⟨a,λk=>by rw[CP,b k];simp⟩
end L2
namespace Fz
open L2 Lw
theorem pJ(ns:List Int)(k:Int):(CP ns).any (· == k)=true↔k∈ns:=by
 rw[<- (WB ns).2 k];simp
theorem sub_len{l:List Int}:∀{m:List Int},l.Nodup->(∀k∈l,k∈m)->l.length<=m.length:=by
 induction l with
 |nil=>intro m _ _;exact Bm _
 |cons x r b=>
  intro m c a;obtain⟨h1,h2⟩:=List.nodup_cons.mp c;have hx:=a x Ar;have:=b (m:=m.erase x) h2 λk hk=>(PX (λe:k=x=>h1 (e▸hk))).mpr (a k (BG _ hk));rw[KQ hx]at this;have:=T6 hx;rw[Az];omega
theorem sE{l m:List Int}(b:l.Nodup)(c:∀k∈l,k∈m)(a:m.length<=l.length):m.Nodup:=by
 have key:∀(n:Nat)(l m:List Int),m.length=n->l.Nodup->(∀k∈l,k∈m)->m.length<=l.length->m.Nodup:=by
  intro n
  induction n with
  |zero=>intro l m e _ _ _;rw[List.length_eq_zero_iff.mp e];exact Hh
  |succ n f=>
   intro l m e b c a;cases m with
   |nil=>exact Hh
   |cons x r=>
    by_cases hx:x∈r
    .have:∀k∈l,k∈r:=λk hk=>(List.mem_cons.mp (c k hk)).elim (λe=>by rw[e];exact hx) id;have:=sub_len b this;rw[Az]at a;omega
    .refine List.nodup_cons.mpr ⟨hx,f (l.erase x) r (by rw[Az]at e;omega) (b.erase x) (λk hk=>?_) ?_⟩
     .have g:=List.mem_of_mem_erase hk;rcases List.mem_cons.mp (c k g)with e1|e1
      .subst e1;exact absurd hk (List.Nodup.not_mem_erase b)
      .exact e1
     .by_cases d:x∈l
      .rw[KQ d];rw[Az]at a;omega
      .rw[List.erase_of_not_mem d];rw[Az]at a;omega
 exact key _ l m rfl b c a
section
variable[Xw]
variable{E:Ent0}{ss:List Slot}{Z:L2.St}{F H F' H':Hp}{K:ZDv}{js:List Nat}{ta tb tc te:TE}{nx:List Slot->Prop}{R:Ao}{xs ys:List PV}{P:Program}{w:World}
theorem yc{k:List PV->Prop}(h:Wq ss te λ_ xs=>∃ns:List Int,xs=ns.map PV.int/\ns.length<64/\∀c:List Int,c.Nodup->(∀x,x∈c↔x∈ns)->c.Pairwise (·<=·)->k (c.map PV.int)):
  Wn ss (CQ (gX P w) (Ae (CQ (ig K P w) (Ae te BK)) BK)) k:=⟨λE Z F H Q S q=>
 h.go E Z F H _ S λv tp xs F1 H1 d sv AX=>by
  obtain⟨ns,e,m,kk⟩:=AX;subst e;obtain⟨l,vs,rfl,g,r⟩:=sv.seq d.st;rw[r.ints]at g;refine⟨l,tp,ns,rfl,CF.sq g,by omega,λa p=>?_⟩;have m2:=d.st.make p (OR P w a (λk'=>(CP ns).any (· == k')) (CP ns).length)
  refine⟨a,_,_,rfl,AZ,IK (iA ns) m,λb c f Bl o n=>?_⟩;have j:=m2.st.make f (.lst (c.map V.int));have i:∀x,x∈c↔x∈ns:=λx=>(o x).symm.trans (pJ ns x);refine q b _ _ F1 _ (d.trans (m2.trans j)) (m2.st.Bo f) ((d.trans m2).none f) AZ (by rw[<- So];exact Np (Sf c)) (kk c (sE (WB ns).1 (λx hx=>(i x).mpr (((WB ns).2 x).mp hx)) (KU Bl)) i n)⟩
variable{k:PV->Prop}
end
end Fz
namespace Fz
open L2 Lw
variable{neg tp:Bool}{ps xs:List PV}{js:List Nat}
section
variable[Xw]
variable{E:Ent0}{ss:List Slot}{Z:L2.St}{F H F' H':Hp}{K:ZDv}{ta tb tc te:TE}{k:PV->Prop}{v:V}{nx:List Slot->Prop}{R:Ao}
theorem lq(xs ys:List Int):FE (xs.map V.int) (ys.map V.int)=decide (xs=ys):=by
 by_cases a:xs.length=ys.length
 .rw[K5 (by simpa using a)]
  cases c:(List.range (xs.map V.int).length).all λj=>E6 ((xs.map V.int).getD j .A9) ((ys.map V.int).getD j .A9)with
  |false=>
   symm;rw[ZAD];rintro rfl;rw[<- Bool.not_eq_true]at c;apply c;rw[Gr];intro j d;have f:j<xs.length:=by simpa using List.mem_range.mp d
   have e1:(xs.map V.int)[j]?=some (.int xs[j]):=by rw[AS,AQ f];rfl
   rw[Hc e1];show(xs[j] == xs[j])=true;simp
  |true=>
   symm;rw[xt];apply T4 a;intro j h1 h2;have q:=List.all_eq_true.mp c j (List.mem_range.mpr (by simpa using h1))
   have e1:(xs.map V.int)[j]?=some (.int xs[j]):=by rw[AS,AQ h1];rfl
   have e:(ys.map V.int)[j]?=some (.int ys[j]):=by rw[AS,AQ h2];rfl
   rw[Hc e1,Hc e]at q;have b:(xs[j] == ys[j])=true:=q
   simpa using b
 .rw[Jx (by simpa using a),oO]
  rintro rfl;exact a rfl
theorem ZY(ns:List Int):(ns.map V.int).all ER=true:=by
 rw[Gr];intro x hx;obtain⟨y,_,rfl⟩:=List.mem_map.mp hx;rfl
theorem ZAF(h:Wq ss ta λtp xs=>∃ns:List Int,xs=ns.map PV.int/\Wq ss tb λBC ys=>BC=tp/\∃ms:List Int,ys=ms.map PV.int/\k (.bl (if neg then !decide (ns=ms)else decide (ns=ms)))):Wp ss (Au (Ir K neg) ta tb) k:=⟨λE Z F H Q S q=>
 h.go E Z F H _ S λv tp xs F1 H1 a sv⟨ns,e1,h2⟩=>h2.go E Z F1 H1 _ a.st λv2 BC ys F2 H2 m2 GC⟨d,ms,e,kk⟩=>by
  subst e1;subst e;subst d;obtain⟨l,vs,rfl,b,r⟩:=(sv.mv m2).seq m2.st;obtain⟨l2,Ez,rfl,Bl,c⟩:=GC.seq m2.st;rw[r.ints]at b;rw[c.ints]at Bl;refine⟨l,l2,ns.map V.int,ms.map V.int,rfl,rfl,?_,ZY _,ZY _,?_⟩
  .cases BC
   .exact .inl ⟨AK.of b,AK.of Bl⟩
   .exact .inr ⟨Al.of b,Al.of Bl⟩
  .rw[lq];cases neg
   .exact q _ _ F2 H2 (a.trans m2) (.bl _) kk
   .exact q _ _ F2 H2 (a.trans m2) (.bl _) kk⟩
theorem ly(h:Wq ss ta λtp xs=>∃ns:List Int,xs=ns.map PV.int/\Wq ss tb λBC ys=>BC=tp/\∃ms:List Int,ys=ms.map PV.int/\k (.bl (!decide (ns=ms)))):Wp ss (Au (Ir K true) ta tb) k:=ZAF h
theorem fw{i j:Nat}(h:js[i]?=some j):(B3 js Z)[i]?=some ((Z[j]?).join):=by
 unfold B3;rw[AS,h];rfl
theorem join_some{o:Option (Option V)}{a:Addr}(h:some o.join=some (some (V.ref a))):o=some (some (.ref a)):=by
 cases o with
 |none=>cases h
 |some q=>cases q with
  |none=>cases h
  |some v=>simpa using h
theorem Mv.Sk{vs:List V}(S:Sg E ss Z F H)(m:Mv E (C7 js ss++ps.map .is) (B3 js Z++vs.map some) F H F' H'):Mv E ss Z F H F' H':=by
 have g:(C7 js ss).length=js.length:=by simp[C7]
 have r:(B3 js Z).length=js.length:=by simp[B3]
 have k:∀(i:Nat)(a:Addr),(C7 js ss++ps.map .is)[i]?=some .AE->(B3 js Z++vs.map some)[i]?=some (some (.ref a))->∃j,js[i]?=some j/\ss[j]?=some .AE/\Z[j]?=some (some (.ref a)):=λi a hi f=>by
  by_cases h:i<js.length
  .rw[Dk (by rw[g];exact h)]at hi;rw[Dk (by rw[r];exact h)]at f;have d:=AQ h;have q:=aC d hi;rw[fw d]at f;refine⟨js[i],d,?_,join_some f⟩;cases w:ss[js[i]]? with
   |none=>rw[w]at q;cases q
   |some u=>rw[w]at q;cases q;rfl
  .rw[Fe (by omega),AS]at hi;cases w:ps[i - (C7 js ss).length]? with
   |none=>rw[w]at hi;cases hi
   |some p=>rw[w]at hi;cases hi
 refine S.step m.ff m.st.fh (λa o n e=>m.hh a o (λi hi f=>?_) e) m.nn λi l hi e=>?_
 .obtain⟨j,_,h1,h2⟩:=k i a hi f;exact n j h1 h2
 .by_cases c:∃b:Nat,js[b]?=some i
  .obtain⟨b,c⟩:=c;have lt:b < js.length:=(List.getElem?_eq_some_iff.mp c).1;refine m.st.Fp (i:=b) ?_ ?_
   .rw[Dk (by rw[g];exact lt)];unfold C7;rw[AS,c];show some ((ss[i]?).getD .any)=_;rw[hi];rfl
   .rw[Dk (by rw[r];exact lt),fw c,e];rfl
  .refine Bq.keep (S.Fp hi e) λo v=>m.hh l o (λb CZ s=>?_) v;obtain⟨j,t,h1,h2⟩:=k b l CZ s;have d:j≠i:=by rintro rfl;exact c ⟨b,t⟩
   exact S.Bv j i _ _ l d h1 hi h2 e
theorem lD{wi:TI}{tt:TT}{k:List PV->Prop}(P:PV->PV->Prop)
  (h:Wi ss wi λxs=>xs.length<=100000/\(∀x∈xs,Wt (C7 js ss++[.is x]) tt λb=>b=true)/\(∀x∈xs,Wp (C7 js ss++[.is x]) te (P x))/\∀ys:List PV,ys.length=xs.length->(∀(j:Nat)x y,xs[j]?=some x->ys[j]?=some y->P x y)->k ys)
  (nd:js.Nodup:=by decide):Wn ss (HP wi js tt te) k:=⟨λE Z F H Q S q=>
 h.go E Z F H _ S λJ xs F1 H1 d t⟨hz,U,V,kk⟩acc BB=>by
  have Ih:Cp ss Z acc:=d.st.Jn BB;have Lb:=d.st.Ee BB;have LQ:∀(i:Nat)s,ss[i]?=some s->¬ Bf s Z[i]? acc:=λi s hi=>d.st.Ku hi BB;refine⟨λi m H2=>m=xs.length - i/\i<=xs.length/\∃F2 vs ys,Mv E ss Z F1 H1 F2 H2/\F2 acc=none/\H2 acc=some (.lst vs)/\AJ F2 vs ys/\ys.length=i/\∀(j:Nat)x y,xs[j]?=some x->ys[j]?=some y->P x y,⟨_,rfl,Bm _,F1,[],[],d.st.make BB _,d.st.Bo BB,AZ,.nil,rfl,λj x y _ e=>by simp at e⟩,?_⟩;rintro i m H2⟨rfl,hi,F2,vs,ys,m2,K,A,u,Gk,I⟩
  by_cases C:i<xs.length
  .refine .inr ⟨t.go ss Z F2 H2 i m2.ff m2.st C,λx H3 y=>?_⟩;obtain⟨p,F3,G,v,D⟩:=t.Dy ss Z F2 H2 i x H3 m2.ff m2.st C y;have N:p∈xs:=Bc G;have JL:∀{F4:Hp},(∀a o,F4 a=some o->F2 a=some o∨H2 a=none)->F4 acc=none:=λ{F4}n=>by
    cases e:F4 acc with
    |none=>rfl
    |some o=>
     rcases n acc o e with w|w
     .rw[K]at w;cases w
     .rw[A]at w;cases w
   have σ:=v.st.A8 (js:=js) nd (.one D);refine(U p N).go E _ F3 H3 _ σ λb F4 H4 T f=>?_;have L:=T.Sk (ps:=[p]) (vs:=[x]) v.st;have B:=v.trans L;show if b=true then _ else _
   rw[f,p7 rfl];have Y:=B.st.A8 (js:=js) nd (.one (D.mono L.ff));refine(V p N).go E _ F4 H4 _ Y λw O F5 H5 R IS W=>?_;have LB:=R.Sk (ps:=[p]) (vs:=[x]) B.st;have l:=B.trans LB;have Lf:=l.hh acc _ Ih A;have M:=JL l.nn;have g:vs.length<=99999:=by
    rw[u.length,Gk];omega
   refine⟨vs,Lf,LL g,xs.length - (i+1),by omega,rfl,C,F5,vs++[w],ys++[O],?_,M,AZ,(u.mono l.ff).append (.one IS),by simp[Gk],λj a b z f=>?_⟩
   .have r:=m2.trans l;refine⟨r.st.MJ M (.inl Lb) LQ,r.ff,λa o n e=>?_,r.nn⟩;rw[AY (Dx e BB)];exact r.hh a o n e
   .by_cases c:j<ys.length
    .rw[Dk c]at f;exact I j a b z f
    .have X:j=i:=by
      have:=(List.getElem?_eq_some_iff.mp f).1;rw[BF,T7]at this;omega
     subst X;rw[Fe (by omega),Gk,Pb]at f;rw[G]at z;cases z;cases f;exact W
  .have e:i=xs.length:=by omega
   subst e;exact .inl ⟨t.stop ss Z F2 H2 m2.ff m2.st,q acc vs _ F2 H2 (d.trans m2) K (d.none BB) A u (kk ys Gk I)⟩⟩
variable{i:Nat}{t:OV}
end
end Fz
namespace Fz
open L2 Lw
@[reducible] noncomputable def xwM (X:XK) (t:OV) (D:Ex->Prop):Xw:=⟨λ_=>X,λss=>ss[0]?=some (.ow true t),D⟩
variable{pre:Pre}
section
variable{P:Program}{w:World}{K:ZDv}{mg:ZDx}{Zl:Heap}{x qual:Str}{st:Stmt}{f:Addr}{fd:FuncData}{N ps:List Str}{k:Nat}
theorem fnF(F:AM K x qual st f fd)(S:B6 N ps (AO st))(a:∀ss R,pre ss R->ss.length=ps.length)
  (c:∀{Ak:Value}{A:Around}{outer:List Env}{s:Shared}{H:Hp}{E:XK},Bs k (A.deeper (envOfC qual (AO st) s.heap.objs.size f Ak))->
   ∃t,Fd (Gb Dr P w K mg Zl N qual (AO st) f Ak A outer s H E).HI (EJ st) t/\∀ss R,pre ss R->Ws (ss++List.replicate (N.length - ps.length) .any) t (λ_=>∃k,R=.is k/\k .A9) R):EF P w K mg Zl Dr (k+1) f fd ps (Ad pre):=
 F.El S (λvs H Q E h=>ee a h) λAk A outer s H vs Q E b h=>let ⟨t,q,r⟩:=c b;⟨t,q,bU h a r⟩
theorem oH(F:AM K x qual st f fd)(S:B6 N ps (AO st))(a:∀ss R,pre ss R->ss.length=ps.length)
  (c:∀{Ak:Value}{A:Around}{outer:List Env}{s:Shared}{H:Hp}{E:XK},Bs k (A.deeper (envOfC qual (AO st) s.heap.objs.size f Ak))->
   ∃t,Fd (Gb Dr P w K mg Zl N qual (AO st) f Ak A outer s H E).HI (EJ st) t/\∀ss R,pre ss R->Ws (ss++List.replicate (N.length - ps.length) .any) t (λ_=>False) R):EF P w K mg Zl Dr (k+1) f fd ps (Ey pre):=
 F.El S (λvs H Q E h=>y8 a h) λAk A outer s H vs Q E b h=>let ⟨t,q,r⟩:=c b;⟨t,q,ZC4 h a r⟩
theorem hF(F:AM K x qual st f fd)(b:∀(kV a c:Value)(g:Option Addr)(Ak ct:Value)(us:List Value),us.length=ps.length->bindArgs (PySem.W.fnOf x qual (K4 st) (EJ st) (AO st) .none kV a c g Ak ct) ⟨us,[]⟩=pure (ps.zip us))(m:mg x=some (.ref f))(S:B6 N ps (AO st))(d:∀ss R,pre ss R->ss.length=ps.length)
  (e:∀{Ak:Value}{A:Around}{outer:List Env}{s:Shared}{H:Hp}{E:XK},Bs k (A.deeper (envOfC qual (AO st) s.heap.objs.size f Ak))->
   ∃t,Fd (Gb Dr P w K mg Zl N qual (AO st) f Ak A outer s H E).HI (EJ st) t/\∀ss R,pre ss R->Ws (ss++List.replicate (N.length - ps.length) .any) t (λ_=>∃k,R=.is k/\k .A9) R):AF P w K mg Zl x (k+1) ps (Ad pre):=
 AF.mk F (F.binds b) m (fnF F S d e)
theorem hM(F:AM K x qual st f fd)(b:∀(kV a c:Value)(g:Option Addr)(Ak ct:Value)(us:List Value),us.length=ps.length->bindArgs (PySem.W.fnOf x qual (K4 st) (EJ st) (AO st) .none kV a c g Ak ct) ⟨us,[]⟩=pure (ps.zip us))(m:mg x=some (.ref f))(S:B6 N ps (AO st))(d:∀ss R,pre ss R->ss.length=ps.length)
  (e:∀{Ak:Value}{A:Around}{outer:List Env}{s:Shared}{H:Hp}{E:XK},Bs k (A.deeper (envOfC qual (AO st) s.heap.objs.size f Ak))->
   ∃t,Fd (Gb Dr P w K mg Zl N qual (AO st) f Ak A outer s H E).HI (EJ st) t/\∀ss R,pre ss R->Ws (ss++List.replicate (N.length - ps.length) .any) t (λ_=>False) R):AF P w K mg Zl x (k+1) ps (Ey pre):=
 AF.mk F (F.binds b) m (oH F S d e)
end
end Fz
namespace Kz
variable{u v w:Nat}{ab:Nat->List Nat}
abbrev Lo:=List (Option Nat)
noncomputable def lows(lo:Lo):List Nat:=lo.filterMap id
mutual
def fu(ab:Nat->List Nat):Nat->Nat->Lo->List Nat->Bool×Lo×List Nat
 | 0,_,lo,tr=>(false,lo,tr)
 |n+1,v,lo,tr=>CB ab n v (ab v) lo tr
def CB(ab:Nat->List Nat):Nat->Nat->List Nat->Lo->List Nat->Bool×Lo×List Nat
 |_,_,[],lo,tr=>(false,lo,tr)
 |n,v,u::r,lo,tr=>
  if u∈tr then CB ab n v r lo tr
  else match lo[u]?.join with
   |none=>(true,lo.set u (some v),tr++[u])
   |some w=>match fu ab n w lo (tr++[u])with
    | (true,BU,Bj)=>(true,BU.set u (some v),Bj)
    | (false,BU,Bj)=>CB ab n v r BU Bj
end
def AP(ab:Nat->List Nat)(lo:Lo):Nat->List Nat->Prop
 |_,[]=>False
 |v,[u]=>u∈ab v/\u<lo.length/\lo[u]?.join=none
 |v,u::u2::r=>u∈ab v/\∃w,lo[u]?.join=some w/\AP ab lo w (u2::r)
noncomputable def app(lo:Lo):Nat->List Nat->Lo
 |_,[]=>lo
 |v,u::r=>(app lo ((lo[u]?.join).getD 0) r).set u (some v)
theorem NX(lo:Lo):∀(v:Nat)(us:List Nat),(app lo v us).length=lo.length
 |_,[]=>rfl
 |v,u::r=>by unfold app;rw[Hg];exact NX lo _ r
theorem aZ{lo:Lo}{i:Nat}:∀{v:Nat}{us:List Nat},i∉us->(app lo v us)[i]?=lo[i]?
 |_,[],_=>rfl
 |v,u::r,h=>by
  unfold app;rw[Cr (λz=>h (by rw[z];exact Ar))];exact aZ λz=>h (BG _ z)
theorem join_some{lo:Lo}(h:lo[u]?.join=some w):lo[u]?=some (some w):=by
 cases e:lo[u]? with
 |none=>rw[e]at h;cases h
 |some o=>rw[e]at h;exact pZ some h
theorem GD{lo:Lo}:w∈lows lo↔∃u:Nat,lo[u]?=some (some w):=by
 unfold lows;rw[ZCh];constructor
 .rintro⟨o,ho,e⟩;obtain⟨u,a⟩:=List.mem_iff_getElem?.mp ho;exact⟨u,by rw[a,show o=some w from e]⟩
 .rintro⟨u,e⟩;exact⟨some w,Bc e,rfl⟩
theorem gf{lo:Lo}(h:u<lo.length):∃l r,lows lo=l++(lo[u]?.join).toList++r/\lows (lo.set u (some v))=l++v::r:=by
 refine⟨lows (lo.take u),lows (lo.drop (u+1)),?_,?_⟩
 .have e:lo=lo.take u++lo[u]::lo.drop (u+1):=by rw[<- T3 h,Ye]
  unfold lows
  conv=>lhs;rw[e,ZCU]
  rw[AQ h];cases q:lo[u]with
  |none=>simp
  |some w=>simp
 .rw[List.set_eq_take_append_cons_drop,p7 h];unfold lows;rw[ZCU];simp
theorem dw{ab:Nat->List Nat}{lo:Lo}:∀{v:Nat}{us:List Nat},AP ab lo v us->us.Nodup->(∀u∈us,u<lo.length)->(lows (app lo v us)).Perm (v::lows lo)
 |_,[],h,_,_=>h.elim
 |v,[u],h,_,_=>by
  obtain⟨l,r,e1,b⟩:=gf (v:=v) h.2.1;unfold app app;rw[b,e1,h.2.2]
  simpa using ZCl
 |v,u::u2::r,h,nd,lt=>by
  obtain⟨_,w,hw,h2⟩:=h;have e:=List.nodup_cons.mp nd;have d:=dw h2 e.2 (λx hx=>lt x (BG _ hx));unfold app;rw[hw];show(lows ((app lo w (u2::r)).set u (some v))).Perm (v::lows lo);obtain⟨l,c,e1,b⟩:=gf (lo:=app lo w (u2::r)) (u:=u) (v:=v) (by rw[NX];exact lt u Ar);rw[aZ e.1,hw]at e1;rw[e1]at d;rw[b];have p1:(w::(l++c)).Perm (w::lows lo):=by
   refine List.Perm.trans ?_ d
   simpa using(ZCl (a:=w) (l₁:=l) (l₂:=c)).symm
  exact List.perm_middle.trans (p1.cons_inv.cons v)
def Mc(ab:Nat->List Nat)(lo:Lo):Prop:=∀u w,lo[u]?=some (some w)->u∈ab w
theorem bq{ab:Nat->List Nat}{lo:Lo}(f:Mc ab lo):∀{v:Nat}{us:List Nat},AP ab lo v us->us.Nodup->Mc ab (app lo v us)
 |_,[],h,_=>h.elim
 |v,[u],h,_=>λu' w e=>by
  unfold app app at e
  by_cases z:u=u'
  .subst z;rw[DP h.2.1]at e;cases e;exact h.1
  .rw[Cr z]at e;exact f u' w e
 |v,u::u2::r,h,nd=>λu' a e=>by
  obtain⟨c,w,hw,h2⟩:=h;have d:=List.nodup_cons.mp nd;have b:=bq f h2 d.2;unfold app at e;rw[hw]at e
  by_cases z:u=u'
  .subst z;rw[DP (by rw[NX];exact(List.getElem?_eq_some_iff.mp (join_some hw)).1)]at e;cases e;exact c
  .rw[Cr z]at e;exact b u' a e
def Dg(ab:Nat->List Nat)(v:Nat)(lo:Lo):Prop:=∃σ:List Nat,(∀u∈ab v,u∈σ)/\∀z∈σ,∃w,lo[z]?=some (some w)/\∀u∈ab w,u∈σ
theorem Dg.no{ab:Nat->List Nat}{lo:Lo}{σ:List Nat}(cl:∀z∈σ,∃w,lo[z]?=some (some w)/\∀u∈ab w,u∈σ):∀{v:Nat}{us:List Nat},(∀u∈ab v,u∈σ)->¬ AP ab lo v us
 |_,[],_,h=>h
 |v,[u],hv,h=>by
  obtain⟨w,e,_⟩:=cl u (hv u h.1);have a:=h.2.2;rw[e]at a;cases a
 |v,u::u2::r,hv,h=>by
  obtain⟨b,w,hw,h2⟩:=h;obtain⟨d,e,c⟩:=cl u (hv u b);rw[join_some hw]at e;cases e;exact Dg.no cl c h2
theorem IU:∀{l1 l2:List Nat},l1.Nodup->(∀x∈l1,x∈l2)->l1.length<=l2.length
 | [],_,_,_=>Bm _
 |a::r,l2,nd,h=>by
  have b:=List.nodup_cons.mp nd;have c:=IU (l2:=l2.erase a) b.2 λx hx=>(PX (λz=>b.1 (by rw[<- z];exact hx))).mpr (h x (BG _ hx));rw[KQ (h a Ar)]at c;have:0<l2.length:=T6 (h a Ar);rw[Az];omega
theorem bY{lo:Lo}:(lows lo).Nodup->∀{u u' w:Nat},lo[u]?=some (some w)->lo[u']?=some (some w)->u=u':=by
 unfold lows
 induction lo with
 |nil=>intro _ u u' w e;cases e
 |cons o r b=>
  intro nd u u' w e a;have sub:∀{k x:Nat},r[k]?=some (some x)->x∈r.filterMap id:=λ{k x}e=>List.mem_filterMap.mpr ⟨some x,Bc e,rfl⟩;cases u with
  |zero=>
   cases u' with
   |zero=>rfl
   |succ u'=>
    cases(show some o=some (some w)from e);rw[ZCV (show id (some w)=some w from rfl)]at nd;exact absurd (sub (k:=u') a) (List.nodup_cons.mp nd).1
  |succ u=>
   cases u' with
   |zero=>
    cases(show some o=some (some w)from a);rw[ZCV (show id (some w)=some w from rfl)]at nd;exact absurd (sub (k:=u) e) (List.nodup_cons.mp nd).1
   |succ u'=>
    have c:(r.filterMap id).Nodup:=by
     cases o with
     |none=>simpa using nd
     |some x=>exact(List.nodup_cons.mp (by simpa using nd)).2
    rw[b c (u:=u) (u':=u') (w:=w) e a]
theorem Dg.GO{lo BU:Lo}(s:Dg ab v lo)(B:(lows lo).Nodup)(f:Mc ab BU)(keep:∀w∈lows lo,w∈lows BU):Dg ab v BU:=by
 obtain⟨Z0,F,Z1⟩:=s
 -- without ZDc
 let σ:=(List.range lo.length).filter λz=>decide (z∈Z0)
 have m:∀z,z∈σ↔z∈Z0:=λz=>by
  simp only[σ,YZ,TB,qO];refine⟨λh=>h.2,λh=>⟨?_,h⟩⟩;obtain⟨w,e,_⟩:=Z1 z h;exact(List.getElem?_eq_some_iff.mp e).1
 have A:σ.Nodup:=List.nodup_range.sublist List.filter_sublist;have cl:∀z∈σ,∃w,lo[z]?=some (some w)/\∀u∈ab w,u∈σ:=λz d=>by
  obtain⟨w,e,c⟩:=Z1 z ((m z).mp d);exact⟨w,e,λu n=>(m u).mpr (c u n)⟩
 -- each z's lower one ZDq in BU at a place of σ
 have mv:∀z∈σ,∃y∈σ,BU[y]?=lo[z]?:=λz d=>by
  obtain⟨w,e,c⟩:=cl z d;obtain⟨y,g⟩:=GD.mp (keep w (GD.mpr ⟨z,e⟩));exact⟨y,c y (f y w g),by rw[g,e]⟩
 have ex:∀l:List Nat,(∀z∈l,z∈σ)->l.Nodup->∃ys:List Nat,ys.length=l.length/\ys.Nodup/\∀y∈ys,y∈σ/\∃z∈l,BU[y]?=lo[z]?:=by
  intro l
  induction l with
  |nil=>intro _ _;exact⟨[],rfl,.nil,λy h=>by cases h⟩
  |cons z r C=>
   intro o nd;have t:=List.nodup_cons.mp nd;obtain⟨ys,e1,p,i⟩:=C (λx hx=>o x (BG _ hx)) t.2;obtain⟨y,D,g⟩:=mv z (o z Ar);refine⟨y::ys,by rw[Az,Az,e1],List.nodup_cons.mpr ⟨λE=>?_,p⟩,λx hx=>?_⟩
   .obtain⟨_,j,Li,q⟩:=i y E;obtain⟨w,k,_⟩:=cl z (o z Ar);rw[g,k]at q;have:=bY B k q.symm;exact t.1 (by rw[this];exact Li)
   .rcases List.mem_cons.mp hx with rfl|hx
    .exact⟨D,z,Ar,g⟩
    .obtain⟨a,j,b,c⟩:=i x hx;exact⟨a,j,BG _ b,c⟩
 obtain⟨ys,e1,p,i⟩:=ex σ (λ_ h=>h) A;have all:∀z∈σ,z∈ys:=λz d=>JN λno=>by
  have:=IU (l1:=z::ys) (l2:=σ) (List.nodup_cons.mpr ⟨no,p⟩) λx hx=>by
   rcases List.mem_cons.mp hx with rfl|hx
   .exact d
   .exact(i x hx).1
  rw[Az]at this;omega
 refine⟨σ,λu n=>(m u).mpr (F u n),λz d=>?_⟩;obtain⟨_,j,Li,e⟩:=i z (all z d);obtain⟨w,k,c⟩:=cl j Li;exact⟨w,by rw[e,k],c⟩
def Res(ab:Nat->List Nat)(lo:Lo)(v:Nat)(us tr:List Nat):Bool×Lo×List Nat->Prop
 | (true,BU,_)=>∃p,AP ab lo v p/\p.Nodup/\(∀u∈p,u∉tr/\u<lo.length)/\BU=app lo v p
 | (false,BU,Bj)=>BU=lo/\(∀z∈tr,z∈Bj)/\Bj.Nodup/\(∀z∈Bj,z<lo.length)/\tr.length<=Bj.length/\(∀u∈us,u∈Bj)/\∀z∈Bj,z∈tr∨∃w,lo[z]?=some (some w)/\∀u∈ab w,u∈Bj
theorem Mo{ab:Nat->List Nat}{lo:Lo}(Bw:∀v u,u∈ab v->u<lo.length):∀(n v:Nat)(tr:List Nat),tr.Nodup->(∀z∈tr,z<lo.length)->lo.length<n+tr.length->Res ab lo v (ab v) tr (fu ab n v lo tr)
 | 0,v,tr,nd,lt,i=>by
  have:=IU (l2:=List.range lo.length) nd λx hx=>List.mem_range.mpr (lt x hx);rw[Cc]at this;omega
 |n+1,v,tr,nd,lt,i=>by
  have go:∀(us tr:List Nat),(∀u∈us,u∈ab v)->tr.Nodup->(∀z∈tr,z<lo.length)->lo.length<n+1+tr.length->Res ab lo v us tr (CB ab n v us lo tr):=by
   intro us
   induction us with
   |nil=>
    intro tr _ nd lt i;rw[CB];exact⟨rfl,λz h=>h,nd,lt,Aa _,λu h=>(by cases h),λz h=>.inl h⟩
   |cons u r E=>
    intro tr sub nd lt i;have F:∀x∈r,x∈ab v:=λx hx=>sub x (BG _ hx);have s:=sub u Ar;have m:=Bw v u s;rw[CB]
    by_cases f:u∈tr
    .rw[p7 f];have q:=E tr F nd lt i;cases e:CB ab n v r lo tr with
     |mk b x=>
      rw[e]at q;cases b with
      |true=>exact q
      |false=>
       obtain⟨a1,a2,C,B,g,A,t⟩:=q;exact⟨a1,a2,C,B,g,λy d=>by
        rcases List.mem_cons.mp d with rfl|d
        .exact a2 _ f
        .exact A y d,t⟩
    .rw[mD f];have R:(tr++[u]).Nodup:=List.nodup_append.mpr ⟨nd,List.nodup_cons.mpr ⟨BH,.nil⟩,λa J b I=>by rw[List.mem_singleton.mp I];exact λz=>f (by rw[<- z];exact J)⟩;have Q:∀z∈tr++[u],z<lo.length:=λz c=>by
      rcases List.mem_append.mp c with c|c
      .exact lt z c
      .rw[List.mem_singleton.mp c];exact m
     cases j:lo[u]?.join with
     |none=>exact⟨[u],⟨s,m,j⟩,List.nodup_cons.mpr ⟨BH,.nil⟩,λx hx=>by rw[List.mem_singleton.mp hx];exact⟨f,m⟩,rfl⟩
     |some w=>
      have q:=Mo Bw n w (tr++[u]) R Q (by rw[BF];simp;omega);show Res ab lo v (u::r) tr (match fu ab n w lo (tr++[u])with
       | (true,BU,Bj)=>(true,BU.set u (some v),Bj)
       | (false,BU,Bj)=>CB ab n v r BU Bj)
      cases e:fu ab n w lo (tr++[u])with
      |mk b x=>
       obtain⟨BU,Bj⟩:=x;rw[e]at q;cases b with
       |true=>
        obtain⟨p,l,pn,pt,rfl⟩:=q;cases p with
        |nil=>exact l.elim
        |cons D p=>
         refine⟨u::D::p,⟨s,w,j,l⟩,List.nodup_cons.mpr ⟨λz=>(pt u z).1 (C5 _ Ar),pn⟩,λx hx=>?_,?_⟩
         .rcases List.mem_cons.mp hx with rfl|hx
          .exact⟨f,m⟩
          .exact⟨λz=>(pt x hx).1 (Dm _ z),(pt x hx).2⟩
         .show _=(app lo ((lo[u]?.join).getD 0) (D::p)).set u (some v);rw[j];rfl
       |false=>
        obtain⟨rfl,a2,C,B,g,A,t⟩:=q;have o:=E Bj F C B (by rw[BF]at g;simp at g;omega);show Res ab BU v (u::r) tr (CB ab n v r BU Bj);cases K:CB ab n v r BU Bj with
        |mk b x=>
         obtain⟨H,G⟩:=x;rw[K]at o;cases b with
         |true=>
          obtain⟨p,l,pn,pt,el⟩:=o;exact⟨p,l,pn,λx hx=>⟨λz=>(pt x hx).1 (a2 x (Dm _ z)),(pt x hx).2⟩,el⟩
         |false=>
          obtain⟨P,k,O,N,S,M,L⟩:=o;refine⟨P,λz c=>k z (a2 z (Dm _ c)),O,N,by rw[BF]at g;simp at g;omega,λy d=>?_,λz c=>?_⟩
          .rcases List.mem_cons.mp d with rfl|d
           .exact k _ (a2 _ (C5 _ Ar))
           .exact M y d
          .rcases L z c with c|c
           .rcases t z c with c|⟨w2,ew,hw⟩
            .rcases List.mem_append.mp c with c|c
             .exact .inl c
             .rw[List.mem_singleton.mp c];exact .inr ⟨w,join_some j,λy d=>k y (A y d)⟩
            .exact .inr ⟨w2,ew,λy d=>k y (hw y d)⟩
           .exact .inr c
  rw[fu];exact go (ab v) tr (λ_ h=>h) nd lt i
theorem step{lo:Lo}{n:Nat}(Bw:∀v u,u∈ab v->u<lo.length)(j:lo.length<n)(nd:(lows lo).Nodup)(f:Mc ab lo)(g:v∉lows lo):
  ∃b BU Bj,fu ab n v lo []=(b,BU,Bj)/\BU.length=lo.length/\(lows BU).Nodup/\Mc ab BU/\(v∈lows BU∨Dg ab v BU)/\(∀w∈lows BU,w=v∨w∈lows lo)/\∀w,(w∈lows lo∨Dg ab w lo)->w∈lows BU∨Dg ab w BU:=by
 have q:=Mo Bw n v [] .nil (λz h=>by cases h) (by simpa using j)
 cases e:fu ab n v lo []with
 |mk b x=>
  obtain⟨BU,Bj⟩:=x;rw[e]at q;refine⟨b,BU,Bj,rfl,?_⟩;cases b with
  |true=>
   obtain⟨p,c,pn,pt,rfl⟩:=q;have a:=dw c pn λu i=>(pt u i).2;have ff:=bq f c pn;have kp:∀w∈lows lo,w∈lows (app lo v p):=λw hw=>a.mem_iff.mpr (BG _ hw);refine⟨NX lo v p,a.nodup_iff.mpr (List.nodup_cons.mpr ⟨g,nd⟩),ff,.inl (a.mem_iff.mpr Ar),λw hw=>List.mem_cons.mp (a.mem_iff.mp hw),λw h=>h.imp (kp w) λs=>s.GO nd ff kp⟩
  |false=>
   obtain⟨rfl,_,_,_,_,l,k⟩:=q;exact⟨rfl,nd,f,.inr ⟨Bj,l,λz d=>(k z d).resolve_left (by simp)⟩,λw hw=>.inr hw,λw h=>h⟩
end Kz
namespace L2
variable{X:Cx}{Zd:ZDw}{Z:St}{H H2:Hp}{s s2 s₁:Shared}{T a c c' f it kS:Addr}{o:Obj}{NB kp pos px:Pos}{q qn x:Str}{keys ps:Array Value}{h' h1:Heap}{e1 i t':Nat}{params:Arguments}{body elt:Expr}{outer scope:Scope}{OA cl:List (Str×Addr)}{E Q:Value->Shared->Prop}{A:Around}{cd u:Value}{js:List Nat}{m:ZDx}{tb te:TE}{w:World}{A3 us vs:List Value}{kz ns:List Int}{W:Nat->List Int->Hp->Prop}{xs:List V}{ta:TA}{N loose:List Str}{ifs:List Expr}{tt:TT}
theorem Inv.MF(I:Inv X Zd Z H s)(h:s.heap.get? a=some o)(n:H a=none)(hL:a≠X.env.locals)(c:a∉X.fs)(d:∀v,o.data≠.cell v):Inv X ((a,o)::Zd) Z H s:=by
 refine⟨I.ok,I.os,I.bare,I.base,I.loc,I.cell,I.free,I.Fx,λp b=>?_,I.AG,I.len⟩;rcases List.mem_append.mp b with z|z
 .exact I.pin p (Dm _ z)
 .rcases List.mem_cons.mp z with rfl|z
  .exact⟨h,n,hL,c,d⟩
  .exact I.pin p (C5 _ z)
theorem Inv.N2{p:Addr×Obj}(I:Inv X (p::Zd) Z H s):Inv X Zd Z H s:=by
 refine⟨I.ok,I.os,I.bare,I.base,I.loc,I.cell,I.free,I.Fx,λq a=>I.pin q ?_,I.AG,I.len⟩;rcases List.mem_append.mp a with z|z
 .exact Dm _ z
 .exact C5 _ (BG _ z)
theorem Inv.coded{P:Addr}(I:Inv X Zd Z H s)(a:H P=some (.CC (.tab pos q)))(hx:Heap.ExtBut P s.heap h')(f:s.heap.objs.size<=c')(w:h'.CodeRec (.ref c') q)
  (c:h'.get? P=some (PySem.W.tabObj ps)) (tok:TriplesOk ps.toList) (y:codeAmong pos ps.toList=some (.ref c')):Inv X Zd Z (upd H c' (.CC (.JC q))) { s with heap:=h',toks:=t' }:=by
 have k:H c'=none:=I.AG.fresh f;have ne:∀b u,H b=some u->b≠c':=λb u e=>Dx e k;have nP:∀b,H b=none->b≠P:=λb n z=>by rw[z,a]at n;cases n
 have old:∀b o,s.heap.get? b=some o->b≠c':=λb o e=>An (CS (AU e) f);refine I.step (g':=s.gens) (d':=s.drawn) (ch:=[]) (λ_ z=>nomatch z) (λb o _ _ _ e n=>hx b o (nP b n) e) (λb o _ _ _ e n=>⟨o.slots,hx b o (nP b n) e⟩) (λb o _ e n=>by rw[AY (old b o e)];exact n)
  (λb o _ e=>?_) (λb x e=>by rw[AY (ne b _ e)];exact e) (λb _ _ e=>by rw[AY (ne b _ e)];exact e) (λm l=>?_) (λb u e=>?_) I.bare
 .by_cases z:b=P
  .subst z;exact⟨_,c⟩
  .exact⟨o,hx b o z e⟩
 .obtain⟨o,es,ep,ho,r⟩:=l;exact⟨o,es,ep,hx _ o (nP _ I.free) ho,r⟩
 .by_cases g:b=c'
  .subst g;rw[AZ]at e;cases e;obtain⟨B,i,vs,t,p,ho,hd,j⟩:=w;cases p;exact⟨i,vs,t,ho,hd,j⟩
  .rw[AY g]at e
   by_cases z:b=P
   .subst z;rw[a]at e;cases e;exact⟨ps,c,tok,λA h=>by rw[y]at h;cases h;exact⟨c',rfl,AZ⟩⟩
   .refine(I.AG b u e).GO (λd v hd q=>hx d v ?_ q) (λd q=>by rw[AY (ne d _ q)];exact q) λd _ q=>by rw[AY (ne d _ q)];exact q
    rcases hd with rfl|hd
    .exact z
    .rintro rfl;rw[a]at hd;cases hd
theorem lK{P:Addr}
  (I:Inv X Zd Z H s) (k:H P=some (.CC (.tab pos q))) (C:PySem.W.CodeHd X.base c P) (j:X.env.code=.ref c) (i:X.env.globals=mainGlobals) (Bn:closureFor scope X.env=pure OA) (y:X.base.BuiltinsAt X.mg P) (JE:mainGlobals≠P)
  (x:X.env.qual ++ "<lambda>"=q) (PH:defaultsOf params X.env=([],[]))
  (h:∀f c' E4 s' H',Inv X ((f,PySem.W.kla_obj "<lambda>" q params body scope OA ((X.mg "__name__").getD .none) c' E4)::Zd) Z H' s'->(∀b o,H b=some o->H' b=some o)->H' c'=some (.CC (.JC q))->s'.os=s.os->Q (.ref f) s') :
  wpAny (model X.prog X.w) X.A (eval (.Lambda params body scope pos) X.env) Q E s:=by
 subst x;have G:=I.ok.mod.glob.keeps I.bk;obtain⟨ps,l,tok,S⟩:=I.AG P _ k;have B:s.heap.BuiltinsAt X.mg P:=by
  obtain⟨F,o,R,O,N,M,L,K⟩:=y;exact⟨F,o,R,O,N,M,I.bk _ _ L,K⟩
 have m:∀(a b:Str)(c':Addr)(E4:Value)v,(PySem.W.kla_obj a b params body scope OA ((X.mg "__name__").getD .none) c' E4).data≠.cell v:=λa b c' E4 v z=>by cases z
 refine PySem.W.kla_eval PH ?_;cases g:codeAmong pos ps.toList with
 |none=>
  refine PySem.W.kla_makeFunction (mg:=X.mg) Bn i G j (C.keeps I.bk) l tok g JE B λc' E4 h' tk hx UN AB n t=>?_;have r:codeAmong pos (ps++#[rawInt pos.line,rawInt pos.col,.ref c']).toList=some (.ref c'):=by
   rw[j9];exact codeAmong_snoc _ tok g
  have p:TriplesOk (ps++#[rawInt pos.line,rawInt pos.col,.ref c']).toList:=by
   rw[j9];exact TriplesOk_snoc _ _ _ _ tok
  have J:=(I.coded (t':=tk) k hx UN n t p r).kept (t':=tk) (h':=h'.push (PySem.W.kla_obj "<lambda>" (X.env.qual ++ "<lambda>") params body scope OA ((X.mg "__name__").getD .none) c' E4)) λb u e=>Aj _ e;have d:s.heap.objs.size<=h'.objs.size:=CL UN (Gu AB);refine h _ c' E4 _ _ (J.MF (B1 _ rfl) ?_ (DQ (CS I.lt d)) (I.OF d) (m _ _ _ _)) (λb o e=>by rw[AY (Dx e (I.AG.fresh UN))];exact e) AZ rfl;rw[AY (DQ AB)];exact I.AG.fresh d
 |some D=>
  obtain⟨c',rfl,Ge⟩:=S D g;refine PySem.W.kla_makeFunctionHit (mg:=X.mg) Bn i G j (C.keeps I.bk) l tok g B λE4 h' tk hk d=>?_;have J:=I.kept (t':=tk) (h':=h'.push (PySem.W.kla_obj "<lambda>" (X.env.qual ++ "<lambda>") params body scope OA ((X.mg "__name__").getD .none) c' E4)) λb u e=>Aj _ (hk b u e);exact h _ c' E4 _ _ (J.MF (B1 _ rfl) (I.AG.fresh d) (DQ (CS I.lt d)) (I.OF d) (m _ _ _ _)) (λb o e=>e) Ge rfl
noncomputable abbrev N8(q:Str)(scope:Scope)(x:Str)(cl:List (Str×Addr))(L f:Addr)(cd:Value):Env:=newEnv scope L mainGlobals ((x,L+1)::cl) (q ++ ".<locals>.") (some f) cd none builtinsNs
noncomputable abbrev Qk(X:Cx)(A:Around)(N:List Str)(x:Str)(env:Env)(s:Shared)(H:Hp):Cx:=
 { X with A:=A.deeper env,N:=N,s₀:=s,H₀:=H,env:=env,outer:=X.stack,stack:=env::X.stack,ex:=[],fn:=λy=>y == x,calm:=true,pn:=[],xe:=λ_ _=>False }
theorem zl{M:Model}{Q:Env->Shared->Prop}(hk:scope.kind=.function)(hx:scope.names.lookup x=some .cell)
  (cf:∀(n:Nat)(cl:List (Str×Addr)),cellsFrom n scope.names cl=HJ (some x) n++cl) (pc:∀h:Heap,pushCells h scope.names=Oa (some x) h)
  (g:∀h' m,h'.Ns s.heap.objs.size m->(∀b o,s.heap.get? b=some o->h'.get? b=some o)->h'.IsCell (s.heap.objs.size+1) (some u)->Q (N8 q scope x cl s.heap.objs.size f cd) { s with heap:=h' }) :
  wpAny M A (newFunctionEnv scope mainGlobals cl [(x,u)] (q ++ ".<locals>.") (some f) cd none builtinsNs) Q E s:=by
 simp only[newFunctionEnv,Option.isSome_none,Bool.false_eq_true,ZBp];refine dP (wpAny_alloc ?_);refine dP (wpAny_layCells _ (λname kind cells=>by cases i:kind == NameKind.cell <;> simp[i]) _ _ _ _ ?_)
 rw[cf,pc];rw[show({ s with heap:=s.heap.push { cls:=.type "frame", data:=.dict #[] } }:Shared).heap.objs.size=s.heap.objs.size+1 from C2 ..]
 refine dP ?_;rw[YV];refine dP (dP (wpAny_storeName_cell (c:=s.heap.objs.size+1) (v₀:=none) hk hx Pr ?_ λh' d a=>k4 ?_))
 .exact⟨_,B1 _ rfl |> λz=>by rw[C2]at z;exact z,rfl⟩
 .dsimp only;rw[T5];refine k4 (k4 (g h' _ (Heap.Ns.sameBut ((Heap.Ns.new s.heap (.type "frame")).push _) a (An (IL _))) (λb o e=>?_) d));exact a.extBut b o (An (Ej (AU e))) (Aj _ (Aj _ e))
section
variable{A8:List Str}{v:V}
theorem kr(S:Dd X.N X.env.scope scope (some x) [x] A8 js)(hx:scope.names.lookup x=some .cell)(I:Inv X Zd Z H s)(e0:JB X.prog X.w X.K X.mg X.base A X.stack s H)(hd:A.handled=none)(U:RelV v u)
  (Er:h1.Ns s.heap.objs.size m) (old:∀b o,s.heap.get? b=some o->h1.get? b=some o) (Bn:h1.IsCell (s.heap.objs.size+1) (some u)) :
  Inv (Qk X A (A8++[x]) x (N8 q scope x (BX X.env.cells scope.names) s.heap.objs.size f cd) s H) [] (B3 js Z++[some v]) H { s with heap:=h1,toks:=t' }:=by
 have σ:∀y∈scope.names,y.2=.free->(X.env.cells.lookup y.1).isSome=true:=λy g hk=>by
  obtain⟨c,e⟩:=I.ok.has y.1 (S.all y g hk);rw[e];rfl
 have Q:∀y c,(BX X.env.cells scope.names).lookup y=some c->X.env.cells.lookup y=some c:=WY scope.names [] σ (λ_ _ e=>by cases e);have B:js.length=A8.length:=by have:=pZ List.length S.at';simpa using this
 have P:∀y c,X.env.cells.lookup y=some c->c<s.heap.objs.size:=λy c e=>by
  obtain⟨v,o,ho,_⟩:=I.cell y c e;exact AU ho
 have d:∀c v,s.heap.IsCell c v->h1.IsCell c v:=λc v AX=>by obtain⟨o,ho,hd⟩:=AX;exact⟨o,old c o ho,hd⟩
 have C:∀y c,((x,s.heap.objs.size+1)::BX X.env.cells scope.names).lookup y=some c->(some x=some y/\c=s.heap.objs.size+1)∨(some x≠some y/\X.env.cells.lookup y=some c):=λy c e=>(du (ce:=some x) e).imp id λz=>⟨z.1,Q y c z.2⟩;have T:∀y∈A8,some x≠some y:=λy g z=>(List.nodup_append.mp S.nd).2.2 y g y (S.sub y z) rfl;refine⟨⟨e0.mod,S.kind,rfl,rfl,Aa _,λy z c e1 F=>?_,λy g=>?_,λy c L e=>?_,λ_=>hd,Around.frames_deeper e0.frames,.inr ⟨rfl,rfl⟩,λb E=>(by cases E),e0.bs,e0.Hw,λb o e E=>(by cases E),λb E=>(by cases E),e0.Fq,e0.Jg⟩,
  rfl,e0.bare,Un.kept old,⟨m,Er,λi y D e1 F e3=>?_⟩,λy c e=>?_,I.AG.fresh (Aa _),λy c e=>?_,λp W=>(by cases W),I.AG.kept old,?_⟩
 .rcases C y c e1 with⟨a1,rfl⟩|⟨_,CU⟩
  .rcases C z _ F with⟨a2,_⟩|⟨_,DU⟩
   .exact BW (a1.symm.trans a2)
   .exact absurd (P z _ DU) (Pa (DH _))
  .rcases C z c F with⟨_,rfl⟩|⟨_,DU⟩
   .exact absurd (P y _ CU) (Pa (DH _))
   .exact I.ok.inj y z c CU DU
 .have L:scope.names.lookup y=some .free∨some x=some y:=g.elim (λg=>.inr (S.one _ (IP (show scope.names.lookup y=some .cell from g)) rfl)) λg=>.inl g;show ∃c,List.lookup y ((x,s.heap.objs.size+1)::BX X.env.cells scope.names)=some c
  by_cases ex:some x=some y
  .rw[<- BW ex];exact⟨_,Pr⟩
  .have z:=Qc (ce:=some x) (n:=s.heap.objs.size+1) (cl:=BX X.env.cells scope.names) ex;rw[show List.lookup y ((x,s.heap.objs.size+1)::BX X.env.cells scope.names)=_ from z];exact Option.isSome_iff_exists.mp (Nk scope.names [] (.inr (IP (L.resolve_right ex))))
 .rcases C y c e with⟨_,rfl⟩|⟨V,_⟩
  .exact DH _
  .exact absurd (pZ some (eq_of_beq L).symm) V
 .have O:(B3 js Z).length=A8.length:=by unfold B3;rw[AA,B]
  by_cases hi:i<A8.length
  .have t:A8[i]?=some y:=by
    have t:(A8++[x])[i]?=some y:=e1
    rwa [Dk hi]at t
   have a:(B3 js Z)[i]?=some (some D):=by
    have a:(B3 js Z++[some v])[i]?=some (some D):=F
    rwa [Dk (by rw[O];exact hi)]at a
   have G:y∈A8:=Bc t;unfold B3 at a;rw[AS]at a;cases J:js[i]? with
   |none=>rw[J]at a;cases a
   |some j=>
    rw[J]at a;have Y:X.N[j]?=some y:=by
     have q:=pZ (λl=>l[i]?) S.at';simp only[AS,J,t,Lu]at q;exact BW q
    have hσ:Z[j]?=some (some D):=by
     simp only[Lu,Pe]at a;cases q:Z[j]? with
     |none=>rw[q]at a;cases a
     |some w=>rw[q]at a;simp at a;rw[a]
    obtain⟨m0,t7,Je⟩:=I.loc;obtain⟨u',r,l⟩:=Je j y D Y hσ (.inr (S.cell y G));refine⟨u',r,?_⟩;rcases l with⟨k,_⟩|⟨_,c,e,z⟩
    .have k':X.env.scope.names.lookup y=some .local:=k;rcases S.cell y G with z|z <;> (rw[z]at k';cases k')
    .obtain⟨c',M⟩:=Option.isSome_iff_exists.mp (Nk (cells:=X.env.cells) scope.names [] (.inr (IP (S.free y G))));have R:=Q y c' M;rw[e]at R;cases R;exact .inr ⟨.inr (S.free y G),c,(Qc (ce:=some x) (T y G)).trans M,d c _ z⟩
  .have t:(A8++[x])[i]?=some y:=e1;have a:(B3 js Z++[some v])[i]?=some (some D):=F;rw[Fe (by omega)]at t;rw[Fe (by omega),O]at a;have z:i - A8.length=0:=by
    have:=(List.getElem?_eq_some_iff.mp t).1
    simpa using this
   rw[z]at t a;cases t;cases a;exact⟨u,U,.inr ⟨.inl hx,_,Pr,Bn⟩⟩
 .rcases C y c e with⟨_,rfl⟩|⟨_,CU⟩
  .exact⟨some u,Bn⟩
  .obtain⟨v,z⟩:=I.cell y c CU;exact⟨v,d c v z⟩
 .rcases C y c e with⟨_,rfl⟩|⟨_,CU⟩
  .exact I.AG.fresh (DH _)
  .exact I.Fx y c CU
 .show(B3 js Z++[some v]).length=(A8++[x]).length;unfold B3;simp[B]
theorem xV{k:Nat}{E4 b:Value}{Q:VK}(S:Dd X.N X.env.scope scope (some x) [x] A8 js)(hx:scope.names.lookup x=some .cell)(I:Inv X Zd Z H s)
  (e0:JB X.prog X.w X.K X.mg X.base A X.stack s H) (c:Bs k A) (o:s.heap.get? f=some (PySem.W.kla_obj "<lambda>" q params body scope (BX X.env.cells scope.names) b c' E4)) (p:H c'=some (.CC (.JC q)))
  (co:scope.isCoroutine=false) (gen:scope.isGenerator=false) (a:∀u,bindArgs (PySem.W.kla_fn "<lambda>" q params body scope (BX X.env.cells scope.names) b (.ref c') E4) ⟨[u],[]⟩=pure [(x,u)]) (g:RelV v u)
  (r:PE (Qk X A (A8++[x]) x (N8 q scope x (BX X.env.cells scope.names) s.heap.objs.size f (.ref c')) s H) body tb) (h:tb (B3 js Z++[some v]) H Q) :
  codeAny (model X.prog X.w) A (.call (.ref f) ⟨[u],[]⟩) (CR Dr X.stack X.prog X.w H s Q (λ_ _ _=>False)) s:=by
 have B:s.heap.CodeRec (.ref c') q:=by
  obtain⟨l,vs,t,e,d,n⟩:=I.AG c' _ p;exact⟨c',l,vs,t,rfl,e,d,n⟩
 refine PySem.W.kla_callFunE c.depth o rfl co gen rfl B ?_;rw[a];refine k4 (zl S.kind hx S.cf S.pc λh' m Er old Bn=>⟨I.nolimit.keeps old,?_⟩);have J:=kr (t':=s.toks) (q:=q) (f:=f) (cd:=.ref c') S hx I e0 c.hd g Er old Bn;refine PySem.W.kla_codeExpr (qP (r [] _ _ H Q J h) (λu' s' z=>?_) λe s' z=>False.elim z);obtain⟨y,H',J',i,j⟩:=z;exact⟨y,H',J'.os,J'.bare,J'.base,J'.AG,i,j⟩
end
theorem tD{h:Heap}{b:ZDx}(x:h.Ns a m)(y:h.Ns a b):m=b:=by
 obtain⟨o,es,ep,ho,hd,_,c⟩:=x;obtain⟨o',BJ,Es,Bz,G1,_,Kx⟩:=y;rw[ho]at Bz;cases Bz;rw[hd]at G1;cases G1
 funext n
 rw[<- c n,Kx n]
section
variable{prog:Program}
theorem zU{L:Addr}{e:Nat}{P:PySem.Fin->Shared->Prop}(Er:s.heap.Ns L m)(hk:s.heap.get? kS=some (seqObj "list" keys e))(r:s.heap.get? a=some (seqObj "list" #[] e1))
  (SY:kS≠a) (l:kS≠L) (t:a≠L) (n:IntsAre keys.toList kz) (f:kz.length=vs.length) (By:vs.length<64)
  (h:∀h' tk out c,h'.Ns L m->(∀b o,b≠L->b≠kS->b≠a->s.heap.get? b=some o->h'.get? b=some o)->h'.get? a=some (seqObj "list" out c)->KskOut false kz vs out.toList->P (.done (.ret .none)) { s with heap:=h',toks:=tk }) :
  wpAny (model prog w) A (ksk_end a false vs.toArray e1 (.ref kS) keys) P E s:=by
 have mem:∀{b:Addr}{o:Obj},(b,o)∈(Hz.ledger s.heap L kS).filter (λp=>decide (p.1≠a))↔(b≠L/\b≠kS/\s.heap.get? b=some o)/\b≠a:=λ{b o}=>by
  rw[YZ,Hz.sW,xt]
 refine ksk_end_ (e:=e) (h₀:=Hz.Rw s.heap) (L:=L) (m:=m) (news:=(Hz.ledger s.heap L kS).filter (λp=>decide (p.1≠a))) (Hz.vM Er) (λp d=>?_) SY (λ⟨b,o⟩d=>(mem.mp d).1.2.1) (λ⟨b,o⟩d=>(mem.mp d).2) n f By λh' tk out c F N k=>?_
 .rcases List.mem_append.mp d with z|z
  .obtain⟨b,o⟩:=p;have q:=mem.mp z;exact⟨q.1.2.2,q.1.1,Hz.Rp _ _⟩
  .rcases List.mem_cons.mp z with rfl|z
   .exact⟨hk,l,Hz.Rp _ _⟩
   .rw[List.mem_singleton.mp z];exact⟨r,t,Hz.Rp _ _⟩
 .exact h h' tk out c F.ns (λb o j i g e=>(N (b,o) (BG _ (mem.mpr ⟨⟨j,i,e⟩,g⟩))).1) (N (a,seqObj "list" out c) Ar).1 k
theorem Inv.mO{o:HO}(I:Inv X Zd Z H s)(n:H a=none)(f:X.s₀.heap.objs.size<=a)(hL:a≠X.env.locals)(i:∀x c,X.env.cells.lookup x=some c->c≠a)(g:∀p∈X.pn++Zd,p.1≠a)(ok:Bx X.prog X.w (upd H a o) s.heap a o):Inv X Zd Z (upd H a o) s:=by
 have ne:∀b u,H b=some u->b≠a:=λb u e=>Dx e n;refine I.step (h':=s.heap) (g':=s.gens) (d':=s.drawn) (t':=s.toks) (ch:=[a]) (λb d=>?_) (λb u _ _ _ e _=>e) (λb u _ _ _ e _=>⟨u.slots,e⟩) (λb u d e n=>by rw[AY (λz=>d (by simp[z]))];exact n) (λb u _ e=>⟨u,e⟩)
  (λb x e=>by rw[AY (ne b _ e)];exact e) (λb _ _ e=>by rw[AY (ne b _ e)];exact e) (λm h=>h) (λb u e=>?_) I.bare
 .have e:b=a:=by simpa using d
  subst e;exact⟨.inr f,hL,i,g⟩
 .by_cases z:b=a
  .subst z;rw[AZ]at e;cases e;exact ok
  .rw[AY z]at e;exact(I.AG b u e).GO (λ_ _ _ e=>e) (λc e=>by rw[AY (ne c _ e)];exact e) λc _ e=>by rw[AY (ne c _ e)];exact e
theorem Inv.Sj(I:Inv X Zd Z H s)(e:s.heap.get? a=some o)(h:∀v,o.data≠.cell v):∀x c,X.env.cells.lookup x=some c->c≠a:=λx c q z=>by
 obtain⟨v,o',ho,hd⟩:=I.cell x c q;rw[z,e]at ho;cases ho;exact h _ hd
theorem Inv.nK{o':Obj}(I:Inv X ((a,o)::Zd) Z H s)(d:Heap.SameBut a s.heap h')(e:h'.get? a=some o')(c:X.s₀.heap.objs.size<=a)(f:∀p∈X.pn++Zd,p.1≠a)(i:∀v,o'.data≠.cell v):
  Inv X ((a,o')::Zd) Z H { s with heap:=h',toks:=t' }:=by
 obtain⟨g,n,hL,h,WC⟩:=I.pin (a,o) (C5 _ Ar);exact(I.N2.turned (t':=t') (λb u j q=>(d.2 b j).trans q) n hL (.inr c) (I.Sj g WC) f).MF e n hL h i
theorem ZBi{P:PySem.Fin->Shared->Prop}(I:Inv X ((kS,seqObj "list" #[] 0)::(a,seqObj "list" #[] e1)::Zd) Z H s)
  (hk:X.s₀.heap.objs.size<=kS) (ha:X.s₀.heap.objs.size<=a) (SY:kS≠a) (F:∀p∈X.pn++Zd,p.1≠kS) (Y:∀p∈X.pn++Zd,p.1≠a) (By:A3.length<64) (T:W 0 [] H)
  (B:∀i ks H2 s2 P2 v,A3[i]?=some v->ks.length=i->W i ks H2->Inv X P2 Z H2 s2->(∀p∈Zd,p∈P2)->wpAny (model X.prog X.w) A (call (.ref f) [v]) (EP X P2 Z (λy H3=>∃k:Int,y=.int k/\W (i+1) (ks++[k]) H3)) (λ_ _=>False) s2)
  (h:∀ks H2 s2 out c,W A3.length ks H2->ks.length=A3.length->KskOut false ks A3 out.toList->Inv X ((a,seqObj "list" out c)::Zd) Z H2 s2->P (.done (.ret .none)) s2) :
  wpAny (model X.prog X.w) A (ksk_rest a (.ref f) false A3.toArray e1 (.ref kS)) P E s:=by
 unfold ksk_rest;refine dP (xU ?_)
 first
  |rw[List.forIn_toArray]
  | (rw[<- ZCF];simp only[List.toList_toArray])
  |rw[<- ZCF]
 have D:∀p∈X.pn++(a,seqObj "list" #[] e1)::Zd,p.1≠kS:=λp G=>by
  rcases List.mem_append.mp G with z|z
  .exact F p (Dm _ z)
  .rcases List.mem_cons.mp z with rfl|z
   .exact SY.symm
   .exact F p (C5 _ z)
 refine dP (ksk_fold (λi s'=>∃g e ks H2,Inv X ((kS,seqObj "list" g e)::(a,seqObj "list" #[] e1)::Zd) Z H2 s'/\W i ks H2/\IntsAre g.toList ks/\ks.length=i) A3 0 s ⟨#[],0,[],H,I,T,.nil,rfl⟩ ?step ?done)
 case step=>
  rintro j x s' hx⟨g,e,ks,H2,I2,hw,hi,r⟩;simp only[Pd]at hw r ⊢;have hj:j<A3.length:=(List.getElem?_eq_some_iff.mp hx).1;refine dP (zo (qP (B j ks H2 s' _ x hx r hw I2 λp G=>BG _ (BG _ G)) (λv s2 he=>?_) λ_ _ hF=>hF.elim));obtain⟨y,H3,I3,U,k,rfl,V⟩:=he;obtain⟨t,rfl⟩:∃t,v=.int k t:=U
  try dsimp only
  have nk:=(I3.pin (kS,seqObj "list" g e) (C5 _ Ar)).1;have hz:g.size<=A3.length:=by
   have h1:=hi.length;rw[C9]at h1;omega
  have s1:=FI s2.heap kS (Obj.mapSeq (·.push (.int k t)))
  obtain⟨L,LJ⟩:∃L,(s2.heap.update kS (Obj.mapSeq (·.push (.int k t)))).get? kS=some (seqObj "list" (g.push (.int k t)) L):=⟨_,get?_update_seq nk (·.push (.int k t))⟩
  refine dP (listUpdate_at nk rfl ?_ (by rw[ZA4];omega) (CL (KU (Array.size_push ..)) (by rw[ZA4];omega)));refine k4 ⟨rfl,g.push (.int k t),L,ks++[k],H3,I3.nK (t':=s2.toks) s1 LJ hk D (λv z=>by cases z),V,?_,by rw[BF,r];rfl⟩;rw[show(g.push (Value.int k t)).toList=g.toList++[Value.int k t] by simp];exact ksk_snoc hi
 case done=>
  rintro s'⟨g,e,ks,H2,I2,hw,hi,r⟩;rw[Pd]at hw r;obtain⟨nk,σ,R,kf,_⟩:=I2.pin (kS,seqObj "list" g e) (C5 _ Ar);have J:=I2.N2;obtain⟨N,S,M,af,_⟩:=J.pin (a,seqObj "list" #[] e1) (C5 _ Ar);obtain⟨m,Er,_⟩:=J.loc
  try dsimp only
  refine dP (listItems_at nk rfl ?_);refine zU Er nk N SY R M hi r By λh' tk out c Q keep ea ko=>?_;have C:∀b u,H2 b=some u->b≠kS/\b≠a:=λb u e=>⟨λz=>absurd (e.symm.trans (z▸σ)) (by simp),λz=>absurd (e.symm.trans (z▸S)) (by simp)⟩;have J1:Inv X Zd Z H2 { s' with heap:=h',toks:=tk }:=by
   refine J.N2.step (g':=s'.gens) (d':=s'.drawn) (ch:=[kS,a]) (λb K=>?_) (λb o h1 _ l e _=>?_) (λb o h1 _ l e _=>⟨o.slots,?_⟩) (λ_ _ _ _ n=>n) (λb o l e=>?_) (λ_ _ e=>e) (λ_ _ _ e=>e) (λm2 h2=>by rw[tD h2 Er];exact Q) (λb u e=>?_) I2.bare
   .rcases List.mem_cons.mp K with rfl|K
    .exact⟨.inr hk,R,I2.Sj nk (λv z=>by cases z),F⟩
    .rw[List.mem_singleton.mp K];exact⟨.inr ha,M,I2.Sj N (λv z=>by cases z),Y⟩
   .exact keep b o h1 (λz=>l (by simp[z])) (λz=>l (by simp[z])) e
   .exact keep b o h1 (λz=>l (by simp[z])) (λz=>l (by simp[z])) e
   .by_cases z:b=X.env.locals
    .obtain⟨o',_,_,Bz,_⟩:=Q;exact⟨o',z▸Bz⟩
    .exact⟨o,keep b o z (λz=>l (by simp[z])) (λz=>l (by simp[z])) e⟩
   .have O:∀d v,H2 d=some v->d≠X.env.locals:=λd v e z=>by rw[z,I2.free]at e;cases e
    refine(I2.AG b u e).GO (λd v hd q=>?_) (λ_ q=>q) λ_ _ q=>q;rcases hd with rfl|hd
    .exact keep d v (O d _ e) (C d _ e).1 (C d _ e).2 q
    .exact keep d v (O d _ hd) (C d _ hd).1 (C d _ hd).2 q
  exact h ks H2 _ out c hw r ko (J1.MF ea S M af λv z=>by cases z)
theorem q8{l:Addr}(I:Inv X Zd Z H s)(n:s.heap.IsList l A3.toArray)(By:A3.length<64)(B:W 0 [] H)
  (e:∀i ks H2 s2 P2 v,A3[i]?=some v->ks.length=i->W i ks H2->Inv X P2 Z H2 s2->(∀p∈Zd,p∈P2)->wpAny (model X.prog X.w) X.A.in1.in1 (call (.ref f) [v]) (EP X P2 Z (λy H3=>∃k:Int,y=.int k/\W (i+1) (ks++[k]) H3)) (λ_ _=>False) s2)
  (h:∀D ks H2 s2 out c,W A3.length ks H2->ks.length=A3.length->KskOut false ks A3 out.toList->Inv X ((D,seqObj "list" out c)::Zd) Z H2 s2->s.heap.objs.size<=D->Q (.ref D) s2) :
  wpAny (model X.prog X.w) X.A (call (.builtin "sorted") [.ref l] [(Str.ofString "key",.ref f)]) Q E s:=by
 refine call_function_entry_kw kind_sorted plain_sorted entry_sorted (ksk_s1 _ _) ?_;unfold Builtin.«sorted»;refine dP (m:=checkCount "sorted" 1 1 _) (k4 ?_);refine dP (collect_list n ?_ (by rw[ZA4];omega));refine dP (ZAT ?_ (by rw[ZA4];omega));have hsz:((s.heap.push (seqObj "list" #[] 0)).update s.heap.objs.size (Obj.mapSeq (·++A3.toArray))).objs.size=s.heap.objs.size+1:=by
  rw[YN,C2]
 have d:(((s.heap.push (seqObj "list" #[] 0)).update s.heap.objs.size (Obj.mapSeq (·++A3.toArray))).push (seqObj "list" A3.toArray 0)).get? (s.heap.objs.size+1)=some (seqObj "list" A3.toArray 0):=by
  rw[<- hsz];exact B1 _ rfl
 have keep:∀b o,s.heap.get? b=some o->(((s.heap.push (seqObj "list" #[] 0)).update s.heap.objs.size (Obj.mapSeq (·++A3.toArray))).push (seqObj "list" A3.toArray 0)).get? b=some o:=λb o q=>by
  have t:b<s.heap.objs.size:=AU q;rw[Heap.get?_push_ne _ _ _ (by rw[hsz];exact An (Ej t)),YM _ _ _ _ (An t),Heap.get?_push_ne _ _ _ (An t)];exact q
 show wpAny _ _ _ _ _ { s with heap:=((s.heap.push (seqObj "list" #[] 0)).update s.heap.objs.size (Obj.mapSeq (·++A3.toArray))).push (seqObj "list" A3.toArray 0) }
 rw[hsz];generalize hh:((s.heap.push (seqObj "list" #[] 0)).update s.heap.objs.size (Obj.mapSeq (·++A3.toArray))).push (seqObj "list" A3.toArray 0)=g at d keep
 refine dP (qY (wpAny_call_entry_kw slot_list_sort ⟨_,d,rfl⟩ entry_list_sort ?body (ksk_l1 _ _)))
 case body=>
  show wpAny (model X.prog X.w) X.A.in1.in1 (Builtin.«list.sort» ⟨[.ref (s.heap.objs.size+1)],[(Str.ofString "key",.ref f)]⟩) _ _ _;rw[ksk_t1];obtain⟨e1,u⟩:∃e1,(g.update (s.heap.objs.size+1) (Obj.mapSeq λ_=>(#[]:Array Value))).get? (s.heap.objs.size+1)=some (seqObj "list" #[] e1):=⟨_,get?_update_seq d λ_=>#[]⟩;unfold ksk_tree;refine dP (listItems_at d rfl ?_);refine dP (listUpdate_at d rfl ?_ (by rw[Bu,ZA4];omega) (Bm _));refine dP (seqEpoch_at u rfl ?_);refine dP (ZAs ?_ (by show A3.length<=_;rw[ZA4];omega));refine dP (ZAT ?_ (Bm _));refine qY ?_;have C:s.heap.objs.size+1<g.objs.size:=AU d;have up:∀b o,b≠s.heap.objs.size+1->g.get? b=some o->(((g.update (s.heap.objs.size+1) (Obj.mapSeq λ_=>(#[]:Array Value))).push (seqObj "tuple" A3.toArray 0)).push (seqObj "list" #[] 0)).get? b=some o:=λb o r q=>Aj _ (Aj _ ((YM _ _ _ _ r).trans q));have old:∀b o,s.heap.get? b=some o->(((g.update (s.heap.objs.size+1) (Obj.mapSeq λ_=>(#[]:Array Value))).push (seqObj "tuple" A3.toArray 0)).push (seqObj "list" #[] 0)).get? b=some o:=λb o q=>up b o (An (Ej (AU q))) (keep b o q);have kz:((g.update (s.heap.objs.size+1) (Obj.mapSeq λ_=>(#[]:Array Value))).push (seqObj "tuple" A3.toArray 0)).objs.size=g.objs.size+1:=by rw[C2,YN]
  have K:(((g.update (s.heap.objs.size+1) (Obj.mapSeq λ_=>(#[]:Array Value))).push (seqObj "tuple" A3.toArray 0)).push (seqObj "list" #[] 0)).get? (g.objs.size+1)=some (seqObj "list" #[] 0):=by rw[<- kz];exact B1 _ rfl
  have L:(((g.update (s.heap.objs.size+1) (Obj.mapSeq λ_=>(#[]:Array Value))).push (seqObj "tuple" A3.toArray 0)).push (seqObj "list" #[] 0)).get? (s.heap.objs.size+1)=some (seqObj "list" #[] e1):=Aj _ (Aj _ u);show wpAny _ _ (ksk_rest (s.heap.objs.size+1) (.ref f) false A3.toArray e1 (.ref ((g.update (s.heap.objs.size+1) (Obj.mapSeq λ_=>(#[]:Array Value))).push (seqObj "tuple" A3.toArray 0)).objs.size)) _ _ _;rw[kz];have a:s.heap.objs.size<=s.heap.objs.size+1:=DH _;have j:s.heap.objs.size<=g.objs.size+1:=by omega
  have x:∀{b:Addr},s.heap.objs.size<=b->∀p∈X.pn++Zd,p.1≠b:=λr p G z=>absurd (AU (I.pin p G).1) (by rw[z];exact Pa r);have J:=I.kept (t':=s.toks) old;have N:=J.MF L (I.AG.fresh a) (DQ (CS I.lt a)) (I.OF a) (λv z=>by cases z);have M:=N.MF K (I.AG.fresh j) (DQ (CS I.lt j)) (I.OF j) (λv z=>by cases z);refine ZBi M (CL I.sz j) (CL I.sz a) (DQ (Ej C)) (x j) (x a) By B e λks H2 s2 out c hw n F J3=>⟨_,rfl,?_⟩;exact k4 ⟨_,rfl,h _ ks H2 s2 out c hw n F J3 a⟩
end
theorem AK.up{K:ZDv}{H':Hp}(h:AK K H a xs)(up:∀b o,H b=some o->H' b=some o):AK K H' a xs:=by
 rcases h with h|h
 .exact .inl (h.imp (up _ _) λ⟨o,e⟩=>⟨o,up _ _ e⟩)
 .exact .inr h
theorem _root_.PySem.Paired.jg(r:Vals xs us)(e:us[i]?=some u):∃x,xs[i]?=some x/\RelV x u:=by
 have hi:=(List.getElem?_eq_some_iff.mp e).1;have c:=r.length;obtain⟨u',a,b⟩:=r.get (AQ (show i<xs.length by omega));rw[e]at a;cases a;exact⟨_,AQ (by omega),b⟩
def Z7(kz:List Int)(xs ys:List V):Prop:=∃ps:List (Int×V),ps.Perm (kz.zip xs)/\ys=ps.map (·.2)/\ps.Pairwise λp q=>p.1<=q.1
theorem gQ{α β:Type}{F:α->β->Prop}{l2 m2:List β}(p:m2.Perm l2):∀{l1:List α},Paired F l1 l2->∃b:List α,b.Perm l1/\Paired F b m2:=by
 induction p with
 |nil=>intro l1 r;exact⟨l1,.refl _,r⟩
 |cons x p d=>
  intro l1 r;cases r with
  |cons h t=>
   obtain⟨m,a,rm⟩:=d t;exact⟨_,a.cons _,.cons h rm⟩
 |swap x y l=>
  intro l1 r;cases r with
  |cons h t=>
   cases t with
   |cons h2 t=>exact⟨_,.swap _ _ _,.cons h2 (.cons h t)⟩
 |trans p1 p2 OJ NT=>
  intro l1 r;obtain⟨m,a,rm⟩:=NT r;obtain⟨n,pn,c⟩:=OJ rm;exact⟨n,pn.trans a,c⟩
theorem uD(r:Vals xs vs):Paired (λ(p:Int×V)(q:Int×Value)=>p.1=q.1/\RelV p.2 q.2) (kz.zip xs) (kz.zip vs):=by
 induction r generalizing kz with
 |nil=>rw[ZCp,ZCp];exact .nil
 |cons h t a=>
  cases kz with
  |nil=>exact .nil
  |cons k kz=>exact .cons ⟨rfl,h⟩ a
theorem mS{out:List Value}(r:Vals xs vs)(k:KskOut false kz vs out):∃ys,Z7 kz xs ys/\Vals ys out:=by
 obtain⟨ps,g,rfl,d⟩:=k;obtain⟨c,f,j⟩:=gQ g (uD r);refine⟨c.map (·.2),⟨c,f,rfl,?_⟩,?_⟩
 .have e:c.map (·.1)=ps.map (·.1):=by
   clear d g f
   induction j with
   |nil=>rfl
   |cons h t i=>rw[DG,DG,h.1,i]
  have l:(ps.map (·.1)).Pairwise (λa b:Int=>a<=b):=List.pairwise_map.mpr (d.imp λh=>by simpa using h)
  rw[<- e]at l;exact List.pairwise_map.mp l
 .clear d g f
  induction j with
  |nil=>exact .nil
  |cons h t i=>exact .cons h.2 i
def UP(K:ZDv)(P:Addr)(pos:Pos)(q:Str)(js:List Nat)(ta:TA)(tb:TE):TE:=λZ H Q=>ta Z H λvs H1=>∃a xs,vs=[.ref a]/\AK K H1 a xs/\xs.length<64/\H1 P=some (.CC (.tab pos q))/\
 ∀c' H2,(∀b o,H1 b=some o->H2 b=some o)->H2 c'=some (.CC (.JC q))->
  ∃W:Nat->List Int->Hp->Prop,W 0 [] H2/\(∀i ks H3,W i ks H3->H3 c'=some (.CC (.JC q)))/\
   (∀i ks H3 v,W i ks H3->ks.length=i->xs[i]?=some v->tb (B3 js Z++[some v]) H3 λy H4=>∃k:Int,y=.int k/\W (i+1) (ks++[k]) H4)/\
   ∀ks H3 ys,W xs.length ks H3->ks.length=xs.length->Z7 ks xs ys->∀l,H3 l=none->Q (.ref l) (upd H3 l (.lst ys))
theorem u7{P:Addr}{k:Nat}{p:Pos}{l:Expr}{A8:List Str}(hr:Bs (k+2) X.A)(Bn:X.calm=true)(hg:Gl X "sorted")(hm:X.mg "sorted"=none)(ha:PA X [l] ta)
  (S:Dd X.N X.env.scope scope (some x) [x] A8 js) (hx:scope.names.lookup x=some .cell) (co:scope.isCoroutine=false) (gen:scope.isGenerator=false) (hC:PySem.W.codeHdIn X.K c P=true) (hc:X.env.code=.ref c) (TZ:X.env.globals=mainGlobals)
  (hb:X.base.BuiltinsAt X.mg P) (JE:mainGlobals≠P) (d:X.env.qual ++ "<lambda>"=q) (PH:defaultsOf params X.env=([],[]))
  (t:∀(cl:List (Str×Addr))(σ E4 u:Value)(c':Addr),bindArgs (PySem.W.kla_fn "<lambda>" q params body scope cl σ (.ref c') E4) ⟨[u],[]⟩=pure [(x,u)])
  (J7:∀(f:Addr)(cd:Value)(s:Shared)(H:Hp),PE (Qk X X.A.in1.in1 (A8++[x]) x (N8 q scope x (BX X.env.cells scope.names) s.heap.objs.size f cd) s H) body tb)
  (E:starEach [l] X.env=[(false,eval l X.env)]:=by rfl) :
  PE X (.Call (.Name "sorted" p) [l] [⟨some "key",.Lambda params body scope NB,kp⟩] pos) (UP X.K P NB q js ta tb):=by
 intro Zd s Z H Q I h;refine uU (HB I hg hm (show bootBuiltins "sorted"=some (.builtin "sorted") by decide +kernel) ?_ (by decide) (by decide));refine callWith_kw (ha.k pos I h λus s1 vs H1 I1 T V=>?_) (by rw[E];rfl) (by rw[E];rfl) rfl rfl;obtain⟨a,xs,rfl,lN,By,hP,U⟩:=V;obtain⟨u,rfl,R⟩:=vals1 T;cases R;have Ou:∀y∈scope.names,y.2=.free->(X.env.cells.lookup y.1).isSome=true:=λy m hk=>by
  obtain⟨c,e⟩:=I1.ok.has y.1 (S.all y m hk);rw[e];rfl
 refine kws_cons (lK I1 hP (ZD8 I1.ok.mod.JJ hC) hc TZ (c6 Ou) hb JE d PH λf c' E4 s2 H2 I2 up Ge ho=>?_);refine kws_nil ?_;show wpAny (model X.prog X.w) X.A (call (.builtin "sorted") [.ref a] [(Str.ofString "key",.ref f)]) (EP X Zd Z Q) X.xe s2;obtain⟨W,L,G,j,fin⟩:=U c' H2 up Ge;obtain⟨A3,B,pl,_⟩:=I2.list (lN.up up);have b:=B.length;refine q8 (W:=W) I2 pl.isList (by omega) L (λi ks H3 M P2 v hv C hw I3 sub=>?_) (λD ks H3 M out F hw C ko I3 big=>?_)
 .obtain⟨y,m,O⟩:=B.jg hv;have hf:=(I3.pin (f,PySem.W.kla_obj "<lambda>" q params body scope (BX X.env.cells scope.names) ((X.mg "__name__").getD .none) c' E4) (C5 _ (sub _ Ar))).1;refine wpAny_call (zN (xV (k:=k) S hx I3 I3.cB.in1.in1 hr.in1.in1 hf (G _ _ _ hw) co gen (λu=>t _ _ _ u _) O (J7 _ _ _ _) (j i ks H3 y hw C m)) λr s' d=>?_);cases r with
  |error e=>exact False.elim d
  |ok fl=>
   cases fl with
   |ret u=>exact I3.after d
   |next=>exact False.elim d
   |brk=>exact False.elim d
   |cont=>exact False.elim d
 .obtain⟨ys,kv,HW⟩:=mS B ko;obtain⟨g,n,hL,_,WC⟩:=I3.pin (D,seqObj "list" out F) (C5 _ Ar);have J:=I3.N2.N2;have m:ys.length<=sizeLine:=by
   obtain⟨ps,Y,e,_⟩:=kv;have:=Y.length_eq;rw[jN]at this;rw[e,AA,this,ZA4];omega
  refine⟨.ref D,_,J.mO (o:=.lst ys) n (CL I2.sz big) hL (J.Sj g WC) (λp hp z=>?_) ⟨m,out.toList,F,HW,by rw[ZCG];exact g⟩,rfl,fin ks H3 ys (by rw[b];exact hw) (by rw[b];exact C) kv D n⟩;exact absurd (AU (I2.N2.pin p hp).1) (by rw[z];exact Pa big)
theorem wV{P:Program}{K:ZDv}{mg p:ZDx}{CX:GV}{k:Nat}{y:Addr}{fd:FuncData}{sp:Sp}
  (KX:K.In s₁.heap) (Er:s₁.heap.Ns mainGlobals mg) (f:s₁.heap.Ns builtinsNs p) (jr:∀x:Str,x ≠"__name__" -> p x=bootBuiltins x) (S:s₁.heap.NoLimit) (hg:s₁.gens=#[])
  (i:s₁.heap.get? a=some { cls:=.type "list", data:=.seq vs.toArray }) (hi:IntsAre vs ns) (hl:ns.length<=sizeLine) (hr:Bs k callerA)
  (hT:s₁.heap.get? T=some (PySem.W.tabObj #[])) (hB:s₁.heap.BuiltinsAt mg T) (hC:PySem.W.CodeHd s₁.heap c T) (nT:K.lookup T=none)
  (F:∀Zl:Heap,K.In Zl->Zl.Ns mainGlobals mg->Zl.BuiltinsAt mg T->EF P w K mg Zl CX k y fd [x] sp) (vz:∀(s:Shared)(u:Value),BindsTo s fd ⟨[u],[]⟩ [(x,u)])
  (Fw:∀H:Hp,H T=some (.CC (.tab pos q))->AK K H a (ns.map V.int)->sp [.ref a] H (λv _=>v=.bl true) λ_ _ _=>False)
  (Tg:∀H e s',CX [] H s₁ (λ_ _ _=>False) e s'->False) :
  codeAny (model P w) callerA (.call (.ref y) ⟨[.ref a],[]⟩) (λr s'=>r=.ok (.ret (.bool true))/\OldK s₁.heap s'.heap/\s'.os=s₁.os/\AllBare s'.gens) s₁:=by
 have D:=dY hi;have Q:=hi.length;have M:a≠T:=λz=>by rw[z,hT]at i;cases i
 have g:∀H:Hp,(∀b,b≠T->H b=none∨∃o xs,H b=some (.FQ o (.lst xs)))->H T=some (.CC (.tab pos q))->AK K H a (ns.map V.int)->CA P w H s₁.heap->(∀b,H b≠none->b=a∨b=T)->(H a≠none->K.lookup a=none)->
   codeAny (model P w) callerA (.call (.ref y) ⟨[.ref a],[]⟩) (λr s'=>r=.ok (.ret (.bool true))/\OldK s₁.heap s'.heap/\s'.os=s₁.os/\AllBare s'.gens) s₁:=by
  intro H hO E hS AG t hK;have C:∀{b:Addr}{o:Obj},s₁.heap.get? b=some o->H b=none->(Hm s₁.heap H).get? b=some o:=λe n=>v5 e n;have LP:∀{b:Addr}{o:Obj}{es:Array DictEntry}{ep:Nat},s₁.heap.get? b=some o->o.data=.dict es ep->H b=none:=λ{b o es ep}e d=>by
   cases q:H b with
   |none=>rfl
   |some u=>
    rcases t b (by rw[q];simp)with e'|e'
    .subst e';rw[i]at e;cases e;have d':Data.seq vs.toArray _=Data.dict es ep:=d;cases d'
    .subst e';rw[hT]at e;cases e;have d':Data.fields (#[]:Array Value)=Data.dict es ep:=d;cases d'
  have l:∀{b:Addr}{m:ZDx},s₁.heap.Ns b m->(Hm s₁.heap H).Ns b m:=λ{b m}AX=>by obtain⟨o,es,ep,e,d,r⟩:=AX;exact⟨o,es,ep,C e (LP e d),d,r⟩
  have N:K.In (Hm s₁.heap H):=λb o e=>C (KX b o e) (by
   cases q:H b with
   |none=>rfl
   |some u=>
    rcases t b (by rw[q];simp)with e'|e'
    .subst e';rw[hK (by rw[q];simp)]at e;cases e
    .subst e';rw[nT]at e;cases e)
  have hM:Mod K mg (Hm s₁.heap H):=⟨N,l Er,⟨p,l f,jr⟩,let ⟨mc,h1,h2⟩:=S;⟨mc,l h1,h2⟩⟩;have X:(Hm s₁.heap H).BuiltinsAt mg T:=by
   obtain⟨A,o,b1,b2,b3,L,B,J,b7⟩:=hB;refine⟨A,o,b1,b2,b3,L,C B ?_,J,b7⟩;cases q:H A with
   |none=>rfl
   |some u=>
    rcases t A (by rw[q];simp)with e'|e'
    .rw[e',i]at B;cases B;exact absurd (show Value.type "list"=Value.type "module" from J) (by decide)
    .exact absurd e' L
  have e0:JB P w K mg (Hm s₁.heap H) callerA [] s₁ H:=⟨rfl,hM,λb o e=>y0 e,KU (yX _ _),trivial,λb f=>absurd (show b∈([]:List Addr)from f) (by simp),AG,.of_eq hg⟩;refine zN ((F _ N (l Er) X).run callerA [] s₁ H ⟨[.ref a],[]⟩ [.ref a] [.ref a] _ _ hr e0 (vz s₁ (.ref a)) (.cons rfl .nil) (Fw H E hS)) λr s' h=>?_;cases r with
  |error e=>exact(Tg H e s' h).elim
  |ok fl=>
   cases fl with
   |next=>exact False.elim h
   |brk=>exact False.elim h
   |cont=>exact False.elim h
   |ret u=>
    obtain⟨v,H',os,bare,un,I,U,qv⟩:=h;have Y:v=.bl true:=qv;subst Y;obtain rfl:u=Value.bool true:=U;have σ:=un.JI T (.CC (.tab pos q)) E;obtain⟨ps,G,_⟩:=I T _ σ;have keep:∀b o,b≠T->s₁.heap.get? b=some o->s'.heap.get? b=some o:=λb o j e=>by
     cases q:H b with
     |none=>exact un.keep b o e q (by intro z;exact absurd (show b∈([]:List Addr)from z) (by simp)) (by simp)
     |some u=>
      rcases hO b j with z|⟨ob,xs,z⟩
      .rw[q]at z;cases z
      .have R:=un.JG b ob _ z;obtain⟨e1,_⟩:=AG b _ z;obtain⟨e2,_⟩:=I b _ R;rw[e]at e1;cases e1;exact e2
    refine⟨rfl,⟨λb o e=>?_,λb o e=>?_⟩,os,bare⟩
    .by_cases j:b=T
     .subst j;rw[hT]at e;cases e;exact .inr (.inl ⟨(hC.tab hT).isCodeTable,rfl,#[],ps,rfl,by rw[G];simp⟩)
     .exact .inl (keep b o j e)
    .by_cases j:b=T
     .subst j;exact⟨_,G⟩
     .exact⟨o,keep b o j e⟩
 have O:∀H:Hp,Bx P w H s₁.heap T (.CC (.tab pos q)):=λH=>⟨#[],hT,trivial,λcv h=>by cases h⟩;cases hk:K.lookup a with
 |some o=>
  have e:=KX a o hk;rw[i]at e;cases e;refine g (upd (λ_=>none) T (.CC (.tab pos q))) (λb f=>.inl (AY f)) AZ (.inr ⟨_,vs.toArray,_,hk,rfl,rfl,rfl,by rw[Bu,Q];exact hl,by simpa using D⟩) (λb u z=>?_) (λb z=>?_) λz=>absurd (AY M) z
  .by_cases f:b=T
   .subst f;rw[AZ]at z;cases z;exact O _
   .rw[AY f]at z;cases z
  .by_cases f:b=T
   .exact .inr f
   .exact absurd (AY f) z
 |none=>
  refine g (upd (upd (λ_=>none) a (.FQ { cls:=.type "list", data:=.seq vs.toArray } (.lst (ns.map V.int)))) T (.CC (.tab pos q))) (λb f=>?_) AZ (.inl (.inr ⟨{ cls:=.type "list", data:=.seq vs.toArray },by rw[AY M,AZ]⟩)) (λb u z=>?_) (λb z=>?_) λ_=>hk
  .rw[AY f]
   by_cases h2:b=a
   .subst h2;exact .inr ⟨_,_,AZ⟩
   .exact .inl (AY h2)
  .by_cases f:b=T
   .subst f;rw[AZ]at z;cases z;exact O _
   .rw[AY f]at z
    by_cases h2:b=a
    .subst h2;rw[AZ]at z;cases z;exact⟨i,by rw[AA];exact hl,vs,_,D,i⟩
    .rw[AY h2]at z;cases z
  .by_cases f:b=T
   .exact .inr f
   .rw[AY f]at z
    by_cases h2:b=a
    .exact .inl h2
    .exact absurd (AY h2) z
theorem uw{l:PySem.W.OpenLaw}{n k:Nat}{q:Program}{XP:(ZDx)->Heap->Prop}{YP:World->Heap->Prop}{d:DefRec}{K:Params->ZDv}{CX:World->GV}{sp:World->Sp}
  (D:l.most=some n) (KW:n<=sizeLine) (NA:d.params.defaults=[]) (C:Bs k callerA)
  (J:∀(w:World)(h:Heap),YP w h->(K w.params).In h) (y:∀(w:World)(h:Heap),YP w h->h.get? T=some (PySem.W.tabObj #[])) (hC:∀w:World,PySem.W.codeHdIn (K w.params) c T=true) (nT:∀w:World,(K w.params).lookup T=none)
  (F:∀(w:World)(mg:ZDx)(p:Addr)(h:Heap),(K w.params).In h->h.Ns mainGlobals mg->mg d.name=some (.ref p)->
   ∃fd:FuncData,(∀(s:Shared)(u:Value),BindsTo s fd ⟨[u],[]⟩ [(x,u)])/\
    ∀Zl:Heap,(K w.params).In Zl->Zl.Ns mainGlobals mg->Zl.BuiltinsAt mg T->EF l.prog w (K w.params) mg Zl (CX w) k p fd [x] (sp w))
  (Fw:∀(w:World)(H:Hp)(a:Addr)(ns:List Int),ns.length<=n->H T=some (.CC (.tab pos qn))->AK (K w.params) H a (ns.map V.int)->sp w [.ref a] H (λv _=>v=.bl true) λ_ _ _=>False)
  (Tg:∀(w:World)(H:Hp)(s:Shared)(e:Value)(s':Shared),CX w [] H s (λ_ _ _=>False) e s'->False) :
  PySem.W.WalkO q loose XP YP l.row.toRowW d [] (λf vs=>PySem.call f vs):=by
 refine Hz.og D NA λw s₀ s₁ mg S p o R cd M a vs ns G Y ho hd Et Oi WJ j i E=>?_;have t:=J w _ Y;obtain⟨fd,I,hF⟩:=F w mg p _ t G.T.g Oi;have L:s₁.heap.BuiltinsAt mg T:=by
  obtain⟨N,B,Q,P,m,A,O,r⟩:=G.T.bmain;refine⟨N,B,Q,P,λz=>?_,λz=>?_,m,A,O,r⟩
  .obtain⟨o,es,ep,e,hd,_⟩:=G.T.g;rw[z,e]at m;cases m;rw[hd]at r;cases r
  .rw[z,y w _ Y]at m;cases m;cases A
 exact wV t G.T.g G.T.b G.T.builtins G.T.nolimit E WJ j (CL i KW) C (y w _ Y) L (ZD8 t (hC w)) (nT w) hF I (λH h1 h2=>Fw w H a ns i h1 h2) λH e s'=>Tg w H s₁ e s'
structure R8 (N:List Str) (outer scope:Scope) (x:Str) (A8:List Str) (js:List Nat):Prop where
 kind:scope.kind=.function
 loc:∀y∈scope.names,y.2=.local->scope.names.lookup y.1=some .local
 Hj:scope.names.lookup x=some .cell
 one:∀y∈scope.names,y.2=.cell->y.1=x
 cf:∀(n:Nat)(cl:List (Str×Addr)),cellsFrom n scope.names cl=(x,n)::cl
 pc:∀h:Heap,pushCells h scope.names=h.push { cls:=.type "cell", data:=.cell none }
 at':js.map (λj=>N[j]?)=A8.map some
 cell:∀y∈A8,outer.names.lookup y=some .cell
 free:∀y∈A8,scope.names.lookup y=some .free
 all:∀y∈scope.names,y.2=.free->outer.names.lookup y.1=some .cell
 nd:(A8++[x]).Nodup
section
variable{iter:Expr}{A8:List Str}{J:It}{fp:List Addr}{tn:Nat->Heap->Prop}
theorem R8.G(S:R8 N outer scope x A8 js):Dd N outer scope (some x) [x] A8 js:=
 ⟨S.kind,S.loc,λy a e=>by rw[S.one y a e],λy e=>by rw[BW e];exact List.mem_singleton_self _,S.cf,S.pc,S.at',λy a=>.inl (S.cell y a),S.free,λy a e=>.inl (S.all y a e),S.nd⟩
end
structure SN (N:List Str) (outer scope:Scope) (x:Str) (A8:List Str) (js:List Nat):Prop where
 kind:scope.kind=.function
 HM:∀y∈scope.names,y.2≠.cell
 loc:∀y∈scope.names,y.2=.local->scope.names.lookup y.1=some .local
 Hj:scope.names.lookup x=some .local
 at':js.map (λj=>N[j]?)=A8.map some
 cell:∀y∈A8,outer.names.lookup y=some .cell∨outer.names.lookup y=some .free
 free:∀y∈A8,scope.names.lookup y=some .free
 all:∀y∈scope.names,y.2=.free->outer.names.lookup y.1=some .cell∨outer.names.lookup y.1=some .free
 nd:(A8++[x]).Nodup
section
variable{iter:Expr}{A8:List Str}{wi:TI}
theorem SN.G(S:SN N outer scope x A8 js):Dd N outer scope none [x] A8 js:=
 ⟨S.kind,S.loc,λy a e=>absurd e (S.HM y a),λx e=>(by cases e),λn cl=>U3 S.HM,λh=>VB S.HM,S.at',S.cell,S.free,S.all,S.nd⟩
theorem k9(b:X.calm=true)(S:SN X.N X.env.scope scope x A8 js)(hi:QI X (.Name x px) iter wi)
  (EG:∀fp C s H,OW (GQ X (A8++[x]) scope (BX X.env.cells scope.names) C s H fp) ifs tt) (DT:∀fp C s H,QE (GQ X (A8++[x]) scope (BX X.env.cells scope.names) C s H fp) elt te)
  (a:∀v,foldedSetIterable iter X.env v=pure v:=by intro _;rfl):QE X (.ListComp elt [⟨.Name x px,iter,ifs,0⟩] scope pos) (HP wi js tt te):=
 ⟨YC (CW:=λJ Z H1 acc Q=>LW J js tt te Z H1 acc Q) (XQ S.G) b S.G hi.h (λ_ _ _ _=>VW S.G (.inl S.Hj)) (λfp C s H=>(EG fp C s H).h) (λfp C s H=>(DT fp C s H).h) a⟩
theorem oF{P:Addr}{k:Nat}{p:Pos}{l:Expr}(e:Bs (k+2) X.A)(Bn:X.calm=true)(j:Gl X "sorted")(i:X.mg "sorted"=none)(o:QA X [l] ta)
  (S:R8 X.N X.env.scope scope x A8 js) (hx:scope.names.lookup x=some .cell) (co:scope.isCoroutine=false) (gen:scope.isGenerator=false) (hC:PySem.W.codeHdIn X.K c P=true) (m:X.env.code=.ref c) (TZ:X.env.globals=mainGlobals)
  (n:X.base.BuiltinsAt X.mg P) (JE:mainGlobals≠P) (g:X.env.qual ++ "<lambda>"=q) (PH:defaultsOf params X.env=([],[]))
  (a:∀(cl:List (Str×Addr))(b E4 u:Value)(c':Addr),bindArgs (PySem.W.kla_fn "<lambda>" q params body scope cl b (.ref c') E4) ⟨[u],[]⟩=pure [(x,u)])
  (J7:∀(f:Addr)(cd:Value)(s:Shared)(H:Hp),QE (Qk X X.A.in1.in1 (A8++[x]) x (N8 q scope x (BX X.env.cells scope.names) s.heap.objs.size f cd) s H) body tb)
  (d:starEach [l] X.env=[(false,eval l X.env)]:=by rfl) :
  QE X (.Call (.Name "sorted" p) [l] [⟨some "key",.Lambda params body scope NB,kp⟩] pos) (UP X.K P NB q js ta tb):=
 ⟨u7 e Bn j i o.h S.G hx co gen hC m TZ n JE g PH a (λf cd s H=>(J7 f cd s H).h) d⟩
end
end L2
namespace Fz
open L2 Lw
variable{F:Hp}{xs:List PV}{key:PV->Int}
section
variable{P:Program}{w:World}{K:ZDv}{mg:ZDx}{Zl:Heap}{x qual:Str}{st:Stmt}{f c:Addr}{fd:FuncData}{N ps:List Str}{k:Nat}
theorem hL{pre:Pre}(F:AM K x qual st f fd)(Vr:fd.code=.ref c)(b:∀(kV a d:Value)(g:Option Addr)(Ak ct:Value)(us:List Value),us.length=ps.length->bindArgs (PySem.W.fnOf x qual (K4 st) (EJ st) (AO st) .none kV a d g Ak ct) ⟨us,[]⟩=pure (ps.zip us))(m:mg x=some (.ref f))(S:B6 N ps (AO st))(e:∀ss R,pre ss R->ss.length=ps.length)
  (l:∀{A:Around}{outer:List Env}{s:Shared}{H:Hp}{E:XK},Bs k (A.deeper (envOfC qual (AO st) s.heap.objs.size f (.ref c)))->
   ∃t,Fd (Gb Dr P w K mg Zl N qual (AO st) f (.ref c) A outer s H E).HI (EJ st) t/\∀ss R,pre ss R->Ws (ss++List.replicate (N.length - ps.length) .any) t (λ_=>∃k,R=.is k/\k .A9) R):AF P w K mg Zl x (k+1) ps (Ad pre):=by
 refine AF.mk F (F.binds b) m ?_;obtain⟨o,n,kV,a,d,g,Ak,ct,Em,rfl,i,Et⟩:=F.ex;obtain rfl:Ak=.ref c:=Vr;refine dM i Et S (λvs H Q E h=>ee e h) λA outer s H vs Q E j h=>?_;obtain⟨t,q,r⟩:=l (A:=A) (outer:=outer) (s:=s) (H:=H) (E:=E) j;exact⟨t,q.h.HI,bU h e r⟩
end
theorem ZAn{a:List (Int×V)}(r:Paired (λ(p:PV)(q:Int×V)=>q.1=key p/\Rep F q.2 p) xs a):AJ F (a.map (·.2)) xs/\a.map (·.1)=xs.map key:=by
 induction r with
 |nil=>exact⟨.nil,rfl⟩
 |cons h t b=>exact⟨.cons h.2 b.1,by rw[DG,DG,h.1,b.2]⟩
theorem yI{vs:List V}(r:AJ F vs xs):Paired (λ(p:PV)(q:Int×V)=>q.1=key p/\Rep F q.2 p) xs ((xs.map key).zip vs):=by
 induction xs generalizing vs with
 |nil=>rw[r.DI];exact .nil
 |cons p ps c=>
  obtain⟨v,ws,rfl,a,b⟩:=r.inv;exact .cons ⟨rfl,a⟩ (c b)
section
variable[Xw]
variable{ss:List Slot}{ta:TA}{tb:TE}{k:List PV->Prop}{K:ZDv}{js:List Nat}{P:Addr}{pos:Pos}{q:Str}
theorem ub{jp:Nat}{G:Hp->V->Prop}(key:PV->Int)(U:ss[jp]?=some (.raw G))(X:∀F v,G F v->F P=some (.CC (.tab pos q)))
  (h:Wa ss ta λl=>∃xs,l=[.sq false xs]/\xs.length<64/\(∀x∈xs,Wp (C7 js ss++[.is x]) tb λp=>p=.int (key x))/\∀ys:List PV,ys.Perm xs->(ys.Pairwise λa b=>key a<=key b)->k ys)
  (nd:js.Nodup:=by decide) (np:Mh js ss=true:=by rfl):Wn ss (UP K P pos q js ta tb) k:=⟨λE Z F H Q S J=>
 h.go E Z F H _ S λvs l F1 H1 d σ z=>by
  obtain⟨xs,rfl,O,hk,kk⟩:=z;cases σ with
  |cons a t=>
   cases t;obtain⟨l,ws,rfl,_,T,r⟩:=a;obtain⟨_,_,W,_⟩:=d.st.ok jp _ U;refine⟨l,ws,rfl,AK.of T,by rw[r.length];exact O,d.st.fh _ _ (X _ _ W),λc' H2 up Ge=>?_⟩;have m2:=d.st.grow up;have u:Cp ss Z c':=λi hi e=>by
    obtain⟨l',e1,_,_,pt⟩:=m2.st.ok i _ hi;rw[e]at e1;cases e1;obtain⟨x,y,j,_⟩:=pt;rw[Ge]at j;cases j
   refine⟨λi ks H3=>i<=xs.length/\ks=(xs.take i).map key/\∃F3,Mv E ss Z F1 H2 F3 H3,⟨Bm _,rfl,F1,.refl m2.st⟩,λi ks H3 z=>?_,λi ks H3 v z hi R=>?_,λks H3 ys z _ kv l2 m=>?_⟩
   .obtain⟨_,_,F3,c⟩:=z;exact c.hh c' _ u Ge
   .obtain⟨_,g,F3,c⟩:=z;obtain⟨p,f,D⟩:=r.get' R;have n:=(List.getElem?_eq_some_iff.mp f).1;have S3:=c.st.A8 (js:=js) nd (.one (D.mono c.ff));refine(hk p (Bc f)).go E _ F3 H3 _ S3 λw o F4 H4 N A Y=>?_;subst Y;cases A.inv;refine⟨key p,rfl,n,?_,F4,c.trans (N.out (ps:=[p]) c.st np)⟩;have j:xs[i]=p:=by rw[AQ n]at f;exact BW f
    rw[JP n,j,Cs,g];rfl
   .obtain⟨_,g,F3,c⟩:=z;rw[r.length,Ei]at g;obtain⟨ps,s,rfl,o⟩:=kv;rw[g]at s;obtain⟨zs,pz,B⟩:=gQ s (yI (key:=key) (r.mono c.ff));obtain⟨C,I⟩:=ZAn B;have L:(zs.map key).Pairwise (λa b:Int=>a<=b):=by rw[<- I];exact List.pairwise_map.mpr o
    have M:=m2.trans (c.trans (c.st.make m (.lst (ps.map (·.2)))))
    exact J l2 _ zs F3 _ (d.trans M) (c.st.Bo m) (d.none (m2.none (c.none m))) AZ C (kk zs pz (List.pairwise_map.mp L))⟩
end
end Fz
namespace L2
section
variable{X:Cx}
def eS(K:ZDv):R2:=λx y H Q=>∃a b xs ys,x=.ref a/\y=.ref b/\Al K H a xs/\Al K H b ys/\xs.length+ys.length<=sizeLine/\(xs=[]->Q (.ref b) H)/\(xs≠[]->ys=[]->Q (.ref a) H)/\(xs≠[]->ys≠[]->∀p,H p=none->Q (.ref p) (upd H p (.tup (xs++ys))))
theorem ZBH:B0 X (binaryOp .Add) (eS X.K):=by
 intro Zd s Z H x y v u Q I g f h;obtain⟨a,b,xs,ys,rfl,rfl,k,j,w,r,o,m⟩:=h
 by_cases hx:xs=[]
 .have q:=r hx;subst hx;cases g;cases f;obtain⟨A3,l,p1,_⟩:=I.tuple k;obtain⟨BE,B,p2,_⟩:=I.tuple j;obtain⟨⟨cls,dd,data,sl⟩,ho,i,n,hd⟩:=id p1;obtain⟨⟨A,Pq,d,Qw⟩,DZ,LJ,t,c⟩:=id p2;simp only at i hd LJ c;subst i hd LJ c;have e:A3=[]:=l.RJ.mpr rfl;exact concat_meets ⟨_,ho,rfl⟩ ⟨_,DZ,rfl⟩ ZBU seq_tuple_add jb ja (jZ _ _)
   (tuple_addW0 a b A3.toArray BE.toArray n t dd Pq sl Qw (by simp[e])) ⟨ho,DZ,⟨.ref b,H,I,rfl,q⟩⟩
 .exact yw Zd s Z H _ _ _ _ Q I g f ⟨a,b,xs,ys,rfl,rfl,k,j,hx,w,λe=>o hx e,λe p z=>m hx e p z⟩
end
end L2
namespace Fz
open L2 Lw
theorem AJ.append'{F:Hp}:∀{vs ws:List V}{xs ys:List PV},AJ F vs xs->AJ F ws ys->AJ F (vs++ws) (xs++ys):=by
 intro vs ws xs ys r h
 induction xs generalizing vs with
 |nil=>cases r.DI;exact h
 |cons p ps c=>obtain⟨v,vs,rfl,a,b⟩:=r.inv;exact .cons a (c b)
section
variable[Xw]
variable{E:Ent0}{ss:List Slot}{Z:L2.St}{F H F' H':Hp}{K:ZDv}{i:Nat}{t:OV}{ta tb tc te:TE}{nx:List Slot->Prop}{R:Ao}
theorem kK{k:PV->Prop}(h:Wp ss ta λp=>∃xs,p=.tup xs/\Wp ss tb λq=>∃ys,q=.tup ys/\xs.length+ys.length<=100000/\k (.tup (xs++ys))):Wp ss (Au (eS K) ta tb) k:=⟨λE Z F H Q S q=>
 h.go E Z F H _ S λv p F1 H1 d j⟨xs,e,h2⟩=>h2.go E Z F1 H1 _ d.st λv2 p2 F2 H2 m2 i⟨ys,n,o,kk⟩=>by
  subst e;subst n;cases j with
  |@tup a vs _ m s1=>
   cases i with
   |@tup b ws _ g s2=>
    have g1:=m2.ff _ _ m;have t1:=s1.mono m2.ff;have l1:=t1.length;have l2:=s2.length;refine⟨a,b,vs,ws,rfl,rfl,Al.of (m2.st.fh _ _ g1),Al.of (m2.st.fh _ _ g),small (by omega),λz=>?_,λ_ z=>?_,λ_ _ c l=>?_⟩
    .have e:xs=[]:=by rw[z]at l1;exact List.length_eq_zero_iff.mp l1.symm
     rw[e,Yb]at kk;exact q (.ref b) _ F2 H2 (d.trans m2) (.tup g s2) kk
    .have e:ys=[]:=by rw[z]at l2;exact List.length_eq_zero_iff.mp l2.symm
     rw[e,GH]at kk;exact q (.ref a) _ F2 H2 (d.trans m2) (.tup g1 t1) kk
    .have f:=m2.st.alloc l (.tup (vs++ws));exact q (.ref c) _ _ _ (d.trans (m2.trans f)) (.tup AZ ((AJ.append' t1 s2).mono f.ff)) kk⟩
end
end Fz
namespace L2
section
variable{prog:Program}{w:World}{A:Around}{s:Shared}{R:Result->Shared->Prop}
variable{X:Cx}
variable{i o:Expr}{ty td:TE}{pos:Pos}
theorem i9(a:X.A.units+1<cLine)(hi:QE X i ty)(ho:QE X o td)(b:behindInMarks .NotIn o=false:=by with_unfolding_all rfl):QT X (.Compare i [.NotIn] [o] pos) (tB (Qn ty td)):=⟨lF (zO a hi.h ho.h) b⟩
end
end L2
namespace Fz
open L2 Lw
theorem ak{F H:Hp}:∀{vs:List V}{xs:List PV},Be F H vs (xs.map .fz)->AJ F vs xs
 |_,[],h=>by cases h;exact .nil
 |_,x::xs,h=>by
  obtain⟨_,_,rfl,a,b⟩:=h.inv;cases a with|fz r=>exact .cons r (ak b)
end Fz
namespace Fz
open L2 Lw
variable{ss:List Slot}{ta tb te ti:TE}{i:Nat}{F F1:Hp}
section
variable[Xw]
variable{E:Ent0}{Z:L2.St}{H F' H':Hp}{K:ZDv}{ks:List (List Bool)}{tc:TE}{R:Ao}
variable{js:List Nat}
theorem ZBy{wi:TI}{tt:TT}{k:List PV->Prop}
  (h:Wi ss wi λxs=>xs.length<=100000/\(∀x∈xs,Wt (C7 js ss++[.is x]) tt λ_=>True)/\(∀x∈xs,Wp (C7 js ss++[.is x]) te λp=>p=x)/\∀ys:List PV,ys.Sublist xs->k ys)
  (nd:js.Nodup:=by decide):Wn ss (HP wi js tt te) k:=⟨λE Z F H Q S q=>
 h.go E Z F H _ S λJ xs F1 H1 c u⟨hz,P,R,kk⟩acc BB=>by
  have I:Cp ss Z acc:=c.st.Jn BB;have Y:=c.st.Ee BB;have σ:∀(i:Nat)s,ss[i]?=some s->¬ Bf s Z[i]? acc:=λi s hi=>c.st.Ku hi BB;refine⟨λi m H2=>m=xs.length - i/\i<=xs.length/\∃F2 vs ys,Mv E ss Z F1 H1 F2 H2/\F2 acc=none/\H2 acc=some (.lst vs)/\AJ F2 vs ys/\ys.Sublist (xs.take i),⟨_,rfl,Bm _,F1,[],[],c.st.make BB _,c.st.Bo BB,AZ,.nil,ZCi _⟩,?_⟩;rintro i m H2⟨rfl,hi,F2,vs,ys,m2,C,l,j,Gk⟩
  by_cases f:i<xs.length
  .refine .inr ⟨u.go ss Z F2 H2 i m2.ff m2.st f,λx H3 y=>?_⟩;obtain⟨p,F3,z,v,A⟩:=u.Dy ss Z F2 H2 i x H3 m2.ff m2.st f y;have L:p∈xs:=Bc z;have M:(xs.take (i+1))=xs.take i++[p]:=by
    have U:xs[i]=p:=by rw[AQ f]at z;exact BW z
    rw[JP f,U]
   have G:∀{F4:Hp},(∀a o,F4 a=some o->F2 a=some o∨H2 a=none)->F4 acc=none:=λ{F4}n=>by
    cases e:F4 acc with
    |none=>rfl
    |some o=>
     rcases n acc o e with w|w
     .rw[C]at w;cases w
     .rw[l]at w;cases w
   have W:=v.st.A8 (js:=js) nd (.one A);refine(P p L).go E _ F3 H3 _ W λb F4 H4 O hb=>?_;have D:=O.Sk (ps:=[p]) (vs:=[x]) v.st;have d:=v.trans D;have g:vs.length<=99999:=by
    have:=Gk.length_le;rw[Cj]at this;rw[j.length];omega
   show if b=true then _ else _
   cases b with
   |true=>
    rw[p7 rfl];have V:=d.st.A8 (js:=js) nd (.one (A.mono D.ff));refine(R p L).go E _ F4 H4 _ V λw B F5 H5 N IS T=>?_;subst T;have LB:=N.Sk (ps:=[B]) (vs:=[x]) d.st;have r:=d.trans LB;have X:=r.hh acc _ I l;have K:=G r.nn;refine⟨vs,X,LL g,xs.length - (i+1),by omega,rfl,f,F5,vs++[w],ys++[B],?_,K,AZ,(j.mono r.ff).append (.one IS),by rw[M];exact Gk.append (ZCS _)⟩;have t:=m2.trans r;refine⟨t.st.MJ K (.inl Y) σ,t.ff,λa o n e=>?_,t.nn⟩;rw[AY (Dx e BB)];exact t.hh a o n e
   |false=>
    rw[mD (by decide)];refine⟨xs.length - (i+1),by omega,rfl,f,F4,vs,ys,m2.trans d,G d.nn,d.hh acc _ I l,j.mono d.ff,by rw[M];exact Gk.trans (ZCo _ _)⟩
  .have e:i=xs.length:=by omega
   subst e;rw[Ei]at Gk;exact .inl ⟨u.stop ss Z F2 H2 m2.ff m2.st,q acc vs _ F2 H2 (c.trans m2) C (c.none BB) l j (kk ys Gk)⟩⟩
variable{nx:List Slot->Prop}{k:PV->Prop}{xs:List PV}
theorem yo(h:Wq ss ta λtp xs=>∃ns:List Str,xs=ns.map PV.str/\Wp ss tb λp=>∃(r:Str)(g:Nat)(cs:List Str),p=Md r g cs/\cs.length<64/\Fi ns r g cs=true/\k .A9):
  Wp ss (EZ (Ve K) [] E0 (Ae ta (Ae tb BK))) k:=⟨λE Z F H Q S q=>
 h.go E Z F H _ S λv tp xs F1 H1 a sv⟨ns,ex,h2⟩=>h2.go E Z F1 H1 _ a.st λv2 p2 F2 H2 m2 d⟨r,g,cs,ep,f,E8,kk⟩=>by
  subst ex;subst ep;obtain⟨l,vs,i,b,c⟩:=(sv.mv m2).seq m2.st;subst i;rw[c.strs]at b;obtain⟨tl,j,rfl,e⟩:=m7 d;refine⟨l,tp,ns,tl,r,g,cs,rfl,CF.sq b,(e.same m2.st.fh).h.at,f,E8,λH3 s=>?_⟩;exact q _ _ F2 H3 (a.trans (m2.trans (m2.st.grow s))) .A9 kk⟩
theorem XE{t:TT}{k k':Bool->Prop}(h:Wt ss t k')(hk:∀b,k' b->k b):Wt ss t k:=⟨λE Z F H Q S q=>h.go E Z F H Q S λb F' H' m a=>q b F' H' m (hk b a)⟩
end
structure Lp where
 r:Str
 g:Nat
 cs:List Str
def Lp.P(l:Lp):PV:=Md l.r l.g l.cs
def Lp.Good(ns:List Str)(l:Lp):Prop:=CD ns l.r l.g l.cs
theorem bX{k:Nat}(h:k<3):∃r:Str,r∈Gg/\L2.BZ [PV.str "none",.str "ahead",.str "all"] (k:Int)=some (.str r):=by
 have:k=0∨k=1∨k=2:=by omega
 rcases this with rfl|rfl|rfl
 .exact⟨_,by decide,rfl⟩
 .exact⟨_,by decide,rfl⟩
 .exact⟨_,by decide,rfl⟩
noncomputable def Ss:PV->Bool
 | .A9=>true
 |_=>false
theorem i8{v:V}{p:PV}(r:Rep F v p):decide (v=.A9)=Ss p:=by
 cases r <;> rfl
section
variable[Xw]
variable{k:PV->Prop}
theorem eh(h:Wp ss ta λp=>Wp ss tb λq=>q=.A9/\k (.bl (Ss p))):Wp ss (Au (λx y H Q=>y=.A9/\Q (.bl (decide (x=.A9))) H) ta tb) k:=⟨λE Z F H Q S q=>
 h.go E Z F H _ S λv p F1 H1 a c h2=>h2.go E Z F1 H1 _ a.st λv2 p2 F2 H2 m2 b AX=>by
  obtain⟨e,kk⟩:=AX;subst e;cases b.inv;refine⟨rfl,?_⟩;rw[i8 c];exact q _ _ F2 H2 (a.trans m2) (.bl _) kk⟩
theorem dE(h:Wp ss ta λp=>Wp ss tb λq=>q=.A9/\k (.bl (!Ss p))):Wp ss (Au (λx y H Q=>y=.A9/\Q (.bl (!decide (x=.A9))) H) ta tb) k:=⟨λE Z F H Q S q=>
 h.go E Z F H _ S λv p F1 H1 a c h2=>h2.go E Z F1 H1 _ a.st λv2 p2 F2 H2 m2 b AX=>by
  obtain⟨e,kk⟩:=AX;subst e;cases b.inv;refine⟨rfl,?_⟩;rw[i8 c];exact q _ _ F2 H2 (a.trans m2) (.bl _) kk⟩
end
def Uz:Pre:=λl R=>∃(tp:Bool)(ns:List Str)(a:Bool)(Ls:List Lp),l=[.sq tp (ns.map .str),.sq a (Ls.map Lp.P)]/\ns.length<=40/\Ls.length<=12/\(∀l∈Ls,l.Good ns)/\R=.is λp=>p=.A9
end Fz
namespace L2
variable{x:Str}{r:List V->Hp->VK->Prop}{op:CmpOp}
section
variable{X:Cx}{a b e o:Expr}{es:List Expr}{ta tb te:TE}{t:TA}{pos p:Pos}
theorem Ah{id:String}(c:Bk X (.builtin id) r)(a:X.mg x=none)(d:QA X (e::es) t)(b:Gl X x:=by rfl)(hv:bootBuiltins x=some (.builtin id):=by decide +kernel)(hn:x ≠"__name__" := by decide)(Dv:(x == ("__debug__":Str))=false:=by decide)
  (he:FN X e es:=by rfl) (BN:BEq X pos es:=by rfl):QE X (.Call (.Name x p) (e::es) [] pos) (CQ r t):=pG c b a hv d hn Dv he BN
theorem Cu{T:String}(c:Bk X (.type T) r)(a:X.mg x=none)(d:QA X (e::es) t)(b:Gl X x:=by rfl)(hv:bootBuiltins x=some (.type T):=by decide +kernel)(hn:x ≠"__name__" := by decide)(Dv:(x == ("__debug__":Str))=false:=by decide)
  (he:FN X e es:=by rfl) (BN:BEq X pos es:=by rfl):QE X (.Call (.Name x p) (e::es) [] pos) (CQ r t):=ZAg c b a hv d hn Dv he BN
theorem AV{r:R2}(d:DF X r)(f:QE X a ta)(e:QE X b tb)(c:UI b:=by exact λ_ _=>rfl):QE X (.Subscript a b pos) (Au r ta tb):=va d f e c
theorem AR{j k:Nat}{ps:List Str}{sp:Sp}(h:AF X.prog X.w X.K X.mg X.base x k ps sp)(a:Bs j X.A)(b:QA X (e::es) t)(hk:k<=j:=by decide)(hg:Gl X x:=by rfl)(Dv:(x == ("__debug__":Str))=false:=by decide)
  (he:FN X e es:=by rfl) (BN:BEq X pos es:=by rfl):QE X (.Call (.Name x p) (e::es) [] pos) (EZ sp [] E0 t):=ZBx h a hk b hg Dv he BN
theorem GI{r:R2}(ho:B0 X (compareOp op) r)(e:QE X a ta)(d:QE X b tb)(c:behindInMarks op b=false:=by first|exact ar _|with_unfolding_all rfl):QE X (.Compare a [op] [b] pos) (Au r ta tb):=k8 ho e d c
theorem Ax{r:R2}(ho:B0 X (compareOp op) r)(e:QE X a ta)(d:QE X b tb)(c:behindInMarks op b=false:=by first|exact ar _|with_unfolding_all rfl):QT X (.Compare a [op] [b] pos) (KY (Au r ta tb)):=pM ho e d c
theorem Ai(i:Nat){pos':Pos}(b:X.N.Nodup)(a:QE X e te)(hi:X.N[i]?=some x:=by rfl)(hx:Loc X.env.scope x:=by first|exact Or.inl rfl|exact Or.inr rfl)(hs:swapsWith e (some (.Name x pos')) pos.line X.env=pure false:=by rfl)(hf:X.fn x=true∨X.env.scope.names.lookup x=some .local:=by first|exact .inl rfl|exact .inr rfl|assumption):
  QS X (.Assign [.Name x pos'] e pos) (EH te (D8 i)):=vE b hi hx a hs hf
theorem Ci(i:Nat)(a:X.N.Nodup)(hi:X.N[i]?=some x:=by rfl)(hx:Loc X.env.scope x:=by first|exact Or.inl rfl|exact Or.inr rfl)(hf:X.fn x=true∨X.env.scope.names.lookup x=some .local:=by first|exact .inl rfl|exact .inr rfl|assumption):QG X (.Name x pos) (D8 i):=yj a hi hx hf
end
end L2
namespace Fz
open L2 Lw
variable{ns:List Str}
noncomputable def LR:Str:="line_of.<locals>.<lambda>"
def Cq(s:Stmt):Pos:=match EJ s with
 | [.Return (some (.Call _ _ [⟨_,.Lambda _ _ _ p,_⟩] _)) _]=>p
 |_=>⟨0,0,0,0⟩
def Ga(T:Addr)(pos:Pos)(ns:List Str):Hp->V->Prop:=λF v=>Rep F v (.lst (ns.map .str))/\F T=some (.CC (.tab pos LR))
theorem uE(T:Addr)(pos:Pos)(ns:List Str):∀F F',AI F F'->∀v,Ga T pos ns F v->Ga T pos ns F' v:=λF F' s v h=>⟨h.1.mono s,s _ _ h.2⟩
section
variable[Xw]
variable{ss:List Slot}{i j:Nat}{T:Addr}{pos:Pos}
theorem Tx{k:PV->Prop}(h:ss[i]?=some (.raw (Ga T pos ns)))(hk:k (.lst (ns.map .str))):Wp ss (Ap i) k:=⟨λE Z F H Q S q=>by
 obtain⟨v,a,r,_⟩:=S.ok i _ h;exact⟨v,a,q v _ F H (.refl S) r.1 hk⟩⟩
end
def Nw(Ls:List Lp)(ch:List Nat)(x:Str):Int:=((ch.filter λn=>match Ls[n]? with|some l=>decide (x∈l.cs)|none=>false).length:Nat)
noncomputable def Um:PV->Str
 | .str x=>x
 |_ => ""
theorem o7{ys:List PV}(p:ys.Perm (ns.map .str)):∃ms:List Str,ys=ms.map .str/\ms.Perm ns:=by
 refine⟨ys.map Um,?_,?_⟩
 .rw[CJ];refine(jO _).symm.trans (YW λy a=>?_);obtain⟨x,_,rfl⟩:=List.mem_map.mp (p.mem_iff.mp a);rfl
 .have q:=p.map Um;rw[CJ]at q;exact q.trans (by rw[show Um ∘ PV.str=id from rfl,jO])
def ZAc(Ls:List Lp)(ch:List Nat):PV->Int
 | .str x=>Nw Ls ch x
 |_=>0
def eQ(T:Addr)(pos:Pos):Pre:=λl R=>∃(ns:List Str)(Ls:List Lp)(ch:List Nat),l=[.raw (Ga T pos ns),.is (.lst (Ls.map Lp.P)),.is (.lst (ch.map λn:Nat=>PV.int n))]/\ns.length<=40/\Ls.length<=12/\ch.length<=12/\(∀n∈ch,n<Ls.length)/\
 R=.new λxs=>∃ms:List Str,xs=ms.map .str/\ms.Perm ns/\ms.Pairwise λa b=>Nw Ls ch a<=Nw Ls ch b
end Fz
set_option maxHeartbeats 400000
namespace L2
variable{ep i j mask n:Nat}{owner:Array (Option Nat)}{xs:List (Option Nat)}{α:Type}{prog:Program}{w:World}{A:Around}{E:Value->Shared->Prop}{s:Shared}{a r:Addr}{f:Str->Bool}{Q:Bool->Shared->Prop}{so:Obj}
noncomputable def lp(mask:Nat)(p:Nat×Nat):Nat×Nat:=SetTable.leap mask p.1 p.2
def Dz(mask:Nat):Nat->Nat×Nat->Nat×Nat
 | 0,p=>p
 |t+1,p=>Dz mask t (lp mask p)
theorem RB(mask a b:Nat)(p:Nat×Nat):Dz mask (a+b) p=Dz mask b (Dz mask a p):=by
 induction a generalizing p with
 |zero=>rw[Pd];rfl
 |succ a c=>rw[show a+1+b=(a+b)+1 by omega];exact c _
theorem W2(mask t:Nat)(p:Nat×Nat):(Dz mask t p).2=p.2 / 32 ^ t:=by
 induction t generalizing p with
 |zero=>simp[Dz]
 |succ t a=>
  show(Dz mask t (lp mask p)).2=_;rw[a];show p.2 / 32 / 32 ^ t=_;rw[Nat.div_div_eq_div_mul,jU,Nat.mul_comm]
theorem km(t:Nat){p:Nat×Nat}(h:p.1<=mask):(Dz mask t p).1<=mask:=by
 induction t generalizing p with
 |zero=>exact h
 |succ t a=>exact a (PZ (Yl _ (jV _)))
theorem sA(fuel i p:Nat)(h:SetTable.layClean.free mask owner fuel i p=none):∀t<fuel,(owner.getD (Dz mask t (i,p)).1 (some 0)).isNone=false:=by
 induction fuel generalizing i p with
 |zero=>intro t c;omega
 |succ fuel b=>
  intro t c;unfold SetTable.layClean.free at h;cases a:(List.range (SetTable.runEnd mask i+1 - i)).find? λk=>(owner.getD (i+k) (some 0)).isNone with
  |some k=>rw[a]at h;cases h
  |none=>
   rw[a]at h;cases t with
   |zero=>
    have q:=List.find?_eq_none.mp a 0 (by rw[TB];unfold SetTable.runEnd;split <;> omega)
    exact Bool.eq_false_iff.mpr (by simpa[Dz]using q)
   |succ t=>exact b _ _ h t (by omega)
def good(mask:Nat):Bool:=(Dz mask (mask+1) (0,0)).1 == 0 && (List.range (mask+1)).all λj=>(List.range (mask+1)).any λt=>(Dz mask t (0,0)).1 == j
theorem V4:[7,15,31,63,127].all good=true:=by decide +kernel
theorem m6(c:good mask=true)(hi:i<=mask)(d:j<=mask):∃t,t<=mask/\(Dz mask t (i,0)).1=j:=by
 unfold good at c;rw[DN,ZAO,Gr]at c;obtain⟨h,h1⟩:=c;have at':∀j,j<=mask->∃t,t<=mask/\(Dz mask t (0,0))=(j,0):=λj d=>by
  have q:=h1 j (List.mem_range.mpr (by omega));rw[Lq]at q;obtain⟨t,g,e⟩:=q;rw[TB]at g;rw[ZAO]at e;exact⟨t,by omega,Yo e (by rw[W2];simp)⟩
 obtain⟨a,l,ea⟩:=at' i hi;obtain⟨b,k,f⟩:=at' j d
 by_cases m:a<=b
 .refine⟨b - a,by omega,?_⟩;rw[<- ea,<- RB,show a+(b - a)=b by omega,f]
 .refine⟨b+(mask+1) - a,by omega,?_⟩;have e0:Dz mask (mask+1) (0,0)=(0,0):=Yo h (by rw[W2];simp);rw[<- ea,<- RB,show a+(b+(mask+1) - a)=(mask+1)+b by omega,RB,e0,f]
theorem nG(h:Int):SetTable.bits h<2 ^ 64:=by
 unfold SetTable.bits;have h1:=KO h (show(2 ^ 64:Int)≠0 by decide);have h2:=KN h (show(0:Int)<2 ^ 64 by decide);omega
theorem qC(f:good mask=true){p:Nat}(hi:i<=mask)(b:p<2 ^ 64)(d:j<=mask)(c:owner.getD j (some 0)=none):∃k,SetTable.layClean.free mask owner (SetTable.turns mask) i p=some k:=by
 cases h:SetTable.layClean.free mask owner (SetTable.turns mask) i p with
 |some k=>exact⟨k,rfl⟩
 |none=>
  have a:Dz mask 13 (i,p)=((Dz mask 13 (i,p)).1,0):=Yo rfl (by
   rw[W2];exact Nat.div_eq_of_lt (CS b (by decide)))
  obtain⟨t,g,e⟩:=m6 f (km 13 (p:=(i,p)) hi) d;have q:=sA _ _ _ h (13+t) (by unfold SetTable.turns;omega);rw[RB,a,e,c]at q;cases q
theorem ZC1(fuel i p k:Nat)(h:SetTable.layClean.free mask owner fuel i p=some k):owner.getD k (some 0)=none:=by
 induction fuel generalizing i p with
 |zero=>cases h
 |succ fuel b=>
  unfold SetTable.layClean.free at h;cases a:(List.range (SetTable.runEnd mask i+1 - i)).find? λk=>(owner.getD (i+k) (some 0)).isNone with
  |some k'=>
   rw[a]at h;cases h;have q:=List.find?_some a
   simpa using q
  |none=>rw[a]at h;exact b _ _ h
theorem nr{v:Nat}(h:xs[j]?=some none):((xs.set j (some v)).filterMap id).Perm (v::xs.filterMap id):=by
 induction xs generalizing j with
 |nil=>cases h
 |cons x xs a=>
  cases j with
  |zero=>
   cases h;exact Gq _
  |succ j=>
   have q:=a (j:=j) (by simpa using h)
   cases x with
   |none=>exact q
   |some y=>exact(q.cons y).trans (List.Perm.swap _ _ _)
theorem mz(h:(xs.filterMap id).length<xs.length):∃j:Nat,xs[j]?=some none:=by
 induction xs with
 |nil=>simp at h
 |cons x xs a=>
  cases x with
  |none=>exact⟨0,rfl⟩
  |some y=>
   obtain⟨j,b⟩:=a (by simpa using h)
   exact⟨j+1,by simpa using b⟩
theorem pP(s:good mask=true)(b:Array Int)(q:b.size<=mask):∃owner,SetTable.layClean mask b=some owner/\owner.size=mask+1/\(owner.toList.filterMap id).Perm (List.range b.size):=by
 have key:∀(l:List Int)(owner:Array (Option Nat))(k:Nat),owner.size=mask+1->(owner.toList.filterMap id).Perm (List.range k)->k+l.length<=mask->
   ∃Vw,l.foldl (λacc h=>do
    let (owner,k) <- acc
    let j <- SetTable.layClean.free mask owner (SetTable.turns mask) (SetTable.bits h % (mask+1)) (SetTable.bits h)
    pure (owner.setIfInBounds j (some k),k+1)) (some (owner,k))=some (Vw,k+l.length)/\Vw.size=mask+1/\(Vw.toList.filterMap id).Perm (List.range (k+l.length)):=by
  intro l
  induction l with
  |nil=>intro owner k h1 h2 _;exact⟨owner,rfl,h1,h2⟩
  |cons h l f=>
   intro owner k h1 h2 t;rw[Az]at t;obtain⟨j,m⟩:=mz (xs:=owner.toList) (by rw[h2.length_eq,Cc,C9];omega);have r:j<owner.size:=by have:=(List.getElem?_eq_some_iff.mp m).1;simpa using this
   have g:owner.getD j (some 0)=none:=by
    rw[Lm]at m;rw[j8,m];rfl
   obtain⟨c,o⟩:=qC (owner:=owner) s (i:=SetTable.bits h % (mask+1)) (p:=SetTable.bits h) (PZ (Yl _ (jV _))) (nG h) (show j<=mask by omega) g;have a:=ZC1 _ _ _ _ o;have v:owner.toList[c]?=some none:=by
    rw[Lm];rw[j8]at a;cases e:owner[c]? with
    |none=>rw[e]at a;cases a
    |some y=>rw[e]at a;exact pZ some a
   obtain⟨o',u,s',d⟩:=f (owner.setIfInBounds c (some k)) (k+1) (by simpa using h1) (by
    rw[Array.toList_setIfInBounds];refine(nr v).trans ?_;rw[List.range_succ];exact(h2.cons k).trans (List.perm_append_singleton k _).symm) (by omega)
   refine⟨o',?_,s',by rw[Az,show k+(l.length+1)=k+1+l.length by omega];exact d⟩;rw[N4,Az,show k+(l.length+1)=k+1+l.length by omega,<- u]
   congr 1
   show(some (owner,k)).bind _=_;simp only[ZCv,o];rfl
 obtain⟨o',e,s',d⟩:=key b.toList (Array.replicate (mask+1) none) 0 (by simp) (by
  rw[Array.toList_replicate];have:∀n,(List.replicate n (none:Option Nat)).filterMap id=[]:=λn=>by induction n with
   |zero=>rfl
   |succ n f=>rw[ZCm];exact f
  rw[this];exact Gq _) (by simpa using q)
 refine⟨o',?_,s',by simpa using d⟩
 unfold SetTable.layClean;rw[<- Array.foldl_toList,e];rfl
theorem Wh(f:good mask=true)(g mv:Nat)(ld pl:Bool)(b:Array Int)(d:b.size<=mask):∃t a,SetTable.laid mask g mv ld pl b=some (t,a)/\t.led=ld/\t.plain=pl/\t.mask=mask/\t.dummies=#[]/\t.place.size=b.size/\a.toList.Perm (List.range b.size):=by
 obtain⟨owner,e,s,p⟩:=pP f b d;have c:((List.range (mask+1)).filterMap λj=>(owner.getD j none).map λx=>(j,x)).map (·.2)=owner.toList.filterMap id:=by
  rw[List.map_filterMap];have h:owner.toList=(List.range (mask+1)).map λj=>owner.getD j none:=by
   refine T4 (by simp[s]) λn h1 h2=>?_;simp at h1;simp[j8,h1]
  rw[h,List.filterMap_map]
  congr 1
  funext j
  show Option.map _ (Option.map _ (owner.getD j none))=owner.getD j none;cases owner.getD j none <;> rfl
 refine⟨_,_,by unfold SetTable.laid;rw[e];rfl,rfl,rfl,rfl,rfl,?_,?_⟩
 .have q:=pZ List.length c;rw[AA]at q;rw[Bu,AA];exact q.trans (by rw[p.length_eq,Cc])
 .show(List.map _ _).Perm _;rw[c];exact p
theorem La[DecidableEq α]{l:List α}:∀{m:List α},l.Nodup->(∀k∈l,k∈m)->l.length<=m.length:=by
 induction l with
 |nil=>intro m _ _;exact Bm _
 |cons x r b=>
  intro m c a;obtain⟨h1,h2⟩:=List.nodup_cons.mp c;have hx:=a x Ar;have:=b (m:=m.erase x) h2 λk hk=>(PX (λe:k=x=>h1 (e▸hk))).mpr (a k (BG _ hk));rw[KQ hx]at this;have:=T6 hx;rw[Az];omega
theorem pS[DecidableEq α]{ds A B:List α}{k:α}(nd:ds.Nodup)(b:∀x∈ds,x∈A++k::B)(a:(A++k::B).length<=ds.length):k∉A++B:=by
 intro hk;have q:=La (m:=A++B) nd λx hx=>by
  rcases List.mem_append.mp (b x hx)with h|h
  .exact List.mem_append.mpr (.inl h)
  .rcases List.mem_cons.mp h with rfl|h
   .exact hk
   .exact List.mem_append.mpr (.inr h)
 simp only[BF,Az]at a q;omega
theorem Ab.typeIs(h:Ab prog w s.heap a f n):s.TypeIs (.ref a) "set" := by
 obtain⟨o,_,_,_,ho,b,_⟩:=h;exact⟨o,ho,b.1⟩
theorem eP(l:List Addr)(d:∀a∈l,∃f n,Ab prog w s.heap a f n)(h:Q true s):wpAny (model prog w) A (setsQuiet l) Q E s:=by
 unfold setsQuiet;refine dP ?_;refine ZBQ _ (λrest r s'=>s'=s/\r=(none,())/\∀a∈rest,∃f n,Ab prog w s.heap a f n) _ ?_ ?_ _ _ ⟨rfl,rfl,d⟩
 .rintro a rest r s'⟨rfl,rfl,c⟩;obtain⟨f,n,o,es,ep,t,ho,i,hd,BQ,BI,m,g,j,C3,BN⟩:=c a Ar;refine dP (rG ho hd g ?_);refine dP (jS _ (λrest r s2=>s2=s'/\r=(none,())/\∀e∈rest,∃k,(PySem.strKind prog w).is k e.2=true) _ ?_ ?_ _ _ ⟨rfl,rfl,BQ.keys⟩)
  .rintro⟨hh,x⟩ZDb r s2⟨rfl,rfl,Rm⟩;obtain⟨k,hk⟩:=Rm _ Ar;obtain⟨tk,rfl⟩:=JT hk;exact k4 ⟨rfl,rfl,λe b=>Rm e (BG _ b)⟩
  .rintro r s2⟨rfl,rfl,_⟩;exact k4 ⟨rfl,rfl,λe b=>c e (BG _ b)⟩
 .rintro r s'⟨rfl,rfl,_⟩;exact k4 h
noncomputable def kv:Value->Str
 | .str k _=>k
 |_=>default
theorem MN{es:List (Int×Value)}(BQ:ElemsOf (PySem.strKind prog w) es)(k:Str):(∃e∈es,(PySem.strKind prog w).is k e.2=true)↔k∈es.map (kv ·.2):=by
 rw[List.mem_map];constructor
 .rintro⟨e,a,hk⟩;obtain⟨t,b⟩:=JT hk;exact⟨e,a,by rw[b];rfl⟩
 .rintro⟨e,a,rfl⟩;obtain⟨⟨k,hk,_⟩,_⟩:=BQ e a;obtain⟨t,b⟩:=JT hk;refine⟨e,a,?_⟩;rw[b];exact Yq prog w _ t
theorem Ab.cut{ds:List Str}{k:Str}{tk:Tok}(nd:ds.Nodup)(I:Ab prog w s.heap a (λk=>decide (k∈ds)) ds.length)
  (J:k∉ds->Q false s)
  (h1:k∈ds->∀h',Heap.SameBut a s.heap h'->Ab prog w h' a (λk'=>decide (k'∈ds.erase k)) (ds.erase k).length->Q true { s with heap:=h' }) :
  wpAny (model prog w) A (setDiscardHashed a (.str k tk) ((PySem.strKind prog w).hash k)) Q E s:=by
 obtain⟨o,es,ep,t,ho,i,hd,BQ,BI,H,b,q,C3,BN⟩:=I;have M:(PySem.strKind prog w).is k (.str k tk)=true:=Yq prog w k tk;have N:(Value.str k tk).scannable=true:=rfl;have d:∀k,k∈ds↔k∈es.toList.map (kv ·.2):=λk=>by rw[<- MN BQ,<- BI k,qO]
 unfold setDiscardHashed setFind setFindIn;refine dP (dP (qJ ho hd b ?_));dsimp only;rw[byScan_of N H BQ];simp only[↓reduceIte];refine dP (xU ?_);refine dP (ZBL M ho hd b BQ ?_);cases m:List.findIdx? (λe=>(PySem.strKind prog w).is k e.2) es.toList with
 |none=>
  dsimp only;refine k4 ?_;dsimp only;refine k4 (J λhk=>?_);obtain⟨e,l,y⟩:=(MN BQ k).mpr ((d k).mp hk);have:=List.findIdx?_eq_none_iff.mp m e l;rw[y]at this;exact Bool.noConfusion this
 |some j=>
  dsimp only;refine k4 ?_;dsimp only;obtain⟨g,M9,_⟩:=List.findIdx?_eq_some_iff_getElem.mp m;have hk:k∈ds:=(d k).mpr ((MN BQ k).mp ⟨_,Gs g,M9⟩);refine dP (qJ ho hd b ?_);dsimp only;have G:j<es.size:=by simpa using g
  rw[Pd];have el:(SetTable.eraseAt es j).toList=es.toList.take j++es.toList.drop (j+1):=by
   unfold SetTable.eraseAt;rw[j9,ZCH,ZCH];simp;exact PY (by simp)
  have K:(SetTable.eraseAt es j).size=es.size - 1:=by
   rw[<- C9,el];simp;omega
  have sp:es.toList=es.toList.take j++es.toList[j]::es.toList.drop (j+1):=by
   rw[<- T3 g,Ye]
  have D:kv es.toList[j].2=k:=by
   obtain⟨t,L⟩:=JT M9;rw[L];rfl
  have f:es.toList.map (kv ·.2)=(es.toList.take j).map (kv ·.2)++k::(es.toList.drop (j+1)).map (kv ·.2):=by
   conv=>lhs;rw[sp]
   rw[Cs,DG,D]
  have nk:=pS (k:=k) (A:=(es.toList.take j).map (kv ·.2)) (B:=(es.toList.drop (j+1)).map (kv ·.2)) nd (λx hx=>by rw[<- f];exact(d x).mp hx) (by rw[<- f,AA,C9,q];exact Aa _)
  have u:(SetTable.eraseAt es j).size<scanBound:=by omega
  refine dP (tG ho hd ?_ (sg u));refine dP (wpAny_point ?_);have C:t.place.size=es.size:=OM b;have v:t.fill<=t.mask:=by
   unfold SetTable.fits at b;rw[DN,qO]at b;exact b.2
  have n:t.place[j]?=some (t.place[j]'(by omega)):=IG _;have td:t.drop j={ t with place:=SetTable.eraseAt t.place j,dummies:=SetTable.insertAt t.dummies (SetTable.below t.dummies (t.place[j]'(by omega))) (t.place[j]'(by omega)) }:=by
   unfold SetTable.drop;rw[n]
  have F:∀(xs:Array Nat)(p x:Nat),(SetTable.insertAt xs p x).size<=xs.size+1:=λxs p x=>by
   unfold SetTable.insertAt;simp;omega
  have pz:∀(xs:Array Nat)(p:Nat),p<xs.size->(SetTable.eraseAt xs p).size=xs.size - 1:=λxs p n=>by
   unfold SetTable.eraseAt;simp;omega
  have r:ElemsOf (PySem.strKind prog w) (SetTable.eraseAt es j).toList:=by
   rw[el];intro e l;refine BQ e ?_;rw[sp];rcases List.mem_append.mp l with h|h
   .exact List.mem_append.mpr (.inl h)
   .exact List.mem_append.mpr (.inr (BG _ h))
  refine k4 (h1 hk _ (FI s.heap a _) ⟨_,SetTable.eraseAt es j,_,_,Hq ho hd _ _,i,rfl,?_,λk'=>?_,u,?_,?_,?_,λz=>?_⟩)
  .exact r
  .rw[MN r,el,Cs,qO,nd.mem_erase_iff,d,f];constructor
   .rintro⟨Af,c⟩;rcases List.mem_append.mp c with h|h
    .exact List.mem_append.mpr (.inl h)
    .rcases List.mem_cons.mp h with h|h
     .exact absurd h Af
     .exact List.mem_append.mpr (.inr h)
   .intro c;refine⟨λe=>nk (e▸c),?_⟩;rcases List.mem_append.mp c with h|h
    .exact List.mem_append.mpr (.inl h)
    .exact List.mem_append.mpr (.inr (BG _ h))
  .rw[td];unfold SetTable.fits SetTable.fill;rw[DN,ZAO,qO];have P:=pz t.place j (by omega);have O:=F t.dummies (SetTable.below t.dummies (t.place[j]'(by omega))) (t.place[j]'(by omega));unfold SetTable.fill at v;refine⟨by show(SetTable.eraseAt t.place j).size=_;omega,?_⟩;show(SetTable.eraseAt t.place j).size+(SetTable.insertAt _ _ _).size<=t.mask;omega
  .rw[K,KQ hk,q]
  .rw[td];exact C3
  .rw[td];exact BN (by omega)
noncomputable def ZO(n:Nat):Bool:=[7,15,31,63,127].contains (SetTable.sizeAbove ((0+n) * 2) - 1) && decide (n<=SetTable.sizeAbove ((0+n) * 2) - 1) && decide (SetTable.sizeAbove ((0+n) * 2)<=128)
theorem ZBJ:(List.range 64).all ZO=true:=by decide +kernel
section
structure Va (w:World) (h:Heap) (r:Addr) (n:Nat) (so:Obj) (ep:Nat) (t:SetTable):Prop where
 at':h.get? r=some so
 ex:so.ExactSet
 dt:so.data=.set #[] ep t
 pl:t.place=#[]
 dm:t.dummies=#[]
 ld:t.led=!BV w
 gd:good t.mask=true
 rm:n<=t.mask
theorem Va.fits{h:Heap}{t:SetTable}(x:Va w h r n so ep t):t.fits (#[]:Array (Int×Value)).size=true:=by
 unfold SetTable.fits SetTable.fill;rw[x.pl,x.dm];simp
theorem yE{Q:Unit->Shared->Prop}(b:s.heap.get? r=some so)(hx:so.ExactSet)(hd:so.data=.set #[] 0 (.fresh 0 0 (!BV w)))(l:n<64)
  (h:∀h' i ep t,Heap.SameBut r s.heap h'->Va w h' r n i ep t->Q () { s with heap:=h' }):wpAny (model prog w) A (setRoomFor r n) Q E s:=by
 have e:(SetTable.fresh 0 0 (!BV w)).fits (#[]:Array (Int×Value)).size=true:=rfl;unfold setRoomFor;refine dP (qJ b hd e ?_);dsimp only;have g:(SetTable.fresh 0 0 (!BV w)).roomFor n=if(0+n) * 5>=7 * 3 then some ((0+n) * 2)else none:=rfl
 rw[g]
 by_cases d:(0+n) * 5>=7 * 3
 .rw[p7 d];dsimp only;have q:=List.all_eq_true.mp ZBJ n (List.mem_range.mpr l);unfold ZO at q;rw[DN,DN,qO,qO]at q;obtain⟨⟨c,k⟩,z⟩:=q;replace c:=List.all_eq_true.mp V4 _ (List.contains_iff_mem.mp c);unfold setRelay;refine dP (qJ b hd e ?_);dsimp only;have j:¬ SetTable.sizeAbove ((0+n) * 2) > sizeLine:=by
   have:128<=sizeLine:=by decide +kernel
   omega
  rw[mD j];obtain⟨t,a,e1,y,B,f,x,v,u⟩:=Wh c 0 ((SetTable.fresh 0 0 (!BV w)).movedTo (SetTable.sizeAbove ((0+n) * 2) - 1)) (!BV w) true #[] (Bm _);have p:(SetTable.fresh 0 0 (!BV w)).relaid ((#[]:Array (Int×Value)).map (·.1)) ((0+n) * 2)=some (t,a):=by
   have m:(#[]:Array (Int×Value)).map (·.1)=#[]:=by simp
   rw[m];unfold SetTable.relaid;exact e1
  refine dP ?_
  wp_delta
  rw[p];dsimp only;have o:a=#[]:=by
   have:=u.length_eq;simp at this;exact this
  subst o;rw[mD (by simp)];refine k4 ?_;dsimp only;refine tG b hd ?_ (Bm _);exact h _ _ _ t (FI s.heap r _) ⟨Hq b hd _ _,hx,rfl,ZCE v,x,y,by rw[f];exact c,by rw[f];exact k⟩
 .rw[mD d];dsimp only;exact k4 (h s.heap so 0 _ (Ln r s.heap) ⟨b,hx,hd,rfl,rfl,rfl,List.all_eq_true.mp V4 7 (by simp),by show n<=7;omega⟩)
theorem nE{b:Addr}{d:Sem Unit}{Q:Unit->Shared->Prop}(Af:r≠b)(p:s.heap.get? r=some so)(hx:so.ExactSet)(hd:so.data=.set #[] 0 (.fresh 0 0 (!BV w)))
  (G:Ab prog w s.heap b f n) (M:n<64) (h:∀h',Heap.SameBut r s.heap h'->Ab prog w h' r f n->Q () { s with heap:=h' }):wpAny (model prog w) A (setMerge r b d) Q E s:=by
 obtain⟨o,es,ep,t,ho,F,m,BQ,BI,c,u,j,C3,BN⟩:=G;unfold setMerge;rw[mD (by simpa using Af)]
 refine dP (qJ ho m u ?_);dsimp only
 by_cases i:es.isEmpty=true
 .rw[p7 i];have e0:es=#[]:=by simpa using i
  subst e0;exact k4 (h s.heap (Ln r s.heap) ⟨so,#[],0,_,p,hx,hd,BQ,BI,c,rfl,j,rfl,λz=>by simp at z⟩)
 .rw[mD i];have MW:0<es.size:=by
   rcases ZCq es.size with z|z
   .exact absurd (by simpa using ZCE z) i
   .exact z
  refine dP (yE p hx hd (n:=es.size) (by omega) λh1 D H t1 G4 B=>?_);refine dP (qJ (s:={ s with heap:=h1 }) B.at' B.dt B.fits ?_)
  dsimp only;have C:¬ (t1.fill != 0)=true:=by unfold SetTable.fill;rw[B.pl,B.dm];simp
  by_cases v:(t1.mask == t.mask && t.dummies.isEmpty)=true
  .have e:t1.road t=.slotForSlot:=by unfold SetTable.road;rw[mD C,p7 v]
   rw[e];dsimp only;refine tG (s:={ s with heap:=h1 }) B.at' B.dt ?_ (sg c)
   refine h _ (G4.trans (FI h1 r _)) ⟨_,es,_,_,Hq B.at' B.dt _ _,B.ex,rfl,BQ,BI,c,u,j,?_,λz=>?_⟩
   .show(t1.led && t.led)=!BV w;rw[B.ld,C3,Bool.and_self]
   .show(t1.plain && t.plain)=false;rw[BN z,IH]
  .have e:t1.road t=.clean:=by unfold SetTable.road;rw[mD C,mD v]
   rw[e];dsimp only;obtain⟨t',a,e1,L,K,J,I,y,x⟩:=Wh B.gd t1.finger t1.moves (t1.led && t.led) (t1.plain && t.plain) (es.map (·.1)) (by rw[YH];exact B.rm)
   rw[YH]at y x;refine dP ?_
   wp_delta
   rw[e1];dsimp only;have g:(a.filterMap (es[·]?)).toList.Perm es.toList:=by
    rw[ZCI];exact(x.filterMap _).trans (by rw[filterMap_getElem?_range])
   have zz:(a.filterMap (es[·]?)).size=es.size:=by rw[<- C9,g.length_eq,C9]
   rw[mD (by rw[zz];simp)];refine k4 ?_;dsimp only;refine tG (s:={ s with heap:=h1 }) B.at' B.dt ?_ (sg (by rw[zz];exact c))
   refine h _ (G4.trans (FI h1 r _)) ⟨_,_,_,_,Hq B.at' B.dt _ _,B.ex,rfl,BQ.perm g,λk=>(BI k).trans ⟨λ⟨e,l,q⟩=>⟨e,g.mem_iff.mpr l,q⟩,λ⟨e,l,q⟩=>⟨e,g.mem_iff.mp l,q⟩⟩,by rw[zz];exact c,?_,zz.trans j,?_,λ_=>?_⟩
   .unfold SetTable.fits SetTable.fill;rw[I,y,zz,J];have:=B.rm;simp;omega
   .rw[L,B.ld,C3,Bool.and_self]
   .rw[K,BN MW,IH]
variable{X:Cx}
end
end L2
set_option maxHeartbeats 4000000
namespace Fz
open L2 Lw
theorem Qh(ns:List Str):(λk'=>(dd ns).any (· == k'))=λk'=>decide (k'∈dd ns):=by
 funext k
 rw[Hf,qO];simp
end Fz
namespace L2
variable{prog:Program}{w:World}{A:Around}{E:Value->Shared->Prop}{s:Shared}{a b r:Addr}{o:Obj}{es:Array (Int×Value)}{ep m mask n:Nat}{t:SetTable}{Q:Array (Int×Value)->Shared->Prop}{f g:Str->Bool}{Iv:String}{X:Cx}{gs:List Str}
theorem qR{p:Str->Bool}{j:Nat}(l:Ab prog w s.heap a f n)(C:Ab prog w s.heap b g m)(i:Ab prog w s.heap r p j)
  (ho:s.heap.get? a=some o) (hd:o.data=.set es ep t)
  (h:∀(BJ:Array (Int×Value))(h':Heap),BJ.toList.Perm es.toList->Heap.SameBut r s.heap h'->Ab prog w h' r p j->Q BJ { s with heap:=h' }):wpAny (model prog w) A (setWalkUnseen a [b,r] (some r)) Q E s:=by
 have F:=l;obtain⟨o',BJ,Es,t',Bz,B,G1,BQ,BI,I,k,H,C3,BN⟩:=l;rw[ho]at Bz;cases Bz;rw[hd]at G1;cases G1;unfold setWalkUnseen setsByText;refine dP (qJ ho hd k ?_);dsimp only;refine dP (dP (rB (k4 ?_)));show wpAny _ _ (if(BV w || (t.led && t.plain) || decide (es.size<=1))=true then _ else _) _ _ _
 by_cases e:(BV w || (t.led && t.plain) || decide (es.size<=1))=true
 .rw[p7 e];refine ic ho hd k C3 (λG8=>?_) λBJ q=>h BJ s.heap q (Ln r s.heap) i;rw[G8]at e C3;cases v:t.plain with
  |true=>rfl
  |false=>
   rw[v]at e;simp only[IH,jB,YI,qO]at e;simp only[Bool.not_false,GF,ZAD];omega
 .rw[mD e];refine dP (eP _ (λx hx=>?_) ?_)
  .simp only[CK,BH,su]at hx;rcases hx with rfl|rfl|rfl
   .exact⟨_,_,F⟩
   .exact⟨_,_,C⟩
   .exact⟨_,_,i⟩
  rw[mD (by decide)];refine dP (xU ?_);obtain⟨u,GJ,D,t2,DZ,d,c,Px,YE,MS,OQ,KW,Uc,Tw⟩:=i;refine dP (qJ DZ c OQ ?_);dsimp only;have y:t.led=true:=by
   rw[C3];cases G:BV w with
   |false=>rfl
   |true=>rw[G]at e;simp at e
  split
  .refine dP (tG DZ c ?_ (sg MS));refine k4 (h es _ (Gq _) (FI s.heap r _) ⟨_,GJ,_,_,Hq DZ c GJ _,d,rfl,Px,YE,MS,OQ,KW,?_,λz=>?_⟩)
   .show(t2.led && t.led)=!BV w;rw[y,Uc,Sz]
   .show(t2.plain && t.plain)=false;rw[Tw z,T1]
  .exact k4 (h es s.heap (Gq _) (Ln r s.heap) ⟨u,GJ,D,t2,DZ,d,c,Px,YE,MS,OQ,KW,Uc,Tw⟩)
theorem Ab.setOf{b:Heap}(h:Ab prog w b a f n):b.SetOf (PySem.strKind prog w) a f n:=by
 obtain⟨o,es,ep,t,h1,h2,j,i,g,e,d,c,_⟩:=h;exact⟨o,es,ep,t,h1,h2,j,i,g,e,d,c⟩
theorem Hx{Q:Nat->Shared->Prop}(e:Ab prog w s.heap a f n)(h:Q n s):wpAny (model prog w) A (Builtin.Frozenset.sizeOf a) Q E s:=by
 obtain⟨o,es,ep,t,ho,d,hd,BQ,BI,g,c,b,C3,BN⟩:=e;unfold Builtin.Frozenset.sizeOf;refine dP (rG ho hd c (k4 ?_));rw[b];exact h
theorem sj{Q:Value->Shared->Prop}(B:Ab prog w s.heap a f n)(C:Ab prog w s.heap b g m)(hsz:n / 4<=m)
  (h:∀(h':Heap)(ds:List Str),ds.Nodup->(∀k,k∈ds↔f k=true/\g k=false)->ds.length<=n->Ab prog w h' s.heap.objs.size (λk=>decide (k∈ds)) ds.length->(∀b o,s.heap.get? b=some o->h'.get? b=some o)->Q (.ref s.heap.objs.size) { s with heap:=h' }) :
  wpAny (model prog w) A (Builtin.Frozenset.difference Iv a (.ref b)) Q E s:=by
 unfold Builtin.Frozenset.difference;refine dP (MG C.typeIs ?_);dsimp only;rw[mD (by decide)];refine dP (rC (a:=b) rfl ?_);rw[mD (by simp)];rw[p7 rfl];refine dP (Hx C ?_);refine dP (Hx B ?_);rw[mD (by omega)];refine dP ?_;unfold Builtin.Frozenset.baseOf;refine dP (uh (b:=true) B.typeIs (by rw[wB];kernel_rfl) ?_);refine k4 ?_;rw[p7 rfl];unfold newSet setsByText;refine dP (dP (dP (rB (k4 ?_))));dsimp only;refine r6 ?_;show wpAny _ _ _ _ _ { s with heap:=s.heap.push { cls:=.type "set", data:=.set #[] 0 (.fresh 0 0 (!BV w)) } }
 generalize P:({ cls:=.type "set", data:=.set #[] 0 (.fresh 0 0 (!BV w)) }:Obj)=so;have Vq:(s.heap.push so).get? s.heap.objs.size=some so:=B1 _ (by rw[<- P];rfl);have H:∀b o,s.heap.get? b=some o->(s.heap.push so).get? b=some o:=λb o e=>Aj _ e;have WD:Ab prog w (s.heap.push so) s.heap.objs.size (λ_=>false) 0:=by
  subst P;exact⟨_,#[],0,_,Vq,⟨rfl,rfl,rfl⟩,rfl,λe c=>by simp at c,λk=>by simp,by decide,by rfl,rfl,rfl,λz=>by simp at z⟩
 have R:Ab prog w (s.heap.push so) a f n:=B.keep λo e=>H _ _ e;have O:Ab prog w (s.heap.push so) b g m:=C.keep λo e=>H _ _ e;have Ig:=R;obtain⟨o,es,ep,t,ho,σ,hd,BQ,BI,hb,L,J,C3,BN⟩:=Ig;have AB:a<s.heap.objs.size:=by obtain⟨o,_,_,_,ho,_⟩:=B;exact AU ho
 have RM:b<s.heap.objs.size:=by obtain⟨o,_,_,_,ho,_⟩:=C;exact AU ho
 refine dP (rC (a:=s.heap.objs.size) rfl ?_);refine dP (tK (s:={ s with heap:=s.heap.push so }) ho hd L ?_)
 refine dP (qY ?_);rw[p7 rfl];refine dP (qR (s:={ s with heap:=s.heap.push so }) R O WD ho hd λBJ h1 F G4 Xj=>?_)
 have S:s.heap.objs.size≠a:=DQ AB;have W:s.heap.objs.size≠b:=DQ RM;have zz:BJ.toList.length=es.size:=by rw[F.length_eq,C9]
 refine dP (jS _ (λrest _ s2=>∃(h2:Heap)(ds:List Str),s2={ s with heap:=h2 }/\Heap.SameBut s.heap.objs.size (s.heap.push so) h2/\ds.Nodup/\Ab prog w h2 s.heap.objs.size (λk=>decide (k∈ds)) ds.length/\ds.length+rest.length<=n/\
   (∀k∈ds,f k=true/\g k=false)/\(∀k,f k=true->g k=false->k∈ds∨∃e∈rest,(PySem.strKind prog w).is k e.2=true)/\∀e∈rest,e∈es.toList) _ ?_ ?_ _ _ ⟨h1,[],rfl,G4,Hh,Xj.congr (λk=>by simp) rfl,by rw[zz,J];simp,λk hk=>by simp at hk,λk hk v=>.inr ?_,λe c=>F.mem_iff.mp c⟩)
 .rintro⟨X,x⟩rest u s2⟨h2,ds,rfl,j,nd,IQ,G,l,D,q⟩;obtain⟨⟨k,hk,hh⟩,FZ⟩:=BQ _ (q _ Ar);obtain⟨tk,rfl⟩:=JT hk;have Na:X=(PySem.strKind prog w).hash k:=hh;subst Na;have T:f k=true:=(BI k).mpr ⟨_,q _ Ar,hk⟩;have U:Ab prog w h2 b g m:=O.keep λo e=>by rw[j.2 b (Bh W)];exact e
  have fj:h2.get? a=some o:=by rw[j.2 a (Bh S)];exact ho
  refine dP (qY ?_);rw[p7 rfl];dsimp only;refine dP (wpAny_setFind_of (knd:=PySem.strKind prog w) (k:=k) (s:={ s with heap:=h2 }) hk FZ U.setOf λr Y=>?_)
  refine dP (k4 ?_);rw[Y];have more:∀Dc:List Str,(∀k',k'∈Dc↔k'∈ds∨(k'=k/\g k=false))->∀k',f k'=true->g k'=false->k'∈Dc∨∃e∈rest,(PySem.strKind prog w).is k' e.2=true:=by
   intro Dc K k' Kx M;rcases D k' Kx M with z|⟨e,c,z⟩
   .exact .inl ((K k').mpr (.inl z))
   .rcases List.mem_cons.mp c with rfl|c
    .have e1:=(PySem.strKind prog w).inj _ k' k z hk;subst e1;exact .inl ((K k').mpr (.inr ⟨rfl,M⟩))
    .exact .inr ⟨e,c,z⟩
  have d:∀(i:Heap)(Dc:List Str),Heap.SameBut s.heap.objs.size (s.heap.push so) i->Dc.Nodup->Ab prog w i s.heap.objs.size (λk=>decide (k∈Dc)) Dc.length->Dc.length+rest.length<=n->(∀k∈Dc,f k=true/\g k=false)->(∀k',f k'=true->g k'=false->k'∈Dc∨∃e∈rest,(PySem.strKind prog w).is k' e.2=true)->
    wpAny (model prog w) A (do Builtin.Frozenset.unchanged Iv a ep;pure (ForInStep.yield PUnit.unit)) (λr s'=>match r with | .yield b'=>∃(h2:Heap)(ds:List Str),s'={ s with heap:=h2 }/\Heap.SameBut s.heap.objs.size (s.heap.push so) h2/\ds.Nodup/\Ab prog w h2 s.heap.objs.size (λk=>decide (k∈ds)) ds.length/\ds.length+rest.length<=n/\
   (∀k∈ds,f k=true/\g k=false)/\(∀k,f k=true->g k=false->k∈ds∨∃e∈rest,(PySem.strKind prog w).is k e.2=true)/\∀e∈rest,e∈es.toList | .done b'=>False) E { s with heap:=i }:=by
   intro i Dc Ki Eb Xx E8 p1 p2;have V:i.get? a=some o:=by rw[Ki.2 a (Bh S)];exact ho
   unfold Builtin.Frozenset.unchanged;refine dP (dP (tK (s:={ s with heap:=i }) V hd L ?_))
   rw[mD (by simp)];refine k4 ?_;exact k4 ⟨i,Dc,rfl,Ki,Eb,Xx,E8,p1,p2,λe c=>q e (BG _ c)⟩
  rw[Az]at G;cases v:g k with
  |true=>
   rw[mD (by decide)];refine k4 ?_;refine qP (d h2 ds j nd IQ (by omega) l (more ds λk'=>⟨.inl,λz=>z.elim id λz=>by rw[v]at z;cases z.2⟩)) (λr s' z=>?_) λ_ _ z=>z;cases r with
   |yield _=>exact z
   |done _=>exact z.elim
  |false=>
   rw[p7 (by decide)];have Vt:n<scanBound:=by rw[<- J];exact hb
   refine dP (Ab.put (s:={ s with heap:=h2 }) IQ (by omega) λi Ng Mg=>?_)
   refine k4 ?_;have N:=j.trans Ng
   by_cases p:k∈ds
   .refine qP (d i ds N nd (Mg.congr (λk'=>?_) ?_) (by omega) l (more ds λk'=>⟨.inl,λz=>z.elim id λz=>z.1▸p⟩)) (λr s' z=>?_) λ_ _ z=>z
    .by_cases e:k'=k
     .subst e;simp[p]
     .simp[e]
    .simp[p]
    .cases r with
     |yield _=>exact z
     |done _=>exact z.elim
   .refine qP (d i (ds++[k]) N ?_ (Mg.congr (λk'=>?_) ?_) ?_ ?_ (more _ λk'=>?_)) (λr s' z=>?_) λ_ _ z=>z
    .rw[FJ];exact⟨nd,List.nodup_cons.mpr ⟨by simp,Hh⟩,λx hx y I=>by
      rw[KS]at I;subst I;exact λe=>p (e▸hx)⟩
    .by_cases e:k'=k
     .subst e;simp
     .simp[e]
    .simp[p]
    .rw[BF];simp only[Az,KR];omega
    .intro k' IC;rcases List.mem_append.mp IC with z|z
     .exact l k' z
     .rw[KS]at z;subst z;exact⟨T,v⟩
    .rw[PU,KS];exact⟨λz=>z.elim .inl λe=>.inr ⟨e,v⟩,λz=>z.elim .inl λe=>.inr e.1⟩
    .cases r with
     |yield _=>exact z
     |done _=>exact z.elim
 .rintro u s2⟨h2,ds,rfl,j,nd,IQ,G,l,D,q⟩;refine k4 (k4 ?_);refine h h2 ds nd (λk=>⟨l k,λz=>?_⟩) (by simpa using G) IQ λx ox e=>?_
  .rcases D k z.1 z.2 with z|⟨e,c,_⟩
   .exact z
   .simp at c
  .rw[j.2 x (An (AU e))];exact H _ _ e
 .obtain⟨e,c,z⟩:=(BI k).mp hk;exact⟨e,F.mem_iff.mpr c,z⟩
def Ue(mask:Nat):Nat->Nat×Nat->List Nat
 | 0,_=>[]
 |k+1,p=>p.1::Ue mask k (lp mask p)
theorem kB{j:Nat}:∀{k:Nat}{p:Nat×Nat},j∈Ue mask k p->∃t,t<k/\(Dz mask t p).1=j:=by
 intro k
 induction k with
 |zero=>intro p h;cases h
 |succ k a=>
  intro p h;rcases List.mem_cons.mp h with e|h
  .exact⟨0,by omega,e.symm⟩
  .obtain⟨t,b,e⟩:=a h;exact⟨t+1,by omega,e⟩
theorem oK(c:((Dz mask (mask+1) (0,0)).1 == 0)=true)(h:((List.range (mask+1)).all λj=>(Ue mask (mask+1) (0,0)).contains j)=true):good mask=true:=by
 unfold good;rw[DN];refine⟨c,?_⟩;rw[Gr]at h ⊢;intro j b;obtain⟨t,a,e⟩:=kB (List.contains_iff_mem.mp (h j b));rw[Lq];exact⟨t,List.mem_range.mpr a,by rw[ZAO];exact e⟩
theorem zi:good 255=true:=oK (by decide +kernel) (by decide +kernel)
noncomputable def tidy(n:Nat):Bool:=[7,15,31,63,127,255].contains (SetTable.sizeAbove (SetTable.grown n) - 1) && decide (n<=SetTable.sizeAbove (SetTable.grown n) - 1) && decide (SetTable.sizeAbove (SetTable.grown n)<=256)
theorem xB:(List.range 64).all tidy=true:=by decide +kernel
theorem jl(h:[7,15,31,63,127,255].contains mask=true):good mask=true:=by
 have:=List.contains_iff_mem.mp h;rcases List.mem_append.mp (show mask∈[7,15,31,63,127]++[255]from this)with h|h
 .exact List.all_eq_true.mp V4 _ h
 .rw[List.mem_singleton.mp h];exact zi
theorem xu(d:Ab prog w s.heap a f n)(k:Ab prog w s.heap r g m)
  (ho:s.heap.get? a=some o) (hd:o.data=.set es ep t)
  (h:∀(BJ:Array (Int×Value)),BJ.toList.Perm es.toList->Q BJ s):wpAny (model prog w) A (setWalkUnseen a [r] none) Q E s:=by
 have l:=d;obtain⟨o',BJ,Es,t',Bz,j,G1,BQ,BI,q,c,p,C3,BN⟩:=d;rw[ho]at Bz;cases Bz;rw[hd]at G1;cases G1;unfold setWalkUnseen setsByText;refine dP (qJ ho hd c ?_);dsimp only;refine dP (dP (rB (k4 ?_)));show wpAny _ _ (if(BV w || (t.led && t.plain) || decide (es.size<=1))=true then _ else _) _ _ _
 by_cases b:(BV w || (t.led && t.plain) || decide (es.size<=1))=true
 .rw[p7 b];refine ic ho hd c C3 (λG8=>?_) λBJ e=>h BJ e;rw[G8]at b C3;cases i:t.plain with
  |true=>rfl
  |false=>
   rw[i]at b;simp only[IH,jB,YI,qO]at b;simp only[Bool.not_false,GF,ZAD];omega
 .rw[mD b];refine dP (eP _ (λx hx=>?_) ?_)
  .simp only[CK,BH,su]at hx;rcases hx with rfl|rfl
   .exact⟨_,_,l⟩
   .exact⟨_,_,k⟩
  rw[mD (by decide)];refine dP (xU ?_);exact k4 (h es (Gq _))
theorem ZAU{Q:Unit->Shared->Prop}(y:Ab prog w s.heap r f n)(I:n<64)(h:∀h',Heap.SameBut r s.heap h'->Ab prog w h' r f n->Q () { s with heap:=h' }):wpAny (model prog w) A (setTidy r) Q E s:=by
 obtain⟨o,es,ep,t,ho,b,hd,BQ,BI,j,g,l,C3,BN⟩:=y;unfold setTidy;refine dP (qJ ho hd g ?_);dsimp only
 by_cases m:t.tooManyDummies=true
 .rw[p7 m];have q:=List.all_eq_true.mp xB es.size (List.mem_range.mpr (by omega));unfold tidy at q;rw[DN,DN,qO,qO]at q;obtain⟨⟨d,x⟩,H⟩:=q;replace d:=jl d;unfold setRelay;refine dP (qJ ho hd g ?_);dsimp only;have v:¬ SetTable.sizeAbove (SetTable.grown es.size) > sizeLine:=by
   have:256<=sizeLine:=by decide +kernel
   omega
  rw[mD v];obtain⟨t',a,e1,G,F,D,C,u,p⟩:=Wh d t.finger (t.movedTo (SetTable.sizeAbove (SetTable.grown es.size) - 1)) t.led t.plain (es.map (·.1)) (by rw[YH];exact x)
  rw[YH]at u p;have B:t.relaid (es.map (·.1)) (SetTable.grown es.size)=some (t',a):=by
   unfold SetTable.relaid;exact e1
  refine dP ?_
  wp_delta
  rw[B];dsimp only;have c:(a.filterMap (es[·]?)).toList.Perm es.toList:=by
   rw[ZCI];exact(p.filterMap _).trans (by rw[filterMap_getElem?_range])
  have zz:(a.filterMap (es[·]?)).size=es.size:=by rw[<- C9,c.length_eq,C9]
  rw[mD (by rw[zz];simp)];refine k4 ?_;dsimp only;refine tG ho hd ?_ (sg (by rw[zz];exact j));refine h _ (FI s.heap r _) ⟨_,_,_,_,Hq ho hd _ _,b,rfl,BQ.perm c,λk=>(BI k).trans ⟨λ⟨e,i,q⟩=>⟨e,c.mem_iff.mpr i,q⟩,λ⟨e,i,q⟩=>⟨e,c.mem_iff.mp i,q⟩⟩,by rw[zz];exact j,?_,zz.trans l,?_,λz=>?_⟩
  .unfold SetTable.fits SetTable.fill;rw[C,u,zz,D];simp;omega
  .rw[G,C3]
  .rw[F,BN (by rw[zz]at z;exact z)]
 .rw[mD m];exact k4 (h s.heap (Ln r s.heap) ⟨o,es,ep,t,ho,b,hd,BQ,BI,j,g,l,C3,BN⟩)
theorem lr{fs:List Str}{Q:Unit->Shared->Prop}(Af:r≠a)(F:gs.Nodup)(N:gs.length<64)(hsz:fs.length / 8<=gs.length)
  (l:Ab prog w s.heap a (λk=>decide (k∈fs)) fs.length) (v:Ab prog w s.heap r (λk=>decide (k∈gs)) gs.length)
  (h:∀(h':Heap)(ds:List Str),ds.Nodup->(∀k,k∈ds↔k∈gs/\k∉fs)->Heap.SameBut r s.heap h'->Ab prog w h' r (λk=>decide (k∈ds)) ds.length->Q () { s with heap:=h' }) :
  wpAny (model prog w) A (Builtin.Frozenset.differenceUpdate Iv r (.ref a)) Q E s:=by
 unfold Builtin.Frozenset.differenceUpdate;rw[mD (by simpa using Bh Af)]
 refine dP (MG l.typeIs ?_);rw[p7 rfl];refine dP (rC (a:=a) rfl ?_);refine dP (Hx l ?_);refine dP (Hx v ?_);rw[mD (by omega)];have M:=l;obtain⟨o,es,ep,t,ho,H,hd,BQ,BI,P,C,O,C3,BN⟩:=M;refine dP (tK ho hd C ?_);refine dP (qY ?_);refine dP (xu l v ho hd λBJ j=>?_);have JJ:∀k,k∈fs↔k∈BJ.toList.map (kv ·.2):=λk=>by
  have K:ElemsOf (PySem.strKind prog w) BJ.toList:=BQ.perm j;rw[<- MN K,<- qO (p:=k∈fs),BI k];exact⟨λ⟨e,f,q⟩=>⟨e,j.mem_iff.mpr f,q⟩,λ⟨e,f,q⟩=>⟨e,j.mem_iff.mp f,q⟩⟩
 refine dP (jS _ (λrest _ s2=>∃(h2:Heap)(ds:List Str)(c:List Str),s2={ s with heap:=h2 }/\Heap.SameBut r s.heap h2/\ds.Nodup/\Ab prog w h2 r (λk=>decide (k∈ds)) ds.length/\ds.length<=gs.length/\
   BJ.toList.map (kv ·.2)=c++rest.map (kv ·.2)/\(∀k,k∈ds↔k∈gs/\k∉c)/\∀e∈rest,e∈es.toList) _ ?_ ?_ _ _ ⟨s.heap,gs,[],rfl,Ln r s.heap,F,v,Aa _,rfl,λk=>by simp,λe f=>j.mem_iff.mp f⟩)
 .rintro⟨G,x⟩rest u s2⟨h2,ds,c,rfl,i,nd,IQ,B,n,g,m⟩;obtain⟨⟨k,hk,hh⟩,FZ⟩:=BQ _ (m _ Ar);obtain⟨tk,rfl⟩:=JT hk;have L:G=(PySem.strKind prog w).hash k:=hh;subst L;have I:∀b,Heap.SameBut r s.heap b->b.get? a=some o:=λb Ki=>by rw[Ki.2 a (Bh Af)];exact ho
  have d:∀(b:Heap)(Dc:List Str),Heap.SameBut r s.heap b->Dc.Nodup->Ab prog w b r (λk=>decide (k∈Dc)) Dc.length->Dc.length<=gs.length->(∀k',k'∈Dc↔k'∈gs/\k'∉c++[k])->
    wpAny (model prog w) A (do Builtin.Frozenset.unchanged Iv a ep;pure (ForInStep.yield PUnit.unit)) (λD s'=>match D with | .yield J=>(∃(h2:Heap)(ds:List Str)(c:List Str),s'={ s with heap:=h2 }/\Heap.SameBut r s.heap h2/\ds.Nodup/\Ab prog w h2 r (λk=>decide (k∈ds)) ds.length/\ds.length<=gs.length/\BJ.toList.map (kv ·.2)=c++rest.map (kv ·.2)/\(∀k,k∈ds↔k∈gs/\k∉c)/\∀e∈rest,e∈es.toList) | .done J=>False) E { s with heap:=b }:=by
   intro b Dc Ki Eb Xx E8 p1;unfold Builtin.Frozenset.unchanged;refine dP (dP (tK (s:={ s with heap:=b }) (I b Ki) hd C ?_))
   rw[mD (by simp)];refine k4 ?_;exact k4 ⟨b,Dc,c++[k],rfl,Ki,Eb,Xx,E8,by rw[n,Bt];rfl,p1,λe f=>m e (BG _ f)⟩
  have mk:∀k':Str,k'∈c++[k]↔k'∈c∨k'=k:=λk'=>by rw[PU,KS]
  dsimp only;refine dP (qY ?_);refine Ab.cut (s:={ s with heap:=h2 }) nd IQ (λIi=>?_) λIi b Ng Mg=>?_
  .refine qP (d h2 ds i nd IQ B λk'=>?_) (λr s' z=>?_) λ_ _ z=>z
   .rw[mk,g k']
    by_cases e:k'=k
    .subst e;have:=mt (g k').mpr Ii;constructor
     .exact λz=>absurd z this
     .exact λz=>absurd (Or.inr rfl) z.2
    .simp only[e,su]
   .cases r with
    |yield _=>exact z
    |done _=>exact z.elim
  .have y:=KQ Ii;refine qP (d b (ds.erase k) (i.trans Ng) (nd.erase k) Mg (by omega) λk'=>?_) (λr s' z=>?_) λ_ _ z=>z
   .rw[mk,nd.mem_erase_iff,g k']
    by_cases e:k'=k
    .subst e;simp
    .simp[e]
   .cases r with
    |yield _=>exact z
    |done _=>exact z.elim
 .rintro u s2⟨h2,ds,c,rfl,i,nd,IQ,B,n,g,m⟩;refine k4 ?_;refine ZAU (s:={ s with heap:=h2 }) IQ (by omega) λb Ng Mg=>?_
  refine h b ds nd (λk=>?_) (i.trans Ng) Mg;rw[g k,JJ k,n];simp
theorem ZA1{fs:List Str}{Q:Value->Shared->Prop}(p:fs.Nodup)(j:fs.length<64)(c:Ab prog w s.heap a (λk=>decide (k∈fs)) fs.length)(d:Ab prog w s.heap b (λk=>decide (k∈gs)) gs.length)
  (h:∀(h':Heap)(ds:List Str),ds.Nodup->(∀k,k∈ds↔k∈fs/\k∉gs)->Ab prog w h' s.heap.objs.size (λk=>decide (k∈ds)) ds.length->(∀b o,s.heap.get? b=some o->h'.get? b=some o)->Q (.ref s.heap.objs.size) { s with heap:=h' }) :
  wpAny (model prog w) A (Builtin.Frozenset.difference Iv a (.ref b)) Q E s:=by
 by_cases hsz:fs.length / 4<=gs.length
 .refine sj c d hsz λh' ds nd f y r kp=>h h' ds nd (λk=>?_) r kp;rw[f k];simp
 .unfold Builtin.Frozenset.difference;refine dP (MG d.typeIs ?_);dsimp only;rw[mD (by decide)];refine dP (rC (a:=b) rfl ?_);rw[mD (by simp)];rw[p7 rfl];refine dP (Hx d ?_);refine dP (Hx c ?_);rw[p7 (by omega)];refine dP (xU ?_);refine dP ?_;unfold Builtin.Frozenset.copyOf;refine dP ?_;unfold Builtin.Frozenset.baseOf;refine dP (uh (b:=true) c.typeIs (by rw[wB];kernel_rfl) ?_);refine k4 ?_;rw[p7 rfl];unfold newSet setsByText;refine dP (dP (dP (rB (k4 ?_))));dsimp only;refine r6 ?_;show wpAny _ _ _ _ _ { s with heap:=s.heap.push { cls:=.type "set", data:=.set #[] 0 (.fresh 0 0 (!BV w)) } }
  generalize i:({ cls:=.type "set", data:=.set #[] 0 (.fresh 0 0 (!BV w)) }:Obj)=so;have t:(s.heap.push so).get? s.heap.objs.size=some so:=B1 _ (by rw[<- i];rfl);have g:∀b o,s.heap.get? b=some o->(s.heap.push so).get? b=some o:=λb o e=>Aj _ e;have v:Ab prog w (s.heap.push so) a _ fs.length:=c.keep λo e=>g _ _ e;have u:Ab prog w (s.heap.push so) b _ gs.length:=d.keep λo e=>g _ _ e;have x:a<s.heap.objs.size:=by obtain⟨o,_,_,_,ho,_⟩:=c;exact AU ho
  have m:b<s.heap.objs.size:=by obtain⟨o,_,_,_,ho,_⟩:=d;exact AU ho
  refine dP (rC (a:=s.heap.objs.size) rfl ?_);refine dP (nE (s:={ s with heap:=s.heap.push so }) (DQ x) t (by rw[<- i];exact⟨rfl,rfl,rfl⟩) (by rw[<- i]) v j λh1 G4 WD=>?_)
  refine k4 ?_;have n:Ab prog w h1 b _ gs.length:=u.keep λo e=>by rw[G4.2 b (An m)];exact e
  refine dP (rC (a:=s.heap.objs.size) rfl ?_);refine dP (qY ?_);refine lr (s:={ s with heap:=h1 }) (DQ m) p j (by omega) n WD λh2 ds nd f q Xj=>?_
  refine k4 ?_;refine h h2 ds nd f Xj λb o e=>?_;have l:=An (AU e);rw[q.2 b l];show h1.get? b=_;rw[G4.2 b l];exact g _ _ e
def eJ(P:Program)(w:World):V->V->Hp->VK->Prop:=λx y H Q=>∃(p q:Addr)(fs gs:List Str),x=.ref p/\y=.ref q/\fs.Nodup/\fs.length<64/\H p=some (DD P w p (λk=>decide (k∈fs)) fs.length)/\H q=some (DD P w q (λk=>decide (k∈gs)) gs.length)/\
 ∀(l:Addr)(ds:List Str),H l=none->ds.Nodup->(∀k,k∈ds↔k∈fs/\k∉gs)->Q (.ref l) (upd H l (DD P w l (λk=>decide (k∈ds)) ds.length))
theorem ZA9:B0 X (binaryOp .Sub) (eJ X.prog X.w):=by
 intro Zd s Z H x y v u Q I f e h;obtain⟨p,q,fs,gs,rfl,rfl,g,i,k,j,h⟩:=h;cases f;cases e;have b:Ab X.prog X.w s.heap p _ fs.length:=(I.AG p _ k).1;have c:Ab X.prog X.w s.heap q _ gs.length:=(I.AG q _ j).1;refine wpAny_binaryOp_same (T:="set") (op:=.Sub) b.typeIs c.typeIs F.fills_set_sub F.slot_set_sub (qf F.slot_set_sub b.typeIs ZBP ?_ (F.args_set_sub_2 _ _));unfold Builtin.«frozenset.__sub__»
 wp_delta
 refine dP (rC (a:=(Value.ref p,Value.ref q)) rfl ?_);dsimp only;rw[mD (by decide)];dsimp only;refine dP (dP (MG b.typeIs ?_));refine MG c.typeIs ?_;rw[mD (by decide)];refine dP (rC (a:=p) rfl ?_);refine dP (ZA1 g i b c λh' ds nd l d kp=>?_);refine k4 ⟨_,rfl,(λz=>nomatch z),?_⟩;refine⟨.ref s.heap.objs.size,_,I.laid (t':=s.toks) kp (Aa _) (show Bx X.prog X.w _ h' _ (DD X.prog X.w s.heap.objs.size _ _)from⟨d,?_,λh1 h2 EW GA=>EW.keep GA⟩),rfl,h _ ds (I.AG.fresh (Aa _)) nd l⟩;obtain⟨o,_,_,_,ho,_⟩:=d;exact⟨o,ho⟩
theorem jn:entryFor table "set.__eq__"=some Builtin.«frozenset.__eq__»:=
 ZB1 (id' := "frozenset.__eq__") (by kernel_rfl) (by first|rfl|decide +kernel|(unfold String.splitOn;simp +decide [String.splitOnAux])) (by decide +kernel) (by kernel_rfl)
theorem u0{Q:List (Int×Value)->Shared->Prop}(q:Ab prog w s.heap a f n)(u:Ab prog w s.heap b g m)
  (ho:s.heap.get? a=some o) (hd:o.data=.set es ep t) (h:Q es.toList s):wpAny (model prog w) A (Builtin.Frozenset.walkUnseen a b) Q E s:=by
 obtain⟨o',BJ,Es,t',Bz,p,G1,BQ,BI,z,l,y,C3,BN⟩:=q;rw[ho]at Bz;cases Bz;rw[hd]at G1;cases G1;obtain⟨v,GJ,B,t2,DZ,j,d,Px,YE,MS,OQ,KW,Uc,Tw⟩:=u;unfold Builtin.Frozenset.walkUnseen;refine dP (rG ho hd l ?_);refine dP (rG DZ d OQ ?_);refine dP ?_;refine ZBQ _ (λrest r s'=>s'=s/\r=(none,())/\∀e∈rest,∃k,(PySem.strKind prog w).is k e.2=true) _ ?_ ?_ _ _ ⟨rfl,rfl,λe c=>(List.mem_append.mp c).elim (BQ.keys e) (Px.keys e)⟩
 .rintro⟨hh,x⟩rest r s'⟨rfl,rfl,i⟩;obtain⟨k,hk⟩:=i _ Ar;obtain⟨tk,rfl⟩:=JT hk;refine dP (m:=Builtin.Frozenset.quietEq _) ?_;unfold Builtin.Frozenset.quietEq;refine k4 ?_;rw[mD (by decide)];exact k4 ⟨rfl,rfl,λe c=>i e (BG _ c)⟩
 .rintro r s'⟨rfl,rfl,_⟩;exact k4 h
theorem t8{fs:List Str}{Q:Bool->Shared->Prop}(B:fs.length<=gs.length)
  (j:Ab prog w s.heap a (λk=>decide (k∈fs)) fs.length) (l:Ab prog w s.heap b (λk=>decide (k∈gs)) gs.length)
  (h:Q (decide (∀k∈fs,k∈gs)) s):wpAny (model prog w) A (Builtin.Frozenset.subsetOf Iv a b) Q E s:=by
 unfold Builtin.Frozenset.subsetOf;refine dP (Hx j ?_);refine dP (Hx l ?_);rw[mD (by omega)];have y:=j;obtain⟨o,es,ep,t,ho,u,hd,BQ,BI,D,m,C,C3,BN⟩:=y;refine dP (tK ho hd m ?_);refine dP (u0 j l ho hd ?_);have JJ:∀k,k∈fs↔k∈es.toList.map (kv ·.2):=λk=>by rw[<- MN BQ,<- qO (p:=k∈fs),BI k]
 refine dP ?_;refine qP (ZBQ _ (λrest r s'=>s'=s/\r=(none,())/\(∀e∈rest,e∈es.toList)/\∀e∈es.toList,e∈rest∨kv e.2∈gs) (λr s'=>s'=s/\((r=(none,())/\∀k∈fs,k∈gs)∨(r=(some false,())/\¬ ∀k∈fs,k∈gs))) ?_ ?_ _ _ ⟨rfl,rfl,λe c=>c,λe c=>.inl c⟩) (λr s' d=>?_) λ_ _ z=>z
 .rintro⟨q,x⟩rest r s'⟨rfl,rfl,i,g⟩;obtain⟨⟨k,hk,hh⟩,FZ⟩:=BQ _ (i _ Ar);obtain⟨tk,rfl⟩:=JT hk;have v:q=(PySem.strKind prog w).hash k:=hh;subst v;have n:k∈fs:=(JJ k).mpr (List.mem_map.mpr ⟨_,i _ Ar,rfl⟩);dsimp only;refine dP (qY ?_);refine wpAny_setFind_of (knd:=PySem.strKind prog w) (k:=k) hk FZ l.setOf λr d=>?_
  by_cases f:k∈gs
  .have e:r.isSome=true:=by rw[d];exact kc f
   rw[mD (by cases r <;> simp_all)]
   unfold Builtin.Frozenset.unchanged;refine dP (dP (tK ho hd m ?_));rw[mD (by simp)];refine k4 ?_;refine k4 ⟨rfl,rfl,λe c=>i e (BG _ c),λe c=>?_⟩;rcases g e c with h|h
   .rcases List.mem_cons.mp h with rfl|h
    .exact .inr f
    .exact .inl h
   .exact .inr h
  .have e:r.isSome=false:=by rw[d];exact oO f
   rw[p7 (by cases r <;> simp_all)]
   exact k4 ⟨rfl,.inr ⟨rfl,λz=>f (z k n)⟩⟩
 .rintro r s'⟨rfl,rfl,_,g⟩;refine⟨rfl,.inl ⟨rfl,λk hk=>?_⟩⟩;obtain⟨e,c,rfl⟩:=List.mem_map.mp ((JJ k).mp hk);exact(g e c).resolve_left BH
 .obtain⟨rfl,⟨rfl,z⟩|⟨rfl,z⟩⟩:=d
  .rw[kc z]at h;exact k4 h
  .rw[oO z]at h;exact k4 h
def fZ(P:Program)(w:World):V->V->Hp->VK->Prop:=λx y H Q=>∃(p q:Addr)(fs gs:List Str),x=.ref p/\y=.ref q/\fs.Nodup/\gs.Nodup/\H p=some (DD P w p (λk=>decide (k∈fs)) fs.length)/\H q=some (DD P w q (λk=>decide (k∈gs)) gs.length)/\
 ∀b:Bool,(b=true↔∀k,k∈fs↔k∈gs)->Q (.bl b) H
theorem oh(r:X.A.units<cLine):B0 X (compareOp .Eq) (fZ X.prog X.w):=by
 intro Zd s Z H x y v u Q I j i h;obtain⟨p,q,fs,gs,rfl,rfl,g,o,B,t,h⟩:=h;cases j;cases i;have c:Ab X.prog X.w s.heap p _ fs.length:=(I.AG p _ B).1;have f:Ab X.prog X.w s.heap q _ gs.length:=(I.AG q _ t).1;refine wpAny_richCompare_same_room (op:=.Eq) c.typeIs f.typeIs F.slot_set_eq (qf F.slot_set_eq c.typeIs jn ?_ (F.args_set_eq_2 _ _)) r;unfold Builtin.«frozenset.__eq__»
 wp_delta
 refine dP (rC (a:=(Value.ref p,Value.ref q)) rfl ?_);dsimp only;refine dP (MG f.typeIs ?_);rw[mD (by decide)];refine dP (rC (a:=p) rfl ?_);refine dP (rC (a:=q) rfl ?_);refine dP (Hx c ?_);refine dP (Hx f ?_);refine dP ?_
 by_cases d:fs.length=gs.length
 .rw[mD (by simpa using d)]
  refine dP ?_;refine dP (uh (b:=false) c.typeIs (by rw[wB];kernel_rfl) ?_);refine k4 ?_;rw[mD (by decide)];refine t8 (KU d) c f ?_;refine k4 ⟨_,rfl,(λx=>nomatch x),.bl _,H,I,rfl,h _ ?_⟩;rw[qO];exact⟨λz k=>⟨z k,λhk=>JN λC=>by
   have n:=La (l:=k::fs) (m:=gs) (List.nodup_cons.mpr ⟨C,g⟩) λx hx=>(List.mem_cons.mp hx).elim (λe=>e▸hk) (z x);rw[Az]at n;omega⟩,λz k hk=>(z k).mp hk⟩
 .rw[p7 (by simpa using d)]
  refine k4 ?_;refine k4 ⟨_,rfl,(λx=>nomatch x),.bl _,H,I,rfl,h _ ⟨λz=>(nomatch z),λz=>absurd (Nat.le_antisymm (La g λk hk=>(z k).mp hk) (La o λk hk=>(z k).mpr hk)) d⟩⟩
end L2
namespace Fz
open L2 Lw
section
variable[Xw]
variable{ss:List Slot}{K:ZDv}{ta tb:TE}{P:Program}{w:World}
theorem mx{k:PV->Prop}(h:Wq ss ta λ_ xs=>∃ns:List Str,xs=ns.map PV.str/\ns.length<4000/\Wq ss tb λ_ ys=>∃ms:List Str,ys=ms.map PV.str/\ms.length<4000/\∀b:Bool,(b=true↔∀x,x∈ns↔x∈ms)->k (.bl b)):
  Wp ss (Au (fZ P w) (CQ (λxs H Q=>∃(p:Addr)(tp:Bool)(ss:List Str),xs=[.ref p]/\C1 K tp H p (ss.map V.str)/\ss.length<4000/\∀l,H l=none->Q (.ref l) (upd H l (DD P w l (λk'=>(dd ss).any (· == k')) (dd ss).length))) (Ae ta BK)) (CQ (λxs H Q=>∃(p:Addr)(tp:Bool)(ss:List Str),xs=[.ref p]/\C1 K tp H p (ss.map V.str)/\ss.length<4000/\∀l,H l=none->Q (.ref l) (upd H l (DD P w l (λk'=>(dd ss).any (· == k')) (dd ss).length))) (Ae tb BK))) k:=⟨λE Z F H Q S q=>
 h.go E Z F H _ S λv tp xs F1 H1 d sv⟨ns,e,m,h2⟩=>by
  subst e;obtain⟨l,vs,rfl,g,r⟩:=sv.seq d.st;rw[r.strs]at g;refine⟨l,tp,ns,rfl,CF.sq g,m,λa i=>?_⟩;have m2:=d.st.make i (DD P w a (λk'=>(dd ns).any (· == k')) (dd ns).length)
  refine h2.go E Z F1 _ _ m2.st λv2 BC ys F2 H2 c GC⟨ms,s,Gm,kk⟩=>?_;subst s;obtain⟨l2,Ez,rfl,Bl,j⟩:=GC.seq c.st;rw[j.strs]at Bl;refine⟨l2,BC,ms,rfl,CF.sq Bl,Gm,λa2 Jc=>?_⟩;have f:=c.st.make Jc (DD P w a2 (λk'=>(dd ms).any (· == k')) (dd ms).length)
  have np:Cp ss Z a:=d.st.Jn i;have g0:=c.hh a _ np (AZ (H:=H1) (a:=a) (o:=DD P w a (λk'=>(dd ns).any (· == k')) (dd ns).length))
  have g1:=f.hh a _ np g0;rw[Qh ns]at g1;refine⟨a,a2,dd ns,dd ms,rfl,rfl,Qv ns,Qv ms,g1,by rw[<- Qh ms];exact AZ,λb n=>?_⟩;refine q _ _ F2 _ (d.trans (m2.trans (c.trans f))) (.bl _) (kk b ?_);rw[n];exact forall_congr' λx=>by rw[Ko,Ko]⟩
theorem wU{k : PV -> Prop}(h : Wq ss ta λ_ xs => ∃ns : List Str, xs = ns.map PV.str /\ ns.length<64 /\ Wq ss tb λ_ ys => ∃ms : List Str, ys = ms.map PV.str /\ ms.length<64 /\
   ∀n:Nat,(n=0↔∀x∈ns,x∈ms)->k (.int (n:Nat))):
  Wp ss (CQ (λxs H Q=>∃l f n,xs=[.ref l]/\H l=some (DD P w l f n)/\Q (.int (n:Nat)) H) (Ae (Au (eJ P w) (CQ (λxs H Q=>∃(p:Addr)(tp:Bool)(ss:List Str),xs=[.ref p]/\C1 K tp H p (ss.map V.str)/\ss.length<4000/\∀l,H l=none->Q (.ref l) (upd H l (DD P w l (λk'=>(dd ss).any (· == k')) (dd ss).length))) (Ae ta BK))
   (CQ (λxs H Q=>∃(p:Addr)(tp:Bool)(ss:List Str),xs=[.ref p]/\C1 K tp H p (ss.map V.str)/\ss.length<4000/\∀l,H l=none->Q (.ref l) (upd H l (DD P w l (λk'=>(dd ss).any (· == k')) (dd ss).length))) (Ae tb BK))) BK)) k:=⟨λE Z F H Q S q=>
 h.go E Z F H _ S λv tp xs F1 H1 c sv⟨ns,e,D,h2⟩=>by
  subst e;obtain⟨l,vs,rfl,i,r⟩:=sv.seq c.st;rw[r.strs]at i;refine⟨l,tp,ns,rfl,CF.sq i,by omega,λa j=>?_⟩;have m2:=c.st.make j (DD P w a (λk'=>(dd ns).any (· == k')) (dd ns).length)
  refine h2.go E Z F1 _ _ m2.st λv2 BC ys F2 H2 b GC⟨ms,I,Gm,kk⟩=>?_;subst I;obtain⟨l2,Ez,rfl,Bl,s⟩:=GC.seq b.st;rw[s.strs]at Bl;refine⟨l2,BC,ms,rfl,CF.sq Bl,by omega,λa2 Jc=>?_⟩;have d:=b.st.make Jc (DD P w a2 (λk'=>(dd ms).any (· == k')) (dd ms).length)
  have np:Cp ss Z a:=c.st.Jn j;have g0:=b.hh a _ np (AZ (H:=H1) (a:=a) (o:=DD P w a (λk'=>(dd ns).any (· == k')) (dd ns).length))
  have g1:=d.hh a _ np g0;rw[Qh ns]at g1;refine⟨a,a2,dd ns,dd ms,rfl,rfl,Qv ns,IK (Xg ns) D,g1,by rw[<- Qh ms];exact AZ,λm ds B A g=>?_⟩;have C:=d.st.make B (DD P w m (λk=>decide (k∈ds)) ds.length);refine⟨m,_,_,rfl,AZ,q _ _ F2 _ (c.trans (m2.trans (b.trans (d.trans C)))) (.int _) (kk ds.length ⟨λz x hx=>JN λG=>?_,λz=>?_⟩)⟩
  .rw[List.length_eq_zero_iff]at z;subst z;exact absurd ((g x).mpr ⟨(Ko ns x).mpr hx,λy=>G ((Ko ms x).mp y)⟩) BH
  .cases ds with
   |nil=>rfl
   |cons x r=>
    obtain⟨u,t⟩:=(g x).mp Ar;exact absurd ((Ko ms x).mpr (z x ((Ko ns x).mp u))) t⟩
end
end Fz
namespace L2
variable{X:Cx}{Zd:ZDw}{Z:St}{H H2:Hp}{s s2:Shared}{a it l l1 l2 t:Addr}{prog:Program}{w:World}{A:Around}{E Q:Value->Shared->Prop}{e o:Expr}{p1 pos:Pos}{es:List Expr}{t1 t2 tp:Bool}{i k1 tk:Nat}{xs ys:Array Value}
open AutoSeq1 (wpAny_loadPart')
def Dh(tp:Bool)(h:Heap)(i l:Addr)(k:Nat):Prop:=match tp with
 |true=>h.IsTupleIter i l k
 |false=>h.IsListIter i l k
def Eg(tp:Bool)(h:Heap)(l:Addr)(xs:Array Value):Prop:=match tp with
 |true=>h.IsTuple l xs
 |false=>h.IsList l xs
noncomputable def O0(tp:Bool):String:=match tp with
 |true => "tuple_iterator"
 |false => "list_iterator"
theorem Dh.at{h h':Heap}(x:Dh tp h a t i)(e:∀o,h.get? a=some o->h'.get? a=some o):Dh tp h' a t i:=by
 cases tp
 .exact Heap.IsListIter.at x e
 .exact Heap.IsTupleIter.at x e
theorem Dh.has{h:Heap}(x:Dh tp h a t i):∃o fs,h.get? a=some o/\o.data=.fields fs:=by
 cases tp
 .obtain⟨o,e,_,d⟩:=x;exact⟨o,_,e,d⟩
 .obtain⟨o,e,_,d⟩:=x;exact⟨o,_,e,d⟩
theorem Eg.at{h h':Heap}(x:Eg tp h a xs)(e:∀o,h.get? a=some o->h'.get? a=some o):Eg tp h' a xs:=by
 cases tp
 .obtain⟨o,q,r⟩:=x;exact⟨o,e o q,r⟩
 .obtain⟨o,q,r⟩:=x;exact⟨o,e o q,r⟩
section
theorem dk{x:Value}(hi:Dh tp s.heap it l i)(a:Eg tp s.heap l xs)(hx:xs[i]?=some x)
  (q:∀h',Dh tp h' it l (i+1)->Heap.SameBut it s.heap h'->Q x { s with heap:=h' }):wpAny (model prog w) A (Builtin.SmallTypes.nextOf (.ref it)) Q E s:=by
 cases tp
 .exact wpAny_nextOf_list_item hi a hx q
 .exact HT.dr hi a hx q
theorem aR(hh:A.handled=none)(hi:Dh tp s.heap it l i)(a:Eg tp s.heap l xs)(hx:xs[i]?=none)
  (q:∀h' e,Heap.ExtBut it s.heap h'->(∃o,h'.get? e=some o/\o.cls=.type "StopIteration")->E (.ref e) { s with heap:=h' }):wpAny (model prog w) A (Builtin.SmallTypes.nextOf (.ref it)) Q E s:=by
 cases tp
 .exact wpAny_nextOf_list_end hh hi a hx q
 .exact HT.Tu hh hi a hx q
theorem ib(a:Eg tp s.heap l xs)(q:Q (.ref s.heap.objs.size) { s with heap:=s.heap.push { cls:=.type (O0 tp),data:=.fields #[.ref l,.int 0 0] } }):wpAny (model prog w) A (pyIter (.ref l)) Q E s:=by
 cases tp
 .exact z9 a q
 .exact xY a q
variable{z TI TO i1 i2:Addr}{k:Nat}{x y a b:Value}
theorem gm{Q:Option Value->Shared->Prop}(hh:A.handled=none)(D:ZipApart z TI TO i1 i2 l1 l2)(r:IsZip s.heap z TI TO .none)(Fn:IsPair s.heap TI (.ref i1) (.ref i2))(HQ:IsPair s.heap TO a b)
  (h1:Dh t1 s.heap i1 l1 k) (h2:Dh t2 s.heap i2 l2 k) (g1:Eg t1 s.heap l1 xs) (g2:Eg t2 s.heap l2 ys)
  (q:∀x y,xs[k]?=some x->ys[k]?=some y->∀h',IsZip h' z TI TO (rawInt s.heap.objs.size)->IsPair h' TO x y->Dh t1 h' i1 l1 (k+1)->Dh t2 h' i2 l2 (k+1)->IsPair h' s.heap.objs.size x y->
   (∀c o,c≠z->c≠TO->c≠i1->c≠i2->s.heap.get? c=some o->h'.get? c=some o)->Q (some (.ref s.heap.objs.size)) { s with heap:=h' })
  (qe:xs[k]?=none∨ys[k]?=none->∀h',(∀c o,c≠z->c≠TO->c≠i1->c≠i2->s.heap.get? c=some o->h'.get? c=some o)->Q none { s with heap:=h' }):wpAny (model prog w) A (pyNext (.ref z)) Q E s:=by
 have hT:s.TypeIs (.ref z) "zip" := ⟨_,r,rfl⟩;unfold pyNext;have fin:(xs[k]?=none∨ys[k]?=none)->∀(h':Heap)(e:Addr),(∀c o,c≠z->c≠TO->c≠i1->c≠i2->s.heap.get? c=some o->h'.get? c=some o)->(∃o,h'.get? e=some o/\o.cls=.type "StopIteration")->wpAny (model prog w) A (do if <- isInstance (.ref e) (.type "StopIteration")then pure none else throw (.ref e)) Q E { s with heap:=h' }:=λhn h' e hk⟨o,ho,j⟩=>
  dP (uh (T:="StopIteration") (b:=true) ⟨o,ho,j⟩ ZB0 (k4 (qe hn h' hk)))
 refine dP (zo (rl (name:=Str.ofString "__next__") hT F.slot_zip_next (qf F.slot_zip_next hT F.entry_zip_next ?_ (F.args_zip_next_1 _))));show wpAny _ _ (field (.ref z) 2 >>= _) _ _ _;refine dP (zH r rfl (x:=.bool false) rfl ?_);show wpAny _ _ (field (.ref z) 3 >>= _) _ _ _;refine dP (zH r rfl (x:=.ref TI) rfl (dP (ZA6 Fn rfl ?_)));show wpAny _ _ (Builtin.SmallTypes.ownedTupleIsFree (.ref z) >>= _) _ _ _;refine dP ?_;unfold Builtin.SmallTypes.ownedTupleIsFree;refine dP (zH r rfl (x:=.none) rfl (k4 ?_));simp only[ZBo];refine dP (xU (dP (zH r rfl (x:=.ref TO) rfl (dP (zj r (by simp) λe1 u Y=>?_)))));have u:IsZip e1 z TI TO .ellipsis:=u;have p:∀c o,c≠z->s.heap.get? c=some o->e1.get? c=some o:=λc o j e=>Y.extBut c o j e;refine dP ?_;simp only[List.zipIdx_cons,List.zipIdx_nil,YV,T5];refine dP (dP (wpAny_onRaise ?_));show wpAny _ _ (Builtin.SmallTypes.nextOf (.ref i1) >>= _) _ _ _;cases hx:xs[k]? with
 |none=>
  refine dP (aR hh (h1.at λo e=>p i1 o D.i1z e) (g1.at λo e=>p l1 o D.l1z e) hx λK e l O=>?_);have V:IsZip K z TI TO .ellipsis:=l z _ D.i1z.symm u;obtain⟨M,LF,NO⟩:=O;have R:e≠z:=λq=>by subst q;rw[V]at LF;cases LF;simp at NO
  exact zj V (by simp) λJ _ i=>fin (.inl hx) J e (λc o f _ m _ y=>i.extBut c o f (l c o m (p c o f y))) ⟨M,i.extBut _ _ R LF,NO⟩
 |some x=>
  refine dP (dk (h1.at λo e=>p i1 o D.i1z e) (g1.at λo e=>p l1 o D.l1z e) hx λK p1 l=>k4 ?_);have σ:∀c o,c≠z->c≠i1->s.heap.get? c=some o->K.get? c=some o:=λc o j hd e=>l.extBut c o hd (p c o j e);have o2:IsPair K TO a b:=σ TO _ D.TOz D.TOi1 HQ;refine dP (ZA6 o2 rfl (dP (wpAny_updateSeq_pair o2 λJ N i=>?_)));have n:∀c o,c≠z->c≠i1->c≠TO->s.heap.get? c=some o->J.get? c=some o:=λc o h1 h2 h3 e=>i.extBut c o h3 (σ c o h1 h2 e);refine dP (wpAny_letGo (k4 (dP (dP (wpAny_onRaise ?_)))));show wpAny _ _ (Builtin.SmallTypes.nextOf (.ref i2) >>= _) _ _ _;have N:IsPair J TO x b:=N;cases H:ys[k]? with
  |none=>
   refine dP (aR hh (h2.at λo e=>n i2 o D.i2z D.i12.symm D.TOi2.symm e) (g2.at λo e=>n l2 o D.l2z D.l2i1 D.l2TO e) H λP e h O=>?_);have U:IsZip P z TI TO .ellipsis:=h z _ D.i2z.symm (i.extBut z _ D.TOz.symm (l.extBut z _ D.i1z.symm u));obtain⟨M,LF,NO⟩:=O;have R:e≠z:=λq=>by subst q;rw[U]at LF;cases LF;simp at NO
   exact zj U (by simp) λd _ g=>fin (.inr H) d e (λc o f t m v y=>g.extBut c o f (h c o v (n c o f m t y))) ⟨M,g.extBut _ _ R LF,NO⟩
  |some y=>
   refine dP (dk (h2.at λo e=>n i2 o D.i2z D.i12.symm D.TOi2.symm e) (g2.at λo e=>n l2 o D.l2z D.l2i1 D.l2TO e) H λP p2 h=>k4 ?_);have o4:IsPair P TO x b:=h.extBut TO _ D.TOi2 N;refine dP (ZA6 o4 rfl (dP (wpAny_updateSeq_pair o4 λd G g=>?_)));have G:IsPair d TO x y:=G;have hsz:d.objs.size=s.heap.objs.size:=by rw[g.1,h.1,i.1,l.1,Y.1]
   have u5:∀c o,c≠z->c≠TO->c≠i1->c≠i2->s.heap.get? c=some o->d.get? c=some o:=λc o f t m v e=>g.extBut c o t (h.extBut c o v (n c o f m t e));have S:IsZip d z TI TO .ellipsis:=g.extBut z _ D.TOz.symm (h.extBut z _ D.i2z.symm (i.extBut z _ D.TOz.symm (l.extBut z _ D.i1z.symm u)));have r1:Dh t1 d i1 l1 (k+1):=p1.at λo e=>g.extBut i1 o D.TOi1.symm (h.extBut i1 o D.i12 (i.extBut i1 o D.TOi1.symm e));have r2:Dh t2 d i2 l2 (k+1):=p2.at λo e=>g.extBut i2 o D.TOi2.symm e;refine dP (wpAny_letGo (k4 (k4 (dP (ZA6 G rfl (dP (ZAs ?_)))))));have lz:z<d.objs.size:=AU S;show wpAny _ _ (Builtin.SmallTypes.ownedTupleHandOut (.ref z) (.ref d.objs.size) >>= _) _ _ _;refine dP ?_;unfold Builtin.SmallTypes.ownedTupleHandOut;have z6:IsZip (d.push { cls:=.type "tuple", data:=.seq #[x,y] }) z TI TO .ellipsis:=Aj _ S;refine dP (zj z6 (by simp) λe7 L X=>?_);have L:IsZip e7 z TI TO (rawInt d.objs.size):=L;refine zj L (by simp) λI B W=>?_;have B:IsZip I z TI TO (rawInt d.objs.size):=B;have C:∀c o,c≠z->d.get? c=some o->I.get? c=some o:=λc o j e=>W.extBut c o j (X.extBut c o j (Aj _ e));have n8:IsPair I d.objs.size x y:=W.extBut _ _ (DQ lz) (X.extBut _ _ (DQ lz) (B1 _ rfl));rw[hsz]at B n8;refine k4 ⟨_,rfl,k4 ?_⟩;show Q (some (.ref d.objs.size)) _;rw[hsz];exact q x y hx H I B (C TO _ D.TOz G) (r1.at λo e=>C i1 o D.i1z e) (r2.at λo e=>C i2 o D.i2z e) n8 λc o f t m v e=>C c o f (u5 c o f t m v e)
end
abbrev R0(h:Heap)(t1:Bool)(l1:Addr):Heap:=h.push { cls:=.type (O0 t1),data:=.fields #[.ref l1,.int 0 0] }
abbrev RC(h:Heap)(t1 t2:Bool)(l1 l2:Addr):Heap:=(R0 h t1 l1).push { cls:=.type (O0 t2),data:=.fields #[.ref l2,.int 0 0] }
abbrev Q4(h:Heap)(t1 t2:Bool)(l1 l2:Addr):Heap:=(RC h t1 t2 l1 l2).push { cls:=.type "tuple", data:=.seq #[.ref h.objs.size,.ref (R0 h t1 l1).objs.size] }
abbrev R1(h:Heap)(t1 t2:Bool)(l1 l2:Addr):Heap:=(Q4 h t1 t2 l1 l2).push { cls:=.type "tuple", data:=.seq #[.none,.none] }
abbrev Ms(h:Heap)(t1 t2:Bool)(l1 l2:Addr):Heap:=(R1 h t1 t2 l1 l2).push { cls:=.type "zip", data:=.fields #[.none,.bool false,.bool false,.ref (RC h t1 t2 l1 l2).objs.size,.ref (Q4 h t1 t2 l1 l2).objs.size] }
theorem vm(t1 t2 : Bool)(l1 l2 : Addr)(xs ys : Array Value): Meets (Builtin.«zip.__new__» ⟨[.type "zip",.ref l1, .ref l2], []⟩) (λ_ R s => Eg t1 s.heap l1 xs /\ Eg t2 s.heap l2 ys /\
   R (.ok (.ret (.ref (R1 s.heap t1 t2 l1 l2).objs.size))) { s with heap:=Ms s.heap t1 t2 l1 l2 }):=
 .of_wp λprog w A R s h=>by
  obtain⟨a,g,d,tk,os⟩:=s;obtain⟨c,b,h⟩:=h;have j:=sub_zip;have i:Eg t1 (Shared.heap ⟨a,g,d,tk,os⟩) l1 xs:=c;have f:Eg t2 (Shared.heap ⟨a.push { cls:=.type (O0 t1),data:=.fields #[.ref l1,.int 0 0] },g,d,tk,os⟩) l2 ys:=Eg.at b λo e=>Aj _ e
  wp_walk using ib i,ib f
  exact⟨_,rfl,h⟩
theorem Dh.new{h:Heap}{i:Addr}(e:h.get? i=some { cls:=.type (O0 tp),data:=.fields #[.ref l,.int 0 0] }):Dh tp h i l 0:=by
 cases tp
 .exact⟨_,e,rfl,rfl⟩
 .exact⟨_,e,rfl,rfl⟩
theorem pd(m:Eg t1 s.heap l1 xs)(l:Eg t2 s.heap l2 ys)
  (h:∀h',IsZip h' (s.heap.objs.size+4) (s.heap.objs.size+2) (s.heap.objs.size+3) .none->IsPair h' (s.heap.objs.size+2) (.ref s.heap.objs.size) (.ref (s.heap.objs.size+1))->
   IsPair h' (s.heap.objs.size+3) .none .none->Dh t1 h' s.heap.objs.size l1 0->Dh t2 h' (s.heap.objs.size+1) l2 0->
   (∀c o,s.heap.get? c=some o->h'.get? c=some o)->Q (.ref (s.heap.objs.size+4)) { s with heap:=h' }):wpAny (model prog w) A (call (.type "zip") [.ref l1,.ref l2]) Q E s:=by
 refine callType_new F.called_zip (by decide) (F.typeCall_zip_2 _ _) (F.newCall_zip_2 _ _) (λobj=>F.args_object_init_3 obj _ _) F.entry_zip_new (vm t1 t2 l1 l2 xs ys) ⟨m,l,?_⟩;have d:(R0 s.heap t1 l1).objs.size=s.heap.objs.size+1:=C2 ..;have b:(RC s.heap t1 t2 l1 l2).objs.size=s.heap.objs.size+2:=by rw[C2,d]
 have a:(Q4 s.heap t1 t2 l1 l2).objs.size=s.heap.objs.size+3:=by rw[C2,b]
 have g:(R1 s.heap t1 t2 l1 l2).objs.size=s.heap.objs.size+4:=by rw[C2,a]
 have p:∀{k:Heap}{c o n},k.get? c=some o->(k.push n).get? c=some o:=λe=>Aj _ e;have f:(Ms s.heap t1 t2 l1 l2).get? (R1 s.heap t1 t2 l1 l2).objs.size=some _:=B1 _ rfl;have i:(Ms s.heap t1 t2 l1 l2).get? (Q4 s.heap t1 t2 l1 l2).objs.size=some _:=p (B1 _ rfl);have j:(Ms s.heap t1 t2 l1 l2).get? (RC s.heap t1 t2 l1 l2).objs.size=some _:=p (p (B1 _ rfl));have m2:(Ms s.heap t1 t2 l1 l2).get? (R0 s.heap t1 l1).objs.size=some _:=p (p (p (B1 _ rfl)));have q:(Ms s.heap t1 t2 l1 l2).get? s.heap.objs.size=some _:=p (p (p (p (B1 _ rfl))));show _/\_;rw[b,a,g]at f;rw[d,b]at j;rw[a]at i;rw[d]at m2;rw[g];exact⟨⟨_,f,rfl⟩,h _ f j i (.new q) (.new m2) λc o e=>p (p (p (p (p e))))⟩
theorem MZ{xs:List V}(I:Inv X Zd Z H s)(h:C1 X.K tp H a xs):∃A3:List Value,Vals xs A3/\Eg tp s.heap a A3.toArray:=by
 cases tp
 .obtain⟨A3,b,pl,_⟩:=I.list h;exact⟨A3,b,pl.isList⟩
 .obtain⟨A3,b,pl,_⟩:=I.tuple h;exact⟨A3,b,pl⟩
noncomputable def bg(K:ZDv)(t1 t2:Bool)(a b:Addr)(xs ys:List V):It:=
 ⟨λi H=>C1 K t1 H a xs/\C1 K t2 H b ys/\i<xs.length/\i<ys.length,λi H x H'=>∃p d c,xs[i]?=some d/\ys[i]?=some c/\x=.ref p/\H p=none/\H'=upd H p (.tup [d,c]),λi H=>C1 K t1 H a xs/\C1 K t2 H b ys/\(xs.length<=i∨ys.length<=i)⟩
theorem jz{P:Program}{K:ZDv}(t1 t2:Bool)(a b z TI TO i1 i2:Addr)(xs ys:List V)(D:ZipApart z TI TO i1 i2 a b):
  Turn P w K (.Tuple es k1 p1) (bg K t1 t2 a b xs ys) [z,TI,TO,i1,i2] z (λi h=>(IsZip h z TI TO .none/\IsPair h TI (.ref i1) (.ref i2))/\(∃c d,IsPair h TO c d)/\Dh t1 h i1 a i/\Dh t2 h i2 b i) where
 mem:=by simp
 obj:=λi h st c g=>by
  obtain⟨⟨s1,s2⟩,⟨d,e,n⟩,g1,M⟩:=st;obtain⟨L,_,G,Q⟩:=g1.has;obtain⟨J,_,F,O⟩:=M.has;simp only[CK,BH,su]at g;rcases g with rfl|rfl|rfl|rfl|rfl
  .exact⟨_,s1,λv y=>by cases y⟩
  .exact⟨_,s2,λv y=>by cases y⟩
  .exact⟨_,n,λv y=>by cases y⟩
  .exact⟨L,G,λv y=>by rw[Q]at y;cases y⟩
  .exact⟨J,F,λv y=>by rw[O]at y;cases y⟩
 keep:=λi h h' st k=>⟨⟨k z (by simp) _ st.1.1,k TI (by simp) _ st.1.2⟩,let ⟨c,d,n⟩:=st.2.1;⟨c,d,k TO (by simp) _ n⟩,st.2.2.1.at λo q=>k i1 (by simp) o q,st.2.2.2.at λo q=>k i2 (by simp) o q⟩
 item:=by
  intro X r hw t g i Zd s Z H E I l st p;subst r hw t;obtain⟨Fg,HV,NH,Dw⟩:=p;obtain⟨⟨j,Fn⟩,⟨c,d,HQ⟩,HL,Iq⟩:=st;obtain⟨K6,HH,G6⟩:=MZ I Fg;obtain⟨BE,HW,E7⟩:=MZ I HV;obtain⟨B,RO,UM⟩:=HH.get (AQ NH);obtain⟨A,R3,WS⟩:=HW.get (AQ Dw);refine gm (I.ok.hd g) D j Fn HQ HL Iq G6 E7 (λx y ex m h1 a1 a2 T S R hk=>?_) λh=>absurd h (by simp[RO,R3]);have ex:K6[i]?=some x:=by simpa using ex
  have m:BE[i]?=some y:=by simpa using m
  rw[RO]at ex;rw[R3]at m;cases ex;cases m;refine⟨_,rfl,?_⟩;refine ZB8 a1 λh2 Gm Cz=>?_;have lz:z<s.heap.objs.size:=AU j;have up:∀b o,b≠z->h1.get? b=some o->h2.get? b=some o:=λb o f q=>(Cz.2 b f).trans q;have C:IsPair h2 s.heap.objs.size B A:=up _ _ (DQ lz) R;have kp:∀b o,b∉[z,TI,TO,i1,i2]->s.heap.get? b=some o->h2.get? b=some o:=λb o f q=>by
   simp only[CK,BH,su,ZBV]at f;exact up b o f.1 (hk b o f.1 f.2.2.1 f.2.2.2.1 f.2.2.2.2 q)
  refine⟨.ref s.heap.objs.size,_,I.RA (t':=s.toks) (a:=s.heap.objs.size) (o:=.tup [xs[i],ys[i]]) l kp (Aa _) ?_,rfl,⟨_,_,_,AQ NH,AQ Dw,rfl,I.AG.fresh (Aa _),rfl⟩,?_,λb f=>?_⟩
  .exact⟨(by show 2<=sizeLine;decide),[B,A],.cons UM (.cons WS .nil),⟨_,C,rfl,_,rfl⟩,λU q=>by rw[show h2.get? s.heap.objs.size=_ from C]at q;cases q;rfl⟩
  .exact⟨⟨Gm,up _ _ D.TIz (hk _ _ D.TIz D.TITO D.TIi1 D.TIi2 Fn)⟩,⟨_,_,up _ _ D.TOz a2⟩,T.at λo q=>up _ _ D.i1z q,S.at λo q=>up _ _ D.i2z q⟩
  .have y:b<s.heap.objs.size:=by
    simp only[CK,BH,su]at f;rcases f with rfl|rfl|rfl|rfl|rfl
    .exact lz
    .exact AU Fn
    .exact AU HQ
    .obtain⟨o,_,q,_⟩:=HL.has;exact AU q
    .obtain⟨o,_,q,_⟩:=Iq.has;exact AU q
   rw[AY (An y)];exact(l b f).1
 done:=by
  intro X r hw t g i Zd s Z H E I l st p;subst r hw t;obtain⟨Fg,HV,hx⟩:=p;obtain⟨⟨j,Fn⟩,⟨c,d,HQ⟩,HL,Iq⟩:=st;obtain⟨K6,HH,G6⟩:=MZ I Fg;obtain⟨BE,HW,E7⟩:=MZ I HV;have l1:=HH.length;have l2:=HW.length;have no:∀x y,K6.toArray[i]?=some x->BE.toArray[i]?≠some y:=λx y e1 u=>by
   have h1:i<K6.length:=by simpa using(Array.getElem?_eq_some_iff.mp e1).1
   have h2:i<BE.length:=by simpa using(Array.getElem?_eq_some_iff.mp u).1
   omega
  exact gm (I.ok.hd g) D j Fn HQ HL Iq G6 E7 (λx y e1 u=>absurd u (no x y e1)) λ_ h' N=>⟨rfl,I.Rc (t':=s.toks) l λb o f q=>by
   simp only[CK,BH,su,ZBV]at f;exact N b o f.1 f.2.2.1 f.2.2.2.1 f.2.2.2.2 q⟩
 self:=λ_ _ _ _ _ st h=>ZAQ st.1.1 h
def Uk(K:ZDv)(t:TA):TI:=λZ H R=>t Z H λvs H1=>∃a b t1 t2 xs ys,vs=[.ref a,.ref b]/\C1 K t1 H1 a xs/\C1 K t2 H1 b ys/\R (bg K t1 t2 a b xs ys) H1
theorem vY{p:Pos}{l l2:Expr}{t:TA}(r:Gl X "zip")(o:X.mg "zip"=none)(c:QA X [l,l2] t)(n:starEach [l,l2] X.env=(false,eval l X.env)::starEach [l2] X.env:=by rfl)(hp:(backTo pos (starEach [l2] X.env)).any (·.1)=false:=by rfl):
  QI X (.Tuple es k1 p1) (.Call (.Name "zip" p) [l,l2] [] pos) (Uk X.K t):=⟨by
 have c:=c.h;intro Zd s Z H R I h;refine uU (HB I r o (show bootBuiltins "zip"=some (.type "zip") by decide +kernel) ?_ (by decide) (by decide));refine Lv (c.k pos I h λus s1 vs H1 I1 j m=>?_) n hp;obtain⟨a,b,t1,t2,xs,ys,rfl,Fg,HV,q⟩:=m;obtain⟨B,A,rfl,i,g⟩:=vals2 j;cases i;cases g;obtain⟨K6,HH,G6⟩:=MZ I1 Fg;obtain⟨BE,HW,E7⟩:=MZ I1 HV;have e1:a<s1.heap.objs.size:=by cases t1 <;> (obtain⟨_,e,_⟩:=G6;exact AU e)
 have u:b<s1.heap.objs.size:=by cases t2 <;> (obtain⟨_,e,_⟩:=E7;exact AU e)
 refine pd G6 E7 λh' f z x w v kp=>ZAQ f ?_;refine⟨_,[s1.heap.objs.size+4,s1.heap.objs.size+2,s1.heap.objs.size+3,s1.heap.objs.size,s1.heap.objs.size+1],_,_,H1,rfl,I1.kept (t':=s1.toks) kp,jz t1 t2 a b _ _ _ _ _ xs ys (zipApart_new e1 u),⟨⟨f,z⟩,⟨_,_,x⟩,w,v⟩,λb d=>?_,q⟩;have y:s1.heap.objs.size<=b:=by
  simp only[CK,BH,su]at d;rcases d with rfl|rfl|rfl|rfl|rfl
  .exact JQ _ 4
  .exact JQ _ 2
  .exact JQ _ 3
  .exact Aa _
  .exact JQ _ 1
 exact I1.Mt y (I1.AG.fresh y)⟩
end L2
namespace Fz
open L2 Lw
section
variable[Xw]
variable{ss:List Slot}{te:TE}{K:ZDv}{P:Program}{w:World}
variable{E:Ent0}{Z:L2.St}{F H F' H':Hp}{js:List Nat}{ta tb:TE}
theorem eW{E:Ent}{F1:Hp}{v:V}{tp:Bool}{xs:List PV}(f:Fv E.toEnt0 F1 v tp xs):∃l vs,v=.ref l/\(∀(ss:List Slot)(Z:L2.St)(F H:Hp),AI F1 F->Sg E.toEnt0 ss Z F H->H l=some (CF tp vs))/\AJ F1 vs xs:=by
 cases tp with
 |true=>
  have a:Rep F1 v (.tup xs):=f;cases a with
  |tup e r=>exact⟨_,_,rfl,λss Z F H s S=>S.fh _ _ (s _ _ e),r⟩
 |false=>
  obtain⟨l,vs,e,h1,r⟩:=f;refine⟨l,vs,e,λss Z F H s S=>?_,r⟩;rcases h1 with h1|⟨hA,h1⟩
  .exact S.fh _ _ (s _ _ h1)
  .exact S.keep _ _ hA h1
theorem zk{k:List PV->Prop}(h:Wz ss ta λ_ xs=>Wz ss tb λ_ ys=>k (Iw xs ys)):Wi ss (Uk K (Ae ta (Ae tb BK))) k:=⟨λE Z F H R S q=>
 h.go E Z F H _ S λv tp xs F1 H1 d f h2=>h2.go E Z F1 H1 _ d.st λv2 BC ys F2 H2 m2 u kk=>by
  obtain⟨l,vs,e,Xb,r⟩:=eW f;obtain⟨l2,Ez,z,a2,b⟩:=eW u;have r:=r.mono m2.ff;have a1:∀(ss:List Slot)(Z:L2.St)(F H:Hp),AI F2 F->Sg E ss Z F H->H l=some (CF tp vs):=λss Z F H s S=>Xb ss Z F H (λa o e=>s a o (m2.ff a o e)) S;subst e;subst z;have c:=r.length;have C:=b.length;refine⟨l,l2,tp,BC,vs,Ez,rfl,CF.sq (a1 ss Z F2 H2 (AI.refl _) m2.st),CF.sq (a2 ss Z F2 H2 (AI.refl _) m2.st),q _ (Iw xs ys) F2 H2 (d.trans m2) ⟨λss Z F H i s S hi=>?_,λss Z F H s S=>?_,λss Z F H i x H' s S hi y=>?_⟩ kk⟩
  .rw[SD]at hi;exact⟨CF.sq (a1 ss Z F H s S),CF.sq (a2 ss Z F H s S),by omega,by omega⟩
  .refine⟨CF.sq (a1 ss Z F H s S),CF.sq (a2 ss Z F H s S),?_⟩;rw[SD];omega
  .obtain⟨p,j,g,hx,n,ex,t,w⟩:=y;subst ex;subst w;obtain⟨B,O5,Xz⟩:=r.get' hx;obtain⟨A,Gm,V5⟩:=b.get' n;have m:=S.alloc t (.tup [j,g]);exact⟨_,_,fR O5 Gm,m,.tup AZ (.cons (Xz.mono (s.trans m.ff)) (.one (V5.mono (s.trans m.ff))))⟩⟩
end
end Fz
namespace Fz
open L2 Lw
def U4(K:ZDv):R2:=λx y H Q=>∃(q:PV)(a:Addr)(vs:List V)(xs:List PV),y=.ref a/\AK K H a vs/\AJ H vs xs/\Rep H x q/\(∀p∈xs,dat K 40 p)/\dat K 40 q/\Q (.bl (!xs.any λp=>Bb p q)) H
section
variable{X:Cx}
theorem oC(P:X.A.units+64<cLine):B0 X (compareOp .NotIn) (U4 X.K):=by
 intro Zd s Z H x y v u Q I C B h;obtain⟨q,a,vs,xs,rfl,F,rs,D,hx,hd,k⟩:=h;cases B;obtain⟨A3,r,pl,O⟩:=I.list F;have R:=r.length;have S:=rs.length
 classical
 have at':∀(i:Nat)(w:Value),A3[i]?=some w->∃p,xs[i]?=some p/\SeqAt.EqAt X.A.in1 s w v (Bb p q):=λi w hw=>by
  have hi:i<A3.length:=(List.getElem?_eq_some_iff.mp hw).1;have m:vs[i]?=some vs[i]:=AQ (by omega);obtain⟨N,o,z⟩:=r.get m;rw[hw]at o;cases o;obtain⟨p,d,E⟩:=rs.get' m;exact⟨p,d,cW I 40 vs[i] x p q E D (hx p (Bc d)) hd X.A.in1 w v z C (by show X.A.units+1+40<cLine;omega)⟩
 let e:Value->Bool:=λw=>decide (∃(i:Nat)(p:PV),A3[i]?=some w/\xs[i]?=some p/\Bb p q=true)
 refine SeqAt.notIn_listAt e pl.isList (λw hw=>?_) ⟨.bl _,H,I,rfl,?_⟩
 .obtain⟨i,hi,L⟩:=Array.mem_iff_getElem.mp hw;have t:A3[i]?=some w:=by
   have:i<A3.length:=by simpa using hi
   rw[AQ this];simpa using L
  by_cases f:∃(i:Nat)(p:PV),A3[i]?=some w/\xs[i]?=some p/\Bb p q=true
  .have:e w=true:=kc f;rw[this];obtain⟨j,p,h1,h2,l⟩:=f;obtain⟨c,g,b⟩:=at' j w h1;rw[h2]at g;cases g;rw[l]at b;exact b
  .have:e w=false:=oO f;rw[this];obtain⟨c,g,b⟩:=at' i w t;have:Bb c q=false:=by
    cases J:Bb c q with
    |false=>rfl
    |true=>exact absurd ⟨i,c,t,g,J⟩ f
   rw[this]at b;exact b
 .have ea:A3.toArray.any e=xs.any λp=>Bb p q:=by
   rw[Hf,Array.any_eq_true,Lq];constructor
   .rintro⟨i,hi,h⟩;obtain⟨j,p,_,h2,l⟩:=pU h;exact⟨p,Bc h2,l⟩
   .rintro⟨p,d,h⟩;obtain⟨j,G,M⟩:=List.mem_iff_getElem.mp d;have n:j<A3.length:=by omega
    exact⟨j,by simpa using n,kc ⟨j,p,by rw[AQ n];simp,by rw[AQ G,M],h⟩⟩
  rw[ea];exact k
end
section
variable[Xw]
variable{ss:List Slot}{ta tb:TE}{K:ZDv}{k:PV->Prop}{nx:List Slot->Prop}{R:Ao}{xs:List PV}
theorem zF(h:Wp ss ta λq=>Wq ss tb λtp xs=>tp=false/\(∀p∈xs,dat K 40 p)/\dat K 40 q/\k (.bl (!xs.any λp=>Bb p q))):Wp ss (Au (U4 K) ta tb) k:=⟨λE Z F H Q S q=>
 h.go E Z F H _ S λv p F1 H1 a b h2=>h2.go E Z F1 H1 _ a.st λv2 tp xs F2 H2 m2 sv AX=>by
  obtain⟨d,f,e,kk⟩:=AX;subst d;obtain⟨l,vs,rfl,c,r⟩:=sv.seq m2.st;exact⟨p,l,vs,xs,rfl,AK.of c,r.mono m2.st.fh,(b.mono m2.ff).mono m2.st.fh,f,e,q _ _ F2 H2 (a.trans m2) (.bl _) kk⟩⟩
variable{te:TE}
variable{P:Program}{w:World}
end
end Fz
namespace Fz
open L2 Lw
variable{ss:List Slot}{ta tb tc te ti:TE}{nx:List Slot->Prop}{R:Ao}{i j:Nat}
section
variable[Xw]
variable{K:ZDv}{xs ys:List PV}{k:PV->Prop}
theorem pj{y:PV}(c:ss[j]?=some (.own ys))(g:ys[ys.length - 1]?=some y)(h:nx ((ss.set j (.own ys.dropLast)).set i (.is y))):Ws ss (EH (WX K "list" XH (Ap j)) (D8 i)) nx R:=⟨λE D Z F H S k n=>by
 obtain⟨l,vs,e,e1,m,d,r⟩:=S.ok j _ c;obtain⟨w,hw,a⟩:=r.get g;have b:=r.length;refine⟨_,e,.inl ⟨rfl,_,AK.of d⟩,l,vs,w,rfl,rfl,d,by rw[b];exact hw,?_⟩;have f:AJ F vs.dropLast ys.dropLast:=by
  rw[ZCT,ZCT,b];exact r.take _
 exact k _ _ F _ h ((S.put c e e1 m f).IE a) (AI.refl _)⟩
variable{lt:Bool}
end
theorem dW{pre:Pre}(b:∀ss R,¬ pre ss R){vs:List V}{H:Hp}{Q:VK}{E:XK}(h:Ey pre vs H Q E):False:=by
 obtain⟨ss,R,F,A,B,a,_⟩:=h;exact b ss R a
end Fz
namespace L2
section
variable{X:Cx}
theorem tL:Bk X (.builtin "len") (λxs H Q=>∃l f n,xs=[.ref l]/\H l=some (DD X.prog X.w l f n)/\Q (.int n) H):=by
 intro Zd s Z H xs us Q I r h;obtain⟨l,f,n,rfl,e,q⟩:=h;obtain⟨u,rfl,b⟩:=vals1 r;cases b;obtain⟨⟨o,es,ep,t,ho,a,hd,_,_,HE,d,c,_⟩,_,_⟩:=I.AG l _ e;subst c;refine PySem.call_len_set ho a hd d ?_ ⟨.int _,H,I.tok _,⟨_,rfl⟩,q⟩;have:es.size<4096:=HE;have h2:(4096:Int)<2 ^ 63:=by decide
 omega
end
end L2
namespace Fz
open L2 Lw
variable{ch pre:List Nat}{n u x:Nat}{Ls:List Lp}
def EA(l o:Lp):Prop:=∀x∈o.cs,x∈l.cs
instance (l o:Lp):Decidable (EA l o):=inferInstanceAs (Decidable (∀x∈o.cs,x∈l.cs))
def Ua:Pre:=λl R=>∃l1 l2:Lp,l=[.is l1.P,.is l2.P]/\l1.cs.length<=40/\l2.cs.length<=40/\R=.is (·=.bl (decide (EA l1 l2)))
def cg:Pre:=λl R=>∃l1 l2:Lp,l=[.is l1.P,.is l2.P]/\l1.cs.length<=40/\l2.cs.length<=40/\R=.is (·=.bl (decide (EA l2 l1)))
def Mn:Pre:=λl R=>∃l1 l2:Lp,l=[.is l1.P,.is l2.P]/\l1.cs.length<=40/\l2.cs.length<=40/\R=.is (·=.bl (decide (EA l2 l1∨EA l1 l2)))
def B8(p:Int×Int):PV:=.tup [.int p.1,.int p.2]
noncomputable def HC(Ls:List Lp)(n u:Nat):Bool:=match Ls[n]?,Ls[u]? with
 |some a,some b=>if a.cs=b.cs then decide (n<u)else decide (EA b a)
 |_,_=>false
def HU(Ls:List Lp):Prop:=Ls.length<=12/\∀l∈Ls,l.cs.length<=40
def dZ:Pre:=λl R=>∃(Ls:List Lp)(n u:Nat),l=[.is (.lst (Ls.map Lp.P)),.is (.int n),.is (.int u)]/\HU Ls/\n<Ls.length/\u<Ls.length/\R=.is (·=.bl (HC Ls n u))
def ups(Ls:List Lp)(n:Nat):List Nat:=(List.range Ls.length).filter (HC Ls n)
def cF:Pre:=λl R=>∃(Ls:List Lp)(n:Nat),l=[.is (.lst (Ls.map Lp.P)),.is (.int n)]/\HU Ls/\n<Ls.length/\R=.new (·=(ups Ls n).map λu:Nat=>PV.int u)
def CG:Option Nat->PV
 |none=>.A9
 |some n=>.int n
inductive Dn (lo:List (Option Nat)):Nat->List Nat->Prop
 |one {n:Nat}:lo[n]?=some none->Dn lo n [n]
 |more {n m:Nat}{ch:List Nat}:lo[n]?=some (some m)->Dn lo m ch->Dn lo n (n::ch)
def iB:Pre:=λl R=>∃(lo:List (Option Nat))(top:Nat)(ch:List Nat),l=[.sq false (lo.map CG),.is (.int top)]/\lo.length<=12/\Dn lo top ch/\ch.length<=12/\R=.new (·=ch.map λn:Nat=>PV.int n)
theorem bp:BZ ((pre++[x]).map λn:Nat=>PV.int n) (-1)=some (.int x):=by
 rw[Cs];exact jd _ _
theorem yb{α:Type}[DecidableEq α]{l m:List α}(nd:l.Nodup)(a:∀k∈l,k∈m)(c:m.length<=l.length):∀k∈m,k∈l:=λx hx=>JN λb=>by
 have q:=La (l:=x::l) (m:=m) (List.nodup_cons.mpr ⟨b,nd⟩) λk hk=>(List.mem_cons.mp hk).elim (λe=>e▸hx) (a k);rw[Az]at q;omega
structure Uq (Ls:List Lp):Prop where
 len:Ls.length<=12
 nd:∀a∈Ls,a.cs.Nodup
 uq:∀a∈Ls,∀b∈Ls,(∀x,x∈a.cs↔x∈b.cs)->a.cs=b.cs
noncomputable def mu(Ls:List Lp)(n:Nat):Nat:=match Ls[n]? with
 |some l=>l.cs.length * 100+n
 |none=>0
theorem ck{l:Lp}(h:Ls[n]?=some l):mu Ls n=l.cs.length * 100+n:=by unfold mu;rw[h]
theorem UR(h:HC Ls n u=true):∃a b,Ls[n]?=some a/\Ls[u]?=some b/\((a.cs=b.cs/\n<u)∨(a.cs≠b.cs/\EA b a)):=by
 unfold HC at h;cases ea:Ls[n]? with
 |none=>rw[ea]at h;cases h
 |some a=>
  cases d:Ls[u]? with
  |none=>rw[ea,d]at h;cases h
  |some b=>
   rw[ea,d]at h;refine⟨a,b,rfl,rfl,?_⟩;dsimp only at h
   by_cases c:a.cs=b.cs
   .rw[p7 c]at h;exact .inl ⟨c,pU h⟩
   .rw[mD c]at h;exact .inr ⟨c,pU h⟩
theorem MK(U:Uq Ls)(h:HC Ls n u=true):mu Ls n<mu Ls u:=by
 obtain⟨a,b,ea,f,c⟩:=UR h;have i:=(List.getElem?_eq_some_iff.mp ea).1;have j:=U.len;rw[ck ea,ck f];rcases c with⟨c,AB⟩|⟨c,d⟩
 .rw[c];omega
 .have e:=Bc ea;have g:=Bc f;have q:=La (U.nd a e) d;rcases ZCt q with q|q
  .omega
  .exact absurd (U.uq a e b g λx=>⟨d x,yb (U.nd a e) d (KU q.symm) x⟩) c
theorem dR{lo:List (Option Nat)}(U:Uq Ls)(l:lo.length=Ls.length)(h:∀u v,lo[u]?=some (some v)->HC Ls v u=true):∀(k n:Nat),mu Ls n<=k->n<lo.length->∃ch,Dn lo n ch/\ch.Nodup/\(∀x∈ch,x<lo.length/\mu Ls x<=mu Ls n):=by
 have one:∀n,n<lo.length->lo[n]?=some none->∃ch,Dn lo n ch/\ch.Nodup/\(∀x∈ch,x<lo.length/\mu Ls x<=mu Ls n):=λn c e=>
  ⟨[n],.one e,List.nodup_cons.mpr ⟨BH,Hh⟩,λx hx=>by rw[KS]at hx;subst hx;exact⟨c,Aa _⟩⟩
 intro k
 induction k with
 |zero=>
  intro n hk c;have e:=AQ c;cases d:lo[n]with
  |none=>rw[d]at e;exact one n c e
  |some v=>
   rw[d]at e;have:=MK U (h n v e);omega
 |succ k j=>
  intro n hk c;have e:=AQ c;cases d:lo[n]with
  |none=>rw[d]at e;exact one n c e
  |some v=>
   rw[d]at e;have o:=MK U (h n v e);obtain⟨a,b,ea,p,_⟩:=UR (h n v e);have m:v<lo.length:=l▸(List.getElem?_eq_some_iff.mp ea).1;obtain⟨ch,i,g,f⟩:=j v (by omega) m;refine⟨n::ch,.more e i,List.nodup_cons.mpr ⟨λhx=>?_,g⟩,λx hx=>?_⟩
   .have:=(f n hx).2;omega
   .rcases List.mem_cons.mp hx with rfl|hx
    .exact⟨c,Aa _⟩
    .exact⟨(f x hx).1,CL (f x hx).2 (Gu o)⟩
theorem ZAK{lo:List (Option Nat)}(nd:ch.Nodup)(h:∀x∈ch,x<lo.length):ch.length<=lo.length:=by
 have q:=La (m:=List.range lo.length) nd λx hx=>List.mem_range.mpr (h x hx)
 rwa [Cc]at q
theorem Dn.uniq{lo:List (Option Nat)}{Ma:List Nat}(a:Dn lo n ch)(b:Dn lo n Ma):ch=Ma:=by
 induction a generalizing Ma with
 |one e=>
  cases b with
  |one _=>rfl
  |more c _=>rw[e]at c;cases c
 |more e _ d=>
  cases b with
  |one c=>rw[e]at c;cases c
  |more c f=>rw[e]at c;cases c;rw[d f]
end Fz
namespace Kz
variable{ab:Nat->List Nat}{n t:Nat}{T ch tr:List Nat}{Ls:List Lp}
def Cl(ab:Nat->List Nat)(lo:Lo)(T:List Nat):Prop:=∀z∈T,∃w,lo[z]?=some (some w)/\∀u∈ab w,u∈T
theorem mq{lo:Lo}{v:Nat}(Bw:∀v u,u∈ab v->u<lo.length)(s:Dg ab v lo)(nd:tr.Nodup)(lt:∀z∈tr,z<lo.length)(l:lo.length<n+tr.length)(cl:Cl ab lo tr):
  ∃Bj,fu ab n v lo tr=(false,lo,Bj)/\Bj.Nodup/\(∀z∈Bj,z<lo.length)/\(∀z∈tr,z∈Bj)/\(∀u∈ab v,u∈Bj)/\Cl ab lo Bj:=by
 have q:=Mo Bw n v tr nd lt l;obtain⟨σ,m,o⟩:=s;cases e:fu ab n v lo tr with
 |mk b x=>
  obtain⟨BU,Bj⟩:=x;rw[e]at q;cases b with
  |true=>
   obtain⟨p,k,_⟩:=q;exact absurd k (Dg.no o m)
  |false=>
   obtain⟨rfl,a,g,f,_,d,c⟩:=q;refine⟨Bj,rfl,g,f,a,d,λz i=>?_⟩;rcases c z i with h|h
   .obtain⟨w,e,h⟩:=cl z h;exact⟨w,e,λu j=>a u (h u j)⟩
   .exact h
noncomputable def gp(ab:Nat->List Nat)(m n:Nat):Nat->Lo
 | 0=>List.replicate m none
 |k+1=>(fu ab n k (gp ab m n k) []).2.1
theorem XO{ab:Nat->List Nat}{m n:Nat}(Bw:∀v u,u∈ab v->u<m)(a:m<n):∀k,(gp ab m n k).length=m/\(lows (gp ab m n k)).Nodup/\Mc ab (gp ab m n k)/\(∀w∈lows (gp ab m n k),w<k)/\∀w,w<k->w∈lows (gp ab m n k)∨Dg ab w (gp ab m n k)
 | 0=>by
  have e:∀m,lows (List.replicate m none)=[]:=λm=>by
   induction m with
   |zero=>rfl
   |succ m o=>rw[ZCm];exact o
  refine⟨jM,by show(lows (List.replicate m none)).Nodup;rw[e];exact .nil,λu w h=>?_,λw h=>?_,λw h=>absurd h (Nat.not_lt_zero w)⟩
  .have:=GD.mpr ⟨u,h⟩;rw[show lows (gp ab m n 0)=[]from e m]at this;cases this
  .rw[show lows (gp ab m n 0)=[]from e m]at h;cases h
 |k+1=>by
  obtain⟨h1,h2,q,c,p⟩:=XO Bw a k;obtain⟨b,BU,Bj,e,l,j,i,g,f,d⟩:=step (v:=k) (λv u h=>by rw[h1];exact Bw v u h) (by rw[h1];exact a) h2 q λh=>N6 _ (c k h);have el:gp ab m n (k+1)=BU:=by show(fu ab n k (gp ab m n k) []).2.1=BU;rw[e]
  rw[el];refine⟨l.trans h1,j,i,λw hw=>?_,λw hw=>?_⟩
  .rcases f w hw with rfl|h
   .exact IL _
   .exact Ej (c w h)
  .rcases ZCt (PZ hw)with h|rfl
   .exact d w (p w h)
   .exact g
noncomputable def tryAll(ab:Nat->List Nat)(n:Nat)(lo:Lo):List Nat->List Nat->List Nat
 | [],tr=>tr
 |t::ts,tr=>tryAll ab n lo ts (fu ab n t lo tr).2.2
theorem Zq{ab:Nat->List Nat}{lo:Lo}{n:Nat}(Bw:∀v u,u∈ab v->u<lo.length)(d:lo.length<n):∀(a tr:List Nat),(∀t∈a,Dg ab t lo)->tr.Nodup->(∀z∈tr,z<lo.length)->Cl ab lo tr->
  (tryAll ab n lo a tr).Nodup/\(∀z∈tr,z∈tryAll ab n lo a tr)/\Cl ab lo (tryAll ab n lo a tr)/\∀t∈a,∀u∈ab t,u∈tryAll ab n lo a tr
 | [],tr,_,nd,_,cl=>⟨nd,λ_ h=>h,cl,λ_ h=>by cases h⟩
 |t::a,tr,s,nd,lt,cl=>by
  obtain⟨Bj,e,h1,h2,i,g,f⟩:=mq (n:=n) Bw (s t Ar) nd lt (by omega) cl;have q:=Zq Bw d a Bj (λx hx=>s x (BG _ hx)) h1 h2 f;have el:tryAll ab n lo (t::a) tr=tryAll ab n lo a Bj:=by show tryAll ab n lo a (fu ab n t lo tr).2.2=_;rw[e]
  rw[el];refine⟨q.1,λz c=>q.2.1 z (i z c),q.2.2.1,λx hx u b=>?_⟩;rcases List.mem_cons.mp hx with rfl|hx
  .exact q.2.1 u (g u b)
  .exact q.2.2.2 x hx u b
open Fz in
theorem ZBM{lo:Lo}(cl:Cl ab lo T)(d:Dn lo n ch):(∀u∈ab n,u∈T)->∃x r,(ch.filter λy=>decide (y∉T))=x::r/\x∈ch/\x∉T/\∀u∈ab x,u∈T:=by
 induction d with
 |@one n e=>
  intro h;have a:n∉T:=λz=>by
   obtain⟨w,b,_⟩:=cl n z;rw[e]at b;cases b
  exact⟨n,[],by simp[a],Ar,a,h⟩
 |@more n m ch e _ c=>
  intro h
  by_cases a:n∈T
  .obtain⟨w,b,hw⟩:=cl n a;rw[e]at b;cases b;obtain⟨x,r,h1,h2,g,f⟩:=c hw;exact⟨x,r,by rw[ZCW (by simp[a]),h1],BG _ h2,g,f⟩
  .exact⟨n,ch.filter λy=>decide (y∉T),by rw[ZCX (by simp[a])],Ar,a,h⟩
open Fz
theorem hU{lo:Lo}(d:Dn lo n ch):n∈ch:=by cases d <;> exact Ar
theorem NU{lo:Lo}(d:Dn lo n ch):∀x∈ch,x=n∨∃u∈ch,lo[u]?=some (some x):=by
 induction d with
 |one _=>intro x hx;exact .inl (List.mem_singleton.mp hx)
 |@more n m ch e d a=>
  intro x hx;rcases List.mem_cons.mp hx with rfl|hx
  .exact .inl rfl
  .rcases a x hx with rfl|⟨u,hu,e2⟩
   .exact .inr ⟨n,Ar,e⟩
   .exact .inr ⟨u,BG _ hu,e2⟩
theorem ZBK{lo:Lo}(d:Dn lo n ch):∀u∈ch,∀x,lo[u]?=some (some x)->x∈ch:=by
 induction d with
 |one e=>
  intro u b x a;rw[List.mem_singleton.mp b,e]at a;cases a
 |@more n m ch e d c=>
  intro u b x a;rcases List.mem_cons.mp b with rfl|b
  .rw[e]at a;cases a;exact BG _ (hU d)
  .exact BG _ (c u b x a)
structure Pg (Ls:List Lp) (lo:Lo):Prop where
 uq:Uq Ls
 len:lo.length=Ls.length
 fit:∀u v,lo[u]?=some (some v)->HC Ls v u=true
 nd:(lows lo).Nodup
 bd:∀l∈Ls,l.cs.length<=40
theorem Qu{lo:Lo}(G:Pg Ls lo)(n:Nat):mu Ls n<=5000:=by
 unfold mu;cases e:Ls[n]? with
 |none=>exact Bm _
 |some l=>
  have h1:=G.bd l (Bc e);have h2:=(List.getElem?_eq_some_iff.mp e).1;have a:=G.uq.len;show l.cs.length * 100+n<=5000;omega
theorem xl{lo:Lo}(G:Pg Ls lo):∀(k n:Nat),5000 - mu Ls n<=k->n<lo.length->∃t,t<lo.length/\t∉lows lo/\∃ch,Dn lo t ch/\n∈ch:=by
 have top:∀n,n<lo.length->n∉lows lo->∃t,t<lo.length/\t∉lows lo/\∃ch,Dn lo t ch/\n∈ch:=λn a h=>by
  obtain⟨ch,d,_⟩:=dR G.uq G.len G.fit _ n (Aa _) a;exact⟨n,a,h,ch,d,hU d⟩
 intro k
 induction k with
 |zero=>
  intro n hk a;refine top n a λh=>?_;obtain⟨u,e⟩:=GD.mp h;have:=MK G.uq (G.fit u n e);have:=Qu G u;omega
 |succ k f=>
  intro n hk a
  by_cases h:n∈lows lo
  .obtain⟨u,e⟩:=GD.mp h;have h1:=MK G.uq (G.fit u n e);have h2:=Qu G u;obtain⟨t,c,b,ch,d,g⟩:=f u (by omega) (List.getElem?_eq_some_iff.mp e).1;exact⟨t,c,b,ch,d,ZBK d u g n e⟩
  .exact top n a h
theorem ZAA{lo:Lo}(G:Pg Ls lo){t':Nat}{Ma:List Nat}(c:t∉lows lo)(a:t'∉lows lo)(d:Dn lo t ch)(d':Dn lo t' Ma):∀(k n:Nat),5000 - mu Ls n<=k->n∈ch->n∈Ma->t=t':=by
 have no:∀{t n:Nat},t∉lows lo->(∃u∈ch,lo[u]?=some (some t))->False:=λh⟨u,_,e⟩=>h (GD.mpr ⟨u,e⟩);intro k
 induction k with
 |zero=>
  intro n hk h h';have top:n∉lows lo:=λh=>by
   obtain⟨u,e⟩:=GD.mp h;have:=MK G.uq (G.fit u n e);have:=Qu G u;omega
  rcases NU d n h with e|⟨u,_,e⟩
  .rcases NU d' n h' with e'|⟨u,_,e'⟩
   .exact e.symm.trans e'
   .exact absurd (GD.mpr ⟨u,e'⟩) top
  .exact absurd (GD.mpr ⟨u,e⟩) top
 |succ k b=>
  intro n hk h h';rcases NU d n h with e|⟨u,hu,e⟩
  .rcases NU d' n h' with e'|⟨u,_,e'⟩
   .exact e.symm.trans e'
   .exact absurd (GD.mpr ⟨u,e▸e'⟩) c
  .rcases NU d' n h' with e'|⟨u',IY,e'⟩
   .exact absurd (GD.mpr ⟨u,e'▸e⟩) a
   .have f:=bY G.nd e e';subst f;have h1:=MK G.uq (G.fit u n e);have h2:=Qu G u;exact b u (by omega) hu IY
def Cy(lo:Lo):List Nat:=(List.range lo.length).filter λn=>decide (n∉lows lo)
theorem I0{lo:Lo}:t∈Cy lo↔t<lo.length/\t∉lows lo:=by unfold Cy;simp[YZ,TB]
theorem Ut{u:Nat}:u∈ups Ls n↔u<Ls.length/\HC Ls n u=true:=by unfold ups;simp[YZ,TB]
theorem zR(U:Uq Ls)(bd:∀l∈Ls,l.cs.length<=40)(d:Ls.length<n):Pg Ls (gp (ups Ls) Ls.length n Ls.length)/\∀t∈Cy (gp (ups Ls) Ls.length n Ls.length),Dg (ups Ls) t (gp (ups Ls) Ls.length n Ls.length):=by
 obtain⟨h1,h2,g,i,f⟩:=XO (ab:=ups Ls) (m:=Ls.length) (n:=n) (λv u h=>(Ut.mp h).1) d Ls.length;refine⟨⟨U,h1,λu v e=>(Ut.mp (g u v e)).2,h2,bd⟩,λt c=>?_⟩;obtain⟨b,a⟩:=I0.mp c;exact(f t (h1▸b)).resolve_left a
end Kz
namespace Fz
open L2 Lw
variable{l ss:List Slot}{te:TE}{nx:List Slot->Prop}{R:Ao}{F H:Hp}{v1 v2 vp:V}{t1 t2:OV}{b c d l1 l2:Bool}{vs:List V}{E:Ent0}{Z:L2.St}{A:List Addr}{a:Addr}{i j n:Nat}{s:Slot}{k1 k2:NK}{E9 GB:List OV}{kk:PV->OV->OV->Prop}
section
variable[Xw]
variable{K:ZDv}{k:PV->Prop}
theorem rK{t':TS}{l:Addr}{xs:List PV}(i:Nat)(hi:ss[i]?=some (.ow false (.nd .lst l (xs.map .fz))))(h:Ws (ss.set i (.own xs)) t' nx R):Ws ss t' nx R:=⟨λE D Z F H S n m=>by
 obtain⟨v,e,r,_,f⟩:=S.ok i _ hi;obtain⟨vs,rfl,q,w,x,d⟩:=r.inv;have a:=f l (by rw[Sq];simp);have c:=S.setG (j:=i) (s:=.own xs) (v:=.ref l) ⟨l,vs,rfl,a.1,a.2.elim id (λz=>by cases z.1),q,ak d⟩ λb p j u o k g=>by
  have t:l=b:=by have z:some (some (V.ref l))=some (some (V.ref b)):=p;injection z with z;injection z with z;injection z
  subst t;exact S.Bv j i u _ l o k hi g (by show l∈OV.addrs _;rw[Sq];simp)
 rw[Mz e]at c;exact h.go E D Z F H c n m⟩
end
inductive Ew (F:Hp) (vp v1 v2:V) (t1 t2:OV):Bool->Bool->Bool->List V->List Slot->Prop where
 |nil:Ew F vp v1 v2 t1 t2 false false false [] []
 |is {b c d:Bool}{v:V}{p:PV}{vs:List V}{l:List Slot}:Rep F v p->Ew F vp v1 v2 t1 t2 b c d vs l->Ew F vp v1 v2 t1 t2 b c d (v::vs) (.is p::l)
 |AE {c d:Bool}{vs:List V}{l:List Slot}:Ew F vp v1 v2 t1 t2 false c d vs l->Ew F vp v1 v2 t1 t2 true c d (vp::vs) (.AE::l)
 |one {b d:Bool}{vs:List V}{l:List Slot}:Ew F vp v1 v2 t1 t2 b false d vs l->Ew F vp v1 v2 t1 t2 b true d (v1::vs) (.ow true t1::l)
 |two {b c:Bool}{vs:List V}{l:List Slot}:Ew F vp v1 v2 t1 t2 b c false vs l->Ew F vp v1 v2 t1 t2 b c true (v2::vs) (.ow true t2::l)
section
variable{F':Hp}
theorem Ew.len(h:Ew F vp v1 v2 t1 t2 b c d vs l):l.length=vs.length:=by
 induction h with
 |nil=>rfl
 |is _ _ a=>rw[Az,Az,a]
 |AE _ a=>rw[Az,Az,a]
 |one _ a=>rw[Az,Az,a]
 |two _ a=>rw[Az,Az,a]
theorem Ew.at(h:Ew F vp v1 v2 t1 t2 b c d vs l):∃(n0 j i:Nat),∀(n:Nat)(s:Slot),l[n]?=some s->
  (∃v p,vs[n]?=some v/\s=.is p/\Rep F v p)∨(b=true/\n=n0/\s=.AE/\vs[n]?=some vp)∨(c=true/\n=j/\s=.ow true t1/\vs[n]?=some v1)∨(d=true/\n=i/\s=.ow true t2/\vs[n]?=some v2):=by
 induction h with
 |nil=>exact⟨0,0,0,λn s h=>by simp at h⟩
 |is r _ g=>
  obtain⟨n0,j,i,g⟩:=g;refine⟨n0+1,j+1,i+1,λn s h=>?_⟩;cases n with
  |zero=>simp at h;subst h;exact .inl ⟨_,_,rfl,rfl,r⟩
  |succ n=>
   rcases g n s (by simpa using h)with⟨v,p,q⟩|⟨a,q,f,e⟩|⟨a,q,f,e⟩|⟨a,q,f,e⟩
   .exact .inl ⟨v,p,by simpa using q⟩
   .exact .inr (.inl ⟨a,by rw[q],f,by simpa using e⟩)
   .exact .inr (.inr (.inl ⟨a,by rw[q],f,by simpa using e⟩))
   .exact .inr (.inr (.inr ⟨a,by rw[q],f,by simpa using e⟩))
 |AE _ g=>
  obtain⟨n0,j,i,g⟩:=g;refine⟨0,j+1,i+1,λn s h=>?_⟩;cases n with
  |zero=>simp at h;subst h;exact .inr (.inl ⟨rfl,rfl,rfl,rfl⟩)
  |succ n=>
   rcases g n s (by simpa using h)with⟨v,p,q⟩|⟨a,q,f,e⟩|⟨a,q,f,e⟩|⟨a,q,f,e⟩
   .exact .inl ⟨v,p,by simpa using q⟩
   .cases a
   .exact .inr (.inr (.inl ⟨a,by rw[q],f,by simpa using e⟩))
   .exact .inr (.inr (.inr ⟨a,by rw[q],f,by simpa using e⟩))
 |one _ g=>
  obtain⟨n0,j,i,g⟩:=g;refine⟨n0+1,0,i+1,λn s h=>?_⟩;cases n with
  |zero=>simp at h;subst h;exact .inr (.inr (.inl ⟨rfl,rfl,rfl,rfl⟩))
  |succ n=>
   rcases g n s (by simpa using h)with⟨v,p,q⟩|⟨a,q,f,e⟩|⟨a,q,f,e⟩|⟨a,q,f,e⟩
   .exact .inl ⟨v,p,by simpa using q⟩
   .exact .inr (.inl ⟨a,by rw[q],f,by simpa using e⟩)
   .cases a
   .exact .inr (.inr (.inr ⟨a,by rw[q],f,by simpa using e⟩))
 |two _ g=>
  obtain⟨n0,j,i,g⟩:=g;refine⟨n0+1,j+1,0,λn s h=>?_⟩;cases n with
  |zero=>simp at h;subst h;exact .inr (.inr (.inr ⟨rfl,rfl,rfl,rfl⟩))
  |succ n=>
   rcases g n s (by simpa using h)with⟨v,p,q⟩|⟨a,q,f,e⟩|⟨a,q,f,e⟩|⟨a,q,f,e⟩
   .exact .inl ⟨v,p,by simpa using q⟩
   .exact .inr (.inl ⟨a,by rw[q],f,by simpa using e⟩)
   .exact .inr (.inr (.inl ⟨a,by rw[q],f,by simpa using e⟩))
   .cases a
variable{H':Hp}
def Mj(ss:List Slot)(Z:L2.St)(b:Bool)(vp:V)(A:List Addr):Prop:=(b=false/\A=[])∨∃(q:Nat)(lp:Addr),b=true/\A=[lp]/\vp=.ref lp/\ss[q]?=some .AE/\Z[q]?=some (some (.ref lp))
theorem Mj.own(h:Mj ss Z b vp A)(c:a∈A):∃q:Nat,ss[q]?=some .AE/\Z[q]?=some (some (.ref a)):=by
 rcases h with⟨_,rfl⟩|⟨q,lp,_,rfl,_,h1,h2⟩
 .cases c
 .rw[List.mem_singleton.mp c];exact⟨q,h1,h2⟩
theorem Sg.call2(S:Sg E ss Z F H)(y:Mj ss Z b vp A)(G:Aw F H v1 t1)(D:Aw F H v2 t2)(nd:(t1.addrs++t2.addrs).Nodup)
  (w:∀a∈t1.addrs++t2.addrs,F a=none) (k:∀a∈t1.addrs++t2.addrs,a∉A)(a:Ew F vp v1 v2 t1 t2 b c d vs l):Sg ⟨A,F,H,t1.addrs++t2.addrs⟩ l (vs.map some) F H:=by
 obtain⟨n0,K,J,m⟩:=a.at;have th:∀x∈t1.addrs++t2.addrs,H x≠none:=λx hx=>by
  rcases List.mem_append.mp hx with h|h
  .exact G.there x h
  .exact D.there x h
 have pt:∀x∈A,Bq H x/\F x=none:=λx hx=>by
  obtain⟨q,h1,h2⟩:=y.own hx;obtain⟨l,e,I,_,p⟩:=S.ok q _ h1;rw[h2]at e;cases e;exact⟨p,I⟩
 have t:=List.nodup_append.mp nd;refine⟨⟨S.fh,AI.refl _,λ_ _ _ e=>e,λ_ _ e=>.inl e,λx h=>(pt x h).1,λx h=>(pt x h).2,λx h=>by obtain⟨_,_,e,_⟩:=(pt x h).1;show H x≠none;rw[e];simp,w,th,λx h=>⟨th x h,k x h⟩⟩,by rw[AA];exact a.len,λn s B=>?_,λn j s u x O6 B C ms mu=>?_⟩
 .rcases m n s B with⟨v,p,f,rfl,r⟩|⟨g,_,rfl,f⟩|⟨_,_,rfl,f⟩|⟨_,_,rfl,f⟩
  .rw[AS,f];exact⟨v,rfl,r⟩
  .rw[AS,f];rcases y with⟨h,_⟩|⟨q,lp,_,rfl,rfl,h1,h2⟩
   .rw[h]at g;cases g
   .exact⟨lp,rfl,(pt lp (by simp)).2,.inr (by simp),(pt lp (by simp)).1⟩
  .rw[AS,f];exact⟨v1,rfl,G,t.1,λx hx=>⟨w x (by simp[hx]),.inr ⟨rfl,by simp[hx]⟩⟩⟩
  .rw[AS,f];exact⟨v2,rfl,D,t.2.1,λx hx=>⟨w x (by simp[hx]),.inr ⟨rfl,by simp[hx]⟩⟩⟩
 .have o:∀{n:Nat},b=true->vs[n]?=some vp->Bf .AE ((vs.map some)[n]?) x->x∈A:=λ{n}g f ho=>by
   rcases y with⟨h,_⟩|⟨q,lp,_,rfl,rfl,h1,h2⟩
   .rw[h]at g;cases g
   .rw[AS,f]at ho;have z:some (some (V.ref lp))=some (some (V.ref x)):=ho;injection z with z;injection z with z;injection z with z
    rw[z];simp
  rcases m n s B with⟨v,p,f,rfl,r⟩|⟨g,e1,rfl,f⟩|⟨_,e1,rfl,f⟩|⟨_,e1,rfl,f⟩
  .cases ms
  .rcases m j u C with⟨_,_,_,rfl,_⟩|⟨_,i,rfl,_⟩|⟨_,i,rfl,_⟩|⟨_,i,rfl,_⟩
   .cases mu
   .exact O6 (e1.trans i.symm)
   .exact k x (Dm _ mu) (o g f ms)
   .exact k x (C5 _ mu) (o g f ms)
  .rcases m j u C with⟨_,_,_,rfl,_⟩|⟨g,i,rfl,Xi⟩|⟨_,i,rfl,_⟩|⟨_,i,rfl,_⟩
   .cases mu
   .exact k x (Dm _ ms) (o g Xi mu)
   .exact O6 (e1.trans i.symm)
   .exact t.2.2 x ms x mu rfl
  .rcases m j u C with⟨_,_,_,rfl,_⟩|⟨g,i,rfl,Xi⟩|⟨_,i,rfl,_⟩|⟨_,i,rfl,_⟩
   .cases mu
   .exact k x (C5 _ ms) (o g Xi mu)
   .exact t.2.2 x mu x ms rfl
   .exact O6 (e1.trans i.symm)
theorem Sg.ZK{lt:Bool}{I G:OV}(S:Sg E ss Z F H)(T:Mj ss Z b vp A)(Ck:i≠j)(hi:ss[i]?=some (.ow lt t1))(X:ss[j]?=some (.ow lt t2))
  (e1:Z[i]?=some (some v1)) (e2:Z[j]?=some (some v2)) (f:Fin ⟨A,F,H,t1.addrs++t2.addrs⟩ F' H') (r1:Aw F' H' v1 I) (r2:Aw F' H' v2 G) (nd:(I.addrs++G.addrs).Nodup)
  (q:∀a∈I.addrs++G.addrs,F' a=none/\(H a=none∨a∈t1.addrs++t2.addrs)) :
  Sg E ((ss.set i (.ow lt I)).set j (.ow lt G)) Z F' H'/\(∀a o,Cp ss Z a->a∉t1.addrs++t2.addrs->H a=some o->H' a=some o):=by
 obtain⟨w1,x1,_,_,R⟩:=S.ok i _ hi;obtain⟨w2,x2,_,_,Q⟩:=S.ok j _ X;have K7:i<ss.length:=(List.getElem?_eq_some_iff.mp hi).1;have o9:j<ss.length:=(List.getElem?_eq_some_iff.mp X).1;have P:∀a∈t1.addrs++t2.addrs,F a=none/\(E.H0 a=none∨a∈E.B):=λa g=>by
  rcases List.mem_append.mp g with h|h
  .exact⟨(R a h).1,(R a h).2.imp id λz=>z.2⟩
  .exact⟨(Q a h).1,(Q a h).2.imp id λz=>z.2⟩
 have kp:∀a o,a∉A->a∉t1.addrs++t2.addrs->H a=some o->H' a=some o:=λa o L K e=>f.keep a o ⟨L,K⟩ e;have Bo:∀a,H a≠none->F a=none->F' a=none:=λa h1 h2=>by
  cases e:F' a with
  |none=>rfl
  |some o=>
   rcases f.fresh a o e with z|z
   .rw[show F a=some o from z]at h2;cases h2
   .exact absurd z h1
 have pe:∀a∈A,E.H0 a=none∨a∈E.A:=λa g=>by
  obtain⟨n,h1,h2⟩:=T.own g;obtain⟨l,e,_,W,_⟩:=S.ok n _ h1;rw[h2]at e;cases e;exact W
 have WL:∀a,a∈E.A->a∉t1.addrs++t2.addrs:=λa k t=>by
  rcases(P a t).2 with z|z
  .exact S.a0 a k z
  .exact(S.b0 a z).2 k
 have d:∀(n:Nat)s,n≠i->n≠j->ss[n]?=some s->∀a,Bf s Z[n]? a->a∉t1.addrs++t2.addrs:=λn s h1 h2 w a ho t=>by
  rcases List.mem_append.mp t with h|h
  .exact S.Bv n i s _ a h1 w hi ho h
  .exact S.Bv n j s _ a h2 w X ho h
 have LP:∀(n:Nat)s,s≠.AE->ss[n]?=some s->∀a,Bf s Z[n]? a->a∉A:=λn s np w a ho t=>by
  obtain⟨m,h1,h2⟩:=T.own t
  by_cases c:n=m
  .subst c;rw[w]at h1;exact np (BW h1)
  .exact S.Bv n m s _ a c w h1 ho h2
 have EI:∀a,Bq H a->a∉t1.addrs++t2.addrs->Bq H' a:=λa p n=>by
  by_cases c:a∈A
  .exact f.EI a c
  .exact Bq.keep p λo e=>kp a o c n e
 have at_:∀(n:Nat)s,((ss.set i (.ow lt I)).set j (.ow lt G))[n]?=some s->(n=j/\s=.ow lt G)∨(n=i/\s=.ow lt I)∨(n≠i/\n≠j/\ss[n]?=some s):=λn s C=>by
  by_cases c:n=j
  .subst c;rw[DP (by rw[Hg];exact o9)]at C;exact .inl ⟨rfl,(BW C).symm⟩
  .rw[Cr (Bh c)]at C
   by_cases D:n=i
   .subst D;rw[DP K7]at C;exact .inr (.inl ⟨rfl,(BW C).symm⟩)
   .rw[Cr (Bh D)]at C;exact .inr (.inr ⟨D,c,C⟩)
 have qn:∀a∈I.addrs++G.addrs,E.H0 a=none∨a∈E.B:=λa g=>by
  rcases(q a g).2 with z|z
  .exact .inl (S.Ee z)
  .exact(P a z).2
 have O:=List.nodup_append.mp nd;have U:∀a,a∈E.B->a∈I.addrs++G.addrs->lt=true:=λa J g=>by
  rcases(q a g).2 with z|z
  .exact absurd (S.Ee z) (S.b0 a J).1
  .rcases List.mem_append.mp z with h|h
   .exact((R a h).2.resolve_left (S.b0 a J).1).1
   .exact((Q a h).2.resolve_left (S.b0 a J).1).1
 have σ:∀{u:OV}{v:V}{n:Nat},Z[n]?=some (some v)->Aw F' H' v u->u.addrs.Nodup->(∀a∈u.addrs,a∈I.addrs++G.addrs)->Ok E F' H' (.ow lt u) Z[n]?:=λ{u v n}e r Eb w=>by
  refine⟨v,e,r,Eb,λa g=>⟨(q a (w a g)).1,?_⟩⟩;rcases qn a (w a g)with z|z
  .exact .inl z
  .exact .inr ⟨U a z (w a g),z⟩
 refine⟨⟨⟨f.fh,S.f0.trans f.f0,λa o k e=>?_,λa o e=>?_,λa k=>?_,λa k=>?_,S.a0,λa J=>?_,λa J=>?_,S.b0⟩,by rw[Hg,Hg];exact S.len,λn s C=>?_,λn m s u x SK C t ms mu=>?_⟩,λa o np nb e=>?_⟩
 .refine kp a o (λz=>?_) (λz=>?_) (S.keep a o k e)
  .rcases pe a z with y|y
   .rw[e]at y;cases y
   .exact k.1 y
  .rcases(P a z).2 with y|y
   .rw[e]at y;cases y
   .exact k.2 y
 .rcases f.fresh a o e with z|z
  .exact S.fresh a o z
  .exact .inr (S.Ee z)
 .exact EI a (S.EI a k) (WL a k)
 .obtain⟨_,_,e1,_⟩:=S.EI a k;exact Bo a (by rw[e1];simp) (S.MP a k)
 .exact Bo a (S.bH a J) (S.bF a J)
 .by_cases t:a∈t1.addrs++t2.addrs
  .exact f.bH a t
  .by_cases k:a∈A
   .obtain⟨_,_,e1,_⟩:=f.EI a k;rw[e1];simp
   .intro z;cases e:H a with
    |none=>exact S.bH a J e
    |some o=>rw[kp a o k t e]at z;cases z
 .rcases at_ n s C with⟨rfl,rfl⟩|⟨rfl,rfl⟩|⟨L,K,h⟩
  .exact σ e2 r2 O.2.1 λa g=>C5 _ g
  .exact σ e1 r1 O.1 λa g=>Dm _ g
  .by_cases np:s=.AE
   .subst np;obtain⟨l,e,fl,W,pt⟩:=S.ok n _ h;obtain⟨_,_,e3,_⟩:=id pt;exact⟨l,e,Bo l (by rw[e3];simp) fl,W,EI l pt (d n _ L K h l e)⟩
   .exact Ok.go S h f.f0 (λa o ho e=>kp a o (LP n s np h a ho) (d n s L K h a ho) e) Bo np
 .have N:∀(n:Nat)s,n≠i->n≠j->ss[n]?=some s->Bf s Z[n]? x->x∉I.addrs++G.addrs:=λn s h1 h2 w ho t=>by
   rcases(q x t).2 with z|z
   .exact S.Gy w ho z
   .exact d n s h1 h2 w x ho z
  rcases at_ n s C with⟨Y,rfl⟩|⟨Y,rfl⟩|⟨L,K,h⟩
  .rcases at_ m u t with⟨D,rfl⟩|⟨D,rfl⟩|⟨M,m2,h'⟩
   .exact SK (Y.trans D.symm)
   .exact O.2.2 x mu x ms rfl
   .exact N m u M m2 h' mu (C5 _ ms)
  .rcases at_ m u t with⟨D,rfl⟩|⟨D,rfl⟩|⟨M,m2,h'⟩
   .exact O.2.2 x ms x mu rfl
   .exact SK (Y.trans D.symm)
   .exact N m u M m2 h' mu (Dm _ ms)
  .rcases at_ m u t with⟨D,rfl⟩|⟨D,rfl⟩|⟨M,m2,h'⟩
   .exact N n s L K h ms (C5 _ mu)
   .exact N n s L K h ms (Dm _ mu)
   .exact S.Bv n m s u x SK h h' ms mu
 .refine kp a o (λz=>?_) nb e;obtain⟨n,h1,h2⟩:=T.own z;exact np n h1 h2
end
noncomputable def OD(Z:L2.St)(q:Nat):V:=match Z[q]? with
 |some (some v)=>v
 |_=>.A9
def S8(s:Slot)(a:Addr):Prop:=(∃lt k us,s=.ow lt (.nd k a us))∨s=.raw (ptr a)
theorem S8.val(p:S8 s a)(S:Sg E ss Z F H)(c:ss[n]?=some s):Z[n]?=some (some (.ref a)):=by
 rcases p with⟨lt,k,us,rfl⟩|rfl
 .obtain⟨v,e,r,_⟩:=S.ok n _ c;have b:v=.ref a:=by cases r;rfl
  rw[<- b];exact e
 .obtain⟨v,e,r,_⟩:=S.ok n _ c;have b:v=.ref a:=r;rw[<- b];exact e
structure RY (E:Ent0) (ss A6:List Slot) (Z:L2.St) (t1 t2:OV) (F H F' H':Hp):Prop where
 st:Sg E A6 Z F' H'
 ff:AI F F'
 hh:∀a o,Cp ss Z a->a∉t1.addrs++t2.addrs->H a=some o->H' a=some o
 nn:∀a o,F' a=some o->F a=some o∨H a=none
structure Jk [Xw] (ss:List Slot) (q:Nat) (a1 a2:Addr) (t1 t2:OV) (b c d:Bool) (ta:TA) (k:List Slot->Prop):Prop where
 go:∀(E:Ent)(Z:L2.St)(F H:Hp)(Q:List V->Hp->Prop),Sg E ss Z F H->(∀vs l F' H',Mv E ss Z F H F' H'->Ew F' (OD Z q) (.ref a1) (.ref a2) t1 t2 b c d vs l->k l->Q vs H')->ta Z H Q
structure fT [Xw] (ss:List Slot) (t1 t2:OV) (new:OV->OV->List Slot) (te:TE) (k:PV->OV->OV->Prop):Prop where
 go:∀(E:Ent)(Z:L2.St)(F H:Hp)(Q:VK),Sg E ss Z F H->(∀v p u1 u2 F' H',RY E ss (new u1 u2) Z t1 t2 F H F' H'->Rep F' v p->k p u1 u2->Q v H')->te Z H Q
structure QB [Xw] (ss:List Slot) (t1 t2:OV) (new:OV->OV->List Slot) (c:TT) (k:Bool->OV->OV->Prop):Prop where
 go:∀(E:Ent)(Z:L2.St)(F H:Hp)(Q:Bool->Hp->Prop),Sg E ss Z F H->(∀b u1 u2 F' H',RY E ss (new u1 u2) Z t1 t2 F H F' H'->k b u1 u2->Q b H')->c Z H Q
section
variable[Xw]
variable{ta:TA}{q:Nat}{lt:Bool}{a1 a2:Addr}{k:List Slot->Prop}{new:OV->OV->List Slot}
theorem ZA3(h:k []):Jk ss q a1 a2 t1 t2 false false false BK k:=⟨λE Z F H Q S go=>go [] [] F H (Mv.refl S) .nil h⟩
theorem iX(h:Wp ss te λp=>Jk ss q a1 a2 t1 t2 b c d ta λl=>k (.is p::l)):Jk ss q a1 a2 t1 t2 b c d (Ae te ta) k:=⟨λE Z F H Q S go=>
 h.go E Z F H _ S λv p F1 H1 e r h2=>h2.go E Z F1 H1 _ e.st λvs l F2 H2 m2 a kk=>go _ _ F2 H2 (e.trans m2) (.is (r.mono m2.ff) a) kk⟩
theorem wu(c:ss[n]?=some s)(ps:S8 s a1)(h:Jk ss q a1 a2 t1 t2 b false d ta λl=>k (.ow true t1::l)):Jk ss q a1 a2 t1 t2 b true d (Ae (Ap n) ta) k:=⟨λE Z F H Q S go=>
 ⟨_,ps.val S c,h.go E Z F H _ S λvs l F2 H2 m2 a kk=>go _ _ F2 H2 m2 (.one a) kk⟩⟩
theorem lI(d:ss[n]?=some s)(ps:S8 s a2)(h:Jk ss q a1 a2 t1 t2 b c false ta λl=>k (.ow true t2::l)):Jk ss q a1 a2 t1 t2 b c true (Ae (Ap n) ta) k:=⟨λE Z F H Q S go=>
 ⟨_,ps.val S d,h.go E Z F H _ S λvs l F2 H2 m2 a kk=>go _ _ F2 H2 m2 (.two a) kk⟩⟩
theorem yJ(S:Sg E ss Z F H)(d:b=true->ss[q]?=some .AE):∃A,Mj ss Z b (OD Z q) A/\∀a∈A,∃m:Nat,ss[m]?=some .AE/\Z[m]?=some (some (.ref a)):=by
 cases b with
 |false=>exact⟨[],.inl ⟨rfl,rfl⟩,λ_ h=>absurd h BH⟩
 |true=>
  obtain⟨c,e,_⟩:=S.ok q _ (d rfl);have g:OD Z q=.ref c:=by unfold OD;rw[e]
  have P:Mj ss Z true (OD Z q) [c]:=.inr ⟨q,c,rfl,rfl,g,d rfl,e⟩;exact⟨[c],P,λa f=>P.own f⟩
theorem pK{pre:Pre}(Ck:i≠j)(hi:ss[i]?=some (.ow lt (.nd k1 a1 E9)))(s:ss[j]?=some (.ow lt (.nd k2 a2 GB)))(Y:b=true->ss[q]?=some .AE)
  (h:Jk ss q a1 a2 (.nd k1 a1 E9) (.nd k2 a2 GB) b c d ta λl=>∃k',pre l (.Jj k')/\∀p k g,k' p k g->k.val=.ref a1/\g.val=.ref a2/\kk p k g) :
  fT ss (.nd k1 a1 E9) (.nd k2 a2 GB) (λk g=>(ss.set i (.ow lt k)).set j (.ow lt g)) (EZ (Ey pre) [] E0 ta) kk:=⟨λE Z F H Q S go=>
 h.go E Z F H _ S λvs l F1 H1 r a⟨k',σ,W⟩=>by
  rw[GH];have n:=r.st;obtain⟨v1,J,u,V,P⟩:=n.ok i _ hi;obtain⟨v2,I,t,U,O⟩:=n.ok j _ s;have e1:v1=.ref a1:=by cases u;rfl
  have e2:v2=.ref a2:=by cases t;rfl
  subst e1;subst e2;obtain⟨A,B,own⟩:=yJ n Y;have R:((OV.nd k1 a1 E9).addrs++(OV.nd k2 a2 GB).addrs).Nodup:=List.nodup_append.mpr ⟨V,U,λx hx y X e=>n.Bv i j _ _ x Ck hi s hx (by rw[e];exact X)⟩;refine⟨l,.Jj k',F1,A,_,σ,n.call2 B u t R (λx hx=>?_) (λx hx hA=>?_) a,λv F' H' f⟨p,k,g,M,D,C,nd,N,kp⟩=>?_⟩
  .rcases List.mem_append.mp hx with z|z
   .exact(P x z).1
   .exact(O x z).1
  .obtain⟨m,p1,p2⟩:=own x hA;rcases List.mem_append.mp hx with z|z
   .by_cases w:m=i
    .subst w;rw[hi]at p1;cases p1
    .exact n.Bv m i _ _ x w p1 hi p2 z
   .by_cases w:m=j
    .subst w;rw[s]at p1;cases p1
    .exact n.Bv m j _ _ x w p1 s p2 z
  .obtain⟨L,K,G⟩:=W p k g kp;rw[L]at D;rw[K]at C;obtain⟨S2,hh⟩:=n.ZK B Ck hi s J I f D C nd N;exact go v p k g F' H' ⟨S2,r.ff.trans f.f0,λa o np T e=>hh a o np T (r.hh a o np e),λa o e=>(f.fresh a o e).elim (λe=>r.nn a o e) λe=>.inr (r.none e)⟩ M G⟩
theorem ZAf{kk:Bool->OV->OV->Prop}(h:fT ss t1 t2 new te λp b a=>∃c,p=.bl c/\kk c b a):QB ss t1 t2 new (tB te) kk:=⟨λE Z F H Q S go=>
 h.go E Z F H _ S λv p b a F1 H1 d r AX=>by
  obtain⟨c,e,k2⟩:=AX;subst e;cases r.inv;exact⟨c,rfl,go c b a F1 H1 d k2⟩⟩
theorem m9{x:TT}{u v:TS}(h:QB ss t1 t2 new x λb d c=>if b=true then Ws (new d c) u nx R else Ws (new d c) v nx R):Ws ss (MM x u v) nx R:=⟨λE D Z F H S f e=>
 h.go E Z F H _ S λb d c F1 H1 a kk=>by
  cases b with
  |true=>rw[p7 rfl]at kk;exact kk.go E D Z F1 H1 a.st (λA6 σ' F' H' n S' s=>f A6 σ' F' H' n S' (a.ff.trans s)) e
  |false=>rw[mD (by decide)]at kk;exact kk.go E D Z F1 H1 a.st (λA6 σ' F' H' n S' s=>f A6 σ' F' H' n S' (a.ff.trans s)) e⟩
theorem Sg.two(S:Sg E ss Z F H)(Ck:i≠j)(hi:ss[i]?=some (.ow l1 (.nd k1 a1 E9)))(g:ss[j]?=some (.ow l2 (.nd k2 a2 GB))):
  Aw F H (.ref a1) (.nd k1 a1 E9)/\Aw F H (.ref a2) (.nd k2 a2 GB)/\((OV.nd k1 a1 E9).addrs++(OV.nd k2 a2 GB).addrs).Nodup/\∀a∈(OV.nd k1 a1 E9).addrs++(OV.nd k2 a2 GB).addrs,F a=none/\(E.H0 a=none∨a∈E.B):=by
 obtain⟨v1,q,c,l,f⟩:=S.ok i _ hi;obtain⟨v2,p,b,k,d⟩:=S.ok j _ g;have e1:v1=.ref a1:=by cases c;rfl
 have o:v2=.ref a2:=by cases b;rfl
 subst e1;subst o;refine⟨c,b,List.nodup_append.mpr ⟨l,k,λx hx y m e=>S.Bv i j _ _ x Ck hi g hx (by rw[e];exact m)⟩,λa n=>?_⟩;rcases List.mem_append.mp n with h|h
 .exact⟨(f a h).1,(f a h).2.imp id λz=>z.2⟩
 .exact⟨(d a h).1,(d a h).2.imp id λz=>z.2⟩
theorem ip(Ck:i≠j)(hi:ss[i]?=some (.ow l1 (.nd k1 a1 E9)))(f:ss[j]?=some (.ow l2 (.nd k2 a2 GB)))(h:Wp ss te λp=>kk p (.nd k1 a1 E9) (.nd k2 a2 GB)):Ws ss (Fb te) nx (.Jj kk):=⟨λE D Z F H S g e=>
 h.go E Z F H _ S λv p F1 H1 a r kp=>by
  obtain⟨c,b,nd,d⟩:=a.st.two Ck hi f;exact e v F1 H1 a.st.toFin ⟨p,.nd k1 a1 E9,.nd k2 a2 GB,r,c,b,nd,d,kp⟩⟩
end
end Fz
namespace Fz
open L2 Lw
variable{ss:List Slot}{F H:Hp}{t:OV}{tb te:TE}{i j:Nat}{nx:List Slot->Prop}{R:Ao}{T a1:Addr}{pos:Pos}{N ns:List Str}
section
variable{E:Ent0}{Z:List (Option V)}
theorem Sg.snoc{v:V}{lt:Bool}(S:Sg E ss Z F H)(r:Aw F H v t)(nd:t.addrs.Nodup)(q:∀a∈t.addrs,F a=none/\E.H0 a=none/\∀(n:Nat)s,ss[n]?=some s->¬ Bf s Z[n]? a):Sg E (ss++[.ow lt t]) (Z++[some v]) F H:=by
 have at_:∀(n:Nat)s,(ss++[Slot.ow lt t])[n]?=some s->(n<ss.length/\ss[n]?=some s/\(Z++[some v])[n]?=Z[n]?)∨(s=.ow lt t/\n=ss.length/\(Z++[some v])[n]?=some (some v)):=λn s h=>by
  by_cases c:n<ss.length
  .rw[Dk c]at h;exact .inl ⟨c,h,Dk (S.len▸c)⟩
  .rw[Fe (Yg c)]at h;have e:n - ss.length=0:=by
    cases e:n - ss.length with
    |zero=>rfl
    |succ k=>rw[e]at h;simp at h
   rw[e]at h;refine .inr ⟨(BW h).symm,by omega,?_⟩;rw[Fe (by rw[<- S.len];omega),<- S.len,e];rfl
 refine⟨S.toFin,by rw[BF,BF,S.len];rfl,λn s h=>?_,λi j s u a Ck hi f ms mu=>?_⟩
 .rcases at_ n s h with⟨_,h,e⟩|⟨rfl,_,e⟩
  .rw[e];exact S.ok n s h
  .rw[e];exact⟨v,rfl,r,nd,λa d=>⟨(q a d).1,.inl (q a d).2.1⟩⟩
 .rcases at_ i s hi with⟨_,h1,e1⟩|⟨rfl,e1,_⟩ <;> rcases at_ j u f with⟨_,h2,b⟩|⟨rfl,b,_⟩
  .rw[e1]at ms;rw[b]at mu;exact S.Bv i j s u a Ck h1 h2 ms mu
  .rw[e1]at ms;exact(q a mu).2.2 i s h1 ms
  .rw[b]at mu;exact(q a ms).2.2 j u h2 mu
  .exact Ck (e1.trans b.symm)
theorem Sg.ux{s:Slot}{o:Option V}(S:Sg E (ss++[s]) (Z++[o]) F H):Sg E ss Z F H:=by
 have b:ss.length=Z.length:=by have:=S.len;rw[BF,BF]at this;exact JR this
 have at_:∀(n:Nat)u,ss[n]?=some u->(ss++[s])[n]?=some u/\(Z++[o])[n]?=Z[n]?:=λn u h=>by
  have c:=(List.getElem?_eq_some_iff.mp h).1;exact⟨(Dk c).trans h,Dk (b▸c)⟩
 refine⟨S.toFin,b,λn u h=>?_,λi j u w a Ck hi d ms mu=>?_⟩
 .obtain⟨h1,h2⟩:=at_ n u h;rw[<- h2];exact S.ok n u h1
 .obtain⟨h1,h2⟩:=at_ i u hi;obtain⟨f,e⟩:=at_ j w d;exact S.Bv i j u w a Ck h1 f (by rw[h2];exact ms) (by rw[e];exact mu)
end
section
variable[Xw]
variable{ta:TA}{lt:Bool}{K:ZDv}
theorem xQ{pre:Pre}{t1 t2:TE}{k1:NK}{E9:List OV}(hi:ss[i]?=some (.ow lt (.nd k1 a1 E9)))
  (h:Wp ss t1 λp1=>Wp ss t2 λp2=>∀a2,∃k',pre [.is p1,.is p2,.ow true (.nd k1 a1 E9),.ow true (.nd (.BA []) a2 [])] (.Jj k')/\∀p c g,k' p c g->c.val=.ref a1/\g.val=.ref a2/\nx (ss.set i (.ow lt c))) :
  Ws ss (Kg (EZ (Ey pre) [] E0 (Ae t1 (Ae t2 (Ae (Ap i) (Ae SX BK)))))) nx R:=⟨λE D Z F H S Y hr=>
 h.go E Z F H _ S λv1 p1 F1 H1 z N h2=>h2.go E Z F1 H1 _ z.st λv2 p2 F2 H2 m2 M σ=>by
  obtain⟨q,l,_⟩:=m2.st.ok i _ hi;refine⟨q,l,λa2 Jc=>?_⟩;have w:=m2.st.make Jc (.dK []);have d:=w.st;obtain⟨L,C,t,T,Q⟩:=d.ok i _ hi;rw[l]at C;cases C;have ew:q=.ref a1:=t.inv.elim λ_ h=>h.1;subst ew;have j:i<ss.length:=(List.getElem?_eq_some_iff.mp hi).1;have hF:F2 a2=none:=m2.st.Bo Jc;have r:Aw F2 (upd H2 a2 (.dK [])) (.ref a2) (.nd (.BA []) a2 []):=.nd (k:=.BA []) (vs:=[]) AZ trivial rfl .nil;have ea:(OV.nd (.BA []) a2 []).addrs=[a2]:=by rw[OV.ET,OV.L9];rfl
  have u:∀(n:Nat)s,ss[n]?=some s->¬ Bf s Z[n]? a2:=λn s W ho=>m2.st.Gy W ho Jc;have S4:=d.snoc (lt:=lt) r (by rw[ea];exact List.nodup_cons.mpr ⟨BH,.nil⟩) λa h=>by
   rw[ea,KS]at h;subst h;exact⟨hF,m2.st.Ee Jc,u⟩
  obtain⟨k',X,U⟩:=σ a2;have Lj:((OV.nd k1 a1 E9).addrs++(OV.nd (.BA []) a2 []).addrs).Nodup:=by
   rw[ea];exact List.nodup_append.mpr ⟨T,List.nodup_cons.mpr ⟨BH,.nil⟩,λx hx y B=>by
    rw[KS]at B;subst B;exact λe=>u i _ hi (by rw[<- e];exact hx)⟩
  show Ey pre ([v1,v2,.ref a1,.ref a2]++[]) (upd H2 a2 (.dK [])) (λx H1=>D.nx Z H1) E0;rw[GH];refine⟨_,.Jj k',F2,[],_,X,d.call2 (b:=false) (vp:=.A9) (.inl ⟨rfl,rfl⟩) t r Lj (λa h=>?_) (λa h=>BH) (.is (N.mono (m2.ff)) (.is M (.one (.two .nil)))),λv F' H' f⟨p,c,g,rp,o,m,nd,P,kp⟩=>?_⟩
  .rcases List.mem_append.mp h with h|h
   .exact(Q a h).1
   .rw[ea,KS]at h;subst h;exact hF
  .obtain⟨e1,e2,kk⟩:=U p c g kp;rw[e1]at o;rw[e2]at m;have Ck:i≠ss.length:=An j;have O:(ss++[Slot.ow lt (.nd (.BA []) a2 [])])[i]?=some (.ow lt (.nd k1 a1 E9)):=(Dk j).trans hi;have K:(ss++[Slot.ow lt (.nd (.BA []) a2 [])])[ss.length]?=some (.ow lt (.nd (.BA []) a2 [])):=by rw[Fe (Aa _),Pb];rfl
   have J:(Z++[some (V.ref a2)])[i]?=some (some (.ref a1)):=(Dk (d.len▸j)).trans l;have I:(Z++[some (V.ref a2)])[ss.length]?=some (some (.ref a2)):=by rw[d.len,Fe (Aa _),Pb];rfl
   have G:=(S4.ZK (b:=false) (vp:=.A9) (A:=[]) (.inl ⟨rfl,rfl⟩) Ck O K J I f o m nd P).1;rw[List.set_append_left _ _ j,show ss.length=(ss.set i (.ow lt c)).length from(Hg).symm,ZCn _ _ (Aa _),Pb]at G;exact Y _ Z F' H' kk G.ux (z.ff.trans (m2.ff.trans (w.ff.trans f.f0)))⟩
theorem ZAi{P:Hp->V->Prop}{k:List Slot->Prop}(j:Nat)(c:ss[j]?=some (.raw P))(d:∀F v,P F v->F T=some (.CC (.tab pos LR)))
  (h:Wp ss te λp=>p=.lst (ns.map .str)/\Wa ss ta λl=>k (.raw (Ga T pos ns)::l)):Wa ss (Ae te ta) k:=⟨λE Z F H Q S q=>
 h.go E Z F H _ S λv p F1 H1 b r⟨e,h2⟩=>h2.go E Z F1 H1 _ b.st λvs l F2 H2 m2 a kk=>by
  subst e;obtain⟨_,_,pv,_⟩:=m2.st.ok j _ c;exact q _ _ F2 H2 (b.trans m2) (.cons (s:=.raw (Ga T pos ns)) ⟨⟨r.mono m2.ff,d _ _ pv⟩,λF F' s h=>uE T pos ns F F' s v h⟩ a) kk⟩
def ES(K:ZDv)(T:Addr)(pos:Pos)(ns:List Int):Hp->V->Prop:=λF v=>Tc K ns F v/\F T=some (.CC (.tab pos LR))
theorem tT(K:ZDv)(T:Addr)(pos:Pos)(ns:List Int):∀(v:V)(F F':Hp),AI F F'->ES K T pos ns F v->ES K T pos ns F' v:=λv F F' s h=>⟨VD K ns v F F' s h.1,s _ _ h.2⟩
variable{ns:List Int}
theorem pL{k:PV->Prop}(hi:ss[i]?=some (.raw (ES K T pos ns)))(h:k (.int ns.length)):Wp ss (CQ (JV K) (Ae (Ap i) BK)) k:=⟨λE Z F H Q S q=>by
 obtain⟨v,e,⟨⟨a,c,b⟩,_⟩,st⟩:=S.ok i _ hi;subst c;obtain⟨d,ea,Xs⟩:=VD K ns _ F H S.fh ⟨a,rfl,b⟩;cases ea;refine⟨_,e,a,_,rfl,.inl Xs,?_⟩;rw[AA];exact q _ _ F H (.refl S) (.int _) h⟩
theorem mI(hi:ss[i]?=some (.raw (ES K T pos ns)))(h:Wp ss te λx=>∃m,x=.int m/\0<=m/\m<=1000/\nx (ss.set j .AE)):Ws ss (EH (EZ (Wd K) [] E0 (Ae (Ap i) (Ae te BK))) (D8 j)) nx R:=⟨λE D Z F H S o y=>by
 obtain⟨v,e,⟨⟨a,q,z⟩,_⟩,st⟩:=S.ok i _ hi;subst q;refine⟨_,e,h.go E Z F H _ S λv x F1 H1 c r⟨m,t,k,OI,kk⟩=>?_⟩;subst t;cases r.inv;obtain⟨w,f,⟨Fg,_⟩,_⟩:=c.st.ok i _ hi;rw[e]at f;cases f;obtain⟨A,ea,Xs⟩:=VD K ns _ F1 H1 c.st.fh Fg;cases ea;refine⟨a,ns,m,rfl,Xs,k,OI,λp H2 d s g=>?_⟩;have m2:=c.st.grow s;exact o _ _ F1 H2 kk (m2.st.setG ⟨p,rfl,c.st.Bo d,.inl (c.st.Ee d),g⟩ λl e b u _ n mu=>by cases e;exact c.st.Ku n d mu) c.ff⟩
end
def Nc(K:ZDv)(T:Addr)(pos:Pos):Sp:=λvs H Q X=>H T=some (.CC (.tab pos LR))/\ZAR K vs H Q X
theorem nO{K:ZDv}{vs:List V}{Q:VK}{X:XK}{t:TS}(h:Nc K T pos vs H Q X)(hw:∀ns:List Int,ns.length<=63->Ws (.raw (ES K T pos ns)::List.replicate (N.length - 1) .any) t (λ_=>False) (.is λp=>p=.bl true)):t { nx:=λ_ H'=>Q .A9 H',rt:=Q } (L2.start N vs) H:=by
 obtain⟨c,a,ns,rfl,d,b,q⟩:=h;have S:Sg (E3 [] H H) [.raw (ES K T pos ns)] [some (.ref a)] H H:=by
  have nn:∀{p:Prop}(a:Addr),a∈([]:List Addr)->p:=λa h=>absurd h BH;refine⟨⟨AI.refl _,AI.refl _,λ_ _ _ e=>e,λ_ _ e=>.inl e,λa h=>nn a h,λa h=>nn a h,λa h=>nn a h,λa h=>nn a h,λa h=>nn a h,λa h=>nn a h⟩,rfl,λi s hi=>?_,λi j s u l Ck hi g ms=>?_⟩
  .cases i with
   |zero=>cases hi;exact⟨_,rfl,⟨⟨a,rfl,d⟩,c⟩,tT K T pos ns _⟩
   |succ i=>simp at hi
  .cases i with
   |zero=>cases hi;cases ms
   |succ i=>simp at hi
 refine(hw ns b).go (W0 (E3 [] H H)) _ _ H H (S.grown _) (λ_ _ _ _ h=>h.elim) λv F' H' f ok=>?_;obtain⟨p,r,rfl⟩:=ok;cases r.inv;exact q H'
end Fz
namespace Fz
open L2 Lw
variable{ss:List Slot}{ta tb te tx:TE}{i j m n t u v w x:Nat}{ab c:Nat->List Nat}{A D b ch l r s tr xs:List Nat}{line ns:List Str}{a:Addr}{chs rs:List (List Nat)}{α:Type}{f:Nat->Nat}{Ls:List Lp}{zs:List Int}{z:Int}{ls:List (List Str)}{o:Lp}{ps:List (Int×Int)}
section
variable[Xw]
variable{K:ZDv}{k:PV->Prop}
variable{l1 l2:Bool}{t1 t2:OV}
theorem Mv.m2{E:Ent0}{Z:L2.St}{F H F' H' F2 H2:Hp}{d c:OV}{new:OV->OV->List Slot}(m:Mv E ss Z F H F' H')(b:RY E ss (new d c) Z t1 t2 F' H' F2 H2):RY E ss (new d c) Z t1 t2 F H F2 H2:=
 ⟨b.st,m.ff.trans b.ff,λa o np f e=>b.hh a o np f (m.hh a o np e),λa o e=>(b.nn a o e).elim (λe=>m.nn a o e) λe=>.inr (m.none e)⟩
theorem ZAz{new:OV->OV->List Slot}{c d:TT}{kk:Bool->OV->OV->Prop}(j:new t1 t2=ss)(h:Wt ss c λb=>if b=true then kk true t1 t2 else QB ss t1 t2 new d kk):QB ss t1 t2 new (Ow c d) kk:=⟨λE Z F H Q S go=>
 h.go E Z F H _ S λb F1 H1 f z=>by
  cases b with
  |true=>
   rw[p7 rfl]at z;exact go true t1 t2 F1 H1 ⟨by rw[j];exact f.st,f.ff,λa o np _ e=>f.hh a o np e,f.nn⟩ z
  |false=>
   rw[mD (by decide)]at z;exact z.go E Z F1 H1 _ f.st λb i g F2 H2 m2 k2=>go b i g F2 H2 (f.m2 m2) k2⟩
end
open Kz
noncomputable abbrev nP(n:Nat):PV:=.int n
noncomputable def Fl(a:Addr)(lo:Lo):OV:=.nd .lst a ((lo.map CG).map .fz)
noncomputable def Cv(tr:List Nat):List Key:=tr.map λu:Nat=>.inl (u:Int)
def DB(a:Addr)(tr:List Nat):OV:=.nd (.BA (Cv tr)) a (tr.map λ_=>.fz (.bl true))
noncomputable def DJ(ab:Nat->List Nat)(m:Nat):PV:=.lst ((List.range m).map λv=>.lst ((ab v).map nP))
structure D3 (n:Nat) (ab:Nat->List Nat) (m v:Nat) (lo:Lo) (tr:List Nat):Prop where
 len:lo.length=m
 FV:m<=12
 lt:v<m
 ab:∀v u,u∈ab v->u<m
 lw:∀(u w:Nat),lo[u]?=some (some w)->w<m
 nd:tr.Nodup
 tl:∀z∈tr,z<m
 fuel:m<n+tr.length
def L5(n:Nat):Pre:=λl R=>∃(ab:Nat->List Nat)(m v:Nat)(lo:Lo)(s:Slot)(tr:List Nat)(a2:Addr),l=[.is (nP v),.is (DJ ab m),s,.ow true (DB a2 tr)]/\D3 n ab m v lo tr/\
 ((
   ∃a1,s=.ow true (Fl a1 lo)/\R=.Jj λp t1 t2=>p=.bl (fu ab n v lo tr).1/\t1=Fl a1 (fu ab n v lo tr).2.1/\t2=DB a2 (fu ab n v lo tr).2.2)∨
   (s=.is (.lst (lo.map CG))/\Dg ab v lo/\R=.mt λp t=>p=.bl false/\t=DB a2 (fu ab n v lo tr).2.2))
theorem c7:∀ss R,¬ L5 0 ss R:=by
 rintro ss R⟨ab,m,v,lo,s,tr,a2,_,ok,_⟩;have q:=IU (l2:=List.range m) ok.nd λx hx=>List.mem_range.mpr (ok.tl x hx);have:=ok.fuel;rw[Cc]at q;omega
theorem D3.le{lo:Lo}(h:D3 n ab m v lo tr):tr.length<=12:=by
 have q:=IU (l2:=List.range m) h.nd λx hx=>List.mem_range.mpr (h.tl x hx);have:=h.FV;rw[Cc]at q;omega
theorem O9(ns:List Nat)(x:Nat):HS (Cv ns) (.inl (x:Int))=decide (x∈ns):=by
 unfold HS Cv;rw[YQ]
 by_cases h:x∈ns
 .rw[kc h];exact List.any_eq_true.mpr ⟨x,h,kc rfl⟩
 .rw[oO h];rw[PK];intro z;obtain⟨y,a,e⟩:=List.any_eq_true.mp z;have e:=pU e;injection e with e
  exact h (Int.ofNat_inj.mp e▸a)
theorem iw{ns:List Nat}(h:ns.Nodup):(Cv ns).Nodup:=List.Pairwise.map _ (λa b(h:a≠b)=>λz=>h (by injection z with z;exact Int.ofNat_inj.mp z)) h
theorem QZ{ns:List Nat}{us:List OV}{u:OV}(h:x∉ns):JU (Cv ns) (.inl (x:Int))=Cv (ns++[x])/\J8 (Cv ns) us (.inl (x:Int)) u=us++[u]:=by
 unfold J8 JU;have e:G5 (Cv ns) (.inl (x:Int))=none:=by
  have q:=Sw (ks:=Cv ns) (key:=.inl (x:Int));rw[O9,oO h]at q;cases e:G5 (Cv ns) (.inl (x:Int))with
  |none=>rfl
  |some j=>rw[e]at q;cases q
 rw[e,O9,oO h];exact⟨by unfold Cv;rw[Cs];rfl,rfl⟩
theorem qk(h:x∉tr):OV.nd (.BA (JU (Cv tr) (.inl (x:Int)))) a (J8 (Cv tr) (tr.map λ_=>OV.fz (.bl true)) (.inl (x:Int)) (.fz (.bl true)))=DB a (tr++[x]):=by
 rw[(QZ (us:=[]) (u:=.fz .A9) h).1,(QZ h).2];unfold DB;rw[Cs];rfl
theorem D3.at{lo:Lo}(h:D3 n ab m v lo tr):BZ ((List.range m).map λv=>PV.lst ((ab v).map nP)) (v:Int)=some (.lst ((ab v).map nP)):=D4 (by rw[AS,N5 h.lt];rfl)
theorem gL{lo:Lo}(h:u∈tr):CB ab n v (u::r) lo tr=CB ab n v r lo tr:=by rw[CB,p7 h]
theorem rP{lo:Lo}(h:u∉tr)(e:lo[u]?.join=none):CB ab n v (u::r) lo tr=(true,lo.set u (some v),tr++[u]):=by rw[CB,mD h,e]
theorem xF{lo:Lo}(h:u∉tr)(e:lo[u]?.join=some w)(a:(fu ab n w lo (tr++[u])).1=true):CB ab n v (u::r) lo tr=(true,(fu ab n w lo (tr++[u])).2.1.set u (some v),(fu ab n w lo (tr++[u])).2.2):=by
 rw[CB,mD h,e];dsimp only;cases q:fu ab n w lo (tr++[u])with
 |mk b x=>rw[q]at a;cases(show b=true from a);rfl
theorem iK{lo:Lo}(h:u∉tr)(e:lo[u]?.join=some w)(c:(fu ab n w lo (tr++[u])).1=false)(a:(fu ab n w lo (tr++[u])).2.1=lo):CB ab n v (u::r) lo tr=CB ab n v r lo (fu ab n w lo (tr++[u])).2.2:=by
 rw[CB,mD h,e];dsimp only;cases q:fu ab n w lo (tr++[u])with
 |mk b x=>
  rw[q]at c a;cases(show b=false from c);obtain⟨l,t⟩:=x;cases(show l=lo from a);rfl
theorem D3.fin{lo:Lo}(h:D3 n ab m v lo tr)(c:(fu ab n v lo tr).1=false):(fu ab n v lo tr).2.1=lo/\(fu ab n v lo tr).2.2.Nodup/\(∀z∈(fu ab n v lo tr).2.2,z<m)/\tr.length<=(fu ab n v lo tr).2.2.length:=by
 have q:=Mo (ab:=ab) (lo:=lo) (λv u d=>h.len▸h.ab v u d) n v tr h.nd (λz a=>h.len▸h.tl z a) (h.len▸h.fuel);cases e:fu ab n v lo tr with
 |mk b x=>
  rw[e]at q c;cases(show b=false from c);obtain⟨l,t⟩:=x;exact⟨q.1,q.2.2.1,λz a=>h.len▸q.2.2.2.1 z a,q.2.2.2.2.1⟩
theorem D3.yes{lo:Lo}(h:D3 n ab m v lo tr)(a:(fu ab n v lo tr).1=true):(fu ab n v lo tr).2.1.length=m:=by
 have q:=Mo (ab:=ab) (lo:=lo) (λv u d=>h.len▸h.ab v u d) n v tr h.nd (λz c=>h.len▸h.tl z c) (h.len▸h.fuel);cases e:fu ab n v lo tr with
 |mk b x=>
  rw[e]at q a;cases(show b=true from a);obtain⟨l,t⟩:=x;obtain⟨p,_,_,_,e⟩:=q;exact(pZ List.length e).trans ((NX _ _ _).trans h.len)
theorem D3.sub{lo:Lo}(h:D3 (n+1) ab m v lo tr)(b:u∈ab v)(c:u∉tr)(e:lo[u]?.join=some w):D3 n ab m w lo (tr++[u]):=
 ⟨h.len,h.FV,h.lw u w (Kz.join_some e),h.ab,h.lw,Ui h.nd c,λz a=>by
  rcases List.mem_append.mp a with a|a
  .exact h.tl z a
  .rw[List.mem_singleton.mp a];exact h.ab v u b,by have:=h.fuel;rw[BF,T7];omega⟩
theorem D3.next{lo:Lo}(h:D3 (n+1) ab m v lo tr)(k:D3 n ab m w lo (tr++[u]))(d:(fu ab n w lo (tr++[u])).1=false):D3 (n+1) ab m v lo (fu ab n w lo (tr++[u])).2.2:=by
 obtain⟨e,c,b,a⟩:=k.fin d;refine⟨h.len,h.FV,h.lt,h.ab,h.lw,c,b,?_⟩;have:=h.fuel;rw[BF,T7]at a;omega
theorem sQ{lo:Lo}(h:u<lo.length):∃o,(lo.map CG)[u]?=some (CG o)/\lo[u]?.join=o/\lo[u]?=some o:=by
 refine⟨lo[u],?_,?_,AQ h⟩
 .rw[AS,AQ h];rfl
 .rw[AQ h];rfl
theorem pD(o:Option Nat):Ss (CG o)=o.isNone:=by cases o <;> rfl
theorem oV{lo:Lo}:OV.nd .lst a ((((lo.map CG).set u (nP v))).map .fz)=Fl a (lo.set u (some v)):=by
 unfold Fl;rw[YY,YY,YY];rfl
theorem bT(h:l[i]?=some x):l.drop i=x::l.drop (i+1):=by
 obtain⟨hi,rfl⟩:=List.getElem?_eq_some_iff.mp h;exact T3 hi
theorem D3.stuck{lo:Lo}(h:D3 n ab m v lo tr)(s:Dg ab v lo):(fu ab n v lo tr).1=false:=by
 have q:=Mo (ab:=ab) (lo:=lo) (λv u c=>h.len▸h.ab v u c) n v tr h.nd (λz a=>h.len▸h.tl z a) (h.len▸h.fuel);obtain⟨σ,f,g⟩:=s;cases e:fu ab n v lo tr with
 |mk b x=>
  cases b with
  |false=>rfl
  |true=>
   rw[e]at q;obtain⟨l,t⟩:=x;obtain⟨p,d,_⟩:=q;exact absurd d (Dg.no g f)
theorem vS{lo:Lo}(s:Dg ab v lo)(b:u∈ab v):∃w,lo[u]?.join=some w/\Dg ab w lo:=by
 obtain⟨σ,c,a⟩:=s;obtain⟨w,e,h⟩:=a u (c u b);exact⟨w,by rw[e];rfl,σ,h,a⟩
noncomputable def B5(ch:List Nat):PV:=.lst (ch.map nP)
theorem cY(a b:List Nat)(h:B5 a=B5 b):a=b:=by
 injection h with h
 induction a generalizing b with
 |nil=>cases b with
  |nil=>rfl
  |cons y b=>cases h
 |cons x a c=>cases b with
  |nil=>cases h
  |cons y b=>
   injection h with h1 h2
   injection h1 with h1
   rw[Int.ofNat_inj.mp h1,c b h2]
theorem wC(a:Addr)(T:List Nat):(DB a T).pv=.BA (Cv T) (T.map λ_=>.bl true):=by
 unfold DB;rw[OV.pv,show(T.map λ_=>OV.fz (.bl true))=(T.map λ_=>PV.bl true).map .fz by rw[CJ];rfl,UH]
theorem X3{α:Type}(g:α->PV)(h:∀x,NM (g x)=true):∀(l:List α),Ld (l.map g)=true
 | []=>rfl
 |x::l=>by
  rw[DG];show(NM (g x) && Ld (l.map g))=true;rw[h x,X3 g h l];rfl
structure VN (ab:Nat->List Nat) (m:Nat):Prop where
 FV:m<=12
 ab:∀v u,u∈ab v->u<m
theorem ZC7(h:VN ab m)(hi:i<m):D3 13 ab m i (gp ab m 13 i) []:=by
 obtain⟨h1,h2,d,b,c⟩:=XO h.ab (show m<13 by have:=h.FV;omega) i;exact⟨h1,h.FV,hi,h.ab,λu w e=>Yi (b w (GD.mpr ⟨u,e⟩)) hi,.nil,λz a=>(by cases a),by have:=h.FV;simp;omega⟩
def gK:Pre:=λl R=>∃(ab:Nat->List Nat)(m:Nat),l=[.is (DJ ab m)]/\VN ab m/\R=.new (·=(gp ab m 13 m).map CG)
def cn:Pre:=λl R=>∃(ch T:List Nat)(x:Nat)(r:List Nat),l=[.is (B5 ch),.is (.BA (Cv T) (T.map λ_=>.bl true))]/\ch.length<=12/\(ch.filter λy=>decide (y∉T))=x::r/\R=.is (·=nP x)
def Oj(T ch:List Nat):Nat:=(ch.filter λy=>decide (y∉T)).headD 0
structure K2 (ab:Nat->List Nat) (m:Nat) (lo:Lo) (chs:List (List Nat)):Prop where
 ok:VN ab m
 len:lo.length=m
 lw:∀(u w:Nat),lo[u]?=some (some w)->w<m
 cl:chs.length<=12
 ch:∀ch∈chs,∃t r,ch=t::r/\t<m/\Dg ab t lo/\Dn lo t ch/\ch.length<=12
noncomputable def Gz(ch:List Nat):Nat:=ch.headD 0
def gD:Pre:=λl R=>∃(ab:Nat->List Nat)(m:Nat)(lo:Lo)(chs:List (List Nat)),l=[.is (DJ ab m),.is (.lst (lo.map CG)),.is (.lst (chs.map B5))]/\K2 ab m lo chs/\
 R=.new λxs=>∃A:List Nat,xs=A.map nP/\A.Perm (chs.map (Oj (tryAll ab 13 lo (chs.map Gz) [])))/\A.Pairwise (·<=·)
theorem gG(ab:Nat->List Nat)(n:Nat)(lo:Lo):∀(a:List Nat)(t:Nat)(tr:List Nat),tryAll ab n lo (a++[t]) tr=(fu ab n t lo (tryAll ab n lo a tr)).2.2
 | [],t,tr=>rfl
 |s::a,t,tr=>by
  show tryAll ab n lo (a++[t]) (fu ab n s lo tr).2.2=(fu ab n t lo (tryAll ab n lo a (fu ab n s lo tr).2.2)).2.2;exact gG ab n lo a t _
theorem K2.at{lo:Lo}(h:K2 ab m lo chs)(i:Nat):let T:=tryAll ab 13 lo ((chs.take i).map Gz) [];T.Nodup/\(∀z∈T,z<m)/\Cl ab lo T/\∀t∈(chs.take i).map Gz,∀u∈ab t,u∈T:=by
 have q:=Zq (ab:=ab) (lo:=lo) (n:=13) (λv u b=>h.len▸h.ok.ab v u b) (by rw[h.len];have:=h.ok.FV;omega) ((chs.take i).map Gz) [] (λt c=>by
  obtain⟨ch,d,rfl⟩:=List.mem_map.mp c;obtain⟨t,r,rfl,_,s,_⟩:=h.ch ch (T9 d);exact s) .nil (λz a=>by cases a) (λz a=>by cases a)
 refine⟨q.1,λz a=>?_,q.2.2.1,q.2.2.2⟩;obtain⟨w,e,_⟩:=q.2.2.1 z a;exact h.len▸(List.getElem?_eq_some_iff.mp e).1
theorem K2.fu{lo:Lo}(h:K2 ab m lo chs)(a:t<m):D3 13 ab m t lo (tryAll ab 13 lo ((chs.take i).map Gz) []):=
 ⟨h.len,h.ok.FV,a,h.ok.ab,h.lw,(h.at i).1,(h.at i).2.1,by have:=h.ok.FV;omega⟩
theorem zv{β:Type}{f:α->β}{xs:List α}{x:α}(h:xs[i]?=some x):(xs.take (i+1)).map f=(xs.take i).map f++[f x]:=by
 obtain⟨hi,rfl⟩:=List.getElem?_eq_some_iff.mp h;rw[JP hi,Cs];rfl
theorem K2.first{lo:Lo}(h:K2 ab m lo chs)(a:ch∈chs):∃r,(ch.filter λy=>decide (y∉tryAll ab 13 lo (chs.map Gz) []))=Oj (tryAll ab 13 lo (chs.map Gz) []) ch::r:=by
 have q:=h.at chs.length;rw[Ei]at q;obtain⟨t,r,rfl,_,_,d,_⟩:=h.ch ch a;obtain⟨x,b,e,_⟩:=ZBM q.2.2.1 d λu c=>q.2.2.2 t (List.mem_map.mpr ⟨t::r,a,rfl⟩) u c;exact⟨b,by unfold Oj;rw[e];rfl⟩
structure QV (m:Nat) (chs:List (List Nat)) (f:Nat->Nat):Prop where
 FV:m<=12
 nd:chs.flatten.Nodup
 all:∀n,n<m↔n∈chs.flatten
 at_:∀(k:Nat)ch,chs[k]?=some ch->∀n∈ch,f n=k
def gM:Pre:=λl R=>∃(ns:List Str)(Ls:List Lp)(chs:List (List Nat))(f:Nat->Nat),l=[.is (.lst (ns.map .str)),.is (.lst (Ls.map Lp.P)),.is (.lst (chs.map B5))]/\QV Ls.length chs f/\
 R=.new (·=(Ls.zipIdx.map λp=>((f p.2:Int),(ns.length:Int) - (p.1.cs.length:Int))).map B8)
def KC(a:Addr)(f:Nat->Nat)(D:List Nat):OV:=.nd (.BA (Cv D)) a ((D.map λn=>nP (f n)).map .fz)
theorem xC{k:Nat}(h:x∉D)(hk:f x=k):OV.nd (.BA (JU (Cv D) (.inl (x:Int)))) a (J8 (Cv D) ((D.map λn=>nP (f n)).map .fz) (.inl (x:Int)) (.fz (nP k)))=KC a f (D++[x]):=by
 rw[(QZ (us:=[]) (u:=.fz .A9) h).1,(QZ h).2];unfold KC;rw[Cs,Cs,<- hk];rfl
theorem valN:∀{D:List Nat}{f:Nat->Nat}{x:Nat},x∈D->M1 (Cv D) (D.map λn=>nP (f n)) (.inl (x:Int))=some (nP (f x))
 | [],_,_,h=>by cases h
 |d::D,f,x,h=>by
  show(if(Sum.inl (d:Int):Key)=.inl (x:Int)then some (nP (f d))else M1 (Cv D) (D.map λn=>nP (f n)) (.inl (x:Int)))=_
  by_cases c:d=x
  .subst c;rw[p7 rfl]
  .rw[mD λz=>c (by injection z with z;exact Int.ofNat_inj.mp z)]
   exact valN ((List.mem_cons.mp h).resolve_left λz=>c z.symm)
theorem yz{k:Nat}(h:xs[k]?=some x):xs.take (k+1)=xs.take k++[x]:=by rw[jQ,h];rfl
theorem wa(a:Addr)(f:Nat->Nat)(D:List Nat):(KC a f D).pv=.BA (Cv D) (D.map λn=>nP (f n)):=by unfold KC;rw[OV.pv,UH]
theorem tM{p:Lp×Nat}(h:p∈Ls.zipIdx):Ls[p.2]?=some p.1:=List.mk_mem_zipIdx_iff_getElem?.mp h
theorem md(Ls:List Lp):K0 (Ls.map Lp.P)=Ls.zipIdx.map λa=>.tup [.int (a.2:Int),a.1.P]:=by
 apply PN;intro i;rw[AS,List.getElem?_zipIdx];cases e:Ls[i]? with
 |none=>
  rw[KP (by rw[Oq,AA];exact List.getElem?_eq_none_iff.mp e)];rfl
 |some l=>
  rw[WT (show(Ls.map Lp.P)[i]?=some l.P by rw[AS,e];rfl)];simp
theorem dX{a b:Lp}(h:a.P=b.P):a=b:=by
 obtain⟨r,g,cs⟩:=a;obtain⟨c,e,d⟩:=b;have h:PV.tup [.str r,.int g,.tup (cs.map .str)]=.tup [.str c,.int e,.tup (d.map .str)]:=h;injection h with h
 injection h with h1 h
 injection h with h2 h
 injection h with h3 h
 injection h1 with h1
 injection h2 with h2
 injection h3 with h3
 rw[h1,Int.ofNat_inj.mp h2,ZCg (λ_ _ z=>by injection z) |>.mp h3]
theorem QV.len(h:QV m chs f):chs.flatten.length<=12:=by
 have q:=IU (l2:=List.range m) h.nd λx hx=>List.mem_range.mpr ((h.all x).mpr hx);rw[Cc]at q;have:=h.FV;omega
theorem oB(h:chs[i]?=some ch)(hx:ch[j]?=some x):∃r,chs.flatten=((chs.take i).flatten++ch.take j)++x::r:=by
 obtain⟨hi,rfl⟩:=List.getElem?_eq_some_iff.mp h;obtain⟨a,rfl⟩:=List.getElem?_eq_some_iff.mp hx;refine⟨chs[i].drop (j+1)++(chs.drop (i+1)).flatten,?_⟩;have e1:chs=chs.take i++chs[i]::chs.drop (i+1):=by rw[<- T3 hi,Ye]
 have c:chs[i]=chs[i].take j++chs[i][j]::chs[i].drop (j+1):=by rw[<- T3 a,Ye]
 have b:chs.flatten=(chs.take i).flatten++(chs[i]++(chs.drop (i+1)).flatten):=by
  conv=>lhs;rw[e1,ZCY,ZCZ]
 rw[b];exact(pZ (λz=>(chs.take i).flatten++(z++(chs.drop (i+1)).flatten)) c).trans (by rw[Bt (List.take j _),YS,Bt])
theorem uc(h:chs[i]?=some ch):(chs.take (i+1)).flatten=(chs.take i).flatten++ch:=by
 obtain⟨hi,rfl⟩:=List.getElem?_eq_some_iff.mp h;rw[JP hi,ZCY];simp
def DA(Ls:List Lp):Lo:=gp (ups Ls) Ls.length 13 Ls.length
theorem jh(e:Ls.length<=12)(c:∀l∈Ls,l.Good ns):Uq Ls:=⟨e,λa d=>Wf (show CD ns a.r a.g a.cs from c a d).up,λa d b f h=>RX (show CD ns a.r a.g a.cs from c a d).up (show CD ns b.r b.g b.cs from c b f).up h⟩
theorem aB(b:Ls.length<=12)(nz:ns.length<=40)(a:∀l∈Ls,l.Good ns):Pg Ls (DA Ls)/\∀t∈Cy (DA Ls),Dg (ups Ls) t (DA Ls):=
 zR (jh b a) (λl c=>CL (CD.len (show CD ns l.r l.g l.cs from a l c)) nz) (by omega)
theorem zL{lo:Lo}(d:Dn lo n ch):∃r,ch=n::r:=by cases d <;> exact⟨_,rfl⟩
theorem iE{n:Nat}:∀{chs:List (List Nat)},chs.flatten.Nodup->∀{i k:Nat}{a b:List Nat},chs[i]?=some a->chs[k]?=some b->n∈a->n∈b->i=k
 | [],_,_,_,_,_,h,_,_,_=>by cases h
 |c::chs,nd,i,k,a,b,ha,hb,na,nb=>by
  rw[ZCZ]at nd;obtain⟨_,e,d⟩:=List.nodup_append.mp nd;cases i with
  |zero=>
   cases(show some c=some a from ha);cases k with
   |zero=>rfl
   |succ k=>exact absurd rfl (d n na n (List.mem_flatten.mpr ⟨b,Bc (show chs[k]?=some b from hb),nb⟩))
  |succ i=>
   cases k with
   |zero=>cases(show some c=some b from hb);exact absurd rfl (d n nb n (List.mem_flatten.mpr ⟨a,Bc (show chs[i]?=some a from ha),na⟩))
   |succ k=>exact pZ (· + 1) (iE e (show chs[i]?=some a from ha) (show chs[k]?=some b from hb) na nb)
theorem ju{lo:Lo}(G:Pg Ls lo):∃c:Nat->List Nat,∀t,t<lo.length->Dn lo t (c t)/\(c t).length<=12/\(c t).Nodup/\∀x∈c t,x<lo.length:=by
 have b:∀t,Decidable (t<lo.length):=λ_=>inferInstance;have ex:∀t,t<lo.length->∃ch,Dn lo t ch/\ch.length<=12/\ch.Nodup/\∀x∈ch,x<lo.length:=λt a=>by
  obtain⟨ch,d,nd,h⟩:=dR G.uq G.len G.fit _ t (Aa _) a;have q:=ZAK nd λx hx=>(h x hx).1;have:=G.uq.len;have:=G.len;exact⟨ch,d,by omega,nd,λx hx=>(h x hx).1⟩
 refine⟨λt=>if h:t<lo.length then Classical.choose (ex t h)else[],λt h=>?_⟩
 dsimp only;rw[dif_pos h];exact jC (ex t h)
theorem ZAZ{lo:Lo}(G:Pg Ls lo)(i:∀t,t<lo.length->Dn lo t (c t)/\(c t).length<=12/\(c t).Nodup/\∀x∈c t,x<lo.length):∃f,QV Ls.length ((Cy lo).map c) f:=by
 have m:(Cy lo).Nodup:=List.Pairwise.filter _ List.nodup_range;have nd:((Cy lo).map c).flatten.Nodup:=by
  unfold List.Nodup;refine List.pairwise_flatten.mpr ⟨λl r=>?_,?_⟩
  .obtain⟨t,j,rfl⟩:=List.mem_map.mp r;exact(i t (I0.mp j).1).2.2.1
  .rw[Yc];unfold List.Nodup at m;refine List.Pairwise.imp_of_mem (λ{a b}p o Af x hx y q e=>Af ?_) m;subst e;exact ZAA G (I0.mp p).2 (I0.mp o).2 (i a (I0.mp p).1).1 (i b (I0.mp o).1).1 _ x (Aa _) hx q
 refine⟨λn=>((Cy lo).map c).findIdx λch=>decide (n∈ch),G.uq.len,nd,λn=>⟨λh=>?_,λh=>?_⟩,λk ch hk n g=>?_⟩
 .obtain⟨t,h1,h2,ch,d,g⟩:=xl G _ n (Aa _) (G.len▸h);rw[Dn.uniq d (i t h1).1]at g;exact List.mem_flatten.mpr ⟨c t,List.mem_map.mpr ⟨t,I0.mpr ⟨h1,h2⟩,rfl⟩,g⟩
 .obtain⟨ch,Ea,g⟩:=List.mem_flatten.mp h;obtain⟨t,j,rfl⟩:=List.mem_map.mp Ea;exact G.len▸(i t (I0.mp j).1).2.2.2 n g
 .have s:=Bc hk;have h1:((Cy lo).map c).findIdx (λch=>decide (n∈ch))<((Cy lo).map c).length:=List.findIdx_lt_length_of_exists ⟨ch,s,kc g⟩;have h2:=List.findIdx_getElem (w:=h1);exact iE nd (AQ h1) hk (pU h2) g
theorem mC(b:Ls.length<=12)(nz:ns.length<=40)(f:∀l∈Ls,l.Good ns)(a:∀t,t<(DA Ls).length->Dn (DA Ls) t (c t)/\(c t).length<=12/\(c t).Nodup/\∀x∈c t,x<(DA Ls).length):K2 (ups Ls) Ls.length (DA Ls) ((Cy (DA Ls)).map c):=by
 obtain⟨G,st⟩:=aB b nz f;refine⟨⟨b,λv u h=>(Ut.mp h).1⟩,G.len,λu w e=>?_,?_,λch Ea=>?_⟩
 .obtain⟨_,_,e1,_⟩:=UR (G.fit u w e);exact(List.getElem?_eq_some_iff.mp e1).1
 .rw[AA];have q:(Cy (DA Ls)).length<=(List.range (DA Ls).length).length:=PR _ _;have:=G.len;rw[Cc]at q;omega
 .obtain⟨t,d,rfl⟩:=List.mem_map.mp Ea;have h1:=(I0.mp d).1;obtain⟨r,e⟩:=zL (a t h1).1;exact⟨t,r,e,G.len▸h1,st t d,(a t h1).1,(a t h1).2.1⟩
theorem fN{P:List Nat->List Str->Prop}:∀{chs:List (List Nat)}{ys:List PV},ys.length=(chs.map B5).length->(∀(j:Nat)x y,(chs.map B5)[j]?=some x->ys[j]?=some y->∀ch,x=B5 ch->∃ms:List Str,y=.lst (ms.map .str)/\P ch ms)->
  ∃ls:List (List Str),ys=ls.map (λl=>PV.lst (l.map .str))/\∀(k:Nat)ch l,chs[k]?=some ch->ls[k]?=some l->P ch l
 | [],[],_,_=>⟨[],rfl,λk ch l h=>by cases h⟩
 | [],_::_,h,_=>by cases h
 |_::_,[],h,_=>by cases h
 |ch::chs,y::ys,h,hP=>by
  obtain⟨ls,rfl,q⟩:=fN (chs:=chs) (ys:=ys) (JR h) λj x y hx a=>hP (j+1) x y hx a;obtain⟨ms,rfl,p⟩:=hP 0 _ _ rfl rfl ch rfl;exact⟨ms::ls,rfl,λk ch l h1 h2=>by
   cases k with
   |zero=>cases h1;cases h2;exact p
   |succ k=>exact q k ch l h1 h2⟩
theorem ve(lo:Lo):((List.range lo.length).filter λt:Nat=>!((lo.map CG).any λp=>Bb p (.int (t:Int))))=Cy lo:=by
 unfold Cy;refine List.filter_congr λt _=>?_;have e:((lo.map CG).any λp=>Bb p (.int (t:Int)))=decide (t∈lows lo):=by
  refine Bool.eq_iff_iff.mpr ?_;rw[qO,Lq];constructor
  .rintro⟨p,b,e⟩;obtain⟨o,ho,rfl⟩:=List.mem_map.mp b;cases o with
   |none=>cases e
   |some w=>
    have e:decide ((w:Int)=(t:Int))=true:=e;have e:=Int.ofNat_inj.mp (pU e);subst e;exact List.mem_filterMap.mpr ⟨some w,ho,rfl⟩
  .intro h;obtain⟨u,a⟩:=GD.mp h;exact⟨.int (t:Int),List.mem_map.mpr ⟨some t,Bc a,rfl⟩,kc rfl⟩
 rw[e,decide_not]
noncomputable def Co(Ls:List Lp)(j k:Nat):Bool:=match Ls[j]?,Ls[k]? with
 |some a,some b=>decide (EA b a∨EA a b)
 |_,_=>false
def BR(s:List Nat):Nat:=match s.getLast? with
 |none=>0
 |some x=>x+1
def wN(n:Nat)(s:List Nat):Nat:=2 ^ (n - BR s)
def exts(Ls:List Lp)(s:List Nat)(m:Nat):List (List Nat):=(((List.range m).map (BR s + ·)).filter λk=>!(s.any λj=>Co Ls j k)).map λk=>s++[k]
noncomputable def WN(n:Nat)(rs:List (List Nat)):Nat:=(rs.map (wN n)).sum
theorem Ux(n:Nat)(a b:List (List Nat)):WN n (a++b)=WN n a+WN n b:=by unfold WN;rw[Cs,List.sum_append]
theorem UO(n:Nat)(s:List Nat):WN n [s]=wN n s:=by simp[WN]
theorem Tt(n:Nat):∀(rs:List (List Nat)),rs.length<=WN n rs
 | []=>Bm _
 |s::rs=>by
  have q:=Tt n rs;have h:0<wN n s:=jW _;show rs.length+1<=((s::rs).map (wN n)).sum;rw[DG,List.sum_cons];show _<=wN n s+WN n rs;omega
theorem VH(s:List Nat)(x:Nat):BR (s++[x])=x+1:=by unfold BR;rw[jL]
theorem kM(up:s.Pairwise (· < ·)):∀x∈s,x<BR s:=by
 intro x hx;rcases YU s with rfl|⟨l,y,rfl⟩
 .cases hx
 .rw[YR]at hx up ⊢;rw[VH];rcases List.mem_append.mp hx with h|h
  .have:=(List.pairwise_append.mp up).2.2 x h y Ar;omega
  .rw[List.mem_singleton.mp h];omega
theorem bK(Ls:List Lp)(s:List Nat)(m:Nat):exts Ls s (m+1)=exts Ls s m++if(s.any λj=>Co Ls j (BR s+m))then[]else[s++[BR s+m]]:=by
 unfold exts;rw[List.range_succ,Cs,jI,Cs]
 congr 1
 show((List.filter _ [BR s+m]).map _)=_;cases h:s.any λj=>Co Ls j (BR s+m)with
 |true=>rw[ZCW (by rw[h];decide)];rfl
 |false=>rw[ZCX (by rw[h];rfl)];rfl
theorem UG(Ls:List Lp)(s:List Nat)(n:Nat):∀m,m<=n - BR s->WN n (exts Ls s m)+2 ^ (n - BR s - m)<=2 ^ (n - BR s)
 | 0,_=>by show 0+_<=_;rw[Ym];omega
 |m+1,h=>by
  have a:=UG Ls s n m (by omega);rw[bK,Ux];have e:n - BR s - m=(n - BR s - (m+1))+1:=by omega
  rw[e,jU]at a;have q:WN n (if(s.any λj=>Co Ls j (BR s+m))then[]else[s++[BR s+m]])<=2 ^ (n - BR s - (m+1)):=by
   split
   .exact Bm _
   .rw[UO];unfold wN;rw[VH];exact KU (pZ (2 ^ ·) (by omega))
  omega
noncomputable def Kk(b s:List Nat):List Nat:=if b.length<s.length then s else b
theorem WK{k:Nat}{a b:Lp}(d:Ls[j]?=some a)(c:Ls[k]?=some b):Co Ls j k=decide (EA b a∨EA a b):=by unfold Co;rw[d,c]
theorem sR(h:s.getLast?=some x):BZ (s.map nP) (-1)=some (nP x):=by
 obtain⟨l,rfl⟩:=List.getLast?_eq_some_iff.mp h;exact bp
def dH:Pre:=λl R=>∃(ns:List Str)(m:Nat),l=[.AE,.is (.lst (ns.map .str)),.is (.int m)]/\m<=12/\ns.length<=40/\ns.Nodup/\R=.new λxs=>∃Ls:List Lp,xs=Ls.map Lp.P/\Ls.length<=m/\∀l∈Ls,l.Good ns
theorem ZBh(a b:Int×Int)(h:B8 a=B8 b):a=b:=by
 obtain⟨x,y⟩:=a;obtain⟨z,w⟩:=b;have h:PV.tup [.int x,.int y]=.tup [.int z,.int w]:=h;injection h with h
 injection h with h1 h
 injection h with h2 h
 injection h1 with h1
 injection h2 with h2
 rw[h1,h2]
section
variable[Xw]{K:ZDv}{f:α->PV}
theorem Wn.mono{k k':List PV->Prop}(h:Wn ss te k)(i:∀xs,k xs->k' xs):Wn ss te k':=⟨λE Z F H Q S q=>h.go E Z F H Q S λl vs xs F' H' m b a E8 r kk=>q l vs xs F' H' m b a E8 r (i xs kk)⟩
theorem SV{k:List PV->Prop}(h:Wn ss te k):Wq ss te λtp xs=>tp=false/\k xs:=B9 (As (h.mono λxs kk=>⟨xs,.inl ⟨rfl,rfl,kk⟩⟩))
theorem Gv{k:List PV->Prop}(h:Wq ss te λtp zs=>tp=false/\∃ys:List α,zs=ys.map f/\Wp ss tx λp=>∃n:Nat,p=.int n/\k ((ys.take n).map f)):Wn ss (Ie (Ju K) te Im (J4 tx)) k:=
 Ol (h.mono λtp zs z=>by
  obtain⟨e,ys,rfl,h⟩:=z;refine⟨e,Nb (OX (h.mono λp z=>?_))⟩;obtain⟨n,rfl,kk⟩:=z;exact⟨_,rfl,by rw[TL,kC];exact kk⟩)
theorem GN{k:List PV->Prop}(h:Wq ss te λtp zs=>tp=false/\∃ys:List α,zs=ys.map f/\Wp ss tx λp=>∃n:Nat,p=.int n/\k ((ys.drop n).map f)):Wn ss (Ie (Ju K) te (J4 tx) Im) k:=
 Ol (h.mono λtp zs z=>by
  obtain⟨e,ys,rfl,h⟩:=z;refine⟨e,OX (h.mono λp z=>?_)⟩;obtain⟨n,rfl,kk⟩:=z;exact⟨_,rfl,Nb (by rw[TL,W8];exact kk)⟩)
theorem gn{k:List PV->Prop}(h:Wn ss ta λxs=>∃as:List α,xs=as.map f/\Wq ss tb λtp ys=>tp=false/\∃bs:List α,ys=bs.map f/\as.length+bs.length<=100000/\k ((as++bs).map f)):Wn ss (Au K9 ta tb) k:=
 Pp ((SV h).mono λtp xs z=>by
  obtain⟨e,as,rfl,h⟩:=z;refine⟨e,h.mono λtp ys z=>?_⟩;obtain⟨e,bs,rfl,a,kk⟩:=z;exact⟨e,by rw[AA,AA];exact a,by rw[<- Cs];exact kk⟩)
theorem FX{k:List PV->Prop}(h:Wn ss ta λxs=>∃as:List α,xs=as.map f/\Wn ss tb λys=>∃bs:List α,ys=bs.map f/\as.length+bs.length<=100000/\k ((as++bs).map f)):Wn ss (Au K9 ta tb) k:=
 gn (h.mono λxs z=>by
  obtain⟨as,rfl,h⟩:=z;exact⟨as,rfl,SV h⟩)
end
def Ac(l:List Str):PV:=.lst (l.map .str)
theorem Sy(a b:List Str)(h:Ac a=Ac b):a=b:=by
 injection h with h
 exact ZCg (λ_ _ z=>by injection z) |>.mp h
theorem ZZ{a b cs:List Str}(up:Up cs)(c:b.Perm a)(sa:sortedS b=true):decide (b=cs)=decide (a.Perm cs):=by
 rw[decide_eq_decide];refine⟨λe=>e▸c.symm,λp=>?_⟩;have q:=c.trans p;exact RX (XC sa (q.nodup_iff.mpr (Wf up))) up λk=>q.mem_iff
theorem RL:∀(Ls:List Lp)(ps:List (Int×Int)),Iw (Ls.map Lp.P) (ps.map B8)=(Ls.zip ps).map λx=>PV.tup [x.1.P,B8 x.2]
 | [],_=>rfl
 |_::_,[]=>rfl
 |l::Ls,p::ps=>pZ (PV.tup [l.P,B8 p] :: ·) (RL Ls ps)
noncomputable def FG(n:Nat)(ls:List (List Str))(l:Lp)(q:Int×Int):Bool:=decide (0<=q.1) && match ls[q.1.toNat]? with
 |some line=>decide (q.2=(n:Int) - (l.cs.length:Int)) && decide ((line.drop (n - l.cs.length)).Perm l.cs)
 |none=>false
def EU(Ls:List Lp)(zs:List Int):Prop:=zs.Pairwise (· < ·)/\(∀z∈zs,0<=z/\z<Ls.length)/\∀x∈zs,∀y∈zs,x<y->Co Ls x.toNat y.toNat=false
instance (Ls:List Lp) (zs:List Int):Decidable (EU Ls zs):=by unfold EU;infer_instance
def OT(ns:List Str)(ls:List (List Str)):Bool:=ls.all λl=>decide (l.Perm ns)
def Ll(n:Nat)(ls:List (List Str))(Ls:List Lp)(ps:List (Int×Int)):Bool:=decide (ps.length=Ls.length) && (Ls.zip ps).all λx=>FG n ls x.1 x.2
def Nf(ns:List Str)(Ls:List Lp)(ls:List (List Str))(ps:List (Int×Int))(zs:List Int):Bool:=OT ns ls && (Ll ns.length ls Ls ps && decide (zs.length=ls.length/\EU Ls zs))
theorem yf{c:List Int}(nd:c.Nodup)(mem:∀x,x∈c↔x∈zs)(up:c.Pairwise (·<=·)):(!decide (zs=c))=!decide (zs.Pairwise (· < ·)):=by
 congr 1
 have d:c.Pairwise (· < ·):=(List.pairwise_and_iff.mpr ⟨up,nd⟩).imp λ{a b}h=>by have:=h.1;have:=h.2;omega
 refine decide_eq_decide.mpr ⟨λe=>e▸d,λh=>?_⟩;exact((List.perm_ext_iff_of_nodup (h.imp λ{a b}(q:a<b)=>Int.ne_of_lt q) nd).mpr λx=>(mem x).symm).eq_of_pairwise (λa b _ _ h1 h2=>Int.le_antisymm h1 h2) (h.imp λ{a b}q=>Int.le_of_lt q) up
theorem ZBz(h:∀z∈zs,0<=z/\z<(n:Int)):∃A:List Nat,zs=A.map (λk:Nat=>(k:Int))/\∀y∈A,y<n:=by
 refine⟨zs.map Int.toNat,?_,λy b=>?_⟩
 .rw[CJ];exact(jO _).symm.trans (YW λz a=>by show z=((z.toNat:Nat):Int);have:=h z a;omega)
 .obtain⟨z,a,rfl⟩:=List.mem_map.mp b;have:=h z a;omega
theorem jc(g:zs=A.map (λk:Nat=>(k:Int)))(c:zs.length=m)(l:zs.Pairwise (· < ·))(d:∀z∈zs,0<=z/\z<(Ls.length:Int)):
  (!(zs.map λz=>A.any λy=>decide (z.toNat<y) && Co Ls z.toNat y).any id)=decide (zs.length=m/\EU Ls zs):=by
 rw[Hf,qO];constructor
 .intro h;refine⟨c,l,d,λx hx y a AB=>?_⟩;rw[PK];intro e;rw[ZCJ,PK]at h;refine h (List.any_eq_true.mpr ⟨_,List.mem_map.mpr ⟨x,hx,rfl⟩,List.any_eq_true.mpr ⟨y.toNat,?_,?_⟩⟩)
  .rw[g]at a;obtain⟨k,hk,rfl⟩:=List.mem_map.mp a;rw[GG];exact hk
  .have:=d x hx;have:=d y a;rw[e,Sz];exact kc (by omega)
 .rintro⟨_,_,_,h⟩;rw[ZCJ,PK];intro e;obtain⟨b,j,e⟩:=List.any_eq_true.mp e;obtain⟨z,f,rfl⟩:=List.mem_map.mp j;obtain⟨y,a,e⟩:=List.any_eq_true.mp e;obtain⟨e1,i⟩:=Bool.and_eq_true_iff.mp e;have e1:=pU e1;have:=d z f;have q:=h z f (y:Int) (by rw[g];exact List.mem_map.mpr ⟨y,a,rfl⟩) (by omega);rw[GG]at q;rw[q]at i;cases i
theorem EU.sub{ys:List Int}(h:EU Ls zs)(s:ys.Sublist zs):EU Ls ys:=
 ⟨h.1.sublist s,λz a=>h.2.1 z (s.subset a),λx hx y b=>h.2.2 x (s.subset hx) y (s.subset b)⟩
theorem ZBg(Ls:List Lp):EU Ls []:=⟨.nil,λz h=>(by cases h),λx h=>(by cases h)⟩
theorem dB{xs:List PV}{p:PV}(h:0<=z)(e:xs[z.toNat]?=some p):BZ xs z=some p:=by
 have q:=D4 (j:=z.toNat) e;rw[PL h]at q;exact q
theorem jq{f:Int->Bool}(h:i<=zs.length):(((List.range i).map λj=>f (zs.getD j 0)).any id)=true↔¬ ∀x∈zs.take i,f x=false:=by
 have e:((List.range i).map λj=>f (zs.getD j 0))=(zs.take i).map f:=by
  apply PN;intro j;rw[AS,AS]
  by_cases c:j<i
  .rw[N5 c,jK c,AQ (show j<zs.length by omega)];show some (f (zs.getD j 0))=_;rw[IJ,AQ (show j<zs.length by omega)];rfl
  .rw[KP (by rw[Cc];omega),KP (by rw[Cj];omega)];rfl
 rw[e,YQ];constructor
 .intro q z;obtain⟨x,hx,y⟩:=List.any_eq_true.mp q;have y:f x=true:=y;rw[z x hx]at y;cases y
 .intro q;refine JN λz=>q λx hx=>?_;rw[PK];exact λy=>z (List.any_eq_true.mpr ⟨x,hx,y⟩)
theorem sS(h:EU Ls zs):EU Ls (zs++[z])↔(0<=z/\z<Ls.length)/\(∀y,zs.getLast?=some y->y<z)/\∀x∈zs,Co Ls x.toNat z.toNat=false:=by
 have lz:z∈zs++[z]:=C5 _ Ar;constructor
 .rintro⟨h1,h2,b⟩;obtain⟨_,_,c⟩:=List.pairwise_append.mp h1;have lt:∀x∈zs,x<z:=λx hx=>c x hx z Ar;exact⟨h2 z lz,λy a=>lt y (List.mem_of_getLast? a),λx hx=>b x (Dm _ hx) z lz (lt x hx)⟩
 .rintro⟨h1,h2,b⟩;have lt:∀x∈zs,x<z:=λx hx=>by
   rcases YU zs with rfl|⟨l,y,rfl⟩
   .cases hx
   .rw[YR]at hx h2 h;have a:=h2 y jL;rcases List.mem_append.mp hx with q|q
    .have:=(List.pairwise_append.mp h.1).2.2 x q y Ar;omega
    .rw[List.mem_singleton.mp q];exact a
  refine⟨List.pairwise_append.mpr ⟨h.1,ZCk _ _,λx hx y a=>by rw[List.mem_singleton.mp a];exact lt x hx⟩,λx hx=>?_,λx hx y a AB=>?_⟩
  .rcases List.mem_append.mp hx with q|q
   .exact h.2.1 x q
   .rw[List.mem_singleton.mp q];exact h1
  .rcases List.mem_append.mp hx with q|q <;> rcases List.mem_append.mp a with r|r
   .exact h.2.2 x q y r AB
   .rw[List.mem_singleton.mp r];exact b x q
   .rw[List.mem_singleton.mp q]at AB;have:=lt y r;omega
   .rw[List.mem_singleton.mp q,List.mem_singleton.mp r]at AB;omega
theorem aa{a b:Int}(h:¬ 0<=a):FG n ls o (a,b)=false:=by
 unfold FG;rw[oO h,T1]
theorem dF{a b:Int}(h:¬ a<(ls.length:Int)):FG n ls o (a,b)=false:=by
 unfold FG;rw[show ls[(a,b).1.toNat]?=none from KP (by show ls.length<=a.toNat;omega),IH]
theorem gB{k:Nat}{b:Int}(h:ls[k]?=some line):FG n ls o ((k:Int),b)=(decide (b=(n:Int) - (o.cs.length:Int)) && decide ((line.drop (n - o.cs.length)).Perm o.cs)):=by
 unfold FG;show(decide (0<=(k:Int)) && match ls[(k:Int).toNat]? with|some line=>_|none=>false)=_
 rw[kc (ZCQ k),GG,h];rfl
theorem ZAB{f:α->Bool}{xs:List α}{x:α}(h:xs[i]?=some x)(hi:(xs.take i).all f=true):(xs.take (i+1)).all f=f x:=by
 obtain⟨a,rfl⟩:=List.getElem?_eq_some_iff.mp h;rw[JP a,List.all_append,hi];simp
theorem ky{f:α->Bool}{xs:List α}{x:α}(h:xs[i]?=some x)(hx:f x=false):xs.all f=false:=by
 rw[PK];intro e;rw[List.all_eq_true.mp e x (Bc h)]at hx;cases hx
structure OY (ns:List Str) (Ls:List Lp) (ls:List (List Str)) (ps:List (Int×Int)) (zs:List Int):Prop where
 nz:ns.length<=40
 nd:ns.Nodup
 Lz:Ls.length<=12
 good:∀l:Lp,l∈Ls->l.Good ns
 lz:ls.length<=50
 line:∀l∈ls,l.length<=60
 pz:ps.length<=50
 zz:zs.length<=50
def gc:Pre:=λl R=>∃(t1:Bool)(ns:List Str)(ls:List (List Str)),l=[.sq t1 (ns.map .str),.is (.lst (ls.map Ac))]/\ns.length<=40/\ls.length<=50/\(∀l∈ls,l.length<=60)/\R=.is (·=.bl (OT ns ls))
def cu:Pre:=λl R=>∃(ns:List Str)(ls:List (List Str))(o:Lp)(q:Int×Int),l=[.is (.lst (ls.map Ac)),.is o.P,.is (B8 q)]/\ns.length<=40/\o.Good ns/\(∀l∈ls,l.Perm ns)/\ls.length<=50/\R=.is (·=.bl (FG ns.length ls o q))
def fH:Pre:=λl R=>∃(t2:Bool)(ns:List Str)(Ls:List Lp)(ls:List (List Str))(ps:List (Int×Int))(zs:List Int),l=[.sq t2 (Ls.map Lp.P),.is (.lst (ls.map Ac)),.is (.lst (ps.map B8))]/\OY ns Ls ls ps zs/\(∀l∈ls,l.Perm ns)/\R=.is (·=.bl (Ll ns.length ls Ls ps))
def cD:Pre:=λl R=>∃(t2:Bool)(Ls:List Lp)(x:Nat)(A:List Nat),l=[.sq t2 (Ls.map Lp.P),.is (nP x),.is (B5 A)]/\HU Ls/\x<Ls.length/\A.length<=50/\(∀y∈A,y<Ls.length)/\R=.is (·=.bl (A.any λy=>decide (x<y) && Co Ls x y))
def bB:Pre:=λl R=>∃(t2:Bool)(Ls:List Lp)(ls:List (List Str))(zs:List Int),l=[.sq t2 (Ls.map Lp.P),.is (.lst (ls.map Ac)),.is (.lst (zs.map .int))]/\HU Ls/\ls.length<=50/\zs.length<=50/\R=.is (·=.bl (decide (zs.length=ls.length/\EU Ls zs)))
def iH:Pre:=λl R=>∃(t1 t2:Bool)(ns:List Str)(Ls:List Lp)(ls:List (List Str))(ps:List (Int×Int))(zs:List Int),l=[.sq t1 (ns.map .str),.sq t2 (Ls.map Lp.P),.is (.lst (ls.map Ac)),.is (.lst (ps.map B8)),.is (.lst (zs.map .int))]/\OY ns Ls ls ps zs/\R=.is (·=.bl (Nf ns Ls ls ps zs))
def gz:Pre:=λl R=>∃(ns:List Str)(Ls:List Lp)(ls:List (List Str))(ps:List (Int×Int))(zs:List Int),l=[.is (.lst (ns.map .str)),.is (.lst (Ls.map Lp.P)),.is (.lst (ls.map Ac)),.is (.lst (ps.map B8))]/\OY ns Ls ls ps zs/\(∀l∈ls,l.Perm ns)/\R=.is (·=.bl (Ll ns.length ls Ls ps))
def cH:Pre:=λl R=>∃(Ls:List Lp)(zs:List Int),l=[.is (.lst (Ls.map Lp.P)),.is (.lst (zs.map .int))]/\HU Ls/\zs.length<=50/\R=.is (·=.bl (decide (EU Ls zs)))
def aG:Pre:=λl R=>∃(ns:List Str)(Ls:List Lp)(ls:List (List Str))(ps:List (Int×Int))(zs:List Int),l=[.is (.lst (ns.map .str)),.is (.lst (Ls.map Lp.P)),.is (.lst (ls.map Ac)),.is (.lst (ps.map B8)),.is (.lst (zs.map .int))]/\OY ns Ls ls ps zs/\R=.is (·=.bl (Nf ns Ls ls ps zs))
def bL:Pre:=λl R=>∃(ns:List Str)(Ls:List Lp),l=[.is (.lst (ns.map .str)),.is (.lst (Ls.map Lp.P))]/\ns.length<=40/\HU Ls/\R=.is λp=>∃(ls:List (List Str))(ps:List (Int×Int)),p=.tup [.lst (ls.map Ac),.lst (ps.map B8)]/\ls.length=Ls.length/\(∀l∈ls,l.length<=2 * ns.length)/\ps.length=Ls.length
def j4:Pre:=λl R=>∃(ns:List Str)(ls:List (List Str))(m:Nat),l=[.AE,.is (.lst (ns.map .str)),.is (.lst (ls.map Ac))]/\ns.length<=40/\m<=50/\ls.length<=40/\(∀l∈ls,l.length<=m)/\ns.length<=m/\R=.new λxs=>∃ms:List (List Str),xs=ms.map Ac/\ms.length<=ls.length+1/\∀l∈ms,l.length<=m+1
def c9:Pre:=λl R=>∃(ps:List (Int×Int)),l=[.AE,.is (.lst (ps.map B8))]/\ps.length<=40/\R=.new λxs=>∃a:List (Int×Int),xs=a.map B8/\a.length<=ps.length+1
def cO:Pre:=λl R=>∃(zs:List Int),l=[.AE,.is (.lst (zs.map .int))]/\zs.length<=40/\R=.new λxs=>∃ys:List Int,xs=ys.map .int/\ys.length<=zs.length+1
structure RowW (Ls:List Lp) (s:List Nat):Prop where
 up:s.Pairwise (· < ·)
 lt:∀x∈s,x<Ls.length
structure LO (Ls:List Lp) (b:List Nat) (rs:List (List Nat)):Prop where
 rows:∀s∈rs,RowW Ls s
 best:RowW Ls b
theorem RowW.nil(Ls:List Lp):RowW Ls []:=⟨.nil,λx h=>(by cases h)⟩
theorem LO.init(Ls:List Lp):LO Ls [] [[]]:=⟨λs h=>by rw[List.mem_singleton.mp h];exact .nil Ls,.nil Ls⟩
theorem LO.step(I:LO Ls b (rs++[s])):LO Ls (Kk b s) (rs++exts Ls s (Ls.length - BR s)):=by
 have gs:RowW Ls s:=I.rows s (by simp);refine⟨λt c=>?_,by unfold Kk;split;exact gs;exact I.best⟩;rcases List.mem_append.mp c with h|h
 .exact I.rows t (by simp[h])
 .obtain⟨k,hk,rfl⟩:=List.mem_map.mp h;obtain⟨i,hi,rfl⟩:=List.mem_map.mp (List.mem_filter.mp hk).1;have hi:=List.mem_range.mp hi;refine⟨List.pairwise_append.mpr ⟨gs.up,ZCk _ _,λx hx y a=>?_⟩,λx hx=>?_⟩
  .rw[List.mem_singleton.mp a];have:=kM gs.up x hx;omega
  .rcases List.mem_append.mp hx with h|h
   .exact gs.lt x h
   .rw[List.mem_singleton.mp h];omega
def aJ:Pre:=λl R=>∃(Ls:List Lp),l=[.is (.lst (Ls.map Lp.P))]/\HU Ls/\R=.is λp=>∃b,p=B5 b/\RowW Ls b
theorem ZAY(h:RowW Ls b):b.length<=Ls.length:=by
 have q:=Kz.IU (l2:=List.range Ls.length) (h.up.imp λh=>An h) λx hx=>List.mem_range.mpr (h.lt x hx);rw[Cc]at q;exact q
structure Hd (i:Nat) (ls:List (List Str)) (ps:List (Int×Int)) (zs:List Int):Prop where
 l:ls.length<=6+i
 t:∀x∈ls,x.length<=24+i
 p:ps.length<=6+i
 z:zs.length<=6+i
theorem Hd.mono(h:Hd i ls ps zs):Hd (i+1) ls ps zs:=⟨Lr h.l,λx hx=>Lr (h.t x hx),Lr h.p,Lr h.z⟩
theorem Hd.cx(h:Hd i ls ps zs)(q:i<=j):Hd j ls ps zs:=by
 induction q with
 |refl=>exact h
 |step _ a=>exact a.mono
structure To (ns:List Str) (Ls:List Lp) (ls:List (List Str)) (ps:List (Int×Int)) (A:List Nat):Prop where
 le:ls.length<=Ls.length
 t:∀l∈ls,l.length<=ns.length
 pz:ps.length=Ls.length
 al:A.length<=Ls.length
theorem ZAa{lo:Kz.Lo}(e:lo.length=Ls.length)(b:ps.length=Ls.length)
  (d:ls.length=(Kz.Cy lo).length){P:List Nat->List Str->Prop}(Ub:∀(k:Nat)ch l,((Kz.Cy lo).map c)[k]?=some ch->ls[k]?=some l->l.Perm ns/\P ch l)
  {g:List Nat->Nat}(a:A.Perm (((Kz.Cy lo).map c).map g)):To ns Ls ls ps A:=by
 have q:(Kz.Cy lo).length<=lo.length:=by
  unfold Kz.Cy;exact CL (PR _ _) (KU Cc)
 refine⟨by omega,λl h=>?_,b,by rw[a.length_eq,AA,AA];omega⟩;obtain⟨k,hk⟩:=List.mem_iff_getElem?.mp h;have f:=(List.getElem?_eq_some_iff.mp hk).1;exact KU (Ub k _ l (AQ (by rw[AA];omega)) hk).1.length_eq
def eD(T:Addr)(pos:Pos):Pre:=λl R=>∃(ns:List Str)(Ls:List Lp),l=[.raw (Ga T pos ns),.is (.lst (Ls.map Lp.P))]/\(ns.length<=40/\ns.Nodup)/\Ls.length<=12/\(∀l∈Ls,l.Good ns)/\
 R=.is λp=>∃(ls:List (List Str))(ps:List (Int×Int))(A:List Nat),p=.tup [.lst (ls.map λl=>.lst (l.map .str)),.lst (ps.map B8),.lst (A.map nP)]/\To ns Ls ls ps A
theorem Hd.of(h:To ns Ls ls ps A)(b:Ls.length<=6)(a:ns.length<=12):Hd 0 ls ps (A.map λn:Nat=>(n:Int)):=
 have q:=h.le
 ⟨by omega,λx hx=>by have:=h.t x hx;omega,by have:=h.pz;omega,by have:=h.al;rw[AA];omega⟩
noncomputable def Nr(ls:List (List Str))(ps:List (Int×Int))(zs:List Int):PV:=.tup [.lst (ls.map Ac),.lst (ps.map B8),.lst (zs.map .int)]
theorem Xq{K:ZDv}(ls:List (List Str))(ps:List (Int×Int))(zs:List Int):dat K 40 (Nr ls ps zs):=λx hx=>by
 simp only[CK,BH,su]at hx;rcases hx with rfl|rfl|rfl
 .intro y d;obtain⟨l,_,rfl⟩:=List.mem_map.mp d;intro z c;obtain⟨s,_,rfl⟩:=List.mem_map.mp c;trivial
 .intro y d;obtain⟨⟨a,b⟩,_,rfl⟩:=List.mem_map.mp d;intro z c;have c:z∈[PV.int a,.int b]:=c;simp only[CK,BH,su]at c;rcases c with rfl|rfl <;> trivial
 .intro y d;obtain⟨s,_,rfl⟩:=List.mem_map.mp d;trivial
end Fz
set_option maxHeartbeats 8000000
namespace Pf
open L2 Lw
variable{w:World}{mg:ZDx}{KH T c cT f:Addr}{α:Type}{Vz:Tok}{l:PySem.W.OpenLaw}
abbrev St:=L2.St
noncomputable def top(i:Nat):Stmt:=PySem.Challenge.pw_stirround_k45_lines_judged.main.body.getD i (.Pass ⟨0,0,0,0⟩)
abbrev TR:Stmt:=top 33
abbrev Vy:Stmt:=top 34
abbrev Xu:Stmt:=top 35
abbrev Xm:Stmt:=top 36
abbrev Vg:Stmt:=top 37
abbrev Wk:Stmt:=top 38
abbrev Uv:Stmt:=top 41
abbrev Qp:Stmt:=top 42
abbrev XF:Stmt:=top 5
abbrev SM:Stmt:=top 12
abbrev VM:Stmt:=top 9
abbrev WV:Stmt:=top 10
abbrev XG:Stmt:=top 11
abbrev RU:Stmt:=top 21
abbrev RD:Stmt:=top 20
abbrev Y1:Stmt:=top 16
abbrev UD:Stmt:=top 18
abbrev Pn:Stmt:=top 19
abbrev X5:Stmt:=top 22
abbrev C8:Stmt:=top 23
abbrev Sh:Stmt:=top 24
abbrev Pz:Stmt:=top 26
abbrev QN:Stmt:=top 25
abbrev Ml:Stmt:=top 14
abbrev Ro:Stmt:=top 27
abbrev W4:Stmt:=top 29
abbrev QU:Stmt:=top 28
abbrev WH:Stmt:=top 17
abbrev QH:Stmt:=top 31
abbrev Ot:Stmt:=top 30
abbrev XA:Stmt:=top 15
abbrev NW:Stmt:=top 47
abbrev V9:Stmt:=top 45
abbrev WE:Stmt:=top 43
abbrev U1:Stmt:=top 44
abbrev S6:Stmt:=top 46
abbrev QR:Stmt:=top 52
abbrev SW:Stmt:=top 48
abbrev Rr:Stmt:=top 49
abbrev Xn:Stmt:=top 50
abbrev Xt:Stmt:=top 51
abbrev Lc:Stmt:=top 53
variable{P:Program}{K:ZDv}{Zl:Heap}{fd:FuncData}
def Z6{us:List α}(h:us.length=1):∃a,us=[a]:=by
 rcases us with _|⟨a,_|⟨b,us⟩⟩
 .cases h
 .exact⟨a,rfl⟩
 .cases h
def ln2{us:List α}(h:us.length=2):∃a b,us=[a,b]:=by
 rcases us with _|⟨a,us⟩
 .cases h
 .obtain⟨b,rfl⟩:=Z6 (JR h);exact⟨a,b,rfl⟩
def iO{us:List α}(h:us.length=3):∃a b c,us=[a,b,c]:=by
 rcases us with _|⟨a,us⟩
 .cases h
 .obtain⟨b,c,rfl⟩:=ln2 (JR h);exact⟨a,b,c,rfl⟩
def bx{us:List α}(h:us.length=4):∃a b c d,us=[a,b,c,d]:=by
 rcases us with _|⟨a,us⟩
 .cases h
 .obtain⟨b,c,d,rfl⟩:=iO (JR h);exact⟨a,b,c,d,rfl⟩
def bZ{us:List α}(h:us.length=5):∃a b c d e,us=[a,b,c,d,e]:=by
 rcases us with _|⟨a,us⟩
 .cases h
 .obtain⟨b,c,d,e,rfl⟩:=bx (JR h);exact⟨a,b,c,d,e,rfl⟩
def zE{us:List α}(h:us.length=6):∃a b c d e f,us=[a,b,c,d,e,f]:=by
 rcases us with _|⟨a,us⟩
 .cases h
 .obtain⟨b,c,d,e,f,rfl⟩:=bZ (JR h);exact⟨a,b,c,d,e,f,rfl⟩
local macro_rules | `(tactic| walk_at "bD1")=>`(tactic| (intro _ _ _ _ _ _ us hl;obtain⟨_,e⟩:=Z6 hl;subst e;rfl))
local macro_rules | `(tactic| walk_at "bD2")=>`(tactic| (intro _ _ _ _ _ _ us hl;obtain⟨_,_,e⟩:=ln2 hl;subst e;rfl))
local macro_rules | `(tactic| walk_at "bD3")=>`(tactic| (intro _ _ _ _ _ _ us hl;obtain⟨_,_,_,e⟩:=iO hl;subst e;rfl))
local macro_rules | `(tactic| walk_at "bD4")=>`(tactic| (intro _ _ _ _ _ _ us hl;obtain⟨_,_,_,_,e⟩:=bx hl;subst e;rfl))
local macro_rules | `(tactic| walk_at "bD5")=>`(tactic| (intro _ _ _ _ _ _ us hl;obtain⟨_,_,_,_,_,e⟩:=bZ hl;subst e;rfl))
local macro_rules | `(tactic| walk_at "bD6")=>`(tactic| (intro _ _ _ _ _ _ us hl;obtain⟨_,_,_,_,_,_,e⟩:=zE hl;subst e;rfl))
abbrev nS(K:ZDv)(x:Str)(v:Value):Prop:=PySem.W.nsIn K mainGlobals x=some (some v)
abbrev nN(K:ZDv)(x:Str):Prop:=PySem.W.nsIn K mainGlobals x=some none
open Fz
def ZWM(t:String):Lean.MacroM (Lean.TSyntax `tactic):=do
 let g:Lean.TSyntax `tactic←`(tactic| fail)
 let k←`(tactic| case wk=>rfl)
 let n (s:String):=`(tactic| walk_at $(Lean.quote s):str)
 (t.splitOn " ").foldrM (λs r=>do
  let l:=((s.drop 1).toString.splitOn "/").map λx=>Lean.mkIdent (`Fz++x.toName)
  let h:Lean.Ident:=l.getLast!
  let c:=s.front
  let w:=(h.getId.getString!.toLower.replace "o" "e").replace "i" "e"
  let z←if c=='j' then `($h ?wj ?wk ?_)else if c=='k'||c=='K' then `($h ?wk ?_)else `($h ?_)
  let z←l.dropLast.foldrM (λ(f:Lean.Ident)(z:Lean.Term)=>`($f ($z))) z
  let p←if c=='e' then `(tactic| show ∃_,_=$h _/\_)else if c=='s' then `(tactic| show $h _ _ _)else `(tactic| refine' $z)
  let p←if c=='K'||c=='R'||c=='j' then pure p else `(tactic| with_reducible $p:tactic)
  let q←if c=='e' then `(tactic| refine⟨_,rfl,?_⟩)else if c=='s' then n w else if c=='n' then n "wn" else if c=='p' then n "wp" else if c=='k'||c=='K' then pure k else if c=='j' then `(tactic| ((case wj=>rfl);$k:tactic))else `(tactic| skip)
  `(tactic| first|($p:tactic;$q:tactic) | $r:tactic)) g
local macro_rules | `(tactic| walk_at "wp")=>ZWM "kM6/Q3/HA kM6/ND/HA kM6/Q3/Q3/HA kM6/ND/ND/HA kM6/ND/Q3/HA kx9 kA5 rC6 rbQ rDp rM7 rxi rJb ruM rgR rcK rRu ryY rfM rOd rWA kpL rG0 rDL rJW rVX ruP rmM rJK rSH rcV rfG kk7 rU6 rUZ Kxk Kji KtJ KOv KOL KVT"
local macro_rules | `(tactic| walk_at "wn")=>ZWM "rEC rPp rOl rL8 raq KGL jym"
local macro_rules | `(tactic| walk_at "wq")=>do
 let z←ZWM "kHv kGU kAq kMV"
 `(tactic| first | $z:tactic|(refine B9 (As ?_);walk_at "wn")|(refine B9 ?_;walk_at "wp"))
local macro_rules | `(tactic| walk_at "wz")=>`(tactic| first
 | ((with_reducible refine' UB ?wk ?_);(case wk=>rfl))
 | (refine CY (As ?_);walk_at "wn")
 | (refine CY ?_;walk_at "wp"))
local macro_rules | `(tactic| walk_at "wt")=>ZWM "rEc rGY rG2 rLe rbh rL4"
local macro_rules | `(tactic| walk_at "we")=>ZWM "rCb rCg rNb rOX rKw rfi rTQ rDR"
local macro_rules | `(tactic| walk_at "w")=>do
 let z←ZWM "rAy rDj rD2 rC0 kUT kbE kmI nEn pGW kQb nFs pCO"
 let z1←ZWM "eOV.tp eOV.fz"
 let z2←ZWM "edP"
 let z3←ZWM "sWn sWq sWz sWt sWe sWo sWi"
 let z4←ZWM "ePV.int ePV.str ePV.bl"
 `(tactic| first | $z1:tactic|((with_reducible show ∃_ _,_=OV.nd NK.lst _ _/\_);refine⟨_,_,rfl,?_⟩)|((with_reducible show ∃_ _ _,_=PV.int _/\_/\_/\_);refine⟨_,_,_,rfl,rfl,rfl,?_⟩)|((with_reducible show ∃_ _ _,_=Md _ _ _/\_);refine⟨_,_,_,rfl,?_⟩) | $z2:tactic|((with_reducible show Wp _ _ _);first|walk_at "wp" | (refine As ?_;walk_at "wn")) | $z3:tactic|((with_reducible show Ws _ _ _ _);$z:tactic) | $z4:tactic|((with_reducible show(_:Bool)=_/\_);refine⟨rfl,?_⟩)|((with_reducible show ∃_ _,_=PV.int _/\L2.BZ _ _=some _/\_);refine⟨_,_,rfl,rfl,?_⟩)|((with_reducible show ∃_,(_=PV.lst _/\_)∨(_=PV.tup _/\_));first|refine⟨_,.inl ⟨rfl,?_⟩⟩|refine⟨_,.inr ⟨rfl,?_⟩⟩)|((with_reducible show ∃_,_=List.map _ _/\_);first|refine⟨_,rfl,?_⟩|refine⟨[],rfl,?_⟩|refine⟨_,TL _ _ _ _,?_⟩))
local macro_rules | `(tactic| walk_at "ww")=>`(tactic| repeat walk_at "w")
local macro_rules | `(tactic| walk_at "z1")=>`(tactic| exact⟨rfl,rfl,rfl,by decide +kernel,rfl,by decide +kernel,by decide +kernel⟩)
local macro_rules | `(tactic| walk_at "z2")=>`(tactic| exact⟨rfl,by decide +kernel,by decide +kernel,rfl,rfl,by decide +kernel,by decide +kernel,by decide +kernel,by decide +kernel⟩)
def Om:B6 ["script","k","cell","rest_here"] ["script","k"] (AO TR):=by walk_at "z1"
variable(AN:mg "len"=none)(P5:AF P w K mg Zl "_law_letters" 1 ["number"] (ah))(B7:AF P w K mg Zl "_law_take" 1 ["pot","many"] (Hk))(VE:AF P w K mg Zl "_law_name" 2 ["pot","names"] (ZX K))(CM:mg "range"=none)(WM:AF P w K mg Zl "_law_names" 3 ["pot","many"] (gu))(CI:mg "sorted"=none)(ID:mg "tuple"=none)(Ul:AF P w K mg Zl "_law_some_loop" 2 ["pot","row"] (V0))(Ek:mg "all"=none)(DC:mg "list"=none)(FR:mg "set"=none)(Tq:AF P w K mg Zl "is_coming" 1 ["row","coming"] (d3 K))(XR:AF P w K mg Zl "is_gap" 1 ["row","gap"] (gZ K))(Vo:mg "RULES"=some (.ref KH))(U2:∀H,Al K H KH [.str "none",.str "ahead",.str "all"])(XW:AF P w K mg Zl "is_loop" 2 ["row","thing"] (cJ K))(YF:AF P w K mg Zl "check_loop" 3 ["row","loop"] (Ve K))(Xr:mg "MOST_LOOPS"=some (.int 12 Vz))(LS:AF P w K mg Zl "has_all_of" 1 ["loop","other"] (Ad Ua))(TX:AF P w K mg Zl "is_above" 2 ["loops","number","upper"] (Ad dZ))(Vr:fd.code=.ref c)(hC:PySem.W.codeHdIn K c T=true)(bA:Zl.BuiltinsAt mg T)(JE:mainGlobals≠T)(Su:mg "enumerate"=none)(Xy:AF P w K mg Zl "uppermost_untried" 1 ["chain","tried"] (Ad cn))(V1:AF P w K mg Zl "apart_of" 15 ["above","lower_of","chains"] (Ad gD))(UE:AF P w K mg Zl "chain_down" 1 ["lower_of","top"] (Ad iB))(M8:AF P w K mg Zl "check_loops" 4 ["row","loops"] (Ad Uz))(Ww:AF P w K mg Zl "greatest_pairing" 15 ["above"] (Ad gK))(XI:AF P w K mg Zl "line_of" 3 ["row","loops","chain"] (Ad (eQ T (Cq C8))))(TN:AF P w K mg Zl "numbers_above" 3 ["loops","number"] (Ad cF))(UA:AF P w K mg Zl "seats_of" 1 ["row","loops","chains"] (Ad gM))(XY:AF P w K mg Zl "is_seat" 1 ["lines","loop","seat"] (Ad cu))(MT:mg "zip"=none)(VO:AF P w K mg Zl "fit_one_line" 2 ["one","other"] (Ad Mn))(Gd:mg "any"=none)(Y2:AF P w K mg Zl "fits_a_later_one" 3 ["loops","number","apart"] (Ad cD))(TU:AF P w K mg Zl "are_apart" 4 ["loops","lines","apart"] (Ad bB))(Ug:AF P w K mg Zl "are_lines" 1 ["row","lines"] (Ad gc))(X8:AF P w K mg Zl "are_seats" 2 ["loops","lines","seats"] (Ad fH))(RG:AF P w K mg Zl "_law_within" 1 ["one","other"] (Ad cg))(Ly:AF P w K mg Zl "_law_fit" 2 ["one","other"] (Ad Mn))(YD:AF P w K mg Zl "_law_apart" 3 ["loops","apart"] (Ad cH))(TV:AF P w K mg Zl "_law_seats_right" 1 ["row","loops","lines","seats"] (Ad gz))(Qo:mg "int"=none)(V3:AF P w K mg Zl "_law_bent_apart" 3 ["pot","apart"] (Ad cO))(VZ:AF P w K mg Zl "_law_bent_lines" 3 ["pot","row","lines"] (Ad j4))(X2:AF P w K mg Zl "_law_bent_seats" 3 ["pot","seats"] (Ad c9))(VL:AF P w K mg Zl "_law_due" 4 ["row","loops","lines","seats","apart"] (Ad aG))(Wy:AF P w K mg Zl "_law_fewest_lines" 3 ["loops"] (Ad aJ))(X6:AF P w K mg Zl "_law_loops" 3 ["pot","row","most"] (Ad dH))(Ud:AF P w K mg Zl "_law_pot" 1 ["script","k"] (Wd K))(VP:AF P w K mg Zl "_law_row" 4 ["pot","most"] (YA))(V2:AF P w K mg Zl "_law_stack" 1 ["row","loops"] (Ad bL))(QY:AF P w K mg Zl "lines_judged" 5 ["row","loops","lines","seats","apart"] (Ad iH))(Vd:AF P w K mg Zl "lines_of" 16 ["row","loops"] (Ad (eD T (Cq C8))))(TK:mg "bool"=none)(Y6:mg "isinstance"=none)(XX:mg "max"=none)(VU:mg "min"=none)
def oQ(F:AM K "_law_pot" "_law_pot" TR f fd)(m:mg "_law_pot"=some (.ref f)):
  AF P w K mg Zl "_law_pot" 1 ["script","k"] (Wd K):=by
 refine AF.mk F (F.binds (by walk_at "bD2")) m (F.El (k:=0) Om (λvs H Q E h=>?_) (λAk A outer s H vs Q E t h=>?_))
 .obtain⟨a,ns,k,rfl,b,e,k1,q⟩:=h;rfl
 obtain⟨a,ns,k,rfl,b,e,k1,q⟩:=h;refine⟨_,(AH rfl (Ai 2 Om.nd A7)
   (AH rfl (CN (BY (Ax LA (qv 1) (Ah Mp AN (A0 (qv 0) A4))) (AL rfl (Ai 2 Om.nd (AW KG (AV BO (qv 0) (qv 1)) (AW J9 (AW J9 (AW J9 (AW LH A7 A7) (AW LH A7 A7)) (AW LH A7 A7)) (AW LH A7 A7))))) Bg))
   (AH rfl (Ai 3 Om.nd A7)
   (AH rfl (CN (BY (Ax Yx (qv 2) (AW LH A7 A7)) (AL rfl (Ai 3 Om.nd (qv 2))) Bg))
   (AL rfl (Am (Cn (A0 (qv 3) (A0 (AW KG (AW J9 (AW D7 (AW D7 (AW KG (qv 2) A7) (AW J9 A7 (qv 1))) A7) A7) A7) A4))))))))),?_⟩
 have j:(ns.map V.int).length=ns.length:=AA _;refine⟨λσ' H'=>∃c:Int,σ'=[some (.ref a),some (.int k),some (.int c),none]/\H=H'/\0<=c/\c<10 ^ 256,?_,?_⟩
 .refine⟨_,rfl,_,rfl,a,_,rfl,.inl b,_,_,rfl,rfl,_,rfl,?_⟩;refine BP (λc=>?_) (λc=>?_)
  .have c':k<(((ns.map V.int).length:Nat):Int):=pU c;rw[j]at c';have hk:k.toNat<ns.length:=by omega
   have i:BZ (ns.map V.int) k=some (.int ns[k.toNat]):=R4 e (by rw[AS,AQ hk] <;> rfl)
   refine⟨_,rfl,_,rfl,a,_,_,_,rfl,rfl,b,i,_,_,rfl,rfl,⟨by decide,by decide,by decide +kernel⟩,_,_,rfl,rfl,⟨by decide,by decide,by decide +kernel⟩,_,_,rfl,rfl,⟨by decide +kernel,by decide +kernel⟩,_,_,rfl,rfl,⟨by decide,by decide,by decide +kernel⟩,_,_,rfl,rfl,⟨by decide +kernel,by decide +kernel⟩,
    _,_,rfl,rfl,⟨by decide,by decide,by decide +kernel⟩,_,_,rfl,rfl,⟨by decide +kernel,by decide +kernel⟩,_,_,rfl,rfl,(by show(0:Int)<_;decide +kernel),?_⟩
   exact⟨_,rfl,rfl,KO _ (by decide +kernel),KN _ (by decide +kernel)⟩
  .exact⟨0,rfl,rfl,by decide,by decide +kernel⟩
 rintro σ' H'⟨c,rfl,rfl,r,o⟩;refine⟨λσ' H'=>∃d:Int,σ'=[some (.ref a),some (.int k),some (.int c),some (.int d)]/\H=H'/\0<=d/\d<10 ^ 256,?_,?_⟩
 .refine⟨_,rfl,_,_,rfl,rfl,⟨by decide,by decide,by decide +kernel⟩,_,_,rfl,rfl,_,rfl,?_⟩;refine BP (λ_=>?_) (λ_=>?_)
  .exact⟨_,rfl,c,rfl,rfl,r,o⟩
  .exact⟨0,rfl,rfl,by decide,by decide +kernel⟩
 rintro σ' H'⟨d,rfl,rfl,n,l⟩;have e0:0<=c % 2147483629:=KO _ (by decide);have e1:c % 2147483629<2147483629:=KN _ (by decide);refine⟨_,rfl,_,rfl,_,_,rfl,rfl,(by show(0:Int)<2147483629;decide),_,rfl,_,_,rfl,rfl,⟨by decide +kernel,Mx (by omega) (by omega)⟩,_,_,rfl,rfl,_,_,rfl,rfl,_,_,rfl,rfl,⟨Mx (by omega) (by omega),by decide +kernel⟩,_,_,rfl,rfl,(by show(0:Int)<2147483647;decide),?_⟩;refine⟨(by show 2<=sizeLine;decide),λp g=>?_⟩;exact q p _ g (CH g _) ⟨d,_,AZ,n,l,KO _ (by decide),KN _ (by decide)⟩
def d4:B6 ["pot","many","found"] ["pot","many"] (AO Vy):=by walk_at "z1"
def kH(F:AM K "_law_take" "_law_take" Vy f fd)(m:mg "_law_take"=some (.ref f)):
  AF P w K mg Zl "_law_take" 1 ["pot","many"] (Hk):=by
 refine AF.mk F (F.binds (by walk_at "bD2")) m (F.El (k:=0) d4 (λvs H Q E h=>?_) (λAk A outer s H vs Q E r h=>?_))
 .obtain⟨p,m,rfl,⟨a,b,d,a0,a1,b0,j⟩,e,n,q⟩:=h;rfl
 obtain⟨p,m,rfl,⟨a,b,d,a0,a1,b0,j⟩,e,n,q⟩:=h;refine⟨_,(AH rfl (BY (Ax JD (AV BO (qv 0) A7) A7) (AH rfl (Ai 2 d4.nd (AW KG (AV BO (qv 0) A7) (qv 1)))
   (AH rfl (IV (AW Y5 (AV BO (qv 0) A7) (qv 1)) (Nv (qv 0) A7 set_list))
   (AL rfl (Am (qv 2))))) Bg)
   (AH rfl (IV (AW KG (AW D7 (AW J9 (AV BO (qv 0) A7) A7) A7) A7) (Nv (qv 0) A7 set_list))
   (AL rfl (Am (AW KG (AW Y5 (AW KG (AW J9 (AV BO (qv 0) A7) (AV BO (qv 0) A7)) A7) A7) (qv 1)))))),?_⟩
 refine⟨_,rfl,p,_,_,_,rfl,rfl,AK.of d,rfl,_,_,rfl,rfl,_,rfl,?_⟩;refine BP (λc=>?_) (λc=>?_)
 .have c':0<a:=pU c;refine⟨_,rfl,p,_,_,_,rfl,rfl,AK.of d,rfl,_,rfl,_,_,rfl,rfl,e,?_⟩;refine⟨_,rfl,p,_,_,_,rfl,rfl,AK.of d,rfl,_,rfl,_,_,rfl,rfl,⟨e,Mx (by omega) (by omega)⟩,?_⟩;refine⟨_,rfl,p,_,_,_,rfl,rfl,d,rfl,?_⟩;refine⟨_,rfl,?_⟩;refine q _ _ (KO _ (by omega)) (KN _ e) ⟨⟨a / m,b,AZ,Int.ediv_nonneg a0 (by omega),ZCP (Int.ediv_le_self _ a0) a1,b0,j⟩,GK.upd⟩
 .refine⟨_,rfl,p,_,_,_,rfl,rfl,AK.of d,rfl,_,_,rfl,rfl,⟨Mx (by omega) (by omega),by decide +kernel⟩,_,_,rfl,rfl,_,_,rfl,rfl,(by show(0:Int)<2147483647;decide),?_⟩;refine⟨_,rfl,p,_,_,_,rfl,rfl,d,rfl,?_⟩;have l:0<=(b * 69621+12345) % 2147483647:=KO _ (by decide);have i:(b * 69621+12345) % 2147483647<2147483647:=KN _ (by decide);generalize o:(b * 69621+12345) % 2147483647=b' at l i;have g:(upd H p (.lst [.int a,.int ((b * 69621+12345) % 2147483647)])) p=some (.lst [.int a,.int b']):=by rw[AZ,o]
  refine⟨_,rfl,p,_,_,_,rfl,rfl,AK.of g,rfl,_,rfl,p,_,_,_,rfl,rfl,AK.of g,rfl,_,_,rfl,rfl,⟨Mx (by omega) (by omega),Mx (by omega) (by omega)⟩,_,_,rfl,rfl,(by show(0:Int)<2147483629;decide),?_⟩;refine⟨_,_,rfl,rfl,⟨(by show(0:Int)<64;decide),by decide +kernel⟩,_,rfl,_,_,rfl,rfl,e,?_⟩;exact q _ _ (KO _ (by omega)) (KN _ e) ⟨⟨a,b',g,a0,a1,l,i⟩,GK.upd⟩
def RI:B6 ["number","word"] ["number"] (AO Xu):=by walk_at "z1"
def wo(F:AM K "_law_letters" "_law_letters" Xu f fd)(m:mg "_law_letters"=some (.ref f)):
  AF P w K mg Zl "_law_letters" 1 ["number"] (ah):=by
 refine AF.mk F (F.binds (by walk_at "bD1")) m (F.El (k:=0) RI (λvs H Q E h=>?_) (λAk A outer s H vs Q E u h=>?_))
 .obtain⟨r,rfl,i,o,q⟩:=h;rfl
 obtain⟨r,rfl,i,o,q⟩:=h;refine⟨_,(AH rfl (Ai 1 RI.nd Df)
   (AH rfl (CN (S7 EB (Iy (Ax DS (qv 1) Df) (IZ (Ax JD (qv 0) A7))).pt (AH rfl (Ai 1 RI.nd (AW br (qv 1) (AV kG Df (AW KG (qv 0) A7))))
   (AL rfl (Ai 0 RI.nd (AW Y5 (qv 0) A7))))))
   (AL rfl (Am (qv 1))))),?_⟩
 obtain⟨n,rfl⟩:=YO i;have j:n<26 ^ 8:=by omega
 rw[GG]at q;refine⟨λσ' H'=>∃v,σ'=[some v,some (.str (DM (MA.lets n)))]/\H=H',?_,?_⟩
 .refine⟨λm σ' H'=>∃(k:Nat)(pre:List Nat),σ'=[some (.int k),some (.str (DM pre))]/\H=H'/\((pre=[]/\k=n/\m=n+2)∨(pre≠[]/\m=k+1/\(0<k->pre++MA.lets k=MA.lets n)/\(k=0->pre=MA.lets n))),⟨n+2,n,[],rfl,rfl,.inl ⟨rfl,rfl,rfl⟩⟩,?_⟩;rintro m σ' H'⟨k,pre,rfl,rfl,l⟩;refine⟨_,rfl,rfl,_,rfl,?_⟩;refine BP (λc=>Og ?_) (λc=>⟨_,rfl,_,_,rfl,rfl,_,rfl,?_⟩)
  .have d:pre=[]:=cU.mp (pU c);obtain⟨_,hk,p⟩|⟨h,_⟩:=l
   .have b:pre++MA.lets k=MA.lets n:=by rw[d,hk];rfl
    have a:pre.length+1<=8:=by
     have h1:=pZ List.length b;rw[BF]at h1;have h2:=MA.QK 7 n j;have t:=MA.Tr k;omega
    refine⟨λσ' H'=>σ'=[some (.int ((k:Int) / 26)),some (.str (DM pre++⟨#[97+((k:Int) % 26).toNat]⟩))]/\H=H',?_,?_⟩
    .rintro σ' H'⟨rfl,rfl⟩;have nx:=Zg b;have e1:((k:Int) % 26).toNat=k % 26:=by omega
     have e:(k:Int) / 26=((k / 26:Nat):Int):=by omega
     exact⟨k / 26+1,by omega,k / 26,pre++[97+k % 26],by rw[e1,e,iS],rfl,.inr ⟨by simp,rfl,nx.1,nx.2⟩⟩
    .refine⟨_,rfl,_,rfl,_,_,rfl,rfl,(by show(0:Int)<26;decide),_,_,_,rfl,rfl,(by decide +kernel),gb (KO _ (by decide)) (KN _ (by decide)),_,_,rfl,rfl,?_,?_⟩
     .rw[RN];exact small (show pre.length+1<=_ by omega)
     .exact⟨_,rfl,_,_,rfl,rfl,⟨(by show(0:Int)<26;decide),by decide +kernel⟩,rfl,rfl⟩
   .exact absurd d h
  .have d:pre≠[]:=λh=>c (kc (cU.mpr h));obtain⟨h,_⟩|⟨_,p,h1,h2⟩:=l
   .exact absurd h d
   refine BP (λg=>?_) (λg=>?_)
   .have hk:0<k:=by have:(0:Int)<k:=pU g;omega
    have b:=h1 hk;have a:pre.length+1<=8:=by
     have h1:=pZ List.length b;rw[BF]at h1;have h2:=MA.QK 7 n j;have t:=MA.Tr k;omega
    refine⟨λσ' H'=>σ'=[some (.int ((k:Int) / 26)),some (.str (DM pre++⟨#[97+((k:Int) % 26).toNat]⟩))]/\H=H',?_,?_⟩
    .rintro σ' H'⟨rfl,rfl⟩;have nx:=Zg b;have e1:((k:Int) % 26).toNat=k % 26:=by omega
     have e:(k:Int) / 26=((k / 26:Nat):Int):=by omega
     exact⟨k / 26+1,by omega,k / 26,pre++[97+k % 26],by rw[e1,e,iS],rfl,.inr ⟨by simp,rfl,nx.1,nx.2⟩⟩
    .refine⟨_,rfl,_,rfl,_,_,rfl,rfl,(by show(0:Int)<26;decide),_,_,_,rfl,rfl,(by decide +kernel),gb (KO _ (by decide)) (KN _ (by decide)),_,_,rfl,rfl,?_,?_⟩
     .rw[RN];exact small (show pre.length+1<=_ by omega)
     .exact⟨_,rfl,_,_,rfl,rfl,⟨(by show(0:Int)<26;decide),by decide +kernel⟩,rfl,rfl⟩
   .have hk:k=0:=by
     have:¬ (0:Int)<k:=λz=>g (kc z);omega
    exact⟨_,by rw[h2 hk],rfl⟩
 .rintro σ' H'⟨v,rfl,rfl⟩;exact⟨_,rfl,q _ (AI.refl _)⟩
def Gf:B6 ["pot","names","some","way","name","number"] ["pot","names"] (AO Xm):=by walk_at "z1"
def lU(F:AM K "_law_name" "_law_name" Xm f fd)(m:mg "_law_name"=some (.ref f)):
  AF P w K mg Zl "_law_name" 2 ["pot","names"] (ZX K):=by
 refine AF.mk F (F.binds (by walk_at "bD2")) m (F.El (k:=1) Gf (λvs H Q E h=>?_) (λAk A outer s H vs Q E g h=>?_))
 .obtain⟨p,q,ns,rfl,U,u,Af,X,hL,K1⟩:=h;rfl
 obtain⟨p,q,ns,rfl,U,u,Af,X,hL,K1⟩:=h;refine⟨_,(AH rfl (Ai 2 Gf.nd (EM (A0 Df (A0 Df (A0 Df (A0 Df (A0 Df (A0 Df (A0 Df (A0 Df (A0 Df (A0 Df (A0 Df (A0 Df (A0 Df A4)))))))))))))))
   (AH rfl (Ai 3 Gf.nd (AR B7 g (A0 (qv 0) (A0 A7 A4))))
   (AH rfl (Ai 4 Gf.nd (AV Bi (qv 2) (AR B7 g (A0 (qv 0) (A0 A7 A4)))))
   (AH rfl (CN (BY (Ax DS (qv 3) A7) (AL rfl (Ai 4 Gf.nd (AR P5 g (A0 (AR B7 g (A0 (qv 0) (A0 (AW Jq (AW LH A7 A7) A7) A4))) A4)))) Bg))
   (AH rfl (CN (BY (Mr (Ax DS (qv 3) A7) (P1 (Ax (NL g.EX) (qv 1) (Cn A4)))).pt (AH rfl (Ai 4 Gf.nd (AV BO (qv 1) (AR B7 g (A0 (qv 0) (A0 (Ah Mp AN (A0 (qv 1) A4)) A4)))))
   (AL rfl (Ai 4 Gf.nd (Ca aO (AW br (qv 4) (AR P5 g (A0 (AR B7 g (A0 (qv 0) (A0 A7 A4))) A4))) CV (CT A7))))) Bg))
   (AH rfl (CN (BY (Mr (Ax DS (qv 3) A7) (P1 (Ax (NL g.EX) (qv 1) (Cn A4)))).pt (AH rfl (Ai 4 Gf.nd (AV BO (qv 1) (AR B7 g (A0 (qv 0) (A0 (Ah Mp AN (A0 (qv 1) A4)) A4)))))
   (AL rfl (Ai 4 Gf.nd (Ca aO (qv 4) CV (CT (AW D7 A7 (AR B7 g (A0 (qv 0) (A0 (Ah ZBS AN (A0 (qv 4) A4)) A4))))))))) Bg))
   (AH rfl (Ai 5 Gf.nd A7)
   (AH rfl (CN (S7 EB (Ax OG (qv 4) (qv 1)) (AH rfl (Ai 4 Gf.nd (AR P5 g (A0 (qv 5) A4)))
   (AL rfl (Ai 5 Gf.nd (AW D7 (qv 5) A7))))))
   (AL rfl (Am (qv 4))))))))))),?_⟩
 have D:(ns.map V.str).length=ns.length:=AA _;have u:AK K H q (ns.map V.str):=AK.of u;refine⟨(by show 13<=sizeLine;decide +kernel),λo cc=>?_⟩;have Fw:o≠p:=by
  obtain⟨_,_,e,_⟩:=U;exact(Dx e cc).symm
 have g0:BM p H (upd H o (.tup Pt)):=BM.of U (CH cc _);refine⟨_,rfl,p,4,rfl,g0.AE,by decide,by decide,λd H1 w0 w1 s1=>?_⟩;refine⟨_,rfl,_,rfl,p,13,rfl,s1.AE,by decide,by decide,λi H2 i0 i1 s2=>?_⟩;have h2:H2 o=some (.tup Pt):=s2.at' (s1.at' AZ Fw) Fw;obtain⟨x,hx,nx⟩:=l9 i0 i1;refine⟨o,_,_,_,rfl,rfl,Al.of h2,hx,?_⟩;have O:=g0.trans (s1.trans s2);refine⟨λσ' H'=>∃x,σ'=[some (.ref p),some (.ref q),some (.ref o),some (.int d),some (.str x),none]/\Nm x/\BM p H H',?_,?_⟩
 .refine⟨_,rfl,rfl,_,rfl,?_⟩;refine BP (λc=>?_) (λc=>?_)
  .refine⟨_,rfl,_,_,rfl,rfl,⟨by decide,by decide,by decide +kernel⟩,_,_,rfl,rfl,p,_,rfl,O.AE,jx,vX,λr H3 C M Y=>?_⟩;have I:r<26 ^ 8:=Int.lt_trans M tw;exact⟨r,rfl,C,I,λH4 s4=>⟨_,rfl,XZ (Yu C I),(O.trans Y).trans (BM.of Y.AE s4)⟩⟩
  .exact⟨x,rfl,nx,O⟩
 clear h2 hx nx s2 O i0 i1;rintro σ' H3⟨y,rfl,t,l⟩;refine⟨λσ' H'=>∃x,σ'=[some (.ref p),some (.ref q),some (.ref o),some (.int d),some (.str x),none]/\Nm x/\BM p H H',?_,?_⟩
 .refine⟨_,rfl,rfl,_,rfl,?_⟩;refine BP (λc=>?_) (λc=>ML ⟨y,rfl,t,l⟩);refine⟨_,rfl,(by show 0<=sizeLine;decide),λe W=>?_⟩;have b:=l.trans (BM.of l.AE (CH W (.lst [])));have L:=b.OH u Af;refine⟨q,e,_,[],rfl,rfl,.inl ⟨L,AK.of AZ⟩,Ib ns,rfl,_,rfl,?_⟩;rw[de];refine BP (λJ=>?_) (λJ=>⟨y,rfl,t,b⟩);have MW:0<ns.length:=by
   cases ns with
   |nil=>simp at J
   |cons a r=>simp
  refine⟨_,rfl,_,rfl,_,rfl,q,_,rfl,.inl L,p,_,rfl,b.AE,(by rw[D];omega),(by rw[D];omega),λi H5 i0 i1 S=>?_⟩;rw[D]at i1;have B:=b.trans S;obtain⟨z,T,Th,_⟩:=Vl i0 i1;have nz:=X z Th;refine⟨q,_,_,_,rfl,rfl,B.OH u Af,T,?_⟩;refine⟨_,rfl,_,rfl,p,26,rfl,B.AE,by decide,by decide,λr H6 C M R=>?_⟩;have N:=B.trans R;have I:r<26 ^ 8:=Int.lt_trans M vf;refine⟨r,rfl,C,I,λH7 s7=>?_⟩;have N:=N.trans (BM.of N.AE s7);have nl:=XZ (n:=r.toNat) (Yu C I);have σ:z.length+(DM (MA.lets r.toNat)).length<=16:=by have:=nz.2.1;have:=nl.2.1;omega
  refine⟨_,_,rfl,rfl,small (by omega),?_⟩;refine⟨_,rfl,_,rfl,small (by rw[cR];omega),?_⟩;refine⟨_,rfl,c8 (by decide) (by decide) (by rw[cR];have:=nz.1;omega) (λc G=>?_),N⟩;rw[bP]at G;rcases List.mem_append.mp G with G|G
  .exact nz.2.2 c G
  .exact nl.2.2 c G
 clear t l;rintro σ' H3⟨y,rfl,t,l⟩;refine⟨λσ' H'=>∃x,σ'=[some (.ref p),some (.ref q),some (.ref o),some (.int d),some (.str x),none]/\Nm x/\BM p H H',?_,?_⟩
 .refine⟨_,rfl,rfl,_,rfl,?_⟩;refine BP (λc=>?_) (λc=>ML ⟨y,rfl,t,l⟩);refine⟨_,rfl,(by show 0<=sizeLine;decide),λe W=>?_⟩;have b:=l.trans (BM.of l.AE (CH W (.lst [])));have L:=b.OH u Af;refine⟨q,e,_,[],rfl,rfl,.inl ⟨L,AK.of AZ⟩,Ib ns,rfl,_,rfl,?_⟩;rw[de];refine BP (λJ=>?_) (λJ=>⟨y,rfl,t,b⟩);have MW:0<ns.length:=by
   cases ns with
   |nil=>simp at J
   |cons a r=>simp
  refine⟨_,rfl,_,rfl,_,rfl,q,_,rfl,.inl L,p,_,rfl,b.AE,(by rw[D];omega),(by rw[D];omega),λi H5 i0 i1 S=>?_⟩;rw[D]at i1;have B:=b.trans S;obtain⟨z,T,Th,_⟩:=Vl i0 i1;have nz:=X z Th;refine⟨q,_,_,_,rfl,rfl,B.OH u Af,T,?_⟩;have nV:=nz.1;have nz2:=nz.2.1;refine⟨_,rfl,_,rfl,_,rfl,_,rfl,small (by omega),p,_,rfl,B.AE,(by omega),(by omega),λr H6 C M R=>?_⟩;refine⟨_,_,rfl,rfl,_,rfl,_,rfl,small (by omega),?_⟩;exact⟨_,rfl,c8 (by omega) (by omega) nV nz.2.2,B.trans R⟩
 clear t l;rintro σ' H3⟨y,rfl,t,l⟩;refine⟨λσ' H'=>∃x v,σ'=[some (.ref p),some (.ref q),some (.ref o),some (.int d),some (.str x),some v]/\Nm x/\x∉ns/\BM p H H',?_,?_⟩
 .refine⟨λm σ' H'=>∃(k:Nat)(x:Str),σ'=[some (.ref p),some (.ref q),some (.ref o),some (.int d),some (.str x),some (.int k)]/\BM p H H'/\Nm x/\m=ns.length+1 - k/\k<=ns.length+1/\(0<k->x=DM (MA.lets (k - 1)))/\(∀j,j+1<k->DM (MA.lets j)∈ns),
   ⟨ns.length+1,0,y,rfl,l,t,rfl,Bm _,λh=>absurd h (by decide),λj h=>absurd h (by omega)⟩,?_⟩
  rintro m σ' H'⟨k,x,rfl,b,nx,rfl,hk,hx,hj⟩;refine⟨_,rfl,_,rfl,q,_,rfl,.inl (b.OH u Af),rfl,Ib ns,_,rfl,?_⟩;rw[mD (by decide),Ry];refine BP (λc=>?_) (λc=>⟨x,_,rfl,nx,λz=>c (kc z),b⟩);have KD:x∈ns:=pU c;have Ri:∀j,j<k->DM (MA.lets j)∈ns:=λj ON=>by
   by_cases e:j+1<k
   .exact hj j e
   .have e2:j=k - 1:=by omega
    rw[e2,<- hx (by omega)];exact KD
  have dv:=r9 Ri;refine⟨λσ' H'=>σ'=[some (.ref p),some (.ref q),some (.ref o),some (.int d),some (.str (DM (MA.lets k))),some (.int ((k:Int)+1))]/\BM p H H',?_,?_⟩
  .rintro σ' H'⟨rfl,b⟩;exact⟨ns.length+1 - (k+1),by omega,k+1,DM (MA.lets k),rfl,b,XZ (IK (CL dv hL) xh),rfl,by omega,λ_=>rfl,λj ON=>Ri j (by omega)⟩
  .refine⟨_,rfl,k,rfl,by omega,?_,λH4 s4=>?_⟩
   .have:(k:Int)<=1000:=by omega
    exact ZCP this yW
   .rw[GG];exact⟨_,rfl,_,_,rfl,rfl,rfl,b.trans (BM.of b.AE s4)⟩
 rintro σ' H'⟨x,v,rfl,nx,hx,b⟩;exact⟨_,rfl,K1 x H' nx hx b⟩
def XT:B6 ["pot","many","names","k"] ["pot","many"] (AO Vg):=by walk_at "z1"
def vP(F:AM K "_law_names" "_law_names" Vg f fd)(m:mg "_law_names"=some (.ref f)):
  AF P w K mg Zl "_law_names" 3 ["pot","many"] (gu):=by
 refine AF.mk F (F.binds (by walk_at "bD2")) m (F.El (k:=2) XT (λvs H Q E h=>?_) (λAk A outer s H vs Q E u h=>?_))
 .obtain⟨p,m,rfl,j,r,o,q⟩:=h;rfl
 obtain⟨p,m,rfl,j,r,o,q⟩:=h;refine⟨_,(AH rfl (Ai 2 XT.nd (Cn A4))
   (AH rfl (CN (FH EB rfl (Hs rfl CM (A0 (qv 1) A4)) (Ci 3 XT.nd) (AL rfl (Gi (Kq Lx Pj Pk MR (qv 2) (A0 (AR VE u (A0 (qv 0) (A0 (qv 2) A4))) A4))))))
   (AL rfl (Am (qv 2))))),?_⟩
 refine⟨(by show 0<=sizeLine;decide),λl c=>?_⟩;have d:=j.ne c;refine⟨λσ' H'=>∃(ns:List Str)(v:Option V),σ'=[some (.ref p),some (.int m),some (.ref l),v]/\BM p H H'/\H' l=some (.lst (ns.map V.str))/\(ns.length:Int)=m/\(∀x∈ns,Nm x)/\ns.Nodup,?_,?_⟩
 .refine⟨_,rfl,m,rfl,by omega,by omega,lM (n:=m.toNat) (λi σ' H'=>∃(ns:List Str)(v:Option V),σ'=[some (.ref p),some (.int m),some (.ref l),v]/\BM p H H'/\H' l=some (.lst (ns.map V.str))/\ns.length=i/\(∀x∈ns,Nm x)/\ns.Nodup) ?_ ?_ ?_⟩
  .exact⟨[],none,rfl,(BM.of j (AI.refl H)).upd c d,AZ,rfl,λx hx=>absurd hx (by simp),by simp⟩
  .rintro i σ' H' hi⟨ns,v,rfl,g,e,a,b,nd⟩;refine⟨_,rfl,.inl ⟨rfl,_,AK.of e⟩,_,rfl,_,rfl,p,l,ns,rfl,g.AE,e,d,b,by omega,λx H2 nx hx s2=>?_⟩;refine⟨l,_,_,rfl,rfl,s2.at' e d,IK (m:=100) (by rw[AA];omega) (by decide +kernel),?_⟩;refine⟨ns++[x],_,rfl,(g.trans s2).upd c d,by rw[AZ,Cs];rfl,by rw[BF];simp[a],λy t=>?_,Ui nd hx⟩;rcases List.mem_append.mp t with h|h
   .exact b y h
   .have:y=x:=by simpa using h
    rw[this];exact nx
  .rintro σ' H'⟨ns,v,rfl,g,e,a,b,nd⟩;exact⟨ns,v,rfl,g,e,by omega,b,nd⟩
 rintro σ' H'⟨ns,v,rfl,g,e,a,b,nd⟩;exact⟨_,rfl,q l H' ns c g e a b nd⟩
def Vu:B6 ["pot","most","many"] ["pot","most"] (AO Wk):=by walk_at "z1"
def mY(F:AM K "_law_row" "_law_row" Wk f fd)(m:mg "_law_row"=some (.ref f)):
  AF P w K mg Zl "_law_row" 4 ["pot","most"] (YA):=by
 refine AF.mk F (F.binds (by walk_at "bD2")) m (F.El (k:=3) Vu (λvs H Q E h=>?_) (λAk A outer s H vs Q E b h=>?_))
 .obtain⟨p,m,rfl,o,i,x,q⟩:=h;rfl
 obtain⟨p,m,rfl,o,i,x,q⟩:=h;refine⟨_,(AH rfl (Ai 2 Vu.nd (AR B7 b (A0 (qv 0) (A0 (AW D7 (qv 1) A7) A4))))
   (AH rfl (CN (BY (Ax DS (AR B7 b (A0 (qv 0) (A0 A7 A4))) A7) (AL rfl (Ai 2 Vu.nd (AV Bi (EM (A0 A7 (A0 A7 (A0 (qv 1) A4)))) (AR B7 b (A0 (qv 0) (A0 A7 A4)))))) Bg))
   (AL rfl (Am (AR WM b (A0 (qv 0) (A0 (qv 2) A4))))))),?_⟩
 refine⟨_,rfl,_,rfl,_,_,rfl,rfl,p,_,rfl,o,by omega,by omega,λa H1 n0 J s1=>?_⟩;refine⟨λσ' H'=>∃k:Int,σ'=[some (.ref p),some (.int m),some (.int k)]/\0<=k/\k<=m/\BM p H H',?_,?_⟩
 .refine⟨_,rfl,p,8,rfl,s1.AE,by decide,by decide,λr H2 I G s2=>?_⟩;have c:=s1.trans s2;refine⟨rfl,_,rfl,?_⟩;refine BP (λ_=>?_) (λ_=>⟨a,rfl,n0,by omega,c⟩);refine⟨_,rfl,(by show 3<=sizeLine;decide +kernel),λt n=>?_⟩;have D:=c.AE.ne n;have v:=c.trans (BM.of c.AE (CH n (.tup [.int 0,.int 1,.int m])));refine⟨_,rfl,p,3,rfl,v.AE,by decide,by decide,λj H4 z y s4=>?_⟩;obtain⟨k,hk,d,k1⟩:=k6 z y i;exact⟨t,_,_,_,rfl,rfl,Al.of (s4.at' AZ D),hk,k,rfl,d,k1,v.trans s4⟩
 rintro σ' H'⟨k,rfl,d,k1,g⟩;refine⟨_,rfl,_,rfl,p,k,rfl,g.AE,d,by omega,λl H' ns B s e u C nd=>?_⟩;exact q l H' ns (g.none B) (g.trans s) e (by omega) C nd
def Nh:B6 ["pot","row","coming","share","name","rule"] ["pot","row"] (AO Uv):=by walk_at "z1"
def oW(F:AM K "_law_some_loop" "_law_some_loop" Uv f fd)(m:mg "_law_some_loop"=some (.ref f)):
  AF P w K mg Zl "_law_some_loop" 2 ["pot","row"] (V0):=by
 refine AF.mk F (F.binds (by walk_at "bD2")) m (F.El (k:=1) Nh (λvs H Q E h=>?_) (λAk A outer s H vs Q E u h=>?_))
 .obtain⟨p,q,ns,rfl,D,b,Af,T,nd,K1⟩:=h;rfl
 obtain⟨p,q,ns,rfl,D,b,Af,T,nd,K1⟩:=h;refine⟨_,(AH rfl (Ai 2 Nh.nd (Cn A4))
   (AH rfl (Ai 3 Nh.nd (AW D7 A7 (AR B7 u (A0 (qv 0) (A0 A7 A4)))))
   (AH rfl (CN (FH EB rfl (D5 (qv 1)) (Ci 4 Nh.nd) (AL rfl (BY (Ax LA (AR B7 u (A0 (qv 0) (A0 A7 A4))) (qv 3)) (AL rfl (Gi (Kq Lx Pj Pk MR (qv 2) (A0 (qv 4) A4)))) Bg))))
   (AH rfl (Ai 5 Nh.nd (AV Bi (EM (A0 Df (A0 Df (A0 Df A4)))) (AR B7 u (A0 (qv 0) (A0 A7 A4)))))
   (AL rfl (Am (EM (A0 (qv 5) (A0 (AR B7 u (A0 (qv 0) (A0 (AW D7 (Ah Mp AN (A0 (qv 1) A4)) A7) A4))) (A0 (Cu Rv ID (A0 (Ah Lg CI (A0 (qv 2) A4)) A4)) A4)))))))))),?_⟩
 have z:=Lw.Q0 ns;refine⟨(by show 0<=sizeLine;decide),λl Je=>?_⟩;have n:=D.ne Je;have hlq:l≠q:=(Dx b Je).symm;have g0:BM p H (upd H l (.lst [])):=BM.of D (CH Je _);refine⟨_,rfl,p,4,rfl,g0.AE,by decide,by decide,λM H1 _ _ s1=>⟨_,_,rfl,rfl,?_⟩⟩;have g1:=g0.trans s1;refine⟨λσ' H'=>∃(cs:List Str)(v:Option V),σ'=[some (.ref p),some (.ref q),some (.ref l),some (.int (1+M)),v,none]/\BM p H H'/\H' l=some (.lst (cs.map V.str))/\cs.Sublist ns,?_,?_⟩
 .refine⟨_,rfl,false,q,_,rfl,AK.of (g1.at' b Af),rF (λi σ' H'=>∃(cs:List Str)(v:Option V),σ'=[some (.ref p),some (.ref q),some (.ref l),some (.int (1+M)),v,none]/\BM p H H'/\H' l=some (.lst (cs.map V.str))/\cs.Sublist (ns.take i)) ?_ ?_ ?_ ?_⟩
  .exact⟨[],none,rfl,g1,s1.at' AZ n,ZCi _⟩
  .rintro i σ' H' _⟨cs,v,rfl,g,e,a⟩;exact AK.of (g.at' b Af)
  .rintro i x σ' H' hx⟨cs,v,rfl,g,e,a⟩;obtain⟨y,rfl,U⟩:=p5 hx;have hi:i<ns.length:=(List.getElem?_eq_some_iff.mp U).1;have σ:ns.take (i+1)=ns.take i++[y]:=by
    rw[List.take_succ,U];rfl
   have L:cs.length<=40:=by
    have h1:=a.length_le;rw[Cj]at h1;omega
   refine⟨_,rfl,p,4,rfl,g.AE,by decide,by decide,λr H2 r0 r1 s2=>⟨_,rfl,_,_,rfl,rfl,_,rfl,?_⟩⟩;have d:=s2.at' e n;refine BP (λc=>?_) (λc=>?_)
   .refine⟨_,rfl,.inl ⟨rfl,_,AK.of d⟩,_,rfl,l,_,_,rfl,rfl,d,IK (m:=40) (by rw[AA];exact L) (by decide +kernel),?_⟩;exact⟨cs++[y],_,rfl,(g.trans s2).upd Je n,by rw[AZ,Cs];rfl,by rw[σ];exact a.append (ZCS _)⟩
   .exact⟨cs,_,rfl,g.trans s2,d,by rw[σ];exact a.trans (ZCo _ _)⟩
  .rintro σ' H'⟨cs,v,rfl,g,e,a⟩;rw[z,Ei]at a;exact⟨cs,v,rfl,g,e,a⟩
 rintro σ' H2⟨cs,v,rfl,J,d,a⟩;refine⟨(by show 3<=sizeLine;decide),λt1 MX=>?_⟩;have G:=J.AE.ne MX;have S:=CH MX (.tup (Gg.map V.str));have Y:=J.trans (BM.of J.AE S);refine⟨_,rfl,p,3,rfl,Y.AE,by decide,by decide,λj H4 j0 j1 s4=>?_⟩;obtain⟨r,xJ,Rm⟩:=bX j0 j1;refine⟨t1,_,_,_,rfl,rfl,Al.of (s4.at' AZ G),xJ,?_⟩;have I:=Y.trans s4;have q4:=I.at' b Af;refine⟨_,rfl,_,rfl,_,rfl,q,_,rfl,.inl (AK.of q4),_,_,rfl,rfl,p,_,rfl,I.AE,(by rw[z];omega),(by rw[z];omega),λgp H5 p0 p1 N=>?_⟩;rw[z]at p1;have B:=I.trans N;have e5:=N.at' (s4.at' (S _ _ d) n) n;have L:cs.length<=40:=CL a.length_le T;refine⟨_,rfl,l,false,cs,rfl,AK.of e5,by omega,λl2 o Bl FW Ef=>?_⟩;have C:=CH Bl (.lst (o.map V.str));refine⟨l2,_,rfl,.inl ⟨AK.of AZ,λc X=>?_⟩⟩;have R:=CH X (.tup (o.map V.str));refine⟨(by show 3<=sizeLine;decide),λt W=>?_⟩;have O:=CH W (.tup [.str r,.int gp,.ref c]);have g8:=B.trans (BM.of B.AE (C.trans (R.trans O)));have y3:o.Nodup:=FW.nodup_iff.mpr (nd.sublist a);refine K1 t c r gp o _ (B.none (AI.none (C.trans R) W)) (B.none (AI.none C X)) g8 AZ (O _ _ AZ) ⟨Rm,p0,by omega,XC Ef y3,λx hx=>a.subset (FW.mem_iff.mp hx),by rw[FW.length_eq];exact L⟩
def Iu:B6 ["pot","row","most","loops","k","loop","way","one","coming"] ["pot","row","most"] (AO Qp):=by walk_at "z1"
noncomputable abbrev Sc(l):=Scope.mk .function l false false []
def ZAp:=Sc [(".0",.local),("name",.local),("_law_take",.globalImplicit),("pot",.free)]
def uv:Cd ["pot","row","most","loops","k","loop","way","one","coming"] (AO Qp) ZAp "name" ["pot"] [0]:=by walk_at "z2"
def u9(F:AM K "_law_loops" "_law_loops" Qp f fd)(m:mg "_law_loops"=some (.ref f)):
  AF P w K mg Zl "_law_loops" 3 ["pot","row","most"] (Ad dH):=by
 refine Fz.hF (k:=2) F (by walk_at "bD3") m Iu (by rintro _ _⟨ns,m,rfl,_,J,nd,rfl⟩;rfl) λn=>⟨_,(AH rfl (Ai 3 Iu.nd (Cn A4))
   (AH rfl (CN (FH EB rfl (Hs rfl CM (A0 (AR B7 n (A0 (qv 0) (A0 (AW D7 (qv 2) A7) A4))) A4)) (Ci 4 Iu.nd) (AH rfl (Ai 5 Iu.nd (AR Ul n (A0 (qv 0) (A0 (qv 1) A4))))
   (AH rfl (Ai 6 Iu.nd (AR B7 n (A0 (qv 0) (A0 A7 A4))))
   (AH rfl (CN (BY (Mr (Ax DS (qv 6) A7) (P1 (Ax (SQ n.EX) (qv 3) (Cn A4)))).pt (AH rfl (Ai 7 Iu.nd (AV BO (qv 3) (AR B7 n (A0 (qv 0) (A0 (Ah Ba AN (A0 (qv 3) A4)) A4)))))
   (AH rfl (Lh (i:=8) Iu.nd rfl (Or.inl rfl) rfl uv (D5 (AV Bi (qv 7) A7)) (λ_ _ _ _=>by exact(K8 (Ax JD (AR B7 n (A0 (qv 0) (A0 A7 A4))) A7))) (λ_ _ _ _=>by exact(qv 1)))
   (AL rfl (Ai 5 Iu.nd (EM (A0 (AV Bi (qv 5) A7) (A0 (AV Bi (qv 5) A7) (A0 (Cu Rv ID (A0 (qv 8) A4)) A4)))))))) Bg))
   (AH rfl (CN (BY (Mr (Ax DS (qv 6) A7) (Mr (Ax (SQ n.EX) (qv 3) (Cn A4)) (P1 (Ax DS (AR B7 n (A0 (qv 0) (A0 A7 A4))) A7)))).pt (AL rfl (Ai 5 Iu.nd (EM (A0 (AV Bi (qv 5) A7) (A0 (AV Bi (qv 5) A7) (A0 (AV Bi (AV BO (qv 3) (AR B7 n (A0 (qv 0) (A0 (Ah Ba AN (A0 (qv 3) A4)) A4)))) A7) A4)))))) Bg))
   (AL rfl (Gi (Kq Lx ZD3 PySem.F.type_list_insert wW (qv 3) (A0 (AR B7 n (A0 (qv 0) (A0 (AW D7 (Ah Ba AN (A0 (qv 3) A4)) A7) A4))) (A0 (qv 5) A4)))))))))))
   (AL rfl (Am (qv 3))))),?_⟩
 rintro _ _⟨ns,m,rfl,V,J,nd,rfl⟩;show Ws [_,_,_,.any,.any,.any,.any,.any,.any] _ _ _
 walk_at "ww"
 refine⟨by simp,?_⟩;refine Ay (Dj (FP (λ_ i A6=>∃(Ls:List Lp)(s4 B A d a:Slot),A6=[.AE,.is (.lst (ns.map .str)),.is (.int m),.own (Ls.map Lp.P),s4,B,A,d,a]/\Ls.length=i/\∀l∈Ls,l.Good ns) ?_))
 walk_at "ww"
 refine⟨by omega,by omega,λr X h1=>⟨_,rfl,by omega,by omega,⟨[],_,_,_,_,_,rfl,rfl,by simp⟩,?_,?_⟩⟩
 .rintro i p A6 O⟨Ls,s4,B,A,d,a,rfl,hL,s⟩;obtain⟨hi,rfl⟩:=NJ O;refine GR ?_
  walk_at "ww"
  refine⟨J,nd,λI g cs gd W=>?_⟩
  walk_at "ww"
  refine⟨by decide,by decide,λo S R=>?_⟩;have Y:(Ls.map Lp.P).length<=12:=by rw[AA];omega
  refine Ke (λA6=>∃(l:Lp)(d a:Slot),A6=[.AE,.is (.lst (ns.map .str)),.is (.int m),.own (Ls.map Lp.P),.is (.int i),.is l.P,.is (.int o),d,a]/\l.Good ns) (Dj ?_) ?_
  .refine D2 (XE (k':=λb=>b=true->Ls≠[]) ?_ ?_)
   .walk_at "ww"
    refine BP (λc=>?_) (λc=>?_)
    .walk_at "ww"
     refine⟨by simp,_,.inl ⟨rfl,rfl,rfl,_,rfl,λh e=>?_⟩⟩;subst e;simp at h
    .walk_at "ww"
     exact λz=>by cases z
   .intro b E;refine BP (λc=>?_) (λc=>C0 ⟨⟨I,g,cs⟩,_,_,rfl,gd⟩);have H:=E c;have L:0<(Ls.map Lp.P).length:=by rw[AA];exact List.length_pos_iff.mpr H
    walk_at "ww"
    refine⟨by omega,by omega,λq D C=>?_⟩;obtain⟨q,rfl⟩:=YO D;have u:q<Ls.length:=by rw[AA]at C;omega
    refine⟨_,Ls[q].P,rfl,D4 (by rw[AS,AQ u];rfl),?_⟩;have t:CD ns Ls[q].r Ls[q].g Ls[q].cs:=s _ (Gs u);have v:=CD.len t;refine Ay (En (ZBy ?_))
    walk_at "ww"
    refine⟨by rw[AA];omega,λx hx=>?_,λx hx=>A5 rfl rfl,λys Gk=>?_⟩
    .walk_at "ww"
     exact⟨by decide,by decide,λr _ _=>⟨_,rfl,C6 ⟨_,rfl,_,rfl,trivial⟩⟩⟩
    .obtain⟨ds,Zb,rfl⟩:=List.sublist_map_iff.mp Gk
     walk_at "ww"
     exact⟨by simp,⟨I,g,ds⟩,_,_,rfl,gd.rule,gd.g0,gd.g1,jE Zb t.up,λy N=>t.sub y (Zb.subset N)⟩
  .rintro _⟨l,d,a,rfl,v⟩;refine Ke (λA6=>∃(l:Lp)(d a:Slot),A6=[.AE,.is (.lst (ns.map .str)),.is (.int m),.own (Ls.map Lp.P),.is (.int i),.is l.P,.is (.int o),d,a]/\l.Good ns) (Dj ?_) ?_
   .refine D2 (XE (k':=λb=>b=true->Ls≠[]) ?_ ?_)
    .walk_at "ww"
     refine BP (λc=>?_) (λc=>?_)
     .walk_at "ww"
      refine⟨by simp,_,.inl ⟨rfl,rfl,rfl,_,rfl,?_⟩⟩;refine BP (λQ=>XE (k':=λ_=>True) ?_ λb _ _ e=>?_) (λ_ z=>by cases z)
      .walk_at "ww"
       exact⟨by decide,by decide,λr _ _=>C6 ⟨rfl,_,rfl,trivial⟩⟩
      .subst e;simp at Q
     .walk_at "ww"
      exact λz=>by cases z
    .intro b E;refine BP (λc=>?_) (λc=>C0 ⟨l,_,_,rfl,v⟩);have H:=E c;have L:0<(Ls.map Lp.P).length:=by rw[AA];exact List.length_pos_iff.mpr H
     walk_at "ww"
     refine⟨by omega,by omega,λq D C=>?_⟩;obtain⟨q,rfl⟩:=YO D;have u:q<Ls.length:=by rw[AA]at C;omega
     have t:CD ns Ls[q].r Ls[q].g Ls[q].cs:=s _ (Gs u);have G:CD ns l.r l.g l.cs:=v;refine⟨_,Ls[q].P,rfl,D4 (by rw[AS,AQ u];rfl),_,.inr ⟨rfl,rfl,?_⟩⟩
     walk_at "ww"
     exact⟨by simp,⟨l.r,l.g,Ls[q].cs⟩,_,_,rfl,G.rule,G.g0,G.g1,t.up,t.sub⟩
   .rintro _⟨l,d,a,rfl,v⟩;refine bE rfl ?_
    walk_at "ww"
    refine⟨by omega,by omega,λj M U=>⟨_,rfl,M,by omega,A5 rfl ⟨by omega,Ls.take j.toNat++l::Ls.drop j.toNat,.is (.int i),.is l.P,.is (.int o),d,a,?_,?_,λT E8=>?_⟩⟩⟩
    .rw[Cs,DG,List.map_take,YX];rfl
    .rw[BF,Az,Cj,Dl];omega
    .rcases List.mem_append.mp E8 with h|h
     .exact s _ (T9 h)
     .rcases List.mem_cons.mp h with h|h
      .subst h;exact v
      .exact s _ (Ya h)
 .rintro A6⟨Ls,s4,B,A,d,a,rfl,hL,s⟩;refine Qb rfl ⟨Ls,rfl,?_,s⟩;rw[hL,JZ];omega
def oP:B6 ["row","gap"] ["row","gap"] (AO XF):=by walk_at "z1"
def xE(F:AM K "is_gap" "is_gap" XF f fd)(m:mg "is_gap"=some (.ref f)):
  AF P w K mg Zl "is_gap" 1 ["row","gap"] (gZ K):=by
 refine AF.mk F (F.binds (by walk_at "bD2")) m (F.El (k:=0) oP (λvs H Q E h=>?_) (λAk A outer s H vs Q E i h=>?_))
 .obtain⟨a,tp,ns,g,rfl,b,q⟩:=h;rfl
 obtain⟨a,tp,ns,g,rfl,b,q⟩:=h;refine⟨_,(AL rfl (Am (cG Mm Mm A7 (qv 1) (Ah Mp AN (A0 (qv 0) A4))))),?_⟩;have d:=Lw.Q0 ns;refine⟨_,rfl,_,_,rfl,rfl,_,rfl,?_⟩;refine BP (λc=>?_) (λc=>?_)
 .refine⟨_,rfl,a,_,rfl,b.or,_,_,rfl,rfl,?_⟩;rw[d];have e:L3 ns.length g=decide (g<=(ns.length:Int)):=by unfold L3;rw[c];rfl
  show Q (.bl (decide (g<=(ns.length:Int)))) H;rw[<- e];exact q
 .have e:L3 ns.length g=false:=by unfold L3;rw[Bool.eq_false_iff.mpr c];rfl
  show Q (.bl false) H;rw[<- e];exact q
def rL:B6 ["row","coming"] ["row","coming"] (AO SM):=by walk_at "z1"
def ud:=Sc [(".0",.local),("name",.local),("row",.free)]
def oR:Cd ["row","coming"] (AO SM) ud "name" ["row"] [0]:=by walk_at "z2"
def vy(F:AM K "is_coming" "is_coming" SM f fd)(m:mg "is_coming"=some (.ref f)):
  AF P w K mg Zl "is_coming" 1 ["row","coming"] (d3 K):=by
 refine AF.mk F (F.binds (by walk_at "bD2")) m (F.El (k:=0) rL (λvs H Q E h=>?_) (λAk A outer s H vs Q E B h=>?_))
 .obtain⟨a,tp,ns,c,ss,rfl,o,hC,By,q⟩:=h;rfl
 obtain⟨a,tp,ns,c,ss,rfl,o,hC,By,q⟩:=h;refine⟨_,(AL rfl (Am (LI (GI (Mw B.EX) (Cu HF DC (A0 (qv 1) A4)) (Ah (uV rfl) CI (A0 (Cu (OS rfl) FR (A0 (qv 1) A4)) A4))) (LM (Ah (P6 rfl) Ek (A0 (Ft rfl oR (D5 (qv 1)) (λ_ _ _ _=>by exact G7) (λ_ _ _ _=>by exact(GI (show B0 _ (compareOp .In) (Hn K false)from OG) (qv 1) (qv 0)))) A4)))))),?_⟩;have C:=Lw.Q0 ss;refine⟨_,rfl,c,_,rfl,.inr hC,λl1 Ed=>?_⟩;have n:=CH Ed (.lst (ss.map V.str));refine⟨_,rfl,c,true,ss,rfl,n.VG hC,by omega,λl2 Bl=>?_⟩;have l:=CH Bl (DD P w l2 (λk'=>(dd ss).any (· == k')) (dd ss).length)
 refine⟨l2,_,_,rfl,AZ,by have:=Xg ss;omega,λu b t e1 G D=>?_⟩;have j:=CH t (.lst (b.map V.str));have d:=n.trans (l.trans j);refine⟨l1,u,_,_,rfl,rfl,.inl ⟨AK.of (j _ _ (l _ _ AZ)),AK.of AZ⟩,Ib ss,Ib b,_,rfl,?_⟩;have z:FE (ss.map V.str) (b.map V.str)=Jt ss:=by rw[vL];unfold Jt;rw[decide_eq_decide];exact zD e1 G D
 show if FE (ss.map V.str) (b.map V.str)=true then _ else _
 rw[z];refine BP (λg=>?_) (λg=>?_)
 .have r:=d.VG hC;refine⟨_,rfl,true,c,_,rfl,r,λacc BB=>zI (tp:=true) (λ_=>true) (λv=>.bl (Jm v (ns.map V.str))) r BB (by rw[C];exact small (by omega)) (λi v H' Q' _ _ h=>h H' (AI.refl _)) (λi v H' Q' y _ s4 h=>?_) (λH' s4 p=>?_)⟩
  .obtain⟨x,rfl,I⟩:=qu y;exact⟨_,rfl,_,rfl,a,_,rfl,((d.trans s4).sq o).or,rfl,Ib ns,h _ (AI.refl _)⟩
  .rw[uN]at p;refine⟨acc,_,rfl,AK.of p,?_⟩;rw[all_map];have e:(Jt ss && JY ns ss)=JY ns ss:=by rw[g];rfl
   show Q (.bl (JY ns ss)) H';rw[<- e];exact q _ (d.trans s4)
 .have e:(Jt ss && JY ns ss)=false:=by rw[Bool.eq_false_iff.mpr g];rfl
  rw[<- e];exact q _ d
def oI:B6 ["row","thing"] ["row","thing"] (AO VM):=by walk_at "z1"
def x4(F:AM K "is_loop" "is_loop" VM f fd)(m:mg "is_loop"=some (.ref f)):
  AF P w K mg Zl "is_loop" 2 ["row","thing"] (cJ K):=by
 refine AF.mk F (F.binds (by walk_at "bD2")) m (F.El (k:=1) oI (λvs H Q E h=>?_) (λAk A outer s H vs Q E l h=>?_))
 .obtain⟨a,tp,ns,t,r,g,ss,rfl,i,⟨c,b,hC⟩,By,q⟩:=h;rfl
 obtain⟨a,tp,ns,t,r,g,ss,rfl,i,⟨c,b,hC⟩,By,q⟩:=h;refine⟨_,(AL rfl (Am (LI (GI OG (AV Bi (qv 1) A7) (cQ (v:=.ref KH) (by rfl) Vo rfl)) (LI (AR XR l (A0 (qv 0) (A0 (AV Bi (qv 1) A7) A4))) (LM (AR Tq l (A0 (qv 0) (A0 (AV Bi (qv 1) A7) A4)))))))),?_⟩;refine⟨_,rfl,t,_,_,_,rfl,rfl,b,rfl,KH,_,rfl,.inr (U2 H),rfl,rfl,_,rfl,?_⟩;have n:Jm (.str r) (Gg.map V.str)=decide (r∈Gg):=Ry r Gg;show if Jm (.str r) (Gg.map V.str)=true then _ else _
 rw[n];refine BP (λd=>?_) (λd=>?_)
 .refine⟨_,rfl,_,rfl,t,_,_,_,rfl,rfl,b,rfl,a,tp,ns,g,rfl,i,_,rfl,?_⟩;refine BP (λj=>?_) (λj=>?_)
  .refine⟨_,rfl,_,rfl,t,_,_,_,rfl,rfl,b,rfl,a,tp,ns,c,ss,rfl,i,hC,By,λH' s'=>?_⟩;have e:Fi ns r g ss=(Jt ss && JY ns ss):=by unfold Fi;rw[d,j];rfl
   rw[<- e];exact q _ s'
  .have e:Fi ns r g ss=false:=by unfold Fi;rw[d,Bool.eq_false_iff.mpr j];rfl
   rw[<- e];exact q _ (AI.refl _)
 .have e:Fi ns r g ss=false:=by unfold Fi;rw[Bool.eq_false_iff.mpr d];rfl
  rw[<- e];exact q _ (AI.refl _)
def lH:B6 ["row","loop"] ["row","loop"] (AO WV):=by walk_at "z1"
def wG(F:AM K "check_loop" "check_loop" WV f fd)(m:mg "check_loop"=some (.ref f)):
  AF P w K mg Zl "check_loop" 3 ["row","loop"] (Ve K):=by
 refine AF.mk F (F.binds (by walk_at "bD2")) m (F.El (k:=2) lH (λvs H Q E h=>?_) (λAk A outer s H vs Q E c h=>?_))
 .obtain⟨a,tp,ns,t,r,g,ss,rfl,b,hL,By,ok,q⟩:=h;rfl
 obtain⟨a,tp,ns,t,r,g,ss,rfl,b,hL,By,ok,q⟩:=h;refine⟨_,(AL rfl (BY (Jl (Jo (AR XW c (A0 (qv 0) (A0 (qv 1) A4))))) (AL rfl bR) Bg)),?_⟩;refine⟨_,rfl,_,rfl,a,tp,ns,t,r,g,ss,rfl,b,hL,By,λH' s1=>⟨_,rfl,?_⟩⟩;refine ZW (by rw[ok];decide) ?_;exact q _ s1
def Zn:B6 ["row","loops","loop"] ["row","loops"] (AO XG):=by walk_at "z1"
def um(F:AM K "check_loops" "check_loops" XG f fd)(m:mg "check_loops"=some (.ref f)):
  AF P w K mg Zl "check_loops" 4 ["row","loops"] (Ad Uz):=by
 refine Fz.hF (k:=3) F (by walk_at "bD2") m Zn (by rintro _ _⟨tp,ns,a,Ls,rfl,d,h,c,rfl⟩;rfl) λe=>⟨_,(AH rfl (BY (Ax JD (Ah Ba AN (A0 (qv 1) A4)) (cQ (v:=.int 12) (by rfl) Xr ⟨_,rfl⟩)) (AL rfl bR) Bg)
   (AL rfl (FH EB rfl (D5 (qv 1)) (Ci 2 Zn.nd) (AL rfl (Gi (AR YF e (A0 (qv 0) (A0 (qv 2) A4)))))))),?_⟩
 rintro _ _⟨tp,ns,a,Ls,rfl,d,h,c,rfl⟩;show Ws [_,_,.any] _ _ _
 walk_at "ww"
 refine ZW (by rw[AA];simp;omega) (C0 ?_);refine FP (λ_ i A6=>∃s,A6=[.sq tp (ns.map .str),.sq a (Ls.map Lp.P),s]) ?_
 walk_at "ww"
 refine⟨⟨_,rfl⟩,?_,?_⟩
 .rintro i p A6 b⟨s,rfl⟩;rw[AS]at b;obtain⟨l,E8,rfl⟩:=Option.map_eq_some_iff.mp b;have g:=c l (Bc E8);have:=CD.len g;refine GR ?_;refine Uu (yo ?_)
  walk_at "ww"
  refine⟨by omega,CD.Fi g,⟨_,rfl⟩⟩
 .rintro A6⟨s,rfl⟩;exact⟨_,rfl,rfl⟩
def Wc:B6 ["number","above","lower_of","tried","upper"] ["number","above","lower_of","tried"] (AO RU):=by walk_at "z1"
def qN(n:Nat)(F:AM K "finds_upper" "finds_upper" RU f fd)(m:mg "finds_upper"=some (.ref f))(Js:AF P w K mg Zl "finds_upper" (1+n) ["number","above","lower_of","tried"] (Ey (L5 (n)))):
  AF P w K mg Zl "finds_upper" (1+n+1) ["number","above","lower_of","tried"] (Ey (L5 (n+1))):=by
 refine Fz.hM (k:=1+n) F (by walk_at "bD4") m Wc (by rintro _ _⟨ab,m,v,lo,s,tr,a2,rfl,_⟩;rfl) λy=>⟨_,(AH rfl (CN (FH EB rfl (D5 (AV BO (qv 1) (qv 0))) (Ci 4 Wc.nd) (AL rfl (BY (i9 (OO y) (qv 4) (qv 3)) (AH rfl (az (OO y) (qv 3) (qv 4) Ds)
   (AL rfl (BY (Iy (Ax ZAC (AV BO (qv 2) (qv 4)) Xp) (IZ (Jo (AR (hk:=by omega) Js y (A0 (AV BO (qv 2) (qv 4)) (A0 (qv 1) (A0 (qv 2) (A0 (qv 3) A4)))))))).pt (AH rfl (IV (qv 0) (Nv (qv 2) (qv 4) set_list))
   (AL rfl (Am Ds))) Bg))) Bg))))
   (AL rfl (Am Ds))),?_⟩
 rintro _ R⟨ab,m,v,lo,s,tr,a2,rfl,ok,H⟩;show Ws [.is (nP v),.is (DJ ab m),s,.ow true (DB a2 tr),.any] _ _ _;have A:Kz.fu ab (n+1) v lo tr=Kz.CB ab n v (ab v) lo tr:=by rw[Kz.fu]
 have E:∀{s2:Slot}{u:Nat}{T:List Nat}{nx:List Slot->Prop}{R:Ao},D3 (n+1) ab m v lo T->u∉T->nx [.is (nP v),.is (DJ ab m),s2,.ow true (DB a2 (T++[u])),.is (nP u)]->Ws [.is (nP v),.is (DJ ab m),s2,.ow true (DB a2 T),.is (nP u)] (SF (Ap 3) (Ap 4) (tC (.bl true))) nx R:=λ{s2 u T nx R}D0 a h=>by
  refine hX (i:=3) (ax (Dp (HA rfl ⟨true,a2,Cv T,_,rfl,rfl,by rw[AA];have:=D0.le;omega,iw D0.nd,BH,A5 rfl ⟨.inl (u:Int),rfl,?_⟩⟩)));rw[OV.Ny,qk a];exact h
 rcases H with⟨a1,rfl,rfl⟩|⟨rfl,st,rfl⟩
 .refine Ay (Dj (FP (λxs i A6=>∃(T:List Nat)(s4:Slot),A6=[.is (nP v),.is (DJ ab m),.ow true (Fl a1 lo),.ow true (DB a2 T),s4]/\D3 (n+1) ab m v lo T/\Kz.CB ab n v ((ab v).drop i) lo T=Kz.CB ab n v (ab v) lo tr) (DR (CY (DL (Aq rfl ⟨rfl,A5 rfl ⟨_,_,rfl,ok.at,?_⟩⟩))))));refine⟨_,.inl ⟨rfl,⟨tr,_,rfl,ok,rfl⟩,?_,?_⟩⟩
  .rintro i p A6 t⟨T,s4,rfl,D0,c⟩;rw[AS]at t;obtain⟨u,x,rfl⟩:=Option.map_eq_some_iff.mp t;have l:=Bc x;rw[bT x]at c;refine GR ?_;show Ws [.is (nP v),.is (DJ ab m),.ow true (Fl a1 lo),.ow true (DB a2 T),.is (nP u)] _ _ _;refine D2 (GY (gk (A5 rfl (HA (i:=3) rfl ⟨_,a2,_,.inl (u:Int),rfl,rfl,_,rfl,?_⟩))));rw[O9]
   by_cases a:u∈T
   .rw[kc a,mD (by decide)];exact C0 ⟨T,_,rfl,D0,by rw[<- c,gL a]⟩
   rw[oO a,p7 (by decide)];refine Ay (E D0 a ?_);obtain⟨o,e1,g,J⟩:=sQ (lo:=lo) (u:=u) (by rw[D0.len];exact D0.ab v u l);have r:∀{k:PV->Prop},k (CG o)->Wp [.is (nP v),.is (DJ ab m),.ow true (Fl a1 lo),.ow true (DB a2 (T++[u])),.is (nP u)] (Au (DE K) (Ap 2) (Ap 4)) k:=λh=>M6 (ND (HA (i:=2) rfl ⟨a1,_,rfl,A5 rfl ⟨(u:Int),u,.fz (CG o),rfl,XM (by rw[AA];exact(List.getElem?_eq_some_iff.mp e1).1),by rw[AS,e1];rfl,_,rfl,h⟩⟩));have fin:∀{BU:Kz.Lo}{T':List Nat},BU.length=m->Kz.CB ab n v (u::(ab v).drop (i+1)) lo T=(true,BU.set u (some v),T')->Ws [.is (nP v),.is (DJ ab m),.ow true (Fl a1 BU),.ow true (DB a2 T'),.is (nP u)] (N1 (EH (Ap 0) (Nl (Ap 2) (Ap 4) RT)) (Fb (tC (.bl true)))) (λA6=>∃(T:List Nat)(s4:Slot),A6=[.is (nP v),.is (DJ ab m),.ow true (Fl a1 lo),.ow true (DB a2 T),s4]/\D3 (n+1) ab m v lo T/\Kz.CB ab n v ((ab v).drop (i+1)) lo T=Kz.CB ab n v (ab v) lo tr) (.Jj λp t1 t2=>p=.bl (Kz.fu ab (n+1) v lo tr).1/\t1=Fl a1 (Kz.fu ab (n+1) v lo tr).2.1/\t2=DB a2 (Kz.fu ab (n+1) v lo tr).2.2):=λ{BU T'}G I=>by
    refine Ay (pR (i:=2) (A5 rfl (HA rfl ⟨true,a1,_,rfl,rfl,A5 rfl ⟨u,rfl,by rw[AA,G];exact D0.ab v u l,?_⟩⟩)));rw[OV.Ny,oV];refine ip (i:=2) (j:=3) (by decide) rfl rfl (Dp ?_);rw[A,<- c,I];exact⟨rfl,rfl,rfl⟩
   refine m9 (t1:=Fl a1 lo) (t2:=DB a2 (T++[u])) (new:=λC B=>[.is (nP v),.is (DJ ab m),.ow true C,.ow true B,.is (nP u)]) (ZAz rfl (Ec (eh (r (M7 ⟨rfl,_,rfl,?_⟩)))));rw[pD];cases o with
   |none=>
    rw[p7 (by rfl),p7 rfl];exact fin D0.len (rP a g)
   |some w=>
    rw[mD (λz=>by cases z)];have e:=D0.sub l a g;refine ZAf (pK (i:=2) (j:=3) (q:=0) (b:=false) (by decide) rfl rfl (λz=>by cases z) (iX (r (iX (A5 rfl (wu (n:=2) rfl (.inl ⟨_,_,_,rfl⟩) (lI (n:=3) rfl (.inl ⟨_,_,_,rfl⟩) (ZA3 ⟨_,⟨ab,m,w,lo,_,T++[u],a2,rfl,e,.inl ⟨a1,rfl,rfl⟩⟩,?_⟩))))))));rintro p C B⟨rfl,rfl,rfl⟩;refine⟨rfl,rfl,_,rfl,?_⟩;cases d:(Kz.fu ab n w lo (T++[u])).1 with
    |true=>
     rw[p7 rfl];exact fin (e.yes d) (xF a g d)
    |false=>
     rw[mD (by decide),(e.fin d).1];exact C0 ⟨_,_,rfl,D0.next e d,by rw[<- c,iK a g d (e.fin d).1]⟩
  .rintro A6⟨T,s4,rfl,D0,c⟩;rw[AA,jF,Kz.CB]at c;refine ip (i:=2) (j:=3) (by decide) rfl rfl (Dp ?_);rw[A,<- c];exact⟨rfl,rfl,rfl⟩
 .refine Ay (Dj (FP (λxs i A6=>∃(T:List Nat)(s4:Slot),A6=[.is (nP v),.is (DJ ab m),.is (.lst (lo.map CG)),.ow true (DB a2 T),s4]/\D3 (n+1) ab m v lo T/\Kz.CB ab n v ((ab v).drop i) lo T=Kz.CB ab n v (ab v) lo tr) (DR (CY (DL (Aq rfl ⟨rfl,A5 rfl ⟨_,_,rfl,ok.at,?_⟩⟩))))));refine⟨_,.inl ⟨rfl,⟨tr,_,rfl,ok,rfl⟩,?_,?_⟩⟩
  .rintro i p A6 t⟨T,s4,rfl,D0,c⟩;rw[AS]at t;obtain⟨u,x,rfl⟩:=Option.map_eq_some_iff.mp t;have l:=Bc x;rw[bT x]at c;refine GR ?_;show Ws [.is (nP v),.is (DJ ab m),.is (.lst (lo.map CG)),.ow true (DB a2 T),.is (nP u)] _ _ _;refine D2 (GY (gk (A5 rfl (HA (i:=3) rfl ⟨_,a2,_,.inl (u:Int),rfl,rfl,_,rfl,?_⟩))));rw[O9]
   by_cases a:u∈T
   .rw[kc a,mD (by decide)];exact C0 ⟨T,_,rfl,D0,by rw[<- c,gL a]⟩
   rw[oO a,p7 (by decide)];refine Ay (E D0 a ?_);obtain⟨w,g,D⟩:=vS st l;have e1:(lo.map CG)[u]?=some (.int w):=by rw[AS,Kz.join_some g];rfl
   have r:∀{k:PV->Prop},k (.int w)->Wp [.is (nP v),.is (DJ ab m),.is (.lst (lo.map CG)),.ow true (DB a2 (T++[u])),.is (nP u)] (Au (DE K) (Ap 2) (Ap 4)) k:=λh=>DL (Aq rfl ⟨rfl,A5 rfl ⟨_,_,rfl,D4 e1,h⟩⟩);refine ug (i:=3) (ni rfl (Ec (eh (r (M7 ⟨rfl,_,rfl,?_⟩)))));rw[mD (λz=>by cases z)];have e:=D0.sub l a g;have d:=e.stuck D;refine me (j6 rfl (Mb (r (Mb (A5 rfl (Mb (A5 rfl (eY rfl (Yt ⟨_,⟨ab,m,w,lo,_,T++[u],a2,rfl,e,.inr ⟨rfl,D,rfl⟩⟩,?_⟩)))))))));rintro p t'⟨rfl,rfl⟩;refine⟨_,_,rfl,_,rfl,?_⟩;rw[mD (by decide)];exact C0 ⟨_,_,rfl,D0.next e d,by rw[<- c,iK a g d (e.fin d).1]⟩
  .rintro A6⟨T,s4,rfl,D0,c⟩;rw[AA,jF,Kz.CB]at c;refine yF (i:=3) rfl (Dp ?_);rw[A,<- c];exact⟨rfl,rfl⟩
def ZAP(F:AM K "finds_upper" "finds_upper" RU f fd)(m:mg "finds_upper"=some (.ref f)): AF P w K mg Zl "finds_upper" 14 ["number","above","lower_of","tried"] (Ey (L5 13)):=by
 have z:∀n:Nat,AF P w K mg Zl "finds_upper" (1+n) ["number","above","lower_of","tried"] (Ey (L5 (n))):=λn=>by
  induction n with
  |zero=>exact AF.mk F (F.binds (by walk_at "bD4")) m (F.El (k:=0) Wc (λvs H Q E h=>(Fz.dW (c7) h).elim) (λAk A outer s H vs Q E b h=>(Fz.dW (c7) h).elim))
  |succ n a=>exact qN  n F m a
 exact z 13
def US:B6 ["above","lower_of","number"] ["above"] (AO RD):=by walk_at "z1"
def wx:=Sc [(".0",.local),("uppers",.local)]
def kX:Cd ["above","lower_of","number"] (AO RD) wx "uppers" [] []:=by walk_at "z2"
def zS(F:AM K "greatest_pairing" "greatest_pairing" RD f fd)(m:mg "greatest_pairing"=some (.ref f))(Js:AF P w K mg Zl "finds_upper" 14 ["number","above","lower_of","tried"] (Ey (L5 13))):
  AF P w K mg Zl "greatest_pairing" 15 ["above"] (Ad gK):=by
 refine Fz.hF (k:=14) F (by walk_at "bD1") m US (by rintro _ _⟨ab,m,rfl,_,rfl⟩;rfl) λb=>⟨_,(AH rfl (Lh (i:=1) US.nd rfl (Or.inl rfl) rfl kX (D5 (qv 0)) (λ_ _ _ _=>by exact G7) (λ_ _ _ _=>by exact Xp))
   (AH rfl (CN (FH EB rfl (Hs rfl CM (A0 (Ah Ba AN (A0 (qv 0) A4)) A4)) (Ci 2 US.nd) (AL rfl (Gi (AR Js b (A0 (qv 2) (A0 (qv 0) (A0 (qv 1) (A0 VV A4)))))))))
   (AL rfl (Am (qv 1))))),?_⟩
 rintro _ _⟨ab,m,rfl,ok,rfl⟩;show Ws [.is (DJ ab m),.any,.any] _ _ _;have g:=ok.FV;refine Ay (En (WI (λ_=>true) (λ_=>PV.A9) (DR (CY (A5 rfl ⟨_,.inl ⟨rfl,by rw[AA,Cc];omega,λ_ _=>G2 rfl,λ_ _ _=>M7 rfl,?_⟩⟩)))));rw[List.filter_eq_self.mpr λ_ _=>rfl,CJ,show((List.range m).map ((λ_=>PV.A9) ∘ λv=>PV.lst ((ab v).map nP)))=(Kz.gp ab m 13 0).map CG by rw[Kz.gp,List.map_replicate];exact List.map_const' .. |>.trans (by rw[Cc];rfl)];refine tj 1 rfl λa=>?_;show Ws [.is (DJ ab m),.ow false (Fl a (Kz.gp ab m 13 0)),.any] _ _ _;refine Ay (Dj (FP (λ_ i A6=>∃s2,A6=[.is (DJ ab m),.ow false (Fl a (Kz.gp ab m 13 i)),s2]) (Kw (G0 (Aq rfl ⟨(m:Int),by rw[AA,Cc],by omega,by omega,⟨_,rfl⟩,?_,?_⟩)))))
 .rintro i p A6 c⟨s2,rfl⟩;obtain⟨hi,rfl⟩:=NJ c;rw[GG]at hi;refine GR ?_;refine xQ (i:=1) rfl (A5 rfl (A5 rfl λa2=>⟨_,⟨ab,m,i,_,_,[],a2,rfl,ZC7 ok hi,.inl ⟨a,rfl,rfl⟩⟩,?_⟩));rintro p e d⟨rfl,rfl,rfl⟩;exact⟨rfl,rfl,_,rfl⟩
 .rintro A6⟨s2,rfl⟩;rw[JZ,GG];refine rK 1 rfl (Qb (i:=1) rfl rfl)
def uY:B6 ["loop","other"] ["loop","other"] (AO Y1):=by walk_at "z1"
def yM(F:AM K "has_all_of" "has_all_of" Y1 f fd)(m:mg "has_all_of"=some (.ref f)):
  AF P w K mg Zl "has_all_of" 1 ["loop","other"] (Ad Ua):=by
 refine Fz.hF (k:=0) F (by walk_at "bD2") m uY (by rintro _ _⟨l1,l2,rfl,_,_,rfl⟩;rfl) λo=>⟨_,(AL rfl (Am (GI DS (Ah tL AN (A0 (AW ZA9 (Cu (OS rfl) FR (A0 (AV Bi (qv 1) A7) A4)) (Cu (OS rfl) FR (A0 (AV Bi (qv 0) A7) A4))) A4)) A7))),?_⟩
 rintro _ _⟨⟨e,g1,c⟩,⟨d,i,b⟩,rfl,h,g,rfl⟩;have l:c.length<=40:=h;have j:b.length<=40:=g;show Ws [.is (.tup [.str e,.int g1,.tup (c.map .str)]),.is (.tup [.str d,.int i,.tup (b.map .str)])] _ _ _;refine CO (gR (wU ?_))
 walk_at "ww"
 refine⟨by omega,?_⟩
 walk_at "ww"
 refine⟨by omega,λn a=>?_⟩
 walk_at "ww"
 exact pZ PV.bl (decide_eq_decide.mpr ⟨λz=>a.mp (Int.ofNat_inj.mp z),λz=>by rw[a.mpr z];rfl⟩)
def oU:B6 ["loops","number","upper"] ["loops","number","upper"] (AO UD):=by walk_at "z1"
def l6(F:AM K "is_above" "is_above" UD f fd)(m:mg "is_above"=some (.ref f)):
  AF P w K mg Zl "is_above" 2 ["loops","number","upper"] (Ad dZ):=by
 refine Fz.hF (k:=1) F (by walk_at "bD3") m oU (by rintro _ _⟨Ls,n,u,rfl,_,_,_,rfl⟩;rfl) λh=>⟨_,(AH rfl (BY (Ax (Mw h.EX) (AV Bi (AV BO (qv 0) (qv 1)) A7) (AV Bi (AV BO (qv 0) (qv 2)) A7)) (AL rfl (Am (GI LA (qv 1) (qv 2)))) Bg)
   (AL rfl (Am (AR LS h (A0 (AV BO (qv 0) (qv 2)) (A0 (AV BO (qv 0) (qv 1)) A4)))))),?_⟩
 rintro _ _⟨Ls,n,u,rfl,q,p,o,rfl⟩;obtain⟨a,ea⟩:∃a,Ls[n]?=some a:=⟨_,AQ p⟩;obtain⟨b,d⟩:∃b,Ls[u]?=some b:=⟨_,AQ o⟩;have l:=q.2 a (Bc ea);have j:=q.2 b (Bc d);have g:BZ (Ls.map Lp.P) (n:Int)=some a.P:=D4 (by rw[AS,ea];rfl);have e:BZ (Ls.map Lp.P) (u:Int)=some b.P:=D4 (by rw[AS,d];rfl);have i:HC Ls n u=if a.cs=b.cs then decide (n<u)else decide (EA b a):=by unfold HC;rw[ea,d]
 show Ws [.is (.lst (Ls.map Lp.P)),.is (.int n),.is (.int u)] _ _ _
 walk_at "ww"
 refine⟨_,_,rfl,g,_,.inr ⟨rfl,rfl,C6 ⟨_,_,rfl,rfl,?_⟩⟩⟩
 walk_at "ww"
 refine⟨_,_,rfl,e,_,.inr ⟨rfl,rfl,C6 ⟨_,_,rfl,rfl,?_⟩⟩⟩
 walk_at "ww"
 refine BP (λc=>?_) (λc=>?_)
 .rw[i,p7 (pU c)]
  walk_at "ww"
  exact pZ PV.bl (decide_eq_decide.mpr Int.ofNat_lt)
 .rw[i,mD λz=>c (kc z)]
  walk_at "ww"
  refine CO (wp_call (Ag (DL (Aq rfl ⟨rfl,A5 rfl ⟨_,_,rfl,e,Ag (DL (Aq rfl ⟨rfl,A5 rfl ⟨_,_,rfl,g,Bp ⟨_,⟨b,a,rfl,j,l,rfl⟩,?_⟩⟩⟩))⟩⟩))));rintro _ rfl;rfl
def o6:B6 ["loops","number"] ["loops","number"] (AO Pn):=by walk_at "z1"
def sT:=Sc [(".0",.local),("upper",.local),("is_above",.globalImplicit),("loops",.free),("number",.free)]
def kI:Cd ["loops","number"] (AO Pn) sT "upper" ["loops","number"] [0,1]:=by walk_at "z2"
def sV(F:AM K "numbers_above" "numbers_above" Pn f fd)(m:mg "numbers_above"=some (.ref f)):
  AF P w K mg Zl "numbers_above" 3 ["loops","number"] (Ad cF):=by
 refine Fz.hF (k:=2) F (by walk_at "bD2") m o6 (by rintro _ _⟨Ls,n,rfl,_,_,rfl⟩;rfl) λb=>⟨_,(AL rfl (Am (Ft rfl kI (Hs rfl CM (A0 (Ah Ba AN (A0 (qv 0) A4)) A4)) (λ_ _ _ _=>by exact(K8 (Jo (AR TX b (A0 (qv 0) (A0 (qv 1) (A0 (qv 2) A4))))))) (λ_ _ _ _=>by exact(qv 2))))),?_⟩
 rintro _ _⟨Ls,n,rfl,q,c,rfl⟩;have e:=q.1;show Ws [.is (.lst (Ls.map Lp.P)),.is (.int n)] _ _ _;refine Fs (EL (λu:Nat=>PV.int u) (HC Ls n) (λu:Nat=>PV.int u) (Kw (G0 (Aq rfl ⟨(Ls.length:Int),by rw[AA],by omega,by omega,List.range Ls.length,rfl,by rw[Cc];omega,λu a=>?_,λu _ _=>A5 rfl rfl,rfl⟩))) Rt);have d:=List.mem_range.mp a
 walk_at "ww"
 show Wp [.is (.lst (Ls.map Lp.P)),.is (.int n),.is (.int u)] _ _;refine wp_call (Ag (A5 rfl (Ag (A5 rfl (Ag (A5 rfl (Bp ⟨_,⟨Ls,n,u,rfl,q,c,d,rfl⟩,?_⟩)))))));rintro _ rfl;exact⟨_,rfl,rfl⟩
def dq:B6 ["lower_of","top","chain"] ["lower_of","top"] (AO X5):=by walk_at "z1"
def qV(F:AM K "chain_down" "chain_down" X5 f fd)(m:mg "chain_down"=some (.ref f)):
  AF P w K mg Zl "chain_down" 1 ["lower_of","top"] (Ad iB):=by
 refine Fz.hF (k:=0) F (by walk_at "bD2") m dq (by rintro _ _⟨lo,top,ch,rfl,_,_,_,rfl⟩;rfl) λj=>⟨_,(AH rfl (Ai 2 dq.nd (Cn (A0 (qv 1) A4)))
   (AH rfl (CN (S7 EB (Ax kP (AV BO (qv 0) (AV BO (qv 2) (QQ RE A7))) Xp) (AL rfl (Gi (Kq Lx Pj Pk MR (qv 2) (A0 (AV BO (qv 0) (AV BO (qv 2) (QQ RE A7))) A4))))))
   (AL rfl (Am (qv 2))))),?_⟩
 rintro _ _⟨lo,top,ch,rfl,g,hd,p,rfl⟩;show Ws [.sq false (lo.map CG),.is (.int top),.any] _ _ _
 walk_at "ww"
 refine⟨by simp,?_⟩;refine Ay (Dj (gU (λm A6=>∃(pre a:List Nat)(x:Nat),A6=[.sq false (lo.map CG),.is (.int top),.own ((pre++[x]).map λn:Nat=>PV.int n)]/\Dn lo x a/\pre++a=ch/\m=a.length) ch.length ⟨[],ch,top,rfl,hd,rfl,rfl⟩ ?_));rintro m _⟨pre,a,x,rfl,hx,b,rfl⟩;have c:∀{k:PV->Prop}{o:Option Nat},lo[x]?=some o->k (CG o)->Wp [.sq false (lo.map CG),.is (.int top),.own ((pre++[x]).map λn:Nat=>PV.int n)] (Au (DE K) (Ap 0) (Au (DE K) (Ap 2) (SO (rU λi=>V.int (-i)) (tC (V.int 1))))) k:=λe h=>DL (GU rfl ⟨rfl,DL (Hv rfl ⟨rfl,WA (C6 ⟨_,rfl,_,_,rfl,bp,_,_,rfl,D4 (by rw[AS,e];rfl),h⟩)⟩)⟩);cases hx with
 |one e=>
  refine Ec (dE (c e (M7 ⟨rfl,false,rfl,?_⟩)));rw[mD (by decide)];subst b
  walk_at "ww"
  try rfl
 |@more _ y r e d=>
  refine Ec (dE (c e (M7 ⟨rfl,true,rfl,?_⟩)));rw[p7 rfl];have l:pre.length+(r.length+1)<=12:=by have q:=pZ List.length b;rw[BF,Az]at q;omega
  refine UT rfl (c e ⟨by rw[AA,BF,T7];omega,r.length,by rw[Az];omega,pre++[x],r,y,?_,d,by rw[<- b,Bt];rfl,rfl⟩);show[_,_,Slot.own _]=[_,_,Slot.own _];rw[Cs (l₁:=pre++[x])];rfl
def ZC0:B6 ["row","loops","chain"] ["row","loops","chain"] (AO C8):=by walk_at "z1"
def ao(s:Stmt):Scope:=match EJ s with
 | [.Return (some (.Call _ _ [⟨_,.Lambda _ _ sc _,_⟩] _)) _]=>sc
 |_=>{ kind:=.function,names:=[],isGenerator:=false,isCoroutine:=false }
noncomputable def sL:Scope:={ kind:=.function,names:=[(".0",.local),("number",.local),("loops",.free),("thing",.free)],isGenerator:=false,isCoroutine:=false }
def kZ:R8 ["row","loops","chain"] (AO C8) (ao C8) "thing" ["chain","loops"] [2,1]:=⟨rfl,by decide +kernel,rfl,by decide +kernel,λ_ _=>rfl,λ_=>rfl,rfl,by decide +kernel,by decide +kernel,by decide +kernel,by decide +kernel⟩
def t9:SN ["chain","loops","thing"] (ao C8) sL "number" ["loops","thing"] [1,2]:=by walk_at "z2"
def vF(F:AM K "line_of" "line_of" C8 f fd)(m:mg "line_of"=some (.ref f)):
  AF P w K mg Zl "line_of" 3 ["row","loops","chain"] (Ad (eQ T (Cq C8))):=by
 refine Fz.hL (k:=2) F Vr (by walk_at "bD3") m ZC0 (by rintro _ _⟨ns,Ls,ch,rfl,_,_,_,_,rfl⟩;rfl) λj=>⟨_,(AL rfl (Am (oF (k:=0) (c:=c) (P:=T) (q:=LR) (x:="thing") (tb:=CQ (JV K) (Ae (HP (Q5 K (Ap 0)) [1,2] (KY (Au (Hn K false) (Ap 1) (Au (HR K) (Au (DE K) (Ap 0) (Ap 2)) (tC (.int 2))))) (Ap 2)) BK)) j rfl rfl CI (A0 (qv 0) A4) kZ rfl rfl rfl hC rfl rfl bA JE (show((("line_of":Str) ++ ".<locals>.") ++ "<lambda>":Str)=LR by decide +kernel) rfl (λ_ _ _ _ _=>rfl) λf cd s H=>by
  exact Ah (show Bk _ (.builtin "len") (JV K)from Ba) AN (A0 (k9 rfl t9 (by exact D5 (qv 0)) (λ_ _ _ _=>by exact K8 (Ax (show B0 _ (compareOp .In) (Hn K false)from OG) (qv 1) (AV (show DF _ (HR K)from Bi) (AV (show DF _ (DE K)from BO) (qv 0) (qv 2)) A7))) (λ_ _ _ _=>by exact qv 2)) A4)
  ))),?_⟩
 rintro _ _⟨ns,Ls,ch,rfl,r,hL,t,o,rfl⟩;show Ws [.raw (Ga T (Cq C8) ns),.is (.lst (Ls.map Lp.P)),.is (.lst (ch.map λn:Nat=>PV.int n))] _ _ _;refine Fs (ub (jp:=0) (ZAc Ls ch) rfl (λF v h=>h.2) (FO (B9 (Tx rfl ⟨_,.inl ⟨rfl,Bp ⟨ns.map .str,rfl,by rw[AA];omega,λx hx=>?_,λys g d=>?_⟩⟩⟩))))
 .obtain⟨x,_,rfl⟩:=List.mem_map.mp hx;show Wp [.is (.lst (ch.map λn:Nat=>PV.int n)),.is (.lst (Ls.map Lp.P)),.is (.str x)] _ _;refine G0 (B9 (As (EL (λn:Nat=>PV.int n) (λn=>match Ls[n]? with|some l=>decide (x∈l.cs)|none=>false) (λn:Nat=>PV.int n) (DR (CY (A5 rfl ⟨_,.inl ⟨rfl,ch,rfl,by omega,λn p=>?_,λn _ _=>A5 rfl rfl,?_⟩⟩))) (λa b e=>by injection e with e;exact Int.ofNat.inj e))))
  .have hi:=o n p;obtain⟨l,el⟩:∃l,Ls[n]?=some l:=⟨_,AQ hi⟩;rw[el];show Wt [.is (.lst (Ls.map Lp.P)),.is (.str x),.is (.int n)] _ _
   walk_at "ww"
   refine⟨_,l.P,rfl,D4 (by rw[AS,el];rfl),_,.inr ⟨rfl,rfl,C6 ⟨_,_,rfl,rfl,_,.inr ⟨rfl,l.cs,rfl,_,rfl,rfl⟩⟩⟩⟩
  .exact⟨_,.inl ⟨rfl,by rw[AA];rfl⟩⟩
 .obtain⟨ms,rfl,i⟩:=o7 g;exact⟨ms,rfl,i,(Yc (f:=PV.str)).mp d⟩
def Oh:B6 ["row","loops","chains","line_with","line","chain","number"] ["row","loops","chains"] (AO Sh):=by walk_at "z1"
def ZAG:=Sc [(".0",.local),("number",.local),("loop",.local),("len",.globalImplicit),("line_with",.free),("row",.free)]
def nD:IX ["row","loops","chains","line_with","line","chain","number"] (AO Sh) ZAG "number" "loop" ["line_with","row"] [3,0]:=⟨rfl,by decide +kernel,by decide +kernel,rfl,rfl,rfl,by decide +kernel,by decide +kernel,by decide +kernel,by decide +kernel⟩
def kJ(F:AM K "seats_of" "seats_of" Sh f fd)(m:mg "seats_of"=some (.ref f)):
  AF P w K mg Zl "seats_of" 1 ["row","loops","chains"] (Ad gM):=by
 refine Fz.hF (k:=0) F (by walk_at "bD3") m Oh (by rintro _ _⟨ns,Ls,chs,f,rfl,_,rfl⟩;rfl) λo=>⟨_,(AH rfl (Ai 3 Oh.nd VV)
   (AH rfl (CN (FH EB rfl (Z2 rfl Su (A0 (qv 2) A4)) (N0 rfl (Fm (Ci 4 Oh.nd) (Fm (Ci 5 Oh.nd) Mu))) (AL rfl (FH EB rfl (D5 (qv 5)) (Ci 6 Oh.nd) (AL rfl (az (OO o) (qv 3) (qv 6) (qv 4)))))))
   (AL rfl (Am (aQ rfl nD (Z2 rfl Su (A0 (qv 1) A4)) (λ_ _ _ _=>by exact(EM (A0 (uX (OO o) (qv 0) (qv 2) (λ_ _=>rfl)) (A0 (AW Jq (Ah (show Bk _ (.builtin "len") (JV K)from Ba) AN (A0 (qv 1) A4)) (Ah (show Bk _ (.builtin "len") (JV K)from Ba) AN (A0 (AV (show DF _ (HR K)from Bi) (qv 3) A7) A4))) A4))))))))),?_⟩
 rintro _ _⟨ns,Ls,chs,f,rfl,ok,rfl⟩;show Ws [.is (.lst (ns.map .str)),.is (.lst (Ls.map Lp.P)),.is (.lst (chs.map B5)),.any,.any,.any,.any] _ _ _;have s:=ok.len;refine Ay (d7 (iQ λa=>?_));refine Ay (Dj (FP (λ_ i A6=>∃s4 d b,A6=[.is (.lst (ns.map .str)),.is (.lst (Ls.map Lp.P)),.is (.lst (chs.map B5)),.ow false (KC a f (chs.take i).flatten),s4,d,b]) (TQ (CY (A5 rfl ⟨_,.inl ⟨rfl,⟨_,_,_,rfl⟩,?_,?_⟩⟩)))))
 .rintro i p A6 c⟨s4,d,b,rfl⟩;obtain⟨q,eq,rfl⟩:=ZAM c;rw[AS]at eq;obtain⟨ch,g,rfl⟩:=Option.map_eq_some_iff.mp eq;refine NN ⟨_,_,rfl,?_⟩;show Ws [.is (.lst (ns.map .str)),.is (.lst (Ls.map Lp.P)),.is (.lst (chs.map B5)),.ow false (KC a f (chs.take i).flatten),.is (nP i),.is (B5 ch),b] _ _ _;refine FP (λ_ j A6=>∃b,A6=[.is (.lst (ns.map .str)),.is (.lst (Ls.map Lp.P)),.is (.lst (chs.map B5)),.ow false (KC a f ((chs.take i).flatten++ch.take j)),.is (nP i),.is (B5 ch),b]) (DR (CY (A5 rfl ⟨_,.inl ⟨rfl,⟨_,by rw[List.take_zero,GH]⟩,?_,?_⟩⟩)))
  .rintro j p A6 c⟨b,rfl⟩;rw[AS]at c;obtain⟨n,e,rfl⟩:=Option.map_eq_some_iff.mp c;obtain⟨r,A⟩:=oB g e;have nd:=ok.nd;rw[A]at nd s;obtain⟨h,u,t⟩:=List.nodup_append.mp nd;have nx:n∉(chs.take i).flatten++ch.take j:=λz=>t n z n Ar rfl;rw[BF]at s;refine GR ?_;refine hX (i:=3) (ax (A5 rfl (HA rfl ⟨false,a,Cv ((chs.take i).flatten++ch.take j),_,rfl,rfl,by rw[AA,AA];omega,iw h,BH,A5 rfl ⟨.inl (n:Int),rfl,.is (nP n),?_⟩⟩)));rw[OV.Ny,xC nx (ok.at_ i ch g n (Bc e)),Bt,<- yz e];rfl
  .rintro A6⟨b,rfl⟩;rw[AA,Ei];exact⟨_,_,_,by rw[uc g]⟩
 .rintro A6⟨s4,d,b,rfl⟩;rw[Oq,AA,Ei];refine Fs (Z8 3 rfl (iL (λp:Lp×Nat=>PV.int (p.2:Int)) (λp=>p.1.P) (λp=>B8 ((f p.2:Int),(ns.length:Int) - (p.1.cs.length:Int))) (TQ (CY (A5 rfl ⟨_,.inl ⟨rfl,Ls.zipIdx,?_,by rw[ZCf];have:=ok.FV;omega,λp c=>?_,?_⟩⟩))) λx y e1 B=>?_))
  .exact md Ls
  .have v:=tM c;obtain⟨l,n⟩:=p;show Wp [.is (KC a f chs.flatten).pv,.is (.lst (ns.map .str)),.is (nP n),.is l.P] _ _;rw[wa];refine JK (Cb (tO (A5 rfl ⟨_,_,rfl,A5 rfl ⟨.inl (n:Int),_,rfl,valN ((ok.all n).mp (List.getElem?_eq_some_iff.mp v).1),?_⟩⟩)))
   walk_at "ww"
   rw[AA,AA];exact⟨by show 2<=100000;decide,rfl⟩
  .exact⟨X3 _ (λ_=>rfl) _,by rw[CJ];rfl⟩
  .obtain⟨l1,h⟩:=x;obtain⟨l2,u⟩:=y;injection e1 with e1
   cases Int.ofNat_inj.mp e1;cases dX B;rfl
def i7:B6 ["chain","tried","untried"] ["chain","tried"] (AO Pz):=by walk_at "z1"
def vt:=Sc [(".0",.local),("number",.local),("tried",.free)]
def wt:Cd ["chain","tried","untried"] (AO Pz) vt "number" ["tried"] [1]:=by walk_at "z2"
def ZB3(F:AM K "uppermost_untried" "uppermost_untried" Pz f fd)(m:mg "uppermost_untried"=some (.ref f)):
  AF P w K mg Zl "uppermost_untried" 1 ["chain","tried"] (Ad cn):=by
 refine Fz.hF (k:=0) F (by walk_at "bD2") m i7 (by rintro _ _⟨ch,T,x,r,rfl,_,_,rfl⟩;rfl) λc=>⟨_,(AH rfl (Lh (i:=2) i7.nd rfl (Or.inl rfl) rfl wt (D5 (qv 0)) (λ_ _ _ _=>by exact(K8 (i9 (OO c) (qv 1) (qv 0)))) (λ_ _ _ _=>by exact(qv 1)))
   (AL rfl (Am (AV BO (qv 2) A7)))),?_⟩
 rintro _ _⟨ch,T,x,r,rfl,g,d,rfl⟩;show Ws [.is (B5 ch),.is (.BA (Cv T) (T.map λ_=>.bl true)),.any] _ _ _;refine Ay (En (EL nP (λy=>decide (y∉T)) nP (DR (CY (A5 rfl ⟨_,.inl ⟨rfl,ch,rfl,by omega,λy h=>?_,λy _ _=>A5 rfl rfl,?_⟩⟩))) (λa b e=>by injection e with e;exact Int.ofNat_inj.mp e)))
 .refine GY (ue (A5 rfl (A5 rfl ⟨_,_,.inl (y:Int),rfl,rfl,_,rfl,?_⟩)));rw[O9,decide_not]
 .rw[d];exact CO (DL (Hv rfl ⟨rfl,C6 ⟨_,_,rfl,D4 (j:=0) rfl,rfl⟩⟩))
def U9:B6 ["above","lower_of","chains","tried","chain"] ["above","lower_of","chains"] (AO QN):=by walk_at "z1"
def mT:=Sc [(".0",.local),("chain",.local),("uppermost_untried",.globalImplicit),("tried",.free)]
def lE:Cd ["above","lower_of","chains","tried","chain"] (AO QN) mT "chain" ["tried"] [3]:=by walk_at "z2"
def lP(F:AM K "apart_of" "apart_of" QN f fd)(m:mg "apart_of"=some (.ref f))(Js:AF P w K mg Zl "finds_upper" 14 ["number","above","lower_of","tried"] (Ey (L5 13))):
  AF P w K mg Zl "apart_of" 15 ["above","lower_of","chains"] (Ad gD):=by
 refine Fz.hF (k:=14) F (by walk_at "bD3") m U9 (by rintro _ _⟨ab,m,lo,chs,rfl,_,rfl⟩;rfl) λg=>⟨_,(AH rfl (Ai 3 U9.nd VV)
   (AH rfl (CN (FH EB rfl (D5 (qv 2)) (Ci 4 U9.nd) (AL rfl (Gi (AR Js g (A0 (AV BO (qv 4) A7) (A0 (qv 0) (A0 (qv 1) (A0 (qv 3) A4)))))))))
   (AL rfl (Am (Ah kQ CI (A0 (Ft rfl lE (D5 (qv 2)) (λ_ _ _ _=>by exact G7) (λ_ _ _ _=>by exact(AR Xy g (A0 (qv 1) (A0 (qv 0) A4))))) A4)))))),?_⟩
 rintro _ _⟨ab,m,lo,chs,rfl,ok,rfl⟩;show Ws [.is (DJ ab m),.is (.lst (lo.map CG)),.is (.lst (chs.map B5)),.any,.any] _ _ _;refine Ay (d7 (iQ λa=>?_));show Ws [_,_,_,.ow false (DB a []),.any] _ _ _;refine Ay (Dj (FP (λxs i A6=>∃s4,A6=[.is (DJ ab m),.is (.lst (lo.map CG)),.is (.lst (chs.map B5)),.ow false (DB a (Kz.tryAll ab 13 lo ((chs.take i).map Gz) [])),s4]) (DR (CY (A5 rfl ⟨_,.inl ⟨rfl,⟨_,rfl⟩,?_,?_⟩⟩)))))
 .rintro i p A6 b⟨s4,rfl⟩;rw[AS]at b;obtain⟨ch,n,rfl⟩:=Option.map_eq_some_iff.mp b;obtain⟨t,r,rfl,s,st,d,_⟩:=ok.ch ch (Bc n);refine GR ?_;have hd:BZ ((t::r).map nP) 0=some (nP t):=D4 (j:=0) rfl;refine wY (i:=3) (j6 rfl (Mb (DL (Aq rfl ⟨rfl,C6 ⟨_,_,rfl,hd,Mb (A5 rfl (Mb (A5 rfl (eY rfl (Yt ⟨_,⟨ab,m,t,lo,_,_,a,rfl,ok.fu s,.inr ⟨rfl,st,rfl⟩⟩,?_⟩)))))⟩⟩))));rintro p t'⟨rfl,rfl⟩;refine⟨_,_,rfl,.is (B5 (t::r)),?_⟩;rw[zv n,gG];rfl
 .rintro A6⟨s4,rfl⟩;rw[AA,Ei];generalize v:Kz.tryAll ab 13 lo (chs.map Gz) []=T;refine Fs (r8 (B9 (As (Z8 3 rfl (EL B5 (λ_=>true) (λch=>nP (Oj T ch)) (DR (CY (A5 rfl ⟨_,.inl ⟨rfl,chs,rfl,by have:=ok.cl;omega,λ_ _=>G2 rfl,λch l _=>?_,?_⟩⟩))) cY)))))
  .show Wp [.is (DB a T).pv,.is (B5 ch)] _ _;rw[wC];obtain⟨r,e⟩:=ok.first l;obtain⟨_,_,_,_,_,_,My⟩:=ok.ch ch l;rw[v]at e;refine wp_call (Ag (A5 rfl (Ag (A5 rfl (Bp ⟨_,⟨ch,T,_,r,rfl,My,e,rfl⟩,?_⟩)))));rintro _ rfl;rfl
  .rw[List.filter_eq_self.mpr λ_ _=>rfl];refine⟨X3 _ (λ_=>rfl) _,_,.inl ⟨rfl,(chs.map λch=>((Oj T ch:Nat):Int)),by rw[CJ];rfl,by rw[AA];have:=ok.cl;omega,λD1 b u=>?_⟩⟩;have e0:∀z∈D1,((z.toNat:Nat):Int)=z:=λz c=>by
    obtain⟨ch,_,rfl⟩:=List.mem_map.mp (b.mem_iff.mp c);exact pZ _ (GG _)
   refine⟨D1.map Int.toNat,?_,?_,?_⟩
   .rw[CJ];exact YW λz c=>pZ PV.int (e0 z c).symm
   .have q:=b.map Int.toNat;rw[CJ]at q;exact q
   .rw[Yc];exact u.imp_of_mem λ{x y}hx o h=>by have:=e0 x hx;have:=e0 y o;omega
def Oy:B6 ["row","loops","above","lower_of","chains","lines"] ["row","loops"] (AO Ml):=by walk_at "z1"
def ZAq:=Sc [(".0",.local),("number",.local),("numbers_above",.globalImplicit),("loops",.free)]
def oa:Cd ["row","loops","above","lower_of","chains","lines"] (AO Ml) ZAq "number" ["loops"] [1]:=by walk_at "z2"
def rN:=Sc [(".0",.local),("top",.local),("chain_down",.globalImplicit),("lower_of",.free)]
def mR:Cd ["row","loops","above","lower_of","chains","lines"] (AO Ml) rN "top" ["lower_of"] [3]:=by walk_at "z2"
def zf:=Sc [(".0",.local),("chain",.local),("line_of",.globalImplicit),("loops",.free),("row",.free)]
def zc:Cd ["row","loops","above","lower_of","chains","lines"] (AO Ml) zf "chain" ["loops","row"] [1,0]:=by walk_at "z2"
def vZ(F:AM K "lines_of" "lines_of" Ml f fd)(m:mg "lines_of"=some (.ref f)):
  AF P w K mg Zl "lines_of" 16 ["row","loops"] (Ad (eD T (Cq C8))):=by
 refine Fz.hF (k:=15) F (by walk_at "bD2") m Oy (by rintro _ _⟨ns,Ls,rfl,_,_,_,rfl⟩;rfl) λd=>⟨_,(AH rfl (Gi (AR M8 d (A0 (qv 0) (A0 (qv 1) A4))))
   (AH rfl (Lh (i:=2) Oy.nd rfl (Or.inl rfl) rfl oa (Hs rfl CM (A0 (Ah Ba AN (A0 (qv 1) A4)) A4)) (λ_ _ _ _=>by exact G7) (λ_ _ _ _=>by exact(AR TN d (A0 (qv 0) (A0 (qv 1) A4)))))
   (AH rfl (Ai 3 Oy.nd (AR Ww d (A0 (qv 2) A4)))
   (AH rfl (Lh (i:=4) Oy.nd rfl (Or.inl rfl) rfl mR (Hs rfl CM (A0 (Ah Ba AN (A0 (qv 1) A4)) A4)) (λ_ _ _ _=>by exact(K8 (Ax (show B0 _ (compareOp .NotIn) (Fz.U4 K)from(Fz.oC d.units)) (qv 1) (qv 0)))) (λ_ _ _ _=>by exact(AR UE d (A0 (qv 0) (A0 (qv 1) A4)))))
   (AH rfl (Lh (i:=5) Oy.nd rfl (Or.inl rfl) rfl zc (D5 (qv 4)) (λ_ _ _ _=>by exact G7) (λ_ _ _ _=>by exact(AR XI d (A0 (qv 1) (A0 (qv 0) (A0 (qv 2) A4))))))
   (AL rfl (Am (EM (A0 (qv 5) (A0 (AR UA d (A0 (qv 0) (A0 (qv 1) (A0 (qv 4) A4)))) (A0 (AR V1 d (A0 (qv 2) (A0 (qv 3) (A0 (qv 4) A4)))) A4))))))))))),?_⟩
 rintro _ _⟨ns,Ls,rfl,⟨j,nd⟩,hL,s,rfl⟩;show Ws [.raw (Ga T (Cq C8) ns),.is (.lst (Ls.map Lp.P)),.any,.any,.any,.any] _ _ _;obtain⟨G,_⟩:=aB hL j s;obtain⟨c,u⟩:=ju G;obtain⟨f,N⟩:=ZAZ G u;have Q:HU Ls:=⟨hL,λl M=>CL (CD.len (show CD ns l.r l.g l.cs from s l M)) j⟩;have z:=mC hL j s u;refine Ay (Uu (wp_call (FO (B9 (Tx rfl ⟨_,.inl ⟨rfl,FO (Aq rfl (Bp ⟨_,⟨false,ns,false,Ls,rfl,j,hL,s,rfl⟩,λp D=>?_⟩))⟩⟩)))));refine Ay (En (EL nP (λ_=>true) (λv=>PV.lst ((ups Ls v).map nP)) (Kw (G0 (Aq rfl ⟨(Ls.length:Int),by rw[AA],by omega,by omega,List.range Ls.length,rfl,by rw[Cc];omega,λ_ _=>G2 rfl,λv J _=>?_,?_⟩))) Rt))
 .show Wp [.is (.lst (Ls.map Lp.P)),.is (nP v)] _ _;refine As (Me (Ag (A5 rfl (Ag (A5 rfl (Bp ⟨_,⟨Ls,v,rfl,Q,List.mem_range.mp J,rfl⟩,?_⟩))))));rintro _ rfl;rfl
 rw[List.filter_eq_self.mpr λ_ _=>rfl];refine IA 2 rfl ?_;refine Ay (En (Me (Ag (A5 rfl (Bp ⟨_,⟨ups Ls,Ls.length,rfl,z.ok,rfl⟩,?_⟩)))));rintro _ rfl;refine IA 3 rfl ?_;show Ws [.raw (Ga T (Cq C8) ns),.is (.lst (Ls.map Lp.P)),.is (DJ (ups Ls) Ls.length),.is (.lst ((DA Ls).map CG)),.any,.any] _ _ _;refine Ay (En (EL nP (λt:Nat=>!(((DA Ls).map CG).any λp=>Bb p (.int (t:Int)))) (λt=>B5 (c t)) (Kw (G0 (Aq rfl ⟨(Ls.length:Int),by rw[AA],by omega,by omega,List.range Ls.length,rfl,by rw[Cc];omega,λt q=>?_,λt q _=>?_,?_⟩))) Rt))
 .show Wt [.is (.lst ((DA Ls).map CG)),.is (nP t)] _ _;refine GY (zF (A5 rfl (Aq rfl ⟨rfl,λp D=>?_,trivial,_,rfl,rfl⟩)));obtain⟨o,_,rfl⟩:=List.mem_map.mp D;cases o <;> trivial
 .show Wp [.is (.lst ((DA Ls).map CG)),.is (nP t)] _ _;have h:=u t (G.len▸List.mem_range.mp q);refine As (Me (FO (Aq rfl (Ag (A5 rfl (Bp ⟨_,⟨DA Ls,t,c t,rfl,G.len▸hL,h.1,h.2.1,rfl⟩,?_⟩))))));rintro _ rfl;rfl
 have E:=ve (DA Ls);rw[G.len]at E;rw[E,show(Kz.Cy (DA Ls)).map (λt=>B5 (c t))=((Kz.Cy (DA Ls)).map c).map B5 by rw[CJ];rfl];refine IA 4 rfl ?_;show Ws [.raw (Ga T (Cq C8) ns),.is (.lst (Ls.map Lp.P)),.is (DJ (ups Ls) Ls.length),.is (.lst ((DA Ls).map CG)),.is (.lst (((Kz.Cy (DA Ls)).map c).map B5)),.any] _ _ _;refine Ay (En (lD (λx y=>∀ch,x=B5 ch->∃ms:List Str,y=.lst (ms.map .str)/\ms.Perm ns/\ms.Pairwise λa b=>Nw Ls ch a<=Nw Ls ch b) (DR (CY (A5 rfl ⟨_,.inl ⟨rfl,by rw[AA];have:=z.cl;omega,λ_ _=>G2 rfl,λx hx=>?_,λys B O=>?_⟩⟩)))))
 .obtain⟨ch,Ea,rfl⟩:=List.mem_map.mp hx;obtain⟨t,q,rfl⟩:=List.mem_map.mp Ea;have h:=u t (Kz.I0.mp q).1;show Wp [.is (.lst (Ls.map Lp.P)),.raw (Ga T (Cq C8) ns),.is (B5 (c t))] _ _;refine As (Me (lg rfl (Ag (A5 rfl (Ag (A5 rfl (Bp ⟨_,⟨ns,Ls,c t,rfl,j,hL,h.2.1,λn L=>G.len▸h.2.2.2 n L,rfl⟩,?_⟩)))))));rintro _⟨ms,rfl,H,C⟩ch e;rw[cY _ _ e]at C;exact⟨ms,rfl,H,C⟩
 obtain⟨ls,rfl,Ub⟩:=fN B O;rw[AA,AA]at B;refine IA 5 rfl ?_;refine CO (JK (Cb (A5 rfl (Cb (As (Me (Ag (Tx rfl (Ag (A5 rfl (Ag (A5 rfl (Bp ⟨_,⟨ns,Ls,(Kz.Cy (DA Ls)).map c,f,rfl,N,rfl⟩,?_⟩)))))))))))));rintro _ rfl;refine Cb (As (Me (Ag (A5 rfl (Ag (A5 rfl (Ag (A5 rfl (Bp ⟨_,⟨ups Ls,Ls.length,DA Ls,(Kz.Cy (DA Ls)).map c,rfl,z,rfl⟩,?_⟩)))))))));rintro _⟨A,rfl,I,R⟩;exact Cg ⟨by show 3<=100000;decide,ls,_,A,rfl,ZAa G.len (by rw[AA,ZCf]) (B.trans (AA _)) Ub I⟩
def xf:B6 ["row","lines"] ["row","lines"] (AO Ro):=by walk_at "z1"
def xD:=Sc [(".0",.local),("line",.local),("sorted",.globalImplicit),("row",.free)]
def sx:Cd ["row","lines"] (AO Ro) xD "line" ["row"] [0]:=by walk_at "z2"
def ZAr(F:AM K "are_lines" "are_lines" Ro f fd)(m:mg "are_lines"=some (.ref f)):
  AF P w K mg Zl "are_lines" 1 ["row","lines"] (Ad gc):=by
 refine Fz.hF (k:=0) F (by walk_at "bD2") m xf (by rintro _ _⟨tp,ns,ls,rfl,_,_,_,rfl⟩;rfl) λc=>⟨_,(AL rfl (Am (Ah (P6 rfl) Ek (A0 (Ft rfl sx (D5 (qv 1)) (λ_ _ _ _=>by exact G7) (λ_ _ _ _=>by exact(GI (show B0 _ (compareOp .Eq) (Ir K false)from(Mw c.EX)) (Ah (show Bk _ (.builtin "sorted") (M5 K)from Lg) CI (A0 (qv 1) A4)) (Ah (show Bk _ (.builtin "sorted") (M5 K)from Lg) CI (A0 (qv 0) A4))))) A4)))),?_⟩
 rintro _ _⟨tp,ns,ls,rfl,d,a,hk,rfl⟩;show Ws [.sq tp (ns.map .str),.is (.lst (ls.map Ac))] _ _ _;refine CO (Ov rfl (B9 (As (EL Ac (λ_=>true) (λl=>PV.bl (decide (l.Perm ns))) (DR (CY (A5 rfl ⟨_,.inl ⟨rfl,ls,rfl,by omega,λ_ _=>G2 rfl,λl a _=>?_,_,.inl ⟨rfl,rfl,ls.map λl=>decide (l.Perm ns),?_,?_⟩⟩⟩))) Sy))))
 .have:=hk l a;show Wp [.sq tp (ns.map .str),.is (Ac l)] _ _;refine SH (B9 (As (L8 (B9 (A5 rfl ⟨_,.inl ⟨rfl,l,rfl,by omega,λb p1 s1=>⟨_,.inl ⟨rfl,b,rfl,?_⟩⟩⟩⟩)))));refine B9 (As (L8 (GU rfl ⟨ns,rfl,by omega,λm2 p2 s2=>⟨_,.inl ⟨rfl,rfl,m2,rfl,?_⟩⟩⟩)));exact pZ PV.bl (ZE p1 s1 p2 s2)
 .rw[List.filter_eq_self.mpr λ_ _=>rfl,CJ];rfl
 .exact pZ PV.bl (by rw[PM];rfl)
def Zo:B6 ["lines","loop","seat","line"] ["lines","loop","seat"] (AO W4):=by walk_at "z1"
def sf(F:AM K "is_seat" "is_seat" W4 f fd)(m:mg "is_seat"=some (.ref f)):
  AF P w K mg Zl "is_seat" 1 ["lines","loop","seat"] (Ad cu):=by
 refine Fz.hF (k:=0) F (by walk_at "bD3") m Zo (by rintro _ _⟨ns,ls,o,q,rfl,_,_,_,_,rfl⟩;rfl) λj=>⟨_,(AH rfl (BY (Jl (Vj Mm LA A7 (AV Bi (qv 2) A7) (Ah Ba AN (A0 (qv 0) A4)))) (AL rfl (Am Ds)) Bg)
   (AH rfl (Ai 3 Zo.nd (AV BO (qv 0) (AV Bi (qv 2) A7)))
   (AL rfl (Am (LI (GI DS (AV Bi (qv 2) A7) (AW Jq (Ah Ba AN (A0 (qv 3) A4)) (Ah Ba AN (A0 (AV Bi (qv 1) A7) A4)))) (LM (GI (Mw j.EX) (Ah Lg CI (A0 (Ca Cm (qv 3) (CT (AV Bi (qv 2) A7)) CV) A4)) (Cu HF DC (A0 (AV Bi (qv 1) A7) A4))))))))),?_⟩
 rintro _ _⟨ns,ls,⟨r,g,cs⟩,⟨a,b⟩,rfl,t,gd,n,u,rfl⟩;have gd:CD ns r g cs:=gd;have v:=CD.len gd;show Ws [.is (.lst (ls.map Ac)),.is (.tup [.str r,.int g,.tup (cs.map .str)]),.is (.tup [.int a,.int b]),.any] _ _ _;have e0:(([]:List PV)++ls.map Ac).length=ls.length:=by rw[Yb,AA]
 refine Ay (D2 (Le (GY (Od (C6 ⟨_,rfl,JW (MV rfl ⟨rfl,C6 ⟨_,_,rfl,rfl,_,rfl,?_⟩⟩)⟩)))))
 by_cases e:0<=a
 .rw[p7 (kc e)];refine G0 (Aq rfl ⟨_,rfl,_,rfl,?_⟩);rw[AA]
  by_cases d:a<(ls.length:Int)
  .rw[kc d,mD (by decide)];obtain⟨k,rfl⟩:∃k:Nat,a=k:=⟨a.toNat,by omega⟩;have hk:k<ls.length:=by omega
   obtain⟨line,el⟩:∃l,ls[k]?=some l:=⟨_,AQ hk⟩;have pl:=n line (Bc el);have i:=pl.length_eq;rw[gB el];refine C0 (Ay (GW (DL (Aq rfl ⟨rfl,JW (MV rfl ⟨rfl,C6 ⟨_,_,rfl,rfl,_,Ac line,rfl,D4 (by rw[AS,el];rfl),?_⟩⟩)⟩))));show Ws [_,_,_,.is (.lst (line.map .str))] _ _ _
   walk_at "ww"
   rw[AA,AA,i];refine BP (λc=>?_) (λc=>?_)
   .have c:b=(ns.length:Int) - (cs.length:Int):=pU c;obtain⟨m,p⟩:∃m:Nat,ns.length - cs.length=m:=⟨_,rfl⟩;have s:b=(m:Int):=by omega
    subst s;rw[kc c,p];refine SH (B9 (As (L8 (B9 (As (Ol (Aq rfl ⟨rfl,OX (JW (MV rfl ⟨rfl,C6 ⟨_,_,rfl,rfl,_,rfl,Nb ⟨_,.inl ⟨rfl,line.drop m,?_,by rw[Dl];omega,λh p1 s1=>⟨_,.inl ⟨rfl,h,rfl,?_⟩⟩⟩⟩⟩⟩))⟩)))))))
    .rw[W8,YX]
    .refine B9 (As (GL rfl (B9 (JW (MV rfl ⟨rfl,C6 ⟨_,_,rfl,rfl,_,.inr ⟨rfl,_,.inl ⟨rfl,rfl,cs,rfl,?_⟩⟩⟩⟩)))));exact pZ PV.bl (ZZ gd.up p1 s1)
   .rw[oO (show ¬ b=(ns.length:Int) - (cs.length:Int)from λz=>c (kc z))];rfl
  .rw[oO d,p7 (by rfl)];exact CO (Dp (pZ PV.bl (dF d).symm))
 .rw[mD (λz=>e (pU z))];refine⟨_,rfl,?_⟩;rw[p7 (by rfl)];exact CO (Dp (pZ PV.bl (aa e).symm))
def nA:B6 ["loops","lines","seats"] ["loops","lines","seats"] (AO QU):=by walk_at "z1"
def jy:=Sc [(".0",.local),("loop",.local),("seat",.local),("is_seat",.globalImplicit),("lines",.free)]
def nY:IX ["loops","lines","seats"] (AO QU) jy "loop" "seat" ["lines"] [1]:=⟨rfl,by decide +kernel,by decide +kernel,rfl,rfl,rfl,by decide +kernel,by decide +kernel,by decide +kernel,by decide +kernel⟩
def vx(F:AM K "are_seats" "are_seats" QU f fd)(m:mg "are_seats"=some (.ref f)):
  AF P w K mg Zl "are_seats" 2 ["loops","lines","seats"] (Ad fH):=by
 refine Fz.hF (k:=1) F (by walk_at "bD3") m nA (by rintro _ _⟨t2,ns,Ls,ls,ps,zs,rfl,_,_,rfl⟩;rfl) λa=>⟨_,(AH rfl (BY (Ax LX (Ah Ba AN (A0 (qv 2) A4)) (Ah Ba AN (A0 (qv 0) A4))) (AL rfl (Am Ds)) Bg)
   (AL rfl (Am (Ah (P6 rfl) Ek (A0 (aQ rfl nY (vY rfl MT (A0 (qv 0) (A0 (qv 2) A4))) (λ_ _ _ _=>by exact(AR XY a (A0 (qv 0) (A0 (qv 1) (A0 (qv 2) A4)))))) A4))))),?_⟩
 rintro _ _⟨t2,ns,Ls,ls,ps,zs,rfl,J,b,rfl⟩;have h1:=J.Lz;have h2:=J.pz;have d:=J.lz;show Ws [.sq t2 (Ls.map Lp.P),.is (.lst (ls.map Ac)),.is (.lst (ps.map B8))] _ _ _;unfold Ll
 walk_at "ww"
 rw[AA,AA];refine BP (λc=>?_) (λc=>?_)
 .have c:¬ ps.length=Ls.length:=λz=>by rw[z]at c;exact absurd c (by show ¬ (!decide _)=true;rw[kc rfl];decide)
  rw[oO c];exact CO (Dp rfl)
 .have c:ps.length=Ls.length:=JN λz=>c (by show(!decide _)=true;rw[oO λy=>z (Int.ofNat_inj.mp y)];rfl);rw[kc c,GF];refine C0 (CO (Ov rfl (B9 (As (iL (λx:Lp×(Int×Int)=>x.1.P) (λx=>B8 x.2) (λx=>PV.bl (FG ns.length ls x.1 x.2)) (zk (UB rfl (CY (A5 rfl ⟨_,.inl ⟨rfl,Ls.zip ps,RL Ls ps,by rw[jN];omega,λx hx=>?_,_,.inl ⟨rfl,rfl,(Ls.zip ps).map λx=>FG ns.length ls x.1 x.2,by rw[CJ];rfl,?_⟩⟩⟩)))) λx y e1 e=>?_)))))
  .show Wp [.is (.lst (ls.map Ac)),.is x.1.P,.is (B8 x.2)] _ _;refine wp_call (Ag (A5 rfl (Ag (A5 rfl (Ag (A5 rfl (Bp ⟨_,⟨ns,ls,x.1,x.2,rfl,J.nz,J.good _ (TC hx).1,b,d,rfl⟩,?_⟩)))))));rintro _ rfl;rfl
  .exact pZ PV.bl (by rw[PM];rfl)
  .exact Yo (dX e1) (ZBh _ _ e)
def yl:B6 ["one","other"] ["one","other"] (AO WH):=by walk_at "z1"
def oN(F:AM K "fit_one_line" "fit_one_line" WH f fd)(m:mg "fit_one_line"=some (.ref f)):
  AF P w K mg Zl "fit_one_line" 2 ["one","other"] (Ad Mn):=by
 refine Fz.hF (k:=1) F (by walk_at "bD2") m yl (by rintro _ _⟨l1,l2,rfl,_,_,rfl⟩;rfl) λd=>⟨_,(AL rfl (Am (fA (AR LS d (A0 (qv 0) (A0 (qv 1) A4))) (LM (AR LS d (A0 (qv 1) (A0 (qv 0) A4))))))),?_⟩
 rintro _ _⟨l1,l2,rfl,b,a,rfl⟩;show Ws [.is l1.P,.is l2.P] _ _ _
 walk_at "ww"
 refine wp_call (Ag (A5 rfl (Ag (A5 rfl (Bp ⟨_,⟨l1,l2,rfl,b,a,rfl⟩,?_⟩)))));rintro _ rfl;refine⟨_,rfl,?_⟩
 by_cases c:EA l1 l2
 .rw[kc c,p7 rfl,kc (show EA l2 l1∨EA l1 l2 from .inr c)]
 .rw[oO c,mD (by decide)];refine wp_call (Ag (A5 rfl (Ag (A5 rfl (Bp ⟨_,⟨l2,l1,rfl,a,b,rfl⟩,?_⟩)))));rintro _ rfl;exact pZ PV.bl (decide_eq_decide.mpr ⟨.inl,λz=>z.resolve_right c⟩)
def kd:B6 ["loops","number","apart"] ["loops","number","apart"] (AO QH):=by walk_at "z1"
def zJ:=Sc [(".0",.local),("later",.local),("fit_one_line",.globalImplicit),("loops",.free),("number",.free)]
def yq:Cd ["loops","number","apart"] (AO QH) zJ "later" ["loops","number"] [0,1]:=by walk_at "z2"
def vd(F:AM K "fits_a_later_one" "fits_a_later_one" QH f fd)(m:mg "fits_a_later_one"=some (.ref f)):
  AF P w K mg Zl "fits_a_later_one" 3 ["loops","number","apart"] (Ad cD):=by
 refine Fz.hF (k:=2) F (by walk_at "bD3") m kd (by rintro _ _⟨t2,Ls,x,A,rfl,_,_,_,_,rfl⟩;rfl) λi=>⟨_,(AL rfl (Am (Ah (RZ rfl) Gd (A0 (Ft rfl yq (D5 (qv 2)) (λ_ _ _ _=>by exact(K8 (Ax JD (qv 2) (qv 1)))) (λ_ _ _ _=>by exact(AR VO i (A0 (AV (show DF _ (λx y H Q=>DE K x y H Q∨HR K x y H Q)from(BO.or Bi)) (qv 0) (qv 1)) (A0 (AV (show DF _ (λx y H Q=>DE K x y H Q∨HR K x y H Q)from(BO.or Bi)) (qv 0) (qv 2)) A4))))) A4)))),?_⟩
 rintro _ _⟨t2,Ls,x,A,rfl,d,hx,g,h,rfl⟩;show Ws [.sq t2 (Ls.map Lp.P),.is (nP x),.is (B5 A)] _ _ _;obtain⟨a,ea⟩:∃a,Ls[x]?=some a:=⟨_,AQ hx⟩;refine CO (OL rfl (B9 (As (EL nP (λy=>decide (x<y)) (λy=>PV.bl (Co Ls x y)) (DR (CY (A5 rfl ⟨_,.inl ⟨rfl,A,rfl,by omega,λy _=>?_,λy g _=>?_,_,.inl ⟨rfl,rfl,(A.filter λy=>decide (x<y)).map λy=>Co Ls x y,by rw[CJ];rfl,?_⟩⟩⟩))) (λa b e=>by injection e with e;exact Int.ofNat_inj.mp e)))))
 .show Wt [.sq t2 (Ls.map Lp.P),.is (nP x),.is (nP y)] _ _
  walk_at "ww"
  exact decide_eq_decide.mpr Int.ofNat_lt
 .obtain⟨b,c⟩:∃a,Ls[y]?=some a:=⟨_,AQ (h y g)⟩;show Wp [.sq t2 (Ls.map Lp.P),.is (nP x),.is (nP y)] _ _;refine wp_call (Ag (VX (GU rfl (A5 rfl ⟨_,a.P,rfl,D4 (by rw[AS,ea];rfl),Ag (VX (GU rfl (A5 rfl ⟨_,b.P,rfl,D4 (by rw[AS,c];rfl),Bp ⟨_,⟨a,b,rfl,d.2 a (Bc ea),d.2 b (Bc c),rfl⟩,?_⟩⟩)))⟩))));rintro _ rfl;rw[WK ea c]
 .exact pZ PV.bl (by rw[YQ,List.any_filter];rfl)
def kY:B6 ["loops","lines","apart"] ["loops","lines","apart"] (AO Ot):=by walk_at "z1"
def xT:=Sc [(".0",.local),("number",.local),("len",.globalImplicit),("loops",.free)]
def rV:Cd ["loops","lines","apart"] (AO Ot) xT "number" ["loops"] [0]:=by walk_at "z2"
def ZAu:=Sc [(".0",.local),("number",.local),("fits_a_later_one",.globalImplicit),("apart",.free),("loops",.free)]
def vB:Cd ["loops","lines","apart"] (AO Ot) ZAu "number" ["apart","loops"] [2,0]:=by walk_at "z2"
def lO(F:AM K "are_apart" "are_apart" Ot f fd)(m:mg "are_apart"=some (.ref f)):
  AF P w K mg Zl "are_apart" 4 ["loops","lines","apart"] (Ad bB):=by
 refine Fz.hF (k:=3) F (by walk_at "bD3") m kY (by rintro _ _⟨t2,Ls,ls,zs,rfl,_,_,_,rfl⟩;rfl) λn=>⟨_,(AH rfl (BY (Iy (Ax LX (Ah Ba AN (A0 (qv 2) A4)) (Ah Ba AN (A0 (qv 1) A4))) (IZ (Ax (NL n.EX) (qv 2) (Ah (rO rfl) CI (A0 (Cu (uW rfl) FR (A0 (qv 2) A4)) A4))))).pt (AL rfl (Am Ds)) Bg)
   (AH rfl (BY (Jl (Jo (Ah (P6 rfl) Ek (A0 (Ft rfl rV (D5 (qv 2)) (λ_ _ _ _=>by exact G7) (λ_ _ _ _=>by exact(cG Mm LA A7 (qv 1) (Ah (show Bk _ (.builtin "len") (JV K)from Ba) AN (A0 (qv 0) A4))))) A4)))) (AL rfl (Am Ds)) Bg)
   (AL rfl (Am (jm (Ah (RZ rfl) Gd (A0 (Ft rfl vB (D5 (qv 2)) (λ_ _ _ _=>by exact G7) (λ_ _ _ _=>by exact(AR Y2 n (A0 (qv 1) (A0 (qv 2) (A0 (qv 0) A4)))))) A4))))))),?_⟩
 rintro _ _⟨t2,Ls,ls,zs,rfl,l,h1,h2,rfl⟩;have hL:=l.1;show Ws [.sq t2 (Ls.map Lp.P),.is (.lst (ls.map Ac)),.is (.lst (zs.map .int))] _ _ _;refine Ay (D2 (L4 (Ec ?_)))
 walk_at "ww"
 rw[AA,AA];refine BP (λc=>?_) (λc=>?_)
 .have c:¬ zs.length=ls.length:=λz=>by rw[z]at c;exact absurd c (by show ¬ (!decide _)=true;rw[kc rfl];decide)
  rw[oO λz=>c z.1];exact CO (Dp rfl)
 have c:zs.length=ls.length:=JN λz=>c (by show(!decide _)=true;rw[oO λy=>z (Int.ofNat_inj.mp y)];rfl);refine Ec (ly (Aq rfl ⟨zs,rfl,B9 (As (yc (Aq rfl ⟨zs,rfl,by omega,λp q r o=>⟨_,.inl ⟨rfl,rfl,p,rfl,_,rfl,?_⟩⟩⟩)))⟩));rw[yf q r o]
 by_cases i:zs.Pairwise (· < ·)
 .rw[kc i,mD (by decide)];refine C0 (Ay (D2 (Le (GY (Ov rfl (B9 (As (EL PV.int (λ_=>true) (λz=>PV.bl (decide (0<=z/\z<(Ls.length:Int)))) (DR (CY (A5 rfl ⟨_,.inl ⟨rfl,zs,rfl,by omega,λ_ _=>G2 rfl,λz g _=>?_,_,.inl ⟨rfl,rfl,zs.map λz=>decide (0<=z/\z<(Ls.length:Int)),by rw[List.filter_eq_self.mpr λ_ _=>rfl,CJ];rfl,_,rfl,?_⟩⟩⟩))) (λa b e=>by injection e)))))))))
  .show Wp [.sq t2 (Ls.map Lp.P),.is (.int z)] _ _;refine Od (C6 ⟨_,rfl,A5 rfl ⟨_,rfl,?_⟩⟩)
   by_cases d:0<=z
   .rw[p7 (kc d)];refine G0 (GU rfl ⟨_,rfl,?_⟩);rw[AA];exact pZ PV.bl (decide_eq_decide.mpr ⟨λh=>⟨d,h⟩,And.right⟩)
   .rw[mD λz=>d (pU z),oO λz=>d z.1]
  rw[PM]
  by_cases d:∀z∈zs,0<=z/\z<(Ls.length:Int)
  .rw[show(zs.all (id ∘ λz=>decide (0<=z/\z<(Ls.length:Int))))=true from List.all_eq_true.mpr λz g=>kc (d z g),mD (by decide)];obtain⟨A,j,s⟩:=ZBz d;have t:A.length=zs.length:=by rw[j,AA]
   refine C0 (CO (fM (OL rfl (B9 (As (EL PV.int (λ_=>true) (λz=>PV.bl (A.any λy=>decide (z.toNat<y) && Co Ls z.toNat y)) (DR (CY (A5 rfl ⟨_,.inl ⟨rfl,zs,rfl,by omega,λ_ _=>G2 rfl,λz g _=>?_,_,.inl ⟨rfl,rfl,zs.map λz=>A.any λy=>decide (z.toNat<y) && Co Ls z.toNat y,by rw[List.filter_eq_self.mpr λ_ _=>rfl,CJ];rfl,_,rfl,?_⟩⟩⟩))) (λa b e=>by injection e)))))))
   .show Wp [.is (.lst (zs.map .int)),.sq t2 (Ls.map Lp.P),.is (.int z)] _ _;have:=d z g;refine wp_call (FO (GU rfl (Ag (A5 rfl (Ag (A5 rfl (Bp ⟨_,⟨t2,Ls,z.toNat,A,?_,l,by omega,by omega,s,rfl⟩,?_⟩)))))))
    .rw[j,B5,show PV.int z=nP z.toNat from pZ PV.int (PL this.1).symm,CJ];rfl
    .rintro _ rfl;rfl
   .exact pZ PV.bl (jc j c i d)
  .rw[show(zs.all (id ∘ λz=>decide (0<=z/\z<(Ls.length:Int))))=false from Bool.eq_false_iff.mpr λh=>d λz g=>pU (List.all_eq_true.mp h z g),p7 (by rfl)];refine CO (Dp ?_);rw[oO λh=>d h.2.2.1]
 .rw[oO i,p7 (by rfl)];refine CO (Dp ?_);rw[oO λh=>i h.2.1]
def sJ:B6 ["row","loops","lines","seats","apart"] ["row","loops","lines","seats","apart"] (AO XA):=by walk_at "z1"
def vi(F:AM K "lines_judged" "lines_judged" XA f fd)(m:mg "lines_judged"=some (.ref f)):
  AF P w K mg Zl "lines_judged" 5 ["row","loops","lines","seats","apart"] (Ad iH):=by
 refine Fz.hF (k:=4) F (by walk_at "bD5") m sJ (by rintro _ _⟨t1,t2,ns,Ls,ls,ps,zs,rfl,_,rfl⟩;rfl) λa=>⟨_,(AH rfl (Gi (AR M8 a (A0 (qv 0) (A0 (qv 1) A4))))
   (AL rfl (Am (LI (AR Ug a (A0 (qv 0) (A0 (qv 2) A4))) (LI (AR X8 a (A0 (qv 1) (A0 (qv 2) (A0 (qv 3) A4)))) (LM (AR TU a (A0 (qv 1) (A0 (qv 2) (A0 (qv 4) A4)))))))))),?_⟩
 rintro _ _⟨t1,t2,ns,Ls,ls,ps,zs,rfl,J,rfl⟩;show Ws [.sq t1 (ns.map .str),.sq t2 (Ls.map Lp.P),.is (.lst (ls.map Ac)),.is (.lst (ps.map B8)),.is (.lst (zs.map .int))] _ _ _;have d:HU Ls:=⟨J.Lz,λl b=>CL (CD.len (show CD ns l.r l.g l.cs from J.good l b)) J.nz⟩;refine Ay (Uu (wp_call (FO (GU rfl (FO (GU rfl (Bp ⟨_,⟨t1,ns,t2,Ls,rfl,J.nz,J.Lz,J.good,rfl⟩,λp c=>?_⟩)))))));refine CO (Ru (wp_call (FO (GU rfl (Ag (A5 rfl (Bp ⟨_,⟨t1,ns,ls,rfl,J.nz,J.lz,J.line,rfl⟩,?_⟩)))))));rintro _ rfl;refine⟨_,rfl,?_⟩;unfold Nf;cases e:OT ns ls with
 |false=>rw[mD (by decide)];rfl
 |true=>
  have c:∀l∈ls,l.Perm ns:=λl b=>pU (List.all_eq_true.mp e l b);rw[p7 rfl,GF];refine Ru (wp_call (FO (GU rfl (Ag (A5 rfl (Ag (A5 rfl (Bp ⟨_,⟨t2,ns,Ls,ls,ps,zs,rfl,J,c,rfl⟩,?_⟩))))))));rintro _ rfl;refine⟨_,rfl,?_⟩;cases h:Ll ns.length ls Ls ps with
  |false=>rw[mD (by decide)];rfl
  |true=>
   rw[p7 rfl,GF];refine wp_call (FO (GU rfl (Ag (A5 rfl (Ag (A5 rfl (Bp ⟨_,⟨t2,Ls,ls,zs,rfl,d,J.lz,J.zz,rfl⟩,?_⟩)))))));rintro _ rfl;rfl
def Nj:B6 ["row","loops","lines","seats","loop","line"] ["row","loops"] (AO NW):=by walk_at "z1"
def zK:=Sc [(".0",.local),("name",.local),("loop",.free)]
def vH:Cd ["row","loops","lines","seats","loop","line"] (AO NW) zK "name" ["loop"] [4]:=by walk_at "z2"
def pW:=Sc [(".0",.local),("name",.local),("loop",.free)]
def rg:Cd ["row","loops","lines","seats","loop","line"] (AO NW) pW "name" ["loop"] [4]:=by walk_at "z2"
def ZBZ(F:AM K "_law_stack" "_law_stack" NW f fd)(m:mg "_law_stack"=some (.ref f)):
  AF P w K mg Zl "_law_stack" 1 ["row","loops"] (Ad bL):=by
 refine Fz.hF (k:=0) F (by walk_at "bD2") m Nj (by rintro _ _⟨ns,Ls,rfl,_,_,rfl⟩;rfl) λv=>⟨_,(AH rfl (Ai 2 Nj.nd (Cn A4))
   (AH rfl (Ai 3 Nj.nd (Cn A4))
   (AH rfl (CN (FH EB rfl (D5 (qv 1)) (Ci 4 Nj.nd) (AH rfl (Ai 5 Nj.nd (AW EE (Ft rfl vH (D5 (qv 0)) (λ_ _ _ _=>by exact(K8 (Ax (show B0 _ (compareOp .NotIn) (Hn K true)from lh) (qv 1) (AV (show DF _ (HR K)from Bi) (qv 0) A7)))) (λ_ _ _ _=>by exact(qv 1))) (Ft rfl rg (D5 (qv 0)) (λ_ _ _ _=>by exact(K8 (Ax (show B0 _ (compareOp .In) (Hn K false)from OG) (qv 1) (AV (show DF _ (HR K)from Bi) (qv 0) A7)))) (λ_ _ _ _=>by exact(qv 1)))))
   (AH rfl (Gi (Kq Lx Pj Pk MR (qv 3) (A0 (EM (A0 (Ah Ba AN (A0 (qv 2) A4)) (A0 (AW Jq (Ah Ba AN (A0 (qv 0) A4)) (Ah Ba AN (A0 (AV Bi (qv 4) A7) A4))) A4))) A4)))
   (AL rfl (Gi (Kq Lx Pj Pk MR (qv 2) (A0 (qv 5) A4))))))))
   (AL rfl (Am (EM (A0 (qv 2) (A0 (qv 3) A4)))))))),?_⟩
 rintro _ _⟨ns,Ls,rfl,y,o,rfl⟩;have hL:=o.1;show Ws [.is (.lst (ns.map .str)),.is (.lst (Ls.map Lp.P)),.any,.any,.any,.any] _ _ _;refine Ay (En (EC (Cg ⟨by simp,?_⟩)));refine Ay (En (EC (Cg ⟨by simp,?_⟩)));refine Ay (Dj (FP (λ_ i A6=>∃ls ps s4 c,A6=[.is (.lst (ns.map .str)),.is (.lst (Ls.map Lp.P)),.own (List.map Ac ls),.own (List.map B8 ps),s4,c]/\ls.length=i/\ps.length=i/\∀l∈ls,l.length<=2 * ns.length) (DR (CY (A5 rfl ⟨_,.inl ⟨rfl,⟨[],[],_,_,rfl,rfl,rfl,λl h=>by cases h⟩,?_,?_⟩⟩)))))
 .rintro i p A6 j⟨ls,ps,s4,c,rfl,h1,h2,d⟩;rw[AS]at j;obtain⟨⟨r,g,cs⟩,t,rfl⟩:=Option.map_eq_some_iff.mp j;have hi:i<Ls.length:=(List.getElem?_eq_some_iff.mp t).1;refine GR ?_;show Ws [.is (.lst (ns.map .str)),.is (.lst (Ls.map Lp.P)),.own (ls.map Ac),.own (ps.map B8),.is (.tup [.str r,.int g,.tup (cs.map .str)]),c] _ _ _;refine Ay (En (Pp (B9 (As (EL PV.str (λx=>decide (x∉cs)) PV.str (DR (CY (A5 rfl ⟨_,.inl ⟨rfl,ns,rfl,by omega,λx _=>?_,λx _ _=>A5 rfl rfl,_,.inl ⟨rfl,rfl,?_⟩⟩⟩))) (λa b e=>by injection e))))))
  .show Wt [.is (.tup [.str r,.int g,.tup (cs.map .str)]),.is (.str x)] _ _
   walk_at "ww"
   exact decide_not.symm
  refine B9 (As (EL PV.str (λx=>decide (x∈cs)) PV.str (DR (CY (A5 rfl ⟨_,.inl ⟨rfl,ns,rfl,by omega,λx _=>?_,λx _ _=>A5 rfl rfl,_,.inl ⟨rfl,rfl,?_⟩⟩⟩))) (λa b e=>by injection e)))
  .show Wt [.is (.tup [.str r,.int g,.tup (cs.map .str)]),.is (.str x)] _ _
   walk_at "ww"
   exact decide_eq_decide.mpr Iff.rfl
  have l1:(ns.filter λx=>decide (x∉cs)).length<=ns.length:=PR _ _;have l2:(ns.filter λx=>decide (x∈cs)).length<=ns.length:=PR _ _;refine⟨by rw[AA,AA];omega,?_⟩;rw[<- Cs];generalize u:(ns.filter λx=>decide (x∉cs))++(ns.filter λx=>decide (x∈cs))=line;have n:line.length<=2 * ns.length:=by rw[<- u,BF];omega
  refine IA 5 rfl ?_;show Ws [.is (.lst (ns.map .str)),.is (.lst (Ls.map Lp.P)),.own (ls.map Ac),.own (ps.map B8),.is (.tup [.str r,.int g,.tup (cs.map .str)]),.is (Ac line)] _ _ _
  walk_at "ww"
  refine⟨by simp,by rw[AA];omega,?_⟩;show Ws [_,_,_,.own (_++[B8 (((ls.map Ac).length:Int),((ns.map PV.str).length:Int) - ((cs.map PV.str).length:Int))]),_,_] _ _ _
  walk_at "ww"
  refine⟨by rw[AA];omega,ls++[line],ps++[(((ls.map Ac).length:Int),((ns.map PV.str).length:Int) - ((cs.map PV.str).length:Int))],.is (.tup [.str r,.int g,.tup (cs.map .str)]),.is (Ac line),?_,by rw[BF,h1];rfl,by rw[BF,h2];rfl,λl s=>?_⟩
  .rw[Cs,Cs (l₁:=ps)];rfl
  .rcases List.mem_append.mp s with q|q
   .exact d l q
   .rw[List.mem_singleton.mp q];exact n
 .rintro A6⟨ls,ps,s4,c,rfl,h1,h2,d⟩;refine IA 2 rfl ?_;refine IA 3 rfl ?_;rw[AA]at h1 h2;exact CO (JK (Cb (A5 rfl (Cb (A5 rfl (Cg ⟨by simp,ls,ps,rfl,h1,d,h2⟩))))))
def Ox:B6 ["row","loops","lines","seats","loop","seat","line","gap"] ["row","loops","lines","seats"] (AO V9):=by walk_at "z1"
def qp(F:AM K "_law_seats_right" "_law_seats_right" V9 f fd)(m:mg "_law_seats_right"=some (.ref f)):
  AF P w K mg Zl "_law_seats_right" 1 ["row","loops","lines","seats"] (Ad gz):=by
 refine Fz.hF (k:=0) F (by walk_at "bD4") m Ox (by rintro _ _⟨ns,Ls,ls,ps,zs,rfl,_,_,rfl⟩;rfl) λB=>⟨_,(AH rfl (BY (Ax LX (Ah Ba AN (A0 (qv 3) A4)) (Ah Ba AN (A0 (qv 1) A4))) (AL rfl (Am Ds)) Bg)
   (AH rfl (CN (FH EB rfl (ZCA rfl MT (A0 (qv 1) (A0 (qv 3) A4))) (N0 rfl (Fm (Ci 4 Ox.nd) (Fm (Ci 5 Ox.nd) Mu))) (AH rfl (IV (qv 5) (N0 rfl (Fm (Ci 6 Ox.nd) (Fm (Ci 7 Ox.nd) Mu))))
   (AH rfl (BY (Iy (Jl (Vj Mm LA A7 (qv 6) (Ah Ba AN (A0 (qv 2) A4)))) (IZ (Ax LX (qv 7) (AW Jq (Ah Ba AN (A0 (qv 0) A4)) (Ah Ba AN (A0 (AV Bi (qv 4) A7) A4)))))).pt (AL rfl (Am Ds)) Bg)
   (AL rfl (BY (Ax (NL B.EX) (Ah Lg CI (A0 (Ca Cm (AV BO (qv 2) (qv 6)) (CT (qv 7)) CV) A4)) (Cu HF DC (A0 (AV Bi (qv 4) A7) A4))) (AL rfl (Am Ds)) Bg))))))
   (AL rfl (Am Ds)))),?_⟩
 rintro _ _⟨ns,Ls,ls,ps,zs,rfl,J,C,rfl⟩;have h1:=J.Lz;have h2:=J.pz;have L:=J.lz;have H:=J.nz;show Ws [.is (.lst (ns.map .str)),.is (.lst (Ls.map Lp.P)),.is (.lst (ls.map Ac)),.is (.lst (ps.map B8)),.any,.any,.any,.any] _ _ _;unfold Ll
 walk_at "ww"
 rw[AA,AA];refine BP (λc=>?_) (λc=>?_)
 .have c:¬ ps.length=Ls.length:=λz=>by rw[z]at c;exact absurd c (by show ¬ (!decide _)=true;rw[kc rfl];decide)
  rw[oO c];exact CO (Dp rfl)
 have c:ps.length=Ls.length:=JN λz=>c (by show(!decide _)=true;rw[oO λy=>z (Int.ofNat_inj.mp y)];rfl);rw[kc c,GF];refine C0 (Ay (Dj (FP (λ_ i A6=>∃s4 q o n,A6=[.is (.lst (ns.map .str)),.is (.lst (Ls.map Lp.P)),.is (.lst (ls.map Ac)),.is (.lst (ps.map B8)),s4,q,o,n]/\((Ls.zip ps).take i).all (λx=>FG ns.length ls x.1 x.2)=true) (lJ (CY (A5 rfl ⟨_,.inl ⟨rfl,rfl,CY (A5 rfl ⟨_,.inl ⟨rfl,rfl,⟨_,_,_,_,rfl,rfl⟩,?_,?_⟩⟩)⟩⟩))))))
 .rintro i p A6 v⟨s4,q,o,n,rfl,hi⟩;rw[RL,AS]at v;obtain⟨⟨⟨r,g,cs⟩,⟨a,b⟩⟩,ex,rfl⟩:=Option.map_eq_some_iff.mp v;have gd:CD ns r g cs:=J.good _ (TC (Bc ex)).1;have I:=CD.len gd;refine NN ⟨_,_,rfl,?_⟩;refine Ay (QM (A5 rfl (NN ⟨_,_,rfl,?_⟩)));show Ws [.is (.lst (ns.map .str)),.is (.lst (Ls.map Lp.P)),.is (.lst (ls.map Ac)),.is (.lst (ps.map B8)),.is (.tup [.str r,.int g,.tup (cs.map .str)]),.is (.tup [.int a,.int b]),.is (.int a),.is (.int b)] _ _ _;have d:FG ns.length ls ⟨r,g,cs⟩ (a,b)=false->∀{nx:List Slot->Prop},Ws [.is (.lst (ns.map .str)),.is (.lst (Ls.map Lp.P)),.is (.lst (ls.map Ac)),.is (.lst (ps.map B8)),.is (.tup [.str r,.int g,.tup (cs.map .str)]),.is (.tup [.int a,.int b]),.is (.int a),.is (.int b)] (Fb (tC (.bl false))) nx (.is λx=>x=.bl ((Ls.zip ps).all λx=>FG ns.length ls x.1 x.2)):=λh{_}=>CO (Dp (pZ PV.bl (ky ex h).symm));have step:((Ls.zip ps).take (i+1)).all (λx=>FG ns.length ls x.1 x.2)=FG ns.length ls ⟨r,g,cs⟩ (a,b):=ZAB ex hi;refine Ay (D2 (L4 (Le (GY (Od (C6 ⟨_,rfl,A5 rfl ⟨_,rfl,?_⟩⟩))))))
  by_cases u:0<=a
  .rw[p7 (kc u)];refine G0 (Aq rfl ⟨_,rfl,_,rfl,?_⟩);rw[AA]
   by_cases t:a<(ls.length:Int)
   .rw[kc t,mD (by decide)];obtain⟨k,rfl⟩:∃k:Nat,a=k:=⟨a.toNat,by omega⟩;have hk:k<ls.length:=by omega
    obtain⟨line,el⟩:∃l,ls[k]?=some l:=⟨_,AQ hk⟩;have pl:=C line (Bc el);have G:=pl.length_eq;rw[gB el]at step d
    walk_at "ww"
    rw[AA,AA];refine BP (λe=>?_) (λe=>?_)
    .refine d ?_;rw[oO (show ¬ b=(ns.length:Int) - (cs.length:Int)from λz=>by subst z;exact absurd e (by show ¬ (!decide _)=true;rw[kc rfl];decide)),T1]
    .have e:b=(ns.length:Int) - (cs.length:Int):=JN λz=>e (by show(!decide _)=true;rw[oO z];rfl);obtain⟨m,s⟩:∃m:Nat,ns.length - cs.length=m:=⟨_,rfl⟩;have D:b=(m:Int):=by omega
     subst D;have E:(m:Int)=(ns.length:Int) - ((⟨r,g,cs⟩:Lp).cs.length:Int):=e;have s:ns.length - (⟨r,g,cs⟩:Lp).cs.length=m:=s;rw[kc E,GF,s]at step d;refine C0 (D2 (Ec (cV (B9 (As (L8 (B9 (As (Ol (B9 (DL (Aq rfl ⟨rfl,A5 rfl ⟨_,Ac line,rfl,D4 (by rw[AS,el];rfl),_,.inl ⟨rfl,rfl,OX (A5 rfl ⟨_,rfl,Nb ⟨_,.inl ⟨rfl,line.drop m,?_,by rw[Dl];omega,λA p1 s1=>⟨_,.inl ⟨rfl,A,rfl,?_⟩⟩⟩⟩⟩)⟩⟩⟩))))))))))))
     .rw[W8,YX]
     .refine B9 (As (GL rfl (B9 (JW (MV rfl ⟨rfl,C6 ⟨_,_,rfl,rfl,_,.inr ⟨rfl,_,.inl ⟨rfl,rfl,cs,rfl,_,rfl,?_⟩⟩⟩⟩)))));rw[ZZ gd.up p1 s1]
      by_cases j:(line.drop m).Perm cs
      .rw[kc j,mD (by decide)];exact C0 ⟨_,_,_,_,rfl,by rw[step];exact kc j⟩
      .rw[oO j,p7 (by rfl)];exact d (oO j)
   .rw[oO t,p7 (by rfl),p7 rfl];exact d (dF t)
  .rw[mD (λz=>u (pU z))];refine⟨_,rfl,?_⟩;rw[p7 (by rfl)];exact d (aa u)
 .rintro A6⟨s4,q,o,n,rfl,hi⟩;rw[RL,AA,Ei]at hi;rw[hi];exact CO (Dp rfl)
def qD:B6 ["one","other"] ["one","other"] (AO WE):=by walk_at "z1"
def kF(F:AM K "_law_within" "_law_within" WE f fd)(m:mg "_law_within"=some (.ref f)):
  AF P w K mg Zl "_law_within" 1 ["one","other"] (Ad cg):=by
 refine Fz.hF (k:=0) F (by walk_at "bD2") m qD (by rintro _ _⟨l1,l2,rfl,_,_,rfl⟩;rfl) λi=>⟨_,(AL rfl (Am (GI (oh i.EX) (Cu (OS rfl) FR (A0 (AW ZBH (AV Bi (qv 0) A7) (AV Bi (qv 1) A7)) A4)) (Cu (OS rfl) FR (A0 (AV Bi (qv 1) A7) A4))))),?_⟩
 rintro _ _⟨⟨e,g1,c⟩,⟨d,l,a⟩,rfl,h,g,rfl⟩;have o:c.length<=40:=h;have n:a.length<=40:=g;show Ws [.is (.tup [.str e,.int g1,.tup (c.map .str)]),.is (.tup [.str d,.int l,.tup (a.map .str)])] _ _ _;refine CO (mx ?_);refine B9 (kK ?_)
 walk_at "ww"
 refine⟨_,rfl,?_⟩
 walk_at "ww"
 refine⟨_,rfl,by rw[AA,AA];omega,_,.inr ⟨rfl,c++a,List.map_append.symm,by rw[BF];omega,?_⟩⟩
 walk_at "ww"
 refine⟨by omega,λb j=>?_⟩;refine pZ PV.bl (Bool.eq_iff_iff.mpr (j.trans ?_));rw[qO];exact⟨λz x hx=>(z x).mp (Dm _ hx),λz x=>⟨λhx=>(List.mem_append.mp hx).elim (z x) id,λhx=>C5 _ hx⟩⟩
def sD:B6 ["one","other"] ["one","other"] (AO U1):=by walk_at "z1"
def vG(F:AM K "_law_fit" "_law_fit" U1 f fd)(m:mg "_law_fit"=some (.ref f)):
  AF P w K mg Zl "_law_fit" 2 ["one","other"] (Ad Mn):=by
 refine Fz.hF (k:=1) F (by walk_at "bD2") m sD (by rintro _ _⟨l1,l2,rfl,_,_,rfl⟩;rfl) λd=>⟨_,(AL rfl (Am (fA (AR RG d (A0 (qv 0) (A0 (qv 1) A4))) (LM (AR RG d (A0 (qv 1) (A0 (qv 0) A4))))))),?_⟩
 rintro _ _⟨l1,l2,rfl,b,a,rfl⟩;show Ws [.is l1.P,.is l2.P] _ _ _
 walk_at "ww"
 refine wp_call (Ag (A5 rfl (Ag (A5 rfl (Bp ⟨_,⟨l1,l2,rfl,b,a,rfl⟩,?_⟩)))));rintro _ rfl;refine⟨_,rfl,?_⟩
 by_cases c:EA l2 l1
 .rw[kc c,p7 rfl,kc (show EA l2 l1∨EA l1 l2 from .inl c)]
 .rw[oO c,mD (by decide)];refine wp_call (Ag (A5 rfl (Ag (A5 rfl (Bp ⟨_,⟨l2,l1,rfl,a,b,rfl⟩,?_⟩)))));rintro _ rfl;exact pZ PV.bl (decide_eq_decide.mpr ⟨.inr,λz=>z.resolve_left c⟩)
def bj:B6 ["loops","apart","k"] ["loops","apart"] (AO S6):=by walk_at "z1"
def ZBA:=Sc [(".0",.local),("j",.local),("_law_fit",.globalImplicit),("apart",.free),("k",.free),("loops",.free)]
def ZB5:Cd ["loops","apart","k"] (AO S6) ZBA "j" ["apart","k","loops"] [1,2,0]:=by walk_at "z2"
def we(F:AM K "_law_apart" "_law_apart" S6 f fd)(m:mg "_law_apart"=some (.ref f)):
  AF P w K mg Zl "_law_apart" 3 ["loops","apart"] (Ad cH):=by
 refine Fz.hF (k:=2) F (by walk_at "bD2") m bj (by rintro _ _⟨Ls,zs,rfl,_,_,rfl⟩;rfl) λG=>⟨_,(AH rfl (CN (FH EB rfl (Hs rfl CM (A0 (Ah Ba AN (A0 (qv 1) A4)) A4)) (Ci 2 bj.nd) (AH rfl (BY (Iy (Jl (Vj Mm LA A7 (AV BO (qv 1) (qv 2)) (Ah Ba AN (A0 (qv 0) A4)))) (IZ (Mr (Ax JD (qv 2) A7) (P1 (Ax Yx (AV BO (qv 1) (AW Jq (qv 2) A7)) (AV BO (qv 1) (qv 2))))).pt)).pt (AL rfl (Am Ds)) Bg)
   (AL rfl (BY (Jo (Ah (RZ rfl) Gd (A0 (Ft rfl ZB5 (Hs rfl CM (A0 (qv 2) A4)) (λ_ _ _ _=>by exact G7) (λ_ _ _ _=>by exact(AR Ly G (A0 (AV (show DF _ (DE K)from BO) (qv 2) (AV (show DF _ (DE K)from BO) (qv 0) (qv 3))) (A0 (AV (show DF _ (DE K)from BO) (qv 2) (AV (show DF _ (DE K)from BO) (qv 0) (qv 1))) A4))))) A4))) (AL rfl (Am Ds)) Bg)))))
   (AL rfl (Am Ds))),?_⟩
 rintro _ _⟨Ls,zs,rfl,u,M,rfl⟩;have hL:=u.1;show Ws [.is (.lst (Ls.map Lp.P)),.is (.lst (zs.map .int)),.any] _ _ _;refine Ay (Dj (FP (λ_ i A6=>∃s2,A6=[.is (.lst (Ls.map Lp.P)),.is (.lst (zs.map .int)),s2]/\EU Ls (zs.take i)) (Kw (G0 (Aq rfl ⟨(zs.length:Int),by rw[AA],by omega,by omega,⟨_,rfl,?_⟩,?_,?_⟩)))))
 .exact ZBg Ls
 .rintro i p A6 I⟨s2,rfl,hi⟩;obtain⟨hk,rfl⟩:=NJ I;rw[GG]at hk;obtain⟨z,C⟩:∃z,zs[i]?=some z:=⟨_,AQ hk⟩;have D:zs.take (i+1)=zs.take i++[z]:=by rw[jQ,C];rfl
  have B:BZ (zs.map PV.int) (i:Int)=some (.int z):=D4 (by rw[AS,C];rfl);have c:=sS (z:=z) hi;have d:¬ EU Ls (zs.take i++[z])->∀{nx:List Slot->Prop},Ws [.is (.lst (Ls.map Lp.P)),.is (.lst (zs.map .int)),.is (.int i)] (Fb (tC (.bl false))) nx (.is λx=>x=.bl (decide (EU Ls zs))):=λh{_}=>CO (Dp (pZ PV.bl (oO λg=>h (by rw[<- D];exact g.sub (jR _ _))).symm));refine GR ?_;show Ws [.is (.lst (Ls.map Lp.P)),.is (.lst (zs.map .int)),.is (.int i)] _ _ _;refine Ay (D2 (L4 (Le (GY (Od (C6 ⟨_,rfl,DL (Aq rfl ⟨rfl,A5 rfl ⟨_,_,rfl,B,_,rfl,?_⟩⟩)⟩))))))
  by_cases o:0<=z
  .rw[p7 (kc o)];refine G0 (Aq rfl ⟨_,rfl,_,rfl,?_⟩);rw[AA]
   by_cases t:z<(Ls.length:Int)
   .rw[kc t,mD (by decide)];have rest:(∀y,(zs.take i).getLast?=some y->y<z)->Ws [.is (.lst (Ls.map Lp.P)),.is (.lst (zs.map .int)),.is (.int i)] (MM (tB (CQ (λxs H Q=>∃p bs,xs=[V.ref p]/\AK K H p (List.map V.bl bs)/\Q (V.bl (bs.any id)) H) (Ae (HP (RS (Ae (Ap 2) BK)) [1,2,0] MU (EZ (Ad Mn) [] E0 (Ae (Au (DE K) (Ap 2) (Au (DE K) (Ap 0) (Ap 3))) (Ae (Au (DE K) (Ap 2) (Au (DE K) (Ap 0) (Ap 1))) BK)))) BK))) (Fb (tC (V.bl false))) Sd) (λA6=>∃s2,A6=[.is (.lst (Ls.map Lp.P)),.is (.lst (zs.map .int)),s2]/\EU Ls (zs.take (i+1))) (.is λx=>x=.bl (decide (EU Ls zs))):=λAB=>by
     obtain⟨b,A⟩:∃b,Ls[z.toNat]?=some b:=⟨_,AQ (by omega)⟩;refine D2 (GY (OL rfl (B9 (As (EL nP (λ_=>true) (λj=>PV.bl (Co Ls (zs.getD j 0).toNat z.toNat)) (Kw (A5 rfl ⟨(i:Int),rfl,by omega,by omega,List.range i,rfl,by rw[Cc];omega,λ_ _=>G2 rfl,λj v _=>?_,_,.inl ⟨rfl,rfl,(List.range i).map λj=>Co Ls (zs.getD j 0).toNat z.toNat,by rw[List.filter_eq_self.mpr λ_ _=>rfl,CJ];rfl,_,rfl,?_⟩⟩)) Rt)))))
     .have v:=List.mem_range.mp v;obtain⟨y,l⟩:∃y,zs[j]?=some y:=⟨_,AQ (by omega)⟩;have e:=hi.2.1 y (Bc (show(zs.take i)[j]?=some y by rw[jK v,l]));obtain⟨a,ea⟩:∃a,Ls[y.toNat]?=some a:=⟨_,AQ (by omega)⟩;have J:zs.getD j 0=y:=by rw[IJ,l];rfl
      rw[J];show Wp [.is (.lst (zs.map .int)),.is (.int i),.is (.lst (Ls.map Lp.P)),.is (nP j)] _ _;refine wp_call (Ag (DL (Aq rfl ⟨rfl,DL (Aq rfl ⟨rfl,A5 rfl ⟨_,_,rfl,D4 (by rw[AS,l];rfl),_,a.P,rfl,dB e.1 (by rw[AS,ea];rfl),Ag (DL (Aq rfl ⟨rfl,DL (Aq rfl ⟨rfl,A5 rfl ⟨_,_,rfl,B,_,b.P,rfl,dB o (by rw[AS,A];rfl),Bp ⟨_,⟨a,b,rfl,u.2 a (Bc ea),u.2 b (Bc A),rfl⟩,?_⟩⟩⟩)⟩))⟩⟩)⟩)));rintro _ rfl;rw[WK ea A]
     .have e0:(((List.range i).map λj=>Co Ls (zs.getD j 0).toNat z.toNat).any id)=true↔¬ ∀x∈zs.take i,Co Ls x.toNat z.toNat=false:=jq (zs:=zs) (i:=i) (f:=λx=>Co Ls x.toNat z.toNat) (by omega)
      by_cases r:∀x∈zs.take i,Co Ls x.toNat z.toNat=false
      .rw[mD λz=>e0.mp z r];exact C0 ⟨_,rfl,by rw[D];exact c.mpr ⟨⟨o,t⟩,AB,r⟩⟩
      .rw[p7 (e0.mpr r)];exact d λh=>r (c.mp h).2.2
    refine bh (Ec ?_)
    walk_at "ww"
    refine BP (λs=>?_) (λs=>?_)
    .have s:(0:Int)<i:=pU s;obtain⟨m,rfl⟩:∃m,i=m+1:=⟨i - 1,by omega⟩;obtain⟨y,l⟩:∃y,zs[m]?=some y:=⟨_,AQ (by omega)⟩;have el:(zs.take (m+1)).getLast?=some y:=by rw[jQ,l];exact jL
     walk_at "ww"
     refine⟨_,.int y,rfl,?_,?_⟩
     .rw[show(((m+1:Nat):Int) - 1)=(m:Int) by omega];exact D4 (by rw[AS,l];rfl)
     walk_at "ww"
     refine⟨_,_,rfl,B,?_⟩
     walk_at "ww"
     refine BP (λn=>?_) (λn=>?_)
     .have n:z<=y:=pU n;exact d λh=>by have:=(c.mp h).2.1 y el;omega
     .have n:¬ z<=y:=λq=>n (kc q);refine C0 (rest λL e=>?_);rw[el]at e;cases e;omega
    .have E:i=0:=by have:¬ (0:Int)<i:=λz=>s (kc z);omega
     refine C0 (rest λy e=>?_);rw[E]at e;cases e
   .rw[oO t,p7 (by rfl),p7 rfl];exact d λh=>t (c.mp h).1.2
  .rw[mD (λz=>o (pU z))];refine⟨_,rfl,?_⟩;rw[p7 (by rfl)];exact d λh=>o (c.mp h).1.1
 .rintro A6⟨s2,rfl,hi⟩;rw[JZ,GG,Ei]at hi;exact CO (Dp (pZ PV.bl (kc hi).symm))
def vq:B6 ["row","loops","lines","seats","apart"] ["row","loops","lines","seats","apart"] (AO QR):=by walk_at "z1"
def yV:=Sc [(".0",.local),("line",.local),("sorted",.globalImplicit),("row",.free)]
def la:Cd ["row","loops","lines","seats","apart"] (AO QR) yV "line" ["row"] [0]:=by walk_at "z2"
def ZAk(F:AM K "_law_due" "_law_due" QR f fd)(m:mg "_law_due"=some (.ref f)):
  AF P w K mg Zl "_law_due" 4 ["row","loops","lines","seats","apart"] (Ad aG):=by
 refine Fz.hF (k:=3) F (by walk_at "bD5") m vq (by rintro _ _⟨ns,Ls,ls,ps,zs,rfl,_,rfl⟩;rfl) λb=>⟨_,(AH rfl (BY (Iy (Ax LX (Ah Ba AN (A0 (qv 4) A4)) (Ah Ba AN (A0 (qv 2) A4))) (IZ (Jl (Jo (Ah (P6 rfl) Ek (A0 (Ft rfl la (D5 (qv 2)) (λ_ _ _ _=>by exact G7) (λ_ _ _ _=>by exact(GI (show B0 _ (compareOp .Eq) (Ir K false)from(Mw b.EX)) (Ah (show Bk _ (.builtin "sorted") (M5 K)from Lg) CI (A0 (qv 1) A4)) (Ah (show Bk _ (.builtin "sorted") (M5 K)from Lg) CI (A0 (qv 0) A4))))) A4)))))).pt (AL rfl (Am Ds)) Bg)
   (AL rfl (Am (LI (AR TV b (A0 (qv 0) (A0 (qv 1) (A0 (qv 2) (A0 (qv 3) A4))))) (LM (AR YD b (A0 (qv 1) (A0 (qv 4) A4)))))))),?_⟩
 rintro _ _⟨ns,Ls,ls,ps,zs,rfl,J,rfl⟩;have j:HU Ls:=⟨J.Lz,λl a=>CL (CD.len (show CD ns l.r l.g l.cs from J.good l a)) J.nz⟩;have n:=J.nz;have a:=J.lz;have hk:=J.line;have o:=J.zz;show Ws [.is (.lst (ns.map .str)),.is (.lst (Ls.map Lp.P)),.is (.lst (ls.map Ac)),.is (.lst (ps.map B8)),.is (.lst (zs.map .int))] _ _ _;refine Ay (D2 (L4 (Ec ?_)))
 walk_at "ww"
 rw[AA,AA];unfold Nf;refine BP (λc=>?_) (λc=>?_)
 .have c:¬ zs.length=ls.length:=λz=>by rw[z]at c;exact absurd c (by show ¬ (!decide _)=true;rw[kc rfl];decide)
  refine CO (Dp (pZ PV.bl ?_));rw[oO λz=>c z.1,IH,IH]
 have c:zs.length=ls.length:=JN λz=>c (by show(!decide _)=true;rw[oO λy=>z (Int.ofNat_inj.mp y)];rfl);refine Le (GY (Ov rfl (B9 (As (EL Ac (λ_=>true) (λl=>PV.bl (decide (l.Perm ns))) (DR (CY (A5 rfl ⟨_,.inl ⟨rfl,ls,rfl,by omega,λ_ _=>G2 rfl,λl a _=>?_,_,.inl ⟨rfl,rfl,ls.map λl=>decide (l.Perm ns),?_,_,rfl,?_⟩⟩⟩))) Sy)))))
 .have:=hk l a;show Wp [.is (.lst (ns.map .str)),.is (Ac l)] _ _;refine SH (B9 (As (L8 (B9 (A5 rfl ⟨_,.inl ⟨rfl,l,rfl,by omega,λd p1 s1=>⟨_,.inl ⟨rfl,d,rfl,?_⟩⟩⟩⟩)))));refine B9 (As (L8 (Aq rfl ⟨ns,rfl,by omega,λm2 p2 s2=>⟨_,.inl ⟨rfl,rfl,m2,rfl,?_⟩⟩⟩)));exact pZ PV.bl (ZE p1 s1 p2 s2)
 .rw[List.filter_eq_self.mpr λ_ _=>rfl,CJ];rfl
 rw[show((ls.map λl=>decide (l.Perm ns)).all id)=OT ns ls by rw[PM];rfl];cases e:OT ns ls with
 |false=>
  rw[p7 (by rfl)];exact CO (Dp rfl)
 |true=>
  have i:∀l∈ls,l.Perm ns:=λl a=>pU (List.all_eq_true.mp e l a);rw[mD (by decide)];refine C0 (CO (Ru (wp_call (Ag (A5 rfl (Ag (A5 rfl (Ag (A5 rfl (Ag (A5 rfl (Bp ⟨_,⟨ns,Ls,ls,ps,zs,rfl,J,i,rfl⟩,?_⟩))))))))))));rintro _ rfl;refine⟨_,rfl,?_⟩;rw[GF];cases p:Ll ns.length ls Ls ps with
  |false=>rw[mD (by decide)];rfl
  |true=>
   rw[p7 rfl,GF];refine wp_call (Ag (A5 rfl (Ag (A5 rfl (Bp ⟨_,⟨Ls,zs,rfl,j,J.zz,rfl⟩,?_⟩)))));rintro _ rfl;exact pZ PV.bl (decide_eq_decide.mpr ⟨λh=>⟨c,h⟩,And.right⟩)
def Jf:B6 ["loops","best","rows","some","start","k"] ["loops"] (AO SW):=by walk_at "z1"
def mN:=Sc [(".0",.local),("j",.local),("_law_fit",.globalImplicit),("k",.free),("loops",.free)]
def ZAx:Cd ["loops","best","rows","some","start","k"] (AO SW) mN "j" ["k","loops"] [5,0]:=by walk_at "z2"
def qM(F:AM K "_law_fewest_lines" "_law_fewest_lines" SW f fd)(m:mg "_law_fewest_lines"=some (.ref f)):
  AF P w K mg Zl "_law_fewest_lines" 3 ["loops"] (Ad aJ):=by
 refine Fz.hF (k:=2) F (by walk_at "bD1") m Jf (by rintro _ _⟨Ls,rfl,_,rfl⟩;rfl) λn=>⟨_,(AH rfl (Ai 1 Jf.nd (Cn A4))
   (AH rfl (Ai 2 Jf.nd (Cn (A0 (Cn A4) A4)))
   (AH rfl (CN (S7 EB (Ax (SQ n.EX) (qv 2) (Cn A4)) (AH rfl (Ai 3 Jf.nd (nJ Lx PySem.F.slot_list_pop PySem.F.type_list_pop t5 (qv 2)))
   (AH rfl (CN (BY (Ax JD (Ah Ba AN (A0 (qv 3) A4)) (Ah Ba AN (A0 (qv 1) A4))) (AL rfl (Ai 1 Jf.nd (qv 3))) Bg))
   (AH rfl (Ai 4 Jf.nd A7)
   (AH rfl (CN (BY (Ax (SQ n.EX) (qv 3) (Cn A4)) (AL rfl (Ai 4 Jf.nd (AW D7 (AV BO (qv 3) (QQ RE A7)) A7))) Bg))
   (AL rfl (FH EB rfl (ZCC rfl CM (A0 (qv 4) (A0 (Ah Ba AN (A0 (qv 0) A4)) A4))) (Ci 5 Jf.nd) (AL rfl (BY (Jl (Jo (Ah (RZ rfl) Gd (A0 (Ft rfl ZAx (D5 (qv 3)) (λ_ _ _ _=>by exact G7) (λ_ _ _ _=>by exact(AR Ly n (A0 (AV (show DF _ (DE K)from BO) (qv 1) (qv 2)) (A0 (AV (show DF _ (DE K)from BO) (qv 1) (qv 0)) A4))))) A4)))) (AL rfl (Gi (Kq Lx Pj Pk MR (qv 2) (A0 (AW EE (qv 3) (Cn (A0 (qv 5) A4))) A4)))) Bg))))))))))
   (AL rfl (Am (qv 1)))))),?_⟩
 rintro _ _⟨Ls,rfl,g,rfl⟩;have hL:=g.1;have h2:(2:Nat) ^ Ls.length<=4096:=Nat.pow_le_pow_right (by decide) hL;show Ws [.is (.lst (Ls.map Lp.P)),.any,.any,.any,.any,.any] _ _ _;refine Ay (En (EC (Cg ⟨by simp,?_⟩)));refine IA 1 rfl ?_;refine Ay (En (EC (Cb (As (EC (Cg ⟨by simp,Cg ⟨by simp,?_⟩⟩))))));show Ws [.is (.lst (Ls.map Lp.P)),.is (B5 []),.own ([[]].map B5),.any,.any,.any] _ _ _;refine Ay (Dj (gU (λm A6=>∃b rs t s4 d,A6=[.is (.lst (Ls.map Lp.P)),.is (B5 b),.own (List.map B5 rs),t,s4,d]/\LO Ls b rs/\WN Ls.length rs=m/\m<=4096) _ ⟨[],[[]],_,_,_,rfl,LO.init Ls,rfl,?_⟩ ?_))
 .rw[UO];exact h2
 rintro m _⟨b,rs,t,s4,d,rfl,I,o,G⟩;refine Ec (UZ (Hv rfl ⟨rfl,B9 (As (EC (Cg ⟨by simp,_,.inl ⟨rfl,rfl,rfl,_,rfl,?_⟩⟩)))⟩));rcases YU rs with rfl|⟨rs,s,rfl⟩
 .rw[mD (by decide)];exact CO (A5 rfl ⟨b,rfl,I.best⟩)
 rw[YR]at I o ⊢;rw[p7 (by simp)];have gs:RowW Ls s:=I.rows s (by simp);refine Ay (pj (j:=2) (y:=B5 s) rfl (by simp) ?_);rw[Cs,DG,T8,List.dropLast_concat];show Ws [.is (.lst (Ls.map Lp.P)),.is (B5 b),.own (rs.map B5),.is (B5 s),s4,d] _ _ _;refine Ke (λA6=>A6=[.is (.lst (Ls.map Lp.P)),.is (B5 (Kk b s)),.own (rs.map B5),.is (B5 s),s4,d]) (Dj ?_) ?_
 .refine D2 ?_
  walk_at "ww"
  rw[AA,AA];unfold Kk
  by_cases c:b.length<s.length
  .rw[p7 c,p7 (kc (Int.ofNat_lt.mpr c))];exact GW (A5 rfl rfl)
  .rw[mD c,mD (λz=>c (Int.ofNat_lt.mp (pU z)))];exact C0 rfl
 rintro _ rfl;refine Ay (GW (C6 ?_));refine Ke (λA6=>A6=[.is (.lst (Ls.map Lp.P)),.is (B5 (Kk b s)),.own (rs.map B5),.is (B5 s),.is (nP (BR s)),d]) (Dj ?_) ?_
 .refine D2 (Ec (UZ (Aq rfl ⟨rfl,B9 (As (EC (Cg ⟨by simp,_,.inl ⟨rfl,rfl,rfl,_,rfl,?_⟩⟩)))⟩)));rw[AA];cases e:s.getLast? with
  |none=>
   rw[List.getLast?_eq_none_iff]at e;subst e;rw[mD (by decide)];exact C0 rfl
  |some x=>
   have v:¬ s.length=0:=λz=>by rw[List.length_eq_zero_iff.mp z]at e;cases e
   rw[p7 (by rw[oO v];rfl)];refine GW (Jb (DL (Aq rfl ⟨rfl,WA (C6 ⟨_,rfl,_,_,rfl,sR e,_,rfl,C6 ⟨_,rfl,?_⟩⟩)⟩)));rw[show BR s=x+1 by unfold BR;rw[e]];rfl
 rintro _ rfl;have H:BR s<=Ls.length:=by
  rcases YU s with rfl|⟨l,y,rfl⟩
  .exact Bm _
  .rw[YR]at gs ⊢;rw[VH];exact gs.lt y (by simp)
 rw[Ux,UO]at o;have hw:=Tt Ls.length rs;have u:0<wN Ls.length s:=jW _;refine FP (λ_ i A6=>∃d,A6=[.is (.lst (Ls.map Lp.P)),.is (B5 (Kk b s)),.own ((rs++exts Ls s i).map B5),.is (B5 s),.is (nP (BR s)),d]) (fi (A5 rfl ⟨_,rfl,G0 (Aq rfl ⟨(Ls.length:Int),by rw[AA],by omega,⟨_,by rw[show exts Ls s 0=[]from rfl,GH]⟩,?_,?_⟩)⟩))
 .rintro i p A6 u⟨d,rfl⟩;obtain⟨hi,rfl⟩:=vg u;have J:i<Ls.length - BR s:=by omega
  refine GR ?_;rw[show((BR s:Int)+(i:Int))=((BR s+i:Nat):Int) by omega];show Ws [.is (.lst (Ls.map Lp.P)),.is (B5 (Kk b s)),.own ((rs++exts Ls s i).map B5),.is (B5 s),.is (nP (BR s)),.is (nP (BR s+i))] _ _ _;obtain⟨c,r⟩:∃c,Ls[BR s+i]?=some c:=⟨_,AQ (by omega)⟩;refine D2 (Le (GY (OL rfl (B9 (As (EL nP (λ_=>true) (λj=>PV.bl (Co Ls j (BR s+i))) (DR (CY (A5 rfl ⟨_,.inl ⟨rfl,s,rfl,?_,λ_ _=>G2 rfl,λj A _=>?_,_,.inl ⟨rfl,rfl,s.map λj=>Co Ls j (BR s+i),?_,_,rfl,?_⟩⟩⟩))) (λa b e=>by injection e with e;exact Int.ofNat_inj.mp e)))))))
  .have q:=Kz.IU (l2:=List.range Ls.length) (gs.up.imp λh=>An h) λx hx=>List.mem_range.mpr (gs.lt x hx);rw[Cc]at q;omega
  .obtain⟨a,ea⟩:∃a,Ls[j]?=some a:=⟨_,AQ (gs.lt j A)⟩;show Wp [.is (nP (BR s+i)),.is (.lst (Ls.map Lp.P)),.is (nP j)] _ _;refine wp_call (Ag (DL (Aq rfl ⟨rfl,A5 rfl ⟨_,a.P,rfl,D4 (by rw[AS,ea];rfl),Ag (DL (Aq rfl ⟨rfl,A5 rfl ⟨_,c.P,rfl,D4 (by rw[AS,r];rfl),Bp ⟨_,⟨a,c,rfl,g.2 a (Bc ea),g.2 c (Bc r),rfl⟩,?_⟩⟩⟩))⟩⟩)));rintro _ rfl;rw[WK ea r]
  .rw[List.filter_eq_self.mpr λ_ _=>rfl,CJ];rfl
  have ea:((s.map λj=>Co Ls j (BR s+i)).any id)=s.any λj=>Co Ls j (BR s+i):=by rw[YQ];rfl
  rw[ea];have es:=bK Ls s i;have hx:(rs++exts Ls s i).length<=8192:=by
   have E:=Tt Ls.length (exts Ls s i);have D:=UG Ls s Ls.length i (by omega);have C:wN Ls.length s=2 ^ (Ls.length - BR s):=rfl;have B:=jW (Ls.length - BR s - i);rw[BF];omega
  cases e:s.any λj=>Co Ls j (BR s+i)with
  |true=>
   rw[e,p7 rfl,GH]at es;rw[mD (by decide)];exact C0 ⟨_,by rw[es]⟩
  |false=>
   rw[e,mD (by decide)]at es;rw[p7 (by rfl)];refine UT rfl (As (Pp (Aq rfl ⟨rfl,B9 (As (EC (Cb (A5 rfl (Cg ⟨by simp,_,.inl ⟨rfl,rfl,?_,?_⟩⟩)))))⟩)))
   .have q:=Kz.IU (l2:=List.range Ls.length) (gs.up.imp λh=>An h) λx hx=>List.mem_range.mpr (gs.lt x hx);rw[Cc]at q;rw[AA];show _+1<=_;omega
   .refine⟨by rw[AA];omega,.is (nP (BR s+i)),?_⟩;rw[es,<- Bt,Cs (l₁:=rs++exts Ls s i)];show[_,_,Slot.own (_++[PV.lst (_++[nP (BR s+i)])]),_,_,_]=[_,_,Slot.own (_++[PV.lst ((s++[BR s+i]).map nP)]),_,_,_];rw[Cs (l₁:=s)];rfl
 .rintro A6⟨d,rfl⟩;have q:=UG Ls s Ls.length (Ls.length - BR s) (Aa _);rw[Pb]at q;rw[O4,show((Ls.length:Int) - (BR s:Int)).toNat=Ls.length - BR s by omega];have e:WN Ls.length (rs++exts Ls s (Ls.length - BR s))<m:=by
   rw[Ux,<- o];show _<_+2 ^ _;omega
  exact⟨_,e,_,_,_,_,_,rfl,I.step,rfl,by omega⟩
def MY:B6 ["pot","row","lines","at","way","place","some"] ["pot","row","lines"] (AO Rr):=by walk_at "z1"
def yh:=Sc [(".0",.local),("line",.local),("list",.globalImplicit)]
def uH:Cd ["pot","row","lines","at","way","place","some"] (AO Rr) yh "line" [] []:=by walk_at "z2"
def wF(F:AM K "_law_bent_lines" "_law_bent_lines" Rr f fd)(m:mg "_law_bent_lines"=some (.ref f)):
  AF P w K mg Zl "_law_bent_lines" 3 ["pot","row","lines"] (Ad j4):=by
 refine Fz.hF (k:=2) F (by walk_at "bD3") m MY (by rintro _ _⟨ns,ls,m,rfl,_,_,_,_,_,rfl⟩;rfl) λd=>⟨_,(AH rfl (Lh (i:=2) MY.nd rfl (Or.inl rfl) rfl uH (D5 (qv 2)) (λ_ _ _ _=>by exact G7) (λ_ _ _ _=>by exact(Cu (show Bk _ (.type "list") (Fz.UU K)from Fz.fk) DC (A0 (qv 0) A4))))
   (AH rfl (Ai 3 MY.nd (AR B7 d (A0 (qv 0) (A0 (AW D7 (Ah Ba AN (A0 (qv 2) A4)) A7) A4))))
   (AH rfl (Ai 4 MY.nd (AR B7 d (A0 (qv 0) (A0 A7 A4))))
   (AH rfl (BY (Iy (Ax (gS d.EX) (Ca Cm (qv 2) (CT (qv 3)) CV) (Cn A4)) (IZ (Ax DS (qv 4) A7))).pt (AL rfl (Am (AW EE (AW EE (Ca Cm (qv 2) CV (CT (qv 3))) (Cn (A0 (Cu HF DC (A0 (qv 1) A4)) A4))) (Ca Cm (qv 2) (CT (qv 3)) CV)))) Bg)
   (AH rfl (Ai 5 MY.nd (AR B7 d (A0 (qv 0) (A0 (AW D7 (Ah Ba AN (A0 (qv 1) A4)) A7) A4))))
   (AH rfl (BY (Ax DS (qv 4) A7) (AL rfl (Am (AW EE (Ca Cm (qv 2) CV (CT (qv 3))) (Ca Cm (qv 2) (CT (AW D7 (qv 3) A7)) CV)))) Bg)
   (AH rfl (CN (BY (Ax DS (qv 4) A7) (AL rfl (IV (AW EE (Ca Cm (AV BO (qv 2) (qv 3)) (CT (qv 5)) CV) (Ca Cm (AV BO (qv 2) (qv 3)) CV (CT (qv 5)))) (Nv (qv 2) (qv 3) set_list))) (AH rfl (Ai 6 MY.nd (AV Bi (EM (A0 (Cn (A0 Df A4)) (A0 (Cn A4) (A0 (Ca Cm (qv 1) CV (CT A7)) A4)))) (AR B7 d (A0 (qv 0) (A0 A7 A4)))))
   (AL rfl (IV (AW EE (AW EE (Ca Cm (AV BO (qv 2) (qv 3)) CV (CT (qv 5))) (qv 6)) (Ca Cm (AV BO (qv 2) (qv 3)) (CT (AW D7 (qv 5) A7)) CV)) (Nv (qv 2) (qv 3) set_list))))))
   (AL rfl (Am (qv 2)))))))))),?_⟩
 rintro _ _⟨ns,ls,m,rfl,I,J,A,hk,SK,rfl⟩;show Ws [.AE,.is (.lst (ns.map .str)),.is (.lst (ls.map Ac)),.any,.any,.any,.any] _ _ _;refine Ay (En (EL Ac (λ_=>true) Ac (DR (CY (A5 rfl ⟨_,.inl ⟨rfl,ls,rfl,by omega,λ_ _=>G2 rfl,λl A _=>?_,?_⟩⟩))) Sy))
 .show Wp [.is (Ac l)] _ _;exact As (GL rfl (B9 (A5 rfl ⟨_,.inl ⟨rfl,rfl⟩⟩)))
 rw[List.filter_eq_self.mpr λ_ _=>rfl];show Ws [.AE,.is (.lst (ns.map .str)),.own (ls.map Ac),.any,.any,.any,.any] _ _ _
 walk_at "ww"
 rw[AA];refine⟨by omega,by omega,λr h1 h2=>?_⟩
 walk_at "ww"
 refine⟨by omega,by omega,λb S R=>?_⟩;obtain⟨k,rfl⟩:∃k:Nat,r=k:=⟨r.toNat,by omega⟩;show Ws [.AE,.is (.lst (ns.map .str)),.own (ls.map Ac),.is (.int k),.is (.int b),.any,.any] _ _ _;have u:∀{as bs:List (List Str)}{x:List Str},(∀l∈as,l∈ls)->(∀l∈bs,l∈ls)->x.length<=m+1->∀l∈as++[x]++bs,l.length<=m+1:=λ{as bs x}B s hx l h=>by
  rcases List.mem_append.mp h with h|h
  .rcases List.mem_append.mp h with h|h
   .have:=hk l (B l h);omega
   .rw[List.mem_singleton.mp h];exact hx
  .have:=hk l (s l h);omega
 have t:∀{nx:List Slot->Prop},Ws [.AE,.is (.lst (ns.map .str)),.own (ls.map Ac),.is (.int k),.is (.int b),.any,.any] (Fb (Au K9 (Au K9 (Ie (Ju K) (Ap 2) Im (J4 (Ap 3))) (O1 (Ae (CQ (λxs H Q=>∃p ys,xs=[V.ref p]/\(AK K H p ys∨Al K H p ys)/\∀(l:Addr),H l=none->Q (V.ref l) (upd H l (HO.lst ys))) (Ae (Ap 1) BK)) BK))) (Ie (Ju K) (Ap 2) (J4 (Ap 3)) Im))) nx (.new λxs=>∃ms:List (List Str),xs=ms.map Ac/\ms.length<=ls.length+1/\∀l∈ms,l.length<=m+1):=λ{_}=>by
  refine Fs (FX (FX (Gv (Hv rfl ⟨rfl,ls,rfl,A5 rfl ⟨k,rfl,_,rfl,EC (Cb (As (GL rfl (Aq rfl (Cg ⟨by simp,[ns],rfl,?_,_,rfl,GN (Hv rfl ⟨rfl,ls,rfl,A5 rfl ⟨k,rfl,_,rfl,?_,_,rfl,?_,u (λl h=>T9 h) (λl h=>Ya h) (by omega)⟩⟩)⟩)))))⟩⟩))))
  all_goals simp only[BF,Cj,Dl,Az,KR]
  all_goals omega
 refine Ay (D2 (L4 (Ec (U6 (SV (GN (Hv rfl ⟨rfl,ls,rfl,A5 rfl ⟨k,rfl,?_⟩⟩)))))));refine B9 (As (EC (Cg ⟨by simp,_,.inl ⟨rfl,rfl,rfl,_,rfl,?_⟩⟩)));rw[AA,Dl];refine BP (λc=>t) (λc=>?_);have o:k<ls.length:=by have:¬ ls.length - k=0:=λz=>c (kc z);omega
 walk_at "ww"
 refine BP (λE=>t) (λE=>?_);refine C0 ?_
 walk_at "ww"
 rw[AA];refine⟨by omega,by omega,λq O N=>?_⟩;obtain⟨j,rfl⟩:∃j:Nat,q=j:=⟨q.toNat,by omega⟩;show Ws [.AE,.is (.lst (ns.map .str)),.own (ls.map Ac),.is (.int k),.is (.int b),.is (.int j),.any] _ _ _;obtain⟨line,el⟩:∃l,ls[k]?=some l:=⟨_,AQ o⟩;have T:=hk line (Bc el);have G:BZ (ls.map Ac) (k:Int)=some (Ac line):=D4 (by rw[AS,el];rfl)
 walk_at "ww"
 refine BP (λD=>?_) (λD=>?_)
 .refine Fs (FX (Gv (Hv rfl ⟨rfl,ls,rfl,A5 rfl ⟨k,rfl,_,rfl,GN (Hv rfl ⟨rfl,ls,rfl,Jb (A5 rfl ⟨_,rfl,C6 ⟨_,rfl,k+1,rfl,_,rfl,?_,_,rfl,?_,λl h=>?_⟩⟩)⟩)⟩⟩)))
  .simp only[BF,Cj,Dl];omega
  .simp only[BF,Cj,Dl];omega
  .have:l.length<=m:=(List.mem_append.mp h).elim (λh=>hk l (T9 h)) (λh=>hk l (Ya h));omega
 refine C0 ?_;have fin:∀{x:List Str}{a:Slot}{nx:List Slot->Prop},x.length<=m+1->Ws [.AE,.is (.lst (ns.map .str)),.own ((ls.map Ac).set k (Ac x)),.is (.int k),.is (.int b),.is (.int j),a] (Fb (Ap 2)) nx (.new λxs=>∃ms:List (List Str),xs=ms.map Ac/\ms.length<=ls.length+1/\∀l∈ms,l.length<=m+1):=λ{x a _}hx=>by
  refine Qb (i:=2) rfl ⟨ls.set k x,by rw[YY],by rw[Hg];omega,λl h=>?_⟩;rcases List.mem_or_eq_of_mem_set h with h|rfl
  .have:=hk l h;omega
  .exact hx
 have g:∀{a:Slot}{n:Bool->List PV->Prop},n false (line.map .str)->Wq [.AE,.is (.lst (ns.map .str)),.own (ls.map Ac),.is (.int k),.is (.int b),.is (.int j),a] (Au (DE K) (Ap 2) (Ap 3)) n:=λ{a n}h=>B9 (DL (Hv rfl ⟨rfl,A5 rfl ⟨_,_,rfl,G,_,.inl ⟨rfl,h⟩⟩⟩));refine Ke (λA6=>∃(x:List Str)(a:Slot),A6=[.AE,.is (.lst (ns.map .str)),.own ((ls.map Ac).set k (Ac x)),.is (.int k),.is (.int b),.is (.int j),a]/\x.length<=m+1) (Dj (D2 ?_)) ?_
 .walk_at "ww"
  refine BP (λC=>?_) (λC=>?_)
  .refine gy (i:=2) rfl (As (FX (GN (g ⟨rfl,line,rfl,A5 rfl ⟨j,rfl,_,rfl,Gv (g ⟨rfl,line,rfl,A5 rfl ⟨j,rfl,_,rfl,?_,A5 rfl ⟨k,rfl,by rw[AA];exact o,line.drop j++line.take j,_,rfl,?_⟩⟩⟩)⟩⟩))))
   all_goals simp only[BF,Cj,Dl]
   all_goals omega
  .refine Ay (GW (JW (B9 (JK (Cb (As (EC (Cb (bQ (Cg ⟨by simp,Cb (As (EC (Cg ⟨by simp,Cb (As (Gv (Aq rfl ⟨rfl,ns,rfl,C6 ⟨1,rfl,Cg ⟨by show 3<=100000;decide,_,.inr ⟨rfl,rfl,?_⟩⟩⟩⟩)))⟩)))⟩))))))))))
   walk_at "ww"
   refine⟨by decide,by decide,λe M L=>?_⟩;obtain⟨y,v,s⟩:∃y:List Str,BZ [PV.lst [.str "x"],.lst [],.lst ((ns.take 1).map .str)] e=some (Ac y)/\y.length<=1:=by
    have h:e=0∨e=1∨e=2:=by omega
    rcases h with rfl|rfl|rfl
    .exact⟨["x"],rfl,by decide⟩
    .exact⟨[],rfl,by decide⟩
    .exact⟨ns.take 1,rfl,by rw[Cj];omega⟩
   refine⟨_,_,rfl,v,?_⟩;show Ws [.AE,.is (.lst (ns.map .str)),.own (ls.map Ac),.is (.int k),.is (.int b),.is (.int j),.is (.lst (y.map .str))] _ _ _;refine gy (i:=2) rfl (As (FX (gn (Gv (g ⟨rfl,line,rfl,A5 rfl ⟨j,rfl,_,rfl,Aq rfl ⟨rfl,y,rfl,?_,_,rfl,GN (g ⟨rfl,line,rfl,Jb (A5 rfl ⟨_,rfl,C6 ⟨_,rfl,j+1,rfl,_,rfl,?_,A5 rfl ⟨k,rfl,by rw[AA];exact o,line.take j++y++line.drop (j+1),_,rfl,?_⟩⟩⟩)⟩)⟩⟩⟩)))))
   all_goals simp only[BF,Cj,Dl]
   all_goals omega
 .rintro A6⟨x,a,rfl,hx⟩;exact fin hx
def LV:B6 ["pot","seats","at","way","line","gap","by","seat"] ["pot","seats"] (AO Xn):=by walk_at "z1"
def qz(F:AM K "_law_bent_seats" "_law_bent_seats" Xn f fd)(m:mg "_law_bent_seats"=some (.ref f)):
  AF P w K mg Zl "_law_bent_seats" 3 ["pot","seats"] (Ad c9):=by
 refine Fz.hF (k:=2) F (by walk_at "bD2") m LV (by rintro _ _⟨ps,rfl,_,rfl⟩;rfl) λi=>⟨_,(AH rfl (Ai 2 LV.nd (AR B7 i (A0 (qv 0) (A0 (AW D7 (Ah Ba AN (A0 (qv 1) A4)) A7) A4))))
   (AH rfl (Ai 3 LV.nd (AR B7 i (A0 (qv 0) (A0 A7 A4))))
   (AH rfl (BY (Iy (Ax (gS i.EX) (Ca Cm (qv 1) (CT (qv 2)) CV) (Cn A4)) (IZ (Ax DS (qv 3) A7))).pt (AL rfl (Am (AW EE (AW EE (Ca Cm (qv 1) CV (CT (qv 2))) (Cn (A0 (EM (A0 A7 (A0 A7 A4))) A4))) (Ca Cm (qv 1) (CT (qv 2)) CV)))) Bg)
   (AH rfl (BY (Ax DS (qv 3) A7) (AL rfl (Am (AW EE (Ca Cm (qv 1) CV (CT (qv 2))) (Ca Cm (qv 1) (CT (AW D7 (qv 2) A7)) CV)))) Bg)
   (AH rfl (IV (AV BO (qv 1) (qv 2)) (N0 rfl (Fm (Ci 4 LV.nd) (Fm (Ci 5 LV.nd) Mu))))
   (AH rfl (Ai 6 LV.nd (AV Bi (EM (A0 A7 (A0 (QQ RE A7) (A0 (AW LH A7 A7) A4)))) (AR B7 i (A0 (qv 0) (A0 A7 A4)))))
   (AH rfl (Ai 7 LV.nd (EM (A0 (AW D7 (qv 4) (AW J9 (qv 6) (Cu ZQ Qo (A0 (GI DS (qv 3) A7) A4)))) (A0 (AW D7 (qv 5) (AW J9 (qv 6) (Cu ZQ Qo (A0 (GI DS (qv 3) A7) A4)))) A4))))
   (AL rfl (Am (AW EE (AW EE (Ca Cm (qv 1) CV (CT (qv 2))) (Cn (A0 (qv 7) A4))) (Ca Cm (qv 1) (CT (AW D7 (qv 2) A7)) CV))))))))))),?_⟩
 rintro _ _⟨ps,rfl,A,rfl⟩;show Ws [.AE,.is (.lst (ps.map B8)),.any,.any,.any,.any,.any,.any] _ _ _
 walk_at "ww"
 rw[AA];refine⟨by omega,by omega,λj h1 h2=>?_⟩
 walk_at "ww"
 refine⟨by omega,by omega,λd E D=>?_⟩;obtain⟨k,rfl⟩:∃k:Nat,j=k:=⟨j.toNat,by omega⟩;show Ws [.AE,.is (.lst (ps.map B8)),.is (.int k),.is (.int d),.any,.any,.any,.any] _ _ _;have n:∀{nx:List Slot->Prop},Ws [.AE,.is (.lst (ps.map B8)),.is (.int k),.is (.int d),.any,.any,.any,.any] (Fb (Au K9 (Au K9 (Ie (Ju K) (Ap 1) Im (J4 (Ap 2))) (O1 (Ae (Qd (Ae (tC (V.int 0)) (Ae (tC (V.int 0)) BK))) BK))) (Ie (Ju K) (Ap 1) (J4 (Ap 2)) Im))) nx (.new λxs=>∃l:List (Int×Int),xs=l.map B8/\l.length<=ps.length+1):=λ{_}=>by
  refine Fs (FX (FX (Gv (Aq rfl ⟨rfl,ps,rfl,A5 rfl ⟨k,rfl,_,rfl,EC (Cb (JK (Cb (C6 (Cb (C6 (Cg ⟨by simp,Cg ⟨by simp,[(0,0)],rfl,?_,_,rfl,GN (Aq rfl ⟨rfl,ps,rfl,A5 rfl ⟨k,rfl,_,rfl,?_,_,rfl,?_⟩⟩)⟩⟩)))))))⟩⟩))))
  all_goals simp only[BF,Cj,Dl,Az,KR]
  all_goals omega
 refine Ay (D2 (L4 (Ec (U6 (SV (GN (Aq rfl ⟨rfl,ps,rfl,A5 rfl ⟨k,rfl,?_⟩⟩)))))));refine B9 (As (EC (Cg ⟨by simp,_,.inl ⟨rfl,rfl,rfl,_,rfl,?_⟩⟩)));rw[AA,Dl];refine BP (λc=>n) (λc=>?_);have hk:k<ps.length:=by have:¬ ps.length - k=0:=λz=>c (kc z);omega
 walk_at "ww"
 refine BP (λr=>n) (λr=>?_);refine C0 (Ay (D2 ?_))
 walk_at "ww"
 refine BP (λq=>?_) (λq=>?_)
 .refine Fs (FX (Gv (Aq rfl ⟨rfl,ps,rfl,A5 rfl ⟨k,rfl,_,rfl,GN (Aq rfl ⟨rfl,ps,rfl,Jb (A5 rfl ⟨_,rfl,C6 ⟨_,rfl,k+1,rfl,_,rfl,?_,_,rfl,?_⟩⟩)⟩)⟩⟩)))
  all_goals simp only[BF,Cj,Dl]
  all_goals omega
 obtain⟨⟨a,b⟩,ep⟩:∃x,ps[k]?=some x:=⟨_,AQ hk⟩;refine C0 (Ay (QM (DL (Aq rfl ⟨rfl,A5 rfl ⟨_,B8 (a,b),rfl,D4 (by rw[AS,ep];rfl),NN ⟨_,_,rfl,?_⟩⟩⟩))));show Ws [.AE,.is (.lst (ps.map B8)),.is (.int k),.is (.int d),.is (.int a),.is (.int b),.any,.any] _ _ _
 walk_at "ww"
 refine⟨by unfold ZT;decide +kernel,Cg ⟨by show 3<=100000;decide,_,.inr ⟨rfl,rfl,?_⟩⟩⟩
 walk_at "ww"
 refine⟨by decide,by decide,λg C B=>?_⟩;obtain⟨y,o,p⟩:∃y:Int,BZ [PV.int 1,.int (-1),.int (10 ^ Int.toNat 30)] g=some (.int y)/\y.natAbs<2 ^ 1000:=by
  have h:g=0∨g=1∨g=2:=by omega
  rcases h with rfl|rfl|rfl
  .exact⟨_,rfl,by decide +kernel⟩
  .exact⟨_,rfl,by decide +kernel⟩
  .exact⟨_,rfl,by decide +kernel⟩
 refine⟨_,_,rfl,o,?_⟩;show Ws [.AE,.is (.lst (ps.map B8)),.is (.int k),.is (.int d),.is (.int a),.is (.int b),.is (.int y),.any] _ _ _;have e:∀b:Bool,bo y (if b=true then 1 else 0):=λb=>⟨p,by cases b <;> decide +kernel⟩
 walk_at "ww"
 refine⟨e _,?_⟩
 walk_at "ww"
 refine⟨e _,_,rfl,Cg ⟨by show 2<=100000;decide,?_⟩⟩;generalize t:a+y * (if alike (PV.int d) (PV.int 2)=true then 1 else 0)=u
 generalize s:b+y * (if alike (PV.int d) (PV.int 3)=true then 1 else 0)=v
 show Ws [.AE,.is (.lst (ps.map B8)),.is (.int k),.is (.int d),.is (.int a),.is (.int b),.is (.int y),.is (B8 (u,v))] _ _ _;refine Fs (FX (FX (Gv (Aq rfl ⟨rfl,ps,rfl,A5 rfl ⟨k,rfl,_,rfl,EC (Cb (A5 rfl (Cg ⟨by simp,[(u,v)],rfl,?_,_,rfl,GN (Aq rfl ⟨rfl,ps,rfl,Jb (A5 rfl ⟨_,rfl,C6 ⟨_,rfl,k+1,rfl,_,rfl,?_,_,rfl,?_⟩⟩)⟩)⟩)))⟩⟩))))
 all_goals simp only[BF,Cj,Dl,Az,KR]
 all_goals omega
def SA:B6 ["pot","apart","at","number","way"] ["pot","apart"] (AO Xt):=by walk_at "z1"
def rW(F:AM K "_law_bent_apart" "_law_bent_apart" Xt f fd)(m:mg "_law_bent_apart"=some (.ref f)):
  AF P w K mg Zl "_law_bent_apart" 3 ["pot","apart"] (Ad cO):=by
 refine Fz.hF (k:=2) F (by walk_at "bD2") m SA (by rintro _ _⟨zs,rfl,_,rfl⟩;rfl) λb=>⟨_,(AH rfl (Ai 2 SA.nd (AR B7 b (A0 (qv 0) (A0 (AW D7 (Ah Ba AN (A0 (qv 1) A4)) A7) A4))))
   (AH rfl (Ai 3 SA.nd (AW Jq (AR B7 b (A0 (qv 0) (A0 A7 A4))) A7))
   (AH rfl (Ai 4 SA.nd (AR B7 b (A0 (qv 0) (A0 A7 A4))))
   (AH rfl (BY (Ax DS (qv 4) A7) (AL rfl (Am (AW EE (AW EE (Ca Cm (qv 1) CV (CT (qv 2))) (Cn (A0 (qv 3) A4))) (Ca Cm (qv 1) (CT (qv 2)) CV)))) Bg)
   (AH rfl (BY (Ax DS (qv 4) A7) (AL rfl (Am (AW EE (Ca Cm (qv 1) CV (CT (qv 2))) (Ca Cm (qv 1) (CT (AW D7 (qv 2) A7)) CV)))) Bg)
   (AL rfl (Am (AW EE (Ca Cm (qv 1) (CT (qv 2)) CV) (Ca Cm (qv 1) CV (CT (qv 2))))))))))),?_⟩
 rintro _ _⟨zs,rfl,g,rfl⟩;show Ws [.AE,.is (.lst (zs.map .int)),.any,.any,.any] _ _ _
 walk_at "ww"
 rw[AA];refine⟨by omega,by omega,λe h1 h2=>?_⟩
 walk_at "ww"
 refine⟨by omega,by omega,λa l j=>?_⟩
 walk_at "ww"
 refine⟨by omega,by omega,λd i h=>?_⟩
 walk_at "ww"
 obtain⟨k,rfl⟩:∃k:Nat,e=k:=⟨e.toNat,by omega⟩;show(if _ then Ws [.AE,.is (.lst (zs.map .int)),.is (.int k),.is (.int (a - 1)),.is (.int d)] _ _ _ else Ws [.AE,.is (.lst (zs.map .int)),.is (.int k),.is (.int (a - 1)),.is (.int d)] _ _ _)
 refine BP (λc=>?_) (λc=>?_)
 .refine Fs (FX (FX (Gv (Aq rfl ⟨rfl,zs,rfl,A5 rfl ⟨k,rfl,_,rfl,EC (Cb (A5 rfl (Cg ⟨by simp,[a - 1],rfl,?_,_,rfl,GN (Aq rfl ⟨rfl,zs,rfl,A5 rfl ⟨k,rfl,_,rfl,?_,_,rfl,?_⟩⟩)⟩)))⟩⟩))))
  all_goals simp only[BF,Cj,Dl,Az,KR]
  all_goals omega
 .refine C0 ?_
  walk_at "ww"
  refine BP (λc=>?_) (λc=>?_)
  .refine Fs (FX (Gv (Aq rfl ⟨rfl,zs,rfl,A5 rfl ⟨k,rfl,_,rfl,GN (Aq rfl ⟨rfl,zs,rfl,Jb (A5 rfl ⟨_,rfl,C6 ⟨_,rfl,k+1,rfl,_,rfl,?_,_,rfl,?_⟩⟩)⟩)⟩⟩)))
   all_goals simp only[BF,Cj,Dl]
   all_goals omega
  .refine C0 (Fs (FX (GN (Aq rfl ⟨rfl,zs,rfl,A5 rfl ⟨k,rfl,_,rfl,Gv (Aq rfl ⟨rfl,zs,rfl,A5 rfl ⟨k,rfl,_,rfl,?_,_,rfl,?_⟩⟩)⟩⟩))))
   all_goals simp only[BF,Cj,Dl]
   all_goals omega
def E5:B6 ["script","k","pot","row","loops","way","lines","seats","apart","turn","which","handed","found"] ["script"] (AO Lc):=by walk_at "z1"
def vo:=Sc [(".0",.local),("line",.local),("list",.globalImplicit)]
def vR:Cd ["script","k","pot","row","loops","way","lines","seats","apart","turn","which","handed","found"] (AO Lc) vo "line" [] []:=by walk_at "z2"
def qt(F:AM K "law" "law" Lc f fd)(m:mg "law"=some (.ref f)):
  EF P w K mg Zl Dr 17 f fd ["script"] (Nc K T (Cq C8)):=by
 refine(F.El (k:=16) E5 (λvs H Q E h=>by obtain⟨_,a,ns,rfl,_⟩:=h;rfl) (λAk A outer s H vs Q E j h=>?_));refine⟨_,(AH rfl (CN (FH EB rfl (Hs rfl CM (A0 (Ah (jk rfl) XX (A0 A7 (A0 (Ah (ZAw rfl) VU (A0 (Ah Ba AN (A0 (qv 0) A4)) (A0 A7 A4))) A4))) A4)) (Ci 1 E5.nd) (AH rfl (Ai 2 E5.nd (AR Ud j (A0 (qv 0) (A0 (qv 1) A4))))
   (AH rfl (Ai 3 E5.nd (AR VP j (A0 (qv 2) (A0 A7 A4))))
   (AH rfl (Ai 4 E5.nd (AR X6 j (A0 (qv 2) (A0 (qv 3) (A0 A7 A4)))))
   (AH rfl (Ai 5 E5.nd (AR B7 j (A0 (qv 2) (A0 A7 A4))))
   (AH rfl (IV (AR Vd j (A0 (Cu HF DC (A0 (qv 3) A4)) (A0 (Cu HF DC (A0 (qv 4) A4)) A4))) (N0 rfl (Fm (Ci 6 E5.nd) (Fm (Ci 7 E5.nd) (Fm (Ci 8 E5.nd) Mu)))))
   (AH rfl (CN (BY (Ax JD (qv 5) A7) (AH rfl (IV (AR V2 j (A0 (qv 3) (A0 (qv 4) A4))) (N0 rfl (Fm (Ci 6 E5.nd) (Fm (Ci 7 E5.nd) Mu))))
   (AL rfl (Ai 8 E5.nd (AV Bi (EM (A0 (ZAd rfl rfl DC rfl CM (A0 (Ah Ba AN (A0 (qv 4) A4)) A4)) (A0 (AR Wy j (A0 (qv 4) A4)) A4))) (AW Jq (qv 5) A7))))) Bg))
   (AH rfl (CN (BY (Ax JD (AR B7 j (A0 (qv 2) (A0 A7 A4))) A7) (AL rfl (FH EB rfl (Hs rfl CM (A0 (AW D7 A7 (AR B7 j (A0 (qv 2) (A0 A7 A4)))) A4)) (Ci 9 E5.nd) (AH rfl (Ai 10 E5.nd (AR B7 j (A0 (qv 2) (A0 A7 A4))))
   (AL rfl (BY (Ax DS (qv 10) A7) (AL rfl (Ai 6 E5.nd (AR VZ j (A0 (qv 2) (A0 (qv 3) (A0 (qv 6) A4)))))) (AL rfl (BY (Ax DS (qv 10) A7) (AL rfl (Ai 7 E5.nd (AR X2 j (A0 (qv 2) (A0 (qv 7) A4))))) (AL rfl (Ai 8 E5.nd (AR V3 j (A0 (qv 2) (A0 (qv 8) A4)))))))))))) Bg))
   (AH rfl (Ai 11 E5.nd (EM (A0 (Ft rfl vR (D5 (qv 6)) (λ_ _ _ _=>by exact G7) (λ_ _ _ _=>by exact(Cu (show Bk _ (.type "list") (Fz.UU K)from Fz.fk) DC (A0 (qv 0) A4)))) (A0 (Cu HF DC (A0 (qv 7) A4)) (A0 (Cu HF DC (A0 (qv 8) A4)) A4)))))
   (AH rfl (Ai 12 E5.nd (AR QY j (A0 (Cu HF DC (A0 (qv 3) A4)) (A0 (Cu HF DC (A0 (qv 4) A4)) (A0 (qv 6) (A0 (qv 7) (A0 (qv 8) A4)))))))
   (AH rfl (BY (Iy (Jl (Jo (Ah vC Y6 (A0 (qv 12) (A0 (nW "bool" TK) A4))))) (IZ (Ax LX (qv 12) (AR VL j (A0 (qv 3) (A0 (qv 4) (A0 (qv 6) (A0 (qv 7) (A0 (qv 8) A4))))))))).pt (AL rfl (Am Ds)) Bg)
   (AH rfl (BY (Ax (Fz.wH j.units) (EM (A0 (qv 6) (A0 (qv 7) (A0 (qv 8) A4)))) (qv 11)) (AL rfl (Am Ds)) Bg)
   (AL rfl (BY (Ax LX (AR QY j (A0 (Cu Rv ID (A0 (qv 3) A4)) (A0 (Cu Rv ID (A0 (qv 4) A4)) (A0 (qv 6) (A0 (qv 7) (A0 (qv 8) A4)))))) (qv 12)) (AL rfl (Am Ds)) Bg)))))))))))))))
   (AL rfl (Am Ds))),?_⟩
 refine Fz.nO h ?_;intro sc ir;show Ws [_,.any,.any,.any,.any,.any,.any,.any,.any,.any,.any,.any,.any] _ _ _;refine Ay (Dj (FP (λ_ _ A6=>∃s1 s2 D s4 C B y u e De Gj Gh:Slot,A6=[.raw (ES K T (Cq C8) sc),s1,s2,D,s4,C,B,y,u,e,De,Gj,Gh]) ?_))
 walk_at "ww"
 obtain⟨n,en,hn⟩:=yR (b:=1) (c:=6) (n:=sc.length) (by decide) (by decide) (by omega);rw[en,GG];refine⟨by omega,by omega,⟨_,_,_,_,_,_,_,_,_,_,_,_,rfl⟩,?_,?_⟩
 .rintro i p A6 Y⟨s1,s2,D,s4,C,B,y,u,e,De,Gj,Gh,rfl⟩;obtain⟨hi,rfl⟩:=NJ Y;refine GR ?_
  walk_at "ww"
  refine⟨by omega,by omega,?_⟩
  walk_at "ww"
  refine⟨by decide,by decide,λns G hN nd=>?_⟩;have R:ns.length<=12:=by omega
  have o:ns.length<=40:=by omega
  refine IA 3 rfl ?_;refine Ay (En (Qq rfl (Ag (A5 rfl (Ag (C6 (Bp ⟨_,⟨ns,6,rfl,by decide,o,nd,rfl⟩,?_⟩)))))));rintro _⟨Ls,rfl,O,I⟩;have hL:Ls.length<=12:=by omega
  have U:HU Ls:=⟨hL,λl G=>CL (CD.len (show CD ns l.r l.g l.cs from I l G)) o⟩;refine IA 4 rfl ?_;show Ws [.raw (ES K T (Cq C8) sc),.is (.int i),.AE,.is (.lst (ns.map .str)),.is (.lst (Ls.map Lp.P)),C,B,y,u,e,De,Gj,Gh] _ _ _
  walk_at "ww"
  refine⟨by decide,by decide,λd w0 w1=>?_⟩;refine Ay (QM (wp_call (ZAi 0 rfl (λF v h=>h.2) (As (GL rfl (Aq rfl ⟨rfl,Ag (As (GL rfl (Aq rfl (Bp ⟨_,⟨ns,Ls,rfl,⟨o,nd⟩,hL,I,rfl⟩,?_⟩))))⟩))))));rintro _⟨ls,ps,A,rfl,h⟩;refine xG ⟨_,_,_,rfl,?_⟩;have Gz:=Hd.of h O R;have S:∀b:List Nat,PV.lst ((b.map λk:Nat=>(k:Int)).map PV.int)=B5 b:=λb=>by rw[CJ];rfl
  have eA:A.map nP=(A.map λn:Nat=>(n:Int)).map PV.int:=by rw[CJ];rfl
  rw[eA];show Ws [.raw (ES K T (Cq C8) sc),.is (.int i),.AE,.is (.lst (ns.map .str)),.is (.lst (Ls.map Lp.P)),.is (.int d),.is (.lst (ls.map Ac)),.is (.lst (ps.map B8)),.is (.lst ((A.map λn:Nat=>(n:Int)).map .int)),e,De,Gj,Gh] _ _ _;refine Ke (λA6=>∃ls ps zs,A6=[.raw (ES K T (Cq C8) sc),.is (.int i),.AE,.is (.lst (ns.map .str)),.is (.lst (Ls.map Lp.P)),.is (.int d),.is (.lst (List.map Ac ls)),.is (.lst (List.map B8 ps)),.is (.lst (List.map .int zs)),e,De,Gj,Gh]/\Hd 0 ls ps zs) (Dj (D2 ?_)) ?_
  .walk_at "ww"
   refine BP (λc=>?_) (λc=>?_)
   .have c:0<d:=pU c;refine Ay (QM (wp_call (Ag (A5 rfl (Ag (A5 rfl (Bp ⟨_,⟨ns,Ls,rfl,o,U,rfl⟩,?_⟩)))))));rintro _⟨ls,ps,rfl,h1,h2,h3⟩;refine NN ⟨_,_,rfl,?_⟩;have fin:∀{zs:List Int},zs.length<=6->Hd 0 ls ps zs:=λR=>⟨by omega,λx hx=>by have:=h2 x hx;omega,by omega,by omega⟩;show Ws [.raw (ES K T (Cq C8) sc),.is (.int i),.AE,.is (.lst (ns.map .str)),.is (.lst (Ls.map Lp.P)),.is (.int d),.is (.lst (ls.map Ac)),.is (.lst (ps.map B8)),.is (.lst ((A.map λn:Nat=>(n:Int)).map .int)),e,De,Gj,Gh] _ _ _;refine GW (JW (B9 (JK (Cb (As (aq (G0 (Aq rfl ⟨(Ls.length:Int),by rw[AA],by omega,by omega,Cb (wp_call (Ag (A5 rfl (Bp ⟨_,⟨Ls,rfl,U,rfl⟩,?_⟩))))⟩))))))));rintro _⟨b,rfl,V⟩;have hb:=ZAY V;refine Cg ⟨by show 2<=100000;decide,_,.inr ⟨rfl,rfl,Jb (A5 rfl ⟨_,rfl,C6 ⟨_,rfl,?_⟩⟩)⟩⟩;have h:d=1∨d=2:=by omega
    rcases h with rfl|rfl
    .refine⟨_,_,rfl,rfl,ls,ps,(List.range Ls.length).map λk:Nat=>(k:Int),?_,fin (by rw[AA,Cc];exact O)⟩;rw[S (List.range Ls.length)];rfl
    .refine⟨_,_,rfl,rfl,ls,ps,b.map λk:Nat=>(k:Int),?_,fin (by rw[AA];omega)⟩;rw[S b];rfl
   .exact C0 ⟨_,_,_,rfl,Gz⟩
  rintro _⟨ls,ps,zs,rfl,hd⟩;refine Ke (λA6=>∃ls ps zs e De,A6=[.raw (ES K T (Cq C8) sc),.is (.int i),.AE,.is (.lst (ns.map .str)),.is (.lst (Ls.map Lp.P)),.is (.int d),.is (.lst (List.map Ac ls)),.is (.lst (List.map B8 ps)),.is (.lst (List.map .int zs)),e,De,Gj,Gh]/\Hd 3 ls ps zs) (Dj (D2 ?_)) ?_
  .walk_at "ww"
   refine⟨by decide,by decide,λr1 h1 h2=>?_⟩
   walk_at "ww"
   refine BP (λc=>?_) (λc=>?_)
   .refine FP (λ_ q A6=>∃ls ps zs e De,A6=[.raw (ES K T (Cq C8) sc),.is (.int i),.AE,.is (.lst (ns.map .str)),.is (.lst (Ls.map Lp.P)),.is (.int d),.is (.lst (List.map Ac ls)),.is (.lst (List.map B8 ps)),.is (.lst (List.map .int zs)),e,De,Gj,Gh]/\Hd q ls ps zs) ?_
    walk_at "ww"
    refine⟨by decide,by decide,λr2 h3 h4=>⟨_,rfl,_,rfl,by omega,by omega,⟨ls,ps,zs,_,_,rfl,hd⟩,λq p A6 PF=>?_,λA6=>?_⟩⟩
    .rintro⟨ls,ps,zs,e,De,rfl,hd⟩;obtain⟨Dw,rfl⟩:=NJ PF;have σ:q<=2:=by omega
     have b1:=hd.l;have L:=hd.t;have b3:=hd.p;have b4:=hd.z;refine GR ?_
     walk_at "ww"
     refine⟨by decide,by decide,λW h5 h6=>?_⟩;show Ws [.raw (ES K T (Cq C8) sc),.is (.int i),.AE,.is (.lst (ns.map .str)),.is (.lst (Ls.map Lp.P)),.is (.int d),.is (.lst (ls.map Ac)),.is (.lst (ps.map B8)),.is (.lst (zs.map .int)),.is (.int q),.is (.int W),Gj,Gh] _ _ _
     walk_at "ww"
     refine BP (λc=>?_) (λc=>?_)
     .refine GW (As (Qq rfl (Ag (A5 rfl (Ag (A5 rfl (Bp ⟨_,⟨ns,ls,24+q,rfl,o,by omega,by omega,L,by omega,rfl⟩,?_⟩)))))));rintro _⟨ms,rfl,N,m2⟩;exact⟨ms,ps,zs,_,_,rfl,by omega,λx hx=>m2 x hx,by omega,by omega⟩
     walk_at "ww"
     refine BP (λc=>?_) (λc=>?_)
     .refine GW (As (Qq rfl (Ag (A5 rfl (Bp ⟨_,⟨ps,rfl,by omega,rfl⟩,?_⟩)))));rintro _⟨X,rfl,N⟩;exact⟨ls,X,zs,_,_,rfl,by omega,λx hx=>by have:=L x hx;omega,by omega,by omega⟩
     .refine GW (As (Qq rfl (Ag (A5 rfl (Bp ⟨_,⟨zs,rfl,by omega,rfl⟩,?_⟩)))));rintro _⟨ys,rfl,N⟩;exact⟨ls,ps,ys,_,_,rfl,by omega,λx hx=>by have:=L x hx;omega,by omega,by omega⟩
    .rintro⟨ls,ps,zs,e,De,rfl,hd⟩;exact⟨ls,ps,zs,e,De,rfl,hd.cx (by rw[JZ];omega)⟩
   .exact C0 ⟨_,_,_,_,_,rfl,hd.cx (by decide)⟩
  rintro _⟨ls,ps,zs,e,De,rfl,hd⟩;have J:OY ns Ls ls ps zs:=⟨o,nd,hL,I,by have:=hd.l;omega,λx hx=>by have:=hd.t x hx;omega,by have:=hd.p;omega,by have:=hd.z;omega⟩;have hLl:=hd.l;show Ws [.raw (ES K T (Cq C8) sc),.is (.int i),.AE,.is (.lst (ns.map .str)),.is (.lst (Ls.map Lp.P)),.is (.int d),.is (.lst (ls.map Ac)),.is (.lst (ps.map B8)),.is (.lst (zs.map .int)),e,De,Gj,Gh] _ _ _;refine Ay (GW (JK (Cb (As (EL Ac (λ_=>true) Ac (DR (CY (A5 rfl ⟨_,.inl ⟨rfl,ls,rfl,by omega,λ_ _=>G2 rfl,λl G _=>?_,?_⟩⟩))) Sy)))))
  .show Wp [.is (Ac l)] _ _;exact As (GL rfl (B9 (A5 rfl ⟨_,.inl ⟨rfl,rfl⟩⟩)))
  rw[List.filter_eq_self.mpr λ_ _=>rfl];refine Cb (As (GL rfl (Aq rfl (Cb (As (GL rfl (Aq rfl (Cg ⟨by show 3<=100000;decide,?_⟩))))))));show Ws [.raw (ES K T (Cq C8) sc),.is (.int i),.AE,.is (.lst (ns.map .str)),.is (.lst (Ls.map Lp.P)),.is (.int d),.is (.lst (ls.map Ac)),.is (.lst (ps.map B8)),.is (.lst (zs.map .int)),e,De,.is (Nr ls ps zs),Gh] _ _ _;refine Ay (GW (wp_call (FO (B9 (As (GL rfl (Aq rfl ⟨_,.inl ⟨rfl,FO (B9 (As (GL rfl (Aq rfl ⟨_,.inl ⟨rfl,Ag (A5 rfl (Ag (A5 rfl (Ag (A5 rfl (Bp ⟨_,⟨false,false,ns,Ls,ls,ps,zs,rfl,J,rfl⟩,?_⟩))))))⟩⟩))))⟩⟩)))))));rintro _ rfl;show Ws [.raw (ES K T (Cq C8) sc),.is (.int i),.AE,.is (.lst (ns.map .str)),.is (.lst (Ls.map Lp.P)),.is (.int d),.is (.lst (ls.map Ac)),.is (.lst (ps.map B8)),.is (.lst (zs.map .int)),e,De,.is (Nr ls ps zs),.is (.bl (Nf ns Ls ls ps zs))] _ _ _;have M:∀b:Bool,¬ (!alike (.bl b) (.bl b))=true:=λb=>by cases b <;> decide
  walk_at "ww"
  refine uK (A5 rfl ⟨true,xj _ _,true,rfl,?_⟩);rw[mD (by decide)]
  walk_at "ww"
  refine wp_call (Ag (A5 rfl (Ag (A5 rfl (Ag (A5 rfl (Ag (A5 rfl (Ag (A5 rfl (Bp ⟨_,⟨ns,Ls,ls,ps,zs,rfl,J,rfl⟩,?_⟩)))))))))));rintro _ rfl
  walk_at "ww"
  rw[mD (M _)];refine C0 (Ay (D2 (Ec (fG (JK (Cb (A5 rfl (Cb (A5 rfl (Cb (A5 rfl (Cg ⟨by show 3<=100000;decide,A5 rfl ⟨Xq ls ps zs,Xq ls ps zs,_,rfl,?_⟩⟩))))))))))));rw[show(!Bb (PV.tup [.lst (ls.map Ac),.lst (ps.map B8),.lst (zs.map .int)]) (Nr ls ps zs))=false by rw[show Bb (PV.tup [.lst (ls.map Ac),.lst (ps.map B8),.lst (zs.map .int)]) (Nr ls ps zs)=true from nZ (K:=K) 40 (Xq ls ps zs)];rfl,mD (by decide)];refine C0 (D2 (Ec (cK (wp_call (FO (B9 (VT rfl (Aq rfl ⟨_,.inr ⟨rfl,FO (B9 (VT rfl (Aq rfl ⟨_,.inr ⟨rfl,Ag (A5 rfl (Ag (A5 rfl (Ag (A5 rfl (Bp ⟨_,⟨true,true,ns,Ls,ls,ps,zs,rfl,J,rfl⟩,?_⟩))))))⟩⟩)))⟩⟩))))))));rintro _ rfl;refine A5 rfl ⟨rfl,_,rfl,?_⟩;rw[mD (M _)];exact C0 ⟨_,_,_,_,_,_,_,_,_,_,_,_,rfl⟩
 .rintro A6⟨s1,s2,D,s4,C,B,y,u,e,De,Gj,Gh,rfl⟩;exact CO (Dp rfl)
def all_mk{h:Heap}{fa f1 f2 f3 f4 f5 f6 f7 f8 f9 ZL iW gI dA ZD Z4 ZJ aD eZ fv ZS eE dN eL fJ Zf bf iG aE gT aM aV Yw iY Z3 ZI fX Zv cL iR ZM bc ZU:Addr}{g1 g2 g3 g4 g5 g6 g7 g8 g9 g10 qL xO mK wO xR rk oJ yU xv dJ mG g22 qd mh g25 uF y4 kg tU wA g31 sF t4 zV x5 xa pV kO g39 zW g41 y9:FuncData}(X:K.In h)(G:h.Ns mainGlobals mg)(hfa:mg "law"=some (.ref fa))
  
  (a1:nS K "_law_pot" (.ref f1)) (F1:AM K "_law_pot" "_law_pot" TR f1 g1)
  (a2:nS K "_law_take" (.ref f2)) (F2:AM K "_law_take" "_law_take" Vy f2 g2)
  (a3:nS K "_law_letters" (.ref f3)) (F3:AM K "_law_letters" "_law_letters" Xu f3 g3)
  (a4:nS K "_law_name" (.ref f4)) (F4:AM K "_law_name" "_law_name" Xm f4 g4)
  (a5:nS K "_law_names" (.ref f5)) (F5:AM K "_law_names" "_law_names" Vg f5 g5)
  (a6:nS K "_law_row" (.ref f6)) (F6:AM K "_law_row" "_law_row" Wk f6 g6)
  (a7:nS K "_law_some_loop" (.ref f7)) (F7:AM K "_law_some_loop" "_law_some_loop" Uv f7 g7)
  (a8:nS K "_law_loops" (.ref f8)) (F8:AM K "_law_loops" "_law_loops" Qp f8 g8)
  (a9:nS K "is_gap" (.ref f9)) (F9:AM K "is_gap" "is_gap" XF f9 g9)
  (yK:nS K "is_coming" (.ref ZL)) (uz:AM K "is_coming" "is_coming" SM ZL g10)
  (a11:nS K "is_loop" (.ref iW)) (kD:AM K "is_loop" "is_loop" VM iW qL)
  (a12:nS K "check_loop" (.ref gI)) (uo:AM K "check_loop" "check_loop" WV gI xO)
  (lT:nS K "check_loops" (.ref dA)) (F13:AM K "check_loops" "check_loops" XG dA mK)
  (xW:nS K "finds_upper" (.ref ZD)) (m8:AM K "finds_upper" "finds_upper" RU ZD wO)
  (zQ:nS K "greatest_pairing" (.ref Z4)) (vc:AM K "greatest_pairing" "greatest_pairing" RD Z4 xR)
  (ya:nS K "has_all_of" (.ref ZJ)) (qx:AM K "has_all_of" "has_all_of" Y1 ZJ rk)
  (lG:nS K "is_above" (.ref aD)) (kE:AM K "is_above" "is_above" UD aD oJ)
  (a18:nS K "numbers_above" (.ref eZ)) (F18:AM K "numbers_above" "numbers_above" Pn eZ yU)
  (xP:nS K "chain_down" (.ref fv)) (uC:AM K "chain_down" "chain_down" X5 fv xv)
  (a20:nS K "line_of" (.ref ZS)) (V8:AM K "line_of" "line_of" C8 ZS dJ/\dJ.code=.ref cT/\PySem.W.codeHdIn K cT T=true)
  (p9:nS K "seats_of" (.ref eE)) (nc:AM K "seats_of" "seats_of" Sh eE mG)
  (nM:nS K "uppermost_untried" (.ref dN)) (nC:AM K "uppermost_untried" "uppermost_untried" Pz dN g22)
  (tZ:nS K "apart_of" (.ref eL)) (uS:AM K "apart_of" "apart_of" QN eL qd)
  (vk:nS K "lines_of" (.ref fJ)) (rY:AM K "lines_of" "lines_of" Ml fJ mh)
  (je:nS K "are_lines" (.ref Zf)) (rH:AM K "are_lines" "are_lines" Ro Zf g25)
  (a26:nS K "is_seat" (.ref bf)) (sC:AM K "is_seat" "is_seat" W4 bf uF)
  (xp:nS K "are_seats" (.ref iG)) (xI:AM K "are_seats" "are_seats" QU iG y4)
  (ku:nS K "fit_one_line" (.ref aE)) (qT:AM K "fit_one_line" "fit_one_line" WH aE kg)
  (xr:nS K "fits_a_later_one" (.ref gT)) (F29:AM K "fits_a_later_one" "fits_a_later_one" QH gT tU)
  (zy:nS K "are_apart" (.ref aM)) (nQ:AM K "are_apart" "are_apart" Ot aM wA)
  (mQ:nS K "lines_judged" (.ref aV)) (yP:AM K "lines_judged" "lines_judged" XA aV g31)
  (a32:nS K "_law_stack" (.ref Yw)) (tP:AM K "_law_stack" "_law_stack" NW Yw sF)
  (mB:nS K "_law_seats_right" (.ref iY)) (F33:AM K "_law_seats_right" "_law_seats_right" V9 iY t4)
  (mF:nS K "_law_within" (.ref Z3)) (zd:AM K "_law_within" "_law_within" WE Z3 zV)
  (tY:nS K "_law_fit" (.ref ZI)) (ke:AM K "_law_fit" "_law_fit" U1 ZI x5)
  (tW:nS K "_law_apart" (.ref fX)) (F36:AM K "_law_apart" "_law_apart" S6 fX xa)
  (qo:nS K "_law_due" (.ref Zv)) (oE:AM K "_law_due" "_law_due" QR Zv pV)
  (mX:nS K "_law_fewest_lines" (.ref cL)) (F38:AM K "_law_fewest_lines" "_law_fewest_lines" SW cL kO)
  (wm:nS K "_law_bent_lines" (.ref iR)) (yr:AM K "_law_bent_lines" "_law_bent_lines" Rr iR g39)
  (yi:nS K "_law_bent_seats" (.ref ZM)) (F40:AM K "_law_bent_seats" "_law_bent_seats" Xn ZM zW)
  (rA:nS K "_law_bent_apart" (.ref bc)) (sP:AM K "_law_bent_apart" "_law_bent_apart" Xt bc g41)
  (bN:nS K "law" (.ref ZU)) (gJ:AM K "law" "law" Lc ZU y9)
  (yQ:nN K "all")
  (qH:nN K "any")
  (zh:nN K "bool")
  (xH:nN K "enumerate")
  (oo:nN K "int")
  (mf:nN K "isinstance")
  (jj:nN K "len")
  (ZAN:nN K "list")
  (pB:nN K "max")
  (yu:nN K "min")
  (oq:nN K "range")
  (ZC6:nN K "set")
  (ZA8:nN K "sorted")
  (wX:nN K "tuple")
  (vK:nN K "zip")
  (lR:nS K "MOST_LOOPS" (.int 12 Vz))
  (om:nS K "RULES" (.ref KH))
  {wb:Option Addr}{kR:Array (Option Value)}{rM:Nat}{vT rT u6:Tok}(tI:K.lookup KH=some ⟨.type "tuple", wb,.seq #[.str "none" vT,.str "ahead" rT,.str "all" u6] rM,kR⟩)
  (JE:mainGlobals≠T)
  : ∃fd:FuncData,(∀(s:Shared)(v:Value),BindsTo s fd ⟨[v],[]⟩ [("script", v)])/\∀Zl:Heap,K.In Zl->Zl.Ns mainGlobals mg->Zl.BuiltinsAt mg T->EF l.prog w K mg Zl Dr 17 fa fd ["script"] (Nc K T (Cq C8)):=by
 have e:=hfa.symm.trans (BS X G bN);cases e;have Ek:=Ff X G yQ;have Gd:=Ff X G qH;have TK:=Ff X G zh;have Su:=Ff X G xH;have Qo:=Ff X G oo;have Y6:=Ff X G mf;have AN:=Ff X G jj;have DC:=Ff X G ZAN;have XX:=Ff X G pB;have VU:=Ff X G yu;have CM:=Ff X G oq;have FR:=Ff X G ZC6;have CI:=Ff X G ZA8;have ID:=Ff X G wX;have MT:=Ff X G vK;have Xr:=BS X G lR;have Vo:=BS X G om;have U2:∀H,Al K H KH [.str "none",.str "ahead",.str "all"]:=λH=>.inr ⟨_,_,_,tI,rfl,rfl,(by show 3<=sizeLine;decide +kernel),(.cons ⟨_,rfl⟩ (.cons ⟨_,rfl⟩ (.cons ⟨_,rfl⟩ .nil)))⟩;obtain⟨_,_,kV,dc,pm,an,cd,ct,_,rfl,_,_⟩:=id gJ.ex;refine⟨PySem.W.fnOf "law" "law" (K4 Lc) (EJ Lc) (AO Lc) .none kV dc pm an cd ct,λs v=>.of_eq rfl,λZl _ _ bA=>?_⟩;have Ud:=oQ (P:=l.prog) (w:=w) (Zl:=Zl) AN F1 (BS X G a1);have B7:=kH (P:=l.prog) (w:=w) (Zl:=Zl) F2 (BS X G a2);have P5:=wo (P:=l.prog) (w:=w) (Zl:=Zl) F3 (BS X G a3);have VE:=lU AN P5 B7 F4 (BS X G a4);have WM:=vP VE CM F5 (BS X G a5);have VP:=mY B7 WM F6 (BS X G a6);have Ul:=oW AN B7 CI ID F7 (BS X G a7);have X6:=u9 AN B7 CM ID Ul F8 (BS X G a8);have XR:=xE (P:=l.prog) (w:=w) (Zl:=Zl) AN F9 (BS X G a9);have Tq:=vy (P:=l.prog) (w:=w) (Zl:=Zl) CI Ek DC FR uz (BS X G yK);have XW:=x4 Tq XR Vo U2 kD (BS X G a11);have YF:=wG XW uo (BS X G a12);have M8:=um AN YF Xr F13 (BS X G lT);have Js:=ZAP (P:=l.prog) (w:=w) (Zl:=Zl) m8 (BS X G xW);have Ww:=zS AN CM vc (BS X G zQ) Js;have LS:=yM (P:=l.prog) (w:=w) (Zl:=Zl) AN FR qx (BS X G ya);have TX:=l6 LS kE (BS X G lG);have TN:=sV AN CM TX F18 (BS X G a18);have UE:=qV (P:=l.prog) (w:=w) (Zl:=Zl) uC (BS X G xP);have XI:=vF (P:=l.prog) (w:=w) (Zl:=Zl) AN CI V8.2.1 V8.2.2 bA JE V8.1 (BS X G a20);have UA:=kJ (P:=l.prog) (w:=w) (Zl:=Zl) AN Su nc (BS X G p9);have Xy:=ZB3 (P:=l.prog) (w:=w) (Zl:=Zl) nC (BS X G nM);have V1:=lP CI Xy uS (BS X G tZ) Js;have Vd:=vZ AN CM V1 UE M8 Ww XI TN UA rY (BS X G vk);have Ug:=ZAr (P:=l.prog) (w:=w) (Zl:=Zl) CI Ek rH (BS X G je);have XY:=sf (P:=l.prog) (w:=w) (Zl:=Zl) AN CI DC sC (BS X G a26);have X8:=vx AN Ek XY MT xI (BS X G xp);have VO:=oN LS qT (BS X G ku);have Y2:=vd VO Gd F29 (BS X G xr);have TU:=lO AN CI Ek FR Gd Y2 nQ (BS X G zy);have QY:=vi M8 TU Ug X8 yP (BS X G mQ);have V2:=ZBZ (P:=l.prog) (w:=w) (Zl:=Zl) AN tP (BS X G a32);have TV:=qp (P:=l.prog) (w:=w) (Zl:=Zl) AN CI DC MT F33 (BS X G mB)
 have RG:=kF (P:=l.prog) (w:=w) (Zl:=Zl) FR zd (BS X G mF);have Ly:=vG RG ke (BS X G tY);have YD:=we AN CM Gd Ly F36 (BS X G tW);have VL:=ZAk AN CI Ek YD TV oE (BS X G qo);have Wy:=qM AN CM Gd Ly F38 (BS X G mX);have VZ:=wF AN B7 DC yr (BS X G wm);have X2:=qz AN B7 Qo F40 (BS X G yi);have V3:=rW AN B7 sP (BS X G rA);exact qt AN B7 CM ID DC V3 VZ X2 VL Wy X6 Ud VP V2 QY Vd TK Y6 XX VU gJ (BS X G bN)
def walk{q:Program}{loose:List Str}{XP:(ZDx)->Heap->Prop}{YP:World->Heap->Prop}{d:DefRec}{K:Params->ZDv}(hn:l.most=some 63)(NA:d.params.defaults=[])
  (hY:∀(w:World)(h:Heap),YP w h->(K w.params).In h) (hT:∀(w:World)(h:Heap),YP w h->h.get? T=some (PySem.W.tabObj #[])) (nT:∀w:World,(K w.params).lookup T=none) (hC:∀w:World,PySem.W.codeHdIn (K w.params) c T=true)
  (F:∀(w:World)(mg:ZDx)(fa:Addr)(h:Heap),(K w.params).In h->h.Ns mainGlobals mg->mg d.name=some (.ref fa)->
   ∃fd:FuncData,(∀(s:Shared)(u:Value),BindsTo s fd ⟨[u],[]⟩ [("script", u)])/\∀Zl:Heap,(K w.params).In Zl->Zl.Ns mainGlobals mg->Zl.BuiltinsAt mg T->EF l.prog w (K w.params) mg Zl Dr 17 fa fd ["script"] (Nc (K w.params) T (Cq C8))) :
  PySem.W.WalkO q loose XP YP l.row.toRowW d [] (λf vs=>PySem.call f vs):=
 L2.uw (n:=63) (T:=T) (c:=c) (pos:=Cq C8) (qn:=LR) (k:=17) (x:="script") (CX:=λ_=>Dr) (sp:=λw=>Nc (K w.params) T (Cq C8)) hn (by decide) NA ⟨rfl,by decide,by decide⟩ hY hT hC nT F (λ_ _ a ns hl hT hS=>⟨hT,a,ns,rfl,hS,hl,λ_=>rfl⟩) λ_ _ _ _ _ z=>z
end Pf
open PySem.W
local macro_rules | `(tactic| walk_at "kF")=>`(tactic| (refine' L2.ZAS ?_ ?_ ?_;all_goals try k_is;all_goals k_is))
set_option maxRecDepth 100000 in
set_option maxHeartbeats 0 in
theorem PySem.Challenge.cw_stirround_k45_lines_judged_holds : PySem.Challenge.rw_stirround_k45_lines_judged.Holds := by
 w_on;o_law;k_head;(case hw=>w_witness2)
 k_fill
 refine Pf.walk (c:=?c) (l:=PySem.Challenge.rw_stirround_k45_lines_judged) rfl rfl (λw h Y=>PySem.W.km_in_of Y) (λw h Y=>PySem.W.km_tabs_of Y _ (Ar ..)) (λw=>by kernel_rfl) ?hC ?F
 case F=>
  intro w mg fa h KX G Oi;apply Pf.all_mk (cT:=?c) KX G Oi
  any_goals first|k_is|(show _=_;k_is)|kernel_rfl|walk_at "kF" | (refine⟨?_,?_,?_⟩;(walk_at "kF");rfl;kernel_rfl)|decide
 case hC=>
  intro w;kernel_rfl
#print axioms PySem.Challenge.cw_stirround_k45_lines_judged_holds
