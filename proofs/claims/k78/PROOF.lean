import PyProof.Rows.All
import Wide.All
import OpenK.AllK
import Wide.FinOn
import Lean
import PyProof.EqAt
import PyProof.EqKinds
import PyProof.TupleCall
import KE.KRevIter
import PyProof.CallType
import PyProof.EnumMake
import PyProof.EnumFor
import PyProof.Draws
import PyProof.Rows.CallKwBuiltin
import PyProof.StrBlockH
import KE.KIntText
import PyProof.Rows.SortStr
import PyProof.TupleIter
import PyProof.ZipIter
import PyProof.Rows.ZipGen
import PyProof.Rows.TupAdd
import KE.KLcPair
import PyProof.IsRules
import PyProof.ListRange
import PyProof.NeKinds
import KE.KTryMore
import OpenK.KOwn
import PyProof.ExcInit
import PyProof.FString
import PyProof.ReprStr
import PyProof.StrLawsRepr
import PyProof.CallStr
import OpenK.KCls
import PyProof.ExcArgsOwn
import PyProof.Rows.StrJoin2
import PyProof.FactsAll.set_2
import PyProof.MeetsSeq2
import PyProof.Rows.Range3
import PyProof.Rows.ChunkLeaf
import PyProof.DictWalks
import PyProof.ListMulRoad
import PyProof.ListCopy
import PyProof.Rows.SumAny
import PyProof.ListIndex
import PySem.Challenge.RW_stirround_k78_reckoned
def gd:=@PySem.wpAny_bind
def gg:=@if_neg
def gq:=@if_pos
def hJ:=@decide_eq_true
def i7:=@PySem.wpAny_pure
def i8:=@of_decide_eq_true
def iB:=@decide_eq_false
def iK:=@PySem.wpAny_truthy_bool
def jo:=@PySem.wpAny_mono
def jw:=@beq_self_eq_true
def kE:=@PySem.wpAny_seqItems
def kL:=@PySem.wpAny_Call_Name_kw
def kf:=@PySem.wpAny_field
def l9:=@congrArg
def lC:=@PySem.wpAny_setField_rec
def lR:=@PySem.wpAny_passesOwn
def lg:=@or_false
def m9:=@PySem.wpAny_callSpecial?_slot
def mC:=@PySem.tupleKind_room_in1
def mD:=@PySem.wpAny_updateSeq
def mK:=@PySem.wpAny_pyIter_list
def nC:=@PySem.call_meets
def nW:=@PySem.wpAny_letGo
def nY:=@PySem.lookup_relabel_local
def oH:=@PySem.wpAny_holding
def oN:=@PySem.wpAny_newObj_type
def oV:=@PySem.wpAny_call_entry
def oo:=@PySem.plainId_quiet
def pB:=@PySem.wpAny_updateSeq_pair
def pP:=@PySem.wpAny_execs_nil
def pq:=@if_true
def qp:=@PySem.wpAny_onRaise
def rF:=@PySem.wpAny_comprehension_free
def rJ:=@PySem.wpAny_rule
def rM:=@PySem.codeAny_mono
def sJ:=@PySem.wpAny_tryCatch
def sX:=@PySem.wpAny_standAt
def sY:=@PySem.nums_intItems
def tG:=@decide_eq_true_iff
def uE:=@if_false
def A9:=@List.length_map
def AR:=@List.getElem?_eq_getElem
def AV:=@List.getElem?_map
def Aa:=@List.not_mem_nil
def Ac:=@List.map_cons
def Aj:=@Nat.le_refl
def Au:=@PySem.Heap.lt_size
def B3:=@PySem.W.mg_of
def B8:=@Option.some.inj
def BV:=@List.size_toArray
def Bi:=@PySem.Heap.get?_push_of_some
def Bj:=@Ne.symm
def Bo:=@List.length_append
def Bu:=@List.length_cons
def C1:=@PySem.Heap.get?_push_size
def C2:=@List.mem_of_getElem?
def CD:=@Nat.zero_le
def CO:=@List.map_append
def CP:=@List.map_map
def CQ:=@Nat.ne_of_lt
def CV:=@List.nodup_append
def Cd:=@Bool.false_ne_true
def Ce:=@List.append_assoc
def Cf:=@PySem.PassesOwn.never
def Cs:=@List.getElem?_set_ne
def D4:=@List.length_take
def DF:=@List.getElem?_append_left
def DG:=@List.getElem?_set_self
def DV:=@List.append_nil
def DW:=@List.getD_eq_getElem?_getD
def Dq:=@List.mem_cons
def E4:=@List.getElem_of_mem
def E5:=@List.mem_cons_of_mem
def E6:=@Nat.lt_of_lt_of_le
def EJ:=@List.getElem?_append_right
def Ee:=@List.take_length
def Ef:=@PySem.F.plainAttrs_list
def Ek:=@List.map_nil
def El:=@List.sum_cons
def Em:=@Nat.le_trans
def FN:=@Bool.and_eq_true
def FO:=@Int.le_refl
def FP:=@List.zip_cons_cons
def FQ:=@PySem.W.mg_none_of
def Fq:=@List.getElem_mem
def GN:=@List.getElem_idxOf
def GO:=@List.lookup_cons
def HE:=@Int.toNat_natCast
def HF:=@List.mem_append_right
def HG:=@List.mem_cons_self
def HH:=@PySem.W.kia_one
def IB:=@PySem.Heap.get?_update_other
def IC:=@List.all_eq_true
def ID:=@List.getElem?_range
def IE:=@List.length_range
def IF:=@List.length_singleton
def IG:=@List.nodup_nil
def IH:=@Nat.lt_irrefl
def JL:=@PySem.Heap.size_push
def JM:=@Int.emod_nonneg
def JN:=@List.Nodup.mem_erase_iff
def JO:=@List.length_set
def JP:=@List.map_congr_left
def Ka:=@Int.emod_lt_of_pos
def Kb:=@List.getElem_take
def Kc:=@List.take_of_length_le
def Ke:=@Nat.ne_of_gt
def Kf:=@PySem.mem_of_lookup
def M4:=@Bool.eq_iff_iff
def M5:=@PySem.Heap.get?_update_self
def M6:=@List.any_cons
def M7:=@List.getElem?_eq_none
def M8:=@List.length_zip
def M9:=@List.nil_append
def MB:=@Nat.le_succ
def OA:=@PySem.F.plain_max_loop
def OB:=@List.all_cons
def OC:=@List.find?_cons
def OD:=@List.getElem_map
def OE:=@List.take_succ_eq_append_getElem
def RA:=@Int.le_trans
def RB:=@List.forIn_nil
def RC:=@List.mem_append
def RD:=@List.mem_append_left
def RE:=@List.set_cons_succ
def RF:=@List.set_set
def RG:=@Nat.lt_of_le_of_lt
def RH:=@Nat.succ.inj
def RI:=@PyProof.Rows.callWith_type1
def RJ:=@PySem.F.slot_list_append
def RK:=@PySem.F.type_list_append
def WX:=@Array.length_toList
def WY:=@Bool.and_false
def WZ:=@PySem.F.slot_tuple_iterator_next
def Wb:=@PySem.F.slot_zip_next
def Wc:=@Int.add_mul
def Wd:=@Int.eq_ofNat_of_zero_le
def Wf:=@Int.natCast_add
def Wh:=@List.cons_append
def Wj:=@List.drop_zero
def Wk:=@List.ext_getElem?
def Wr:=@List.filter_append
def Wu:=@List.forIn_cons
def Wv:=@List.getElem_inj
def Ww:=@List.length_filter_le
def Wy:=@List.map_take
def X0:=@List.mem_of_mem_take
def X1:=@List.set_cons_zero
def X2:=@Nat.le_add_right
def X3:=@Nat.lt_succ_self
def X4:=@Nat.min_eq_left
def X5:=@Nat.sub_zero
def X6:=@Option.isSome_map
def X7:=@Option.map_some
def X8:=@PySem.F.slot_list_index
def fg:=@Array.getElem?_toList
def fi:=@Bool.false_or
def fj:=@Bool.true_and
def fk:=@Bool.true_or
def fm:=@PySem.Calls.callWith_builtin
def fo:=@PySem.Calls.spliced_cons
def fq:=@Classical.choose_spec
def fu:=@Int.lt_of_le_of_lt
def fw:=@Int.mul_add
def gA:=@List.any_eq_false
def gB:=@List.any_eq_true
def gC:=@List.countP_cons
def gD:=@List.count_eq_zero_of_not_mem
def gE:=@List.filterMap_cons
def gF:=@List.getElem?_replicate
def gG:=@List.length_drop
def gH:=@List.length_erase_of_mem
def gI:=@List.length_nil
def gJ:=@List.length_pos_of_mem
def gK:=@List.map_drop
def gL:=@List.mem_of_mem_erase
def gM:=@List.of_mem_zip
def gN:=@List.sum_nil
def gO:=@List.take_zero
def gP:=@Nat.le_of_eq
def gQ:=@Nat.le_of_lt
def gR:=@Nat.le_total
def gS:=@Nat.min_eq_right
def gT:=@PySem.Paired.length
def gU:=@PySem.F.slot_dict_get
def gW:=@PySem.F.slot_list_count
def gX:=@PySem.F.type_list_count
def gY:=@PySem.F.type_list_index
def gZ:=@PySem.W.callWith_K
def gb:=@PySem.W.plainGet_of
def gc:=@PySem.Walks.dictKeys
def zo:=@PySem.Calls.Name_function_global
def zp:=@PySem.F.args_tuple_iterator_next_1
def zq:=@PySem.F.entry_tuple_iterator_next
def zr:=@List.Pairwise.map
def zt:=@List.count_append
def zu:=@List.count_singleton
def zv:=@List.dropLast_eq_take
def zw:=@List.eq_nil_of_length_eq_zero
def zx:=@List.eraseIdxIfInBounds_toArray
def zy:=@List.eraseIdx_cons_succ
def zz:=@List.ext_getElem
def ZA0:=@List.filter_cons
def ZA1:=@List.getElem?_cons_succ
def ZA2:=@List.getElem_range
def ZA3:=@List.length_replicate
def ZA4:=@List.mem_erase_of_ne
def ZA5:=@List.mem_singleton
def ZA6:=@List.take_sublist
def ZA7:=@List.toList_toArray
def ZA8:=@List.zipIdx_cons
def ZA9:=@Nat.lt_succ_of_lt
def ZAA:=@Nat.not_lt_of_le
def ZAB:=@Option.getD_none
def ZAC:=@Option.isSome_some
def ZAD:=@PySem.F.args_dict_get_3
def ZAE:=@PySem.F.args_tuple_add_2
def ZAF:=@PySem.F.entry_dict_get
def ZAG:=@PySem.F.entry_tuple_add
def ZAH:=@PySem.F.slot_list_insert
def ZAI:=@PySem.F.slot_list_remove
def ZAJ:=@PySem.F.slot_tuple_add
def ZAK:=@PySem.W.cellsFrom_some
def ZAL:=@PySem.W.kitx_dict
def ZAM:=@PySem.W.kitx_list
def ZAN:=@PySem.W.methodCall_KW
def ZAO:=@PySem.SeqAt.RcNeAt.lists_lengths
open PySem PySem.Spec PyProof.Rows
abbrev ZAy:=PySem.W.Frag
abbrev ZAz:=(List (Addr×Obj))
abbrev ZB0:=(Str->Option Value)
namespace PySem.W.Fast
def tw13011616120807874808:=0
def tw16971407641982580994:=0
def tw16954652800747738001:=0
def tw4778923929806047655:=0
def tw6892099958845321867:=0
def tw8729873812433775261:=0
def tw6250330825918500453:=0
def tw17220465551488258389:=0
def tw15232382545516413639:=0
def tw3465559886492785975:=0
def tw15495198728173899155:=0
def tw7201051980885814421:=0
def tw16740499821234085690:=0
def tw14288928128528916695:=0
def tw16878333587813694900:=0
def tw329321580954313429:=0
def tw12559791356799989304:=0
def tw4053422165571636439:=0
def tw9485899794541222080:=0
def tw8287344284028661300:=0
def tw11721928038503873249:=0
def tw18227605672839966928:=0
def tw15306081402113733250:=0
def tw15623531811032684308:=0
def tw9291928135468341034:=0
def tw5721802523860360866:=0
def tw9999147454223165174:=0
def tw13643821602321170057:=0
def tw3289231798073087515:=0
def tw6120684924142134606:=0
def tw10948166075197462527:=0
def tw4194369378548992226:=0
def tw12485853765298563366:=0
def tw17347867811831909341:=0
def tw13922142273285774596:=0
def tw1111672874602589269:=0
def tw12931857996462159255:=0
def tw6976664063197169953:=0
def tw428646126624042806:=0
def tw17404058448329142965:=0
def tw9384544053775745753:=0
def tw15462240092018629152:=0
def tw9781255962999650982:=0
def tw16487412809591842790:=0
def tw6151721677308894879:=0
def tw6597787498248404891:=0
def tw4007076851627088794:=0
def tw11397704892958250112:=0
def tw14403238714583371889:=0
def tw7061572959126030687:=0
def tw4046993427115630251:=0
def tw6895123581834392843:=0
def tw12149809779180369836:=0
def tw18022140950003400337:=0
def tw8392612606712359379:=0
def tw12724468587889478513:=0
def tw1620421285952686922:=0
def tw12947908105863737749:=0
end PySem.W.Fast
set_option bootstrap.genMatcherCode false
set_option Elab.async false
set_option linter.all false
set_option maxRecDepth 100000
namespace L2
variable {α κ:Type}{C a b dx it:Addr}{c cd u:Value}{w:World}{base h h':Heap}{m name qual x:Str}{e tg:Expr}{eX pins:ZAz}{s s':Shared}{g':Array GenState}{i j n t' tk:Nat}{d':Drawn}{ch fp:List Addr}{N ks ns ps:List Str}{M:Model}{A:Around}{E Q:Value->Shared->Prop}{Jl ZAp pos:Pos}{op:CmpOp}{es rest:List Expr}{f:Value->Value->Sem Value}{pl:Sem Bool}{ds us:List Value}{mA mg:ZB0}{prog:Program}{kw:List (Str×Value)}{fd:FuncData}{outer:List Env}{sc scope:Scope}
abbrev Key:=Sum Int Str
def Iy:Key->Value->Bool
 | .inl k,v=>Value.isInt k v
 | .inr x,v=>Value.isStrOf x v
def zH (w:World):Key->Int
 | .inl k=>hashInt k
 | .inr x=>hashStr w x
def Fy:∀ {k:Key}{v:Value},Iy k v=true->(∃ i t,k=Sum.inl i/\v=Value.int i t)∨(∃ x t,k=Sum.inr x/\v=Value.str x t)
 | .inl i,v,h=>by
  obtain ⟨t,e⟩:=Value.isInt_shape (k:=i) (v:=v) h;exact .inl ⟨i,t,rfl,e⟩
 | .inr x,v,h=>by
  obtain ⟨t,e⟩:=Value.isStrOf_shape (x:=x) (v:=v) h;exact .inr ⟨x,t,rfl,e⟩
def v8 (i:Int)(t:Tok):Iy (.inl i) (.int i t)=true:=by simp [Iy,Value.isInt]
def qR (x:Str)(t:Tok):Iy (.inr x) (.str x t)=true:=by simp [Iy,Value.isStrOf]
def kU (a b:Int):decide ((Sum.inl a:Key)=Sum.inl b)=(a == b):=by
 by_cases e:a=b
 ·subst e;simp
 ·have h:¬ (Sum.inl a:Key)=Sum.inl b:=fun q=>e (Sum.inl.inj q);rw [iB h];exact (beq_eq_false_iff_ne.mpr e).symm
def i6 (a b:Str):decide ((Sum.inr a:Key)=Sum.inr b)=decide (a=b):=by
 by_cases e:a=b
 ·subst e;simp
 ·have h:¬ (Sum.inr a:Key)=Sum.inr b:=fun q=>e (Sum.inr.inj q);rw [iB h,iB e]
def sC (a:Int)(b:Str):decide ((Sum.inl a:Key)=Sum.inr b)=false:=iB (fun q=>nomatch q)
def oz (a:Str)(b:Int):decide ((Sum.inr a:Key)=Sum.inl b)=false:=iB (fun q=>nomatch q)
def CB (prog:Program)(w:World):PySem.KeyKind prog w Key where
 is:=Iy
 hash:=zH w
 inj:=fun v a b ha hb=>by
  rcases Fy ha with ⟨i,t,rfl,rfl⟩ | ⟨x,t,rfl,rfl⟩
  ·rcases Fy hb with ⟨j,u,rfl,e⟩ | ⟨y,u,rfl,e⟩
   ·injection e with e1 _;rw [e1]
   ·exact nomatch e
  ·rcases Fy hb with ⟨j,u,rfl,e⟩ | ⟨y,u,rfl,e⟩
   ·exact nomatch e
   ·injection e with e1 _;rw [e1]
 byValue:=fun k v h=>by
  rcases Fy h with ⟨i,t,rfl,rfl⟩ | ⟨x,t,rfl,rfl⟩ <;> rfl
 pyHash:=fun hv h=>by
  rcases Fy hv with ⟨i,t,rfl,rfl⟩ | ⟨x,t,rfl,rfl⟩
  ·exact wpAny_pyHash_int h
  ·exact wpAny_pyHash_str h
 eqBool:=fun hu hv h=>by
  rcases Fy hu with ⟨i,t,rfl,rfl⟩ | ⟨x,t,rfl,rfl⟩
  ·rcases Fy hv with ⟨j,u,rfl,rfl⟩ | ⟨y,u,rfl,rfl⟩
   ·rw [kU] at h;exact wpAny_eqBool_int h
   ·rw [sC] at h;exact SeqAt.EqAt.int_str i t y u _ _ _ _ h
  ·rcases Fy hv with ⟨j,u,rfl,rfl⟩ | ⟨y,u,rfl,rfl⟩
   ·rw [oz] at h;exact SeqAt.EqAt.str_int x t j u _ _ _ _ h
   ·rw [i6] at h;exact wpAny_eqBool_str h
 «strs»:=fun k x t v h=>by
  rcases Fy h with ⟨i,u,rfl,e⟩ | ⟨y,u,rfl,e⟩
  ·exact nomatch e
  ·injection e with e1 _
   subst e1;cases v <;> rfl
def qf (prog:Program)(w:World)(i:Int)(t:Tok):(CB prog w).is (.inl i) (.int i t)=true:=v8 i t
def iI (prog:Program)(w:World)(x:Str)(t:Tok):(CB prog w).is (.inr x) (.str x t)=true:=qR x t
inductive V where
 | A8 | bl (b:Bool) | int (i:Int) | str (x:Str) | Fe (b:Array UInt8) | IM (b:UInt64) | ref (a:Addr) | ty (n:String)
 deriving DecidableEq
variable {v y:V}{Ct vs:List V}
def RelV:V->Value->Prop
 | .A8,u=>u=Value.none
 | .bl b,u=>u=Value.bool b
 | .int i,u=>∃ t,u=Value.int i t
 | .str x,u=>∃ t,u=Value.str x t
 | .Fe b,u=>∃ t,u=Value.bytes b t
 | .IM b,u=>∃ t,u=Value.float b t
 | .ref a,u=>u=Value.ref a
 | .ty n,u=>u=Value.type n
abbrev Vals:List V->List Value->Prop:=Paired RelV
theorem Vals.length {xs:List V}{us:List Value}(r:Vals xs us):xs.length=us.length:=gT r
theorem Vals.get:∀ {xs:List V}{us:List Value}{i:Nat}{x:V},Vals xs us->xs[i]?=some x->∃ u,us[i]?=some u/\RelV x u
 | _,_,_,_,.nil,e=>by simp at e
 | _,_,0,_,.cons r _,e=>by simp at e;subst e;exact ⟨_,rfl,r⟩
 | _,_,i+1,x,.cons _ t,e=>by
  obtain ⟨u,h1,h2⟩:=Vals.get (i:=i) (x:=x) t (by simpa using e)
  exact ⟨u,by simpa using h1,h2⟩
theorem Vals.set {x:V}{u:Value}(r:RelV x u):∀ {xs:List V}{us:List Value}(i:Nat),Vals xs us->Vals (xs.set i x) (us.set i u)
 | _,_,_,.nil=>.nil
 | _,_,0,.cons _ t=>.cons r t
 | _,_,i+1,.cons q t=>.cons q (Vals.set r i t)
theorem Vals.append:∀ {xs ys:List V}{us ws:List Value},Vals xs us->Vals ys ws->Vals (xs++ys) (us++ws)
 | _,_,_,_,.nil,s=>s
 | _,_,_,_,.cons r t,s=>.cons r (Vals.append t s)
theorem Vals.take:∀ {xs:List V}{us:List Value}(n:Nat),Vals xs us->Vals (xs.take n) (us.take n)
 | _,_,0,_=>.nil
 | _,_,_+1,.nil=>.nil
 | _,_,n+1,.cons r t=>.cons r (Vals.take n t)
theorem Vals.drop:∀ {xs:List V}{us:List Value}(n:Nat),Vals xs us->Vals (xs.drop n) (us.drop n)
 | _,_,0,r=>r
 | _,_,_+1,.nil=>.nil
 | _,_,n+1,.cons _ t=>Vals.drop n t
def DZ:Option V->Option Value->Prop
 | some v,some u=>RelV v u
 | none,none=>True
 | _,_=>False
def KV:List (κ×V)->List (κ×Value)->Prop:=Paired fun (p:κ×V) (q:κ×Value)=>p.1=q.1/\RelV p.2 q.2
def kV:Key->V
 | .inl i=>.int i
 | .inr x=>.str x
inductive HO where
 /-- a list -/
 | lst (xs:List V)
 /-- a tuple (never changes) -/
 | tup (xs:List V)
 /-- a dict m6 keys are ints and texts;one m6 keys are tuples of ints and texts (GG empty one is both) -/
 | dK (A3:List (Key×V)) | dT (A3:List (List Key×V))
 /-- a set of ints: A1 members,A1 size -/
 | set (S:Int->Bool) (n:Nat)
 /-- an instance of GG class at C,A1 dict at dx,A1 attributes -/
 | ins (C dx:Addr) (fs:List (Str×V))
 /-- GG dict of GG instance at x -/
 | own (x:Addr)
 /-- GG dict of an exception -/
 | xd (fs:List (Str×V))
 /-- a bound method,f of x -/
 | met (f x:Addr)
 /-- a range object lo,lo+1,.. below hi -/
 | VS (lo hi:Int)
 /-- a rQ ZAu is known to GG object (GG c9;a dict while a loop walks it): read,never written while it is so -/
 | C8 (o:Obj) (u:HO)
 /-- a code ZAe table -/
 | Hz (ps:Array Value)
 /-- any other rQ,by oU is true of A1 one object (a def of ZAm own: oy a S n:=HO.ext fun h=>..) -/
 | ext (φ:Heap->Prop)
variable {o o':HO}
abbrev Hp:=Addr->Option HO
variable {H H':Hp}
def upd (H:Hp)(a:Addr)(o:HO):Hp:=fun b=>if b=a then some o else H b
def Al:upd H a o a=some o:=by unfold upd;rw [gq rfl]
def AS (h:b≠a):upd H a o b=H b:=by unfold upd;rw [gg h]
def sx {u:HO}(h:H a=some o)(h':H b=some u)(d:o≠u):a≠b:=by
 intro e;subst e;rw [h] at h';exact d (B8 h')
def DQ (h:H a=some o)(h':H b=none):a≠b:=by
 intro e;subst e;rw [h] at h';cases h'
section
variable (P:Program)(w:World)
def Br (H:Hp)(h:Heap)(a:Addr):HO->Prop
 | .lst xs=>xs.length<=sizeLine/\∃ (A1:List Value) (n:Nat),Vals xs A1/\h.get? a=some { cls:=.type "list", data:=.seq A1.toArray n }
 | .tup xs=>xs.length<=sizeLine/\∃ A1:List Value,Vals xs A1/\(IsTup h a A1.toArray/\∀ ob,h.get? a=some ob->ob.dict=none)
 | .dK A3=>A3.length<=sizeLine/\(a == sysModules)=false/\∃ vs,KV A3 vs/\h.DictOf (CB P w) a vs
 | .dT A3=>A3.length<=sizeLine/\(a == sysModules)=false/\∃ xs:List (List Key×Addr×Value),
   Paired (fun (p:List Key×V) (q:List Key×Addr×Value)=>p.1=q.1/\H q.2.1=some (.tup (p.1.map kV))/\RelV p.2 q.2.2) A3 xs/\
   ∃ o es ep,h.get? a=some o/\o.ExactDict/\o.data=.dict es ep/\es.toList=xs.map (entryOfKey (tupleKind (CB P w)))/\(xs.map (·.1)).Nodup
 | .set S n=>h.SetOf (intKind P w) a S n
 | .ins C dx fs=>H dx=some (.own a)/\fs.length<=1000/\dx≠a/\h.get? a=some (PySem.W.instObj C dx)/\
   ∃ mA,h.Ns1 dx mA/\(∀ f,DZ (fs.lookup f) (mA f))/\PySem.Within mA (fs.map (·.1))
 | .own _=>∃ o,h.get? a=some o
 | .xd fs=>∃ mA,h.Ns1 a mA/\∀ f,DZ (fs.lookup f) (mA f)
 | .VS lo hi=>∃ t u v,h.get? a=some { cls:=.type "range", data:=.fields #[.int lo t,.int hi u,.int 1 v] }
 | .C8 o u=>h.get? a=some o/\Br H h a u
 | .Hz ps=>h.get? a=some { cls:=.none,data:=.fields ps }
 | .met f x=>h.get? a=some (PySem.W.methodObj (.ref f) (.ref x))
 | .ext φ=>φ h/\(∃ o,h.get? a=some o)/\∀ h1 h2:Heap,φ h1->(∀ o,h1.get? a=some o->h2.get? a=some o)->φ h2
def Bk (H:Hp)(h:Heap):Prop:=∀ a o,H a=some o->Br P w H h a o
end
section
variable {P:Program}
theorem Br.lt (x:Br P w H h a o):a<h.objs.size:=by
 cases o with
 | lst xs=>obtain ⟨_,_,_,_,e⟩:=x;exact Au e
 | tup xs=>obtain ⟨_,_,_,p⟩:=x;exact p.1.lt
 | dK A3=>obtain ⟨_,_,_,_,o,_,_,e,_⟩:=x;exact Au e
 | dT A3=>obtain ⟨_,_,_,_,o,_,_,e,_⟩:=x;exact Au e
 | set S n=>obtain ⟨o,_,_,_,e,_⟩:=x;exact Au e
 | ins C dx fs=>obtain ⟨_,_,_,e,_⟩:=x;exact Au e
 | own y=>obtain ⟨_,e⟩:=x;exact Au e
 | xd fs=>obtain ⟨_,⟨_,_,_,e,_⟩,_⟩:=x;exact Au e
 | VS lo hi=>obtain ⟨_,_,_,e⟩:=x;exact Au e
 | C8 ob u=>obtain ⟨e,_⟩:=x;exact Au e
 | Hz ps=>exact Au (show h.get? a=some _ from x)
 | met f y=>exact Au (show h.get? a=some _ from x)
 | ext φ=>obtain ⟨_,⟨_,e⟩,_⟩:=x;exact Au e
theorem Paired.VC {α β:Type}{F G:α->β->Prop}:∀ {l₁:List α}{l₂:List β},Paired F l₁ l₂->(∀ a b,F a b->G a b)->Paired G l₁ l₂
 | _,_,.nil,_=>.nil
 | _,_,.cons r t,f=>.cons (f _ _ r) (Paired.VC t f)
def Br.Hj (x:Br P w H h a o)(k:∀ b u,(b=a∨H b=some (.own a))->h.get? b=some u->h'.get? b=some u)
  (ho:∀ b,H b=some (.own a)->H' b=some (.own a)) (ht:∀ b xs,H b=some (.tup xs)->H' b=some (.tup xs)):Br P w H' h' a o:=by
 induction o with
 | lst xs=>obtain ⟨z,A1,n,r,e⟩:=x;exact ⟨z,A1,n,r,k _ _ (.inl rfl) e⟩
 | tup xs=>obtain ⟨z,A1,r,⟨ob,e,c⟩,dn⟩:=x;exact ⟨z,A1,r,⟨ob,k _ _ (.inl rfl) e,c⟩,fun UM e'=>by rw [k _ _ (.inl rfl) e] at e';cases e';exact dn _ e⟩
 | dK A3=>obtain ⟨z,y,vs,r,ob,es,ep,e,c⟩:=x;exact ⟨z,y,vs,r,ob,es,ep,k _ _ (.inl rfl) e,c⟩
 | dT A3=>
  obtain ⟨z,y,xs,r,ob,es,ep,e,c⟩:=x;exact ⟨z,y,xs,Paired.VC r fun p q z=>⟨z.1,ht _ _ z.2.1,z.2.2⟩,ob,es,ep,k _ _ (.inl rfl) e,c⟩
 | set S n=>obtain ⟨ob,es,ep,t,e,c⟩:=x;exact ⟨ob,es,ep,t,k _ _ (.inl rfl) e,c⟩
 | ins C dx fs=>
  obtain ⟨d,z,ne,e,mA,⟨od,es,ep,e2,c⟩,r⟩:=x;exact ⟨ho _ d,z,ne,k _ _ (.inl rfl) e,mA,⟨od,es,ep,k _ _ (.inr d) e2,c⟩,r⟩
 | own y=>obtain ⟨ob,e⟩:=x;exact ⟨ob,k _ _ (.inl rfl) e⟩
 | xd fs=>obtain ⟨mA,⟨od,es,ep,e,c⟩,r⟩:=x;exact ⟨mA,⟨od,es,ep,k _ _ (.inl rfl) e,c⟩,r⟩
 | VS lo hi=>obtain ⟨t,u,v,e⟩:=x;exact ⟨t,u,v,k _ _ (.inl rfl) e⟩
 | C8 ob u ih=>obtain ⟨e,q⟩:=x;exact ⟨k _ _ (.inl rfl) e,ih q⟩
 | Hz ps=>
  have e:h.get? a=some { cls:=.none,data:=.fields ps }:=x;show h'.get? a=some { cls:=.none,data:=.fields ps };exact k a _ (.inl rfl) e
 | met f y=>
  have e:h.get? a=some (PySem.W.methodObj (.ref f) (.ref y)):=x;show h'.get? a=some (PySem.W.methodObj (.ref f) (.ref y));exact k a _ (.inl rfl) e
 | ext φ=>obtain ⟨p,⟨o,e⟩,st⟩:=x;exact ⟨st _ _ p fun o q=>k _ _ (.inl rfl) q,⟨o,k _ _ (.inl rfl) e⟩,st⟩
theorem Bk.lt (x:Bk P w H h)(e:H a=some o):a<h.objs.size:=(x a o e).lt
def Bk.fresh (x:Bk P w H h)(e:h.objs.size<=a):H a=none:=by
 cases q:H a with
 | none=>rfl
 | some u=>exact absurd (E6 (x.lt q) e) (IH _)
def Bk.kept (x:Bk P w H h)(k:∀ b u,h.get? b=some u->h'.get? b=some u):Bk P w H h':=fun a o e=>
 (x a o e).Hj (fun b u _ q=>k b u q) (fun _ q=>q) fun _ _ q=>q
def Bk.laid (x:Bk P w H h)(k:∀ b u,h.get? b=some u->h'.get? b=some u)(hp:h.objs.size<=a)(new:Br P w (upd H a o) h' a o):Bk P w (upd H a o) h':=fun b u e=>by
 have hn:=x.fresh hp
 by_cases hb:b=a
 ·subst hb;rw [Al] at e;cases e;exact new
 ·rw [AS hb] at e;exact (x b u e).Hj (fun c v _ q=>k c v q) (fun c q=>by rw [AS (DQ q hn)];exact q) fun c xs q=>by rw [AS (DQ q hn)];exact q
end
def Rd (H:Hp)(a:Addr)(u:HO):Prop:=H a=some u∨∃ o,H a=some (.C8 o u)
def Rd.ok {P:Program}{u:HO}(r:Rd H a u)(x:Bk P w H h):Br P w H h a u:=by
 rcases r with r | ⟨o,r⟩
 ·exact x a u r
 ·obtain ⟨_,q⟩:=x a _ r;exact q
def NR:Option HO->Prop
 | some (.lst _)=>True
 | some (.dK _)=>True
 | some (.dT _)=>True
 | some (.set _ _)=>True
 | some (.ins _ _ _)=>True
 | some (.ext _)=>True
 | _=>False
section
variable {P:Program}{x e:Addr}
def Bk.write (ok:Bk P w H h)(mu:NR (H x))(he:e=x∨H e=some (.own x))(k:∀ b u,b≠e->h.get? b=some u->h'.get? b=some u)(IX:∃ u,h'.get? e=some u)
  (new:Br P w (upd H x o') h' x o'):Bk P w (upd H x o') h':=fun b u q=>by
 have di:∀ c y,H c=some (.own y)->c≠x:=fun c y r z=>by subst z;rw [r] at mu;exact mu
 have rZ:∀ c xs,H c=some (.tup xs)->c≠x:=fun c xs r z=>by subst z;rw [r] at mu;exact mu
 by_cases hb:b=x
 ·subst hb;rw [Al] at q;cases q;exact new
 ·rw [AS hb] at q
  by_cases Jf:b=e
  ·have q':H b=some (.own x):=by
    rcases he with z | z
    ·exact absurd (Jf.trans z) hb
    ·rw [Jf];exact z
   rw [q] at q';cases q';obtain ⟨v,hv⟩:=IX;exact ⟨v,by rw [Jf];exact hv⟩
  ·refine (ok b u q).Hj (fun c v hc r=>k c v ?_ r) (fun c r=>by rw [AS (di c b r)];exact r) fun c xs r=>by rw [AS (rZ c xs r)];exact r
   rcases hc with rfl | hc
   ·exact Jf
   ·rintro rfl;rcases he with z | z
    ·exact di c b hc z
    ·rw [hc] at z;cases z;exact hb rfl
end
structure Un (fs ex:List Addr) (H H':Hp) (h h':Heap):Prop where
 keep:∀ b o,h.get? b=some o->H b=none->b∉fs->b∉ex->h'.get? b=some o
 slot:∀ b o,h.get? b=some o->H b=none->b∈fs->b∉ex->∃ sl,h'.get? b=some { o with slots:=sl }
 free:∀ b o,h.get? b=some o->H b=none->b∉ex->H' b=none
 there:∀ b o,h.get? b=some o->b∉ex->∃ o',h'.get? b=some o'
 Gn:∀ b xs,H b=some (.tup xs)->H' b=some (.tup xs)
 G4:∀ b o u,H b=some (.C8 o u)->H' b=some (.C8 o u)
 Gw:∀ b ps,H b=some (.Hz ps)->∃ more,H' b=some (.Hz (ps++more))
section
variable {fs jN ex ex':List Addr}{H1 H2:Hp}{h1 h2:Heap}{x e:Addr}
def Un.any (u:Un fs ex H H1 h h1){ob:Obj}(q:h.get? b=some ob)(n:H b=none)(hx:b∉ex):∃ sl,h1.get? b=some { ob with slots:=sl }:=by
 by_cases hb:b∈fs
 ·exact u.slot b ob q n hb hx
 ·exact ⟨ob.slots,u.keep b ob q n hb hx⟩
def Un.kept (k:∀ b u,h.get? b=some u->h'.get? b=some u):Un fs ex H H h h':=
 ⟨fun b ob q _ _ _=>k b ob q,fun b ob q _ _ _=>⟨ob.slots,k b ob q⟩,fun _ _ _ n _=>n,fun b ob q _=>⟨ob,k b ob q⟩,fun _ _ q=>q,fun _ _ _ q=>q,fun _ ps q=>⟨#[],by rw [q];simp⟩⟩
def Un.refl:Un fs ex H H h h:=Un.kept fun _ _ q=>q
def Un.laid (k:∀ b u,h.get? b=some u->h'.get? b=some u)(hp:h.objs.size<=a)(hn:H a=none):Un fs ex H (upd H a o) h h' where
 keep:=fun b u q _ _ _=>k b u q
 slot:=fun b u q _ _ _=>⟨u.slots,k b u q⟩
 free:=fun b u q n _=>by rw [AS (CQ (E6 (Au q) hp))];exact n
 there:=fun b u q _=>⟨u,k b u q⟩
 Gn:=fun b xs q=>by rw [AS (DQ q hn)];exact q
 G4:=fun b u xs q=>by rw [AS (DQ q hn)];exact q
 Gw:=fun b ps q=>⟨#[],by rw [AS (DQ q hn),q];simp⟩
def Un.write (mu:NR (H x))(he:e=x∨H e=some (.own x))(k:∀ b u,b≠e->h.get? b=some u->h'.get? b=some u)(IX:∃ u,h'.get? e=some u):Un fs ex H (upd H x o) h h':=by
 have hx:∀ b,H b=none->b≠x:=fun b n z=>by subst z;rw [n] at mu;exact mu
 have hb:∀ b,H b=none->b≠e:=fun b n z=>by
  subst z;rcases he with r | r
  ·exact hx b n r
  ·rw [n] at r;cases r
 have hm:∀ b u,H b=some u->¬ NR (some u)->b≠x:=fun b u q nm z=>by subst z;rw [q] at mu;exact nm mu
 refine ⟨fun b u q n _ _=>k b u (hb b n) q,fun b u q n _ _=>⟨u.slots,k b u (hb b n) q⟩,fun b u q n _=>by rw [AS (hx b n)];exact n,fun b u q _=>?_,
  fun b xs q=>by rw [AS (hm b _ q fun z=>z)];exact q,fun b u xs q=>by rw [AS (hm b _ q fun z=>z)];exact q,fun b ps q=>⟨#[],by rw [AS (hm b _ q fun z=>z),q];simp⟩⟩
 by_cases Jf:b=e
 ·subst Jf;exact IX
 ·exact ⟨u,k b u Jf q⟩
end
def Pm (h:Heap)(H:Hp):List Addr:=(List.range h.objs.size).filter fun a=>(H a).isSome
def HM (h:Heap)(H:Hp):Heap:=PySem.W.hideAll h (Pm h H)
def xu (h:Heap)(H:Hp):(HM h H).objs.size=h.objs.size:=PySem.W.hideAll_size _ _
def kP {o:Obj}(e:h.get? b=some o)(n:H b=none):(HM h H).get? b=some o:=
 PySem.W.hideAll_get _ e fun hm=>by
  have q:(H b).isSome=true:=(List.mem_filter.mp hm).2;rw [n] at q;simp at q
def pY {o:Obj}(e:(HM h H).get? b=some o):h.get? b=some o/\H b=none:=by
 have e':h.get? b=some o:=PySem.W.of_hideAll (Pm h H) e;refine ⟨e',?_⟩;cases q:H b with
 | none=>rfl
 | some x=>
  have hm:b∈Pm h H:=List.mem_filter.mpr ⟨List.mem_range.mpr (Au e'),by simp [q]⟩;have z:(HM h H).get? b=none:=PySem.W.hideAll_none (Pm h H) hm;rw [z] at e;cases e
structure Mod (K:ZAy) (mg:ZB0) (base:Heap):Prop where
 NI:K.In base
 glob:base.Ns mainGlobals mg
 blt:∃ mb,base.Ns builtinsNs mb/\∀ x:Str,x ≠ "__name__" -> mb x=bootBuiltins x
 nolimit:base.NoLimit
structure Cx where
 prog:Program
 w:World
 K:ZAy
 mg:ZB0
 base:Heap
 A:Around
 N:List Str
 s₀:Shared
 H₀:Hp
 env:Env
 outer:List Env
 stack:List Env
 ex:List Addr
 fn:Str->Bool
 calm:Bool
 pn:ZAz
 xe:Value->Shared->Prop
variable {X:Cx}
def GL (l:List Env):List Addr:=l.filterMap (·.frame)
abbrev Cx.fs (X:Cx):List Addr:=GL X.outer
def UN (sc:Scope)(x:Str):Prop:=sc.names.lookup x=some .local∨sc.names.lookup x=some .cell∨sc.names.lookup x=some .free
def Loc (sc:Scope)(x:Str):Prop:=sc.names.lookup x=some .local∨sc.names.lookup x=some .cell
def Look (env:Env)(h:Heap)(m:ZB0)(x:Str)(u:Value):Prop:=
 (env.kindOf x=some .local/\m x=some u)∨((env.kindOf x=some .cell∨env.kindOf x=some .free)/\∃ c,env.cells.lookup x=some c/\h.IsCell c (some u))
structure Cx.Ok (X:Cx):Prop where
 mod:Mod X.K X.mg X.base
 kind:X.env.scope.kind=.function
 glob:X.env.globals=mainGlobals
 blt:X.env.builtins=builtinsNs
 above:X.s₀.heap.objs.size<=X.env.locals
 inj:∀ x y c,X.env.cells.lookup x=some c->X.env.cells.lookup y=some c->x=y
 has:∀ x,(X.env.kindOf x=some .cell∨X.env.kindOf x=some .free)->∃ c,X.env.cells.lookup x=some c
 Mt:∀ x c,X.fn x=true->X.env.cells.lookup x=some c->X.s₀.heap.objs.size<=c
 hd:X.calm=true->X.A.handled=none
 frames:X.A.frames=some X.stack
 R7:X.stack=X.outer∨(X.stack=X.env::X.outer/\X.env.frame=some X.env.locals)
 Pc:∀ b∈X.ex,b≠X.env.locals/\∀ x c,X.env.cells.lookup x=some c->c≠b
 bs:∀ b o,X.base.get? b=some o->X.s₀.heap.get? b=some o/\X.H₀ b=none
 Hd:X.base.objs.size<=X.s₀.heap.objs.size
 Md:∀ b o,X.base.get? b=some o->b∉X.ex
 Mf:∀ b∈X.ex,b∉X.fs
 FZ:X.s₀.heap.FunFrames X.base X.outer
 Js:∀ b∈X.fs,X.H₀ b=none
structure Inv (X:Cx) (pins:ZAz) (σ:List (Option V)) (H:Hp) (s:Shared):Prop where
 ok:X.Ok
 os:s.os=X.s₀.os
 bare:AllBare s.gens
 base:Un X.fs X.ex X.H₀ H X.s₀.heap s.heap
 loc:∃ m,s.heap.Ns X.env.locals m/\∀ (i:Nat) (x:Str) (v:V),X.N[i]?=some x->σ[i]?=some (some v)->UN X.env.scope x->∃ u,RelV v u/\Look X.env s.heap m x u
 cell:∀ x c,X.env.cells.lookup x=some c->∃ v,s.heap.IsCell c v
 free:H X.env.locals=none
 G5:∀ x c,X.env.cells.lookup x=some c->H c=none
 pin:∀ p∈X.pn++pins,s.heap.get? p.1=some p.2/\H p.1=none/\p.1≠X.env.locals/\p.1∉X.fs/\∀ v,p.2.data≠.cell v
 AG:Bk X.prog X.w H s.heap
 len:σ.length=X.N.length
section
variable {σ:List (Option V)}
def Cx.Ok.gz (ok:X.Ok){o:Obj}(e:X.base.get? b=some o):b∉X.fs:=fun hb=>by
 have:=(ok.FZ.mem hb).1;rw [e] at this;cases this
theorem Inv.bs (I:Inv X pins σ H s):∀ b o,X.base.get? b=some o->s.heap.get? b=some o/\H b=none:=fun b o e=>
 ⟨I.base.keep b o (I.ok.bs b o e).1 (I.ok.bs b o e).2 (I.ok.gz e) (I.ok.Md b o e),I.base.free b o (I.ok.bs b o e).1 (I.ok.bs b o e).2 (I.ok.Md b o e)⟩
def Inv.bk (I:Inv X pins σ H s):∀ b o,X.base.get? b=some o->s.heap.get? b=some o:=fun b o e=>(I.bs b o e).1
theorem Inv.mod (I:Inv X pins σ H s):Mod X.K X.mg X.base:=I.ok.mod
def Inv.CH (I:Inv X pins σ H s):X.K.In s.heap:=I.ok.mod.NI.keeps I.bk
theorem Inv.lt (I:Inv X pins σ H s):X.env.locals<s.heap.objs.size:=let ⟨_,hn,_⟩:=I.loc;hn.lt
def Inv.sz (I:Inv X pins σ H s):X.s₀.heap.objs.size<=s.heap.objs.size:=Em I.ok.above (gQ I.lt)
def Inv.vO (I:Inv X pins σ H s)(h:s.heap.objs.size<=a):a∉X.fs:=fun hb=>by
 obtain ⟨_,o,ho,_⟩:=I.ok.FZ.mem hb;exact absurd (E6 (Au ho) (Em I.sz h)) (IH _)
def Inv.K8 (I:Inv X pins σ H s):∀ x c,X.env.cells.lookup x=some c->c≠X.env.locals:=fun x c e z=>by
 obtain ⟨v,o,ho,hd⟩:=I.cell x c e;obtain ⟨m,⟨o',es,ep,Eb,Ss,_⟩,_⟩:=I.loc;rw [z,Eb] at ho;cases ho;rw [Ss] at hd;cases hd
theorem Inv.FZ (I:Inv X pins σ H s):s.heap.FunFrames X.base X.outer:=by
 have all:∀ (l:List Env),(∀ b∈GL l,b∈X.fs)->X.s₀.heap.FunFrames X.base l->s.heap.FunFrames X.base l:=by
  intro l
  induction l with
  | nil=>intro _ _;trivial
  | cons env r ih=>
   intro hs hl;obtain ⟨hk,⟨L,o,hf,hn,ho,hd⟩,hr⟩:=hl;have hL:L∈X.fs:=hs L (by unfold GL;rw [gE,hf];exact HG);obtain ⟨sl,e⟩:=I.base.slot L o ho (I.ok.Js L hL) hL fun z=>I.ok.Mf L z hL;exact ⟨hk,⟨L,_,hf,hn,e,hd⟩,ih (fun b hb=>hs b (by unfold GL;rw [gE,hf];exact E5 _ hb)) hr⟩
 exact all X.outer (fun _ hb=>hb) I.ok.FZ
theorem Inv.stack (I:Inv X pins σ H s):s.heap.FunFrames X.base X.stack:=by
 rcases I.ok.R7 with e | ⟨e,hf⟩
 ·rw [e];exact I.FZ
 ·rw [e];obtain ⟨m,hn,_⟩:=I.loc;refine .cons (by rw [I.ok.kind];decide) hf hn ?_ I.FZ;exact Heap.get?_none_of_le (Em I.ok.Hd I.ok.above)
def Inv.T1 (I:Inv X pins σ H s):∀ b∈GL X.stack,b∈X.env.locals::X.fs:=fun b hb=>by
 rcases I.ok.R7 with e | ⟨e,hf⟩
 ·rw [e] at hb;exact E5 _ hb
 ·rw [e] at hb;unfold GL at hb;rw [gE,hf] at hb;exact hb
def Inv.fP (I:Inv X pins σ H s):∀ b∈GL X.stack,H b=none:=fun b hb=>by
 rcases List.mem_cons.mp (I.T1 b hb) with e | hb
 ·rw [e];exact I.free
 ·obtain ⟨_,o,ho,_⟩:=I.ok.FZ.mem hb;exact I.base.free b o ho (I.ok.Js b hb) fun z=>I.ok.Mf b z hb
def Inv.step (I:Inv X pins σ H s)
  (Gs:∀ b∈ch,(b∈X.ex∨X.s₀.heap.objs.size<=b)/\b≠X.env.locals/\(∀ x c,X.env.cells.lookup x=some c->c≠b)/\∀ p∈X.pn++pins,p.1≠b)
  (keep:∀ b o,b≠X.env.locals->b∉X.fs->b∉ch->s.heap.get? b=some o->H b=none->h'.get? b=some o)
  (slot:∀ b o,b≠X.env.locals->b∈X.fs->b∉ch->s.heap.get? b=some o->H b=none->∃ sl,h'.get? b=some { o with slots:=sl }) (free:∀ b o,b∉ch->s.heap.get? b=some o->H b=none->H' b=none)
  (there:∀ b o,b∉ch->s.heap.get? b=some o->∃ o',h'.get? b=some o')
  (Gn:∀ b xs,H b=some (.tup xs)->H' b=some (.tup xs)) (G4:∀ b o u,H b=some (.C8 o u)->H' b=some (.C8 o u)) (Gw:∀ b ps,H b=some (.Hz ps)->∃ more,H' b=some (.Hz (ps++more)))
  (ns:∀ m,s.heap.Ns X.env.locals m->h'.Ns X.env.locals m) (AG:Bk X.prog X.w H' h') (hg:AllBare g') :
  Inv X pins σ H' { s with heap:=h',gens:=g',drawn:=d',toks:=t' }:=by
 have cu:∀ b o,X.s₀.heap.get? b=some o->b≠X.env.locals:=fun b o e=>CQ (E6 (Au e) I.ok.above);have PH:∀ b o,X.s₀.heap.get? b=some o->b∉X.ex->b∉ch:=fun b o e hx hb=>by
  rcases (Gs b hb).1 with z | z
  ·exact hx z
  ·exact absurd (E6 (Au e) z) (IH _)
 have cellK:∀ x c,X.env.cells.lookup x=some c->∀ v,s.heap.IsCell c v->h'.IsCell c v:=fun x c e v ⟨o,ho,hd⟩=>by
  have Nk:c∉ch:=fun z=>(Gs c z).2.2.1 x c e rfl
  by_cases hc:c∈X.fs
  ·obtain ⟨sl,q⟩:=slot c o (I.K8 x c e) hc Nk ho (I.G5 x c e);exact ⟨_,q,hd⟩
  ·exact ⟨o,keep c o (I.K8 x c e) hc Nk ho (I.G5 x c e),hd⟩
 refine ⟨I.ok,I.os,hg,⟨fun b o e n hb hx=>?_,fun b o e n hb hx=>?_,fun b o e n hx=>?_,fun b o e hx=>?_,fun b xs e=>Gn b xs (I.base.Gn b xs e),fun b o xs e=>G4 b o xs (I.base.G4 b o xs e),fun b ps e=>?_⟩,?_,fun x c e=>?_,?_,fun x c e=>?_,fun p hp=>?_,AG,I.len⟩
 ·exact keep b o (cu b o e) hb (PH b o e hx) (I.base.keep b o e n hb hx) (I.base.free b o e n hx)
 ·obtain ⟨sl,e1⟩:=I.base.slot b o e n hb hx;obtain ⟨lF,e2⟩:=slot b _ (cu b o e) hb (PH b o e hx) e1 (I.base.free b o e n hx);exact ⟨lF,e2⟩
 ·obtain ⟨o',e1⟩:=I.base.there b o e hx;exact free b o' (PH b o e hx) e1 (I.base.free b o e n hx)
 ·obtain ⟨o',e1⟩:=I.base.there b o e hx;exact there b o' (PH b o e hx) e1
 ·obtain ⟨m1,e1⟩:=I.base.Gw b ps e;obtain ⟨m2,e2⟩:=Gw b _ e1;exact ⟨m1++m2,by rw [e2,Array.append_assoc]⟩
 ·obtain ⟨m,hn,hl⟩:=I.loc;refine ⟨m,ns m hn,fun i x v e1 e2 e3=>?_⟩;obtain ⟨u,r,l⟩:=hl i x v e1 e2 e3;refine ⟨u,r,?_⟩;rcases l with l | ⟨k,c,e,z⟩
  ·exact .inl l
  ·exact .inr ⟨k,c,e,cellK x c e _ z⟩
 ·obtain ⟨v,z⟩:=I.cell x c e;exact ⟨v,cellK x c e v z⟩
 ·obtain ⟨m,⟨o,_,_,ho,_⟩,_⟩:=I.loc;exact free _ o (fun z=>(Gs _ z).2.1 rfl) ho I.free
 ·obtain ⟨v,o,ho,hd⟩:=I.cell x c e;exact free c o (fun z=>(Gs c z).2.2.1 x c e rfl) ho (I.G5 x c e)
 ·obtain ⟨e,n,ne,nf,d⟩:=I.pin p hp;have Nk:p.1∉ch:=fun z=>(Gs p.1 z).2.2.2 p hp rfl;exact ⟨keep p.1 p.2 ne nf Nk e n,free p.1 p.2 Nk e n,ne,nf,d⟩
def Inv.un (I:Inv X pins σ H s)(u:Un X.fs [] H H' s.heap h')(AG:Bk X.prog X.w H' h'):Inv X pins σ H' { s with heap:=h',toks:=t' }:=by
 obtain ⟨m,⟨o,es,ep,ho,r⟩,_⟩:=id I.loc;obtain ⟨sl,hL⟩:=u.any ho I.free (by simp);exact I.step (g':=s.gens) (d':=s.drawn) (ch:=[]) (fun _ z=>nomatch z) (fun b o _ hb _ e n=>u.keep b o e n hb (by simp)) (fun b o _ hb _ e n=>u.slot b o e n hb (by simp)) (fun b o _ e n=>u.free b o e n (by simp)) (fun b o _ e=>u.there b o e (by simp)) u.Gn u.G4 u.Gw (fun m' hm=>by
  obtain ⟨o',Lm,LF,Eb,r'⟩:=hm;rw [ho] at Eb;cases Eb;exact ⟨_,Lm,LF,hL,r'⟩) AG I.bare
def Inv.call (I:Inv X pins σ H s)(u:Un (GL X.stack) ch H H' s.heap h')(AG:Bk X.prog X.w H' h')(hg:AllBare g')
  (Gs:∀ b∈ch,(b∈X.ex∨X.s₀.heap.objs.size<=b)/\b≠X.env.locals/\(∀ x c,X.env.cells.lookup x=some c->c≠b)/\∀ p∈X.pn++pins,p.1≠b) :
  Inv X pins σ H' { s with heap:=h',gens:=g',drawn:=d',toks:=t' }:=by
 obtain ⟨m,⟨o,es,ep,ho,r⟩,_⟩:=id I.loc;obtain ⟨sl,hL⟩:=u.any ho I.free fun z=>(Gs _ z).2.1 rfl;exact I.step (ch:=ch) Gs (fun b o hL hb hc e n=>u.keep b o e n (fun z=>(List.mem_cons.mp (I.T1 b z)).elim hL hb) hc) (fun b o _ _ hc e n=>u.any e n hc) (fun b o hc e n=>u.free b o e n hc) (fun b o hc e=>u.there b o e hc) u.Gn u.G4 u.Gw (fun m' hm=>by
  obtain ⟨o',Lm,LF,Eb,r'⟩:=hm;rw [ho] at Eb;cases Eb;exact ⟨_,Lm,LF,hL,r'⟩) AG hg
def Inv.turned (I:Inv X pins σ H s)(k:∀ b o,b≠it->s.heap.get? b=some o->h'.get? b=some o)(hn:H it=none)(hL:it≠X.env.locals)
  (h1:it∈X.ex∨X.s₀.heap.objs.size<=it) (h2:∀ x c,X.env.cells.lookup x=some c->c≠it) (h3:∀ p∈X.pn++pins,p.1≠it):Inv X pins σ H { s with heap:=h',toks:=t' }:=by
 have JJ:∀ b u,H b=some u->b≠it:=fun b u e z=>by rw [z,hn] at e;cases e
 refine I.step (g':=s.gens) (d':=s.drawn) (ch:=[it]) (fun b hb=>?_) (fun b o _ _ hc e _=>k b o (fun z=>hc (by simp [z])) e) (fun b o _ _ hc e _=>⟨o.slots,k b o (fun z=>hc (by simp [z])) e⟩) (fun _ _ _ _ n=>n)
  (fun b o hc e=>⟨o,k b o (fun z=>hc (by simp [z])) e⟩) (fun _ _ e=>e) (fun _ _ _ e=>e) (fun b ps e=>⟨#[],by rw [e];simp⟩) (fun m hm=>?_) (fun b u e=>?_) I.bare
 ·have e:b=it:=by simpa using hb
  subst e;exact ⟨h1,hL,h2,h3⟩
 ·obtain ⟨o,es,ep,ho,r⟩:=hm;exact ⟨o,es,ep,k _ o (Bj hL) ho,r⟩
 ·refine (I.AG b u e).Hj (fun c v hc q=>k c v ?_ q) (fun _ q=>q) fun _ _ q=>q;rcases hc with z | z
  ·rw [z];exact JJ b u e
  ·exact JJ c _ z
def Inv.tok (I:Inv X pins σ H s)(t:Nat):Inv X pins σ H { s with toks:=t }:=I.un (h':=s.heap) (t':=t) Un.refl I.AG
theorem Inv.kept (I:Inv X pins σ H s)(k:∀ b u,s.heap.get? b=some u->h'.get? b=some u):Inv X pins σ H { s with heap:=h',toks:=t' }:=I.un (Un.kept k) (I.AG.kept k)
theorem Inv.laid (I:Inv X pins σ H s)(k:∀ b u,s.heap.get? b=some u->h'.get? b=some u)(hp:s.heap.objs.size<=a)(new:Br X.prog X.w (upd H a o) h' a o):
  Inv X pins σ (upd H a o) { s with heap:=h',toks:=t' }:=I.un (Un.laid k hp (I.AG.fresh hp)) (I.AG.laid k hp new)
theorem Inv.write {x e:Addr}(I:Inv X pins σ H s)(mu:NR (H x))(he:e=x∨H e=some (.own x))(k:∀ b u,b≠e->s.heap.get? b=some u->h'.get? b=some u)(IX:∃ u,h'.get? e=some u)
  (new:Br X.prog X.w (upd H x o) h' x o):Inv X pins σ (upd H x o) { s with heap:=h',toks:=t' }:=I.un (Un.write mu he k IX) (I.AG.write mu he k IX new)
def Inv.eJ (I:Inv X pins σ H s)(h:∀ p∈eX,s.heap.get? p.1=some p.2/\H p.1=none/\p.1≠X.env.locals/\p.1∉X.fs/\∀ v,p.2.data≠.cell v):Inv X eX σ H s:=
 ⟨I.ok,I.os,I.bare,I.base,I.loc,I.cell,I.free,I.G5,fun p hp=>(List.mem_append.mp hp).elim (fun z=>I.pin p (RD _ z)) (h p),I.AG,I.len⟩
def aJ (hN:N.Nodup)(a:N[i]?=some x)(b:N[j]?=some x):i=j:=by
 obtain ⟨h1,e1⟩:=List.getElem?_eq_some_iff.mp a;obtain ⟨h2,e2⟩:=List.getElem?_eq_some_iff.mp b;exact (Wv hN).mp (e1.trans e2.symm)
def d3 {Q:Unit->Shared->Prop}(I:Inv X pins σ H s)(hN:X.N.Nodup)(hi:X.N[i]?=some x)(hx:Loc X.env.scope x)(r:RelV v u)
  (h:∀ s',Inv X pins (σ.set i (some v)) H s'->(∃ a,Heap.SameBut a s.heap s'.heap/\(a=X.env.locals∨X.env.cells.lookup x=some a))->Q () s') (hf:X.fn x=true∨X.env.scope.names.lookup x=some .local:=by first | exact .inl rfl | exact .inr rfl | assumption):wpAny M A (storeName X.env x u) Q E s:=by
 obtain ⟨m,hn,hl⟩:=id I.loc;have qh:(X.env.scope.kind == .class || (X.env.scope.kind == .module && X.env.locals != X.env.globals))=false:=by rw [I.ok.kind];rfl
 have hiσ:i<σ.length:=by rw [I.len];exact (List.getElem?_eq_some_iff.mp hi).1
 have K8:=I.K8;have tracked:∀ {a:Addr}{h':Heap},(∃ o,s.heap.get? a=some o/\H a=none)->Heap.SameBut a s.heap h'->Bk X.prog X.w H h':=fun {a h'} ha hs b ob e=>by
  obtain ⟨_,_,ZI⟩:=ha;refine (I.AG b ob e).Hj (fun c w' hc q=>(hs.2 c ?_).trans q) (fun _ q=>q) fun _ _ q=>q;rintro rfl;rcases hc with rfl | hc
  ·rw [ZI] at e;cases e
  ·rw [ZI] at hc;cases hc
 rcases hx with hk | hk
 ·refine wpAny_storeName_local hk hn (fun h' MM hs=>?_) qh;obtain ⟨oL,_,_,vg,_⟩:=id hn;refine h _ ⟨I.ok,I.os,I.bare,⟨fun b o e n hb hx=>?_,fun b o e n hb hx=>?_,I.base.free,fun b o e hx=>?_,I.base.Gn,I.base.G4,I.base.Gw⟩,⟨_,MM,fun j y v' e1 e2 e3=>?_⟩,fun y c e=>?_,I.free,I.G5,fun p hp=>?_,tracked ⟨oL,vg,I.free⟩ hs,by simpa using I.len⟩ ⟨_,hs,.inl rfl⟩
  ·exact (hs.2 b (CQ (E6 (Au e) I.ok.above))).trans (I.base.keep b o e n hb hx)
  ·obtain ⟨sl,e1⟩:=I.base.slot b o e n hb hx;exact ⟨sl,(hs.2 b (CQ (E6 (Au e) I.ok.above))).trans e1⟩
  ·obtain ⟨o',e1⟩:=I.base.there b o e hx;exact ⟨o',(hs.2 b (CQ (E6 (Au e) I.ok.above))).trans e1⟩
  ·by_cases hj:j=i
   ·subst hj;rw [hi] at e1;cases e1;rw [DG hiσ] at e2;cases e2;exact ⟨u,r,.inl ⟨hk,by simp⟩⟩
   ·rw [Cs (Bj hj)] at e2;obtain ⟨u',r',q⟩:=hl j y v' e1 e2 e3;refine ⟨u',r',?_⟩;rcases q with ⟨k,e⟩ | ⟨k,c,e,z⟩
    ·refine .inl ⟨k,?_⟩;have:y≠x:=fun e=>hj (aJ hN e1 (e▸hi));simp [this,e]
    ·exact .inr ⟨k,c,e,z.sameBut hs (K8 y c e)⟩
  ·obtain ⟨w',z⟩:=I.cell y c e;exact ⟨w',z.sameBut hs (K8 y c e)⟩
  ·obtain ⟨e,n,ne,nf,d⟩:=I.pin p hp;exact ⟨(hs.2 p.1 ne).trans e,n,ne,nf,d⟩
 ·have RY:X.fn x=true:=by
   rcases hf with z | z
   ·exact z
   ·rw [z] at hk;cases hk
  obtain ⟨c,hc⟩:=I.ok.has x (.inl hk);obtain ⟨w',z⟩:=I.cell x c hc;refine wpAny_storeName_cell I.ok.kind hk hc z (fun h' O0 hs=>?_);obtain ⟨oc,dH,pR⟩:=id z;refine h { s with heap:=h' } ⟨I.ok,I.os,I.bare,⟨fun b o e n hb hx=>?_,fun b o e n hb hx=>?_,I.base.free,fun b o e hx=>?_,I.base.Gn,I.base.G4,I.base.Gw⟩,⟨m,hn.sameBut hs (Bj (K8 x c hc)),fun j y v' e1 e2 e3=>?_⟩,fun y c' e=>?_,I.free,I.G5,fun p hp=>?_,tracked ⟨oc,dH,I.G5 x c hc⟩ hs,by simpa using I.len⟩ ⟨c,hs,.inr hc⟩
  ·exact (hs.2 b (CQ (E6 (Au e) (I.ok.Mt x c RY hc)))).trans (I.base.keep b o e n hb hx)
  ·obtain ⟨sl,e1⟩:=I.base.slot b o e n hb hx;exact ⟨sl,(hs.2 b (CQ (E6 (Au e) (I.ok.Mt x c RY hc)))).trans e1⟩
  ·obtain ⟨o',e1⟩:=I.base.there b o e hx;exact ⟨o',(hs.2 b (CQ (E6 (Au e) (I.ok.Mt x c RY hc)))).trans e1⟩
  ·by_cases hj:j=i
   ·subst hj;rw [hi] at e1;cases e1;rw [DG hiσ] at e2;cases e2;exact ⟨u,r,.inr ⟨.inl hk,c,hc,O0⟩⟩
   ·rw [Cs (Bj hj)] at e2;obtain ⟨u',r',q⟩:=hl j y v' e1 e2 e3;refine ⟨u',r',?_⟩;rcases q with q | ⟨k,c',e,z'⟩
    ·exact .inl q
    ·refine .inr ⟨k,c',e,z'.sameBut hs ?_⟩;rintro rfl;exact hj (aJ hN e1 (I.ok.inj _ _ _ e hc▸hi))
  ·by_cases PQ:c'=c
   ·subst PQ;exact ⟨_,O0⟩
   ·obtain ⟨w2,z2⟩:=I.cell y c' e;exact ⟨w2,z2.sameBut hs PQ⟩
  ·obtain ⟨e,n,ne,nf,d⟩:=I.pin p hp;refine ⟨(hs.2 p.1 ?_).trans e,n,ne,nf,d⟩;intro q;rw [q,dH] at e;have q':oc=p.2:=B8 e;exact d w' (by rw [<- q'];exact pR)
def Yf {Q:Unit->Shared->Prop}(I:Inv X pins σ H s)(hN:X.N.Nodup)(hi:X.N[i]?=some x)(hx:Loc X.env.scope x)(r:RelV v u)
  (h:∀ s',Inv X pins (σ.set i (some v)) H s'->Q () s') (hf:X.fn x=true∨X.env.scope.names.lookup x=some .local:=by first | exact .inl rfl | exact .inr rfl | assumption):wpAny M A (storeName X.env x u) Q E s:=
 d3 I hN hi hx r (fun s' I' _=>h s' I') hf
def Inv.gp (I:Inv X pins σ H s)(ho:s'.os=s.os)(u:Un (GL X.stack) ch H H' s.heap s'.heap)(AG:Bk X.prog X.w H' s'.heap)(hg:AllBare s'.gens)
  (Gs:∀ b∈ch,(b∈X.ex∨X.s₀.heap.objs.size<=b)/\b≠X.env.locals/\(∀ x c,X.env.cells.lookup x=some c->c≠b)/\∀ p∈X.pn++pins,p.1≠b):Inv X pins σ H' s':=by
 obtain ⟨h',g',d',t',o'⟩:=s';have e:o'=s.os:=ho;subst e;exact I.call (g':=g') (t':=t') (d':=d') u AG hg Gs
end
abbrev XK:=Value->Option Addr->Hp->Prop
abbrev St:=List (Option V)
variable {σ:St}
abbrev VK:=V->Hp->Prop
abbrev TE:=St->Hp->VK->Prop
variable {ta tb tc te:TE}
abbrev TT:=St->Hp->(Bool->Hp->Prop)->Prop
abbrev TA:=St->Hp->(List V->Hp->Prop)->Prop
structure Ends where
 nx:St->Hp->Prop
 rt:VK
 bk:St->Hp->Prop:=fun _ _=>False
 ct:St->Hp->Prop:=fun _ _=>False
abbrev TS:=Ends->St->Hp->Prop
def EP (X:Cx)(pins:ZAz)(σ:St)(Q:VK)(u:Value)(s':Shared):Prop:=∃ v H',Inv X pins σ H' s'/\RelV v u/\Q v H'
def TP (X:Cx)(pins:ZAz)(σ:St)(Q:Bool->Hp->Prop)(b:Bool)(s':Shared):Prop:=∃ H',Inv X pins σ H' s'/\Q b H'
def AP (X:Cx)(pins:ZAz)(σ:St)(Q:List V->Hp->Prop)(us:List Value)(s':Shared):Prop:=∃ vs H',Inv X pins σ H' s'/\Vals vs us/\Q vs H'
def SP (X:Cx)(pins:ZAz)(D:Ends)(f:Flow)(s':Shared):Prop:=
 match f with
 | .next=>∃ σ' H',Inv X pins σ' H' s'/\D.nx σ' H'
 | .brk=>∃ σ' H',Inv X pins σ' H' s'/\D.bk σ' H'
 | .cont=>∃ σ' H',Inv X pins σ' H' s'/\D.ct σ' H'
 | .ret u=>∃ v σ' H',Inv X pins σ' H' s'/\RelV v u/\D.rt v H'
def PE (X:Cx)(e:Expr)(t:TE):Prop:=
 ∀ (pins:ZAz) (s:Shared) (σ:St) (H:Hp) (Q:VK),Inv X pins σ H s->t σ H Q->wpAny (model X.prog X.w) X.A (eval e X.env) (EP X pins σ Q) X.xe s
def PT (X:Cx)(e:Expr)(t:TT):Prop:=
 ∀ (pins:ZAz) (s:Shared) (σ:St) (H:Hp) (Q:Bool->Hp->Prop),Inv X pins σ H s->t σ H Q->wpAny (model X.prog X.w) X.A (isTrue e X.env (eval e X.env)) (TP X pins σ Q) X.xe s
def PW (X:Cx)(e:Expr)(t:TT):Prop:=
 ∀ (whole:Sem Value) (pins:ZAz) (s:Shared) (σ:St) (H:Hp) (Q:Bool->Hp->Prop),Inv X pins σ H s->t σ H Q->wpAny (model X.prog X.w) X.A (isTrue e X.env whole) (TP X pins σ Q) X.xe s
def PW.pt {t:TT}(h:PW X e t):PT X e t:=h _
def PA (X:Cx)(es:List Expr)(t:TA):Prop:=
 ∀ (pos:Pos) (pins:ZAz) (s:Shared) (σ:St) (H:Hp) (Q:List V->Hp->Prop),Inv X pins σ H s->t σ H Q->wpAny (model X.prog X.w) X.A (spliced (backTo pos (starEach es X.env))) (AP X pins σ Q) X.xe s
def PS (X:Cx)(st:Stmt)(t:TS):Prop:=
 ∀ (pins:ZAz) (s:Shared) (σ:St) (H:Hp) (D:Ends),Inv X pins σ H s->t D σ H->wpAny (model X.prog X.w) X.A (exec st X.env) (SP X pins D) X.xe s
def Dy (X:Cx)(st:List Stmt)(t:TS):Prop:=
 ∀ (pins:ZAz) (s:Shared) (σ:St) (H:Hp) (D:Ends),Inv X pins σ H s->t D σ H->wpAny (model X.prog X.w) X.A (execs st X.env) (SP X pins D) X.xe s
def AF {t:Sem α}{Q Q':α->Shared->Prop}(h:wpAny M A t Q E s)(hQ:∀ a s,Q a s->Q' a s):wpAny M A t Q' E s:=jo h hQ fun _ _ x=>x
section
def B1 (i:Nat):TE:=fun σ H Q=>∃ v,σ[i]?=some (some v)/\Q v H
def tC (v:V):TE:=fun _ H Q=>Q v H
def Gl (X:Cx)(x:Str):Prop:=X.env.kindOf x=some .globalImplicit
def UD (I:Inv X pins σ H s)(hg:Gl X x)(hm:X.mg x=some u)(h:Q u s)
  (hd:(x == ("__debug__":Str))=false:=by decide):wpAny (model X.prog X.w) X.A (eval (.Name x pos) X.env) Q E s:=
 zo I.ok.kind hg (Calls.loadGlobal_global (by rw [I.ok.glob];exact I.mod.glob.keeps I.bk) hm h) hd
def JK (I:Inv X pins σ H s)(hg:Gl X x)(hm:X.mg x=none)(hv:bootBuiltins x=some u)(h:Q u s)
  (hn:x ≠ "__name__" := by decide) (hd:(x == ("__debug__":Str))=false:=by decide):wpAny (model X.prog X.w) X.A (eval (.Name x pos) X.env) Q E s:=by
 obtain ⟨mb,h1,h2⟩:=I.mod.blt;exact zo I.ok.kind hg (Calls.loadGlobal_builtin (by rw [I.ok.glob];exact I.mod.glob.keeps I.bk) hm (by rw [I.ok.blt];exact h1.keeps I.bk) ((h2 x hn).trans hv) h) hd
def y8 (hg:Gl X x)(hm:X.mg x=none)(hv:bootBuiltins x=some u)(r:RelV v u)(hn:x ≠ "__name__" := by decide)(hd:(x == ("__debug__":Str))=false:=by decide):PE X (.Name x pos) (tC v):=
 fun _ _ _ H _ I h=>JK I hg hm hv ⟨v,H,I,r,h⟩ hn hd
variable {a b:Expr}
def PC (X:Cx)(op:CmpOp)(a b:Expr)(t:TE):Prop:=
 ∀ (pins:ZAz) (s:Shared) (σ:St) (H:Hp) (Q:VK),Inv X pins σ H s->t σ H Q->
  wpAny (model X.prog X.w) X.A (eval a X.env) (fun v s₁=>wpAny (model X.prog X.w) X.A (eval b X.env) (fun u s₂=>wpAny (model X.prog X.w) X.A (compareOp op v u) (EP X pins σ Q) X.xe s₂) X.xe s₁) X.xe s
def vT (b:Expr)(h:op≠.In)(h2:op≠.NotIn):behindInMarks op b=false:=by
 have e1:(op == CmpOp.In)=false:=by cases op <;> first | rfl | exact absurd rfl h
 have e2:(op == CmpOp.NotIn)=false:=by cases op <;> first | rfl | exact absurd rfl h2
 cases b <;> simp [behindInMarks,e1,e2]
def tB (t:TE):TT:=fun σ H Q=>t σ H fun x H1=>∃ c,x=.bl c/\Q c H1
def bD {t:TE}(h:PC X op a b t)(h1:behindInMarks op b=false:=by first | exact vT _ (by decide) (by decide) | rfl):PT X (.Compare a [op] [b] pos) (tB t):=by
 intro pins s σ H Q I hw;refine wpAny_isTrue_Compare1 (AF (h pins s σ H _ I hw) fun v s1 h1=>AF h1 fun u s2 h2=>AF h2 fun c s3 ⟨x,H1,I1,r1,q1⟩=>?_) h1;obtain ⟨d,rfl,q⟩:=q1;cases r1;exact iK ⟨H1,I1,q⟩
variable {tA Hh:TT}
def Ou (t u:TT):TT:=fun σ H Q=>t σ H fun c H1=>if c=true then u σ H1 Q else Q false H1
def R6 (t u:TT):TT:=fun σ H Q=>t σ H fun c H1=>if c=true then Q true H1 else u σ H1 Q
def Vx (t:TT):TT:=fun σ H Q=>t σ H fun c H1=>Q (!c) H1
def Su (ta tb:TE):TE:=fun σ H Q=>ta σ H fun x H1=>∃ c,x=.bl c/\if c=true then tb σ H1 Q else Q (.bl false) H1
def TN (ta:TE):TE:=fun σ H Q=>ta σ H fun x H1=>∃ c,x=.bl c/\Q (.bl (!c)) H1
def Po (t:TT)(ta tb:TE):TE:=fun σ H Q=>t σ H fun c H1=>if c=true then ta σ H1 Q else tb σ H1 Q
end
def AI (K:ZAy)(H:Hp)(a:Addr)(xs:List V):Prop:=
 Rd H a (.lst xs)∨
  ∃ (o:Obj) (A1:Array Value) (n:Nat),K.lookup a=some o/\o.cls=.type "list" /\ o.dict=none/\o.data=.seq A1 n/\A1.size<=sizeLine/\Vals xs A1.toList
def An (K:ZAy)(H:Hp)(a:Addr)(xs:List V):Prop:=
 Rd H a (.tup xs)∨
  ∃ (o:Obj) (A1:Array Value) (n:Nat),K.lookup a=some o/\o.cls=.type "tuple" /\ o.data=.seq A1 n/\A1.size<=sizeLine/\Vals xs A1.toList
def ir:Value->Option V
 | .none=>some .A8
 | .bool b=>some (.bl b)
 | .int i _=>some (.int i)
 | .str x _=>some (.str x)
 | .bytes b _=>some (.Fe b)
 | .float b _=>some (.IM b)
 | .ref a=>some (.ref a)
 | .type n=>some (.ty n)
 | _=>none
def RelV.abs {x:V}(r:RelV x u):ir u=some x:=by
 cases x with
 | A8=>cases r;rfl
 | bl _=>cases r;rfl
 | int _=>obtain ⟨t,rfl⟩:=r;rfl
 | str _=>obtain ⟨t,rfl⟩:=r;rfl
 | Fe _=>obtain ⟨t,rfl⟩:=r;rfl
 | IM _=>obtain ⟨t,rfl⟩:=r;rfl
 | ref _=>cases r;rfl
 | ty _=>cases r;rfl
theorem RelV.inj {x y:V}{u:Value}(r:RelV x u)(q:RelV y u):x=y:=B8 (r.abs.symm.trans q.abs)
theorem Vals.inj:∀ {xs ys:List V}{us:List Value},Vals xs us->Vals ys us->xs=ys
 | _,_,_,.nil,.nil=>rfl
 | _,_,_,.cons r t,.cons r' t'=>by rw [r.inj r',Vals.inj t t']
section
variable {xs ys:List V}
def AI.of {K:ZAy}(h:H a=some (.lst xs)):AI K H a xs:=.inl (.inl h)
def An.of {K:ZAy}(h:H a=some (.tup xs)):An K H a xs:=.inl (.inl h)
def Inv.list (I:Inv X pins σ H s)(h:AI X.K H a xs):∃ A1:List Value,Vals xs A1/\PlainL s.heap a A1.toArray/\xs.length<=sizeLine:=by
 rcases h with h | ⟨o,A1,n,hk,hc,hd,hs,hz,r⟩
 ·obtain ⟨z,A1,n,r,e⟩:=h.ok I.AG;exact ⟨A1,r,⟨_,n,e,rfl,rfl,rfl⟩,z⟩
 ·refine ⟨A1.toList,r,⟨o,n,I.CH a o hk,hc,hd,by simpa using hs⟩,?_⟩
  have e:=r.length;simp only [WX] at e;omega
def Inv.tuple (I:Inv X pins σ H s)(h:An X.K H a xs):∃ A1:List Value,Vals xs A1/\IsTup s.heap a A1.toArray/\xs.length<=sizeLine:=by
 rcases h with h | ⟨o,A1,n,hk,hc,hs,hz,r⟩
 ·obtain ⟨z,A1,r,p⟩:=h.ok I.AG;exact ⟨A1,r,p.1,z⟩
 ·refine ⟨A1.toList,r,⟨o,I.CH a o hk,hc,n,by simpa using hs⟩,?_⟩
  have e:=r.length;simp only [WX] at e;omega
def Inv.cX (I:Inv X pins σ H s)(h:AI X.K H a xs)(h':AI X.K H a ys):xs=ys:=by
 obtain ⟨A1,r,⟨o,n,e,_,_,d⟩,_⟩:=I.list h;obtain ⟨its',r',⟨o',n',e',_,_,d'⟩,_⟩:=I.list h';rw [e] at e';cases e';rw [d] at d';injection d' with d1 _
 have:A1=its':=by simpa using l9 Array.toList d1
 subst this;exact r.inj r'
def Inv.MQ (I:Inv X pins σ H s)(h:An X.K H a xs)(h':An X.K H a ys):xs=ys:=by
 obtain ⟨A1,r,⟨o,e,_,n,d⟩,_⟩:=I.tuple h;obtain ⟨its',r',⟨o',e',_,n',d'⟩,_⟩:=I.tuple h';rw [e] at e';cases e';rw [d] at d';injection d' with d1 _
 have:A1=its':=by simpa using l9 Array.toList d1
 subst this;exact r.inj r'
end
abbrev Cx.Gk (X:Cx)(E:Value->Shared->Prop):Cx:={ X with xe:=E }
abbrev Cx.Mm (X:Cx):Cx:=X.Gk fun _ _=>False
theorem Cx.Ok.Gk (ok:X.Ok)(E:Value->Shared->Prop):(X.Gk E).Ok:=
 ⟨ok.mod,ok.kind,ok.glob,ok.blt,ok.above,ok.inj,ok.has,ok.Mt,ok.hd,ok.frames,ok.R7,ok.Pc,ok.bs,ok.Hd,ok.Md,ok.Mf,ok.FZ,ok.Js⟩
def Cx.Ok.J8 (ok:(X.Gk E).Ok):X.Ok:=
 ⟨ok.mod,ok.kind,ok.glob,ok.blt,ok.above,ok.inj,ok.has,ok.Mt,ok.hd,ok.frames,ok.R7,ok.Pc,ok.bs,ok.Hd,ok.Md,ok.Mf,ok.FZ,ok.Js⟩
section
theorem Inv.Gk (I:Inv X pins σ H s)(E:Value->Shared->Prop):Inv (X.Gk E) pins σ H s:=⟨I.ok.Gk E,I.os,I.bare,I.base,I.loc,I.cell,I.free,I.G5,I.pin,I.AG,I.len⟩
theorem Inv.J8 (I:Inv (X.Gk E) pins σ H s):Inv X pins σ H s:=⟨I.ok.J8,I.os,I.bare,I.base,I.loc,I.cell,I.free,I.G5,I.pin,I.AG,I.len⟩
theorem SP.J8 {D:Ends}{f:Flow}(h:SP (X.Gk E) pins D f s'):SP X pins D f s':=by
 cases f with
 | next=>obtain ⟨σ',H',I,q⟩:=h;exact ⟨σ',H',I.J8,q⟩
 | brk=>obtain ⟨σ',H',I,q⟩:=h;exact ⟨σ',H',I.J8,q⟩
 | cont=>obtain ⟨σ',H',I,q⟩:=h;exact ⟨σ',H',I.J8,q⟩
 | ret u=>obtain ⟨v,σ',H',I,r,q⟩:=h;exact ⟨v,σ',H',I.J8,r,q⟩
theorem Dy.Mm {st:List Stmt}{t:TS}(h:Dy X.Mm st t):Dy X st t:=fun pins s σ H D I hw=>
 jo (h pins s σ H D (I.Gk _) hw) (fun _ _ q=>q.J8) fun _ _ z=>False.elim z
variable {st:Stmt}{rest:List Stmt}{t u:TS}
def Vn:TS:=fun D σ H=>D.nx σ H
def Mo (t u:TS):TS:=fun D σ H=>t { D with nx:=u D } σ H
def yy (h1:PS X st t)(h2:Dy X rest u):Dy X (st::rest) (Mo t u):=by
 intro pins s σ H D I h;refine wpAny_execs_cons (AF (h1 pins s σ H { D with nx:=u D } I h) fun f s1 q=>?_)
 cases f with
 | next=>
  obtain ⟨σ',H',I',q⟩:=q;exact h2 pins s1 σ' H' D I' q
 | ret v=>exact q
 | brk=>exact q
 | cont=>exact q
def yD (h1:PS X st t):Dy X [st] t:=by
 intro pins s σ H D I h;refine wpAny_execs_cons (AF (h1 pins s σ H D I h) fun f s1 q=>?_);cases f with
 | next=>exact pP q
 | ret v=>exact q
 | brk=>exact q
 | cont=>exact q
def Inv.quiet (I:Inv X pins σ H s):interactive X.env=false:=by simp [interactive,I.ok.kind]
def Gr (te:TE):TS:=fun D σ H=>te σ H fun _ H1=>D.nx σ H1
def JT (te:TE):TS:=fun D σ H=>te σ H D.rt
def TL:TS:=fun D _ H=>D.rt .A8 H
def Tx (c:TT)(t u:TS):TS:=fun D σ H=>c σ H fun b H1=>if b=true then t D σ H1 else u D σ H1
def bf:TS:=fun _ _ _=>False
end
abbrev TG:=V->St->Hp->(St->Hp->Prop)->Prop
abbrev G1:=List V->St->Hp->(St->Hp->Prop)->Prop
def PG (X:Cx)(target:Expr)(t:TG):Prop:=
 ∀ (pins:ZAz) (s:Shared) (σ:St) (H:Hp) (v:V) (u:Value) (Q:St->Hp->Prop),Inv X pins σ H s->RelV v u->t v σ H Q->
  wpAny (model X.prog X.w) X.A (assign target X.env u) (fun _ s'=>∃ σ' H',Inv X pins σ' H' s'/\Q σ' H') X.xe s
def LA (X:Cx)(ts:List Expr)(t:G1):Prop:=
 ∀ (pins:ZAz) (s:Shared) (σ:St) (H:Hp) (vs:List V) (us:List Value) (Q:St->Hp->Prop),Inv X pins σ H s->Vals vs us->t vs σ H Q->
  wpAny (model X.prog X.w) X.A (assignInOrder ((assignEach ts X.env).map (·.2)) us) (fun _ s'=>∃ σ' H',Inv X pins σ' H' s'/\Q σ' H') X.xe s
abbrev LC:=V->V->V->Hp->(Hp->Prop)->Prop
def Qm (X:Cx)(t:LC):Prop:=
 ∀ (pins:ZAz) (s:Shared) (σ:St) (H:Hp) (o i v:V) (ov iv u:Value) (Q:Hp->Prop),Inv X pins σ H s->RelV o ov->RelV i iv->RelV v u->t o i v H Q->
  wpAny (model X.prog X.w) X.A (setItem ov iv u) (fun _ s'=>∃ H',Inv X pins σ H' s'/\Q H') X.xe s
abbrev O9:=V->V->Hp->VK->Prop
def T6 (X:Cx)(op:Operator)(t:O9):Prop:=
 ∀ (pins:ZAz) (s:Shared) (σ:St) (H:Hp) (x y:V) (v u:Value) (Q:VK),Inv X pins σ H s->RelV x v->RelV y u->t x y H Q->
  wpAny (model X.prog X.w) X.A (inplaceOp op v u) (EP X pins σ Q) X.xe s
def Bz (i:Nat):TG:=fun v σ H Q=>Q (σ.set i (some v)) H
def W0 (hN:X.N.Nodup)(hi:X.N[i]?=some x)(hx:Loc X.env.scope x)(hf:X.fn x=true∨X.env.scope.names.lookup x=some .local:=by first | exact .inl rfl | exact .inr rfl | assumption):PG X (.Name x pos) (Bz i):=by
 intro pins s σ H v u Q I r h;exact wpAny_assign_Name (Yf I hN hi hx r (fun s' I'=>⟨_,H,I',h⟩) hf)
def NT:G1:=fun vs σ H Q=>vs=[]/\Q σ H
def IL (t:TG)(u:G1):G1:=fun vs σ H Q=>∃ v r,vs=v::r/\t v σ H fun σ' H'=>u r σ' H' Q
def bP:LA X [] NT:=by
 intro pins s σ H vs us Q I r h;obtain ⟨e,h⟩:=h;subst e;cases r;exact assignInOrder_nil ⟨σ,H,I,h⟩
def Zk {t:TG}{u:G1}(h1:PG X e t)(h2:LA X es u)
  (hs:(assignEach (e::es) X.env).map (·.2)=assign e X.env::(assignEach es X.env).map (·.2):=by rfl):LA X (e::es) (IL t u):=by
 intro pins s σ H vs us Q I r h;obtain ⟨v,vr,e1,h⟩:=h;subst e1;cases r with
 | cons r rr=>
  rw [hs];refine assignInOrder_cons (AF (h1 pins s σ H _ _ _ I r h) fun _ s1 ⟨σ1,H1,I1,q1⟩=>?_);exact h2 pins s1 σ1 H1 _ _ Q I1 rr q1
def LI (K:ZAy)(n:Nat)(t:G1):TG:=fun v σ H Q=>∃ a xs,v=.ref a/\An K H a xs/\xs.length=n/\t xs σ H Q
def XJ {k:Nat}{t:G1}(hc:X.calm=true)(h:LA X es t)
  (hn:(assignEach es X.env).length=n:=by rfl) (Hs:(assignEach es X.env).findIdx? (·.1)=none:=by rfl):PG X (.Tuple es k pos) (LI X.K n t):=by
 intro pins s σ H v u Q I r hw;obtain ⟨a,xs,e1,hq,hl,hw⟩:=hw;subst e1;cases r;obtain ⟨A1,rv,ht,hz⟩:=I.tuple hq;refine assign_Tuple_tuple (I.ok.hd hc) ht (by simp [hn,<- hl,rv.length]) Hs fun h' hx=>?_;have I1:Inv X pins σ H { s with heap:=h' }:=I.kept (t':=s.toks) fun b o e=>hx b o (CQ (Au e)) e
 exact h pins _ σ H xs _ Q I1 (by simpa using rv) hw
def Ve (to ti:TE)(t:LC):TG:=fun v σ H Q=>to σ H fun o H1=>ti σ H1 fun i H2=>t o i v H2 fun H3=>Q σ H3
def DK (te:TE)(g:TG):TS:=fun D σ H=>te σ H fun x H1=>g x σ H1 D.nx
def SE (to ti te:TE)(P0:V->V->Hp->VK->Prop)(K6:O9)(QV:LC):TS:=fun D σ H=>to σ H fun o H1=>ti σ H1 fun i H2=>P0 o i H2 fun x H3=>te σ H3 fun y H4=>K6 x y H4 fun z H5=>QV o i z H5 fun H6=>D.nx σ H6
def aR (X:Cx)(t:V->V->Hp->VK->Prop):Prop:=
 ∀ (pins:ZAz) (s:Shared) (σ:St) (H:Hp) (o i:V) (ov iv:Value) (Q:VK),Inv X pins σ H s->RelV o ov->RelV i iv->t o i H Q->
  wpAny (model X.prog X.w) X.A (getItem ov iv) (EP X pins σ Q) X.xe s
def xA {o i:Expr}{to ti:TE}{P0:V->V->Hp->VK->Prop}{K6:O9}{QV:LC}{op:Operator}(ho:PE X o to)(hi:PE X i ti)(hg:aR X P0)(he:PE X e te)(hp:T6 X op K6)(hs:Qm X QV)
  (ha:∀ ov iv new,augStore i ov iv new=(do holding [new,ov,iv] (setItem ov iv new);release [new,ov,iv] [];pure .next):=by intros;rfl):PS X (.AugAssign (.Subscript o i Jl) op e pos) (SE to ti te P0 K6 QV):=by
 intro pins s σ H D I h;refine wpAny_AugAssign_SubscriptAny (AF (ho pins s σ H _ I h) fun ov s1 ⟨x1,H1,I1,r1,q1⟩=>?_) ha;refine AF (hi pins s1 σ H1 _ I1 q1) fun iv s2 ⟨x2,H2,I2,r2,q2⟩=>?_;refine AF (hg pins s2 σ H2 x1 x2 ov iv _ I2 r1 r2 q2) fun old s3 ⟨x3,H3,I3,r3,q3⟩=>?_;refine AF (he pins s3 σ H3 _ I3 q3) fun v s4 ⟨x4,H4,I4,r4,q4⟩=>?_;refine AF (hp pins s4 σ H4 x3 x4 old v _ I4 r3 r4 q4) fun new s5 ⟨x5,H5,I5,r5,q5⟩=>?_;exact AF (hs pins s5 σ H5 x1 x2 x5 ov iv new _ I5 r1 r2 r5 q5) fun _ s6 ⟨H6,I6,q6⟩=>⟨σ,H6,I6,q6⟩
def bL (f:Int->Int->Int):O9:=fun x y H Q=>∃ i j,x=.int i/\y=.int j/\Q (.int (f i j)) H
def tD:T6 X .Add (bL fun i j=>i+j):=by
 intro pins s σ H x y v u Q I r1 r2 h;obtain ⟨i,j,e1,e2,q⟩:=h;subst e1;subst e2;obtain ⟨t,rfl⟩:=r1;obtain ⟨t',rfl⟩:=r2;exact iadd_int ⟨.int _,H,I.tok _,⟨_,rfl⟩,q⟩
def WS (c:TT)(tb:TS):TS:=fun D σ H=>∃ W:Nat->St->Hp->Prop,(∃ m,W m σ H)/\∀ m σ H,W m σ H->
 c σ H fun b H1=>if b=true then ∃ N:St->Hp->Prop,(∀ σ' H',N σ' H'->∃ m',m' < m/\W m' σ' H')/\tb { D with nx:=N,ct:=N,bk:=D.nx } σ H1 else D.nx σ H1
structure It where
 go:Nat->Hp->Prop
 E9:Nat->Hp->V->Hp->Prop
 stop:Nat->Hp->Prop
def Dx (X:Cx)(pins:ZAz)(H:Hp)(b:Addr):Prop:=
 H b=none/\b≠X.env.locals/\b∉X.fs/\(b∈X.ex∨X.s₀.heap.objs.size<=b)/\(∀ x c,X.env.cells.lookup x=some c->c≠b)/\∀ p∈X.pn++pins,p.1≠b
def Inv.J7 (I:Inv X pins σ H s)(hb:s.heap.objs.size<=b)(hn:H' b=none):Dx X pins H' b:=by
 refine ⟨hn,Ke (E6 I.lt hb),I.vO hb,.inr (Em I.sz hb),fun x c e z=>?_,fun p hp z=>?_⟩
 ·obtain ⟨v,q⟩:=I.cell x c e;exact absurd (E6 q.lt (by rw [z];exact hb)) (IH _)
 ·exact absurd (E6 (Au (I.pin p hp).1) (by rw [z];exact hb)) (IH _)
structure Turn (P:Program) (w:World) (K:ZAy) (tg:Expr) (J:It) (fp:List Addr) (it:Addr) (tn:Nat->Heap->Prop):Prop where
 mem:it∈fp
 obj:∀ i h,tn i h->∀ b∈fp,∃ o,h.get? b=some o/\∀ v,o.data≠.cell v
 keep:∀ i h h',tn i h->(∀ b∈fp,∀ o,h.get? b=some o->h'.get? b=some o)->tn i h'
 item:∀ (X:Cx),X.prog=P->X.w=w->X.K=K->X.calm=true->∀ (i:Nat) (pins:ZAz) (s:Shared) (σ:St) (H:Hp) (E:Value->Shared->Prop),Inv X pins σ H s->(∀ b∈fp,Dx X pins H b)->tn i s.heap->J.go i H->
  wpAny (model P w) X.A (pyNext (.ref it)) (fun r s1=>∃ u,r=some u/\
   wpAny (model P w) X.A (letOwnedTupleGo tg (.ref it) u) (fun _ s2=>∃ x H',Inv X pins σ H' s2/\RelV x u/\J.E9 i H x H'/\tn (i+1) s2.heap/\∀ b∈fp,H' b=none) E s1) E s
 done:∀ (X:Cx),X.prog=P->X.w=w->X.K=K->X.calm=true->∀ (i:Nat) (pins:ZAz) (s:Shared) (σ:St) (H:Hp) (E:Value->Shared->Prop),Inv X pins σ H s->(∀ b∈fp,Dx X pins H b)->tn i s.heap->J.stop i H->
  wpAny (model P w) X.A (pyNext (.ref it)) (fun r s1=>r=none/\Inv X pins σ H s1) E s
 self:∀ (A:Around) (i:Nat) (s:Shared) (Q:Value->Shared->Prop) (E:Value->Shared->Prop),tn i s.heap->Q (.ref it) s->wpAny (model P w) A (pyIter (.ref it)) Q E s
abbrev TI:=St->Hp->(It->Hp->Prop)->Prop
def ck (X:Cx)(pins:ZAz)(σ:St)(tg:Expr)(R:It->Hp->Prop)(Qh:Value)(s2:Shared):Prop:=
 ∃ (it:Addr) (fp:List Addr) (tn:Nat->Heap->Prop) (J:It) (H':Hp),Qh=.ref it/\Inv X pins σ H' s2/\Turn X.prog X.w X.K tg J fp it tn/\tn 0 s2.heap/\(∀ b∈fp,Dx X pins H' b)/\R J H'
def PI (X:Cx)(tg iter:Expr)(wi:TI):Prop:=
 ∀ (pins:ZAz) (s:Shared) (σ:St) (H:Hp) (R:It->Hp->Prop),Inv X pins σ H s->wi σ H R->
  wpAny (model X.prog X.w) X.A (eval iter X.env) (fun v s1=>wpAny (model X.prog X.w) X.A (pyIter v) (ck X pins σ tg R) X.xe s1) X.xe s
def Nb {o:Obj}{n:String}{vs:Array Value}{Q:Unit->Shared->Prop}(ho:s.heap.get? it=some o)(hc:o.cls=.type n)(hd:o.data=.fields vs)
  (hn:["enumerate","zip","dict_itemiterator","dict_reverseitemiterator","odict_iterator","itertools.zip_longest","itertools.pairwise"].contains n=false) (hQ:Q () s):wpAny M A (letOwnedTupleGo tg (.ref it) u) Q E s:=by
 unfold letOwnedTupleGo;cases tg <;> first
  | exact i7 hQ
  | (cases u <;> first
    | exact i7 hQ
    | (
      refine gd (wpAny_load ho ?_);rw [hc,hd];show wpAny M A (if (["enumerate","zip","dict_itemiterator","dict_reverseitemiterator","odict_iterator","itertools.zip_longest","itertools.pairwise"].contains n && vs[0]? == some (rawInt _))=true then _ else _) Q E s
      rw [gg (by intro h;rw [hn,Bool.false_and] at h;cases h)];exact i7 hQ))
def YY (K:ZAy)(a:Addr):It:=
 ⟨fun i H=>∃ xs x,AI K H a xs/\xs[i]?=some x,fun i H x H'=>H'=H/\∀ xs,AI K H a xs->xs[i]?=some x,fun i H=>∃ xs,AI K H a xs/\xs.length<=i⟩
def tV (K:ZAy)(a:Addr):It:=
 ⟨fun i H=>∃ xs x,An K H a xs/\xs[i]?=some x,fun i H x H'=>H'=H/\∀ xs,An K H a xs->xs[i]?=some x,fun i H=>∃ xs,An K H a xs/\xs.length<=i⟩
def KO (lo:Int)(n:Nat):It:=⟨fun i _=>i<n,fun i H x H'=>H'=H/\x=.int (lo+i),fun i _=>n<=i⟩
def LG {P:Program}{K:ZAy}(a it:Addr):Turn P w K tg (YY K a) [it] it (fun i h=>h.IsListIter it a i) where
 mem:=by simp
 obj:=fun i h st b hb=>by
  have e:b=it:=by simpa using hb
  subst e;obtain ⟨o,e,c,d⟩:=st;exact ⟨o,e,fun v z=>by rw [d] at z;cases z⟩
 keep:=fun i h h' st k=>st.at fun o e=>k it (by simp) o e
 item:=by
  intro X hP hw hK hc i pins s σ H E I hf st hg;subst hP hw hK;obtain ⟨xs,x,hq,hx⟩:=hg;obtain ⟨A1,rv,p,hz⟩:=I.list hq;obtain ⟨u,hu,ru⟩:=rv.get hx;obtain ⟨f0,f1,f2,f3,f4,f5⟩:=hf it (by simp);refine wpAny_pyNext_list_item st p.isList (x:=u) (by simpa using hu) fun h' CI sb=>?_
  have I1:Inv X pins σ H { s with heap:=h' }:=I.turned (t':=s.toks) (fun b o hb e=>(sb.2 b hb).trans e) f0 f1 f3 f4 f5
  obtain ⟨o,e,c,d⟩:=id CI;exact ⟨u,rfl,Nb (s:={ s with heap:=h' }) e c d (by decide) ⟨x,H,I1,ru,⟨rfl,fun ys hy=>by rw [I.cX hy hq];exact hx⟩,CI,fun b hb=>(hf b hb).1⟩⟩
 done:=by
  intro X hP hw hK hc i pins s σ H E I hf st hg;subst hP hw hK;obtain ⟨xs,hq,hx⟩:=hg;obtain ⟨A1,rv,p,hz⟩:=I.list hq;obtain ⟨f0,f1,f2,f3,f4,f5⟩:=hf it (by simp);have hl:=rv.length;exact wpAny_pyNext_list_end (I.ok.hd hc) st p.isList (by simp;omega) fun h' eb=>⟨rfl,I.turned (t':=s.toks) (fun b o hb e=>eb b o hb e) f0 f1 f3 f4 f5⟩
 self:=fun _ _ _ _ _ st h=>wpAny_pyIter_listiter st h
def NN {P:Program}{K:ZAy}(a it:Addr):Turn P w K tg (tV K a) [it] it (fun i h=>h.IsTupleIter it a i) where
 mem:=by simp
 obj:=fun i h st b hb=>by
  have e:b=it:=by simpa using hb
  subst e;obtain ⟨o,e,c,d⟩:=st;exact ⟨o,e,fun v z=>by rw [d] at z;cases z⟩
 keep:=fun i h h' st k=>st.at fun o e=>k it (by simp) o e
 item:=by
  intro X hP hw hK hc i pins s σ H E I hf st hg;subst hP hw hK;obtain ⟨xs,x,hq,hx⟩:=hg;obtain ⟨A1,rv,p,hz⟩:=I.tuple hq;obtain ⟨u,hu,ru⟩:=rv.get hx;obtain ⟨f0,f1,f2,f3,f4,f5⟩:=hf it (by simp);refine wpAny_pyNext_tuple_item st (show s.heap.IsTuple a A1.toArray from p) (x:=u) (by simpa using hu) fun h' CI sb=>?_
  have I1:Inv X pins σ H { s with heap:=h' }:=I.turned (t':=s.toks) (fun b o hb e=>(sb.2 b hb).trans e) f0 f1 f3 f4 f5
  obtain ⟨o,e,c,d⟩:=id CI;exact ⟨u,rfl,Nb (s:={ s with heap:=h' }) e c d (by decide) ⟨x,H,I1,ru,⟨rfl,fun ys hy=>by rw [I.MQ hy hq];exact hx⟩,CI,fun b hb=>(hf b hb).1⟩⟩
 done:=by
  intro X hP hw hK hc i pins s σ H E I hf st hg;subst hP hw hK;obtain ⟨xs,hq,hx⟩:=hg;obtain ⟨A1,rv,p,hz⟩:=I.tuple hq;obtain ⟨f0,f1,f2,f3,f4,f5⟩:=hf it (by simp);have hl:=rv.length;exact wpAny_pyNext_tuple_end (I.ok.hd hc) st (show s.heap.IsTuple a A1.toArray from p) (by simp;omega) fun h' eb=>⟨rfl,I.turned (t':=s.toks) (fun b o hb e=>eb b o hb e) f0 f1 f3 f4 f5⟩
 self:=fun _ _ _ _ _ st h=>wpAny_pyIter_tupleiter st h
def uV {P:Program}{K:ZAy}(it:Addr)(lo:Int)(n:Nat):Turn P w K tg (KO lo n) [it] it (fun i h=>IsRangeIter h it (lo+(i:Nat) * 1) ((n:Int) - (i:Nat)) 1) where
 mem:=by simp
 obj:=fun i h st b hb=>by
  have e:b=it:=by simpa using hb
  subst e;exact ⟨_,st,fun v z=>by
   have z':Data.fields _=Data.cell v:=z;cases z'⟩
 keep:=fun i h h' st k=>k it (by simp) _ st
 item:=by
  intro X hP hw hK hc i pins s σ H E I hf st hg;subst hP hw hK;obtain ⟨f0,f1,f2,f3,f4,f5⟩:=hf it (by simp);have W:=Walks.range (prog:=X.prog) (w:=X.w) (I.ok.hd hc) it lo 1 n;refine W.item i s _ _ hg st fun v h' tk hv CI kk=>?_;obtain ⟨t,rfl⟩:=hv;have I1:Inv X pins σ H { s with heap:=h',toks:=tk }:=I.turned (fun b o hb e=>kk b o (by simpa using hb) e) f0 f1 f3 f4 f5
  refine ⟨_,rfl,Nb (s:={ s with heap:=h',toks:=tk }) (n:="range_iterator") CI rfl rfl (by decide) ⟨.int (lo+i),H,I1,⟨t,?_⟩,⟨rfl,rfl⟩,CI,fun b hb=>(hf b hb).1⟩⟩
  rw [Int.mul_one]
 done:=by
  intro X hP hw hK hc i pins s σ H E I hf st hg;subst hP hw hK;obtain ⟨f0,f1,f2,f3,f4,f5⟩:=hf it (by simp);exact wpAny_pyNext_range_end (I.ok.hd hc) st (by have:n<=i:=hg;omega) fun h' eb=>⟨rfl,I.turned (t':=s.toks) (fun b o hb e=>eb b o hb e) f0 f1 f3 f4 f5⟩
 self:=fun _ _ _ _ _ st h=>wpAny_pyIter_rangeiter st h
def VH (K:ZAy)(tl:TE):TI:=fun σ H R=>tl σ H fun x H1=>∃ a,x=.ref a/\(∃ xs,AI K H1 a xs)/\R (YY K a) H1
def Xa {R:It->Hp->Prop}{lo hi:Int}{t u v:Tok}(I:Inv X pins σ H s)(h1:-(2 ^ 62)<=lo)(h2:lo<2 ^ 62)(h3:-(2 ^ 62)<=hi)(h4:hi<2 ^ 62)
  (q:R (KO lo (hi - lo).toNat) H):wpAny (model X.prog X.w) X.A (pyIter (.ref s.heap.objs.size)) (ck X pins σ tg R) E { s with heap:=s.heap.push { cls:=.type "range", data:=.fields #[.int lo t,.int hi u,.int 1 v] },toks:=tk }:=by
 refine wpAny_pyIter_range (IsRange.new ..) (small_one h1 h2 h3 h4) ?_;have I1:Inv X pins σ H { s with heap:=s.heap.push { cls:=.type "range", data:=.fields #[.int lo t,.int hi u,.int 1 v] },toks:=tk }:=I.kept fun b o e=>Bi _ e
 refine ⟨(s.heap.push { cls:=.type "range", data:=.fields #[.int lo t,.int hi u,.int 1 v] }).objs.size,[(s.heap.push { cls:=.type "range", data:=.fields #[.int lo t,.int hi u,.int 1 v] }).objs.size],_,_,H,rfl,
  I1.kept (t':=tk) fun b o e=>Bi _ e,uV _ lo (hi - lo).toNat,?_,fun b hb=>?_,q⟩
 ·have e1:lo+((0:Nat):Int) * 1=lo:=by simp
  have e2:(((hi - lo).toNat:Nat):Int) - ((0:Nat):Int)=Builtin.Range.rangeSize lo hi 1:=by rw [rangeSize_one];split <;> omega
  show IsRangeIter _ _ (lo+((0:Nat):Int) * 1) ((((hi - lo).toNat:Nat):Int) - ((0:Nat):Int)) 1;rw [e1,e2];exact C1 _ rfl
 ·have e:b=(s.heap.push { cls:=.type "range", data:=.fields #[.int lo t,.int hi u,.int 1 v] }).objs.size:=by simpa using hb
  subst e;exact I1.J7 (Aj _) (I1.AG.fresh (Aj _))
def RP (ta:TA):TI:=fun σ H R=>ta σ H fun vs H1=>∃ j:Int,vs=[.int j]/\-(2 ^ 62)<=j/\j<2 ^ 62/\R (KO 0 j.toNat) H1
def Sj (ta:TA):TI:=fun σ H R=>ta σ H fun vs H1=>∃ i j:Int,vs=[.int i,.int j]/\(-(2 ^ 62)<=i/\i<2 ^ 62/\-(2 ^ 62)<=j/\j<2 ^ 62)/\R (KO i (j - i).toNat) H1
def MZ (wi:TI)(g:TG)(tb:TS):TS:=fun D σ H=>wi σ H fun J H1=>∃ W:Nat->Nat->St->Hp->Prop,(∃ m,W 0 m σ H1)/\∀ i m σ H,W i m σ H->
 (J.stop i H/\D.nx σ H)∨(J.go i H/\∃ N:St->Hp->Prop,(∀ σ' H',N σ' H'->∃ m',m' < m/\W (i+1) m' σ' H')/\∀ x H',J.E9 i H x H'->g x σ H' fun σ2 H2=>tb { D with nx:=N,ct:=N,bk:=D.nx } σ2 H2)
def Nc (fp:List Addr)(h:Heap):ZAz:=fp.filterMap fun b=>(h.get? b).map fun o=>(b,o)
def Pb {o:Obj}(hb:b∈fp)(e:h.get? b=some o):(b,o)∈Nc fp h:=List.mem_filterMap.mpr ⟨b,hb,by rw [e];rfl⟩
def uW {p:Addr×Obj}(hp:p∈Nc fp h):p.1∈fp/\h.get? p.1=some p.2:=by
 obtain ⟨b,hb,e⟩:=List.mem_filterMap.mp hp;cases q:h.get? b with
 | none=>rw [q] at e;cases e
 | some o=>
  rw [q] at e;have e':(b,o)=p:=B8 e;subst e';exact ⟨hb,q⟩
def Inv.pinned (I:Inv X pins σ H s)(hf:∀ b∈fp,Dx X pins H b)(ho:∀ b∈fp,∃ o,s.heap.get? b=some o/\∀ v,o.data≠.cell v):Inv X (pins++Nc fp s.heap) σ H s:=
 I.eJ fun p hp=>(List.mem_append.mp hp).elim (fun z=>I.pin p (HF _ z)) fun z=>by
  obtain ⟨hb,e⟩:=uW z;obtain ⟨f0,f1,f2,_⟩:=hf p.1 hb;obtain ⟨o,e',d⟩:=ho p.1 hb;rw [e] at e';cases e';exact ⟨e,f0,f1,f2,d⟩
def Inv.Mr {pl:ZAz}(I:Inv X (pins++pl) σ H s):Inv X pins σ H s:=I.eJ fun p hp=>I.pin p (HF _ (RD _ hp))
def sO {lo:Int}{g:TG}{tb:TS}{D:Ends}(Pv:Nat->St->Hp->Prop)(h0:Pv 0 σ H)
  (hs:∀ i σ H,i<n->Pv i σ H->g (.int (lo+i)) σ H fun σ2 H2=>tb { D with nx:=Pv (i+1),ct:=Pv (i+1),bk:=D.nx } σ2 H2) (hd:∀ σ H,Pv n σ H->D.nx σ H) :
  ∃ W:Nat->Nat->St->Hp->Prop,(∃ m,W 0 m σ H)/\∀ i m σ H,W i m σ H->
   ((KO lo n).stop i H/\D.nx σ H)∨((KO lo n).go i H/\∃ N:St->Hp->Prop,(∀ σ' H',N σ' H'->∃ m',m' < m/\W (i+1) m' σ' H')/\∀ x H',(KO lo n).E9 i H x H'->g x σ H' fun σ2 H2=>tb { D with nx:=N,ct:=N,bk:=D.nx } σ2 H2):=by
 refine ⟨fun i m σ H=>m=n - i/\i<=n/\Pv i σ H,⟨n,by simp,CD _,h0⟩,?_⟩;rintro i m σ H ⟨rfl,hi,p⟩
 by_cases AM:i<n
 ·refine .inr ⟨AM,Pv (i+1),fun σ' H' p'=>⟨n - (i+1),by omega,rfl,AM,p'⟩,fun x H' y=>?_⟩;obtain ⟨e,y⟩:=y;subst e y;exact hs i σ _ AM p
 ·have e:i=n:=by omega
  subst e;exact .inl ⟨Aj _,hd σ H p⟩
abbrev R2:=V->V->Hp->VK->Prop
def B2 (X:Cx)(f:Value->Value->Sem Value)(r:R2):Prop:=
 ∀ (pins:ZAz) (s:Shared) (σ:St) (H:Hp) (x y:V) (v u:Value) (Q:VK),Inv X pins σ H s->RelV x v->RelV y u->r x y H Q->
  wpAny (model X.prog X.w) X.A (f v u) (EP X pins σ Q) X.xe s
def Qp (X:Cx)(f:Value->Sem Value)(r:V->Hp->VK->Prop):Prop:=
 ∀ (pins:ZAz) (s:Shared) (σ:St) (H:Hp) (x:V) (v:Value) (Q:VK),Inv X pins σ H s->RelV x v->r x H Q->
  wpAny (model X.prog X.w) X.A (f v) (EP X pins σ Q) X.xe s
def C3 (X:Cx)(f:Value)(r:List V->Hp->VK->Prop):Prop:=
 ∀ (pins:ZAz) (s:Shared) (σ:St) (H:Hp) (xs:List V) (us:List Value) (Q:VK),Inv X pins σ H s->Vals xs us->r xs H Q->
  wpAny (model X.prog X.w) X.A (call f us) (EP X pins σ Q) X.xe s
def BP (r:R2)(ta tb:TE):TE:=fun σ H Q=>ta σ H fun x H1=>tb σ H1 fun y H2=>r x y H2 Q
def OP (r:V->Hp->VK->Prop)(ta:TE):TE:=fun σ H Q=>ta σ H fun x H1=>r x H1 Q
def rI (C:Int->Int->Prop)(g:Int->Int->V):R2:=fun x y H Q=>∃ i j,x=.int i/\y=.int j/\C i j/\Q (g i j) H
def Fm (g:Int->Int->V):R2:=fun x y H Q=>∃ i j,x=.int i/\y=.int j/\Q (g i j) H
def rU (g:Int->V):V->Hp->VK->Prop:=fun x H Q=>∃ i,x=.int i/\Q (g i) H
section
variable {a b c:Expr}
def Sl (ha:PE X a ta)(hb:PE X b tb){R:V->V->Hp->Prop}(I:Inv X pins σ H s)
  (h:ta σ H fun x H1=>tb σ H1 fun y H2=>R x y H2)
  (hf:∀ v u s2 x y H2,Inv X pins σ H2 s2->RelV x v->RelV y u->R x y H2->wpAny (model X.prog X.w) X.A (f v u) Q X.xe s2) :
  wpAny (model X.prog X.w) X.A (eval a X.env) (fun v s₁=>wpAny (model X.prog X.w) X.A (eval b X.env) (fun u s₂=>wpAny (model X.prog X.w) X.A (f v u) Q X.xe s₂) X.xe s₁) X.xe s:=by
 refine AF (ha pins s σ H _ I h) fun v s1 ⟨x,H1,I1,r1,q1⟩=>?_;refine AF (hb pins s1 σ H1 _ I1 q1) fun u s2 ⟨y,H2,I2,r2,q2⟩=>?_;exact hf v u s2 x y H2 I2 r1 r2 q2
def Oc {C:Int->Int->Prop}{g:Int->Int->Int}
  (rule:∀ (i j:Int) (t u:Tok) (s:Shared) (Q:Value->Shared->Prop) (E:Value->Shared->Prop),C i j->Q (.int (g i j) s.toks) { s with toks:=s.toks+1 }->wpAny (model X.prog X.w) X.A (f (.int i t) (.int j u)) Q E s) :
  B2 X f (rI C fun i j=>.int (g i j)):=by
 intro pins s σ H x y v u Q I rx ry h;obtain ⟨i,j,rfl,rfl,hc,q⟩:=h;obtain ⟨t,rfl⟩:=rx;obtain ⟨t',rfl⟩:=ry;exact rule i j t t' s _ _ hc ⟨.int (g i j),H,I.tok _,⟨_,rfl⟩,q⟩
def eM {g:Int->Int->Int}
  (rule:∀ (i j:Int) (t u:Tok) (s:Shared) (Q:Value->Shared->Prop) (E:Value->Shared->Prop),Q (.int (g i j) s.toks) { s with toks:=s.toks+1 }->wpAny (model X.prog X.w) X.A (f (.int i t) (.int j u)) Q E s) :
  B2 X f (Fm fun i j=>.int (g i j)):=by
 intro pins s σ H x y v u Q I rx ry h;obtain ⟨i,j,rfl,rfl,q⟩:=h;obtain ⟨t,rfl⟩:=rx;obtain ⟨t',rfl⟩:=ry;exact rule i j t t' s _ _ ⟨.int (g i j),H,I.tok _,⟨_,rfl⟩,q⟩
def PD {g:Int->Int->Bool}
  (rule:∀ (i j:Int) (t u:Tok) (s:Shared) (Q:Value->Shared->Prop) (E:Value->Shared->Prop),Q (.bool (g i j)) s->wpAny (model X.prog X.w) X.A (f (.int i t) (.int j u)) Q E s) :
  B2 X f (Fm fun i j=>.bl (g i j)):=by
 intro pins s σ H x y v u Q I rx ry h;obtain ⟨i,j,rfl,rfl,q⟩:=h;obtain ⟨t,rfl⟩:=rx;obtain ⟨t',rfl⟩:=ry;exact rule i j t t' s _ _ ⟨.bl (g i j),H,I,rfl,q⟩
def lp (i j:Int):Prop:=0<=j/\j<=1000000/\i.natAbs<2 ^ 64
def Ed:B2 X (binaryOp .Add) (Fm fun i j=>.int (i+j)):=eM fun _ _ _ _ _ _ _ q=>add_int q
def MI:B2 X (binaryOp .Sub) (Fm fun i j=>.int (i - j)):=eM fun _ _ _ _ _ _ _ q=>sub_int q
def HY:B2 X (binaryOp .Mod) (rI (fun _ j=>0<j) fun i j=>.int (i % j)):=Oc fun i j _ _ _ _ _ hc q=>by
 have h1:(0:Int)<j:=hc;exact mod_int' (by omega) (by rw [Int.fmod_eq_emod_of_nonneg i (by omega)];exact q)
def L8:B2 X (binaryOp .Pow) (rI lp fun i j=>.int (i ^ j.toNat)):=Oc fun _ _ _ _ _ _ _ hc q=>pow_int_small hc.1 hc.2.1 hc.2.2 q
def y9 {f:Value->Sem Value}{g:Int->Int}
  (rule:∀ (i:Int) (t:Tok) (s:Shared) (Q:Value->Shared->Prop) (E:Value->Shared->Prop),Q (.int (g i) s.toks) { s with toks:=s.toks+1 }->wpAny (model X.prog X.w) X.A (f (.int i t)) Q E s) :
  Qp X f (rU fun i=>.int (g i)):=by
 intro pins s σ H x v Q I rx h;obtain ⟨i,rfl,q⟩:=h;obtain ⟨t,rfl⟩:=rx;exact rule i t s _ _ ⟨.int (g i),H,I.tok _,⟨_,rfl⟩,q⟩
def Ra:Qp X (unaryOp .USub) (rU fun i=>.int (-i)):=y9 fun _ _ _ _ _ q=>neg_int q
end
def OJ:V->V->Bool
 | .A8,.A8=>true | .A8,.int _=>true | .int _,.A8=>true | .A8,.bl _=>true | .bl _,.A8=>true | .A8,.str _=>true | .str _,.A8=>true
 | .int _,.int _=>true | .bl _,.bl _=>true | .str _,.str _=>true | .Fe _,.Fe _=>true
 | .int _,.str _=>true | .str _,.int _=>true | .bl _,.str _=>true | .str _,.bl _=>true
 | _,_=>false
def OS:R2:=fun x y H Q=>OJ x y=true/\Q (.bl (decide (x=y))) H
def Yh:R2:=fun x y H Q=>OJ x y=true/\Q (.bl (!decide (x=y))) H
def bz {i j:Int}:decide (V.int i=V.int j)=(i == j):=by
 rw [M4];simp
def aF {i j:Bool}:decide (V.bl i=V.bl j)=(i == j):=by
 rw [M4];simp
def Xg {i j:Str}:decide (V.str i=V.str j)=(i == j):=by
 rw [M4];simp
def XS {i j:Array UInt8}:decide (V.Fe i=V.Fe j)=(i.toList == j.toList):=by
 rw [M4];cases i;cases j;simp
section
variable {a b c:Expr}
def BX {Q:VK}{k k':Bool}(I:Inv X pins σ H s)(q:Q (.bl k) H)(e:k=k'):EP X pins σ Q (.bool k') s:=by
 subst e;exact ⟨.bl k,H,I,rfl,q⟩
def Fb:B2 X (compareOp .Eq) OS:=by
 intro pins s σ H x y v u Q I rx ry h;obtain ⟨hs,q⟩:=h;cases x with
 | A8=>
  cases rx;cases y with
  | A8=>cases ry;exact PySem.EqNone.eq_none_none (BX I q (by simp))
  | bl j=>cases ry;exact PySem.EqNone.eq_none_bool (BX I q (by simp))
  | int j=>obtain ⟨t',rfl⟩:=ry;exact PySem.EqNone.eq_none_int (BX I q (by simp))
  | str j=>obtain ⟨t',rfl⟩:=ry;exact PySem.EqNone.eq_none_str (BX I q (by simp))
  | _=>exact absurd (show false=true from hs) Cd
 | bl i=>
  cases rx;cases y with
  | A8=>cases ry;exact PySem.EqNone.eq_bool_none (BX I q (by simp))
  | bl j=>cases ry;exact eq_bool (BX I q aF)
  | str j=>obtain ⟨t',rfl⟩:=ry;exact PySem.EqMixed.eq_bool_str (BX I q (by simp))
  | _=>exact absurd (show false=true from hs) Cd
 | int i=>
  obtain ⟨t,rfl⟩:=rx;cases y with
  | A8=>cases ry;exact PySem.EqNone.eq_int_none (BX I q (by simp))
  | int j=>obtain ⟨t',rfl⟩:=ry;exact eq_int (BX I q bz)
  | str j=>obtain ⟨t',rfl⟩:=ry;exact PySem.EqMixed.eq_int_str (BX I q (by simp))
  | _=>exact absurd (show false=true from hs) Cd
 | str i=>
  obtain ⟨t,rfl⟩:=rx;cases y with
  | A8=>cases ry;exact PySem.EqNone.eq_str_none (BX I q (by simp))
  | bl j=>cases ry;exact PySem.EqMixed.eq_str_bool (BX I q (by simp))
  | int j=>obtain ⟨t',rfl⟩:=ry;exact PySem.EqMixed.eq_str_int (BX I q (by simp))
  | str j=>obtain ⟨t',rfl⟩:=ry;exact eq_str (BX I q Xg)
  | _=>exact absurd (show false=true from hs) Cd
 | Fe i=>
  obtain ⟨t,rfl⟩:=rx;cases y with
  | Fe j=>obtain ⟨t',rfl⟩:=ry;exact PySem.W.eq_bytes (BX I q XS)
  | _=>exact absurd (show false=true from hs) Cd
 | _=>cases y <;> exact absurd (show false=true from hs) Cd
def qT:B2 X (compareOp .NotEq) Yh:=by
 intro pins s σ H x y v u Q I rx ry h;obtain ⟨hs,q⟩:=h;cases x with
 | A8=>
  cases rx;cases y with
  | A8=>cases ry;exact PySem.EqNone.ne_none_none (BX I q (by simp))
  | bl j=>cases ry;exact PySem.EqNone.ne_none_bool (BX I q (by simp))
  | int j=>obtain ⟨t',rfl⟩:=ry;exact PySem.EqNone.ne_none_int (BX I q (by simp))
  | str j=>obtain ⟨t',rfl⟩:=ry;exact PySem.EqNone.ne_none_str (BX I q (by simp))
  | _=>exact absurd (show false=true from hs) Cd
 | bl i=>
  cases rx;cases y with
  | A8=>cases ry;exact PySem.EqNone.ne_bool_none (BX I q (by simp))
  | bl j=>cases ry;exact ne_bool (BX I q (l9 not aF))
  | str j=>obtain ⟨t',rfl⟩:=ry;exact PySem.EqMixed.ne_bool_str (BX I q (by simp))
  | _=>exact absurd (show false=true from hs) Cd
 | int i=>
  obtain ⟨t,rfl⟩:=rx;cases y with
  | A8=>cases ry;exact PySem.EqNone.ne_int_none (BX I q (by simp))
  | int j=>obtain ⟨t',rfl⟩:=ry;exact ne_int (BX I q (l9 not bz))
  | str j=>obtain ⟨t',rfl⟩:=ry;exact PySem.EqMixed.ne_int_str (BX I q (by simp))
  | _=>exact absurd (show false=true from hs) Cd
 | str i=>
  obtain ⟨t,rfl⟩:=rx;cases y with
  | A8=>cases ry;exact PySem.EqNone.ne_str_none (BX I q (by simp))
  | bl j=>cases ry;exact PySem.EqMixed.ne_str_bool (BX I q (by simp))
  | int j=>obtain ⟨t',rfl⟩:=ry;exact PySem.EqMixed.ne_str_int (BX I q (by simp))
  | str j=>obtain ⟨t',rfl⟩:=ry;exact ne_str (BX I q (l9 not Xg))
  | _=>exact absurd (show false=true from hs) Cd
 | Fe i=>
  obtain ⟨t,rfl⟩:=rx;cases y with
  | Fe j=>obtain ⟨t',rfl⟩:=ry;exact PySem.W.ne_bytes (BX I q (l9 not XS))
  | _=>exact absurd (show false=true from hs) Cd
 | _=>cases y <;> exact absurd (show false=true from hs) Cd
def Rj:B2 X (compareOp .Lt) (Fm fun i j=>.bl (decide (i<j))):=PD fun _ _ _ _ _ _ _ q=>lt_int q
def Og:B2 X (compareOp .LtE) (Fm fun i j=>.bl (decide (i<=j))):=PD fun _ _ _ _ _ _ _ q=>le_int q
def Pd:B2 X (compareOp .Gt) (Fm fun i j=>.bl (decide (j<i))):=PD fun _ _ _ _ _ _ _ q=>gt_int q
def sf:B2 X (compareOp .GtE) (Fm fun i j=>.bl (decide (j<=i))):=PD fun _ _ _ _ _ _ _ q=>ge_int q
def yA:B2 X (compareOp .In) (fun x y H Q=>∃ i j,x=.str i/\y=.str j/\Q (.bl (!(Builtin.Str.occurrences j i 0 j.length 1).isEmpty)) H):=by
 intro pins s σ H x y v u Q I rx ry h;obtain ⟨i,j,rfl,rfl,q⟩:=h;obtain ⟨t,rfl⟩:=rx;obtain ⟨t',rfl⟩:=ry;exact in_str (BX I q rfl)
def TR:B2 X (compareOp .IsNot) (fun x y H Q=>y=.A8/\Q (.bl (!decide (x=.A8))) H):=by
 intro pins s σ H x y v u Q I rx ry h;obtain ⟨rfl,q⟩:=h;cases ry;refine isnot_none_gen (BX I q ?_);cases x <;> first
  | (cases rx;rfl)
  | (obtain ⟨t,rfl⟩:=rx;rfl)
def b6 (b:Expr)(h:op≠.In:=by decide)(h2:op≠.NotIn:=by decide):behindInMarks op b=false:=by
 have e1:(op == CmpOp.In)=false:=by cases op <;> first | rfl | exact absurd rfl h
 have e2:(op == CmpOp.NotIn)=false:=by cases op <;> first | rfl | exact absurd rfl h2
 cases b <;> simp [behindInMarks,e1,e2]
def HU (t:TE):TT:=fun σ H Q=>t σ H fun x H'=>∃ k,x=.bl k/\Q k H'
def lK {r:R2}(ho:B2 X (compareOp op) r)(ha:PE X a ta)(hb:PE X b tb)(hm:behindInMarks op b=false):PT X (.Compare a [op] [b] pos) (HU (BP r ta tb)):=by
 intro pins s σ H Q I h;refine wpAny_isTrue_Compare1 (AF (ha pins s σ H _ I h) fun v s1 ⟨x,H1,I1,r1,q1⟩=>AF (hb pins s1 σ H1 _ I1 q1) fun u s2 ⟨y,H2,I2,r2,q2⟩=>
  AF (ho pins s2 σ H2 x y v u _ I2 r1 r2 q2) fun c s3 ⟨z,H3,I3,r3,k,e,q3⟩=>?_) hm
 subst e;cases r3;exact iK ⟨H3,I3,q3⟩
def Nd (r r':R2)(ta tb tc:TE):TE:=fun σ H Q=>ta σ H fun x H1=>tb σ H1 fun y H2=>r x y H2 fun z H3=>∃ k,z=.bl k/\
 (if k=true then tc σ H3 fun w' H4=>r' y w' H4 Q else Q (.bl false) H3)
def IK:(sizeLine:Nat)<2 ^ 63:=by rw [sizeLine_eq];decide
def Xr:B2 X (binaryOp .Add) (fun x y H Q=>∃ i j,x=.str i/\y=.str j/\i.length+j.length<=sizeLine/\Q (.str (i++j)) H):=by
 intro pins s σ H x y v u Q I rx ry h;obtain ⟨i,j,rfl,rfl,hz,q⟩:=h;obtain ⟨t,rfl⟩:=rx;obtain ⟨t',rfl⟩:=ry;exact add_str (fun t' tk=>⟨.str (i++j),H,I.tok _,⟨_,rfl⟩,q⟩) hz
def vals1 {x:V}(r:Vals [x] us):∃ u,us=[u]/\RelV x u:=by
 cases r with
 | cons r1 r2=>cases r2;exact ⟨_,rfl,r1⟩
def vals2 {x:V}(r:Vals [x,y] us):∃ u w',us=[u,w']/\RelV x u/\RelV y w':=by
 cases r with
 | cons r1 r2=>
  cases r2 with
  | cons r3 r4=>cases r4;exact ⟨_,_,rfl,r1,r3⟩
def Uo (hc:X.calm=true):C3 X (.builtin "max") (fun xs H Q=>∃ i j,xs=[.int i,.int j]/\Q (.int (if j > i then j else i)) H):=by
 intro pins s σ H xs us Q I r h;obtain ⟨i,j,rfl,q⟩:=h;obtain ⟨u,w',rfl,⟨t,rfl⟩,⟨t',rfl⟩⟩:=vals2 r;refine max_two_ints (I.ok.hd hc) fun h' tk k=>⟨_,H,I.kept k,?_,q⟩
 by_cases hj:j > i
 ·rw [gq hj,gq hj];exact ⟨_,rfl⟩
 ·rw [gg hj,gg hj];exact ⟨_,rfl⟩
def k6 (hc:X.calm=true):C3 X (.builtin "min") (fun xs H Q=>∃ i j,xs=[.int i,.int j]/\Q (.int (if j<i then j else i)) H):=by
 intro pins s σ H xs us Q I r h;obtain ⟨i,j,rfl,q⟩:=h;obtain ⟨u,w',rfl,⟨t,rfl⟩,⟨t',rfl⟩⟩:=vals2 r;refine min_two_ints (I.ok.hd hc) fun h' tk k=>⟨_,H,I.kept k,?_,q⟩
 by_cases hj:j<i
 ·rw [gq hj,gq hj];exact ⟨_,rfl⟩
 ·rw [gg hj,gg hj];exact ⟨_,rfl⟩
def Ud:C3 X (.type "int") (fun xs H Q=>(∃ i,xs=[.int i]/\Q (.int i) H)∨∃ k,xs=[.bl k]/\Q (.int (if k then 1 else 0)) H):=by
 intro pins s σ H xs us Q I r h;rcases h with ⟨i,rfl,q⟩ | ⟨k,rfl,q⟩
 ·obtain ⟨u,rfl,t,rfl⟩:=vals1 r;exact call_int_int ⟨.int i,H,I,⟨_,rfl⟩,q⟩
 ·obtain ⟨u,rfl,r1⟩:=vals1 r;cases r1;exact call_int_bool ⟨.int (if k then 1 else 0),H,I.tok _,⟨_,rfl⟩,q⟩
end
structure Jb (h:Heap) (x dx C:Addr) (mA:ZB0):Prop where
 obj:h.get? x=some (PySem.W.instObj C dx)
 ns:h.Ns1 dx mA
 ne:dx≠x
def wd (n:h.Ns1 dx mA):∃ od,h.get? dx=some od/\∀ name,PySem.W.lookIn name od=some (mA name):=by
 obtain ⟨o,es,ep,ho,hd,hk,_,hm⟩:=n;refine ⟨o,ho,fun name=>?_⟩;have e:=hm name;unfold nsFind findBy at e;rw [<- Array.find?_toList] at e;unfold PySem.W.lookIn;rw [hd];dsimp only;split
 ·rename_i y q;rw [q] at e;exact l9 some e
 ·rename_i q;rw [q] at e;have a:es.toList.any (·.refKey)=false:=by
   rw [gA];intro y hy;obtain ⟨z,t,qL⟩:=hk y (Array.mem_toList_iff.mp hy);simp [DictEntry.refKey,qL]
  have a':¬ es.toList.any (·.refKey)=true:=by rw [a];exact Cd
  rw [gg a'];exact l9 some e
def Jb.look {x:Addr}(I:Jb h x dx C mA):∃ od,PySem.W.InstAt h x (PySem.W.instObj C dx) C (some od)/\∀ name,PySem.W.lookIn name od=some (mA name):=
 let ⟨od,ho,hl⟩:=wd I.ns
 ⟨od,⟨I.obj,rfl,rfl,ho⟩,hl⟩
section
variable {K:ZAy}{x f:Addr}{v:Value}
def get_map {expr:Bool}(X:K.In s.heap)(I:Jb s.heap x dx C mA)(hg:PySem.W.plainGet K C name=true)(hh:PySem.W.hasDictIn K C=true)
  (ha:PySem.W.findIn K (.ref C) name=some none) (hv:mA name=some v) (Hq:PySem.W.handedIn v=true) (h:Q v { s with toks:=s.toks+1 }) :
  wpAny (model prog w) A (getAttr (.ref x) name expr) Q E s:=by
 obtain ⟨od,J,hl⟩:=I.look;exact PySem.W.get_value X J (gb hg).1 (PySem.W.findObj_own hh ha rfl (by rw [hl,hv])) Hq h
def i5 {Q:Value×List Value->Shared->Prop}(X:K.In s.heap)(I:Jb s.heap x dx C mA)(hg:PySem.W.plainGet K C name=true)
  (hf:PySem.W.findIn K (.ref C) name=some (some (.ref f))) (ht:PySem.W.isFn K (.ref f)=true) (hv:mA name=none) (h:Q (.ref f,[.ref x]) s) :
  wpAny (model prog w) A (getMethod (.ref x) name pl) Q E s:=by
 obtain ⟨od,J,hl⟩:=I.look;exact PySem.W.method_fn X J (gb hg).1 (gb hg).2 hf (beq_iff_eq.mp ht) (by show (PySem.W.lookIn name od).map (·.isSome)=some false;rw [hl,hv];rfl) h
def t4 {Q:Unit->Shared->Prop}(X:K.In s.heap)(I:Jb s.heap x dx C mA)
  (hs:PySem.W.findIn K (.ref C) "__setattr__"=some (some (.builtin "object.__setattr__"))) (hp:PySem.W.plainOver K C=true) (ht:PySem.W.takerIn K C name=some none) (hh:PySem.W.hasDictIn K C=true)
  (hw:PySem.Within mA ns) (hsz:ns.length<=sizeLine)
  (h:∀ h',Jb h' x dx C (fun y=>if y=name then some v else mA y)->Heap.SameBut dx s.heap h'->Q () { s with heap:=h',toks:=s.toks+2 }) :
  wpAny (model prog w) A (setAttr (.ref x) name v) Q E s:=by
 obtain ⟨od,J,hl⟩:=I.look;refine PySem.W.set_plain X J hs (PySem.W.osa_open (s:={ s with toks:=s.toks+1 }) (r:=none) X J hp ht fun b=>?_)
 obtain ⟨cd,hc,Ss⟩:=PySem.W.any_some hh;have hx:s.heap.get? x=some ⟨.ref C,some dx,.plain,#[]⟩:=I.obj;refine gd (i7 (gd (gd (wpAny_loadPart hx (gd (PySem.W.Looks.here (s:={ s with toks:=s.toks+1 }) (PySem.W.looks_clsIn X hc) ?_))))))
 rw [Ss];refine i7 (a:=some dx) (gd (i7 (gd ?_)));refine wpAny_nsSet1 (s:={ s with toks:=s.toks+1 }) I.ns fun h' EH CT=>?_
 obtain ⟨oD,esD,epD,vo,wy,tE⟩:=EH.count (PySem.Within.cons name v hw);refine gd (wpAny_lookBehind vo (by rw [wy];exact pastItsLine_dict (Em tE (by rw [Bu];omega))) ?_);exact i7 (h _ ⟨(CT.2 _ (Bj I.ne)).trans I.obj,EH,I.ne⟩ CT)
def mT {R:Result->Shared->Prop}{vs:List Value}(X:K.In s.heap)(hm:PySem.W.makesIn K C=true)
  (hi:PySem.W.findIn K (.ref C) "__init__"=some (some (.ref f))) (hf:PySem.W.typeIn K (.ref f)=some (.type "function"))
  (h:codeAny (model prog w) (A.under (.builtin "type.__call__" ⟨.ref C::vs,kw⟩)) (.call (.ref f) ⟨.ref (s.heap.objs.size+1)::vs,kw⟩) (PySem.W.InitBack (s.heap.objs.size+1) R)
   { s with heap:=(s.heap.push PySem.W.emptyDict).push (PySem.W.instObj C s.heap.objs.size) }) :
  codeAny (model prog w) A (.call (.ref C) ⟨vs,kw⟩) R s:=by
 obtain ⟨hh,g,d,t,os⟩:=s;exact PySem.W.make_core (PySem.W.makes_of X hm) (PySem.W.looks_findIn X hi) (fun self=>PySem.W.bind_fn X self hf) (.inl rfl) h
end
def DE (f:Str)(v:V):List (Str×V)->List (Str×V)
 | []=>[(f,v)]
 | (g,x)::r=>if g=f then (g,v)::r else (g,x)::DE f v r
theorem XF (f g:Str)(v:V):∀ fs:List (Str×V),(DE f v fs).lookup g=if g=f then some v else fs.lookup g
 | []=>by
  show List.lookup g [(f,v)]=_
  by_cases h:g=f
  ·have hb:(g == f)=true:=beq_iff_eq.mpr h;simp only [List.lookup,hb,gq h]
  ·have hb:(g == f)=false:=beq_eq_false_iff_ne.mpr h;simp only [List.lookup,hb,gg h]
 | (k,x)::r=>by
  have ih:=XF f g v r;rw [show DE f v ((k,x)::r)=(if k=f then (k,v)::r else (k,x)::DE f v r) from rfl]
  by_cases hk:k=f
  ·rw [gq hk]
   by_cases h:g=k
   ·have hb:(g == k)=true:=beq_iff_eq.mpr h;simp only [List.lookup,hb,gq (h.trans hk)]
   ·have hb:(g == k)=false:=beq_eq_false_iff_ne.mpr h;simp only [List.lookup,hb,gg (fun e:g=f=>h (e.trans hk.symm))]
  ·rw [gg hk]
   by_cases h:g=k
   ·have hb:(g == k)=true:=beq_iff_eq.mpr h;simp only [List.lookup,hb,gg (fun e:g=f=>hk (h.symm.trans e))]
   ·have hb:(g == k)=false:=beq_eq_false_iff_ne.mpr h;simp only [List.lookup,hb];exact ih
theorem SV (f:Str)(v:V):∀ fs:List (Str×V),f∈(DE f v fs).map (·.1)/\∀ g,g∈fs.map (·.1)->g∈(DE f v fs).map (·.1)
 | []=>⟨by simp [DE],fun g h=>by simp at h⟩
 | (k,x)::r=>by
  obtain ⟨i1,i2⟩:=SV f v r;rw [show DE f v ((k,x)::r)=(if k=f then (k,v)::r else (k,x)::DE f v r) from rfl]
  by_cases hk:k=f
  ·rw [gq hk];subst hk;exact ⟨by simp,fun g h=>by simpa using h⟩
  ·rw [gg hk];refine ⟨?_,fun g h=>?_⟩
   ·rw [Ac];exact E5 _ i1
   ·rw [Ac] at h ⊢;rcases List.mem_cons.mp h with e | e
    ·exact List.mem_cons.mpr (.inl e)
    ·exact E5 _ (i2 g e)
theorem Y1 (f:Str)(v:V):∀ fs:List (Str×V),(DE f v fs).length<=fs.length+1
 | []=>by simp [DE]
 | (k,x)::r=>by
  have ih:=Y1 f v r;rw [show DE f v ((k,x)::r)=(if k=f then (k,v)::r else (k,x)::DE f v r) from rfl]
  by_cases hk:k=f
  ·rw [gq hk,Bu,Bu];omega
  ·rw [gg hk,Bu,Bu];omega
def DZ.some_of {o:Option Value}(r:DZ (some v) o):∃ u,o=some u/\RelV v u:=by
 cases o with
 | none=>exact (show False from r).elim
 | some u=>exact ⟨u,rfl,r⟩
def DZ.none_of {o:Option Value}(r:DZ none o):o=none:=by
 cases o with
 | none=>rfl
 | some u=>exact (show False from r).elim
def iS (r:RelV v u):PySem.W.handedIn u=true:=by
 cases v with
 | A8=>cases (show u=Value.none from r);rfl
 | bl b=>cases (show u=Value.bool b from r);rfl
 | int i=>obtain ⟨t,e⟩:=(show ∃ t,u=Value.int i t from r);cases e;rfl
 | str x=>obtain ⟨t,e⟩:=(show ∃ t,u=Value.str x t from r);cases e;rfl
 | Fe b=>obtain ⟨t,e⟩:=(show ∃ t,u=Value.bytes b t from r);cases e;rfl
 | IM b=>obtain ⟨t,e⟩:=(show ∃ t,u=Value.float b t from r);cases e;rfl
 | ref a=>cases (show u=Value.ref a from r);rfl
 | ty n=>cases (show u=Value.type n from r);rfl
section
variable {P:Program}{fs jN:List (Str×V)}
def Pu (AG:Bk P w H h)(e:H a=some (.ins C dx fs)):∃ mA,Jb h a dx C mA/\(∀ f,DZ (fs.lookup f) (mA f))/\PySem.Within mA (fs.map (·.1))/\fs.length<=1000/\H dx=some (.own a):=by
 obtain ⟨d,z,ne,ob,mA,n,r,q⟩:=(show Br P w H h a (.ins C dx fs) from AG a _ e);exact ⟨mA,⟨ob,n,ne⟩,r,q,z,d⟩
end
structure DP (K:ZAy) (C:Addr):Prop where
 pg:PySem.W.plainGet K C Str.empty=true
 hd:PySem.W.hasDictIn K C=true
 po:PySem.W.plainOver K C=true
 sa:PySem.W.findIn K (.ref C) "__setattr__"=some (some (.builtin "object.__setattr__"))
def DP.get {K:ZAy}{C:Addr}(c:DP K C)(f:Str):PySem.W.plainGet K C f=true:=c.pg
def Ei (K:ZAy)(C:Addr)(f:Str):Prop:=PySem.W.findIn K (.ref C) f=some none
def Ei.jC {K:ZAy}{f:Str}(n:Ei K C f):PySem.W.takerIn K C f=some none:=by
 unfold PySem.W.takerIn;rw [show PySem.W.findIn K (.ref C) f=some none from n];rfl
structure FX (K:ZAy) (C:Addr) (f:Str) (v:V) (u:Value):Prop where
 at_:PySem.W.findIn K (.ref C) f=some (some u)
 rel:RelV v u
 get:PySem.W.specialIn K u "__get__"=some none
 cp:PySem.W.copiedNames.contains f=false
structure Meth (K:ZAy) (C:Addr) (m:Str) (f:Addr):Prop where
 at_:PySem.W.findIn K (.ref C) m=some (some (.ref f))
 fn:PySem.W.isFn K (.ref f)=true
 kp:PySem.W.keepIn K (.ref f)=true
section
variable {fs:List (Str×V)}{f:Str}
def mM {b:Bool}(I:Inv X pins σ H s)(e:H a=some (.ins C dx fs))(c:DP X.K C)(n:Ei X.K C f)(l:fs.lookup f=some v)
  (h:∀ u s',Inv X pins σ H s'->RelV v u->Q u s'):wpAny (model X.prog X.w) A (getAttr (.ref a) f b) Q E s:=by
 obtain ⟨mA,O,r,_,_,_⟩:=Pu I.AG e;obtain ⟨u,hu,ru⟩:=DZ.some_of (v:=v) (o:=mA f) (by rw [<- l];exact r f);exact get_map I.CH O (c.get f) c.hd n hu (iS ru) (h u _ (I.tok _) ru)
def d8 {g:Addr}{Q:Value×List Value->Shared->Prop}(I:Inv X pins σ H s)(e:H a=some (.ins C dx fs))(c:DP X.K C)(k:Meth X.K C m g)(l:fs.lookup m=none)
  (h:Q (.ref g,[.ref a]) s):wpAny (model X.prog X.w) A (getMethod (.ref a) m pl) Q E s:=by
 obtain ⟨mA,O,r,_,_,_⟩:=Pu I.AG e;have hn:mA m=none:=DZ.none_of (by rw [<- l];exact r m);exact i5 I.CH O (c.get m) k.at_ k.fn hn h
def kZ {Q:Unit->Shared->Prop}(I:Inv X pins σ H s)(e:H a=some (.ins C dx fs))(c:DP X.K C)(n:Ei X.K C f)(hl:fs.length<1000)(ry:RelV y u)
  (h:∀ s',Inv X pins σ (upd H a (.ins C dx (DE f y fs))) s'->Q () s'):wpAny (model X.prog X.w) A (setAttr (.ref a) f u) Q E s:=by
 obtain ⟨mA,O,r,wi,_,ho⟩:=Pu I.AG e;have hz:(fs.map (·.1)).length<=sizeLine:=by rw [A9,sizeLine_eq];omega
 refine t4 I.CH O c.sa c.po n.jC c.hd wi hz fun h' O' sb=>h _ ?_;have hd:∃ o,h'.get? dx=some o:=let ⟨o,_,_,e',_⟩:=O'.ns;⟨o,e'⟩;refine I.write (x:=a) (e:=dx) (by rw [e];exact True.intro) (.inr ho) (fun b q hb z=>(sb.2 b hb).trans z) hd ?_;refine ⟨by rw [AS O.ne];exact ho,?_,O.ne,O'.obj,_,O'.ns,fun g=>?_,fun g hg=>?_⟩
 ·have:=Y1 f y fs;omega
 ·show DZ ((DE f y fs).lookup g) (if g=f then some u else mA g)
  rw [XF]
  by_cases q:g=f
  ·rw [gq q,gq q];exact ry
  ·rw [gg q,gg q];exact r g
 ·by_cases q:g=f
  ·rw [q];exact (SV f y fs).1
  ·refine (SV f y fs).2 g (wi g fun z=>hg ?_);show (if g=f then some u else mA g)=none
   rw [gg q];exact z
def Inv.made (I:Inv X pins σ H s):Inv X pins σ (upd (upd H s.heap.objs.size (.own (s.heap.objs.size+1))) (s.heap.objs.size+1) (.ins C s.heap.objs.size []))
  { s with heap:=(s.heap.push PySem.W.emptyDict).push (PySem.W.instObj C s.heap.objs.size) }:=by
 have e1:(s.heap.push PySem.W.emptyDict).get? s.heap.objs.size=some PySem.W.emptyDict:=C1 s.heap rfl;have e2:((s.heap.push PySem.W.emptyDict).push (PySem.W.instObj C s.heap.objs.size)).get? (s.heap.objs.size+1)=some (PySem.W.instObj C s.heap.objs.size):=by
  have:=C1 (s.heap.push PySem.W.emptyDict) (o:=PySem.W.instObj C s.heap.objs.size) rfl
  rwa [JL] at this
 have e3:(s.heap.push PySem.W.emptyDict).Ns s.heap.objs.size (fun _=>none):=⟨PySem.W.emptyDict,#[],_,e1,rfl,(fun e he=>absurd he (by simp)),fun _=>rfl⟩;have I1:=I.laid (a:=s.heap.objs.size) (o:=.own (s.heap.objs.size+1)) (h':=s.heap.push PySem.W.emptyDict) (t':=s.toks) (fun b u q=>Bi _ q) (Aj _) ⟨_,e1⟩;refine I1.laid (a:=s.heap.objs.size+1) (o:=.ins C s.heap.objs.size []) (t':=s.toks) (fun b u q=>Bi _ q) (gP (JL _ _)) ?_;have ne:s.heap.objs.size≠s.heap.objs.size+1:=CQ (X3 _);refine ⟨by rw [AS ne,Al],CD _,ne,e2,fun _=>none,(Heap.Ns1.of_empty e3).at fun o q=>Bi _ q,fun _=>True.intro,fun y hy=>absurd rfl hy⟩
def zi {env:Env}(hb:attributeBase e f env (eval e env)=eval e env)
  (h:wpAny (model prog w) A (eval e env) (fun o s₁=>wpAny (model prog w) A (getAttr o f true) Q E s₁) E s):wpAny (model prog w) A (eval (.Attribute e f pos) env) Q E s:=
 Attribute_any_ h (by rw [arm_eval_Attribute,hb])
end
def QJ (K:ZAy)(ta:TE)(f:Str):TE:=fun σ H Q=>ta σ H fun x H1=>∃ a C dx fs v,x=.ref a/\H1 a=some (.ins C dx fs)/\DP K C/\Ei K C f/\fs.lookup f=some v/\Q v H1
def TK (K:ZAy)(ta tv:TE)(f:Str):TS:=fun D σ H=>tv σ H fun y H1=>ta σ H1 fun x H2=>∃ a C dx fs,x=.ref a/\H2 a=some (.ins C dx fs)/\DP K C/\Ei K C f/\fs.length<1000/\
 D.nx σ (upd H2 a (.ins C dx (DE f y fs)))
section
variable {o value:Expr}{f:Str}{pos':Pos}{tv:TE}
variable {b:Bool}
inductive Ec (K:ZAy) (H:Hp):V->Value->Prop where
 | A8:Ec K H .A8 (.type "NoneType")
 | bl (x:Bool):Ec K H (.bl x) (.type "bool")
 | int (i:Int):Ec K H (.int i) (.type "int")
 | str (x:Str):Ec K H (.str x) (.type "str")
 | IM (x:UInt64):Ec K H (.IM x) (.type "float")
 | lst {a:Addr}{xs:List V}(e:H a=some (.lst xs)):Ec K H (.ref a) (.type "list")
 | C8 {a:Addr}{o:Obj}{xs:List V}(e:H a=some (.C8 o (.lst xs))):Ec K H (.ref a) (.type "list")
 | tup {a:Addr}{xs:List V}(e:H a=some (.tup xs)):Ec K H (.ref a) (.type "tuple")
 | dK {a:Addr}{A3:List (Key×V)}(e:H a=some (.dK A3)):Ec K H (.ref a) (.type "dict")
 | dT {a:Addr}{A3:List (List Key×V)}(e:H a=some (.dT A3)):Ec K H (.ref a) (.type "dict")
 | ins {a C dx:Addr}{fs:List (Str×V)}(e:H a=some (.ins C dx fs)) (cl:DP K C) (ha:PySem.W.findIn K (.ref C) "__class__"=some (some (.builtin "object.__class__")))
   (hn:PySem.W.specialIn K (.builtin "object.__class__") "__get__"=some (some (.builtin "getset_descriptor.__get__"))) (J4:PySem.W.takesIn K (.builtin "object.__class__")=some true)
   (hm:PySem.W.mroIn K C (.type "object")=some true):Ec K H (.ref a) (.ref C)
def zV {x:V}{t:Value}(I:Inv X pins σ H s)(rx:RelV x u)(ty:Ec X.K H x t)(e:PySem.W.kitOne X.K t c=some b)(h:∀ tk,Q (.bool b) { s with toks:=tk }):
  wpAny (model X.prog X.w) A (call (.builtin "isinstance") [u,c]) Q E s:=by
 cases ty with
 | A8=>cases (show u=Value.none from rx);exact HH PySem.W.kitx_none I.CH True.intro e (fun z=>nomatch z) h
 | bl y=>cases (show u=Value.bool y from rx);exact HH PySem.W.kitx_bool I.CH True.intro e (fun z=>nomatch z) h
 | int i=>obtain ⟨t,q⟩:=(show ∃ t,u=Value.int i t from rx);cases q;exact HH PySem.W.kitx_int I.CH True.intro e (fun z=>nomatch z) h
 | str y=>obtain ⟨t,q⟩:=(show ∃ t,u=Value.str y t from rx);cases q;exact HH PySem.W.kitx_str I.CH True.intro e (fun z=>nomatch z) h
 | IM y=>obtain ⟨t,q⟩:=(show ∃ t,u=Value.float y t from rx);cases q;exact HH PySem.W.kitx_float I.CH True.intro e (fun z=>nomatch z) h
 | @lst a xs ea=>
  cases (show u=Value.ref a from rx);obtain ⟨_,_,n,_,h1⟩:=(show Br X.prog X.w H s.heap a (.lst xs) from I.AG a _ ea);exact HH ZAM I.CH ⟨_,h1,rfl⟩ e (fun z=>nomatch z) h
 | @C8 a ob xs ea=>
  cases (show u=Value.ref a from rx);obtain ⟨_,_,_,n,_,h1⟩:=(show Br X.prog X.w H s.heap a (.C8 ob (.lst xs)) from I.AG a _ ea);exact HH ZAM I.CH ⟨_,h1,rfl⟩ e (fun z=>nomatch z) h
 | @tup a xs ea=>
  cases (show u=Value.ref a from rx);obtain ⟨_,_,_,p⟩:=(show Br X.prog X.w H s.heap a (.tup xs) from I.AG a _ ea);obtain ⟨o,h1,h2,_⟩:=p.1;exact HH PySem.W.kitx_tuple I.CH ⟨o,h1,h2⟩ e (fun z=>nomatch z) h
 | @dK a A3 ea=>
  cases (show u=Value.ref a from rx);obtain ⟨_,_,vs,_,p⟩:=(show Br X.prog X.w H s.heap a (.dK A3) from I.AG a _ ea);obtain ⟨o,es,ep,h1,h2,_⟩:=p;exact HH ZAL I.CH ⟨o,h1,h2.1⟩ e (fun z=>nomatch z) h
 | @dT a A3 ea=>
  cases (show u=Value.ref a from rx);obtain ⟨_,_,xs,_,o,es,ep,h1,h2,_⟩:=(show Br X.prog X.w H s.heap a (.dT A3) from I.AG a _ ea);exact HH ZAL I.CH ⟨o,h1,h2.1⟩ e (fun z=>nomatch z) h
 | @ins a C dx fs ea cl ha hn J4 hm=>
  cases (show u=Value.ref a from rx);obtain ⟨mA,O,_⟩:=Pu I.AG ea;obtain ⟨od,J,_⟩:=O.look;exact HH (PySem.W.kitx_own (cl.get _) cl.hd ha hn J4 hm) I.CH J e (fun z=>nomatch z) h
end
structure BO (k:Nat) (A:Around):Prop where
 hd:A.handled=none
 dp:A.depth+3 * k+5<recursionLimit
 un:A.units+16 * k+200<cLine
def BO.mono {k:Nat}(r:BO k A)(h:j<=k):BO j A:=⟨r.hd,by have:=r.dp;omega,by have:=r.un;omega⟩
theorem BO.deeper {k:Nat}(r:BO (k+1) A)(env:Env):BO k (A.deeper env):=
 ⟨r.hd,by have:=r.dp;show A.depth+1+3 * k+5<_;omega,by have:=r.un;show A.units+3+16 * k+200<_;omega⟩
def zR:(A.under (.builtin "type.__call__" ⟨.ref C::us,kw⟩)).depth=A.depth+1:=by
 first | rfl | simp [Around.under,Code.weight,Code.isCreation,Code.isGuard,Code.isCaller,Code.frames,Code.isFrame,guardIds]
def wo:(A.under (.builtin "type.__call__" ⟨.ref C::us,kw⟩)).units=A.units+1:=by
 first | rfl | simp [Around.under,Code.cUnits,Code.frames,Code.isFrame]
def BO.make {k:Nat}(r:BO (k+1) A)(C:Addr)(us:List Value)(kw:List (Str×Value)):BO k (A.under (.builtin "type.__call__" ⟨.ref C::us,kw⟩)):=
 ⟨r.hd,by have:=r.dp;rw [zR];omega,by have:=r.un;rw [wo];omega⟩
theorem BO.depth {k:Nat}(r:BO k A):A.depth<recursionLimit:=by have:=r.dp;omega
theorem BO.units {k:Nat}(r:BO k A):A.units+64<cLine:=by have:=r.un;omega
def BO.Pk {k:Nat}(r:BO k A):A.units<cLine:=by have:=r.un;omega
def Az:TA:=fun _ H Q=>Q [] H
def Af (ta:TE)(tr:TA):TA:=fun σ H Q=>ta σ H fun x H1=>tr σ H1 fun xs H2=>Q (x::xs) H2
section
variable {t:TA}
def jA (ha:PE X e te)(hr:PA X es t)(hs:starEach (e::es) X.env=(false,eval e X.env)::starEach es X.env:=by rfl):PA X (e::es) (Af te t):=by
 intro pos pins s σ H Q I h;rw [hs];show wpAny _ _ (spliced ((false,eval e X.env)::backTo pos (starEach es X.env))) _ _ s;refine fo (AF (ha pins s σ H _ I h) fun u s1 ⟨x,H1,I1,r1,q1⟩=>?_);exact AF (hr pos pins s1 σ H1 _ I1 q1) fun us s2 ⟨xs,H2,I2,r2,q2⟩=>⟨x::xs,H2,I2,.cons r1 r2,q2⟩
def Nu (t:TA):TE:=fun σ H Q=>t σ H fun xs H1=>xs.length<=sizeLine/\∀ p,H1 p=none->Q (.ref p) (upd H1 p (.tup xs))
def UG (t:TA):TE:=fun σ H Q=>t σ H fun xs H1=>xs.length<=sizeLine/\∀ p,H1 p=none->Q (.ref p) (upd H1 p (.lst xs))
def lO {x1}(h:PA X es t):PE X (.Tuple es x1 pos) (Nu t):=by
 intro pins s σ H Q I hq;refine wpAny_Tuple_spliced (AF (h pos pins s σ H _ I hq) fun us s1 ⟨xs,H1,I1,r,z,q⟩=>⟨by rw [<- r.length];exact z,?_⟩);have hf:H1 s1.heap.objs.size=none:=I1.AG.fresh (Aj _);refine ⟨.ref s1.heap.objs.size,upd H1 s1.heap.objs.size (.tup xs),I1.laid (t':=s1.toks) (fun b u e=>Bi _ e) (Aj _) ?_,rfl,q _ hf⟩;exact ⟨z,us,r,⟨_,C1 _ rfl,rfl,_,rfl⟩,fun UM e'=>by rw [C1 _ rfl] at e';cases e';rfl⟩
def gw (h:PA X es t):PE X (.List es pos) (UG t):=by
 intro pins s σ H Q I hq;refine wpAny_List_spliced (AF (h pos pins s σ H _ I hq) fun us s1 ⟨xs,H1,I1,r,z,q⟩=>⟨by rw [<- r.length];exact z,?_⟩);have hf:H1 s1.heap.objs.size=none:=I1.AG.fresh (Aj _);refine ⟨.ref s1.heap.objs.size,upd H1 s1.heap.objs.size (.lst xs),I1.laid (t':=s1.toks) (fun b u e=>Bi _ e) (Aj _) ?_,rfl,q _ hf⟩;exact ⟨z,us,0,r,C1 _ rfl⟩
end
abbrev Sp:=List V->Hp->VK->XK->Prop
abbrev Fl:=List Env->Hp->Shared->XK->Value->Shared->Prop
variable {CX:Fl}
structure JY (P:Program) (w:World) (K:ZAy) (mg:ZB0) (base:Heap) (A:Around) (outer:List Env) (s:Shared) (H:Hp):Prop where
 frames:A.frames=some outer
 mod:Mod K mg base
 bs:∀ b o,base.get? b=some o->s.heap.get? b=some o/\H b=none
 Hd:base.objs.size<=s.heap.objs.size
 FZ:s.heap.FunFrames base outer
 Js:∀ b∈GL outer,H b=none
 AG:Bk P w H s.heap
 bare:AllBare s.gens
def CE (outer:List Env)(P:Program)(w:World)(H:Hp)(s:Shared)(Q:VK)(u:Value)(s':Shared):Prop:=
 ∃ v H',s'.os=s.os/\AllBare s'.gens/\Un (GL outer) [] H H' s.heap s'.heap/\Bk P w H' s'.heap/\RelV v u/\Q v H'
def CR (CX:Fl)(outer:List Env)(P:Program)(w:World)(H:Hp)(s:Shared)(Q:VK)(E:XK)(r:Result)(s':Shared):Prop:=
 match r with
 | .ok (.ret u)=>CE outer P w H s Q u s'
 | .ok _=>False
 | .error e=>CX outer H s E e s'
structure D2 (P:Program) (w:World) (K:ZAy) (mg:ZB0) (base:Heap) (CX:Fl) (k:Nat) (f:Addr) (fd:FuncData) (ps:List Str) (sp:Sp):Prop where
 len:∀ vs H Q E,sp vs H Q E->vs.length=ps.length
 run:∀ (A:Around) (outer:List Env) (s:Shared) (H:Hp) (args:Args) (us:List Value) (vs:List V) (Q:VK) (E:XK),BO k A->JY P w K mg base A outer s H->BindsTo s fd args (ps.zip us)->Vals vs us->sp vs H Q E->
  codeAny (model P w) A (.call (.ref f) args) (CR CX outer P w H s Q E) s
theorem D2.mono {P:Program}{K:ZAy}{k:Nat}{f:Addr}{sp:Sp}(F:D2 P w K mg base CX j f fd ps sp)(h:j<=k):
  D2 P w K mg base CX k f fd ps sp:=⟨F.len,fun A outer s H args us vs Q E hr=>F.run A outer s H args us vs Q E (hr.mono h)⟩
def JY.make {P:Program}{K:ZAy}(e:JY P w K mg base A outer s H)(C:Addr)(us:List Value)(kw:List (Str×Value)):
  JY P w K mg base (A.under (.builtin "type.__call__" ⟨.ref C::us,kw⟩)) outer s H:=⟨by first | exact e.frames | (simpa [Around.under,Code.envs,Code.isFrame,pushEnvs] using e.frames),e.mod,e.bs,e.Hd,e.FZ,e.Js,e.AG,e.bare⟩
def Inv.aP (I:Inv X pins σ H s):JY X.prog X.w X.K X.mg X.base X.A X.stack s H:=
 ⟨I.ok.frames,I.ok.mod,I.bs,Em I.ok.Hd I.sz,I.stack,I.fP,I.AG,I.bare⟩
def Inv.after {Q:VK}(I:Inv X pins σ H s)(h:CE X.stack X.prog X.w H s Q u s'):EP X pins σ Q u s':=by
 obtain ⟨v,H',os,bare,un,AG,r,q⟩:=h;obtain ⟨hh,g,d,t,zA⟩:=s';obtain rfl:zA=s.os:=os;exact ⟨v,H',I.call (h':=hh) (g':=g) (d':=d) (t':=t) (ch:=[]) un AG bare (fun b z=>absurd z (by simp)),r,q⟩
def E7 (sp:Sp)(Ct:List V)(E:XK)(t:TA):TE:=fun σ H Q=>t σ H fun vs H1=>sp (vs++Ct) H1 Q E
def KN (C:Addr)(m:Str)(sp:Sp)(Ct:List V)(E:XK)(ta:TE)(t:TA):TE:=fun σ H Q=>ta σ H fun x H1=>∃ a dx fs,x=.ref a/\H1 a=some (.ins C dx fs)/\fs.lookup m=none/\
 t σ H1 fun vs H2=>sp (x::(vs++Ct)) H2 Q E
def Sn (C:Addr)(sp:Sp)(Ct:List V)(E:XK)(t:TA):TE:=fun σ H Q=>t σ H fun vs H1=>∀ x dx,H1 x=none->H1 dx=none->dx≠x->
 sp (.ref x::(vs++Ct)) (upd (upd H1 dx (.own x)) x (.ins C dx [])) (fun v H2=>v=.A8/\Q (.ref x) H2) E
def Binds (K:ZAy)(fd:FuncData)(ps:List Str)(ds:List Value):Prop:=
 ∀ (s:Shared) (us:List Value),K.In s.heap->(us++ds).length=ps.length->BindsTo s fd ⟨us,[]⟩ (ps.zip (us++ds))
def Binds.all {K:ZAy}(h:∀ us:List Value,us.length=ps.length->bindArgs fd ⟨us,[]⟩=pure (ps.zip us)):Binds K fd ps []:=fun s us _ hl=>by
 rw [DV] at hl ⊢;exact .of_eq (h us hl)
def Passes (CX:Fl)(X:Cx)(E:XK):Prop:=∀ (pins:ZAz) (σ:St) (H:Hp) (s:Shared) (e:Value) (s':Shared),Inv X pins σ H s->CX X.stack H s E e s'->X.xe e s'
section
variable {k:Nat}{f:Addr}{sp:Sp}{E:XK}{p apos:Pos}{o:Expr}{t:TA}
def RZ {Q:VK}(F:D2 X.prog X.w X.K X.mg X.base CX k f fd ps sp)(hr:BO k X.A)(hb:Binds X.K fd ps ds)(hd:Vals Ct ds)(hx:Passes CX X E)
  (I:Inv X pins σ H s) (r:Vals vs us) (h:sp (vs++Ct) H Q E):wpAny (model X.prog X.w) X.A (call (.ref f) us) (EP X pins σ Q) X.xe s:=by
 have r2:Vals (vs++Ct) (us++ds):=r.append hd;have hl:(us++ds).length=ps.length:=by rw [<- r2.length];exact F.len _ _ _ _ h
 refine wpAny_call (rM (F.run X.A X.stack s H ⟨us,[]⟩ (us++ds) (vs++Ct) Q E hr I.aP (hb s us I.CH hl) r2 h) fun r s' hq=>?_);cases r with
 | error e=>exact hx pins σ H s e s' I hq
 | ok fl=>
  cases fl with
  | ret u=>exact I.after hq
  | next=>exact False.elim hq
  | brk=>exact False.elim hq
  | cont=>exact False.elim hq
def hV (F:D2 X.prog X.w X.K X.mg X.base CX k f fd ps sp)(hr:BO k X.A)(hg:Gl X x)(hm:X.mg x=some (.ref f))(hk:PySem.W.keepIn X.K (.ref f)=true)(hb:Binds X.K fd ps ds)(hd:Vals Ct ds)(hx:Passes CX X E)
  (ha:PA X (e::es) t) (CY:(x == ("__debug__":Str))=false:=by decide) (he:starEach (e::es) X.env=(false,eval e X.env)::starEach es X.env:=by rfl) (Bx:(backTo pos (starEach es X.env)).any (·.1)=false:=by rfl) :
  PE X (.Call (.Name x p) (e::es) [] pos) (E7 sp Ct E t):=by
 intro pins s σ H Q I h;refine kL (UD I hg hm ?_ CY);refine gZ (h₀:=X.base) I.ok.mod.NI hk (AF (ha pos pins s σ H _ I h) fun us s1 ⟨vs,H1,I1,r,q⟩=>⟨I1.CH,?_⟩) he Bx;exact RZ F hr hb hd hx I1 r q
def jU (he:PE X o ta)(c:DP X.K C)(hm:Meth X.K C m f)(F:D2 X.prog X.w X.K X.mg X.base CX k f fd ps sp)(hr:BO k X.A)(hb:Binds X.K fd ps ds)(hd:Vals Ct ds)(hx:Passes CX X E)(ha:PA X (e::es) t)
  (Hs:starEach (e::es) X.env=(false,eval e X.env)::starEach es X.env:=by rfl) (Bx:(backTo pos (starEach es X.env)).any (·.1)=false:=by rfl)
  (ht:eval (.Call (.Attribute o m apos) (e::es) [] pos) X.env=(do
   let ov <- eval o X.env
   standAt apos.atName
   let (f,first) <- holding [ov] (getMethod ov m pl)
   callWith pos f first (backTo pos (starEach (e::es) X.env)) (backToKw pos (keywordEach [] X.env))):=by rfl) :
  PE X (.Call (.Attribute o m apos) (e::es) [] pos) (KN C m sp Ct E ta t):=by
 intro pins s σ H Q I h;refine ZAN (pl:=pl) (AF (he pins s σ H _ I h) fun u s1 ⟨x,H1,I1,rx,a,dx,fs,ex,ea,l,q⟩=>?_) ht;subst ex;obtain rfl:u=Value.ref a:=rx;refine d8 I1 ea c hm l ?_;refine gZ (first:=[.ref a]) (h₀:=X.base) I.ok.mod.NI hm.kp (AF (ha pos pins s1 σ H1 _ I1 q) fun us s2 ⟨vs,H2,I2,r,q2⟩=>⟨I2.CH,?_⟩) Hs Bx
 exact RZ (us:=.ref a::us) (vs:=.ref a::vs) F hr hb hd hx I2 (.cons rfl r) q2
def j9 (he:PE X o ta)(c:DP X.K C)(hm:Meth X.K C m f)(F:D2 X.prog X.w X.K X.mg X.base CX k f fd ps sp)(hr:BO k X.A)(hb:Binds X.K fd ps ds)(hd:Vals Ct ds)(hx:Passes CX X E)
  (ht:eval (.Call (.Attribute o m apos) [] [] pos) X.env=(do
   let ov <- eval o X.env
   standAt apos.atName
   let (f,first) <- holding [ov] (getMethod ov m pl)
   callWith pos f first (backTo pos (starEach [] X.env)) (backToKw pos (keywordEach [] X.env))):=by rfl) :
  PE X (.Call (.Attribute o m apos) [] [] pos) (KN C m sp Ct E ta Az):=by
 intro pins s σ H Q I h;refine ZAN (pl:=pl) (AF (he pins s σ H _ I h) fun u s1 ⟨x,H1,I1,rx,a,dx,fs,ex,ea,l,q⟩=>?_) ht;subst ex;obtain rfl:u=Value.ref a:=rx;refine d8 I1 ea c hm l ?_;exact PySem.W.callWith_K0 (first:=[.ref a]) I1.CH hm.kp (RZ (us:=[.ref a]) (vs:=[.ref a]) F hr hb hd hx I1 (.cons rfl .nil) q)
structure Mk (K:ZAy) (C f:Addr):Prop where
 makes:PySem.W.makesIn K C=true
 init:PySem.W.findIn K (.ref C) "__init__"=some (some (.ref f))
 fn:PySem.W.isFn K (.ref f)=true
 kp:PySem.W.keepIn K (.ref C)=true
def lJ {Q:VK}(M:Mk X.K C f)(F:D2 X.prog X.w X.K X.mg X.base CX k f fd ps sp)(hr:BO (k+1) X.A)(hb:Binds X.K fd ps ds)(hd:Vals Ct ds)
  (hx:Passes CX X E) (I:Inv X pins σ H s) (r:Vals vs us)
  (h:∀ x dx,H x=none->H dx=none->dx≠x->sp (.ref x::(vs++Ct)) (upd (upd H dx (.own x)) x (.ins C dx [])) (fun v H2=>v=.A8/\Q (.ref x) H2) E) :
  wpAny (model X.prog X.w) X.A (call (.ref C) us) (EP X pins σ Q) X.xe s:=by
 have hq:=h (s.heap.objs.size+1) s.heap.objs.size (I.AG.fresh (MB _)) (I.AG.fresh (Aj _)) (CQ (X3 _));have I2:=Inv.made (C:=C) I;have r2:Vals (V.ref (s.heap.objs.size+1)::(vs++Ct)) (Value.ref (s.heap.objs.size+1)::(us++ds)):=.cons rfl (r.append hd);have hl:(Value.ref (s.heap.objs.size+1)::us++ds).length=ps.length:=by
  have e:=r2.length;rw [F.len _ _ _ _ hq] at e;exact e.symm
 refine wpAny_call (mT (f:=f) I.CH M.makes M.init (beq_iff_eq.mp M.fn) (rM (F.run _ X.stack _ _ ⟨Value.ref (s.heap.objs.size+1)::us,[]⟩ (Value.ref (s.heap.objs.size+1)::(us++ds)) _ _ E (hr.make C us [])
  (I2.aP.make C us []) (hb _ (Value.ref (s.heap.objs.size+1)::us) I2.CH hl) r2 hq) fun r s' GI=>?_))
 cases r with
 | error e=>exact hx pins σ _ _ e s' I2 GI
 | ok fl=>
  cases fl with
  | ret u=>
   obtain ⟨v,H',I3,rv,ev,q3⟩:=I2.after GI;subst ev;exact ⟨rv,⟨V.ref (s.heap.objs.size+1),H',I3,rfl,q3⟩⟩
  | next=>exact False.elim GI
  | brk=>exact False.elim GI
  | cont=>exact False.elim GI
def qJ (M:Mk X.K C f)(F:D2 X.prog X.w X.K X.mg X.base CX k f fd ps sp)(hr:BO (k+1) X.A)(hg:Gl X x)(hm:X.mg x=some (.ref C))(hb:Binds X.K fd ps ds)(hd:Vals Ct ds)(hx:Passes CX X E)
  (ha:PA X (e::es) t) (CY:(x == ("__debug__":Str))=false:=by decide) (he:starEach (e::es) X.env=(false,eval e X.env)::starEach es X.env:=by rfl) (Bx:(backTo pos (starEach es X.env)).any (·.1)=false:=by rfl) :
  PE X (.Call (.Name x p) (e::es) [] pos) (Sn C sp Ct E t):=by
 intro pins s σ H Q I h;refine kL (UD I hg hm ?_ CY);refine gZ (h₀:=X.base) I.ok.mod.NI M.kp (AF (ha pos pins s σ H _ I h) fun us s1 ⟨vs,H1,I1,r,q⟩=>⟨I1.CH,?_⟩) he Bx;exact lJ M F hr hb hd hx I1 r q
variable {kws:List Keyword}{tk:TA}{nm:Option Str}{g:List Value->List Value->List Value}{gV:List V->List V->List V}
end
structure B6 (N P:List Str) (sc:Scope):Prop where
 kind:sc.kind=.function
 co:sc.isCoroutine=false
 gen:sc.isGenerator=false
 nd:N.Nodup
 pre:N.take P.length=P
 par:∀ x∈P,sc.names.lookup x=some .local∨sc.names.lookup x=some .cell
 wD:∀ y∈sc.names,y.2≠.free
theorem aC {kindOf:Str->Option NameKind}{x:Str}:∀ {binds:List (Str×Value)}{m:ZB0},(∀ v,(x,v)∉binds)->bindL kindOf binds m x=m x
 | [],_,_=>rfl
 | (n,v)::r,m,h=>by
  unfold bindL;rw [aC fun w hw=>h w (E5 _ hw)];split
  ·have:x≠n:=by rintro rfl;exact h v HG
   simp [this]
  ·rfl
theorem Xh {kindOf:Str->Option NameKind}{x:Str}:∀ {binds:List (Str×Value)}{m:ZB0},(∀ v,(x,v)∉binds)->bindC kindOf binds m x=m x
 | [],_,_=>rfl
 | (n,v)::r,m,h=>by
  unfold bindC;rw [Xh fun w hw=>h w (E5 _ hw)];split
  ·rfl
  ·have:x≠n:=by rintro rfl;exact h v HG
   simp [this]
theorem aw {kindOf:Str->Option NameKind}{x:Str}{v:Value}:∀ {P:List Str}{vs:List Value}{i:Nat}{m:ZB0},P.Nodup->P[i]?=some x->vs[i]?=some v->kindOf x=some .local->
  bindL kindOf (P.zip vs) m x=some v
 | [],_,_,_,_,h,_,_=>by simp at h
 | _::_,[],_,_,_,_,h,_=>by simp at h
 | p::P,w::vs,0,m,nd,h1,h2,hk=>by
  simp at h1 h2;subst h1;subst h2;show bindL kindOf ((p,w)::P.zip vs) m p=_;unfold bindL;rw [aC fun v hv=>(List.nodup_cons.mp nd).1 (gM hv).1,gq hk];simp
 | p::P,w::vs,i+1,m,nd,h1,h2,hk=>by
  show bindL kindOf ((p,w)::P.zip vs) m x=_;unfold bindL;exact aw (i:=i) (List.nodup_cons.mp nd).2 (by simpa using h1) (by simpa using h2) hk
theorem Zu {kindOf:Str->Option NameKind}{x:Str}{v:Value}:∀ {P:List Str}{vs:List Value}{i:Nat}{m:ZB0},P.Nodup->P[i]?=some x->vs[i]?=some v->kindOf x≠some .local->
  bindC kindOf (P.zip vs) m x=some v
 | [],_,_,_,_,h,_,_=>by simp at h
 | _::_,[],_,_,_,_,h,_=>by simp at h
 | p::P,w::vs,0,m,nd,h1,h2,hk=>by
  simp at h1 h2;subst h1;subst h2;show bindC kindOf ((p,w)::P.zip vs) m p=_;unfold bindC;rw [Xh fun v hv=>(List.nodup_cons.mp nd).1 (gM hv).1,gg hk];simp
 | p::P,w::vs,i+1,m,nd,h1,h2,hk=>by
  show bindC kindOf ((p,w)::P.zip vs) m x=_;unfold bindC;exact Zu (i:=i) (List.nodup_cons.mp nd).2 (by simpa using h1) (by simpa using h2) hk
def start (N:List Str)(vs:List V):St:=vs.map some++List.replicate (N.length - vs.length) none
def K9 (CX:Fl)(P:Program)(w:World)(K:ZAy)(mg:ZB0)(base:Heap)(N:List Str)(qual:Str)(scope:Scope)(f:Addr)(cd:Value)(A:Around)(outer:List Env)(s:Shared)(H:Hp)(E:XK):Cx where
 prog:=P
 w:=w
 K:=K
 mg:=mg
 base:=base
 A:=A.deeper (envOfC qual scope s.heap.objs.size f cd)
 N:=N
 s₀:=s
 H₀:=H
 env:=envOfC qual scope s.heap.objs.size f cd
 outer:=outer
 stack:=envOfC qual scope s.heap.objs.size f cd::outer
 ex:=[]
 calm:=true
 fn:=fun _=>true
 pn:=[]
 xe:=fun e s'=>wpAny (model P w) (A.deeper (envOfC qual scope s.heap.objs.size f cd)) (leaving (envOfC qual scope s.heap.objs.size f cd) e) (fun _ N3=>CX outer H s E e N3) (fun e' N3=>CX outer H s E e' N3) s'
def dr (h:sc.names.lookup x=some .cell):∃ c,(cellsFrom n sc.names []).lookup x=some c:=by
 have q:=ZAK sc.names n [] (.inl h);exact Option.isSome_iff_exists.mp q
def wL {P:Program}{K:ZAy}{f:Addr}{s1:Shared}{E:XK}
  (S:B6 N ps scope) (hd:A.handled=none) (e0:JY P w K mg base A outer s H) (hl:vs.length=ps.length) (r:Vals vs us)
  (x:InCallC s s.heap.objs.size (bindL (envOfC qual scope s.heap.objs.size f cd).kindOf (ps.zip us) fun _=>none) (cellsFrom (s.heap.objs.size+1) scope.names []) (bindC (envOfC qual scope s.heap.objs.size f cd).kindOf (ps.zip us) fun _=>none) s1) :
  Inv (K9 CX P w K mg base N qual scope f cd A outer s H E) [] (start N vs) H s1:=by
 have Bx:ps.length<=N.length:=by have:=l9 List.length S.pre;rw [D4] at this;omega
 obtain ⟨h1,tk,rfl,hk⟩:=x.done;have N1:∀ b:Addr,b∉(K9 CX P w K mg base N qual scope f cd A outer s H E).ex:=fun b z=>absurd (show b∈([]:List Addr) from z) (by simp);refine ⟨⟨e0.mod,S.kind,rfl,rfl,Aj _,fun y z c h1 h2=>?_,fun y hy=>?_,fun y c _ h=>?_,fun _=>hd,Around.frames_deeper e0.frames,.inr ⟨rfl,rfl⟩,fun b z=>absurd z (N1 b),e0.bs,e0.Hd,fun b _ _=>N1 b,fun b z=>absurd z (N1 b),e0.FZ,e0.Js⟩,
  rfl,e0.bare,Un.kept hk,⟨_,x.toInCall.ns,fun i y v h1 h2 h3=>?_⟩,fun y c h=>⟨_,x.cell y c h⟩,e0.AG.fresh (Aj _),fun y c h=>?_,fun p hp=>absurd (show p∈([]:ZAz) from hp) (by simp),e0.AG.kept hk,?_⟩
 ·exact name_of_addr x.apart (Kf h1) (Kf h2)
 ·have hy:scope.names.lookup y=some .cell∨scope.names.lookup y=some .free:=hy;rcases hy with hy | hy
  ·exact dr hy
  ·exact absurd rfl (S.wD _ (Kf hy))
 ·exact gQ (x.above y c (Kf h))
 ·have hi:i<vs.length:=by
   unfold start at h2
   by_cases hi:i<vs.length
   ·exact hi
   ·rw [EJ (by simpa using hi)] at h2
    rw [gF] at h2;split at h2 <;> cases h2
  have ha:vs[i]?=some v:=by
   unfold start at h2;rw [DF (by simpa using hi),AV] at h2
   cases e:vs[i]? with
   | none=>rw [e] at h2;cases h2
   | some a=>rw [e] at h2;cases h2;rfl
  obtain ⟨u,hu,rv⟩:=r.get ha;have hp:ps[i]?=some y:=by
   rw [<- S.pre,List.getElem?_take_of_lt (by omega)];exact h1
  have Xq:ps.Nodup:=by rw [<- S.pre];exact S.nd.sublist (ZA6 _ _)
  refine ⟨u,rv,?_⟩;rcases S.par y (C2 hp) with k | k
  ·exact .inl ⟨k,aw Xq hp hu k⟩
  ·obtain ⟨c,e⟩:=dr (n:=s.heap.objs.size+1) k;refine .inr ⟨.inl k,c,e,?_⟩;have q:=x.cell y c e;rw [Zu Xq hp hu (by show scope.names.lookup y≠_;rw [k];decide)] at q;exact q
 ·exact e0.AG.fresh (gQ (x.above y c (Kf h)))
 ·unfold start;show _=N.length;rw [Bo,A9,ZA3];omega
def v9 {P:Program}{K:ZAy}{k:Nat}{f:Addr}{params:Arguments}{body:List Stmt}{dV kV doc pm Ab ct oc:Value}{an od:Option Addr}
  {JA:Array (Option Value)}{sp:Sp}(lk:K.lookup f=some ⟨oc,od,.func (PySem.W.fnOf name qual params body scope dV kV doc pm an Ab ct),JA⟩) (G2:PySem.W.codeIn K Ab qual=true) (S:B6 N ps scope)
  (len:∀ vs H Q E,sp vs H Q E->vs.length=ps.length)
  (My:∀ (A:Around) (outer:List Env) (s:Shared) (H:Hp) (vs:List V) (Q:VK) (E:XK),BO k (A.deeper (envOfC qual scope s.heap.objs.size f Ab))->sp vs H Q E->
   ∃ t,Dy (K9 CX P w K mg base N qual scope f Ab A outer s H E) body t/\t { nx:=fun _ H'=>Q .A8 H',rt:=Q } (start N vs) H) :
  D2 P w K mg base CX (k+1) f (PySem.W.fnOf name qual params body scope dV kV doc pm an Ab ct) ps sp:=by
 refine ⟨len,fun A outer s H args us vs Q E hr e0 hb r GJ=>?_⟩;have hl:=len _ _ _ _ GJ;have KX:K.In s.heap:=e0.mod.NI.keeps fun b o e=>(e0.bs b o e).1;have lim:s.heap.NoLimit:=e0.mod.nolimit.keeps fun b o e=>(e0.bs b o e).1;have tY:∀ y∈ps.zip us,scope.names.lookup y.1=some .local∨(scope.names.lookup y.1=some .cell/\((cellsFrom (s.heap.objs.size+1) scope.names []).lookup y.1).isSome=true):=fun ⟨n,v⟩ hy=>by
  rcases S.par n (gM hy).1 with q | q
  ·exact .inl q
  ·exact .inr ⟨q,ZAK _ _ _ (.inl q)⟩
 refine codeAny_call_function hr.depth (KX _ _ lk) rfl S.co S.gen rfl (PySem.W.codeRec_of KX G2) (hb _ _ _ _ ?_);refine wpAny_newFunctionEnv_cells S.kind tY fun env he s1 x=>?_;subst he;refine ⟨lim.keeps x.toInCall.keep,codeAny_func ?_⟩;obtain ⟨t,ht,hq⟩:=My A outer s H vs Q E (hr.deeper _) GJ;have I:Inv (K9 CX P w K mg base N qual scope f Ab A outer s H E) [] (start N vs) H s1:=wL S hr.hd e0 hl r x;refine jo (ht [] s1 (start N vs) H _ I hq) (fun fl s' hs=>?_) fun e s' hs=>hs;have fin:∀ {σ':St} {H':Hp}{v:V}{u:Value},Inv (K9 CX P w K mg base N qual scope f Ab A outer s H E) [] σ' H' s'->RelV v u->Q v H'->CE outer P w H s Q u s':=
  fun {σ' H' v u} J rv q=>⟨v,H',J.os,J.bare,J.base,J.AG,rv,q⟩
 cases fl with
 | ret u=>
  obtain ⟨v,σ',H',J,rv,q⟩:=hs;exact fin J rv q
 | next=>
  obtain ⟨σ',H',J,q⟩:=hs;exact fin (v:=V.A8) (u:=Value.none) J rfl q
 | brk=>
  obtain ⟨_,_,_,q⟩:=hs;exact False.elim q
 | cont=>
  obtain ⟨_,_,_,q⟩:=hs;exact False.elim q
section
variable {p:Pos}{t:TA}{id T:String}{r:List V->Hp->VK->Prop}
def DL (r:List V->Hp->VK->Prop)(t:TA):TE:=fun σ H Q=>t σ H fun vs H1=>r vs H1 Q
def wt (hc:C3 X (.type T) r)(hg:Gl X x)(hm:X.mg x=none)(hv:bootBuiltins x=some (.type T))(ha:PA X (e::es) t)(hn:x ≠ "__name__" := by decide)(CY:(x == ("__debug__":Str))=false:=by decide)
  (he:starEach (e::es) X.env=(false,eval e X.env)::starEach es X.env:=by rfl) (Bx:(backTo pos (starEach es X.env)).any (·.1)=false:=by rfl):PE X (.Call (.Name x p) (e::es) [] pos) (DL r t):=by
 intro pins s σ H Q I h;refine kL (JK I hg hm hv ?_ hn CY);exact RI (AF (ha pos pins s σ H _ I h) fun us s1 ⟨vs,H1,I1,r1,q1⟩=>hc pins s1 σ H1 vs us Q I1 r1 q1) he Bx
end
end L2
namespace HT
variable {E Q:Value->Shared->Prop}
section
open PySem.SeqAt
open PySem.AutoSeq1 (wpAny_loadPart')
open PySem.MeetsSeq PySem.MeetsSeq2 PySem.MeetsSeq3
end
section
variable {prog:Program}{w:World}{A:Around}{s:Shared}
def zQ {t b:Addr}{vs ws:List Value}(ht:IsTup s.heap t vs.toArray)(hb:IsTup s.heap b ws.toArray)(hv:vs≠[])
  (h1:ws=[]->Q (.ref t) s) (h2:ws≠[]->Q (.ref s.heap.objs.size) { s with heap:=s.heap.push { cls:=.type "tuple", data:=.seq (vs++ws).toArray } })
  (hsz:vs.length+ws.length<=sizeLine):wpAny (model prog w) A (binaryOp .Add (.ref t) (.ref b)) Q E s:=by
 obtain ⟨⟨cls,dd,data,sl⟩,ho,hc,n,hd⟩:=id ht;obtain ⟨⟨ZAP,Yz,data2,XZ⟩,Iz,Ze,n2,hd2⟩:=id hb;simp only at hc hd Ze hd2;subst hc hd Ze hd2;have e:vs.toArray++ws.toArray=(vs++ws).toArray:=by simp
 by_cases hw:ws=[]
 ·exact concat_meets ⟨_,ho,rfl⟩ ⟨_,Iz,rfl⟩ noFill_tuple_add seq_tuple_add ZAJ ZAG (ZAE _ _)
   (tuple_addW1 t b vs.toArray ws.toArray n n2 dd Yz sl XZ (by simpa using hv) (by simp [hw])) ⟨ho,Iz,h1 hw⟩
 ·refine concat_meets ⟨_,ho,rfl⟩ ⟨_,Iz,rfl⟩ noFill_tuple_add seq_tuple_add ZAJ ZAG (ZAE _ _)
   (tuple_addW2 t b vs.toArray ws.toArray n n2 dd Yz sl XZ (by simpa using hv) (by simpa using hw) (by rw [BV,BV];exact hsz)) ⟨ho,Iz,?_⟩
  rw [e];exact h2 hw
def Cn (n d:Nat):Option Int->Nat
 | none=>d
 | some v=>if v<0 then (v+(n:Int)).toNat else min v.toNat n
def Xv (n d:Nat):Cn n d none=d:=rfl
def Z3 (n d k:Nat):Cn n d (some (k:Int))=min k n:=by
 show (if (k:Int)<0 then ((k:Int)+(n:Int)).toNat else min (k:Int).toNat n)=min k n
 rw [gg (by omega),HE]
end
end HT
namespace L2
variable {X:Cx}{pos:Pos}{xs ys:List V}{A1 its' us:List Value}{α:Type}{j n t':Nat}{i:Int}{pins:ZAz}{σ:St}{H:Hp}{s:Shared}{A:Around}{x y:V}{u v:Value}{T:String}
abbrev TO:=St->Hp->(Option Int->Hp->Prop)->Prop
def PO (X:Cx)(e:Option Expr)(t:TO):Prop:=
 ∀ (pins:ZAz) (s:Shared) (σ:St) (H:Hp) (Q:Option Int->Hp->Prop),Inv X pins σ H s->t σ H Q->
  wpAny (model X.prog X.w) X.A (evalPart e X.env) (fun u s'=>∃ o H',Inv X pins σ H' s'/\IsPart u o/\Q o H') X.xe s
def Tt:TO:=fun _ H Q=>Q none H
def Si (t:TE):TO:=fun σ H Q=>t σ H fun x H1=>∃ i,x=.int i/\Q (some i) H1
section
variable {e:Expr}{te:TE}{lo hi:Option Expr}{tl th:TO}{p2:Pos}
def OO (X:Cx)(r:V->Option Int->Option Int->Hp->VK->Prop):Prop:=
 ∀ (pins:ZAz) (s:Shared) (σ:St) (H:Hp) (x:V) (v vl vu:Value) (lo hi:Option Int) (sl:Addr) (Q:VK),Inv X pins σ H s->RelV x v->s.heap.IsSliceOf sl vl vu .none->IsPart vl lo->IsPart vu hi->r x lo hi H Q->
  ∃ T id,typeLookup (.type T) "__getitem__"=pure (some (.builtin id))/\s.TypeIs v T/\wpAny (model X.prog X.w) X.A (getItem v (.ref sl)) (EP X pins σ Q) X.xe s
def V7 (r:V->Option Int->Option Int->Hp->VK->Prop)(te:TE)(tl th:TO):TE:=fun σ H Q=>te σ H fun x H1=>tl σ H1 fun l H2=>th σ H2 fun u H3=>r x l u H3 Q
def KQ (xs:List V)(lo hi:Option Int):List V:=(xs.drop (HT.Cn xs.length 0 lo)).take (HT.Cn xs.length xs.length hi - HT.Cn xs.length 0 lo)
def uw (xs:List V)(lo hi:Option Int):(KQ xs lo hi).length<=xs.length:=by
 unfold KQ;rw [D4,gG];omega
def dw (K:ZAy):R2:=fun x y H Q=>∃ a b xs ys,x=.ref a/\y=.ref b/\An K H a xs/\An K H b ys/\xs≠[]/\xs.length+ys.length<=sizeLine/\
 (ys=[]->Q (.ref a) H)/\(ys≠[]->∀ p,H p=none->Q (.ref p) (upd H p (.tup (xs++ys))))
def Vals.WU (r:Vals xs us):us=[]↔xs=[]:=by
 cases r with
 | nil=>simp
 | cons _ _=>simp
def o8:B2 X (binaryOp .Add) (dw X.K):=by
 intro pins s σ H x y v u Q I rx ry h;obtain ⟨a,b,xs,ys,rfl,rfl,ha,hb,hx,hz,q1,q2⟩:=h;cases rx;cases ry;obtain ⟨A1,r1,p1,_⟩:=I.tuple ha;obtain ⟨BC,r2,p2,_⟩:=I.tuple hb;refine HT.zQ p1 p2 (fun z=>hx (r1.WU.mp z)) (fun z=>⟨.ref a,H,I,rfl,q1 (r2.WU.mp z)⟩) (fun z=>?_) (by rw [<- r1.length,<- r2.length];exact hz);refine ⟨.ref s.heap.objs.size,_,I.laid (t':=s.toks) (o:=.tup (xs++ys)) (fun b ob q=>Bi _ q) (Aj _) ?_,rfl,q2 (fun w=>z (r2.WU.mpr w)) _ (I.AG.fresh (Aj _))⟩;exact ⟨by rw [Bo];exact hz,_,r1.append r2,⟨IsTup.new _ _,fun UM e'=>by rw [C1 _ rfl] at e';cases e';rfl⟩⟩
end
def Fj (n:Nat)(i:Int):Option Nat:=if 0<=i then (if i<n then some i.toNat else none) else if -(n:Int)<=i then some (i+n).toNat else none
def Ba (xs:List α)(i:Int):Option α:=(Fj xs.length i).bind fun j=>xs[j]?
def fW (h:Fj n i=some j):seqIndex? i n=some j/\j<n/\-(n:Int)<=i/\i<n:=by
 unfold Fj at h
 by_cases h0:0<=i
 ·rw [gq h0] at h
  by_cases h1:i<n
  ·rw [gq h1] at h;have e:i.toNat=j:=B8 h;exact ⟨by rw [seqIndex_of h0 h1,e],by omega,by omega,h1⟩
  ·rw [gg h1] at h;cases h
 ·rw [gg h0] at h
  by_cases h1:-(n:Int)<=i
  ·rw [gq h1] at h;have e:(i+n).toNat=j:=B8 h;exact ⟨by rw [seqIndex_neg (by omega) h1,e],by omega,h1,by omega⟩
  ·rw [gg h1] at h;cases h
def Rx {xs:List α}{v:α}(h:Ba xs i=some v):∃ j,seqIndex? i xs.length=some j/\xs[j]?=some v/\j<xs.length/\-(xs.length:Int)<=i/\i<xs.length:=by
 unfold Ba at h;cases e:Fj xs.length i with
 | none=>rw [e] at h;cases h
 | some j=>
  rw [e] at h;obtain ⟨h1,h2,h3,h4⟩:=fW e;exact ⟨j,h1,h,h2,h3,h4⟩
def En {xs:List α}{v:α}(h:xs[j]?=some v):Ba xs (j:Int)=some v:=by
 have hj:j<xs.length:=(List.getElem?_eq_some_iff.mp h).1;have e:Fj xs.length (j:Int)=some j:=by
  unfold Fj;rw [gq (by omega),gq (by omega)];simp
 unfold Ba;rw [e];exact h
def SS (b:Expr):Prop:=∀ o i,subscripted b false o i=operate [o,i] (getItem o i)
def Cc (X:Cx)(r:R2):Prop:=
 ∀ (value slice:Expr) (pins:ZAz) (s:Shared) (σ:St) (H:Hp) (x y:V) (v u:Value) (Q:VK),Inv X pins σ H s->RelV x v->RelV y u->r x y H Q->
  subscripted slice false v u=operate [v,u] (getItem v u)->wpAny (model X.prog X.w) X.A (subscriptTail value slice v u) (EP X pins σ Q) X.xe s
def Et (X:Cx)(id:String)(r:V->List V->Hp->VK->Prop):Prop:=
 ∀ (pins:ZAz) (s:Shared) (σ:St) (H:Hp) (x:V) (xs:List V) (v:Value) (us:List Value) (Q:VK),Inv X pins σ H s->RelV x v->Vals xs us->r x xs H Q->
  wpAny (model X.prog X.w) X.A (call (.builtin id) (v::us)) (EP X pins σ Q) X.xe s
section
variable {a b:Expr}{ta tb:TE}
def Nr (K:ZAy):R2:=fun x y H Q=>∃ p xs i v,x=.ref p/\y=.int i/\AI K H p xs/\Ba xs i=some v/\Q v H
def Di (K:ZAy):R2:=fun x y H Q=>∃ p xs i v,x=.ref p/\y=.int i/\An K H p xs/\Ba xs i=some v/\Q v H
def lh:R2:=fun x y H Q=>∃ z i c,x=.str z/\y=.int i/\z.length<=sizeLine/\Ba z.cps.toList i=some c/\Q (.str ⟨#[c]⟩) H
def Ca:Cc X (Nr X.K):=by
 intro value slice pins s σ H x y v u Q I rx ry h hs;obtain ⟨p,xs,i,z,rfl,rfl,hq,he,q⟩:=h;cases rx;obtain ⟨t,rfl⟩:=ry;obtain ⟨A1,r,pl,hz⟩:=I.list hq;obtain ⟨j,h1,h2,h3,h4,h5⟩:=Rx he;obtain ⟨w,ew,Es⟩:=r.get h2;have hl:=r.length;have hn:=IK;have fin:EP X pins σ Q w s:=⟨z,H,I,Es,q⟩
 by_cases h0:0<=i
 ·have hj:i.toNat=j:=by
   rw [seqIndex_of h0 h5] at h1;exact B8 h1
  exact item_listR pl.isList h0 (by omega) (by rw [hj];simpa using ew) fin hs
 ·have hj:(i+(A1.toArray.size:Int)).toNat=j:=by
   rw [seqIndex_neg (by omega) h4] at h1;rw [BV,<- hl];exact B8 h1
  exact subscriptTail_builtinR (x:=w) pl.isList.typeIs slot_list_getitem.lookup
   (wpAny_getItem_list_neg (Q:=fun r s'=>r=w/\EP X pins σ Q r s') pl.isList (by omega) (by rw [BV] <;> omega) (by omega) (by rw [hj];simpa using ew) ⟨rfl,fin⟩) hs
def Ax:Cc X (Di X.K):=by
 intro value slice pins s σ H x y v u Q I rx ry h hs;obtain ⟨p,xs,i,z,rfl,rfl,hq,he,q⟩:=h;cases rx;obtain ⟨t,rfl⟩:=ry;obtain ⟨A1,r,pl,hz⟩:=I.tuple hq;obtain ⟨j,h1,h2,h3,h4,h5⟩:=Rx he;obtain ⟨w,ew,Es⟩:=r.get h2;have hl:=r.length;have hn:=IK;have fin:EP X pins σ Q w s:=⟨z,H,I,Es,q⟩;exact subscriptTail_builtinR (x:=w) pl.typeIs slot_tuple_getitem.lookup
  (getItem_tuple (j:=j) (Q:=fun r s'=>r=w/\EP X pins σ Q r s') pl (by omega) (by omega) (by rw [BV,<- hl];exact h1) (by simpa using ew) ⟨rfl,fin⟩) hs
def mO:Cc X lh:=by
 intro value slice pins s σ H x y v u Q I rx ry h hs;obtain ⟨z,i,c,rfl,rfl,hz,he,q⟩:=h;obtain ⟨t,rfl⟩:=rx;obtain ⟨t',rfl⟩:=ry;obtain ⟨j,h1,h2,h3,h4,h5⟩:=Rx he;have hl:z.cps.toList.length=z.length:=by simp [Str.length]
 rw [hl] at h1 h4 h5;have hn:=IK;exact tail_any (typeIs_str s z t) slot_str_getitem.lookup (getItem_str (c:=c) (by
  have e1:decide (i < -(2 ^ 63:Int))=false:=iB (by omega);have e2:decide (i>=2 ^ 63)=false:=iB (by omega);rw [e1,e2,Bool.or_false]) (by rw [h1];simpa using h2) ⟨.str ⟨#[c]⟩,H,I.tok _,⟨_,rfl⟩,q⟩) hs
def ve (A1:List Value)(n j:Nat)(u:Value):Obj.mapSeq (·.setIfInBounds j u) { cls:=.type "list", data:=.seq A1.toArray n }={ cls:=.type "list", data:=.seq (A1.set j u).toArray n }:=by
 simp [Obj.mapSeq]
theorem Inv.lst {pins:ZAz}{σ:St}{H:Hp}{s:Shared}{p:Addr}{xs:List V}(I:Inv X pins σ H s)(h:H p=some (.lst xs)):
  ∃ (A1:List Value) (n:Nat),Vals xs A1/\s.heap.get? p=some { cls:=.type "list", data:=.seq A1.toArray n }/\xs.length<=sizeLine:=by
 obtain ⟨z,A1,n,r,e⟩:=I.AG p _ h;exact ⟨A1,n,r,e,z⟩
def Inv.yz {p:Addr}{n':Nat}{f:Obj->Obj}(I:Inv X pins σ H s)(h:H p=some (.lst xs))
  (ho:s.heap.get? p=some { cls:=.type "list", data:=.seq A1.toArray n }) (hf:f { cls:=.type "list", data:=.seq A1.toArray n }={ cls:=.type "list", data:=.seq its'.toArray n' }) (r:Vals ys its') (hz:ys.length<=sizeLine) (t:Nat) :
  Inv X pins σ (upd H p (.lst ys)) { s with heap:=s.heap.update p f,toks:=t }:=by
 have e:(s.heap.update p f).get? p=some { cls:=.type "list", data:=.seq its'.toArray n' }:=by
  rw [M5 f ho (by rw [hf] <;> rfl),hf]
 refine I.write (x:=p) (e:=p) (by rw [h];trivial) (.inl rfl) (fun b u hb q=>(IB _ _ (Bj hb)).trans q) ⟨_,e⟩ ?_;exact ⟨hz,its',n',r,e⟩
def Pp:V->V->V->Hp->(Hp->Prop)->Prop:=fun o i v H Q=>∃ p xs k j,o=.ref p/\i=.int k/\H p=some (.lst xs)/\Fj xs.length k=some j/\Q (upd H p (.lst (xs.set j v)))
def set_list:Qm X Pp:=by
 intro pins s σ H o i v ov iv u Q I ro ri rv h;obtain ⟨p,xs,k,j,rfl,rfl,hp,hj,q⟩:=h;cases ro;obtain ⟨t,rfl⟩:=ri;obtain ⟨A1,n,r,ho,hz⟩:=I.lst hp;obtain ⟨h1,h2,h3,h4⟩:=fW hj;have hl:=r.length;have hn:=IK;have I':Inv X pins σ (upd H p (.lst (xs.set j v))) { s with heap:=s.heap.update p (Obj.mapSeq (·.setIfInBounds j u)) }:=
  I.yz hp ho (ve A1 n j u) (r.set rv j) (by rw [JO];exact hz) s.toks
 by_cases h0:0<=k
 ·have hk:k.toNat=j:=by
   rw [seqIndex_of h0 h4] at h1;exact B8 h1
  exact PySem.W.ki_setAt ho h0 (by omega) (by rw [BV,<- hl];exact h4) (by rw [hk];exact ⟨_,I',q⟩)
 ·have hk:(k+(A1.toArray.size:Int)).toNat=j:=by
   rw [seqIndex_neg (by omega) h3] at h1;rw [BV,<- hl];exact B8 h1
  exact PySem.W.ki_setBack ho (by omega) (by rw [BV,<- hl];exact h3) (by omega) (by rw [hk];exact ⟨_,I',q⟩)
def kD (lo hi:Option Int)(n:Nat):(sliceBounds lo hi none n).1=((HT.Cn n 0 lo:Nat):Int)/\(sliceBounds lo hi none n).2.1=((HT.Cn n n hi:Nat):Int)/\(sliceBounds lo hi none n).2.2=1:=by
 refine ⟨?_,?_,rfl⟩
 ·cases lo with
  | none=>simp [sliceBounds,HT.Cn]
  | some i=>
   simp only [sliceBounds,HT.Cn,ZAB,show (1:Int) > 0 by decide,pq]
   by_cases h:i<0
   ·simp only [h,pq] <;> omega
   ·simp only [h,uE] <;> omega
 ·cases hi with
  | none=>simp [sliceBounds,HT.Cn]
  | some i=>
   simp only [sliceBounds,HT.Cn,ZAB,show (1:Int) > 0 by decide,pq]
   by_cases h:i<0
   ·simp only [h,pq] <;> omega
   ·simp only [h,uE] <;> omega
def ko (A1:List Value)(lo hi:Option Int):slicePick A1.toArray lo hi none=((A1.drop (HT.Cn A1.length 0 lo)).take (HT.Cn A1.length A1.length hi - HT.Cn A1.length 0 lo)).toArray:=by
 obtain ⟨h1,h2,h3⟩:=kD lo hi A1.toArray.size;unfold slicePick;rw [h1,h2,h3];simp only [sliceRange_one,pick_run,BV] <;> rfl
def Yq (K:ZAy):V->Option Int->Option Int->Hp->VK->Prop:=fun x lo hi H Q=>∃ a xs,x=.ref a/\AI K H a xs/\∀ p,H p=none->Q (.ref p) (upd H p (.lst (KQ xs lo hi)))
def SH:OO X (Yq X.K):=by
 intro pins s σ H x v vl vu lo hi sl Q I rx hs pl pu h;obtain ⟨a,xs,rfl,hx,q⟩:=h;cases rx;obtain ⟨A1,r,ht,hz⟩:=I.list hx;have hlen:=r.length;refine ⟨"list", _,slot_list_getitem.lookup,ht.isList.typeIs,?_⟩;refine wpAny_getItem_list_slice ht.isList hs pl pu .none (by simp) ?_ (by rw [BV] <;> omega)
 rw [ko,<- hlen];refine ⟨.ref s.heap.objs.size,_,I.laid (t':=s.toks) (o:=.lst (KQ xs lo hi)) (fun b ob q=>Bi _ q) (Aj _) ?_,rfl,q _ (I.AG.fresh (Aj _))⟩;exact ⟨Em (uw xs lo hi) hz,_,0,(r.drop (HT.Cn xs.length 0 lo)).take (HT.Cn xs.length xs.length hi - HT.Cn xs.length 0 lo),C1 _ rfl⟩
def Cp:V->Bool
 | .A8=>true
 | .bl _=>true
 | .int _=>true
 | .str _=>true
 | _=>false
def DM:V->V->Bool
 | .A8,.A8=>true
 | .bl a,.bl b=>a == b
 | .bl a,.int b=>(if a then 1 else 0) == b
 | .int a,.bl b=>a == (if b then 1 else 0)
 | .int a,.int b=>a == b
 | .str a,.str b=>a == b
 | _,_=>false
def R4 (ry:RelV y u)(rx:RelV x v)(fy:Cp y=true)(fx:Cp x=true):SeqAt.EqAt A s u v (DM y x):=by
 cases y with
 | A8=>
  cases ry;cases x with
  | A8=>cases rx;exact SeqAt.EqAt.same _
  | bl b=>cases rx;exact SeqAt.EqAt.none_bool b
  | int b=>obtain ⟨t,rfl⟩:=rx;exact SeqAt.EqAt.none_int b t
  | str b=>obtain ⟨t,rfl⟩:=rx;exact SeqAt.EqAt.none_str b t
  | _=>exact absurd (show false=true from fx) Cd
 | bl a=>
  cases ry;cases x with
  | A8=>cases rx;exact SeqAt.EqAt.bool_none a
  | bl b=>cases rx;exact SeqAt.EqAt.bool_bool a b
  | int b=>obtain ⟨t,rfl⟩:=rx;exact SeqAt.EqAt.bool_int a b t
  | str b=>obtain ⟨t,rfl⟩:=rx;exact SeqAt.EqAt.bool_str a b t
  | _=>exact absurd (show false=true from fx) Cd
 | int a=>
  obtain ⟨t',rfl⟩:=ry;cases x with
  | A8=>cases rx;exact SeqAt.EqAt.int_none a t'
  | bl b=>cases rx;exact SeqAt.EqAt.int_bool a t' b
  | int b=>obtain ⟨t,rfl⟩:=rx;exact SeqAt.EqAt.int_int a t' b t
  | str b=>obtain ⟨t,rfl⟩:=rx;exact SeqAt.EqAt.int_str a t' b t
  | _=>exact absurd (show false=true from fx) Cd
 | str a=>
  obtain ⟨t',rfl⟩:=ry;cases x with
  | A8=>cases rx;exact SeqAt.EqAt.str_none a t'
  | bl b=>cases rx;exact SeqAt.EqAt.str_bool a t' b
  | int b=>obtain ⟨t,rfl⟩:=rx;exact SeqAt.EqAt.str_int a t' b t
  | str b=>obtain ⟨t,rfl⟩:=rx;exact SeqAt.EqAt.str_str a t' b t
  | _=>exact absurd (show false=true from fx) Cd
 | _=>exact absurd (show false=true from fy) Cd
def DC (x:V)(u:Value):Bool:=match u with
 | .none=>DM .A8 x
 | .bool b=>DM (.bl b) x
 | .int i _=>DM (.int i) x
 | .str z _=>DM (.str z) x
 | _=>false
def Vd (r:RelV y u)(f:Cp y=true):DC x u=DM y x:=by
 cases y with
 | A8=>cases r;rfl
 | bl b=>cases r;rfl
 | int i=>obtain ⟨t,rfl⟩:=r;rfl
 | str z=>obtain ⟨t,rfl⟩:=r;rfl
 | _=>exact absurd (show false=true from f) Cd
theorem Nl {x:V}:∀ {xs:List V}{us:List Value},Vals xs us->xs.all Cp=true->us.any (DC x)=xs.any fun y=>DM y x
 | _,_,.nil,_=>rfl
 | y::xs,u::us,.cons r t,f=>by
  rw [OB,FN] at f;rw [M6,M6,Vd r f.1,Nl t f.2]
theorem Ir {A:Around}{s:Shared}{x:V}{v:Value}(rx:RelV x v)(fx:Cp x=true):∀ {xs:List V}{us:List Value},Vals xs us->xs.all Cp=true->∀ u∈us,SeqAt.EqAt A s u v (DC x u)
 | _,_,.nil,_=>fun u hu=>by cases hu
 | y::xs,u::us,.cons r t,f=>fun u' hu=>by
  rw [OB,FN] at f;rcases List.mem_cons.mp hu with rfl | hu
  ·rw [Vd r f.1];exact R4 r rx f.1 fx
  ·exact Ir rx fx t f.2 u' hu
def Q2 (x:V)(xs:List V):Bool:=xs.any fun y=>DM y x
def GS (K:ZAy)(neg:Bool):R2:=fun x y H Q=>∃ p xs,y=.ref p/\(AI K H p xs∨An K H p xs)/\Cp x=true/\xs.all Cp=true/\Q (.bl (if neg then !Q2 x xs else Q2 x xs)) H
def GD:B2 X (compareOp .In) (GS X.K false):=by
 intro pins s σ H x y v u Q I rx ry h;obtain ⟨p,xs,rfl,hq,fx,fs,q⟩:=h;cases ry;rcases hq with hq | hq
 ·obtain ⟨A1,r,pl,hz⟩:=I.list hq;refine SeqAt.in_listAt (DC x) pl.isList (fun w hw=>Ir rx fx r fs w (by simpa using hw)) ⟨.bl _,H,I,rfl,?_⟩
  rw [show A1.toArray.any (DC x)=A1.any (DC x) by simp,Nl r fs];exact q
 ·obtain ⟨A1,r,pl,hz⟩:=I.tuple hq;refine SeqAt.in_tupleAt (DC x) pl (fun w hw=>Ir rx fx r fs w (by simpa using hw)) ⟨.bl _,H,I,rfl,?_⟩
  rw [show A1.toArray.any (DC x)=A1.any (DC x) by simp,Nl r fs];exact q
def OR:B2 X (compareOp .NotIn) (GS X.K true):=by
 intro pins s σ H x y v u Q I rx ry h;obtain ⟨p,xs,rfl,hq,fx,fs,q⟩:=h;cases ry;rcases hq with hq | hq
 ·obtain ⟨A1,r,pl,hz⟩:=I.list hq;refine SeqAt.notIn_listAt (DC x) pl.isList (fun w hw=>Ir rx fx r fs w (by simpa using hw)) ⟨.bl _,H,I,rfl,?_⟩
  rw [show A1.toArray.any (DC x)=A1.any (DC x) by simp,Nl r fs];exact q
 ·obtain ⟨A1,r,pl,hz⟩:=I.tuple hq;refine SeqAt.notIn_tupleAt (DC x) pl (fun w hw=>Ir rx fx r fs w (by simpa using hw)) ⟨.bl _,H,I,rfl,?_⟩
  rw [show A1.toArray.any (DC x)=A1.any (DC x) by simp,Nl r fs];exact q
def P2:C3 X (.builtin "len") (fun xs H Q=>∃ p ys,xs=[.ref p]/\(AI X.K H p ys∨An X.K H p ys)/\Q (.int ys.length) H):=by
 intro pins s σ H xs us Q I r h;obtain ⟨p,ys,rfl,hq,q⟩:=h;obtain ⟨u,rfl,rx⟩:=vals1 r;cases rx;have hn:=IK;rcases hq with hq | hq
 ·obtain ⟨A1,r',pl,hz⟩:=I.list hq;have hlen:=r'.length;exact Calls.call_len_list pl.isList (by simp only [BV] <;> omega) ⟨.int ys.length,H,I.tok _,⟨s.toks+1,by rw [BV,hlen]⟩,q⟩
 ·obtain ⟨A1,r',pl,hz⟩:=I.tuple hq;have hlen:=r'.length;exact len_tuple pl (by simp only [BV] <;> omega) ⟨.int ys.length,H,I.tok _,⟨s.toks+1,by rw [BV,hlen]⟩,q⟩
def dy:C3 X (.builtin "len") (fun xs H Q=>∃ z,xs=[.str z]/\z.length<=sizeLine/\Q (.int z.length) H):=by
 intro pins s σ H xs us Q I r h;obtain ⟨z,rfl,hz,q⟩:=h;obtain ⟨u,rfl,t,rfl⟩:=vals1 r;have hn:=IK;exact len_str (by omega) ⟨.int z.length,H,I.tok _,⟨_,rfl⟩,q⟩
def NY:C3 X (.type "list") (fun xs H Q=>∃ p ys,xs=[.ref p]/\(AI X.K H p ys∨An X.K H p ys)/\∀ l,H l=none->Q (.ref l) (upd H l (.lst ys))):=by
 intro pins s σ H xs us Q I r h;obtain ⟨p,ys,rfl,hq,q⟩:=h;obtain ⟨u,rfl,rx⟩:=vals1 r;cases rx;have fin:∀ (A1:List Value),Vals ys A1->ys.length<=sizeLine->∀ (h':Heap) (c':Nat),(∀ b o',s.heap.get? b=some o'->h'.get? b=some o')->
   h'.get? s.heap.objs.size=some { cls:=.type "list", dict:=none,data:=.seq A1.toArray c',slots:=#[] }->EP X pins σ Q (.ref s.heap.objs.size) { s with heap:=h' }:=fun A1 r' hz h' c' kp e=>
  ⟨.ref s.heap.objs.size,_,I.laid (t':=s.toks) kp (Aj _) (show Br X.prog X.w _ h' _ (.lst ys) from ⟨hz,A1,c',r',e⟩),rfl,q _ (I.AG.fresh (Aj _))⟩
 rcases hq with hq | hq
 ·obtain ⟨A1,r',pl,hz⟩:=I.list hq;have hlen:=r'.length;obtain ⟨o,ho,hc,n,hd⟩:=pl.isList;exact call_list_seq p (.inl rfl) ho hc hd (fun h' c' kp e=>fin A1 r' hz h' c' kp e) (by simp only [BV] <;> omega)
 ·obtain ⟨A1,r',pl,hz⟩:=I.tuple hq;have hlen:=r'.length;obtain ⟨o,ho,hc,n,hd⟩:=pl;exact call_list_seq p (.inr rfl) ho hc hd (fun h' c' kp e=>fin A1 r' hz h' c' kp e) (by simp only [BV] <;> omega)
def JI:C3 X (.type "tuple") (fun xs H Q=>∃ p ys,xs=[.ref p]/\((AI X.K H p ys/\∀ l,H l=none->Q (.ref l) (upd H l (.tup ys)))∨(An X.K H p ys/\Q (.ref p) H))):=by
 intro pins s σ H xs us Q I r h;obtain ⟨p,ys,rfl,h⟩:=h;obtain ⟨u,rfl,rx⟩:=vals1 r;cases rx;rcases h with ⟨hq,q⟩ | ⟨hq,q⟩
 ·obtain ⟨A1,r',pl,hz⟩:=I.list hq;have hlen:=r'.length;refine call_tuple_list pl.isList (fun h' kp=>?_) (by simp only [BV] <;> omega)
  have I1:Inv X pins σ H { s with heap:=h' }:=I.kept (t':=s.toks) kp
  have I2:Inv X pins σ (upd H h'.objs.size (.tup ys)) { s with heap:=h'.push { cls:=.type "tuple", data:=.seq A1.toArray } }:=
   I1.laid (t':=s.toks) (fun b o e=>Bi _ e) (Aj _) (show Br X.prog X.w _ _ _ (.tup ys) from ⟨hz,A1,r',⟨IsTup.new _ _,fun UM e'=>by rw [C1 _ rfl] at e';cases e';rfl⟩⟩)
  exact ⟨.ref h'.objs.size,_,I2,rfl,q _ (I1.AG.fresh (Aj _))⟩
 ·obtain ⟨A1,r',pl,hz⟩:=I.tuple hq;exact call_tuple_same pl ⟨.ref p,H,I,rfl,q⟩
def Jm (K:ZAy)(T:String)(x:V)(H:Hp):Prop:=match x with
 | .str _=>T="str"
 | .int _=>T="int"
 | .ref p=>(T="list" /\ ∃ xs,AI K H p xs)∨(T="tuple" /\ ∃ o,K.lookup p=some o/\o.cls=.type "tuple" /\ o.dict=none)∨
   (T="dict" /\ ((∃ A3,H p=some (.dK A3))∨∃ A3,H p=some (.dT A3)))∨(T="set" /\ ∃ S n,H p=some (.set S n))∨(T="tuple" /\ ∃ xs,H p=some (.tup xs))
 | _=>False
def Yi (I:Inv X pins σ H s)(r:RelV x v)(ty:Jm X.K T x H):
  s.TypeIs v T/\∀ a,v=.ref a->∃ ob,s.heap.get? a=some ob/\ob.dict=none:=by
 cases x with
 | str z=>
  obtain ⟨t,rfl⟩:=r;cases (show T="str" from ty);exact ⟨typeIs_str s z t,fun _ e=>nomatch e⟩
 | int i=>
  obtain ⟨t,rfl⟩:=r;cases (show T="int" from ty);exact ⟨typeIs_int s i t,fun _ e=>nomatch e⟩
 | ref p=>
  cases r;rcases ty with ⟨rfl,xs,hq⟩ | ⟨rfl,o,hk,hc,hd⟩ | ⟨rfl,hk⟩ | ⟨rfl,S,n,hk⟩ | ⟨rfl,xs,hk⟩
  ·obtain ⟨A1,_,pl,_⟩:=I.list hq;refine ⟨pl.isList.typeIs,fun a e=>?_⟩;cases e;obtain ⟨o,n,e,c,hd,_⟩:=pl;exact ⟨o,e,hd⟩
  ·refine ⟨⟨o,I.CH p o hk,hc⟩,fun a e=>?_⟩;cases e;exact ⟨o,I.CH _ o hk,hd⟩
  ·have z:∃ o,s.heap.get? p=some o/\o.ExactDict:=by
    rcases hk with ⟨A3,hk⟩ | ⟨A3,hk⟩
    ·obtain ⟨_,_,_,_,o,_,_,e,ex,_⟩:=I.AG p _ hk;exact ⟨o,e,ex⟩
    ·obtain ⟨_,_,_,_,o,_,_,e,ex,_⟩:=I.AG p _ hk;exact ⟨o,e,ex⟩
   obtain ⟨o,e,ex⟩:=z;refine ⟨⟨o,e,ex.1⟩,fun a e2=>?_⟩;cases e2;exact ⟨o,e,ex.2.1⟩
  ·obtain ⟨o,_,_,_,e,ex,_⟩:=I.AG p _ hk;refine ⟨⟨o,e,ex.1⟩,fun a e2=>?_⟩;cases e2;exact ⟨o,e,ex.2.1⟩
  ·obtain ⟨_,A1,_,⟨o,e,c,_⟩,dn⟩:=I.AG p _ hk;refine ⟨⟨o,e,c⟩,fun a e2=>?_⟩;cases e2;exact ⟨o,e,dn o e⟩
 | _=>exact False.elim ty
def Oo (K:ZAy)(T:String)(r:V->List V->Hp->VK->Prop)(to:TE):TE:=fun σ H Q=>to σ H fun x H1=>Jm K T x H1/\r x [] H1 Q
def FK (K:ZAy)(T:String)(r:V->List V->Hp->VK->Prop)(to:TE)(t:TA):TE:=fun σ H Q=>to σ H fun x H1=>Jm K T x H1/\t σ H1 fun xs H2=>r x xs H2 Q
variable {o e:Expr}{es:List Expr}{to:TE}{t:TA}{name:Str}{apos BQ:Pos}{id:String}{r:V->List V->Hp->VK->Prop}
end
def LB (X:Cx)(id:String)(r:V->List V->Hp->VK->Prop):Prop:=
 ∀ (pins:ZAz) (s:Shared) (σ:St) (H:Hp) (x:V) (xs:List V) (v:Value) (us:List Value) (Q:VK),Inv X pins σ H s->RelV x v->Vals xs us->r x xs H Q->
  wpAny (model X.prog X.w) X.A (call (.builtin id) (v::us)) (EP X pins σ Q) X.xe s
def Vals.one:∀ {x:V}{us:List Value},Vals [x] us->∃ u,us=[u]/\RelV x u
 | _,_,.cons r .nil=>⟨_,rfl,r⟩
def Vals.two:∀ {x y:V}{us:List Value},Vals [x,y] us->∃ u v,us=[u,v]/\RelV x u/\RelV y v
 | _,_,_,.cons r (.cons q .nil)=>⟨_,_,rfl,r,q⟩
def Vals.zero:∀ {us:List Value},Vals [] us->us=[]
 | _,.nil=>rfl
theorem Vals.dropLast (h:Vals xs us):Vals xs.dropLast us.dropLast:=by
 induction h with
 | nil=>exact .nil
 | cons r t ih=>
  cases t with
  | nil=>exact .nil
  | cons q t'=>exact .cons r ih
theorem Vals.eraseIdx:∀ {xs:List V}{us:List Value}(i:Nat),Vals xs us->Vals (xs.eraseIdx i) (us.eraseIdx i)
 | _,_,_,.nil=>.nil
 | _,_,0,.cons _ t=>t
 | _,_,i+1,.cons r t=>.cons r (Vals.eraseIdx i t)
def t7 (l:List α):l.eraseIdx (l.length - 1)=l.dropLast:=by
 induction l with
 | nil=>rfl
 | cons a r ih=>
  cases r with
  | nil=>rfl
  | cons b r=>
   have e:(a::b::r).length - 1=((b::r).length - 1)+1:=by
    have h1:(a::b::r).length=r.length+2:=rfl;have h2:(b::r).length=r.length+1:=rfl;omega
   rw [e,zy,ih]
   all_goals rfl
theorem fZ {α:Type}:∀ (l:List α) (i:Nat),(l.eraseIdx i).length<=l.length
 | [],_=>Aj _
 | _::_,0=>MB _
 | _::r,i+1=>Nat.succ_le_succ (fZ r i)
section
variable {l b:Addr}{zs:List V}
def Inv.Kv {f:Array Value->Array Value}(I:Inv X pins σ H s)(hH:H l=some (.lst xs))
  (e:s.heap.get? l=some { cls:=.type "list", data:=.seq A1.toArray n }) (hf:f A1.toArray=its'.toArray) (hv:Vals ys its') (hz:ys.length<=sizeLine) :
  Inv X pins σ (upd H l (.lst ys)) { s with heap:=s.heap.update l (Obj.mapSeq f),toks:=t' }:=by
 have q:=PySem.IsL.update e f;rw [hf] at q;refine I.write (x:=l) (e:=l) (by rw [hH];exact trivial) (.inl rfl) (fun b' u hb hu=>(IB s.heap (Obj.mapSeq f) (Bj hb)).trans hu) ⟨_,q⟩ ?_;exact ⟨hz,its',_,hv,q⟩
def Inv.YZ (I:Inv X pins σ H s)(hv:Vals ys A1)(hz:ys.length<=sizeLine):
  Inv X pins σ (upd H s.heap.objs.size (.lst ys)) { s with heap:=s.heap.push { cls:=.type "list", data:=.seq A1.toArray },toks:=t' }:=
 I.laid (fun _ _ q=>Bi _ q) (Aj _) ⟨hz,A1,0,hv,C1 _ rfl⟩
theorem Inv.fresh (I:Inv X pins σ H s):H s.heap.objs.size=none:=I.AG.fresh (Aj _)
def Inv.HX (I:Inv X pins σ H s)(hH:H l=some (.lst xs)):xs.length<=sizeLine/\∃ (A1:List Value) (n:Nat),Vals xs A1/\xs.length=A1.length/\s.heap.get? l=some { cls:=.type "list", data:=.seq A1.toArray n }:=by
 obtain ⟨z,A1,n,r,e⟩:=I.AG l _ hH;exact ⟨z,A1,n,r,r.length,e⟩
def pM (h:n<=sizeLine):Builtin.List.listTooLong n=false:=by
 unfold Builtin.List.listTooLong;exact iB (by omega)
def OQ:V->List V->Hp->VK->Prop:=fun x vs H Q=>∃ l xs y,x=.ref l/\vs=[y]/\H l=some (.lst xs)/\xs.length<sizeLine/\Q .A8 (upd H l (.lst (xs++[y])))
def b5:LB X "list.append" OQ:=by
 intro pins s σ H x vs v us Q I rx rv h;obtain ⟨l,xs,y,rfl,rfl,hH,hz,q⟩:=h;cases rx;obtain ⟨u,rfl,ru⟩:=rv.one;obtain ⟨z,A1,n,r,hl,e⟩:=I.HX hH;refine nC F.slot_list_append ⟨_,e,rfl⟩ F.entry_list_append (F.args_list_append_2 _ _) (PySem.list_append l A1.toArray n u (by rw [BV];omega)) ⟨e,?_⟩;refine ⟨.A8,_,I.Kv (its':=A1++[u]) hH e (by simp) (r.append (.cons ru .nil)) ?_,rfl,q⟩;rw [Bo,IF];omega
def VZ:V->List V->Hp->VK->Prop:=fun x vs H Q=>∃ l b xs zs,x=.ref l/\vs=[.ref b]/\H l=some (.lst xs)/\H b=some (.lst zs)/\xs.length+zs.length<=sizeLine/\Q .A8 (upd H l (.lst (xs++zs)))
def p7:LB X "list.extend" VZ:=by
 intro pins s σ H x vs v us Q I rx rv h;obtain ⟨l,b,xs,zs,rfl,rfl,hH,hB,hz,q⟩:=h;cases rx;obtain ⟨u,rfl,ru⟩:=rv.one;cases ru;obtain ⟨z,A1,n,r,hl,e⟩:=I.HX hH;obtain ⟨z2,BC,n2,r2,DN,e2⟩:=I.HX hB;have hsz:A1.toArray.size+BC.toArray.size<=sizeLine:=by rw [BV,BV];omega
 have iG:¬ (!A1.toArray.isEmpty && Builtin.List.listTooLong (A1.toArray.size+BC.toArray.size))=true:=by
  rw [pM hsz,WY];exact Cd
 refine nC F.slot_list_extend ⟨_,e,rfl⟩ F.entry_list_extend (F.args_list_extend_2 _ _)
  (AutoSeq1.list_extend_list_list_0 l A1.toArray n b BC.toArray n2 iG (by rw [BV];omega) (by omega)) ⟨e,e2,?_⟩
 refine ⟨.A8,_,I.Kv (its':=A1++BC) hH e (by simp) (r.append r2) ?_,rfl,q⟩;rw [Bo];omega
def Vk:V->List V->Hp->VK->Prop:=fun x vs H Q=>∃ l xs y,x=.ref l/\vs=[]/\H l=some (.lst xs)/\xs[xs.length - 1]?=some y/\Q y (upd H l (.lst xs.dropLast))
def wB:LB X "list.pop" Vk:=by
 intro pins s σ H x vs v us Q I rx rv h;obtain ⟨l,xs,y,rfl,rfl,hH,hy,q⟩:=h;cases rx;have NP:=rv.zero;subst NP;obtain ⟨z,A1,n,r,hl,e⟩:=I.HX hH;obtain ⟨u,hu,ru⟩:=r.get hy;have qI:A1.toArray[A1.toArray.size - 1]?=some u:=by
  show A1.toArray[A1.length - 1]?=some u;rw [<- fg,<- hl];exact hu
 refine nC F.slot_list_pop ⟨_,e,rfl⟩ F.entry_list_pop (F.args_list_pop_1 _) (MeetsSeq.list_pop_last l A1.toArray n u qI (by rw [BV];omega)) ⟨e,?_⟩;refine ⟨y,_,I.Kv (its':=A1.dropLast) hH e ?_ r.dropLast ?_,ru,q⟩
 ·show A1.toArray.eraseIdxIfInBounds (A1.toArray.size - 1)=A1.dropLast.toArray;rw [BV,zx,t7]
 ·rw [List.length_dropLast];omega
def Us:V->List V->Hp->VK->Prop:=fun x vs H Q=>∃ l xs,x=.ref l/\vs=[]/\H l=some (.lst xs)/\Q .A8 (upd H l (.lst []))
def xy:LB X "list.clear" Us:=by
 intro pins s σ H x vs v us Q I rx rv h;obtain ⟨l,xs,rfl,rfl,hH,q⟩:=h;cases rx;have NP:=rv.zero;subst NP;obtain ⟨z,A1,n,r,hl,e⟩:=I.HX hH;refine nC F.slot_list_clear ⟨_,e,rfl⟩ F.entry_list_clear (F.args_list_clear_1 _) (AutoSeq1.list_clear_list_0 l A1.toArray n (by rw [BV];omega)) ⟨e,?_⟩;exact ⟨.A8,_,I.Kv (its':=[]) (ys:=[]) hH e rfl .nil (CD _),rfl,q⟩
def fK:R2:=fun x y H Q=>∃ l b xs zs,x=.ref l/\y=.ref b/\H l=some (.lst xs)/\H b=some (.lst zs)/\xs.length+zs.length<=sizeLine/\∀ p,H p=none->Q (.ref p) (upd H p (.lst (xs++zs)))
def SD:B2 X (binaryOp .Add) fK:=by
 intro pins s σ H x y v u Q I rx ry h;obtain ⟨l,b,xs,zs,rfl,rfl,hH,hB,hz,q⟩:=h;cases rx;cases ry;obtain ⟨z,A1,n,r,hl,e⟩:=I.HX hH;obtain ⟨z2,BC,n2,r2,DN,e2⟩:=I.HX hB;refine PySem.P.add_list e e2 ?_ (by rw [BV,BV];omega);have ea:A1.toArray++BC.toArray=(A1++BC).toArray:=by simp
 rw [ea];exact ⟨.ref _,_,I.YZ (t':=s.toks) (r.append r2) (by rw [Bo];omega),rfl,q _ I.fresh⟩
variable {prog:Program}{w:World}{E:Value->Shared->Prop}
set_option maxRecDepth 100000 in
end
end L2
namespace bA
open PySem.W PySem.Calls
variable {h:Heap}{l:OpenLaw}{n:Nat}{prog q:Program}
def wU {P:Params}:∀ (ns:List Int) (vs:List Value),WellAll P h vs (ns.map WData.int)->IntsAre vs ns:=by
 intro ns
 induction ns with
 | nil=>
  intro vs w;rw [Ek] at w;cases w;exact .nil
 | cons n ns ih=>
  intro vs w;rw [Ac] at w;cases w with
  | cons a b=>
   cases a;exact .cons _ _ (ih _ b)
def pD (hn:l.most=some n){P:Params}{args:List WData}{vals:List Value}
  (IP:l.row.toRowW.claim.pre args=true) (Vq:WellAll P h vals args) :
  ∃ a vs ns,vals=[Value.ref a]/\args=[WData.list (ns.map WData.int)]/\h.get? a=some { cls:=.type "list", data:=.seq vs.toArray }/\IntsAre vs ns/\ns.length<=n:=by
 have iN:WShape.hasAll [] args [.list .int]=true:=(pre_splitW IP).1;have hc:l.pre.holds [] { args:=args }=true:=(pre_splitW IP).2;obtain ⟨d,r,rfl,h1,h2⟩:=hasAllW_cons iN;obtain rfl:=hasAllW_nil h2;obtain ⟨xs,rfl,h3⟩:=hasW_list h1;obtain ⟨ns,rfl⟩:=items_int h3;have hlen:ns.length<=n:=by
  unfold OpenLaw.pre at hc;have h4:(WTm.not (.lt (.lit (.int (n:Int))) (.len (.arg 0)))).holds [] { args:=[.list (ns.map .int)] }=true:=by
   have h4:=(holds_andW hc).1;rw [hn] at h4;exact h4
  have h5:=condW_of h4 (w_not (w_lt w_lit (w_len_list (w_arg rfl))));rw [A9] at h5;refine Nat.le_of_not_lt fun q=>?_;have q':(n:Int)<((ns.length:Nat):Int):=by omega
  first
   | (rw [hJ q'] at h5;exact absurd h5 (by decide))
   | (simp at h5;omega)
 cases Vq with
 | cons w1 w2=>
  cases w2;cases w1 with
  | list ho JB=>exact ⟨_,_,ns,rfl,rfl,ho,wU ns _ JB,hlen⟩
def uT (l:OpenLaw)(args:List WData):l.row.toRowW.claim.post args (.bool true) args=true:=
 postW_of (r:=l.row.toRowW) (X:=(true == true))
  (show WShape.has [] (.bool true) .bool=true by first | rfl | decide | simp [WShape.has,WShape.arms,WShape.armsAll])
  (show (WTm.eq .res (.lit (.bool true))).value [] { args:=args,res:=some (.bool true),after:=args }=some (.bool (true == true)) from w_eq_bool (w_res rfl) w_lit) rfl
def xk {loose:List Str}{XP:(ZB0)->Heap->Prop}{YP:World->Heap->Prop}{d:DefRec}
  (hn:l.most=some n) (N6:d.params.defaults=[])
  (call:∀ (w:World) (s₀ s₁:Shared) (mg mb:ZB0) (fa:Addr) (o:Obj) (pm cd doc:Value) (a:Addr) (vs:List Value) (ns:List Int),
   Ground q loose [] XP w s₀ mg mb s₁.heap->YP w s₁.heap->
   s₁.heap.get? fa=some o->o.data=.func (docDef d.name d.params d.body d.scope pm cd doc)->s₁.heap.CodeRec cd d.name->mg d.name=some (.ref fa)->
   s₁.heap.get? a=some { cls:=.type "list", data:=.seq vs.toArray }->IntsAre vs ns->ns.length<=n->s₁.gens=#[]->
   codeAny (model l.prog w) callerA (.call (.ref fa) ⟨[.ref a],[]⟩) (fun r s'=>r=.ok (.ret (.bool true))/\OldK s₁.heap s'.heap/\s'.os=s₁.os/\AllBare s'.gens) s₁) :
  WalkO q loose XP YP l.row.toRowW d [] (fun f vs=>PySem.call f vs):=by
 intro w s₀ s₁ mg mb G Y fa o pm cd doc dV kV ho hd G2 hD Nt hg args vals as IP ZAs hrd Vq hlo;obtain rfl:dV=.none:=Dflts.none hD N6;obtain rfl:kV=.none:=Dflts.noKw hD;obtain ⟨a,vs,ns,rfl,rfl,Rh,hints,hlen⟩:=pD hn IP Vq;refine enter_call (rM (call w s₀ s₁ mg mb fa o pm cd doc a vs ns G Y ho (fd_plain hd) G2 Nt Rh hints hlen hg) fun r s' hq=>?_);obtain ⟨rfl,h2,h3,h4⟩:=hq;exact ⟨.inl ⟨.bool true,.bool true,[],rfl,fun _=>rfl,.bool true,uT l _,fun _=>⟨List.Pairwise.nil,fun _ hm=>(nomatch hm)⟩⟩,h2,h3,h4⟩
end bA
namespace L2
variable {w:World}{mg:ZB0}{fd:FuncData}{qual x:Str}{sp:Sp}{loose ps:List Str}{X:Cx}{f:Addr}{A B:Prop}
theorem dB:∀ {vs:List Value}{ns:List Int},IntsAre vs ns->Vals (ns.map V.int) vs
 | _,_,.nil=>.nil
 | _,_,.cons n t h=>.cons ⟨t,rfl⟩ (dB h)
def V4 (H:Hp):Prop:=∀ b,H b=none∨∃ o xs,H b=some (.C8 o (.lst xs))
def kR {P:Program}{K:ZAy}{mb:ZB0}{CX:Fl}{k:Nat}{fa a:Addr}{s₁:Shared}{vs:List Value}{ns:List Int}
  (KX:K.In s₁.heap) (LW:s₁.heap.Ns mainGlobals mg) (hb:s₁.heap.Ns builtinsNs mb) (xG:∀ x:Str,x ≠ "__name__" -> mb x=bootBuiltins x) (qK:s₁.heap.NoLimit) (hg:s₁.gens=#[])
  (ha:s₁.heap.get? a=some { cls:=.type "list", data:=.seq vs.toArray }) (hi:IntsAre vs ns) (hl:ns.length<=sizeLine) (hr:BO k callerA)
  (F:∀ base:Heap,K.In base->base.Ns mainGlobals mg->D2 P w K mg base CX k fa fd [x] sp) (rl:∀ (s:Shared) (u:Value),BindsTo s fd ⟨[u],[]⟩ [(x,u)])
  (GJ:∀ H:Hp,V4 H->AI K H a (ns.map V.int)->sp [.ref a] H (fun v _=>v=.bl true) fun _ _ _=>False)
  (TH:∀ H e s',CX [] H s₁ (fun _ _ _=>False) e s'->False) :
  codeAny (model P w) callerA (.call (.ref fa) ⟨[.ref a],[]⟩) (fun r s'=>r=.ok (.ret (.bool true))/\OldK s₁.heap s'.heap/\s'.os=s₁.os/\AllBare s'.gens) s₁:=by
 have rv:=dB hi;have lQ:=hi.length
 -- from an abstract heap in ZAw nothing but GG c9 may be tracked
 have core:∀ H:Hp,V4 H->AI K H a (ns.map V.int)->Bk P w H s₁.heap->(∀ b,H b≠none->b=a)->(H a≠none->K.lookup a=none)->
   codeAny (model P w) callerA (.call (.ref fa) ⟨[.ref a],[]⟩) (fun r s'=>r=.ok (.ret (.bool true))/\OldK s₁.heap s'.heap/\s'.os=s₁.os/\AllBare s'.gens) s₁:=by
  intro H hO hS AG hA hK;have Zm:∀ {b:Addr}{o:Obj},s₁.heap.get? b=some o->H b=none->(HM s₁.heap H).get? b=some o:=fun e n=>kP e n;have N1:∀ {b:Addr}{o:Obj}{es:Array DictEntry}{ep:Nat},s₁.heap.get? b=some o->o.data=.dict es ep->H b=none:=fun {b o es ep} e d=>by
   cases q:H b with
   | none=>rfl
   | some u=>
    have e':b=a:=hA b (by rw [q];simp);subst e';rw [ha] at e;cases e;have d':Data.seq vs.toArray _=Data.dict es ep:=d;cases d'
  have Q4:∀ {b:Addr}{m:ZB0},s₁.heap.Ns b m->(HM s₁.heap H).Ns b m:=fun {b m} ⟨o,es,ep,e,d,r⟩=>⟨o,es,ep,Zm e (N1 e d),d,r⟩;have Xl:K.In (HM s₁.heap H):=fun b o e=>Zm (KX b o e) (by
   cases q:H b with
   | none=>rfl
   | some u=>
    have e':b=a:=hA b (by rw [q];simp);subst e';rw [hK (by rw [q];simp)] at e;cases e)
  have hM:Mod K mg (HM s₁.heap H):=⟨Xl,Q4 LW,⟨mb,Q4 hb,xG⟩,let ⟨mc,h1,h2⟩:=qK;⟨mc,Q4 h1,h2⟩⟩;have e0:JY P w K mg (HM s₁.heap H) callerA [] s₁ H:=⟨rfl,hM,fun b o e=>pY e,gP (xu _ _),trivial,fun b hb=>absurd (show b∈([]:List Addr) from hb) (by simp),AG,.of_eq hg⟩;refine rM ((F _ Xl (Q4 LW)).run callerA [] s₁ H ⟨[.ref a],[]⟩ [.ref a] [.ref a] _ _ hr e0 (rl s₁ (.ref a)) (.cons rfl .nil) (GJ H hO hS)) fun r s' h=>?_;cases r with
  | error e=>exact (TH H e s' h).elim
  | ok fl=>
   cases fl with
   | next=>exact False.elim h
   | brk=>exact False.elim h
   | cont=>exact False.elim h
   | ret u=>
    obtain ⟨v,H',os,bare,un,jt,r',q⟩:=h;have q':v=.bl true:=q;subst q';obtain rfl:u=Value.bool true:=r';refine ⟨rfl,OldK.of_keep fun b o e=>?_,os,bare⟩;cases q:H b with
    | none=>exact un.keep b o e q (by intro z;exact absurd (show b∈([]:List Addr) from z) (by simp)) (by simp)
    | some u=>
     rcases hO b with z | ⟨ob,xs,z⟩
     ·rw [q] at z;cases z
     ·have z2:=un.G4 b ob _ z;obtain ⟨e1,_⟩:=AG b _ z;obtain ⟨e2,_⟩:=jt b _ z2;rw [e] at e1;cases e1;exact e2
 cases hk:K.lookup a with
 | some o=>
  -- GG c9 is one of GG ZAT own objects
  have e:=KX a o hk;rw [ha] at e;cases e;refine core (fun _=>none) (fun _=>.inl rfl) (.inr ⟨_,vs.toArray,_,hk,rfl,rfl,rfl,by rw [BV,lQ];exact hl,by simpa using rv⟩) (fun b u z=>by have z':(none:Option HO)=some u:=z;cases z') (fun b z=>absurd rfl z) fun z=>absurd rfl z
 | none=>
  refine core (fun b=>if b=a then some (.C8 { cls:=.type "list", data:=.seq vs.toArray } (.lst (ns.map V.int))) else none) (fun b=>?_) (.inl (.inr ⟨{ cls:=.type "list", data:=.seq vs.toArray },gq rfl⟩)) (fun b u z=>?_) (fun b z=>?_) fun _=>hk
  ·by_cases hb:b=a
   ·exact .inr ⟨_,_,gq hb⟩
   ·exact .inl (gg hb)
  ·by_cases hb:b=a
   ·have z':=(gq hb).symm.trans z;cases z';subst hb;exact ⟨ha,by rw [A9];exact hl,vs,_,rv,ha⟩
   ·have z':=(gg hb).symm.trans z;cases z'
  ·by_cases hb:b=a
   ·exact hb
   ·exact absurd (gg hb) z
def mV {l:PySem.W.OpenLaw}{n k:Nat}{q:Program}{XP:(ZB0)->Heap->Prop}{YP:World->Heap->Prop}{d:DefRec}{K:Params->ZAy}{CX:World->Fl}{sp:World->Sp}
  (hn:l.most=some n) (EH:n<=sizeLine) (N6:d.params.defaults=[]) (hr:BO k callerA)
  (hY:∀ (w:World) (h:Heap),YP w h->(K w.params).In h)
  (F:∀ (w:World) (mg:ZB0) (fa:Addr) (h:Heap),(K w.params).In h->h.Ns mainGlobals mg->mg d.name=some (.ref fa)->
   ∃ fd:FuncData,(∀ (s:Shared) (u:Value),BindsTo s fd ⟨[u],[]⟩ [(x,u)])/\
    ∀ base:Heap,(K w.params).In base->base.Ns mainGlobals mg->D2 l.prog w (K w.params) mg base (CX w) k fa fd [x] (sp w))
  (GJ:∀ (w:World) (H:Hp) (a:Addr) (ns:List Int),ns.length<=n->V4 H->AI (K w.params) H a (ns.map V.int)->sp w [.ref a] H (fun v _=>v=.bl true) fun _ _ _=>False)
  (TH:∀ (w:World) (H:Hp) (s:Shared) (e:Value) (s':Shared),CX w [] H s (fun _ _ _=>False) e s'->False) :
  PySem.W.WalkO q loose XP YP l.row.toRowW d [] (fun f vs=>PySem.call f vs):=by
 refine bA.xk hn N6 fun w s₀ s₁ mg mb fa o pm cd doc a vs ns G Y ho hd G2 Nt Rh hints hlen hg=>?_;have KX:=hY w _ Y;obtain ⟨fd,hb,hF⟩:=F w mg fa _ KX G.T.g Nt;exact kR KX G.T.g G.T.b G.T.builtins G.T.nolimit hg Rh hints (Em hlen EH) hr hF hb (fun H hO hS=>GJ w H a ns hlen hO hS) fun H e s'=>TH w H s₁ e s'
def Mb (s:Stmt):Arguments:=match s with
 | .FunctionDef _ a _ _ _ _ _ _ _ _=>a
 | _=>{ posonlyargs:=[],args:=[],vararg:=none,kwonlyargs:=[],kw_defaults:=[],kwarg:=none,defaults:=[] }
def Jz (s:Stmt):List Stmt:=match s with
 | .FunctionDef _ _ b _ _ _ _ _ _ _=>b
 | _=>[]
def AZ (s:Stmt):Scope:=match s with
 | .FunctionDef _ _ _ _ _ _ sc _ _ _=>sc
 | _=>{ kind:=.function,names:=[],isGenerator:=false,isCoroutine:=false }
abbrev FD:Fl:=fun _ _ _ _ _ _=>False
abbrev E0:XK:=fun _ _ _=>False
def Pa:Passes FD X E0:=fun _ _ _ _ _ _ _ h=>h.elim
structure AO (K:ZAy) (x qual:Str) (st:Stmt) (f:Addr) (fd:FuncData):Prop where
 ex:∃ (oc:Value) (od:Option Addr) (kV doc pm:Value) (an:Option Addr) (Ab ct:Value) (JA:Array (Option Value)),
  fd=PySem.W.fnOf x qual (Mb st) (Jz st) (AZ st) .none kV doc pm an Ab ct/\K.lookup f=some ⟨oc,od,.func fd,JA⟩/\PySem.W.codeIn K Ab qual=true
 kp:PySem.W.keepIn K (.ref f)=true
section
variable {P:Program}{K:ZAy}{base:Heap}
def AO.ok {st:Stmt}{N:List Str}{k:Nat}(F:AO K x qual st f fd)(S:B6 N ps (AZ st))(len:∀ vs H Q E,sp vs H Q E->vs.length=ps.length)
  (My:∀ (Ab:Value) (A:Around) (outer:List Env) (s:Shared) (H:Hp) (vs:List V) (Q:VK) (E:XK),BO k (A.deeper (envOfC qual (AZ st) s.heap.objs.size f Ab))->sp vs H Q E->
   ∃ t,Dy (K9 FD P w K mg base N qual (AZ st) f Ab A outer s H E).Mm (Jz st) t/\t { nx:=fun _ H'=>Q .A8 H',rt:=Q } (start N vs) H):D2 P w K mg base FD (k+1) f fd ps sp:=by
 obtain ⟨oc,od,kV,doc,pm,an,Ab,ct,JA,rfl,lk,G2⟩:=F.ex;refine v9 lk G2 S len fun A outer s H vs Q E hr GJ=>?_;obtain ⟨t,h,q⟩:=My Ab A outer s H vs Q E hr GJ;exact ⟨t,h.Mm,q⟩
def AO.binds {st:Stmt}(F:AO K x qual st f fd)
  (h:∀ (kV doc pm:Value) (an:Option Addr) (Ab ct:Value) (us:List Value),us.length=ps.length->bindArgs (PySem.W.fnOf x qual (Mb st) (Jz st) (AZ st) .none kV doc pm an Ab ct) ⟨us,[]⟩=pure (ps.zip us)):Binds K fd ps []:=by
 obtain ⟨oc,od,kV,doc,pm,an,Ab,ct,JA,rfl,lk,G2⟩:=F.ex;exact .all (h kV doc pm an Ab ct)
def ka {st:Stmt}{oc:Value}{od an:Option Addr}{JA:Array (Option Value)}{kV doc pm Ab ct:Value}(l:K.lookup f=some ⟨oc,od,.func (PySem.W.fnOf x qual (Mb st) (Jz st) (AZ st) .none kV doc pm an Ab ct),JA⟩)
  (c:PySem.W.codeIn K Ab qual=true) (k:PySem.W.keepIn K (.ref f)=true):AO K x qual st f (PySem.W.fnOf x qual (Mb st) (Jz st) (AZ st) .none kV doc pm an Ab ct):=⟨⟨oc,od,kV,doc,pm,an,Ab,ct,JA,rfl,l,c⟩,k⟩
end
def Cb {A:Around}{k:Nat}(hr:BO k A):A.units+1<cLine:=RG (Nat.add_le_add_left (by decide:1<=64) _) hr.units
def TM (h:B):if false=true then A else B:=by
 rw [gg Cd];exact h
def eO (h:A):if true=true then A else B:=by
 rw [gq rfl];exact h
def CM {c:Prop}[Decidable c](h1:c->A)(h2:¬ c->B):if c then A else B:=by
 by_cases h:c
 ·rw [gq h];exact h1 h
 ·rw [gg h];exact h2 h
def AJ (H H':Hp):Prop:=∀ b o,H b=some o->H' b=some o
def AJ.refl (H:Hp):AJ H H:=fun _ _ h=>h
def AJ.trans {H H1 H2:Hp}(a:AJ H H1)(b:AJ H1 H2):AJ H H2:=fun c o h=>b c o (a c o h)
end L2
set_option maxHeartbeats 4000000
namespace L2
variable {α κ:Type}{A3:List (List Key×V)}{o:Option V}{d' u v:Value}{d y:V}{w:World}{H H' H1 H2 H4:Hp}{xs:List (List Key×Addr×Value)}{C a acc b it n:Addr}{h h' h1:Heap}{X Y:Cx}{pins:ZAz}{ws σ:St}{s s2 s4:Shared}{A:Around}{E Q:Value->Shared->Prop}{i j n0 t' tk:Nat}{prog:Program}{env:Env}{c e elt tg value:Expr}{Dv pos px py:Pos}{td te tv:TE}{outer scope:Scope}{cl closure:List (Str×Addr)}{qual x z:Str}{ce:Option Str}{es ifs:List Expr}{R:Result->Shared->Prop}{js:List Nat}{tt:TT}{J:It}{tn:Nat->Heap->Prop}{wi:TI}{CW:It->St->Hp->Addr->VK->Prop}{N:List Str}{ys:List V}{A1:List Value}
section
variable [DecidableEq κ]
def DY (A3:List (κ×V))(k:κ):Option V:=(A3.find? fun kv=>decide (kv.1=k)).map (·.2)
def putK (A3:List (κ×V))(k:κ)(v:V):List (κ×V):=
 if (A3.any fun kv=>decide (kv.1=k))=true then A3.map (fun kv=>if kv.1=k then (kv.1,v) else kv) else A3++[(k,v)]
def N7 {p:κ×V}{r:List (κ×V)}{k:κ}(e:p.1=k):DY (p::r) k=some p.2:=by simp [DY,OC,e]
def LK {p:κ×V}{r:List (κ×V)}{k:κ}(e:¬ p.1=k):DY (p::r) k=DY r k:=by simp [DY,OC,e]
theorem OU (k:κ):∀ A3:List (κ×V),(A3.any fun kv=>decide (kv.1=k))=(DY A3 k).isSome
 | []=>rfl
 | p::r=>by
  rw [M6]
  by_cases e:p.1=k
  ·simp only [N7 e,hJ e,fk,ZAC]
  ·rw [LK e,iB e,fi];exact OU k r
def VI (A3:List (κ×V))(k:κ)(v:V):(putK A3 k v).length<=A3.length+1:=by
 unfold putK;split
 ·rw [A9];omega
 ·rw [Bo,Bu,gI];omega
def MU {A3:List (κ×V)}{k:κ}(v:V)(h:DY A3 k=none):putK A3 k v=A3++[(k,v)]:=by
 unfold putK;rw [OU,h];exact gg (by decide)
def DZ.Mw {u:Option Value}(r:DZ o u):o.isSome=u.isSome:=by
 cases o with
 | none=>cases u with
  | none=>rfl
  | some _=>exact (show False from r).elim
 | some _=>cases u with
  | none=>exact (show False from r).elim
  | some _=>rfl
theorem DZ.getD {u:Option Value}(r:DZ o u)(rd:RelV d d'):RelV (o.getD d) (u.getD d'):=by
 cases o with
 | none=>cases u with
  | none=>exact rd
  | some _=>exact (show False from r).elim
 | some _=>cases u with
  | none=>exact (show False from r).elim
  | some _=>exact r
def KV.val {A3:List (κ×V)}{vs:List (κ×Value)}(r:KV A3 vs)(k:κ):DZ (DY A3 k) (valueAt vs k):=by
 unfold KV at r
 induction r with
 | nil=>exact True.intro
 | @cons p q ps qs h t ih=>
  obtain ⟨h1,h2⟩:=h
  by_cases e:p.1=k
  ·have e':q.1=k:=h1.symm.trans e;have b:valueAt (q::qs) k=some q.2:=by simp [valueAt,OC,e']
   rw [N7 e,b];exact h2
  ·have e':¬ q.1=k:=fun z=>e (h1.trans z);have b:valueAt (q::qs) k=valueAt qs k:=by simp [valueAt,OC,e']
   rw [LK e,b];exact ih
theorem KV.any {A3:List (κ×V)}{vs:List (κ×Value)}(r:KV A3 vs)(k:κ):(A3.any fun kv=>decide (kv.1=k))=vs.any fun kv=>decide (kv.1=k):=by
 unfold KV at r
 induction r with
 | nil=>rfl
 | cons h t ih=>rw [M6,M6,ih,h.1]
def KV.Ta {A3:List (κ×V)}{vs:List (κ×Value)}(r:KV A3 vs)(k:κ)(ry:RelV y u):
  KV (A3.map fun kv=>if kv.1=k then (kv.1,y) else kv) (vs.map fun kv=>if kv.1=k then (kv.1,u) else kv):=by
 unfold KV at r ⊢
 induction r with
 | nil=>exact .nil
 | @cons p q ps qs h t ih=>
  rw [Ac,Ac];refine .cons ?_ ih;obtain ⟨h1,h2⟩:=h
  by_cases e:p.1=k
  ·rw [gq e,gq (h1.symm.trans e)];exact ⟨h1,ry⟩
  ·rw [gg e,gg (fun z=>e (h1.trans z))];exact ⟨h1,h2⟩
def KV.put {A3:List (κ×V)}{vs:List (κ×Value)}(r:KV A3 vs)(k:κ)(ry:RelV y u):KV (putK A3 k y) (stored vs k u):=by
 unfold putK stored;rw [r.any k]
 by_cases e:(vs.any fun kv=>decide (kv.1=k))=true
 ·rw [gq e,gq e];exact r.Ta k ry
 ·rw [gg e,gg e];exact Paired.snoc r ⟨rfl,ry⟩
def KV.keys {A3:List (κ×V)}{vs:List (κ×Value)}(r:KV A3 vs):A3.map (·.1)=vs.map (·.1):=by
 unfold KV at r
 induction r with
 | nil=>rfl
 | cons h t ih=>rw [Ac,Ac,ih,h.1]
theorem KV.length {A3:List (κ×V)}{vs:List (κ×Value)}(r:KV A3 vs):A3.length=vs.length:=gT r
end
def KU {P:Program}{k:Key}(r:RelV (kV k) u):(CB P w).is k u=true:=by
 cases k with
 | inl i=>obtain ⟨t,e⟩:=(show ∃ t,u=Value.int i t from r);subst e;exact qf P w i t
 | inr x=>obtain ⟨t,e⟩:=(show ∃ t,u=Value.str x t from r);subst e;exact iI P w x t
theorem fL {P:Program}{w:World}:∀ {ks:List Key}{us:List Value},Vals (ks.map kV) us->ItemsAre (CB P w) ks us
 | [],_,r=>by rw [Ek] at r;cases r;exact .nil
 | k::ks,_,r=>by
  rw [Ac] at r;cases r with
  | cons h t=>exact .cons (KU h) (fL t)
abbrev KT (H:Hp):List (List Key×V)->List (List Key×Addr×Value)->Prop:=Paired fun p q=>p.1=q.1/\H q.2.1=some (.tup (p.1.map kV))/\RelV p.2 q.2.2
def KT.val (r:KT H A3 xs)(k:List Key):DZ (DY A3 k) ((atKey xs k).map (·.2)):=by
 induction r with
 | nil=>exact True.intro
 | @cons p q ps qs h t ih=>
  obtain ⟨h1,_,h2⟩:=h
  by_cases e:p.1=k
  ·have e':q.1=k:=h1.symm.trans e;have b:atKey (q::qs) k=some q.2:=by simp [atKey,OC,e']
   rw [N7 e,b];exact h2
  ·have e':¬ q.1=k:=fun z=>e (h1.trans z);have b:atKey (q::qs) k=atKey qs k:=by simp [atKey,OC,e']
   rw [LK e,b];exact ih
def KT.Ta (r:KT H A3 xs)(k:List Key)(ry:RelV y u):
  KT H (A3.map fun kv=>if kv.1=k then (kv.1,y) else kv) (xs.map (putAt k u)):=by
 induction r with
 | nil=>exact .nil
 | @cons p q ps qs h t ih=>
  rw [Ac,Ac];refine .cons ?_ ih;obtain ⟨h1,h2,h3⟩:=h;unfold putAt
  by_cases e:p.1=k
  ·rw [gq e,gq (h1.symm.trans e)];exact ⟨h1,h2,ry⟩
  ·rw [gg e,gg (fun z=>e (h1.trans z))];exact ⟨h1,h2,h3⟩
def KT.put (r:KT H A3 xs)(k:List Key)(hb:H b=some (.tup (k.map kV)))(ry:RelV y u):
  KT H (putK A3 k y) (storedH xs k b u):=by
 have e:(A3.any fun kv=>decide (kv.1=k))=(atKey xs k).isSome:=by
  rw [OU,(r.val k).Mw,X6]
 unfold putK storedH;rw [e]
 by_cases q:(atKey xs k).isSome=true
 ·rw [gq q,gq q];exact r.Ta k ry
 ·rw [gg q,gg q];exact Paired.snoc r ⟨rfl,hb,ry⟩
def KT.keeps (r:KT H A3 xs)(ht:∀ b ys,H b=some (.tup ys)->H' b=some (.tup ys)):KT H' A3 xs:=
 Paired.VC r fun _ _ z=>⟨z.1,ht _ _ z.2.1,z.2.2⟩
section
variable {P:Program}
def cJ {u:HO}(ok:Bk P w H h)(e:Rd H a u):Br P w H h a u:=e.ok ok
def Hy {A3:List (Key×V)}(ok:Bk P w H h)(e:Rd H a (.dK A3)):A3.length<=sizeLine/\(a == sysModules)=false/\∃ vs,KV A3 vs/\h.DictOf (CB P w) a vs:=
 show Br P w H h a (.dK A3) from cJ ok e
def XN {A3:List (Key×V)}(ok:Bk P w H h)(e:H a=some (.dK A3)):A3.length<=sizeLine/\(a == sysModules)=false/\∃ vs,KV A3 vs/\h.DictOf (CB P w) a vs:=Hy ok (.inl e)
def LZ {ks:List Key}(ok:Bk P w H h)(e:H a=some (.tup (ks.map kV))):(tupleKind (CB P w)).is h ks a:=by
 obtain ⟨_,A1,r,⟨o,h1,h2,n,h3⟩,_⟩:=(show Br P w H h a (.tup (ks.map kV)) from ok a _ e);exact ⟨o,A1.toArray,n,h1,h2,h3,by simpa using fL r⟩
def JQ (ok:Bk P w H h)(e:Rd H a (.dT A3)):A3.length<=sizeLine/\(a == sysModules)=false/\
  ∃ xs,KT H A3 xs/\h.DictOfH (tupleKind (CB P w)) a xs:=by
 obtain ⟨z,y,xs,r,o,es,ep,h1,h2,h3,h4,h5⟩:=(show Br P w H h a (.dT A3) from cJ ok e);refine ⟨z,y,xs,r,o,es,ep,h1,h2,h3,h4,fun x hx=>?_,h5⟩;have all:∀ {l:List (List Key×V)}{m:List (List Key×Addr×Value)},KT H l m->∀ x∈m,(tupleKind (CB P w)).is h x.1 x.2.1:=by
  intro l m q
  induction q with
  | nil=>intro x hx;exact nomatch hx
  | @cons p q ps qs hq t ih=>
   intro x hx;rcases List.mem_cons.mp hx with e | hx
   ·subst e;exact LZ ok (by rw [<- hq.1];exact hq.2.1)
   ·exact ih x hx
 exact all r x hx
def pe (ok:Bk P w H h)(e:H a=some (.dT A3)):A3.length<=sizeLine/\(a == sysModules)=false/\
  ∃ xs,KT H A3 xs/\h.DictOfH (tupleKind (CB P w)) a xs:=JQ ok (.inl e)
end
def EA (H:Hp)(a:Addr)(y:V)(r:Option V):Prop:=
 (∃ A3 k,Rd H a (.dK A3)/\y=kV k/\r=DY A3 k)∨∃ A3 k b,Rd H a (.dT A3)/\y=.ref b/\H b=some (.tup (k.map kV))/\r=DY A3 k
def LD (H:Hp)(a:Addr)(y v:V)(H':Hp):Prop:=
 (∃ A3 k,H a=some (.dK A3)/\y=kV k/\A3.length<sizeLine/\H'=upd H a (.dK (putK A3 k v)))∨
 ∃ A3 k b,H a=some (.dT A3)/\y=.ref b/\H b=some (.tup (k.map kV))/\A3.length<sizeLine/\H'=upd H a (.dT (putK A3 k v))
theorem EA.k {A3:List (Key×V)}{k:Key}(e:H a=some (.dK A3)):EA H a (kV k) (DY A3 k):=.inl ⟨A3,k,.inl e,rfl,rfl⟩
theorem LD.k {A3:List (Key×V)}{k:Key}{v:V}(e:H a=some (.dK A3))(hl:A3.length<sizeLine):LD H a (kV k) v (upd H a (.dK (putK A3 k v))):=.inl ⟨A3,k,e,rfl,hl,rfl⟩
section
variable {v:V}{r:Value}
def Inv.big (I:Inv X pins σ H s):sysModules<s.heap.objs.size:=by
 have h:mainGlobals<s.heap.objs.size:=(I.mod.glob.keeps I.bk).lt;exact Nat.lt_trans (by decide) h
def sg (hu:A.units+1<cLine)(I:Inv X pins σ H s)(g:EA H a y (some v))(ry:RelV y u)(h:∀ w' s',Inv X pins σ H s'->RelV v w'->Q w' s'):
  wpAny (model X.prog X.w) A (getItem (.ref a) u) Q E s:=by
 rcases g with ⟨A3,k,e,ey,l⟩ | ⟨A3,k,b,e,ey,eb,l⟩
 ·subst ey;obtain ⟨z,hd,vs,rel,dd⟩:=Hy I.AG e;obtain ⟨w',hw,Es⟩:=DZ.some_of (v:=v) (o:=valueAt vs k) (by rw [l];exact rel.val k);exact wpAny_getItem_of (KU ry) dd.mapOf hw (h w' _ (I.tok _) Es)
 ·subst ey;cases (show u=Value.ref b from ry);obtain ⟨z,hd,xs,rel,dd⟩:=JQ I.AG e;obtain ⟨w',hw,Es⟩:=DZ.some_of (v:=v) (o:=(atKey xs k).map (·.2)) (by rw [l];exact rel.val k)
  obtain ⟨p,hp,dA⟩:=Option.map_eq_some_iff.mp hw;refine wpAny_getItem_heap (mC hu) (LZ I.AG eb) dd hp ?_;rw [dA];exact h w' _ (I.tok _) Es
def iX (hu:A.units+1<cLine)(I:Inv X pins σ H s)(g:EA H a y o)(ry:RelV y u)(h:∀ s',Inv X pins σ H s'->Q (.bool o.isSome) s'):
  wpAny (model X.prog X.w) A (compareOp .In u (.ref a)) Q E s:=by
 rcases g with ⟨A3,k,e,ey,l⟩ | ⟨A3,k,b,e,ey,eb,l⟩
 ·subst ey;obtain ⟨z,hd,vs,rel,dd⟩:=Hy I.AG e;refine wpAny_in_of (KU ry) hd dd.mapOf ?_;rw [<- (rel.val k).Mw,<- l];exact h _ (I.tok _)
 ·subst ey;cases (show u=Value.ref b from ry);obtain ⟨z,hd,xs,rel,dd⟩:=JQ I.AG e;refine wpAny_in_heap (mC hu) (LZ I.AG eb) hd dd ?_;have q:=(rel.val k).Mw;rw [X6] at q;rw [<- q,<- l];exact h _ (I.tok _)
def sH (hu:A.units+1<cLine)(I:Inv X pins σ H s)(g:EA H a y o)(ry:RelV y u)(h:∀ s',Inv X pins σ H s'->Q (.bool (!o.isSome)) s'):
  wpAny (model X.prog X.w) A (compareOp .NotIn u (.ref a)) Q E s:=by
 rcases g with ⟨A3,k,e,ey,l⟩ | ⟨A3,k,b,e,ey,eb,l⟩
 ·subst ey;obtain ⟨z,hd,vs,rel,dd⟩:=Hy I.AG e;refine wpAny_notIn_of (KU ry) hd dd.mapOf ?_;rw [<- (rel.val k).Mw,<- l];exact h _ (I.tok _)
 ·subst ey;cases (show u=Value.ref b from ry);obtain ⟨z,hd,xs,rel,dd⟩:=JQ I.AG e;refine wpAny_notIn_heap (mC hu) (LZ I.AG eb) hd dd ?_;have q:=(rel.val k).Mw;rw [X6] at q;rw [<- q,<- l];exact h _ (I.tok _)
def TV {ob:HO}(I:Inv X pins σ H s)(mu:NR (H a))(hs:Heap.SameBut a s.heap h')(he:∃ q,h'.get? a=some q)(new:Br X.prog X.w (upd H a ob) h' a ob):
  Inv X pins σ (upd H a ob) { s with heap:=h',toks:=t' }:=
 I.write (x:=a) (e:=a) mu (.inl rfl) (fun b q hb z=>(hs.2 b hb).trans z) he new
def dZ {P:Program}{A3:List (Key×V)}{vs:List (Key×Value)}(z:A3.length<=sizeLine)(hd:(a == sysModules)=false)(rel:KV A3 vs)(dd:h'.DictOf (CB P w) a vs):
  Br P w H' h' a (.dK A3):=⟨z,hd,vs,rel,dd⟩
def zF {Q:Unit->Shared->Prop}(hu:A.units+1<cLine)(I:Inv X pins σ H s)(g:LD H a y v H')(ry:RelV y u)(rv:RelV v r)(h:∀ s',Inv X pins σ H' s'->Q () s'):
  wpAny (model X.prog X.w) A (setItem (.ref a) u r) Q E s:=by
 rcases g with ⟨A3,k,e,ey,l,eH⟩ | ⟨A3,k,b,e,ey,eb,l,eH⟩
 ·subst ey eH;obtain ⟨z,hd,vs,rel,dd⟩:=XN I.AG e;have hz:vs.length<=sizeLine:=by rw [<- rel.length];exact z
  have hl:(putK A3 k v).length<=sizeLine:=by have:=VI A3 k v;omega
  refine wpAny_setItem_pairs (hsz:=hz) (KU ry) dd fun h' K3 hs=>h _ ?_;have he:∃ q,h'.get? a=some q:=let ⟨q,_,_,hq,_⟩:=K3;⟨q,hq⟩;exact TV I (by rw [e];exact True.intro) hs he (dZ hl hd (rel.put k rv) K3)
 ·subst ey eH;cases (show u=Value.ref b from ry);obtain ⟨z,hd,xs,rel,dd⟩:=pe I.AG e;have hz:xs.length<=sizeLine:=by rw [<- gT rel];exact z
  have hl:(putK A3 k v).length<=sizeLine:=by have:=VI A3 k v;omega
  refine wpAny_setItem_heap (hsz:=hz) (mC hu) (LZ I.AG eb) dd fun h' K3 hs=>h _ ?_;obtain ⟨q,es,ep,hq,h2,h3,h4,_,h5⟩:=K3;refine TV I (by rw [e];exact True.intro) hs ⟨q,hq⟩ ⟨hl,hd,_,(rel.put k eb rv).keeps fun c ys ec=>?_,q,es,ep,hq,h2,h3,h4,h5⟩;rw [AS (sx ec e (fun z=>nomatch z))];exact ec
variable {A3:List (Key×V)}{k:Key}
end
def Vp (i:Expr):Prop:=∀ ov iv,subscripted i false ov iv=operate [ov,iv] (getItem ov iv)
def nK {slice:Expr}{T id:String}
  (hl:typeLookup (.type T) "__getitem__"=pure (some (.builtin id))) (hs:Vp slice)
  (h:wpAny (model prog w) A (eval value env) (fun o s₁=>wpAny (model prog w) A (eval slice env) (fun i s₂=>s₂.TypeIs o T/\wpAny (model prog w) A (getItem o i) Q E s₂) E s₁) E s) :
  wpAny (model prog w) A (eval (.Subscript value slice pos) env) Q E s:=by
 refine Subscript_ (jo h (fun o s₁ h₁=>jo h₁ (fun i s₂ h₂=>?_) fun _ _ x=>x) fun _ _ x=>x);obtain ⟨hT,h₂⟩:=h₂;unfold subscriptTail;refine gd ?_;rw [getitemInPython_of_ne hT.not_modules];refine gd (wpAny_specialOf hT hl ?_);have fin:wpAny (model prog w) A (subscripted slice false o i) (fun r s₃=>wpAny (model prog w) A (letTemporaryGo value o r >>= fun _=>pure r) Q E s₃) E s₂:=by
  rw [hs o i];exact wpAny_operating (jo h₂ (fun r s₃ h₃=>gd (wpAny_letTemporaryGo (i7 h₃))) fun _ _ x=>x)
 first
  | exact i7 (gd fin)
  | exact gd (i7 (gd fin))
  | exact gd fin
def qr (I:Inv X pins σ H s)(g:EA H a y o):s.TypeIs (.ref a) "dict" := by
 rcases g with ⟨A3,k,e,_,_⟩ | ⟨A3,k,b,e,_,_,_⟩
 ·obtain ⟨_,_,vs,_,dd⟩:=Hy I.AG e;exact dd.typeIs
 ·obtain ⟨_,_,xs,_,dd⟩:=JQ I.AG e;exact dd.typeIs
def Qj (td ty:TE):TE:=fun σ H Q=>td σ H fun x H1=>ty σ H1 fun y H2=>∃ a v,x=.ref a/\EA H2 a y (some v)/\Q v H2
def VB (ty td:TE):TE:=fun σ H Q=>ty σ H fun y H1=>td σ H1 fun x H2=>∃ a o,x=.ref a/\EA H2 a y o/\Q (.bl o.isSome) H2
def US (ty td:TE):TE:=fun σ H Q=>ty σ H fun y H1=>td σ H1 fun x H2=>∃ a o,x=.ref a/\EA H2 a y o/\Q (.bl (!o.isSome)) H2
def Oa (td ty tv:TE):TS:=fun D σ H=>tv σ H fun v H1=>td σ H1 fun x H2=>ty σ H2 fun y H3=>∃ a H4,x=.ref a/\LD H3 a y v H4/\D.nx σ H4
section
variable {o i:Expr}{pos' Jl:Pos}{ty:TE}
def yc (hu:X.A.units+1<cLine)(hi:PE X i ty)(ho:PE X o td):PC X .In i o (VB ty td):=by
 intro pins s σ H Q I h;refine AF (hi pins s σ H _ I h) fun iv s1 ⟨y,H1,I1,ry,q1⟩=>AF (ho pins s1 σ H1 _ I1 q1) fun u s2 ⟨x,H2,I2,rx,a,ov,ex,g,q2⟩=>?_;subst ex;obtain rfl:u=Value.ref a:=rx;exact iX hu I2 g ry fun s3 I3=>⟨.bl ov.isSome,H2,I3,rfl,q2⟩
def jD (hu:X.A.units+1<cLine)(hi:PE X i ty)(ho:PE X o td):PC X .NotIn i o (US ty td):=by
 intro pins s σ H Q I h;refine AF (hi pins s σ H _ I h) fun iv s1 ⟨y,H1,I1,ry,q1⟩=>AF (ho pins s1 σ H1 _ I1 q1) fun u s2 ⟨x,H2,I2,rx,a,ov,ex,g,q2⟩=>?_;subst ex;obtain rfl:u=Value.ref a:=rx;exact sH hu I2 g ry fun s3 I3=>⟨.bl (!ov.isSome),H2,I3,rfl,q2⟩
end
def Z8 {P:Program}(h:Heap)(hb:sysModules<h.objs.size):Br P w H (h.push { cls:=.type "dict", data:=.dict #[] }) h.objs.size (.dK []):=
 ⟨CD _,beq_eq_false_iff_ne.mpr (Bj (CQ hb)),[],.nil,Heap.DictOf.new h⟩
def RQ:TE:=fun _ H Q=>∀ p,H p=none->Q (.ref p) (upd H p (.dK []))
def Uk:List (TE×TE)->St->Hp->(List (V×V)->Hp->Prop)->Prop
 | [],_,H,Q=>Q [] H
 | (tk,tv)::r,σ,H,Q=>tk σ H fun x H1=>tv σ H1 fun y H2=>Uk r σ H2 fun ps H3=>Q ((x,y)::ps) H3
abbrev VV:List (V×V)->List (Value×Value)->Prop:=Paired fun p q=>RelV p.1 q.1/\RelV p.2 q.2
def Ih (X:Cx)(pos:Pos)(keys:List (Option Expr))(values:List Expr)(EM:List (TE×TE)):Prop:=
 ∀ (pins:ZAz) (s:Shared) (σ:St) (H:Hp) (Q:List (V×V)->Hp->Prop),Inv X pins σ H s->Uk EM σ H Q->
  wpAny (model X.prog X.w) X.A (evalPairs (pairTrees keys values X.env pos)) (fun vs s'=>∃ ps H',Inv X pins σ H' s'/\VV ps vs/\Q ps H') X.xe s
def mJ:Ih X pos [] [] []:=fun pins s σ H Q I h=>pairTrees_nil_walk ⟨[],H,I,.nil,h⟩
def uH {k v:Expr}{ks:List (Option Expr)}{vs:List Expr}{tk:TE}{EM:List (TE×TE)}(hk:PE X k tk)(hv:PE X v tv)(hr:Ih X pos ks vs EM):
  Ih X pos (some k::ks) (v::vs) ((tk,tv)::EM):=fun pins s σ H Q I h=>
 pairTrees_cons_walk (AF (hk pins s σ H _ I h) fun u s1 ⟨x,H1,I1,rx,q1⟩=>AF (hv pins s1 σ H1 _ I1 q1) fun w2 s2 ⟨y,H2,I2,ry,q2⟩=>
  AF (hr pins s2 σ H2 _ I2 q2) fun ws s3 ⟨ps,H3,I3,rel,q3⟩=>⟨(x,y)::ps,H3,I3,.cons ⟨rx,ry⟩ rel,q3⟩)
def J6 (A3 more:List (Key×V)):List (Key×V):=more.foldl (fun acc kv=>putK acc kv.1 kv.2) A3
def KV.merge:∀ {more:List (Key×V)}{rs:List (Key×Value)}{A3:List (Key×V)}{vs:List (Key×Value)},KV more rs->KV A3 vs->KV (J6 A3 more) (merged vs rs):=by
 intro more rs A3 vs r;unfold KV at r
 induction r generalizing A3 vs with
 | nil=>intro q;exact q
 | @cons p q ps qs h t ih=>
  intro r0;have e:KV (putK A3 p.1 p.2) (stored vs q.1 q.2):=by
   have:=r0.put p.1 h.2;rw [<- h.1];exact this
  exact ih e
theorem cV:∀ (more A3:List (Key×V)),(J6 A3 more).length<=A3.length+more.length
 | [],A3=>by show A3.length<=A3.length+0;omega
 | p::r,A3=>by
  have h1:=cV r (putK A3 p.1 p.2);have h2:=VI A3 p.1 p.2;show (J6 (putK A3 p.1 p.2) r).length<=_;rw [Bu];omega
theorem Za {P:Program}{w:World}:∀ {A3:List (Key×V)}{ws:List (Value×Value)},VV (A3.map fun kv=>(kV kv.1,kv.2)) ws->∃ rs,Carries (CB P w) ws rs/\KV A3 rs
 | [],_,r=>by rw [Ek] at r;cases r;exact ⟨[],True.intro,.nil⟩
 | p::A3,_,r=>by
  rw [Ac] at r;cases r with
  | @cons a b as bs h t=>
   obtain ⟨rs,c,q⟩:=Za (P:=P) (w:=w) t;obtain ⟨b1,b2⟩:=b;exact ⟨(p.1,b2)::rs,⟨KU h.1,rfl,c⟩,.cons ⟨rfl,h.2⟩ q⟩
def Uw (EM:List (TE×TE)):TE:=fun σ H Q=>∀ p,H p=none->Uk EM σ (upd H p (.dK [])) fun ps H2=>H2 p=some (.dK [])/\∃ A3:List (Key×V),ps=A3.map (fun kv=>(kV kv.1,kv.2))/\A3.length<=15/\Q (.ref p) (upd H2 p (.dK (J6 [] A3)))
structure M2 (X:Cx) (o:Expr) (m:Str) (apos:Pos) (e f:Expr) (BQ:Pos):Prop where
 base:attributeBase o m X.env (eval o X.env)=eval o X.env
 p4:((backTo BQ (starEach [e,f] X.env)).all (fun x=>!x.1) && (backToKw BQ (keywordEach [] X.env)).all (fun x=>x.1.isSome)
  && decide (([e,f]:List Expr).length+([]:List Keyword).length+(if ([]:List Keyword).isEmpty then 0 else 1)<30))=true
 line:(apos.endLine == BQ.line)=true
 trees:backTo BQ (starEach [e,f] X.env)=[(false,eval e X.env),(false,eval f X.env)]
def ZX (H:Hp)(a:Addr):Prop:=(∃ A3,Rd H a (.dK A3))∨∃ A3,Rd H a (.dT A3)
def uK (I:Inv X pins σ H s)(d:ZX H a):
  s.TypeIs (.ref a) "dict" /\ (∀ b,Value.ref a=.ref b->∃ ob,s.heap.get? b=some ob/\ob.dict=none)/\(a == sysModules)=false:=by
 rcases d with ⟨A3,e⟩ | ⟨A3,e⟩
 ·obtain ⟨_,hd,vs,_,dd⟩:=Hy I.AG e;refine ⟨dd.typeIs,fun b q=>?_,hd⟩;cases q;obtain ⟨ob,_,_,h1,h2,_⟩:=dd;exact ⟨ob,h1,h2.2.1⟩
 ·obtain ⟨_,hd,xs,_,dd⟩:=JQ I.AG e;refine ⟨dd.typeIs,fun b q=>?_,hd⟩;cases q;obtain ⟨ob,_,_,h1,h2,_⟩:=dd;exact ⟨ob,h1,h2.2.1⟩
section
variable {r:Value}
def jP (hu:A.units+1<cLine)(I:Inv X pins σ H s)(g:EA H a y o)(ry:RelV y u)(rd:RelV d r)(h:∀ w' s',Inv X pins σ H s'->RelV (o.getD d) w'->Q w' s'):
  wpAny (model X.prog X.w) A (call (.builtin "dict.get") [.ref a,u,r]) Q E s:=by
 rcases g with ⟨A3,k,e,ey,l⟩ | ⟨A3,k,b,e,ey,eb,l⟩
 ·subst ey;obtain ⟨z,hd,vs,rel,dd⟩:=Hy I.AG e;refine call_meetsIn gU dd.typeIs ZAF (ZAD _ _ _) (meets_dict_get_default (CB X.prog X.w) a (KU ry) hd r) ⟨_,dd.mapOf,h _ _ (I.tok _) ?_⟩;rw [l];exact (rel.val k).getD rd
 ·subst ey;cases (show u=Value.ref b from ry);obtain ⟨z,hd,xs,rel,dd⟩:=JQ I.AG e;refine call_meetsIn gU dd.typeIs ZAF (ZAD _ _ _) (meetsH_dict_get_default (tupleKind (CB X.prog X.w)) a b hd r) ⟨mC hu,k,xs,LZ I.AG eb,dd,h _ _ (I.tok _) ?_⟩;rw [l];exact (rel.val k).getD rd
end
def Vz (td ty tx:TE):TE:=fun σ H Q=>td σ H fun x H1=>∃ a,x=.ref a/\ZX H1 a/\ty σ H1 fun y H2=>tx σ H2 fun z H3=>∃ o,EA H3 a y o/\Q (o.getD z) H3
def xI {β:Type}{l:List α}{f:α->β->Sem (ForInStep β)}(g:β->α->β)(h:∀ x∈l,∀ c,f x c=pure (.yield (g c x))):∀ c,forIn l c f=pure (l.foldl g c):=by
 induction l with
 | nil=>intro c;rfl
 | cons x l ih=>
  intro c;rw [Wu,h x HG,pure_bind];exact ih (fun y hy=>h y (E5 _ hy)) (g c x)
def KH (cells:List (Str×Addr))(cs:List (Str×Addr))(x:Str×NameKind):List (Str×Addr):=
 if x.2=.free then (x.1,(cells.lookup x.1).getD 0)::cs else cs
def BJ (cells:List (Str×Addr))(names:List (Str×NameKind)):List (Str×Addr):=names.foldl (KH cells) []
def ra (h:∀ x∈scope.names,x.2=.free->(env.cells.lookup x.1).isSome=true):closureFor scope env=pure (BJ env.cells scope.names):=by
 simp only [closureFor];rw [xI (KH env.cells) (fun x hx c=>by
  obtain ⟨n,k⟩:=x;unfold KH
  by_cases hk:k=NameKind.free
  ·subst hk;have q:=h _ hx rfl;obtain ⟨a,ha⟩:=Option.isSome_iff_exists.mp q;have Lv:env.cells.lookup n=some a:=ha;have hc:cellOf env n=pure a:=by unfold cellOf;rw [Lv]
   simp [hc,Lv]
  ·have:(k == NameKind.free)=false:=by simpa using hk
   simp [this,hk])]
 rfl
theorem ZA {cells:List (Str×Addr)}:∀ (names:List (Str×NameKind)) (acc:List (Str×Addr)),(∀ y∈names,y.2=.free->(cells.lookup y.1).isSome=true)->
  (∀ x c,acc.lookup x=some c->cells.lookup x=some c)->∀ x c,(names.foldl (KH cells) acc).lookup x=some c->cells.lookup x=some c
 | [],acc,_,ha,x,c,e=>ha x c e
 | (n,k)::r,acc,hs,ha,x,c,e=>by
  rw [List.foldl_cons] at e;refine ZA r _ (fun y hy=>hs y (E5 _ hy)) (fun x c e=>?_) x c e;unfold KH at e
  by_cases hk:k=NameKind.free
  ·rw [gq hk] at e;have q:=hs _ HG hk;obtain ⟨a,q⟩:=Option.isSome_iff_exists.mp q;have q':cells.lookup n=some a:=q;rw [GO] at e
   by_cases hx:x=n
   ·subst hx;simp only [jw,q',Option.getD_some] at e;rw [q',<- e]
   ·have hb:(x == n)=false:=by simpa using hx
    rw [hb] at e;exact ha x c e
  ·rw [gg hk] at e;exact ha x c e
theorem RN {cells:List (Str×Addr)}{x:Str}:∀ (names:List (Str×NameKind)) (acc:List (Str×Addr)),((acc.lookup x).isSome=true∨(x,NameKind.free)∈names)->
  ((names.foldl (KH cells) acc).lookup x).isSome=true
 | [],acc,h=>by
  rcases h with h | h
  ·exact h
  ·cases h
 | (n,k)::r,acc,h=>by
  rw [List.foldl_cons];refine RN r _ ?_;unfold KH;rcases h with h | h
  ·refine .inl ?_;split
   ·rw [GO];split
    ·rfl
    ·exact h
   ·exact h
  ·rcases List.mem_cons.mp h with e | h
   ·cases e;refine .inl ?_;rw [gq rfl,GO];simp
   ·exact .inr h
theorem PM {env:Env}:∀ (names:List (Str×NameKind)) (x:Str),
  (names.map fun (n,k)=>if (k == NameKind.free && env.scope.kind == .function && env.kindOf n == some .cell) then (n,NameKind.cell) else (n,k)).lookup x =
   (names.lookup x).map fun k=>if (k == NameKind.free && env.scope.kind == .function && env.kindOf x == some .cell) then NameKind.cell else k
 | [],x=>rfl
 | (n,k)::r,x=>by
  have ih:=PM (env:=env) r x;rw [Ac]
  by_cases hc:(k == NameKind.free && env.scope.kind == .function && env.kindOf n == some .cell)=true
  ·show List.lookup x ((if (k == NameKind.free && env.scope.kind == .function && env.kindOf n == some .cell)=true then (n,NameKind.cell) else (n,k))::_)=_
   rw [gq hc,GO,GO]
   by_cases hx:x=n
   ·subst hx;simp only [jw,X7];rw [gq hc]
   ·have hb:(x == n)=false:=by simpa using hx
    rw [hb];exact ih
  ·show List.lookup x ((if (k == NameKind.free && env.scope.kind == .function && env.kindOf n == some .cell)=true then (n,NameKind.cell) else (n,k))::_)=_
   rw [gg hc,GO,GO]
   by_cases hx:x=n
   ·subst hx;simp only [jw,X7];rw [gg hc]
   ·have hb:(x == n)=false:=by simpa using hx
    rw [hb];exact ih
abbrev EG (X:Cx)(N:List Str)(scope:Scope)(cl:List (Str×Addr))(C:Addr)(s:Shared)(H:Hp)(fp:List Addr):Cx:=
 { X with N:=N,s₀:=s,H₀:=H,env:=compEnvC scope cl C X.env,outer:=X.stack,ex:=fp,fn:=fun _=>false,pn:=[],xe:=fun _ _=>False }
def BB (js:List Nat)(σ:St):St:=js.map fun j=>(σ[j]?).join
structure CK (N:List Str) (outer scope:Scope) (x:Str) (AD:List Str) (js:List Nat):Prop where
 kind:scope.kind=.function
 KR:∀ y∈scope.names,y.2≠.cell
 loc:∀ y∈scope.names,y.2=.local->scope.names.lookup y.1=some .local
 Ft:scope.names.lookup x=some .local
 at':js.map (fun j=>N[j]?)=AD.map some
 cell:∀ y∈AD,outer.names.lookup y=some .cell
 free:∀ y∈AD,scope.names.lookup y=some .free
 all:∀ y∈scope.names,y.2=.free->outer.names.lookup y.1=some .cell
 nd:(AD++[x]).Nodup
def G7 (X:Cx)(ifs:List Expr)(t:TT):Prop:=
 ∀ (pins:ZAz) (s:Shared) (σ:St) (H:Hp) (Q:Bool->Hp->Prop),Inv X pins σ H s->t σ H Q->
  wpAny (model X.prog X.w) X.A (forIn ifs true fun c r=>if r=true then do let ok <- isTrue c X.env (eval c X.env);pure (ForInStep.yield ok) else pure (ForInStep.yield r)) (TP X pins σ Q) X.xe s
def MP:TT:=fun _ H Q=>Q true H
def iY {t:TT}(hc:PT X c t):G7 X [c] t:=fun pins s σ H Q I h=>by
 rw [Wu];refine gd ?_;rw [gq rfl];refine gd (AF (hc pins s σ H Q I h) fun b s1 q=>i7 ?_);show wpAny _ _ (forIn [] b _) _ _ s1;rw [RB];exact i7 q
def JC (J:It)(js:List Nat)(tt:TT)(te:TE)(σ:St)(H1:Hp)(acc:Addr)(Q:VK):Prop:=
 ∃ W:Nat->Nat->Hp->Prop,(∃ m,W 0 m (upd H1 acc (.lst [])))/\∀ i m H2,W i m H2->
  (J.stop i H2/\Q (.ref acc) H2)∨(J.go i H2/\∀ x H3,J.E9 i H2 x H3->tt (BB js σ++[some x]) H3 fun b H4=>
   if b=true then te (BB js σ++[some x]) H4 fun y H5=>∃ ys,H5 acc=some (.lst ys)/\ys.length<sizeLine/\∃ m',m' < m/\W (i+1) m' (upd H5 acc (.lst (ys++[y])))
   else ∃ m',m' < m/\W (i+1) m' H4)
def HD (wi:TI)(js:List Nat)(tt:TT)(te:TE):TE:=fun σ H Q=>wi σ H fun J H1=>∀ acc,H1 acc=none->JC J js tt te σ H1 acc Q
def nA (l:List α)(a b:α):(l++[a]).set l.length b=l++[b]:=by
 induction l with
 | nil=>rfl
 | cons x l ih=>simp [ih]
def GW:Option Str->Addr->List (Str×Addr)
 | none,_=>[]
 | some x,n=>[(x,n)]
def QZ:Option Str->Heap->Heap
 | none,h=>h
 | some _,h=>h.push { cls:=.type "cell", data:=.cell none }
structure EF (N:List Str) (outer scope:Scope) (ce:Option Str) (zs AD:List Str) (js:List Nat):Prop where
 kind:scope.kind=.function
 loc:∀ y∈scope.names,y.2=.local->scope.names.lookup y.1=some .local
 one:∀ y∈scope.names,y.2=.cell->ce=some y.1
 sub:∀ x,ce=some x->x∈zs
 cf:∀ (n:Nat) (cl:List (Str×Addr)),cellsFrom n scope.names cl=GW ce n++cl
 pc:∀ h:Heap,pushCells h scope.names=QZ ce h
 at':js.map (fun j=>N[j]?)=AD.map some
 cell:∀ y∈AD,outer.names.lookup y=some .cell
 free:∀ y∈AD,scope.names.lookup y=some .free
 all:∀ y∈scope.names,y.2=.free->outer.names.lookup y.1=some .cell
 nd:(AD++zs).Nodup
abbrev EX (X:Cx)(N:List Str)(scope:Scope)(ce:Option Str)(cl:List (Str×Addr))(C:Addr)(s:Shared)(H:Hp)(fp:List Addr):Cx:=
 { X with N:=N,s₀:=s,H₀:=H,env:=compEnvC scope (GW ce (C+1)++cl) C X.env,outer:=X.stack,ex:=fp,fn:=fun y=>ce == some y,pn:=[],xe:=fun _ _=>False }
def qc {M:Model}{globals:Addr}{func:Option Addr}{code:Value}{outer:Env}{Q:Env->Shared->Prop}
  (cf:∀ (n:Nat) (cl:List (Str×Addr)),cellsFrom n scope.names cl=GW ce n++cl) (pc:∀ h:Heap,pushCells h scope.names=QZ ce h)
  (hQ:Q (newEnv scope s.heap.objs.size globals (GW ce (s.heap.objs.size+1)++closure) qual func code (some outer) builtinsNs) { s with heap:=QZ ce (s.heap.push { cls:=.type "dict", data:=.dict #[] }) }) :
  wpAny M A (newFunctionEnv scope globals closure [] qual func code (some outer)) Q E s:=by
 simp only [newFunctionEnv,ZAC,pq];refine gd (wpAny_alloc ?_);refine gd (wpAny_layCells _ (fun name kind cells=>by cases VU:kind == NameKind.cell <;> simp [VU]) _ _ _ _ ?_)
 rw [cf,pc];rw [show ({ s with heap:=s.heap.push { cls:=.type "dict", data:=.dict #[] } }:Shared).heap.objs.size=s.heap.objs.size+1 from JL ..]
 refine gd ?_;rw [RB];exact i7 (i7 hQ)
def vy {y:Str}{c:Addr}(h:(GW ce n++cl).lookup y=some c):(ce=some y/\c=n)∨(ce≠some y/\cl.lookup y=some c):=by
 cases ce with
 | none=>exact .inr ⟨fun z=>(by cases z),h⟩
 | some x=>
  have h:((x,n)::cl).lookup y=some c:=h;rw [GO] at h
  by_cases e:y=x
  ·subst e;simp only [jw] at h;exact .inl ⟨rfl,(B8 h).symm⟩
  ·have hb:(y == x)=false:=by simpa using e
   rw [hb] at h;exact .inr ⟨fun z=>e (B8 z).symm,h⟩
def cn {y:Str}(h:ce≠some y):(GW ce n++cl).lookup y=cl.lookup y:=by
 cases ce with
 | none=>rfl
 | some x=>
  show ((x,n)::cl).lookup y=_;have hb:(y == x)=false:=beq_eq_false_iff_ne.mpr fun z=>h (by rw [z]);rw [GO,hb]
def yd:(GW (some x) n++cl).lookup x=some n:=by
 show ((x,n)::cl).lookup x=_;rw [GO,jw]
def sV {iter:Expr}{it acc:Value}(I:Nat->Shared->Prop)
  (turn:∀ n s,I n s->wpAny (model prog w) A (pyNext it) (fun r s1=>match r with
   | none=>R (.ok .next) s1
   | some v=>wpAny (model prog w) A (letOwnedTupleGo tg it v) (fun _ s2=>wpAny (model prog w) A (assign tg env v) (fun _ s3=>
     wpAny (model prog w) A (forIn ifs true fun c r=>if r=true then do let ok <- isTrue c env (eval c env);pure (ForInStep.yield ok) else pure (ForInStep.yield r)) (fun ok s4=>if ok=true then
      wpAny (model prog w) A (eval elt env) (fun x s5=>wpAny (model prog w) A (call (.builtin "list.append") [acc,x]) (fun _ s6=>∃ m,m<n/\I m s6) (notedBy (model prog w) A env fun e s'=>R (.error e) s') s5) (notedBy (model prog w) A env fun e s'=>R (.error e) s') s4
      else ∃ m,m<n/\I m s4) (notedBy (model prog w) A env fun e s'=>R (.error e) s') s3)
     (notedBy (model prog w) A env fun e s'=>R (.error e) s') s2) (notedBy (model prog w) A env fun e s'=>R (.error e) s') s1) (notedBy (model prog w) A env fun e s'=>R (.error e) s') s)
  (n:Nat) (h:I n s):codeAny (model prog w) A (.compLoop (.ListComp elt [⟨tg,iter,ifs,0⟩] scope pos) 0 it acc env) R s:=by
 refine codeAny_loop rfl I (fun n s hI=>(show wpAny _ A ((compTurn (.ListComp elt [⟨tg,iter,ifs,0⟩] scope pos) 0 it acc env).onRaise (fun x=>do noteFrame x env;theTreesLotGoes x)) _ _ s from wpAny_noted ?_)) n h
 rw [compTurn_list];refine gd (sX (gd (jo (turn n s hI) (fun r s1 q1=>?_) fun _ _ z=>z)));cases r with
 | none=>exact i7 q1
 | some v=>
  refine gd (jo q1 (fun _ s2 q2=>gd (jo q2 (fun _ s3 q3=>gd (jo q3 (fun ok s4 q4=>?_) fun _ _ z=>z)) fun _ _ z=>z)) fun _ _ z=>z);cases ok with
  | false=>
   rw [gg (by decide)] at q4;exact gd (i7 (i7 ⟨rfl,q4⟩))
  | true=>
   rw [gq rfl] at q4;exact gd (gd (jo q4 (fun x s5 q5=>gd (jo q5 (fun _ s6 q6=>i7 (i7 ⟨rfl,q6⟩)) fun _ _ z=>z)) fun _ _ z=>z))
abbrev TC (tt:TT)(te:TE)(acc:Addr)(W:Nat->Nat->Hp->Prop)(i m:Nat)(σ:St)(H:Hp):Prop:=
 tt σ H fun b H4=>if b=true then te σ H4 fun y H5=>∃ ys,H5 acc=some (.lst ys)/\ys.length<sizeLine/\∃ m',m' < m/\W (i+1) m' (upd H5 acc (.lst (ys++[y])))
  else ∃ m',m' < m/\W (i+1) m' H4
def NQ (g:TG)(n:Nat)(J:It)(js:List Nat)(tt:TT)(te:TE)(σ:St)(H1:Hp)(acc:Addr)(Q:VK):Prop:=
 ∃ W:Nat->Nat->Hp->Prop,(∃ m,W 0 m (upd H1 acc (.lst [])))/\∀ i m H2,W i m H2->
  (J.stop i H2/\Q (.ref acc) H2)∨(J.go i H2/\∀ x H3,J.E9 i H2 x H3->∀ ws,ws.length=n->g x (BB js σ++ws) H3 fun σ8 H8=>∃ us,us.length=n/\σ8=BB js σ++us/\TC tt te acc W i m σ8 H8)
def X9 (CW:It->St->Hp->Addr->VK->Prop)(wi:TI):TE:=fun σ H Q=>wi σ H fun J H1=>∀ acc,H1 acc=none->CW J σ H1 acc Q
section
variable {iter:Expr}{zs AD:List Str}{fp:List Addr}{g:TG}
def jk (h:scope.names.lookup x=some .cell):(relabel scope env).names.lookup x=some .cell:=by
 refine (PM (env:=env) scope.names x).trans ?_;rw [h];simp
def ym {n:Nat}{v:V}(h:(List.replicate n (none:Option V))[i]?=some (some v)):False:=by
 rw [gF] at h
 by_cases c:i<n
 ·rw [gq c] at h;cases h
 ·rw [gg c] at h;cases h
def wO (S:EF X.N X.env.scope scope ce zs AD js)(I3:Inv X pins σ H2 s2)(f2:∀ b∈fp,Dx X pins H2 b)(dU:∀ b∈fp,b<s2.heap.objs.size)
  {m:ZB0}(LW:h1.Ns s2.heap.objs.size m) (old:∀ b o,s2.heap.get? b=some o->h1.get? b=some o) (Ju:∀ x,ce=some x->h1.IsCell (s2.heap.objs.size+1) none) :
  Inv (EX X (AD++zs) scope ce (BJ X.env.cells scope.names) s2.heap.objs.size s2 H2 fp) [] (BB js σ++List.replicate zs.length none) H2 { s2 with heap:=h1,toks:=t' }:=by
 have xx:∀ y∈scope.names,y.2=.free->(X.env.cells.lookup y.1).isSome=true:=fun y hy hk=>by
  obtain ⟨c,e⟩:=I3.ok.has y.1 (.inl (S.all y hy hk));rw [e];rfl
 have Zc:∀ y c,(BJ X.env.cells scope.names).lookup y=some c->X.env.cells.lookup y=some c:=ZA scope.names [] xx (fun _ _ e=>by cases e);have cI:∀ y k,(relabel scope X.env).names.lookup y=some k->k=.cell∨k=.free->scope.names.lookup y=some .free∨ce=some y:=fun y k e hk=>by
  have e':=(PM (env:=X.env) scope.names y).symm.trans e;cases q:scope.names.lookup y with
  | none=>rw [q] at e';cases e'
  | some k0=>
   rw [q] at e';cases k0 with
   | free=>exact .inl rfl
   | cell=>exact .inr (S.one _ (Kf q) rfl)
   | _=>simp at e';rcases hk with rfl | rfl <;> cases e'
 have hlen:js.length=AD.length:=by have:=l9 List.length S.at';simpa using this
 have aT:∀ y c,X.env.cells.lookup y=some c->c<s2.heap.objs.size:=fun y c e=>by
  obtain ⟨v,o,ho,_⟩:=I3.cell y c e;exact Au ho
 have cellK:∀ c v,s2.heap.IsCell c v->h1.IsCell c v:=fun c v ⟨o,ho,hd⟩=>⟨o,old c o ho,hd⟩;have lk:∀ y c,(GW ce (s2.heap.objs.size+1)++BJ X.env.cells scope.names).lookup y=some c->(ce=some y/\c=s2.heap.objs.size+1)∨(ce≠some y/\X.env.cells.lookup y=some c):=fun y c e=>(vy e).imp id fun z=>⟨z.1,Zc y c z.2⟩;have xc:∀ y∈AD,ce≠some y:=fun y hy z=>(List.nodup_append.mp S.nd).2.2 y hy y (S.sub y z) rfl;refine ⟨⟨I3.ok.mod,S.kind,I3.ok.glob,I3.ok.blt,Aj _,fun y z c e1 e2=>?_,fun y hy=>?_,fun y c hf e=>?_,I3.ok.hd,I3.ok.frames,.inl rfl,fun b hb=>⟨CQ (dU b hb),fun y c e=>?_⟩,
  fun b o e=>I3.bs b o e,Em I3.ok.Hd I3.sz,fun b o e hb=>?_,fun b hb hs=>?_,I3.stack,I3.fP⟩,rfl,I3.bare,Un.kept old,⟨m,LW,fun i y v e1 e2 e3=>?_⟩,fun y c e=>?_,I3.AG.fresh (Aj _),fun y c e=>?_,fun p hp=>(by cases hp),I3.AG.kept old,?_⟩
 ·rcases lk y c e1 with ⟨a1,rfl⟩ | ⟨_,Co⟩
  ·rcases lk z _ e2 with ⟨a2,_⟩ | ⟨_,DR⟩
   ·exact B8 (a1.symm.trans a2)
   ·exact absurd (aT z _ DR) (ZAA (MB _))
  ·rcases lk z c e2 with ⟨_,rfl⟩ | ⟨_,DR⟩
   ·exact absurd (aT y _ Co) (ZAA (MB _))
   ·exact I3.ok.inj y z c Co DR
 ·have hf:scope.names.lookup y=some .free∨ce=some y:=hy.elim (fun hy=>cI y _ hy (.inl rfl)) fun hy=>cI y _ hy (.inr rfl);show ∃ c,List.lookup y (GW ce (s2.heap.objs.size+1)++BJ X.env.cells scope.names)=some c
  by_cases ex:ce=some y
  ·rw [ex];exact ⟨_,yd⟩
  ·rw [cn ex];exact Option.isSome_iff_exists.mp (RN scope.names [] (.inr (Kf (hf.resolve_right ex))))
 ·rcases lk y c e with ⟨_,rfl⟩ | ⟨n1,_⟩
  ·exact MB _
  ·exact absurd (eq_of_beq hf) n1
 ·rcases lk y c e with ⟨_,rfl⟩ | ⟨_,Co⟩
  ·exact Ke (ZA9 (dU b hb))
  ·exact (f2 b hb).2.2.2.2.1 y c Co
 ·rcases (f2 b hb).2.2.2.1 with z | z
  ·exact I3.ok.Md b o e z
  ·exact absurd (E6 (E6 (Au e) I3.ok.Hd) z) (IH _)
 ·rcases List.mem_cons.mp (I3.T1 b hs) with z | z
  ·exact (f2 b hb).2.1 z
  ·exact (f2 b hb).2.2.1 z
 ·have Ju:(BB js σ).length=AD.length:=by unfold BB;rw [A9,hlen]
  have hi:i<AD.length:=by
   by_cases hi:i<AD.length
   ·exact hi
   ·have BY:(BB js σ++List.replicate zs.length none)[i]?=some (some v):=e2;rw [EJ (by rw [Ju];omega),Ju] at BY;exact (ym BY).elim
  have Ci:AD[i]?=some y:=by
   have Ci:(AD++zs)[i]?=some y:=e1
   rwa [DF hi] at Ci
  have BY:(BB js σ)[i]?=some (some v):=by
   have BY:(BB js σ++List.replicate zs.length none)[i]?=some (some v):=e2
   rwa [DF (by rw [Ju];exact hi)] at BY
  have LJ:y∈AD:=C2 Ci;unfold BB at BY;rw [AV] at BY;cases hj:js[i]? with
  | none=>rw [hj] at BY;cases BY
  | some j=>
   rw [hj] at BY;have hN:X.N[j]?=some y:=by
    have q:=l9 (fun l=>l[i]?) S.at';simp only [AV,hj,Ci,X7] at q;exact B8 q
   have hσ:σ[j]?=some (some v):=by
    simp only [X7,Option.some.injEq] at BY;cases q:σ[j]? with
    | none=>rw [q] at BY;cases BY
    | some w=>rw [q] at BY;simp at BY;rw [BY]
   obtain ⟨m0,hn0,lU⟩:=I3.loc;obtain ⟨u,r,l⟩:=lU j y v hN hσ (.inr (.inl (S.cell y LJ)));refine ⟨u,r,?_⟩;rcases l with ⟨k,_⟩ | ⟨_,c,e,z⟩
   ·have k':X.env.scope.names.lookup y=some .local:=k;rw [S.cell y LJ] at k';cases k'
   ·have VU:X.env.kindOf y=some .cell:=S.cell y LJ;have hk:(relabel scope X.env).names.lookup y=some .cell:=by
     refine (PM (env:=X.env) scope.names y).trans ?_;rw [S.free y LJ];simp [I3.ok.kind,VU]
    obtain ⟨c',e'⟩:=Option.isSome_iff_exists.mp (RN (cells:=X.env.cells) scope.names [] (.inr (Kf (S.free y LJ))));have Yl:=Zc y c' e';rw [e] at Yl;cases Yl;exact .inr ⟨.inl hk,c,(cn (xc y LJ)).trans e',cellK c _ z⟩
 ·rcases lk y c e with ⟨a,rfl⟩ | ⟨_,Co⟩
  ·exact ⟨none,Ju _ a⟩
  ·obtain ⟨v,z⟩:=I3.cell y c Co;exact ⟨v,cellK c v z⟩
 ·rcases lk y c e with ⟨_,rfl⟩ | ⟨_,Co⟩
  ·exact I3.AG.fresh (MB _)
  ·exact I3.G5 y c Co
 ·show (BB js σ++List.replicate zs.length none).length=(AD++zs).length;unfold BB;simp [hlen]
def tH (hp:Y.prog=X.prog)(hw:Y.w=X.w)(hK:Y.K=X.K)(hA:Y.A=X.A)(pT:Y.xe=fun _ _=>False)(hc:Y.calm=true)
  (hg:PG Y tg g) (C6:G7 Y ifs tt) (C7:PE Y elt te)
  (T:Turn X.prog X.w X.K tg J fp it tn) (mN:∀ b∈fp,Y.Ok->Dx Y [] (fun _=>none) b)
  (W:Nat->Nat->Hp->Prop) (Q:VK)
  (turn:∀ i m H2,W i m H2->(J.stop i H2/\Q (.ref acc) H2)∨(J.go i H2/\∀ x H3,J.E9 i H2 x H3->∀ ws,ws.length=n0->g x (BB js σ++ws) H3 fun σ8 H8=>∃ us,us.length=n0/\σ8=BB js σ++us/\TC tt te acc W i m σ8 H8))
  (I4:Inv Y [] (BB js σ++ws) H4 s4) (Qa:tn 0 s4.heap) (nX:∀ b∈fp,H4 b=none) (m0:Nat) (w4:W 0 m0 H4)
  (hZ:ws.length=n0) (hR:∀ H' s' ws,Inv Y [] (BB js σ++ws) H' s'->Q (.ref acc) H'->R (.ok .next) s') :
  codeAny (model X.prog X.w) X.A (.compLoop (.ListComp elt [⟨tg,iter,ifs,0⟩] scope pos) 0 (.ref it) (.ref acc) Y.env) R s4:=by
 have AG:=I4.ok;have JW:∀ {H':Hp},(∀ b∈fp,H' b=none)->∀ b∈fp,Dx Y [] H' b:=fun hn b hb=>⟨hn b hb,(mN b hb AG).2⟩;rw [<- hp,<- hw,<- hA];have no:∀ {Z:Value->Shared->Prop} v s,Y.xe v s->Z v s:=fun v s z=>by rw [pT] at z;exact z.elim
 refine sV (fun n s'=>∃ i ws H',ws.length=n0/\Inv Y [] (BB js σ++ws) H' s'/\tn i s'.heap/\(∀ b∈fp,H' b=none)/\W i n H') ?_ m0 ⟨0,ws,H4,hZ,I4,Qa,nX,w4⟩;rintro n s5 ⟨i,aq,H5,vX,I5,LM,PJ,w5⟩;rcases turn i n H5 w5 with ⟨stop,q⟩ | ⟨go,step⟩
 ·have d:=T.done Y hp hw hK hc i [] s5 _ H5 (fun _ _=>False) I5 (JW PJ) LM stop;rw [<- hp,<- hw] at d;refine jo d (fun r s6 ⟨hr,I6⟩=>?_) fun _ _ z=>z.elim;subst hr;exact hR H5 s6 aq I6 q
 ·have d:=T.item Y hp hw hK hc i [] s5 _ H5 (fun _ _=>False) I5 (JW PJ) LM go;rw [<- hp,<- hw] at d;refine jo d (fun r s6 ⟨u,hr,h6⟩=>?_) fun _ _ z=>z.elim;subst hr;refine jo h6 (fun _ s7 ⟨v,H7,I7,r7,y7,SX,iV⟩=>?_) fun _ _ z=>z.elim;have sG:=I7.pinned (JW iV) (T.obj _ _ SX);refine jo (hg _ s7 _ H7 v u _ sG r7 (step v H7 y7 aq vX)) (fun _ s8 ⟨σ8,H8,I8,us,Jv,e8,pC⟩=>?_) no;subst e8;have again:∀ {σa:St} {Ha:Hp}{sa:Shared},Inv Y ([]++Nc fp s7.heap) σa Ha sa->tn (i+1) sa.heap/\(∀ b∈fp,Ha b=none):=fun {σa Ha sa} Ia=>by
   refine ⟨T.keep _ _ _ SX fun b hb o e=>(Ia.pin (b,o) (HF _ (HF _ (Pb hb e)))).1,fun b hb=>?_⟩;obtain ⟨o,e,d⟩:=T.obj _ _ SX b hb;exact (Ia.pin (b,o) (HF _ (HF _ (Pb hb e)))).2.1
  refine jo (C6 _ s8 _ H8 _ I8 pC) (fun b s9 ⟨H9,I9,q9⟩=>?_) no;cases b with
  | false=>
   have tw:∃ m',m' < n/\W (i+1) m' H9:=q9;obtain ⟨m',hm,w9⟩:=tw;rw [gg (by decide)];exact ⟨m',hm,i+1,_,H9,Jv,I9.Mr,(again I9).1,(again I9).2,w9⟩
  | true=>
   rw [gq rfl];rw [gq rfl] at q9;refine jo (C7 _ s9 _ H9 _ I9 q9) (fun yv G3 ⟨y,Yc,rC,y4,ys,Aw,hz,m',hm,xP⟩=>?_) no;refine jo (b5 (X:=Y) _ G3 _ Yc (.ref acc) [y] (.ref acc) [yv] (fun _ Y3=>Y3=upd Yc acc (.lst (ys++[y]))) rC rfl (.cons y4 .nil) ⟨acc,ys,y,rfl,rfl,Aw,hz,rfl⟩)
    (fun _ Gz ⟨_,Y3,V0,_,xO⟩=>?_) no
   subst xO;exact ⟨m',hm,i+1,_,_,Jv,V0.Mr,(again V0).1,(again V0).2,xP⟩
def ba {RR:Value->Addr->Result->Shared->Prop}(hc:X.calm=true)(S:EF X.N X.env.scope scope ce zs AD js)
  (hg:∀ C s H,PG (EX X (AD++zs) scope ce (BJ X.env.cells scope.names) C s H fp) tg g)
  (C6:∀ C s H,G7 (EX X (AD++zs) scope ce (BJ X.env.cells scope.names) C s H fp) ifs tt) (C7:∀ C s H,PE (EX X (AD++zs) scope ce (BJ X.env.cells scope.names) C s H fp) elt te)
  (T:Turn X.prog X.w X.K tg J fp it tn) (I2:Inv X pins σ H2 s2) (IU:tn 0 s2.heap) (f2:∀ b∈fp,Dx X pins H2 b) (Q:VK) (hW:∀ acc,H2 acc=none->NQ g zs.length J js tt te σ H2 acc Q)
  (zk:∀ acc C H' s' m,Inv X pins σ H' s'->Dx X pins H' C->s'.heap.Ns C m->Q (.ref acc) H'->RR (.ref acc) C (.ok .next) s') :
  wpAny (model X.prog X.w) X.A (newList []) (fun acc s3=>wpAny (model X.prog X.w) X.A (newFunctionEnv scope X.env.globals (BJ X.env.cells scope.names) [] X.env.qual none .none (some X.env)) (fun ZM s4=>
   codeAny (model X.prog X.w) X.A (.compStart (.ListComp elt [⟨tg,iter,ifs,0⟩] scope pos) 0 (.ref it) acc { ZM with scope:=relabel scope X.env }) (RR acc ZM.locals) s4) E s3) E s2:=by
 refine oN (qc S.cf S.pc ?_);have I3:Inv X pins σ (upd H2 s2.heap.objs.size (.lst [])) { s2 with heap:=s2.heap.push { cls:=.type "list", data:=.seq ([]:List Value).toArray } }:=I2.YZ (t':=s2.toks) .nil (CD _)
 have AM:∀ b∈fp,b<s2.heap.objs.size:=fun b hb=>by
  obtain ⟨o,e,_⟩:=T.obj _ _ IU b hb;exact Au e
 have hsz:(s2.heap.push { cls:=.type "list", data:=.seq ([]:List Value).toArray }).objs.size=s2.heap.objs.size+1:=JL ..;have f3:∀ b∈fp,Dx X pins (upd H2 s2.heap.objs.size (.lst [])) b:=fun b hb=>⟨by rw [AS (CQ (AM b hb))];exact (f2 b hb).1,(f2 b hb).2⟩;generalize jm:({ s2 with heap:=s2.heap.push { cls:=.type "list", data:=.seq ([]:List Value).toArray } }:Shared)=s3 at I3 ⊢
 have ao:s3.heap=s2.heap.push { cls:=.type "list", data:=.seq ([]:List Value).toArray }:=by rw [<- jm]
 have u6:∀ b∈fp,b<s3.heap.objs.size:=fun b hb=>by rw [ao,hsz];exact ZA9 (AM b hb)
 generalize Y0:QZ ce (s3.heap.push { cls:=.type "dict", data:=.dict #[] })=h1;have Xu:∀ b o,(s3.heap.push { cls:=.type "dict", data:=.dict #[] }).get? b=some o->h1.get? b=some o:=fun b o e=>by
  rw [<- Y0];cases ce with
  | none=>exact e
  | some _=>exact Bi _ e
 have old:∀ b o,s3.heap.get? b=some o->h1.get? b=some o:=fun b o e=>Xu b o (Bi _ e);have xE:∀ b o,s2.heap.get? b=some o->h1.get? b=some o:=fun b o e=>old b o (by rw [ao];exact Bi _ e);have LW:h1.Ns s3.heap.objs.size (fun _=>none):=(Heap.Ns.new s3.heap (.type "dict")).keeps Xu;have Ju:∀ x,ce=some x->h1.IsCell (s3.heap.objs.size+1) none:=fun x hx=>by
  subst hx;rw [<- Y0];have e:(s3.heap.push { cls:=.type "dict", data:=.dict #[] }).objs.size=s3.heap.objs.size+1:=JL ..;exact ⟨_,by rw [<- e];exact C1 _ rfl,rfl⟩
 have I4:=wO S I3 f3 u6 LW old Ju (t':=s3.toks);have Qa:tn 0 h1:=T.keep _ _ _ IU fun b _ o e=>xE b o e;obtain ⟨W,⟨m0,w0⟩,turn⟩:=hW s2.heap.objs.size (I2.AG.fresh (Aj _));have loop:codeAny (model X.prog X.w) X.A (.compLoop (.ListComp elt [⟨tg,iter,ifs,0⟩] scope pos) 0 (.ref it) (.ref s2.heap.objs.size) (compEnvC scope (GW ce (s3.heap.objs.size+1)++BJ X.env.cells scope.names) s3.heap.objs.size X.env))
   (RR (.ref s2.heap.objs.size) s3.heap.objs.size) { s3 with heap:=h1 }:=by
  refine tH (X:=X) (Y:=EX X (AD++zs) scope ce (BJ X.env.cells scope.names) s3.heap.objs.size s3 (upd H2 s2.heap.objs.size (.lst [])) fp) (acc:=s2.heap.objs.size) (Q:=Q) rfl rfl rfl rfl rfl hc (hg _ _ _) (C6 _ _ _) (C7 _ _ _) T (fun b hb ok=>⟨rfl,(ok.Pc b hb).1,ok.Mf b hb,.inl hb,(ok.Pc b hb).2,fun p hp=>by cases hp⟩) W turn I4 Qa (fun b hb=>(f3 b hb).1) m0 w0 (ZA3 ..) fun H' s' w I' q=>?_;obtain ⟨m,hn,_⟩:=I'.loc;exact zk _ _ H' s' m (I3.gp (ch:=fp) I'.os I'.base I'.AG I'.bare fun b hb=>⟨(f3 b hb).2.2.2.1,(f3 b hb).2.1,(f3 b hb).2.2.2.2.1,(f3 b hb).2.2.2.2.2⟩) (I3.J7 (Aj _) I'.free) hn q
 exact codeAny_compStart_list loop (T.self X.A 0 _ _ _ Qa loop)
def ag (S:EF X.N X.env.scope scope ce zs AD js)(I:Inv X pins σ H s):closureFor scope X.env=pure (BJ X.env.cells scope.names):=ra fun y hy hk=>by
 obtain ⟨c,e⟩:=I.ok.has y.1 (.inl (S.all y hy hk));rw [e];rfl
def V1 (hW:∀ J σ H1 acc Q,CW J σ H1 acc Q->NQ g zs.length J js tt te σ H1 acc Q)(hc:X.calm=true)(S:EF X.N X.env.scope scope ce zs AD js)(hi:PI X tg iter wi)
  (hg:∀ fp C s H,PG (EX X (AD++zs) scope ce (BJ X.env.cells scope.names) C s H fp) tg g)
  (C6:∀ fp C s H,G7 (EX X (AD++zs) scope ce (BJ X.env.cells scope.names) C s H fp) ifs tt) (C7:∀ fp C s H,PE (EX X (AD++zs) scope ce (BJ X.env.cells scope.names) C s H fp) elt te)
  (hs:∀ v,foldedSetIterable iter X.env v=pure v):PE X (.ListComp elt [⟨tg,iter,ifs,0⟩] scope pos) (X9 CW wi):=by
 intro pins s σ H Q I h;rw [eval_ListComp];refine rF (use:=none) rfl hs (ag S I) S.kind S.loc (AF (hi pins s σ H _ I h) fun v s1 h1=>AF h1 fun Qh s2 h2=>?_);obtain ⟨it,fp,tn,J,H2,e,I2,T,IU,f2,hw⟩:=h2;subst e;refine ba (RR:=fun acc C=>compPost (model X.prog X.w) X.A X.xe none (EP X pins σ Q) acc C) hc S (hg fp) (C6 fp) (C7 fp) T I2 IU f2 Q (fun acc ha=>hW _ _ _ _ _ (hw acc ha)) fun acc C H' s' m I' fC hn q=>⟨m,hn,fun h' SK=>?_⟩;exact ⟨.ref acc,H',I'.turned (t':=s'.toks) (fun b o hb e=>(SK.2 b hb).trans e) fC.1 fC.2.1 fC.2.2.2.1 fC.2.2.2.2.1 fC.2.2.2.2.2,rfl,q⟩
def Vt (hW:∀ J σ H1 acc Q,CW J σ H1 acc Q->NQ g zs.length J js tt te σ H1 acc Q){y:Str}(hN:X.N.Nodup)(Bb:X.N[i]?=some y)(hy:Loc X.env.scope y)(hc:X.calm=true)(S:EF X.N X.env.scope scope ce zs AD js)(hi:PI X tg iter wi)
  (hg:∀ fp C s H,PG (EX X (AD++zs) scope ce (BJ X.env.cells scope.names) C s H fp) tg g)
  (C6:∀ fp C s H,G7 (EX X (AD++zs) scope ce (BJ X.env.cells scope.names) C s H fp) ifs tt) (C7:∀ fp C s H,PE (EX X (AD++zs) scope ce (BJ X.env.cells scope.names) C s H fp) elt te)
  (GB:swapsWith (.ListComp elt [⟨tg,iter,ifs,0⟩] scope pos) (some (.Name y py)) Dv.line X.env=pure true)
  (hf:X.fn y=true∨X.env.scope.names.lookup y=some .local)
  (hs:∀ v,foldedSetIterable iter X.env v=pure v):PS X (.Assign [.Name y py] (.ListComp elt [⟨tg,iter,ifs,0⟩] scope pos) Dv) (DK (X9 CW wi) (Bz i)):=by
 intro pins s σ H D I h;rw [exec_Assign_Name_used _ _ _ _ GB];refine gd (sX (gd ?_));show wpAny _ X.A (do let _ <- comprehension (.ListComp elt [⟨tg,iter,ifs,0⟩] scope pos) scope X.env _ (newList []) false (eval iter X.env) (some (assign (.Name y py) X.env))) _ _ s
 refine gd (jo (rF (use:=some (assign (.Name y py) X.env)) (Q:=fun _ s'=>SP X pins D .next s') rfl hs (ag S I) S.kind S.loc
  (AF (hi pins s σ H _ I h) fun v s1 h1=>AF h1 fun Qh s2 h2=>?_)) (fun _ s' hq=>i7 (i7 hq)) fun _ _ e=>e)
 obtain ⟨it,fp,tn,J,H2,e,I2,T,IU,f2,hw⟩:=h2;subst e;refine ba (RR:=fun acc C=>compPost (model X.prog X.w) X.A X.xe (some (assign (.Name y py) X.env)) (fun _ s'=>SP X pins D .next s') acc C) hc S (hg fp) (C6 fp) (C7 fp) T I2 IU f2 _ (fun acc ha=>hW _ _ _ _ _ (hw acc ha)) fun acc C H' s' m I' fC hn q=>?_;show wpAny _ X.A (assign (.Name y py) X.env (.ref acc)) _ _ s';refine wpAny_assign_Name (d3 (v:=.ref acc) I' hN Bb hy rfl (fun N3 rD ⟨a,xQ,ha⟩=>?_) hf);have As:C≠a:=by
  rcases ha with z | z
  ·rw [z];exact fC.2.1
  ·exact (fC.2.2.2.2.1 y a z).symm
 refine ⟨m,hn.sameBut xQ As,fun h' SK=>?_⟩;exact ⟨_,H',rD.turned (t':=N3.toks) (fun b o hb e=>(SK.2 b hb).trans e) fC.1 fC.2.1 fC.2.2.2.1 fC.2.2.2.2.1 fC.2.2.2.2.2,q⟩
theorem cK {n:Nat}{cl:List (Str×Addr)}:∀ {names:List (Str×NameKind)},(∀ y∈names,y.2≠.cell)->cellsFrom n names cl=cl
 | [],_=>rfl
 | (x,k)::r,h=>by
  have hk:(k == NameKind.cell)=false:=beq_eq_false_iff_ne.mpr (h _ HG);rw [cellsFrom,hk];exact cK fun y hy=>h y (E5 _ hy)
theorem ZY {h0:Heap}:∀ {names:List (Str×NameKind)},(∀ y∈names,y.2≠.cell)->pushCells h0 names=h0
 | [],_=>rfl
 | (x,k)::r,h=>by
  have hk:(k == NameKind.cell)=false:=beq_eq_false_iff_ne.mpr (h _ HG);rw [pushCells,hk];exact ZY fun y hy=>h y (E5 _ hy)
def EF.bI (kind:scope.kind=.function)(KR:∀ y∈scope.names,y.2≠.cell)(loc:∀ y∈scope.names,y.2=.local->scope.names.lookup y.1=some .local)
  (at':js.map (fun j=>N[j]?)=AD.map some) (cell:∀ y∈AD,outer.names.lookup y=some .cell) (free:∀ y∈AD,scope.names.lookup y=some .free)
  (all:∀ y∈scope.names,y.2=.free->outer.names.lookup y.1=some .cell) (nd:(AD++zs).Nodup):EF N outer scope none zs AD js:=
 ⟨kind,loc,fun y hy e=>absurd e (KR y hy),fun x e=>(by cases e),fun n cl=>cK KR,fun h=>ZY KR,at',cell,free,all,nd⟩
def EF.len (S:EF N outer scope ce zs AD js)(σ:St):(BB js σ).length=AD.length:=by
 unfold BB;rw [A9];have:=l9 List.length S.at';simpa using this
def Pr (S:EF N outer scope ce [x] AD js)(J:It)(σ:St)(H1:Hp)(acc:Addr)(Q:VK)(h:JC J js tt te σ H1 acc Q):NQ (Bz AD.length) 1 J js tt te σ H1 acc Q:=by
 obtain ⟨W,h0,h⟩:=h;refine ⟨W,h0,fun i m H2 w=>(h i m H2 w).imp id fun z=>⟨z.1,fun x H3 y ws hw=>?_⟩⟩
 match ws,hw with
 | [w],_=>
  have e:(BB js σ++[w]).set AD.length (some x)=BB js σ++[some x]:=by rw [<- S.len σ];exact nA _ _ _
  exact ⟨[some x],rfl,e,by rw [e];exact z.2 x H3 y⟩
def QM (S:EF X.N X.env.scope scope ce [x] AD js)(hx:scope.names.lookup x=some .local∨(ce=some x/\scope.names.lookup x=some .cell)):
  PG (EX X (AD++[x]) scope ce cl C s H fp) (.Name x px) (Bz AD.length):=
 W0 S.nd (by simp) (hx.imp (fun h=>nY h) fun h=>jk h.2) (hx.symm.imp (fun h=>by show (ce == some x)=true;rw [h.1];exact jw _) fun h=>nY h)
inductive Hi:List Str->List Expr->Prop
 | nil:Hi [] []
 | cons {x zs p es}:Hi zs es->Hi (x::zs) (.Name x p::es)
def Kq (i:Nat):Nat->G1
 | 0=>NT
 | n+1=>IL (Bz i) (Kq (i+1) n)
theorem bN {Q:St->Hp->Prop}{H:Hp}:∀ {us:List V}{l ws:St},ws.length=us.length->Q (l++us.map some) H->Kq l.length us.length us (l++ws) H Q
 | [],l,ws,h,q=>by
  rw [List.length_eq_zero_iff.mp h];exact ⟨rfl,q⟩
 | u::us,l,w::ws,h,q=>by
  refine ⟨u,us,rfl,?_⟩;show Kq (l.length+1) us.length us ((l++w::ws).set l.length (some u)) H Q;have e:(l++w::ws).set l.length (some u)=(l++[some u])++ws:=by
   rw [List.set_append_right _ _ (Aj _),Nat.sub_self];simp
  have el:l.length+1=(l++[some u]).length:=by simp
  rw [e,el];refine bN (l:=l++[some u]) (by simpa using h) ?_
  rw [Ce];exact q
theorem ay {X:Cx}(hN:X.N.Nodup):∀ {zs:List Str}{es:List Expr}{i:Nat},Hi zs es->(∀ (j:Nat) x,zs[j]?=some x->X.N[i+j]?=some x/\Loc X.env.scope x/\X.env.scope.names.lookup x=some .local)->LA X es (Kq i zs.length)
 | _,_,_,.nil,_=>bP
 | _,_,i,.cons (x:=x) (zs:=zs) r,h=>by
  obtain ⟨h1,h2,h3⟩:=h 0 _ rfl;refine Zk (W0 hN h1 h2 (.inr h3)) (ay hN r fun j y hj=>?_);have:=h (j+1) y hj
  rwa [show i+(j+1)=i+1+j by omega] at this
def OX (K:ZAy)(n:Nat)(J:It)(js:List Nat)(tt:TT)(te:TE)(σ:St)(H1:Hp)(acc:Addr)(Q:VK):Prop:=
 ∃ W:Nat->Nat->Hp->Prop,(∃ m,W 0 m (upd H1 acc (.lst [])))/\∀ i m H2,W i m H2->
  (J.stop i H2/\Q (.ref acc) H2)∨(J.go i H2/\∀ x H3,J.E9 i H2 x H3->∃ a us,x=.ref a/\An K H3 a us/\us.length=n/\TC tt te acc W i m (BB js σ++us.map some) H3)
def YG {K:ZAy}(S:EF N outer scope ce zs AD js)(J:It)(σ:St)(H1:Hp)(acc:Addr)(Q:VK)(h:OX K zs.length J js tt te σ H1 acc Q):NQ (LI K zs.length (Kq AD.length zs.length)) zs.length J js tt te σ H1 acc Q:=by
 obtain ⟨W,h0,h⟩:=h;refine ⟨W,h0,fun i m H2 w=>(h i m H2 w).imp id fun z=>⟨z.1,fun x H3 y ws hw=>?_⟩⟩;obtain ⟨a,us,e,hs,hu,q⟩:=z.2 x H3 y;refine ⟨a,us,e,hs,hu,?_⟩;rw [<- hu,<- S.len σ];exact bN (by rw [hw,hu]) ⟨us.map some,A9 ..,rfl,q⟩
def cy {tp:Pos}(hc:X.calm=true)(S:EF X.N X.env.scope scope ce zs AD js)(Ft:∀ x∈zs,scope.names.lookup x=some .local)(HR:Hi zs es)(HV:∀ e,(assignEach es e).length=zs.length)(EH:∀ e,(assignEach es e).findIdx? (·.1)=none):
  PG (EX X (AD++zs) scope ce cl C s H fp) (.Tuple es tk tp) (LI X.K zs.length (Kq AD.length zs.length)):=
 XJ (X:=EX X (AD++zs) scope ce cl C s H fp) hc (ay S.nd (i:=AD.length) HR fun j y hj=>by
  have hm:=C2 hj;exact ⟨by show (AD++zs)[AD.length+j]?=_;rw [EJ (by omega),Nat.add_sub_cancel_left];exact hj,.inl (nY (Ft y hm)),nY (Ft y hm)⟩) (HV _) (EH _)
def CK.G (S:CK N outer scope x AD js):EF N outer scope none [x] AD js:=.bI S.kind S.KR S.loc S.at' S.cell S.free S.all S.nd
def qX (hc:X.calm=true)(S:CK X.N X.env.scope scope x AD js)(hi:PI X (.Name x px) iter wi)
  (C6:∀ fp C s H,G7 (EG X (AD++[x]) scope (BJ X.env.cells scope.names) C s H fp) ifs tt) (C7:∀ fp C s H,PE (EG X (AD++[x]) scope (BJ X.env.cells scope.names) C s H fp) elt te)
  (hs:∀ v,foldedSetIterable iter X.env v=pure v:=by intro _;rfl):PE X (.ListComp elt [⟨.Name x px,iter,ifs,0⟩] scope pos) (HD wi js tt te):=
 V1 (CW:=fun J σ H1 acc Q=>JC J js tt te σ H1 acc Q) (Pr S.G) hc S.G hi (fun _ _ _ _=>QM S.G (.inl S.Ft)) C6 C7 hs
def yB {y:Str}(hN:X.N.Nodup)(Bb:X.N[i]?=some y)(hy:Loc X.env.scope y)(hc:X.calm=true)(S:CK X.N X.env.scope scope x AD js)(hi:PI X (.Name x px) iter wi)
  (C6:∀ fp C s H,G7 (EG X (AD++[x]) scope (BJ X.env.cells scope.names) C s H fp) ifs tt) (C7:∀ fp C s H,PE (EG X (AD++[x]) scope (BJ X.env.cells scope.names) C s H fp) elt te)
  (GB:swapsWith (.ListComp elt [⟨.Name x px,iter,ifs,0⟩] scope pos) (some (.Name y py)) Dv.line X.env=pure true:=by rfl)
  (hf:X.fn y=true∨X.env.scope.names.lookup y=some .local:=by first | exact .inl rfl | exact .inr rfl | assumption)
  (hs:∀ v,foldedSetIterable iter X.env v=pure v:=by intro _;rfl):PS X (.Assign [.Name y py] (.ListComp elt [⟨.Name x px,iter,ifs,0⟩] scope pos) Dv) (DK (HD wi js tt te) (Bz i)):=
 Vt (CW:=fun J σ H1 acc Q=>JC J js tt te σ H1 acc Q) (Pr S.G) hN Bb hy hc S.G hi (fun _ _ _ _=>QM S.G (.inl S.Ft)) C6 C7 GB hf hs
end
def FC (K:ZAy)(tp:Bool)(H:Hp)(a:Addr)(xs:List V):Prop:=match tp with
 | false=>AI K H a xs
 | true=>An K H a xs
def FC.or {K:ZAy}{tp:Bool}{xs:List V}(h:FC K tp H a xs):AI K H a xs∨An K H a xs:=by
 cases tp
 ·exact .inl h
 ·exact .inr h
def Om (K:ZAy)(tp:Bool)(a:Addr)(xs:List V):It:=
 ⟨fun i H=>FC K tp H a xs/\i<xs.length,fun i H x H'=>H'=H/\xs[i]?=some x,fun i H=>FC K tp H a xs/\xs.length<=i⟩
def og {P:Program}{K:ZAy}(a it:Addr)(xs:List V):Turn P w K tg (Om K false a xs) [it] it (fun i h=>h.IsListIter it a i) where
 mem:=by simp
 obj:=(LG (P:=P) (w:=w) (K:=K) (tg:=tg) a it).obj
 keep:=(LG (P:=P) (w:=w) (K:=K) (tg:=tg) a it).keep
 item:=by
  intro X hP hw hK hc i pins s σ H E I hf st hg;obtain ⟨hq,hi⟩:=hg;refine AF ((LG (P:=P) (w:=w) (K:=K) (tg:=tg) a it).item X hP hw hK hc i pins s σ H E I hf st ⟨xs,xs[i],hq,by simp [hi]⟩) fun r s1 ⟨u,e,h⟩=>⟨u,e,AF h fun _ s2 ⟨x,H',I',rx,y,CI,f'⟩=>⟨x,H',I',rx,⟨y.1,y.2 xs hq⟩,CI,f'⟩⟩
 done:=by
  intro X hP hw hK hc i pins s σ H E I hf st hg;exact (LG (P:=P) (w:=w) (K:=K) (tg:=tg) a it).done X hP hw hK hc i pins s σ H E I hf st ⟨xs,hg.1,hg.2⟩
 self:=(LG (P:=P) (w:=w) (K:=K) (tg:=tg) a it).self
def w6 {P:Program}{K:ZAy}(a it:Addr)(xs:List V):Turn P w K tg (Om K true a xs) [it] it (fun i h=>h.IsTupleIter it a i) where
 mem:=by simp
 obj:=(NN (P:=P) (w:=w) (K:=K) (tg:=tg) a it).obj
 keep:=(NN (P:=P) (w:=w) (K:=K) (tg:=tg) a it).keep
 item:=by
  intro X hP hw hK hc i pins s σ H E I hf st hg;obtain ⟨hq,hi⟩:=hg;refine AF ((NN (P:=P) (w:=w) (K:=K) (tg:=tg) a it).item X hP hw hK hc i pins s σ H E I hf st ⟨xs,xs[i],hq,by simp [hi]⟩) fun r s1 ⟨u,e,h⟩=>⟨u,e,AF h fun _ s2 ⟨x,H',I',rx,y,CI,f'⟩=>⟨x,H',I',rx,⟨y.1,y.2 xs hq⟩,CI,f'⟩⟩
 done:=by
  intro X hP hw hK hc i pins s σ H E I hf st hg;exact (NN (P:=P) (w:=w) (K:=K) (tg:=tg) a it).done X hP hw hK hc i pins s σ H E I hf st ⟨xs,hg.1,hg.2⟩
 self:=(NN (P:=P) (w:=w) (K:=K) (tg:=tg) a it).self
def LU (K:ZAy)(tl:TE):TI:=fun σ H R=>tl σ H fun x H1=>∃ tp a xs,x=.ref a/\FC K tp H1 a xs/\R (Om K tp a xs) H1
def TJ (z:Str):It:=⟨fun i _=>i<z.cps.size,fun i H x H'=>H'=H/\∃ c,z.cps[i]?=some c/\x=.str ⟨#[c]⟩,fun i _=>i=z.cps.size⟩
def eZ {P:Program}{K:ZAy}{t:Tok}{ty:String}
  (hn:["enumerate","zip","dict_itemiterator","dict_reverseitemiterator","odict_iterator","itertools.zip_longest","itertools.pairwise"].contains ty=false)
  (W:∀ A:Around,A.handled=none->Walks P w A it [it] [it] z.cps.size (SignAt z) (fun i h=>h.IsStrIter it ty z t i))
  (self:∀ (A:Around) (i:Nat) (s:Shared) (Q:Value->Shared->Prop) (E:Value->Shared->Prop),s.heap.IsStrIter it ty z t i->Q (.ref it) s->wpAny (model P w) A (pyIter (.ref it)) Q E s) :
  Turn P w K tg (TJ z) [it] it (fun i h=>h.IsStrIter it ty z t i) where
 mem:=by simp
 obj:=fun i h st b hb=>by
  have e:b=it:=by simpa using hb
  subst e;obtain ⟨o,e,c,d⟩:=st;exact ⟨o,e,fun v z=>by rw [d] at z;cases z⟩
 keep:=fun i h h' st k=>let ⟨o,e,r⟩:=st;⟨o,k it (by simp) o e,r⟩
 item:=by
  intro X hP hw hK hc i pins s σ H E I hf st hg;subst hP hw hK;obtain ⟨f0,f1,f2,f3,f4,f5⟩:=hf it (by simp);refine (W X.A (I.ok.hd hc)).item i s _ _ hg st fun v h' tk ⟨c,u,PQ,hv⟩ CI kp=>?_;subst hv;have I1:Inv X pins σ H { s with heap:=h',toks:=tk }:=I.turned (t':=tk) (fun b o hb e=>kp b o (by simpa using hb) e) f0 f1 f3 f4 f5
  obtain ⟨o,e,cl,d⟩:=id CI;exact ⟨_,rfl,Nb (s:={ s with heap:=h',toks:=tk }) e cl d hn ⟨.str ⟨#[c]⟩,H,I1,⟨u,rfl⟩,⟨rfl,c,PQ,rfl⟩,CI,fun b hb=>(hf b hb).1⟩⟩
 done:=by
  intro X hP hw hK hc i pins s σ H E I hf st hg;subst hP hw hK;obtain ⟨f0,f1,f2,f3,f4,f5⟩:=hf it (by simp);have xr:i=z.cps.size:=hg;subst xr;exact (W X.A (I.ok.hd hc)).done s _ _ st fun h' tk kp=>⟨rfl,I.turned (t':=tk) (fun b o hb e=>kp b o (by simpa using hb) e) f0 f1 f3 f4 f5⟩
 self:=self
def eh (tl:TE):TI:=fun σ H R=>tl σ H fun x H1=>∃ z,x=.str z/\R (TJ z) H1
def D5 {p:Addr}(h:H p=none)(o:HO):AJ H (upd H p o):=fun b u q=>by rw [AS (DQ q h)];exact q
def yM {Q:VK}(xs:List V)(f:V->Bool)(g:V->V)(Aw:H1 acc=none)(hz:xs.length<=sizeLine)
  (oQ:∀ i H,AJ H1 H->i<xs.length->J.go i H) (Hs:∀ H,AJ H1 H->J.stop xs.length H) (hy:∀ i H x H',J.E9 i H x H'->H'=H/\xs[i]?=some x)
  (ht:∀ (i:Nat) (x:V) (H':Hp) (Q':Bool->Hp->Prop),xs[i]?=some x->AJ H1 H'->(∀ G0,AJ H' G0->Q' (f x) G0)->tt (BB js σ++[some x]) H' Q')
  (he:∀ (i:Nat) (x:V) (H':Hp) (Q':VK),xs[i]?=some x->f x=true->AJ H1 H'->(∀ G0,AJ H' G0->Q' (g x) G0)->te (BB js σ++[some x]) H' Q')
  (hd:∀ H',AJ H1 H'->H' acc=some (.lst ((xs.filter f).map g))->Q (.ref acc) H'):JC J js tt te σ H1 acc Q:=by
 refine ⟨fun i m H=>m=xs.length - i/\i<=xs.length/\AJ H1 H/\H acc=some (.lst (((xs.take i).filter f).map g)),⟨xs.length,by simp,CD _,D5 Aw _,Al⟩,?_⟩;rintro i m H2 ⟨rfl,hi,sm,ha⟩
 by_cases AM:i<xs.length
 ·refine .inr ⟨oQ i H2 sm AM,fun x H3 y=>?_⟩;obtain ⟨e,hx⟩:=hy i H2 x H3 y;subst e;have J4:(xs.take (i+1))=xs.take i++[x]:=by
   have e2:xs[i]=x:=by
    rw [AR AM] at hx;exact B8 hx
   rw [OE AM,e2]
  have e1:List.filter f (xs.take (i+1))=(xs.take i).filter f++(if f x=true then [x] else []):=by
   rw [J4,Wr];congr 1
   by_cases hf:f x=true <;> simp [hf]
  refine ht i x _ _ hx sm fun H4 s4=>?_
  by_cases hf:f x=true
  ·rw [gq hf];refine he i x H4 _ hx hf (sm.trans s4) fun H5 s5=>?_;have hlen:(((xs.take i).filter f).map g).length<sizeLine:=by
    rw [A9];have:=Ww f (xs.take i);rw [D4] at this;omega
   refine ⟨_,s5 _ _ (s4 _ _ ha),hlen,xs.length - (i+1),by omega,rfl,AM,fun b o q=>?_,?_⟩
   ·have hb:b≠acc:=by rintro rfl;rw [Aw] at q;cases q
    rw [AS hb];exact s5 _ _ (s4 _ _ (sm b o q))
   ·rw [Al,e1,gq hf,CO];rfl
  ·have Mq:f x=false:=by simpa using hf
   rw [Mq];rw [gg (by decide)];refine ⟨xs.length - (i+1),by omega,rfl,AM,sm.trans s4,?_⟩;rw [e1,gg hf,DV];exact s4 _ _ ha
 ·have e:i=xs.length:=by omega
  subst e;refine .inl ⟨Hs H2 sm,hd H2 sm ?_⟩;rw [Ee] at ha;exact ha
def Fh (z:Str):List V:=z.cps.toList.map fun c=>.str ⟨#[c]⟩
def Vl (z:Str):(Fh z).length=z.cps.size:=by unfold Fh;simp
def pF {Q:VK}(f:V->Bool)(g:V->V)(Aw:H1 acc=none)(hz:z.cps.size<=sizeLine)
  (ht:∀ (i:Nat) (x:V) (H':Hp) (Q':Bool->Hp->Prop),(Fh z)[i]?=some x->AJ H1 H'->(∀ G0,AJ H' G0->Q' (f x) G0)->tt (BB js σ++[some x]) H' Q')
  (he:∀ (i:Nat) (x:V) (H':Hp) (Q':VK),(Fh z)[i]?=some x->f x=true->AJ H1 H'->(∀ G0,AJ H' G0->Q' (g x) G0)->te (BB js σ++[some x]) H' Q')
  (hd:∀ H',AJ H1 H'->H' acc=some (.lst (((Fh z).filter f).map g))->Q (.ref acc) H'):JC (TJ z) js tt te σ H1 acc Q:=by
 refine yM (Fh z) f g Aw (by rw [Vl];exact hz) (fun i H s hi=>?_) (fun H s=>?_) (fun i H x H' y=>?_) ht he hd
 ·rw [Vl] at hi;exact hi
 ·show (Fh z).length=z.cps.size;exact Vl z
 ·obtain ⟨e,c,hc,hx⟩:=y;refine ⟨e,?_⟩;subst hx;unfold Fh;rw [AV,fg,hc];rfl
def Gb (xs ys:List V):Bool:=xs.length == ys.length && (List.range xs.length).all fun j=>DM (xs.getD j .A8) (ys.getD j .A8)
def NF {xs:List V}{x:V}(h:xs[j]?=some x):xs.getD j .A8=x:=by rw [DW,h];rfl
def Xn {xs:List V}{x:V}(h:xs.all Cp=true)(e:xs[j]?=some x):Cp x=true:=List.all_eq_true.mp h x (C2 e)
def XI {xs:List V}{BC:List Value}(r1:Vals xs A1)(r2:Vals ys BC)(fx:xs.all Cp=true)(fy:ys.all Cp=true):
  ∀ j (h1:j<A1.toArray.size) (h2:j<BC.toArray.size),SeqAt.EqAt A s A1.toArray[j] BC.toArray[j] (DM (xs.getD j .A8) (ys.getD j .A8)):=fun j h1 h2=>by
 have l1:=r1.length;have l2:=r2.length;have Co:j<A1.length:=by simpa using h1
 have DR:j<BC.length:=by simpa using h2
 have e1:xs[j]?=some (xs[j]'(by omega)):=AR _;have e2:ys[j]?=some (ys[j]'(by omega)):=AR _;obtain ⟨u,hu,ru⟩:=r1.get e1;obtain ⟨v,hv,rv⟩:=r2.get e2;rw [AR Co] at hu;rw [AR DR] at hv;have FH:A1[j]=u:=B8 hu;have Hq:BC[j]=v:=B8 hv;rw [NF e1,NF e2];have q:=R4 (A:=A) (s:=s) ru rv (Xn fx e1) (Xn fy e2);rw [<- FH,<- Hq] at q
 simpa using q
def Sh (K:ZAy)(neg:Bool):R2:=fun x y H Q=>∃ p q xs ys,x=.ref p/\y=.ref q/\((AI K H p xs/\AI K H q ys)∨(An K H p xs/\An K H q ys))/\xs.all Cp=true/\ys.all Cp=true/\
 Q (.bl (if neg then !Gb xs ys else Gb xs ys)) H
def Oe {xs:List V}(h:xs.length≠ys.length):Gb xs ys=false:=by
 unfold Gb;have:(xs.length == ys.length)=false:=by simpa using h
 rw [this,Bool.false_and]
def PF {xs:List V}(h:xs.length=ys.length):Gb xs ys=(List.range xs.length).all fun j=>DM (xs.getD j .A8) (ys.getD j .A8):=by
 unfold Gb;have:(xs.length == ys.length)=true:=by simpa using h
 rw [this,fj]
def Ow (hu:X.A.units<cLine):B2 X (compareOp .NotEq) (Sh X.K true):=by
 intro pins s σ H x y v u Q I rx ry h;obtain ⟨p,q,xs,ys,rfl,rfl,hq,fx,fy,hQ⟩:=h;cases rx;cases ry;have Fn:Q (.bl (!Gb xs ys)) H:=hQ;rcases hq with ⟨ha,hb⟩ | ⟨ha,hb⟩
 ·obtain ⟨A1,r1,p1,z1⟩:=I.list ha;obtain ⟨BC,r2,p2,z2⟩:=I.list hb;have l1:=r1.length;have l2:=r2.length
  by_cases hl:xs.length=ys.length
  ·refine SeqAt.RcNeAt.lists (e:=fun j=>DM (xs.getD j .A8) (ys.getD j .A8)) p1.isList p2.isList (by simp;omega) hu (XI r1 r2 fx fy) _ _ _ _ ⟨.bl _,H,I,rfl,?_⟩;rw [PF hl] at Fn;simp only [BV,<- l1];exact Fn
  ·rw [Oe hl] at Fn;exact ZAO p1.isList p2.isList (by simp;omega) hu _ _ _ _ ⟨.bl true,H,I,rfl,Fn⟩
 ·obtain ⟨A1,r1,p1,z1⟩:=I.tuple ha;obtain ⟨BC,r2,p2,z2⟩:=I.tuple hb;have l1:=r1.length;have l2:=r2.length;refine SeqAt.RcNeAt.tuples (e:=fun j=>DM (xs.getD j .A8) (ys.getD j .A8)) p1 p2 hu (XI r1 r2 fx fy) _ _ _ _ ⟨.bl _,H,I,rfl,?_⟩;simp only [BV,<- l1,<- l2]
  by_cases hl:xs.length=ys.length
  ·rw [PF hl] at Fn;have:(xs.length == ys.length)=true:=by simpa using hl
   rw [this,Bool.and_true,<- hl,Nat.min_self];exact Fn
  ·rw [Oe hl] at Fn;have:(xs.length == ys.length)=false:=by simpa using hl
   rw [this,WY];exact Fn
def kO:C3 X (.builtin "isinstance") (fun xs H Q=>∃ x n t b,xs=[x,.ty n]/\Ec X.K H x t/\PySem.W.kitOne X.K t (.type n)=some b/\Q (.bl b) H):=by
 intro pins s σ H xs us Q I r h;obtain ⟨x,n,t,b,rfl,ty,e,q⟩:=h;obtain ⟨u,w',rfl,rx,rt⟩:=vals2 r;cases rt;exact zV I rx ty e fun tk=>⟨.bl b,H,I.tok tk,rfl,q⟩
def eK {bs:List Bool}(r:Vals (bs.map V.bl) A1)(e:A1[i]?=some v):v=.bool (bs.getD i false):=by
 have hl:=r.length;rw [A9] at hl;have hi:i<A1.length:=(List.getElem?_eq_some_iff.mp e).1;have e1:(bs.map V.bl)[i]?=some (.bl (bs[i]'(by omega))):=by rw [AV,AR (by omega)];rfl
 obtain ⟨u,hu,ru⟩:=r.get e1;rw [e] at hu;cases hu;cases ru;rw [DW,AR (by omega)];rfl
def range_all (bs:List Bool):(List.range bs.length).all (fun i=>bs.getD i false)=bs.all id:=by
 rw [M4,IC,IC];constructor
 ·intro h x hx;obtain ⟨i,hi,rfl⟩:=List.mem_iff_getElem.mp hx;have:=h i (List.mem_range.mpr hi);rw [DW,AR hi] at this;exact this
 ·intro h i hi;rw [DW,AR (List.mem_range.mp hi)];exact h _ (Fq _)
def range_any (bs:List Bool):(List.range bs.length).any (fun i=>bs.getD i false)=bs.any id:=by
 rw [M4,gB,gB];constructor
 ·rintro ⟨i,hi,h⟩;have Bb:=List.mem_range.mp hi;rw [DW,AR Bb] at h;exact ⟨_,Fq Bb,h⟩
 ·rintro ⟨x,hx,h⟩;obtain ⟨i,hi,rfl⟩:=List.mem_iff_getElem.mp hx;refine ⟨i,List.mem_range.mpr hi,?_⟩;rw [DW,AR hi];exact h
def YK (hc:X.calm=true):C3 X (.builtin "all") (fun xs H Q=>∃ (p:Addr) (bs:List Bool),xs=[.ref p]/\AI X.K H p (bs.map V.bl)/\Q (.bl (bs.all id)) H):=by
 intro pins s σ H xs us Q I r h;obtain ⟨p,bs,rfl,hq,q⟩:=h;obtain ⟨u,rfl,rx⟩:=vals1 r;cases rx;obtain ⟨A1,rv,pl,hz⟩:=I.list hq;have hl:=rv.length;rw [A9] at hl;refine call_all_walk (mK pl.isList ?_);obtain ⟨o,n,ho,_⟩:=id pl;have As:p≠s.heap.objs.size:=CQ (Au ho);refine ⟨s.heap.objs.size,_,_,_,_,_,fun i=>bs.getD i false,rfl,Walks.list (by rw [Around.in1_handled];exact I.ok.hd hc) _ p As A1.toArray,⟨⟨_,C1 _ rfl,rfl,rfl⟩,pl.isList.push _⟩,fun i v s' Q' E' hv Fn=>?_,fun h' tk kp=>?_⟩
 ·have ev:v=.bool (bs.getD i false):=eK rv (by simpa using hv)
  rw [ev];exact iK Fn
 ·refine ⟨.bl _,H,I.kept (t':=tk) fun b ob e=>kp b ob (by simpa using CQ (Au e)) (Bi _ e),rfl,?_⟩
  rw [BV,<- hl,range_all];exact q
def ue (hc:X.calm=true):C3 X (.builtin "any") (fun xs H Q=>∃ (p:Addr) (bs:List Bool),xs=[.ref p]/\AI X.K H p (bs.map V.bl)/\Q (.bl (bs.any id)) H):=by
 intro pins s σ H xs us Q I r h;obtain ⟨p,bs,rfl,hq,q⟩:=h;obtain ⟨u,rfl,rx⟩:=vals1 r;cases rx;obtain ⟨A1,rv,pl,hz⟩:=I.list hq;have hl:=rv.length;rw [A9] at hl;refine call_any_walk (mK pl.isList ?_);obtain ⟨o,n,ho,_⟩:=id pl;have As:p≠s.heap.objs.size:=CQ (Au ho);refine ⟨s.heap.objs.size,_,_,_,_,_,fun i=>bs.getD i false,rfl,Walks.list (by rw [Around.in1_handled];exact I.ok.hd hc) _ p As A1.toArray,⟨⟨_,C1 _ rfl,rfl,rfl⟩,pl.isList.push _⟩,fun i v s' Q' E' hv Fn=>?_,fun h' tk kp=>?_⟩
 ·have ev:v=.bool (bs.getD i false):=eK rv (by simpa using hv)
  rw [ev];exact iK Fn
 ·refine ⟨.bl _,H,I.kept (t':=tk) fun b ob e=>kp b ob (by simpa using CQ (Au e)) (Bi _ e),rfl,?_⟩
  rw [BV,<- hl,range_any];exact q
def SO:V->List V->Hp->VK->Prop:=fun x vs H Q=>∃ (l:Addr) (xs:List V) (j:Int) (y:V),x=.ref l/\vs=[.int j,y]/\H l=some (.lst xs)/\0<=j/\j<=xs.length/\xs.length<sizeLine/\Q .A8 (upd H l (.lst (xs.take j.toNat++y::xs.drop j.toNat)))
def jZ:LB X "list.insert" SO:=by
 intro pins s σ H x vs v us Q I rx rv h;obtain ⟨l,xs,j,y,rfl,rfl,hH,ON,pX,hz,q⟩:=h;cases rx;obtain ⟨ui,uy,rfl,ri,ry⟩:=rv.two;obtain ⟨t,rfl⟩:=ri;obtain ⟨z,A1,n,r,hl,e⟩:=I.HX hH;have h2:j<2 ^ 63:=by
  have h4:(xs.length:Int)<=(sizeLine:Int):=Int.ofNat_le.mpr z;have h3:((sizeLine:Nat):Int)<2 ^ 63:=by exact_mod_cast IK
  omega
 have v5:(!Builtin.List.listFitsIndex j)=true->False:=by
  have h1:Builtin.List.listFitsIndex j=true:=by
   unfold Builtin.List.listFitsIndex;rw [FN];exact ⟨hJ (by omega),hJ h2⟩
  rw [h1];exact fun h=>nomatch h
 have Np:A1.toArray.size<=sizeLine:=Em (gP (List.size_toArray.trans hl.symm)) z;refine nC ZAH ⟨_,e,rfl⟩ PySem.F.entry_list_insert (PySem.F.args_list_insert_3 _ _ _) (PySem.AutoSeq1.list_insert_list_int_val_1 l A1.toArray n j t uy v5 Np) ⟨e,?_⟩;refine ⟨.A8,_,I.Kv (its':=A1.take j.toNat++uy::A1.drop j.toNat) hH e ?_ ((r.take _).append (.cons ry (r.drop _))) ?_,rfl,q⟩
 ·have h0:¬ (j<0):=by omega
  have hm:min j.toNat A1.toArray.size=j.toNat:=by simp;omega
  simp only [h0,uE,hm];apply Array.toList_inj.mp;simp;exact Kc (by simp)
 ·rw [Bo,Bu,D4,gG];omega
def N9 (x:V)(xs:List V):Nat:=xs.countP fun y=>DM y x
theorem Tj {x:V}:∀ {xs:List V}{us:List Value},Vals xs us->xs.all Cp=true->us.countP (DC x)=N9 x xs
 | _,_,.nil,_=>rfl
 | y::xs,u::us,.cons r t,h=>by
  have h1:Cp y=true/\xs.all Cp=true:=by simpa [OB] using h
  unfold N9;rw [gC,gC,Vd r h1.1,Tj t h1.2];rfl
def ql (K:ZAy):V->List V->Hp->VK->Prop:=fun x vs H Q=>∃ l xs y,x=.ref l/\vs=[y]/\AI K H l xs/\Cp y=true/\xs.all Cp=true/\Q (.int (N9 y xs)) H
def jf:LB X "list.count" (ql X.K):=by
 intro pins s σ H x vs v us Q I rx rv h;obtain ⟨l,xs,y,rfl,rfl,hq,fy,fs,q⟩:=h;cases rx;obtain ⟨u,rfl,ru⟩:=rv.one;obtain ⟨A1,r,pl,hz⟩:=I.list hq;obtain ⟨⟨c,d,dt,sl⟩,n,ho,hc,hd,GP⟩:=id pl;simp only at hc hd GP;subst hc;subst hd;subst GP;refine nC F.slot_list_count ⟨_,ho,rfl⟩ F.entry_list_count (F.args_list_count_2 _ _) (SeqAt.list_countAt l A1.toArray n none sl u (DC y)) ⟨ho,fun z N0=>Ir ru fy r fs z (by simpa using N0),?_⟩
 refine ⟨.int _,H,I.tok _,⟨_,rfl⟩,?_⟩;rw [ZA7,Tj r fs];exact q
def ji:V->Option Int->Option Int->Hp->VK->Prop:=fun x lo hi H Q=>∃ z,x=.str z/\z.length<=sizeLine/\Q (.str (Txt.slice z lo hi)) H
def part_of {o:Option Int}(p:IsPart v o):∃ l:Option (Int×Tok),v=partValue l/\l.map (·.1)=o:=by
 cases p with
 | none=>exact ⟨none,rfl,rfl⟩
 | int i t=>exact ⟨some (i,t),rfl,rfl⟩
def XD:OO X ji:=by
 intro pins s σ H x v vl vu lo hi sl Q I rx hs pl pu h;obtain ⟨z,rfl,hz,q⟩:=h;obtain ⟨t,rfl⟩:=rx;obtain ⟨l,rfl,hl⟩:=part_of pl;obtain ⟨u,rfl,hu⟩:=part_of pu;subst hl;subst hu;refine ⟨"str", _,F.slot_str_getitem.lookup,typeIs_str _ _ _,wpAny_getItem_str_slice (l:=l) (u:=u) (st:=none) hs rfl (post_val_or_str ⟨Em (Txt.slice_le z _ _) hz,fun t' k=>?_⟩)⟩;exact ⟨.str _,H,I.tok k,⟨t',rfl⟩,q⟩
end L2
set_option exponentiation.threshold 5000
namespace L2
variable {f p:Addr}{H:Hp}
def AB (P:Program)(w:World)(K:ZAy)(mg:ZB0)(base:Heap)(x:Str)(k:Nat)(ps:List Str)(sp:Sp):Prop:=
 ∃ f fd,D2 P w K mg base FD k f fd ps sp/\Binds K fd ps []/\PySem.W.keepIn K (.ref f)=true/\mg x=some (.ref f)
section
variable {P:Program}{w:World}{K:ZAy}{mg:ZB0}{base:Heap}{x qual:Str}{k:Nat}{ps:List Str}{sp:Sp}{st:Stmt}{fd:FuncData}
def AB.mk (F:AO K x qual st f fd)(b:Binds K fd ps [])(m:mg x=some (.ref f))(h:D2 P w K mg base FD k f fd ps sp):AB P w K mg base x k ps sp:=⟨f,fd,h,b,F.kp,m⟩
variable {X:Cx}{j:Nat}{p pos:Pos}{e:Expr}{es:List Expr}{t:TA}
def Oj (K:ZAy):List V->Hp->VK->Prop:=fun xs H Q=>∃ (p:Addr) (ys:List V),xs=[.ref p]/\(AI K H p ys∨An K H p ys)/\Q (.int ys.length) H
def Gd:C3 X (.builtin "len") (Oj X.K):=P2
def Zz (K:ZAy):List V->Hp->VK->Prop:=fun xs H Q=>∃ (x:V) (n:String) (t:Value) (b:Bool),xs=[x,.ty n]/\Ec K H x t/\PySem.W.kitOne K t (.type n)=some b/\Q (.bl b) H
def MW:C3 X (.builtin "isinstance") (Zz X.K):=kO
def NG:Et X "list.append" OQ:=b5
def zd:Et X "list.insert" SO:=jZ
def se:Et X "list.pop" Vk:=wB
def Zb (i j:Int):Prop:=i.natAbs<2 ^ 1000/\j.natAbs<2 ^ 1000
def ZW {n:Nat}(h:n<2 ^ 1000):n.log2<1000:=by
 rcases Nat.eq_zero_or_pos n with e | e
 ·subst e;exact (show (0:Nat).log2<1000 by decide)
 ·exact (Nat.log2_lt (Ke e)).mpr h
def bits_le {i:Int}(h:i.natAbs<2 ^ 1000):Builtin.Int.intBits i<=2 ^ 20:=by
 unfold Builtin.Int.intBits;split
 ·exact CD _
 ·have:=ZW h;have e:(2:Nat) ^ 20=1048576:=by decide
  omega
def Hg:B2 X (binaryOp .Mult) (rI Zb fun i j=>.int (i * j)):=Oc fun _ _ _ _ _ _ _ hc q=>mul_int q (.of_bits (bits_le hc.1) (bits_le hc.2))
def TB:B2 X (binaryOp .FloorDiv) (rI (fun _ j=>0<j/\j.natAbs<2 ^ 1000) fun i j=>.int (i / j)):=Oc fun i j _ _ _ _ _ hc q=>by
 have h1:(0:Int)<j:=hc.1;have h2:=ZW hc.2;exact floordiv_int (by omega) (by rw [Int.fdiv_eq_ediv_of_nonneg i (by omega)];exact q) (.inl (PyProof.noPylong_of_log2 (by omega)))
def wz {body rest:List Stmt}{t u:TS}(e:body=st::rest)(h:PS X st t)(h2:Dy X rest u):Dy X body (Mo t u):=by rw [e];exact yy h h2
def SG (t:TS):TS:=fun D σ H=>∃ J:St->Hp->Prop,t { D with nx:=J } σ H/\∀ σ' H',J σ' H'->D.nx σ' H'
end
def FT (p:Addr)(H H':Hp):Prop:=∀ b o,b≠p->H b=some o->H' b=some o
def FT.trans {H1 H2:Hp}(a:FT p H H1)(b:FT p H1 H2):FT p H H2:=fun c o hc e=>b c o hc (a c o hc e)
def FT.of {H':Hp}(a:AJ H H'):FT p H H':=fun c o _ e=>a c o e
theorem FT.upd {o:HO}:FT p H (upd H p o):=fun c u hc e=>by rw [AS hc];exact e
end L2
set_option maxHeartbeats 8000000
namespace L2
variable {ss:List Str}
def oy (P:Program)(w:World)(a:Addr)(f:Str->Bool)(n:Nat):HO:=.ext fun h=>h.SetOf (strKind P w) a f n
section
variable {X:Cx}
def zM {A1:List Value}(r:Vals (ss.map V.str) A1){i:Nat}{v:Value}(e:A1[i]?=some v):∃ (h:i<ss.length) (t:Tok),v=.str ss[i] t:=by
 have hl:=r.length;rw [A9] at hl;have hi:i<A1.length:=(List.getElem?_eq_some_iff.mp e).1;have Bb:i<ss.length:=by omega
 have e1:(ss.map V.str)[i]?=some (.str ss[i]):=by rw [AV,AR Bb];rfl
 obtain ⟨u,hu,ru⟩:=r.get e1;rw [e] at hu;cases hu;obtain ⟨t,q⟩:=ru;exact ⟨Bb,t,q⟩
end
end L2
set_option maxHeartbeats 4000000
namespace L2
variable {X:Cx}{a c e l o tg:Expr}{es ifs:List Expr}{body rest:List Stmt}{ta te tl to:TE}{t tb:TS}{tc tt:TT}{p pos pos' px:Pos}{name x y:Str}{EV op:CmpOp}{r:List V->Hp->VK->Prop}{i j n:Nat}{ps ss:List Str}{sp:Sp}{T:String}{wi:TI}{g:TG}{w:World}{I f:Addr}
structure QE (X:Cx) (e:Expr) (t:TE):Prop where h:PE X e t
structure QT (X:Cx) (e:Expr) (t:TT):Prop where h:PT X e t
structure QW (X:Cx) (e:Expr) (t:TT):Prop where h:PW X e t
structure QA (X:Cx) (es:List Expr) (t:TA):Prop where h:PA X es t
structure QS (X:Cx) (st:Stmt) (t:TS):Prop where h:PS X st t
structure HL (X:Cx) (st:List Stmt) (t:TS):Prop where h:Dy X st t
structure QG (X:Cx) (tg:Expr) (t:TG):Prop where h:PG X tg t
structure QR (X:Cx) (ts:List Expr) (t:G1):Prop where h:LA X ts t
structure QI (X:Cx) (tg iter:Expr) (wi:TI):Prop where h:PI X tg iter wi
structure Iv (X:Cx) (ifs:List Expr) (t:TT):Prop where h:G7 X ifs t
structure QO (X:Cx) (e:Option Expr) (t:TO):Prop where h:PO X e t
section
variable {b:Expr}{rest:List Expr}{tb tc:TE}{tA Hh:TT}{t:TA}{p2 apos BQ:Pos}
def qv (i:Nat)(hN:X.N[i]?=some x:=by rfl)(hv:UN X.env.scope x:=by first | exact Or.inl rfl | exact Or.inr (Or.inl rfl) | exact Or.inr (Or.inr rfl))(hd:(x == ("__debug__":Str))=false:=by decide)
  (G2:(x == ("__classdict__":Str))=false:=by decide):QE X (.Name x pos) (B1 i):=⟨by
 intro pins s σ H Q I h;obtain ⟨v,e,h⟩:=h;obtain ⟨m,hn,hl⟩:=I.loc;obtain ⟨u,r,l⟩:=hl i x v hN e hv;have fin:EP X pins σ Q u s:=⟨v,H,I,r,h⟩;rcases l with ⟨hk,hm⟩ | ⟨hk,c,hc,ai⟩
 ·exact wpAny_Name (wpAny_loadName_local I.ok.kind hk hn hm fin) hd
 ·rcases hk with hk | hk
  ·exact wpAny_Name (wpAny_loadName_cell I.ok.kind hk hc ai fin) hd
  ·exact wpAny_Name (wpAny_loadName_free I.ok.kind hk hc ai fin G2) hd⟩
def AA {i j pos}:QE X (.Constant (.int i) j pos) (tC (.int i)):=⟨fun _ _ _ H _ I h=>wpAny_Constant_int ⟨.int i,H,I.tok _,⟨_,rfl⟩,h⟩⟩
def Ic {b j pos}:QE X (.Constant (.bool b) j pos) (tC (.bl b)):=⟨fun _ _ _ H _ I h=>Constant_bool ⟨.bl b,H,I,rfl,h⟩⟩
def Lo {j pos}:QE X (.Constant .none j pos) (tC .A8):=⟨fun _ _ _ H _ I h=>Constant_none ⟨.A8,H,I,rfl,h⟩⟩
def BD {x j pos}:QE X (.Constant (.str x) j pos) (tC (.str x)):=⟨fun _ _ _ H _ I h=>Calls.Constant_str ⟨.str x,H,I.tok _,⟨_,rfl⟩,h⟩⟩
def Hr {v:V}{u:Value}(hg:Gl X x)(hm:X.mg x=some u)(r:RelV v u)(hd:(x == ("__debug__":Str))=false:=by decide):QE X (.Name x pos) (tC v):=⟨fun _ _ _ H _ I h=>UD I hg hm ⟨v,H,I,r,h⟩ hd⟩
def ND (T:String)(hm:X.mg x=none)(hg:Gl X x:=by rfl)(hv:bootBuiltins x=some (.type T):=by decide +kernel)(hn:x ≠ "__name__" := by decide)(hd:(x == ("__debug__":Str))=false:=by decide):
  QE X (.Name x pos) (tC (.ty T)):=⟨y8 hg hm hv rfl hn hd⟩
def Ap {op:Operator}{r:R2}(ho:B2 X (binaryOp op) r)(ha:QE X a ta)(hb:QE X b tb):QE X (.BinOp a op b pos) (BP r ta tb):=⟨by
 have ha:=ha.h;have hb:=hb.h;intro pins s σ H Q I h;exact wpAny_BinOp (Sl ha hb I h fun v u s2 x y H2 I2 rx ry q=>ho pins s2 σ H2 x y v u Q I2 rx ry q)⟩
def SJ {op:UnaryOp}{r:V->Hp->VK->Prop}(ho:Qp X (unaryOp op) r)(ha:QE X a ta):QE X (.UnaryOp op a pos) (OP r ta):=⟨by
 have ha:=ha.h;intro pins s σ H Q I h;exact UnaryOp_ (AF (ha pins s σ H _ I h) fun v s1 ⟨x,H1,I1,r1,q1⟩=>ho pins s1 σ H1 x v Q I1 r1 q1)⟩
def vU {r:R2}(ho:B2 X (compareOp op) r)(ha:QE X a ta)(hb:QE X b tb)(hm:behindInMarks op b=false):QE X (.Compare a [op] [b] pos) (BP r ta tb):=⟨by
 have ha:=ha.h;have hb:=hb.h;intro pins s σ H Q I h;exact wpAny_Compare1 (Sl ha hb I h fun v u s2 x y H2 I2 rx ry q=>ho pins s2 σ H2 x y v u Q I2 rx ry q) hm⟩
def dI {r:R2}(ho:B2 X (compareOp op) r)(ha:QE X a ta)(hb:QE X b tb)(hm:behindInMarks op b=false):QT X (.Compare a [op] [b] pos) (HU (BP r ta tb)):=⟨lK ho ha.h hb.h hm⟩
def vd {r r':R2}(ho:B2 X (compareOp op) r)(Eb:B2 X (compareOp EV) r')(ha:QE X a ta)(hb:QE X b tb)(hc:QE X c tc)
  (hm:lastMarks [op,EV] [b,c]=false:=by with_unfolding_all rfl):QE X (.Compare a [op,EV] [b,c] pos) (Nd r r' ta tb tc):=⟨by
 have ha:=ha.h;have hb:=hb.h;have hc:=hc.h;intro pins s σ H Q I h;refine Compare_chain (AF (ha pins s σ H _ I h) fun v s1 ⟨x,H1,I1,r1,q1⟩=>chain_link (AF (hb pins s1 σ H1 _ I1 q1) fun u s2 ⟨y,H2,I2,r2,q2⟩=>
  AF (ho pins s2 σ H2 x y v u _ I2 r1 r2 q2) fun d s3 ⟨z,H3,I3,r3,k,e,q3⟩=>?_)) hm
 subst e;cases r3;refine iK ?_;cases k with
 | false=>exact ite_ff ⟨.bl false,H3,I3,rfl,q3⟩
 | true=>exact ite_tt (chain_last (AF (hc pins s3 σ H3 _ I3 q3) fun w' s4 ⟨z',H4,I4,r4,q4⟩=>Eb pins s4 σ H4 y z' u w' Q I4 r2 r4 q4))⟩
def pN {r r':R2}(ho:B2 X (compareOp op) r)(Eb:B2 X (compareOp EV) r')(ha:QE X a ta)(hb:QE X b tb)(hc:QE X c tc)
  (hm:lastMarks [op,EV] [b,c]=false:=by with_unfolding_all rfl):QT X (.Compare a [op,EV] [b,c] pos) (HU (Nd r r' ta tb tc)):=⟨by
 have ha:=ha.h;have hb:=hb.h;have hc:=hc.h;intro pins s σ H Q I h;refine isTrue_chain (AF (ha pins s σ H _ I h) fun v s1 ⟨x,H1,I1,r1,q1⟩=>test_link (AF (hb pins s1 σ H1 _ I1 q1) fun u s2 ⟨y,H2,I2,r2,q2⟩=>
  AF (ho pins s2 σ H2 x y v u _ I2 r1 r2 q2) fun d s3 ⟨z,H3,I3,r3,k,e,q3⟩=>?_)) hm
 subst e;cases r3;refine iK ?_;cases k with
 | false=>
  obtain ⟨k',e',q'⟩:=q3;cases e';exact ite_ff ⟨H3,I3,q'⟩
 | true=>
  refine ite_tt (test_last (AF (hc pins s3 σ H3 _ I3 q3) fun w' s4 ⟨z',H4,I4,r4,q4⟩=>AF (Eb pins s4 σ H4 y z' u w' _ I4 r2 r4 q4) fun d' s5 ⟨z2,H5,I5,r5,k2,e2,q5⟩=>?_));subst e2;cases r5;exact iK ⟨H5,I5,q5⟩⟩
def bM {op}(h:QE X a ta):QE X (.BoolOp op [a] pos) ta:=⟨by have h:=h.h;exact fun pins s σ H Q I hw=>BoolOp_one (h pins s σ H Q I hw)⟩
def cg (ha:QE X a ta)(hb:QE X (.BoolOp .And (b::rest) pos) tb):QE X (.BoolOp .And (a::b::rest) pos) (Su ta tb):=⟨by
 have ha:=ha.h;have hb:=hb.h;intro pins s σ H Q I h;refine BoolOp_and (AF (ha pins s σ H _ I h) fun v s1 ⟨x,H1,I1,r1,q1⟩=>?_);obtain ⟨c,rfl,q1⟩:=q1;cases r1;refine iK ?_;cases c with
 | true=>exact hb pins s1 σ H1 Q I1 q1
 | false=>exact ⟨.bl false,H1,I1,rfl,q1⟩⟩
def jc (ha:QE X a ta):QE X (.UnaryOp .Not a pos) (TN ta):=⟨by
 have ha:=ha.h;intro pins s σ H Q I h;refine UnaryOp_ (AF (ha pins s σ H _ I h) fun v s1 ⟨x,H1,I1,r1,q1⟩=>?_);obtain ⟨c,rfl,q1⟩:=q1;cases r1;exact not_of (iK ⟨.bl (!c),H1,I1,rfl,q1⟩)⟩
def Uc (ha:QT X a tA):QW X (.BoolOp .And [a] pos) tA:=⟨by
 have ha:=ha.h;intro wh pins s σ H Q I h;refine isTrue_and (AF (ha pins s σ H Q I h) fun c s1 e=>?_);cases c with
 | true=>exact isTrue_and_nil e
 | false=>exact e⟩
def MF (ha:QT X a tA):QW X (.BoolOp .Or [a] pos) tA:=⟨by
 have ha:=ha.h;intro wh pins s σ H Q I h;refine isTrue_or (AF (ha pins s σ H Q I h) fun c s1 e=>?_);cases c with
 | false=>exact isTrue_or_nil e
 | true=>exact e⟩
def VL (ha:QT X a tA)(hb:QW X (.BoolOp .And (b::rest) pos) Hh):QW X (.BoolOp .And (a::b::rest) pos) (Ou tA Hh):=⟨by
 have ha:=ha.h;have hb:=hb.h;intro wh pins s σ H Q I h;refine isTrue_and (AF (ha pins s σ H _ I h) fun c s1 ⟨H1,I1,q1⟩=>?_);cases c with
 | true=>exact hb wh pins s1 σ H1 Q I1 q1
 | false=>exact ⟨H1,I1,q1⟩⟩
def JX (ha:QT X a tA)(hb:QW X (.BoolOp .Or (b::rest) pos) Hh):QW X (.BoolOp .Or (a::b::rest) pos) (R6 tA Hh):=⟨by
 have ha:=ha.h;have hb:=hb.h;intro wh pins s σ H Q I h;refine isTrue_or (AF (ha pins s σ H _ I h) fun c s1 ⟨H1,I1,q1⟩=>?_);cases c with
 | true=>exact ⟨H1,I1,q1⟩
 | false=>exact hb wh pins s1 σ H1 Q I1 q1⟩
theorem QW.pt {t:TT}(h:QW X e t):QT X e t:=⟨h.h.pt⟩
def GX (ha:QT X a tA):QT X (.UnaryOp .Not a pos) (Vx tA):=⟨by
 have ha:=ha.h;intro pins s σ H Q I h;exact isTrue_not (ha pins s σ H (fun c H1=>Q (!c) H1) I h)⟩
def Gm (h:QE X e te)(he:∀ whole,isTrue e X.env whole=(do let v <- whole;standAt e.pos;holding [v] (truthy v)):=by intro _;rfl):QT X e (tB te):=⟨by
 have h:=h.h;intro pins s σ H Q I hw;refine isTrue_plain (AF (h pins s σ H _ I hw) fun v s1 ⟨x,H1,I1,r1,q1⟩=>?_) (he _);obtain ⟨d,rfl,q⟩:=q1;cases r1;exact iK ⟨H1,I1,q⟩⟩
def uU (hc:QT X c tA)(ha:QE X a ta)(hb:QE X b tb):QE X (.IfExp c a b pos) (Po tA ta tb):=⟨by
 have hc:=hc.h;have ha:=ha.h;have hb:=hb.h;intro pins s σ H Q I h;refine wpAny_IfExp (AF (hc pins s σ H _ I h) fun d s1 ⟨H1,I1,q1⟩=>?_);cases d with
 | true=>exact ha pins s1 σ H1 Q I1 q1
 | false=>exact hb pins s1 σ H1 Q I1 q1⟩
def A6:QA X [] Az:=⟨fun _ _ _ _ H Q I h=>Calls.spliced_nil ⟨[],H,I,.nil,h⟩⟩
def A0 (ha:QE X e te)(hr:QA X es t)(hs:starEach (e::es) X.env=(false,eval e X.env)::starEach es X.env:=by rfl):QA X (e::es) (Af te t):=⟨jA ha.h hr.h hs⟩
def DT {x1}(h:QA X es t):QE X (.Tuple es x1 pos) (Nu t):=⟨lO h.h⟩
def EK (h:QA X es t):QE X (.List es pos) (UG t):=⟨gw h.h⟩
def MG:QO X none Tt:=⟨by
 intro pins s σ H Q I h;rw [evalPart_none];exact i7 ⟨none,H,I,.none,h⟩⟩
def Na (h:QE X e te):QO X (some e) (Si te):=⟨by
 have h:=h.h;intro pins s σ H Q I hw;rw [evalPart_some];refine AF (h pins s σ H _ I hw) fun u s1 ⟨x,H1,I1,r1,q1⟩=>?_;obtain ⟨i,rfl,q⟩:=q1;obtain ⟨t,rfl⟩:=r1;exact ⟨some i,H1,I1,.int i t,q⟩⟩
def Nh {r:V->Option Int->Option Int->Hp->VK->Prop}{lo hi:Option Expr}{tl th:TO}(hr:OO X r)(he:QE X e te)(hl:QO X lo tl)(hu:QO X hi th):QE X (.Subscript e (.Slice lo hi none p2) pos) (V7 r te tl th):=⟨by
 have he:=he.h;have hl:=hl.h;have hu:=hu.h;intro pins s σ H Q I h;refine Subscript_ (AF (he pins s σ H _ I h) fun v s1 ⟨x,H1,I1,r1,q1⟩=>?_);refine wpAny_Slice (AF (hl pins s1 σ H1 _ I1 q1) fun vl s2 ⟨l,H2,I2,pl,q2⟩=>AF (hu pins s2 σ H2 _ I2 q2) fun vu s3 ⟨u,H3,I3,pu,q3⟩=>?_);rw [evalPart_none];refine i7 ?_;have I4:Inv X pins σ H3 { s3 with heap:=s3.heap.push { cls:=.type "slice", data:=.fields #[vl,vu,.none] } }:=I3.kept (t':=s3.toks) fun b ob q=>Bi _ q
 obtain ⟨T,id,hT,ht,hg⟩:=hr pins { s3 with heap:=s3.heap.push { cls:=.type "slice", data:=.fields #[vl,vu,.none] } } σ H3 x v vl vu l u s3.heap.objs.size Q I4 r1 (Heap.IsSliceOf.new ..) pl pu q3
 show wpAny (model X.prog X.w) X.A (subscriptTail e (.Slice lo hi none p2) v (.ref s3.heap.objs.size)) (EP X pins σ Q) X.xe { s3 with heap:=s3.heap.push { cls:=.type "slice", data:=.fields #[vl,vu,.none] } }
 exact tail_any (ops:=[.ref s3.heap.objs.size,v]) ht hT hg (by with_unfolding_all rfl)⟩
def il {r:R2}(hr:Cc X r)(ha:QE X a ta)(hb:QE X b tb)(hs:SS b):QE X (.Subscript a b pos) (BP r ta tb):=⟨by
 have ha:=ha.h;have hb:=hb.h;intro pins s σ H Q I h;exact Subscript_ (Sl ha hb I h fun v u s2 x y H2 I2 rx ry q=>hr a b pins s2 σ H2 x y v u Q I2 rx ry q (hs _ _))⟩
def i3 {k:Nat}(h:AB X.prog X.w X.K X.mg X.base x k ps sp)(hr:BO j X.A)(hk:k<=j)(ha:QA X (e::es) t)(hg:Gl X x:=by rfl)(CY:(x == ("__debug__":Str))=false:=by decide)
  (he:starEach (e::es) X.env=(false,eval e X.env)::starEach es X.env:=by rfl) (Bx:(backTo pos (starEach es X.env)).any (·.1)=false:=by rfl):QE X (.Call (.Name x p) (e::es) [] pos) (E7 sp [] E0 t):=⟨by
 have ha:=ha.h;obtain ⟨f,fd,F,b,kp,m⟩:=h;exact hV (F.mono hk) hr hg m kp b .nil Pa ha CY he Bx⟩
def oS {id:String}(hc:C3 X (.builtin id) r)(hg:Gl X x)(hm:X.mg x=none)(hv:bootBuiltins x=some (.builtin id))(ha:QA X (e::es) t)(hn:x ≠ "__name__" := by decide)(CY:(x == ("__debug__":Str))=false:=by decide)
  (he:starEach (e::es) X.env=(false,eval e X.env)::starEach es X.env:=by rfl) (Bx:(backTo pos (starEach es X.env)).any (·.1)=false:=by rfl):QE X (.Call (.Name x p) (e::es) [] pos) (DL r t):=⟨by
 have ha:=ha.h;intro pins s σ H Q I h;refine kL (JK I hg hm hv ?_ hn CY);exact PyProof.Rows.callWith_builtin1 (AF (ha pos pins s σ H _ I h) fun us s1 ⟨vs,H1,I1,r1,q1⟩=>hc pins s1 σ H1 vs us Q I1 r1 q1) he Bx⟩
def qQ (hc:C3 X (.type T) r)(hg:Gl X x)(hm:X.mg x=none)(hv:bootBuiltins x=some (.type T))(ha:QA X (e::es) t)(hn:x ≠ "__name__" := by decide)(CY:(x == ("__debug__":Str))=false:=by decide)
  (he:starEach (e::es) X.env=(false,eval e X.env)::starEach es X.env:=by rfl) (Bx:(backTo pos (starEach es X.env)).any (·.1)=false:=by rfl):QE X (.Call (.Name x p) (e::es) [] pos) (DL r t):=⟨wt hc hg hm hv ha.h hn CY he Bx⟩
def YJ {id:String}{r:V->List V->Hp->VK->Prop}(pa:PlainAttrs T)(slot:Slot T name id)(Jp:typeOf (.builtin id)=pure (.type "method_descriptor"))(hm:Et X id r)(ho:QE X o to)
  (KC:attributeBase o name X.env (eval o X.env)=eval o X.env:=by rfl) (KL:(apos.endLine == BQ.line)=true:=by rfl):QE X (.Call (.Attribute o name apos) [] [] BQ) (Oo X.K T r to):=⟨by
 have ho:=ho.h;intro pins s σ H Q I h;refine wpAny_Call_method0_late KC KL (AF (ho pins s σ H _ I h) fun v s1 ⟨x,H1,I1,r1,ty,q1⟩=>?_);obtain ⟨h1,h2⟩:=Yi I1 r1 ty;exact ⟨T,id,pa,slot,Jp,h1,h2,fm rfl (PySem.evalArgs_none (hm pins s1 σ H1 x [] v [] Q I1 r1 .nil q1))⟩⟩
def EZ {id:String}{r:V->List V->Hp->VK->Prop}(pa:PlainAttrs T)(slot:Slot T name id)(Jp:typeOf (.builtin id)=pure (.type "method_descriptor"))(hm:Et X id r)(ho:QE X o to)(ha:QA X (e::es) t)
  (KC:attributeBase o name X.env (eval o X.env)=eval o X.env:=by rfl)
  (U1:((backTo BQ (starEach (e::es) X.env)).all (fun x=>!x.1) && (backToKw BQ (keywordEach [] X.env)).all (fun x=>x.1.isSome)
   && decide ((e::es).length+([]:List Keyword).length+(if ([]:List Keyword).isEmpty then 0 else 1)<30))=true:=by rfl)
  (KL:(apos.endLine == BQ.line)=true:=by rfl) (hs:starEach (e::es) X.env=(false,eval e X.env)::starEach es X.env:=by rfl) (Ti:(backTo BQ (starEach es X.env)).any (·.1)=false:=by rfl) :
  QE X (.Call (.Attribute o name apos) (e::es) [] BQ) (FK X.K T r to t):=⟨by
 have ho:=ho.h;have ha:=ha.h;intro pins s σ H Q I h;refine wpAny_Call_method_late KC U1 KL rfl (AF (ho pins s σ H _ I h) fun v s1 ⟨x,H1,I1,r1,ty,q1⟩=>?_);obtain ⟨h1,h2⟩:=Yi I1 r1 ty;refine ⟨T,id,pa,slot,Jp,h1,h2,?_⟩;have hA:=ha BQ pins s1 σ H1 _ I1 q1;rw [hs] at hA ⊢;refine fm (by show (false || (backTo BQ (starEach es X.env)).any (·.1))=false;rw [Ti] <;> rfl) (Calls.evalArgs_plain ?_)
 exact AF hA fun us s2 ⟨vs,H2,I2,r2,q2⟩=>hm pins s2 σ H2 x vs v us Q I2 r1 r2 q2⟩
variable {elt iter:Expr}{scope:Scope}{AD:List Str}{js:List Nat}
def Bf (hl:QE X l tl):QI X tg l (LU X.K tl):=⟨by
 have hl:=hl.h;intro pins s σ H R I h;refine AF (hl pins s σ H _ I h) fun v s1 ⟨x,H1,I1,r1,q1⟩=>?_;obtain ⟨tp,a,xs,e,hq,q⟩:=q1;subst e;cases r1;have fin:∀ b∈[s1.heap.objs.size],Dx X pins H1 b:=fun b hb=>by
  have e:b=s1.heap.objs.size:=by simpa using hb
  subst e;exact I1.J7 (Aj _) (I1.AG.fresh (Aj _))
 cases tp with
 | false=>
  obtain ⟨A1,rv,p,hz⟩:=I1.list hq;refine mK p.isList ?_;exact ⟨s1.heap.objs.size,[s1.heap.objs.size],_,_,H1,rfl,I1.kept (t':=s1.toks) fun b o e=>Bi _ e,og a _ xs,⟨_,C1 _ rfl,rfl,rfl⟩,fin,q⟩
 | true=>
  obtain ⟨A1,rv,p,hz⟩:=I1.tuple hq;refine wpAny_pyIter_tuple (show s1.heap.IsTuple a A1.toArray from p) ?_;exact ⟨s1.heap.objs.size,[s1.heap.objs.size],_,_,H1,rfl,I1.kept (t':=s1.toks) fun b o e=>Bi _ e,w6 a _ xs,⟨_,C1 _ rfl,rfl,rfl⟩,fin,q⟩⟩
def pU (hl:QE X l tl):QI X tg l (eh tl):=⟨by
 have hl:=hl.h;intro pins s σ H R I h;refine AF (hl pins s σ H _ I h) fun v s1 ⟨x,H1,I1,r1,q1⟩=>?_;obtain ⟨z,e,q⟩:=q1;subst e;obtain ⟨t,rfl⟩:=r1;have fin:∀ b∈[s1.heap.objs.size],Dx X pins H1 b:=fun b hb=>by
  have e:b=s1.heap.objs.size:=by simpa using hb
  subst e;exact I1.J7 (Aj _) (I1.AG.fresh (Aj _))
 have kp:∀ (ob:Obj),Inv X pins σ H1 { s1 with heap:=s1.heap.push ob }:=fun ob=>I1.kept (t':=s1.toks) fun b o e=>Bi _ e
 cases ha:z.cps.all (· < 128)
 ·refine wpAny_pyIter_wide ha ?_;exact ⟨s1.heap.objs.size,[s1.heap.objs.size],_,_,H1,rfl,kp _,eZ (t:=t) (by decide) (fun A' hA=>Walks.strWide hA _ z t) (fun _ _ _ _ _ st h=>wpAny_pyIter_striter_wide st h),⟨_,C1 _ rfl,rfl,rfl⟩,fin,q⟩
 ·refine wpAny_pyIter_ascii ha ?_;exact ⟨s1.heap.objs.size,[s1.heap.objs.size],_,_,H1,rfl,kp _,eZ (t:=t) (by decide) (fun A' hA=>Walks.strAscii hA _ z t) (fun _ _ _ _ _ st h=>wpAny_pyIter_striter_ascii st h),⟨_,C1 _ rfl,rfl,rfl⟩,fin,q⟩⟩
def LL {ta:TA}(hg:Gl X "range")(hm:X.mg "range"=none)(ha:QA X [a] ta)(hs:starEach [a] X.env=[(false,eval a X.env)]:=by rfl):QI X tg (.Call (.Name "range" p) [a] [] pos) (RP ta):=⟨by
 have ha:=ha.h;intro pins s σ H R I h;refine Call_ (JK I hg hm boot_range (RI (AF (ha pos pins s σ H _ I h) fun us s1 ⟨vs,H1,I1,r1,q1⟩=>?_) hs rfl));obtain ⟨j,e,q1,q2,q⟩:=q1;subst e;cases r1 with
 | cons r rr=>
  cases rr;obtain ⟨t,rfl⟩:=r;exact call_range_1 (Xa I1 (by omega) (by omega) q1 q2 (by simpa using q))⟩
def Dm:Iv X [] MP:=⟨fun pins s σ H Q I h=>by
 rw [RB];exact i7 ⟨H,I,h⟩⟩
def L4 {t:TT}(hc:QT X c t):Iv X [c] t:=⟨iY hc.h⟩
def ER (hc:X.calm=true)(S:CK X.N X.env.scope scope x AD js)(hi:QI X (.Name x px) iter wi)
  (C6:∀ fp C s H,Iv (EG X (AD++[x]) scope (BJ X.env.cells scope.names) C s H fp) ifs tt) (C7:∀ fp C s H,QE (EG X (AD++[x]) scope (BJ X.env.cells scope.names) C s H fp) elt te)
  (hs:∀ v,foldedSetIterable iter X.env v=pure v:=by intro _;rfl):QE X (.ListComp elt [⟨.Name x px,iter,ifs,0⟩] scope pos) (HD wi js tt te):=⟨qX hc S hi.h (fun fp C s H=>(C6 fp C s H).h) (fun fp C s H=>(C7 fp C s H).h) hs⟩
def Ql {py Dv:Pos}(hN:X.N.Nodup)(Bb:X.N[i]?=some y)(hy:Loc X.env.scope y)(hc:X.calm=true)(S:CK X.N X.env.scope scope x AD js)(hi:QI X (.Name x px) iter wi)
  (C6:∀ fp C s H,Iv (EG X (AD++[x]) scope (BJ X.env.cells scope.names) C s H fp) ifs tt) (C7:∀ fp C s H,QE (EG X (AD++[x]) scope (BJ X.env.cells scope.names) C s H fp) elt te)
  (GB:swapsWith (.ListComp elt [⟨.Name x px,iter,ifs,0⟩] scope pos) (some (.Name y py)) Dv.line X.env=pure true:=by rfl)
  (hf:X.fn y=true∨X.env.scope.names.lookup y=some .local:=by first | exact .inl rfl | exact .inr rfl | assumption)
  (hs:∀ v,foldedSetIterable iter X.env v=pure v:=by intro _;rfl):QS X (.Assign [.Name y py] (.ListComp elt [⟨.Name x px,iter,ifs,0⟩] scope pos) Dv) (DK (HD wi js tt te) (Bz i)):=
 ⟨yB hN Bb hy hc S hi.h (fun fp C s H=>(C6 fp C s H).h) (fun fp C s H=>(C7 fp C s H).h) GB hf hs⟩
def y6 (hN:X.N.Nodup)(hi:X.N[i]?=some x)(hx:Loc X.env.scope x)(hf:X.fn x=true∨X.env.scope.names.lookup x=some .local:=by first | exact .inl rfl | exact .inr rfl | assumption):QG X (.Name x pos) (Bz i):=⟨W0 hN hi hx hf⟩
def Ln:QR X [] NT:=⟨bP⟩
def FA {t:TG}{u:G1}(h1:QG X e t)(h2:QR X es u)
  (hs:(assignEach (e::es) X.env).map (·.2)=assign e X.env::(assignEach es X.env).map (·.2):=by rfl):QR X (e::es) (IL t u):=⟨Zk h1.h h2.h hs⟩
def Ki {k:Nat}{t:G1}(hc:X.calm=true)(h:QR X es t)(hn:(assignEach es X.env).length=n:=by rfl)(Hs:(assignEach es X.env).findIdx? (·.1)=none:=by rfl):QG X (.Tuple es k pos) (LI X.K n t):=⟨XJ hc h.h hn Hs⟩
def OT {i:Expr}{ti:TE}{t:LC}(ho:QE X o to)(hi:QE X i ti)(hs:Qm X t)
  (ha:∀ v,assign (.Subscript o i pos) X.env v=(do
   let ov <- holding [v] (eval o X.env)
   let iv <- holding [v,ov] (eval i X.env)
   standAt pos
   holding [v,ov,iv] (setItem ov iv v)
   release [v,ov,iv] []):=by intro _;rfl):QG X (.Subscript o i pos) (Ve to ti t):=⟨by
 have ho:=ho.h;have hi:=hi.h;intro pins s σ H v u Q I r h;rw [ha];refine gd (oH (AF (ho pins s σ H _ I h) fun ov s1 ⟨x,H1,I1,r1,q1⟩=>?_));refine gd (oH (AF (hi pins s1 σ H1 _ I1 q1) fun iv s2 ⟨y,H2,I2,r2,q2⟩=>?_));refine gd (sX (gd (oH (AF (hs pins s2 σ H2 x y v ov iv u _ I2 r1 r2 r q2) fun _ s3 ⟨H3,I3,q3⟩=>?_))));exact wpAny_release ⟨σ,H3,I3,q3⟩⟩
end
section
variable {st:Stmt}{u:TS}
def BW:HL X [] Vn:=⟨fun _ _ σ H _ I h=>pP ⟨σ,H,I,h⟩⟩
def AE (e:body=st::rest)(h:QS X st t)(h2:HL X rest u):HL X body (Mo t u):=⟨wz e h.h h2.h⟩
def AK (e:body=[st])(h:QS X st t):HL X body t:=⟨by have h:=h.h;rw [e];exact yD h⟩
def Hn:QS X st bf:=⟨fun _ _ _ _ _ _ h=>h.elim⟩
def D7 (he:QE X e te)(hs:swapsWith e none pos.line X.env=pure false:=by rfl):QS X (.Expr e pos) (Gr te):=⟨by
 have he:=he.h;intro pins s σ H D I h;exact wpAny_Expr_any (AF (he pins s σ H _ I h) fun v s1 ⟨x,H1,I1,r1,q1⟩=>⟨σ,H1,I1,q1⟩) I.quiet hs⟩
def B5 (he:QE X e te):QS X (.Return (some e) pos) (JT te):=⟨by
 have he:=he.h;intro pins s σ H D I h;exact wpAny_Return_some (AF (he pins s σ H _ I h) fun v s1 ⟨x,H1,I1,r1,q1⟩=>⟨x,σ,H1,I1,r1,q1⟩)⟩
def y2:QS X (.Return none pos) TL:=⟨fun _ _ σ H _ I h=>wpAny_Return_none ⟨.A8,σ,H,I,rfl,h⟩⟩
def Bc {a b:List Stmt}(hc:QT X c tc)(ha:HL X a t)(hb:HL X b u):QS X (.If c a b pos) (Tx tc t u):=⟨by
 have hc:=hc.h;have ha:=ha.h;have hb:=hb.h;intro pins s σ H D I h;refine wpAny_If (AF (hc pins s σ H _ I h) fun d s1 ⟨H1,I1,q1⟩=>?_);cases d with
 | true=>exact ha pins s1 σ H1 D I1 q1
 | false=>exact hb pins s1 σ H1 D I1 q1⟩
def MC (he:QE X e te)(hg:QG X tg g)(hs:swapsWithSole [tg] e pos.line X.env=pure false:=by rfl)(hw:swappedStores [tg] e X.env=pure none:=by rfl)
  (h1:(assignEach [tg] X.env).map (·.2)=[assign tg X.env]:=by rfl):QS X (.Assign [tg] e pos) (DK te g):=⟨by
 have he:=he.h;have hg:=hg.h;intro pins s σ H D I h;refine wpAny_Assign_stores (AF (he pins s σ H _ I h) fun v s1 ⟨x,H1,I1,r1,q1⟩=>?_) hs hw;rw [h1];exact AF (hg pins s1 σ H1 x v _ I1 r1 q1) fun _ s2 q=>q⟩
def pZ (hN:X.N.Nodup)(hi:X.N[i]?=some x)(hx:Loc X.env.scope x)(he:QE X e te)(hs:swapsWith e (some (.Name x pos')) pos.line X.env=pure false:=by rfl)(hf:X.fn x=true∨X.env.scope.names.lookup x=some .local:=by first | exact .inl rfl | exact .inr rfl | assumption):
  QS X (.Assign [.Name x pos'] e pos) (DK te (Bz i)):=⟨by
 have he:=he.h;intro pins s σ H D I h;refine wpAny_Assign_Name (AF (he pins s σ H _ I h) fun v s1 ⟨y,H1,I1,r1,q1⟩=>?_) hs;exact Yf I1 hN hi hx r1 (fun s2 I2=>⟨_,H1,I2,q1⟩) hf⟩
def OG (hp:PassesOwn (model X.prog X.w) X.A X.env X.xe)(hc:QT X c tc)(hb:HL X body tb):QS X (.While c body [] pos) (WS tc tb):=⟨by
 have hc:=hc.h;have hb:=hb.h;intro pins s σ H D I h;obtain ⟨W,⟨m0,w0⟩,turn⟩:=h;refine wpAny_While (codeAny_whileLoop (fun n s'=>∃ σ' H',Inv X pins σ' H' s'/\W n σ' H') ?_ m0 ⟨σ,H,I,w0⟩);rintro n s1 ⟨σ1,H1,I1,w1⟩;refine lR hp (AF (hc pins s1 σ1 H1 _ I1 (turn n σ1 H1 w1)) fun b s2 ⟨H2,I2,q2⟩=>?_);cases b with
 | true=>
  obtain ⟨N,hN,q2⟩:=q2;rw [gq rfl];refine lR hp (AF (hb pins s2 σ1 H2 _ I2 q2) fun f s3 q3=>?_);cases f with
  | next=>
   obtain ⟨σ3,H3,I3,n3⟩:=q3;obtain ⟨m',hm,w3⟩:=hN σ3 H3 n3;exact ⟨m',hm,σ3,H3,I3,w3⟩
  | cont=>
   obtain ⟨σ3,H3,I3,n3⟩:=q3;obtain ⟨m',hm,w3⟩:=hN σ3 H3 n3;exact ⟨m',hm,σ3,H3,I3,w3⟩
  | brk=>exact q3
  | ret v=>exact q3
 | false=>
  rw [gg Cd];exact pP ⟨σ1,H2,I2,q2⟩⟩
def DA {iter:Expr}(hp:PassesOwn (model X.prog X.w) X.A X.env X.xe)(hc:X.calm=true)(hi:QI X tg iter wi)(hg:QG X tg g)(hb:HL X body tb)
  (hs:∀ x,foldedSetIterable iter X.env x=pure x:=by intro _;rfl):QS X (.For tg iter body [] pos) (MZ wi g tb):=⟨by
 have hi:=hi.h;have hg:=hg.h;have hb:=hb.h;intro pins s σ H D I h;refine wpAny_For (AF (hi pins s σ H _ I h) fun v s1 h1=>AF h1 fun Qh s2 h2=>?_) hs;obtain ⟨it,fp,tn,J,H2,e,I2,T,IU,f2,W,⟨m0,w0⟩,turn⟩:=h2;subst e
 -- oU stays true of GG ZAd objects through GG loop
 have JW:∀ {H':Hp},(∀ b∈fp,H' b=none)->∀ b∈fp,Dx X pins H' b:=fun hn b hb=>⟨hn b hb,(f2 b hb).2⟩;refine codeAny_forLoop_any (fun n s'=>∃ i σ' H',Inv X pins σ' H' s'/\tn i s'.heap/\(∀ b∈fp,H' b=none)/\W i n σ' H') ?_ m0 ⟨0,σ,H2,I2,IU,fun b hb=>(f2 b hb).1,w0⟩;rintro n s3 ⟨i,σ3,H3,I3,Ym,Zh,w3⟩;rcases turn i n σ3 H3 w3 with ⟨stop,qn⟩ | ⟨go,N,hN,step⟩
 ·refine lR hp (AF (T.done X rfl rfl rfl hc i pins s3 σ3 H3 X.xe I3 (JW Zh) Ym stop) fun r s4 ⟨hr,I4⟩=>?_);subst hr;exact pP ⟨σ3,H3,I4,qn⟩
 ·refine lR hp (AF (T.item X rfl rfl rfl hc i pins s3 σ3 H3 X.xe I3 (JW Zh) Ym go) fun r s4 ⟨u,hr,h4⟩=>?_);subst hr;refine lR hp (AF h4 fun _ s5 ⟨x,H5,I5,r5,y5,LM,PJ⟩=>?_);have oA:=I5.pinned (JW PJ) (T.obj _ _ LM);refine lR hp (AF (hg _ s5 σ3 H5 x u _ oA r5 (step x H5 y5)) fun _ s6 ⟨σ6,H6,I6,q6⟩=>?_);refine lR hp (AF (hb _ s6 σ6 H6 _ I6 q6) fun f s7 q7=>?_);have again:∀ {σ7:St} {H7:Hp},Inv X (pins++Nc fp s5.heap) σ7 H7 s7->N σ7 H7->∃ m,m<n/\∃ i σ' H',Inv X pins σ' H' s7/\tn i s7.heap/\(∀ b∈fp,H' b=none)/\W i m σ' H':=fun {σ7 H7} I7 n7=>by
   obtain ⟨m',hm,w7⟩:=hN σ7 H7 n7;refine ⟨m',hm,i+1,σ7,H7,I7.Mr,T.keep _ _ _ LM fun b hb o e=>(I7.pin (b,o) (HF _ (HF _ (Pb hb e)))).1,fun b hb=>?_,w7⟩;obtain ⟨o,e,d⟩:=T.obj _ _ LM b hb;exact (I7.pin (b,o) (HF _ (HF _ (Pb hb e)))).2.1
  cases f with
  | next=>obtain ⟨σ7,H7,I7,n7⟩:=q7;exact again I7 n7
  | cont=>obtain ⟨σ7,H7,I7,n7⟩:=q7;exact again I7 n7
  | brk=>obtain ⟨σ7,H7,I7,q7⟩:=q7;exact ⟨σ7,H7,I7.Mr,q7⟩
  | ret v=>obtain ⟨x7,σ7,H7,I7,r7,q7⟩:=q7;exact ⟨x7,σ7,H7,I7.Mr,r7,q7⟩⟩
def CC (h:QS X st t):QS X st (SG t):=⟨by
 have h:=h.h;intro pins s σ H D I hw;obtain ⟨J,h1,h2⟩:=hw;refine AF (h pins s σ H _ I h1) fun f s' q=>?_;cases f with
 | next=>obtain ⟨σ',H',I',q⟩:=q;exact ⟨σ',H',I',h2 σ' H' q⟩
 | ret v=>exact q
 | brk=>exact q
 | cont=>exact q⟩
end
def AO.BE {P:Program}{K:ZAy}{mg:ZB0}{base:Heap}{qual:Str}{st:Stmt}{fd:FuncData}{N:List Str}{k:Nat}(F:AO K x qual st f fd)(S:B6 N ps (AZ st))(len:∀ vs H Q E,sp vs H Q E->vs.length=ps.length)
  (My:∀ (Ab:Value) (A:Around) (outer:List Env) (s:Shared) (H:Hp) (vs:List V) (Q:VK) (E:XK),BO k (A.deeper (envOfC qual (AZ st) s.heap.objs.size f Ab))->sp vs H Q E->
   ∃ t,HL (K9 FD P w K mg base N qual (AZ st) f Ab A outer s H E).Mm (Jz st) t/\t { nx:=fun _ H'=>Q .A8 H',rt:=Q } (start N vs) H):D2 P w K mg base FD (k+1) f fd ps sp:=
 F.ok S len fun Ab A outer s H vs Q E hr h=>let ⟨t,q,r⟩:=My Ab A outer s H vs Q E hr h;⟨t,q.h,r⟩
section
variable {b:Expr}{tb:TE}{t:TA}
def Bh {id:String}(hc:C3 X (.builtin id) r)(hm:X.mg x=none)(ha:QA X (e::es) t)(hg:Gl X x:=by rfl)(hv:bootBuiltins x=some (.builtin id):=by decide +kernel)(hn:x ≠ "__name__" := by decide)(CY:(x == ("__debug__":Str))=false:=by decide)
  (he:starEach (e::es) X.env=(false,eval e X.env)::starEach es X.env:=by rfl) (Bx:(backTo pos (starEach es X.env)).any (·.1)=false:=by rfl):QE X (.Call (.Name x p) (e::es) [] pos) (DL r t):=oS hc hg hm hv ha hn CY he Bx
def Dh (hc:C3 X (.type T) r)(hm:X.mg x=none)(ha:QA X (e::es) t)(hg:Gl X x:=by rfl)(hv:bootBuiltins x=some (.type T):=by decide +kernel)(hn:x ≠ "__name__" := by decide)(CY:(x == ("__debug__":Str))=false:=by decide)
  (he:starEach (e::es) X.env=(false,eval e X.env)::starEach es X.env:=by rfl) (Bx:(backTo pos (starEach es X.env)).any (·.1)=false:=by rfl):QE X (.Call (.Name x p) (e::es) [] pos) (DL r t):=qQ hc hg hm hv ha hn CY he Bx
def AY {r:R2}(hr:Cc X r)(ha:QE X a ta)(hb:QE X b tb)(hs:SS b:=by exact fun _ _=>rfl):QE X (.Subscript a b pos) (BP r ta tb):=il hr ha hb hs
def Ae {k:Nat}(h:AB X.prog X.w X.K X.mg X.base x k ps sp)(hr:BO j X.A)(ha:QA X (e::es) t)(hk:k<=j:=by decide)(hg:Gl X x:=by rfl)(CY:(x == ("__debug__":Str))=false:=by decide)
  (he:starEach (e::es) X.env=(false,eval e X.env)::starEach es X.env:=by rfl) (Bx:(backTo pos (starEach es X.env)).any (·.1)=false:=by rfl):QE X (.Call (.Name x p) (e::es) [] pos) (E7 sp [] E0 t):=i3 h hr hk ha hg CY he Bx
def NJ {r:R2}(ho:B2 X (compareOp op) r)(ha:QE X a ta)(hb:QE X b tb)(hm:behindInMarks op b=false:=by first | exact b6 _ | with_unfolding_all rfl):QE X (.Compare a [op] [b] pos) (BP r ta tb):=vU ho ha hb hm
def BI {r:R2}(ho:B2 X (compareOp op) r)(ha:QE X a ta)(hb:QE X b tb)(hm:behindInMarks op b=false:=by first | exact b6 _ | with_unfolding_all rfl):QT X (.Compare a [op] [b] pos) (HU (BP r ta tb)):=dI ho ha hb hm
def Ai (i:Nat)(hN:X.N.Nodup)(he:QE X e te)(hi:X.N[i]?=some x:=by rfl)(hx:Loc X.env.scope x:=by first | exact Or.inl rfl | exact Or.inr rfl)(hs:swapsWith e (some (.Name x pos')) pos.line X.env=pure false:=by rfl)(hf:X.fn x=true∨X.env.scope.names.lookup x=some .local:=by first | exact .inl rfl | exact .inr rfl | assumption):
  QS X (.Assign [.Name x pos'] e pos) (DK te (Bz i)):=pZ hN hi hx he hs hf
def Bw (i:Nat)(hN:X.N.Nodup)(hi:X.N[i]?=some x:=by rfl)(hx:Loc X.env.scope x:=by first | exact Or.inl rfl | exact Or.inr rfl)(hf:X.fn x=true∨X.env.scope.names.lookup x=some .local:=by first | exact .inl rfl | exact .inr rfl | assumption):QG X (.Name x pos) (Bz i):=y6 hN hi hx hf
end
section
variable {pins:ZAz}{σ:St}{H:Hp}{s:Shared}{a:Addr}{A3:List (Str×Addr)}
def XG {t:Tok}:DC (.str x) (.str y t)=(y == x):=rfl
theorem Y2 (x:Str):∀ (ss:List Str) (m:Nat) (hm:m<ss.length),m<ss.idxOf x->ss[m]≠x
 | [],_,hm,_=>absurd hm (Nat.not_lt_zero _)
 | a::r,m,hm,h=>by
  rw [List.idxOf_cons] at h
  by_cases e:a=x
  ·have:(a == x)=true:=by simpa using e
   rw [this] at h;exact absurd h (Nat.not_lt_zero _)
  ·have e':(a == x)=false:=by simpa using e
   rw [e'] at h;cases m with
   | zero=>exact e
   | succ k=>
    have h':k+1<r.idxOf x+1:=h;exact Y2 x r k (by simpa using hm) (by omega)
def Mc (h:x∈ss):∃ hj:ss.idxOf x<ss.length,ss[ss.idxOf x]=x/\∀ m (hm:m<ss.length),m<ss.idxOf x->ss[m]≠x:=by
 have hj:ss.idxOf x<ss.length:=List.idxOf_lt_length_iff.mpr h;exact ⟨hj,GN hj,fun m hm AM=>Y2 x ss m hm AM⟩
def Xs (K:ZAy):V->List V->Hp->VK->Prop:=fun x vs H Q=>∃ (l:Addr) (ss:List Str) (y:Str),x=.ref l/\vs=[.str y]/\AI K H l (ss.map V.str)/\y∈ss/\Q (.int (ss.idxOf y:Nat)) H
def Rq:Et X "list.index" (Xs X.K):=by
 intro pins s σ H x vs v us Q I rx rv h;obtain ⟨l,ss,y,rfl,rfl,hq,hy,q⟩:=h;cases rx;obtain ⟨u,rfl,ru⟩:=rv.one;obtain ⟨A1,r,pl,hz⟩:=I.list hq;obtain ⟨⟨c,d,dt,sl⟩,n,ho,hc,hd,GP⟩:=id pl;simp only at hc hd GP;subst hc;subst hd;subst GP;have hl:=r.length;rw [A9] at hl;obtain ⟨hj,U5,VO⟩:=Mc hy;have at':∀ (m:Nat) (hm:m<A1.toArray.size),∃ t,A1.toArray[m]=.str (ss[m]'(by simp at hm;omega)) t:=fun m hm=>by
  have Sf:m<A1.length:=by simpa using hm
  obtain ⟨h2,t,e⟩:=zM r (AR Sf);exact ⟨t,by simpa using e⟩
 have MK:ss.idxOf y<A1.toArray.size:=by simp;omega
 refine nC X8 ⟨_,ho,rfl⟩ PySem.F.entry_list_index (PySem.F.args_list_index_2 _ _) (SeqAt.list_indexAt l A1.toArray n none sl u (DC (.str y)) (ss.idxOf y) MK ?_ ?_ (fun m hm AM=>?_)) ⟨ho,fun z N0=>Ir ru rfl r (by
   rw [IC];intro w hw;obtain ⟨y',_,rfl⟩:=List.mem_map.mp hw;rfl) z (by simpa using N0),?_⟩
 ·have h1:ss.length<=sizeLine:=by rw [A9] at hz;exact hz
  have h2:=IK;have h3:((sizeLine:Nat):Int)<2 ^ 63:=by exact_mod_cast h2
  omega
 ·obtain ⟨t,e⟩:=at' _ MK;rw [e,XG];simpa using U5
 ·obtain ⟨t,e⟩:=at' _ hm;rw [e,XG];have:=VO m (by simp at hm;omega) AM
  simpa using this
 ·exact ⟨.int _,H,I.tok _,⟨_,rfl⟩,q⟩
def Ov (t u:TE):TE:=fun σ H Q=>t σ H Q∨u σ H Q
def vc {t u:TE}(h:QE X e t)(h2:QE X e u):QE X e (Ov t u):=⟨fun pins s σ H Q I q=>q.elim (h.h pins s σ H Q I) (h2.h pins s σ H Q I)⟩
variable {prog:Program}{A:Around}{R:Result->Shared->Prop}{fp wr:List Addr}{G:Array GenState->Array GenState->Prop}{P:Nat->Value->Prop}{St:Nat->Shared->Prop}
variable {E:Value->Shared->Prop}
variable {l:Addr}{items:Array Value}
end
end L2
namespace L2
variable {X:Cx}{pins:ZAz}{σ:St}{H:Hp}{s:Shared}{h':Heap}{k1 n t':Nat}{fp:List Addr}{I a:Addr}{e o:Expr}{w:World}{es:List Expr}{p1 pos:Pos}{prog:Program}{A:Around}{E:Value->Shared->Prop}
def Inv.aX (I:Inv X pins σ H s)(hf:∀ b∈fp,Dx X pins H b)(k:∀ b o,b∉fp->s.heap.get? b=some o->h'.get? b=some o):
  Inv X pins σ H { s with heap:=h',toks:=t' }:=by
 have JJ:∀ b u,H b=some u->b∉fp:=fun b u e z=>by rw [(hf b z).1] at e;cases e
 refine I.step (g':=s.gens) (d':=s.drawn) (ch:=fp) (fun b hb=>?_) (fun b o _ _ hc e _=>k b o hc e) (fun b o _ _ hc e _=>⟨o.slots,k b o hc e⟩) (fun _ _ _ _ n=>n)
  (fun b o hc e=>⟨o,k b o hc e⟩) (fun _ _ e=>e) (fun _ _ _ e=>e) (fun b ps e=>⟨#[],by rw [e];simp⟩) (fun m hm=>?_) (fun b u e=>?_) I.bare
 ·obtain ⟨_,h1,_,h3,h4,h5⟩:=hf b hb;exact ⟨h3,h1,h4,h5⟩
 ·obtain ⟨o,es,ep,ho,r⟩:=hm;exact ⟨o,es,ep,k _ o (fun z=>(hf _ z).2.1 rfl) ho,r⟩
 ·refine (I.AG b u e).Hj (fun c v hc q=>k c v ?_ q) (fun _ q=>q) fun _ _ q=>q;rcases hc with z | z
  ·rw [z];exact JJ b u e
  ·exact JJ c _ z
def Inv.Yn {o:HO}(I:Inv X pins σ H s)(hf:∀ b∈fp,Dx X pins H b)(k:∀ b o,b∉fp->s.heap.get? b=some o->h'.get? b=some o)
  (ha:s.heap.objs.size<=a) (new:Br X.prog X.w (upd H a o) h' a o):Inv X pins σ (upd H a o) { s with heap:=h',toks:=t' }:=by
 have hn:H a=none:=I.AG.fresh ha;have JJ:∀ b u,H b=some u->b∉fp:=fun b u e z=>by rw [(hf b z).1] at e;cases e
 have ne:∀ b u,H b=some u->b≠a:=fun b u e=>DQ e hn;have ne2:∀ b u,s.heap.get? b=some u->b≠a:=fun b u e=>CQ (E6 (Au e) ha);refine I.step (g':=s.gens) (d':=s.drawn) (ch:=fp) (fun b hb=>?_) (fun b o _ _ hc e _=>k b o hc e) (fun b o _ _ hc e _=>⟨o.slots,k b o hc e⟩) (fun b o _ e n=>by rw [AS (ne2 b o e)];exact n)
  (fun b o hc e=>⟨o,k b o hc e⟩) (fun b _ e=>by rw [AS (ne b _ e)];exact e) (fun b _ _ e=>by rw [AS (ne b _ e)];exact e) (fun b ps e=>⟨#[],by rw [AS (ne b _ e),e];simp⟩) (fun m hm=>?_) (fun b u e=>?_) I.bare
 ·obtain ⟨_,h1,_,h3,h4,h5⟩:=hf b hb;exact ⟨h3,h1,h4,h5⟩
 ·obtain ⟨o,es,ep,ho,r⟩:=hm;exact ⟨o,es,ep,k _ o (fun z=>(hf _ z).2.1 rfl) ho,r⟩
 ·by_cases hb:b=a
  ·subst hb;rw [Al] at e;cases e;exact new
  ·rw [AS hb] at e;refine (I.AG b u e).Hj (fun c v hc q=>k c v ?_ q) (fun c q=>by rw [AS (ne c _ q)];exact q) fun c _ q=>by rw [AS (ne c _ q)];exact q
   rcases hc with z | z
   ·rw [z];exact JJ b u e
   ·exact JJ c _ z
def Zv (K:ZAy)(a:Addr)(xs:List V):It:=
 ⟨fun i H=>AI K H a xs/\i<xs.length,fun i H x H'=>∃ p y,xs[i]?=some y/\x=.ref p/\H p=none/\H'=upd H p (.tup [.int i,y]),fun i H=>AI K H a xs/\xs.length<=i⟩
def jv {P:Program}{K:ZAy}(a e it:Addr)(xs:List V)(Zq:e≠it):
  Turn P w K (.Tuple es k1 p1) (Zv K a xs) [e,it] e (fun i h=>(∃ old,IsEnum h e it i old)/\h.IsListIter it a i) where
 mem:=by simp
 obj:=fun i h st b hb=>by
  obtain ⟨⟨old,h1⟩,o,h2,_,d⟩:=st;rcases List.mem_cons.mp hb with z | z
  ·subst z;exact ⟨_,h1,fun v z=>by cases z⟩
  ·have:b=it:=by simpa using z
   subst this;exact ⟨o,h2,fun v z=>by rw [d] at z;cases z⟩
 keep:=fun i h h' st k=>⟨let ⟨old,h1⟩:=st.1;⟨old,k e (by simp) _ h1⟩,st.2.at fun o q=>k it (by simp) o q⟩
 item:=by
  intro X hP hw hK hc i pins s σ H E I hf st hg;subst hP hw hK;obtain ⟨hq,hi⟩:=hg;obtain ⟨⟨old,he⟩,hit⟩:=st;obtain ⟨A1,rv,p,hz⟩:=I.list hq;obtain ⟨u,hu,ru⟩:=rv.get (AR hi);refine wpAny_pyNext_enum_item he hit p.isList (x:=u) (by simpa using hu) Zq fun h1 IX Lz xa SI kz=>⟨_,rfl,?_⟩
  refine wpAny_letOwnedTupleGo_enum IX fun h2 j8 CT=>?_;have AM:e<s.heap.objs.size:=Au he;have O6:h2.get? s.heap.objs.size=some { cls:=.type "tuple", data:=.seq #[.int i s.toks,u] }:=(CT.2 _ (Ke AM)).trans xa;have kp:∀ b o,b∉[e,it]->s.heap.get? b=some o->h2.get? b=some o:=fun b o hb q=>by
   have DO:b≠e/\b≠it:=by simpa using hb
   exact (CT.2 b DO.1).trans (kz b o DO.1 DO.2 q)
  refine ⟨.ref s.heap.objs.size,_,I.Yn (t':=s.toks+1) (a:=s.heap.objs.size) (o:=.tup [.int i,xs[i]]) hf kp (Aj _) ?_,rfl,⟨_,_,AR hi,rfl,I.AG.fresh (Aj _),rfl⟩,⟨⟨_,j8⟩,Lz.at fun o q=>(CT.2 it (Bj Zq)).trans q⟩,fun b hb=>?_⟩
  ·exact ⟨(by show 2<=sizeLine;decide),[.int i s.toks,u],.cons ⟨_,rfl⟩ (.cons ru .nil),⟨_,O6,rfl,_,rfl⟩,fun ob q=>by rw [O6] at q;cases q;rfl⟩
  ·have R1:b<s.heap.objs.size:=by
    rcases List.mem_cons.mp hb with z | z
    ·rw [z];exact AM
    ·have:b=it:=by simpa using z
     obtain ⟨o,q,_⟩:=hit;rw [this];exact Au q
   rw [AS (CQ R1)];exact (hf b hb).1
 done:=by
  intro X hP hw hK hc i pins s σ H E I hf st hg;subst hP hw hK;obtain ⟨hq,hx⟩:=hg;obtain ⟨⟨old,he⟩,hit⟩:=st;obtain ⟨A1,rv,p,hz⟩:=I.list hq;have hl:=rv.length;exact wpAny_pyNext_enum_end (I.ok.hd hc) he hit p.isList (by simp;omega) fun h' eb=>⟨rfl,I.aX (t':=s.toks) hf fun b o hb q=>eb b o (fun z=>hb (by simp [z])) q⟩
 self:=fun _ _ _ _ _ st h=>let ⟨⟨_,he⟩,_⟩:=st;wpAny_pyIter_enum he h
def Tz (K:ZAy)(t:TA):TI:=fun σ H R=>t σ H fun vs H1=>∃ a xs,vs=[.ref a]/\AI K H1 a xs/\R (Zv K a xs) H1
def XT {p:Pos}{l:Expr}{t:TA}(hg:Gl X "enumerate")(hm:X.mg "enumerate"=none)(ha:QA X [l] t)(hs:starEach [l] X.env=[(false,eval l X.env)]:=by rfl):
  QI X (.Tuple es k1 p1) (.Call (.Name "enumerate" p) [l] [] pos) (Tz X.K t):=⟨by
 have ha:=ha.h;intro pins s σ H R I h;refine kL (JK I hg hm (show bootBuiltins "enumerate"=some (.type "enumerate") by decide +kernel) ?_ (by decide) (by decide));refine RI (AF (ha pos pins s σ H _ I h) fun us s1 ⟨vs,H1,I1,r1,q1⟩=>?_) hs rfl;obtain ⟨a,xs,rfl,hq,q⟩:=q1;obtain ⟨u,rfl,rx⟩:=vals1 r1;cases rx;obtain ⟨A1,rv,p,hz⟩:=I1.list hq;refine call_enumerate_list p.isList fun h' he hit hsz kp=>?_;refine wpAny_pyIter_enum he ?_;have As:s1.heap.objs.size+1≠s1.heap.objs.size:=Nat.succ_ne_self _;refine ⟨s1.heap.objs.size+1,[s1.heap.objs.size+1,s1.heap.objs.size],_,_,H1,rfl,I1.kept (t':=s1.toks) kp,jv a _ _ xs As,⟨⟨_,he⟩,hit⟩,fun b hb=>?_,q⟩;have R1:s1.heap.objs.size<=b:=by
  rcases List.mem_cons.mp hb with z | z
  ·rw [z];exact MB _
  ·have:b=s1.heap.objs.size:=by simpa using z
   rw [this];exact Aj _
 exact I1.J7 R1 (I1.AG.fresh R1)⟩
open AutoSeq1 (wpAny_loadPart')
def UH {l:List (Int×Value)}(h:ElemsOf (PySem.strKind prog w) l):∃ ts,StrsAre (l.map (·.2)) ts/\∀ k,k∈ts↔∃ e∈l,(PySem.strKind prog w).is k e.2=true:=by
 induction l with
 | nil=>exact ⟨[],.nil,fun k=>by simp⟩
 | cons e r ih=>
  obtain ⟨ts,h1,h2⟩:=ih h.tail;obtain ⟨⟨k,hk,_⟩,_⟩:=h.head;obtain ⟨tk,he⟩:=Value.isStrOf_shape hk;refine ⟨k::ts,?_,fun k'=>?_⟩
  ·rw [Ac,he];exact .cons k tk h1
  ·rw [Dq,h2 k'];constructor
   ·rintro (rfl | ⟨x,hx,q⟩)
    ·exact ⟨e,HG,hk⟩
    ·exact ⟨x,E5 _ hx,q⟩
   ·rintro ⟨x,hx,q⟩;rcases List.mem_cons.mp hx with rfl | hx
    ·exact .inl ((PySem.strKind prog w).inj x.2 k' k q hk)
    ·exact .inr ⟨x,hx,q⟩
section
variable {R:Result->Shared->Prop}{wr:List Addr}{G:Array GenState->Array GenState->Prop}{P:Nat->Value->Prop}{St:Nat->Shared->Prop}{ss:List Str}
def Inv.drew (I:Inv X pins σ H s)(d:Drawn):Inv X pins σ H { s with drawn:=d }:=
 I.step (h':=s.heap) (g':=s.gens) (t':=s.toks) (d':=d) (ch:=[]) (fun _ z=>nomatch z) (fun b o _ _ _ e _=>e) (fun b o _ _ _ e _=>⟨o.slots,e⟩) (fun _ _ _ _ n=>n) (fun b o _ e=>⟨o,e⟩) (fun _ _ e=>e) (fun _ _ _ e=>e) (fun b ps e=>⟨#[],by rw [e];simp⟩) (fun m hm=>hm) I.AG I.bare
end
theorem Pg:∀ {ss:List Int}{us:List Value},Vals (ss.map V.int) us->IntsAre us ss
 | [],_,.nil=>.nil
 | x::r,_,.cons ⟨t,e⟩ h=>by rw [e];exact .cons x t (Pg h)
end L2
namespace HT
open AutoSeq1 (wpAny_loadPart')
variable {E Q:Value->Shared->Prop}{it tu:Addr}{i:Nat}
section
variable {prog:Program}{w:World}{A:Around}{s:Shared}
def oJ {vals:Array Value}{v:Value}(hi:s.heap.IsTupleIter it tu i)(ht:s.heap.IsTuple tu vals)(hv:vals[i]?=some v)
  (q:∀ h',h'.IsTupleIter it tu (i+1)->Heap.SameBut it s.heap h'->Q v { s with heap:=h' }):wpAny (model prog w) A (Builtin.SmallTypes.nextOf (.ref it)) Q E s:=by
 obtain ⟨o,ho,hc,hd⟩:=id hi;obtain ⟨o2,Iz,_,k,hd2⟩:=ht;unfold Builtin.SmallTypes.nextOf;refine gd (m9 (name:=Str.ofString "__next__") hi.typeIs WZ (oV WZ hi.typeIs zq ?_ (zp _)));show wpAny _ _ (field (.ref it) 0 >>= _) _ _ s;refine gd (kf ho hd (x:=.ref tu) rfl ?_);show wpAny _ _ (if (Value.ref tu == Value.none)=true then _ else _) _ _ s;rw [gg (show ¬ ((Value.ref tu == Value.none)=true) from Cd)]
 show wpAny _ _ (field (.ref it) 1 >>= _) _ _ s;refine gd (kf ho hd (x:=.int i 0) rfl ?_);show wpAny _ _ (seqItems? (.ref tu) >>= _) _ _ s;refine gd (kE Iz hd2 ?_);simp only [HE,hv];refine gd (wpAny_setField ho hd (by simp) (i7 ⟨v,rfl,i7 (q _ ?_ (Heap.SameBut.update ..))⟩));exact ⟨_,M5 _ ho (Obj.isFreed_of_fields (Obj.data_mapFields hd _)),(Obj.cls_mapFields ..).trans hc,by rw [Obj.data_mapFields hd];simp [rawInt]⟩
def uf {vals:Array Value}(hh:A.handled=none)(hi:s.heap.IsTupleIter it tu i)(ht:s.heap.IsTuple tu vals)(hv:vals[i]?=none)
  (q:∀ h' e,Heap.ExtBut it s.heap h'->(∃ o,h'.get? e=some o/\o.cls=.type "StopIteration")->E (.ref e) { s with heap:=h' }):wpAny (model prog w) A (Builtin.SmallTypes.nextOf (.ref it)) Q E s:=by
 obtain ⟨o,ho,hc,hd⟩:=id hi;obtain ⟨o2,Iz,_,k,hd2⟩:=ht;unfold Builtin.SmallTypes.nextOf;refine gd (m9 (name:=Str.ofString "__next__") hi.typeIs WZ (oV WZ hi.typeIs zq ?_ (zp _)));show wpAny _ _ (field (.ref it) 0 >>= _) _ _ s;refine gd (kf ho hd (x:=.ref tu) rfl ?_);show wpAny _ _ (if (Value.ref tu == Value.none)=true then _ else _) _ _ s;rw [gg (show ¬ ((Value.ref tu == Value.none)=true) from Cd)]
 show wpAny _ _ (field (.ref it) 1 >>= _) _ _ s;refine gd (kf ho hd (x:=.int i 0) rfl ?_);show wpAny _ _ (seqItems? (.ref tu) >>= _) _ _ s;refine gd (kE Iz hd2 ?_);simp only [HE,hv];refine gd (rJ (gd (wpAny_setField ho hd (by simp) ?_)));show wpAny _ _ (newExc (.type "StopIteration") [] >>= _) _ _ _;refine gd ?_;simp only [newExc,newTuple];refine gd (oN ?_ (by size_fits));refine gd (m:=firstArgMember _ _) (wpAny_of_eq (a:=Value.none) (by first | rfl | (simp only [firstArgMember];rfl)) ?_);refine oN ?_ (by size_fits)
 simp only [raiseNew];refine gd (wpAny_handled ?_);first | rw [show A.in1.handled=none from hh] | rw [hh]
 refine gd (i7 (wpAny_throw ?_));exact q _ _ (((Heap.SameBut.update ..).extBut.push _).push _) ⟨_,C1 _ rfl,rfl⟩
end
end HT
namespace MA
def lets (n:Nat):List Nat:=if h:n<26 then [97+n] else (97+n % 26)::lets (n / 26)
termination_by n
decreasing_by omega
def vals:List Nat->Nat
 | []=>0
 | c::r=>(c - 97)+26 * vals r
def LO {n:Nat}(h:n<26):lets n=[97+n]:=by unfold lets;simp [h]
def NH {n:Nat}(h:¬ n<26):lets n=(97+n % 26)::lets (n / 26):=by rw [lets];simp [h]
def Yo:∀ n,vals (lets n)=n:=by
 intro n
 induction n using Nat.strongRecOn with
 | _ n ih=>
  by_cases h:n<26
  ·rw [LO h];simp [vals]
  ·rw [NH h];have:=ih (n / 26) (by omega);simp only [vals,this];omega
def mi {a b:Nat}(h:lets a=lets b):a=b:=by rw [<- Yo a,h,Yo]
def Uq (n:Nat):1<=(lets n).length:=by
 by_cases h:n<26
 ·rw [LO h];simp
 ·rw [NH h];simp
theorem OI:∀ (k n:Nat),n<26 ^ (k+1)->(lets n).length<=k+1
 | 0,n,h=>by rw [LO (by simpa using h)];simp
 | k+1,n,h=>by
  by_cases h1:n<26
  ·rw [LO h1];simp
  ·rw [NH h1];have:=OI k (n / 26) (by rw [Nat.pow_succ] at h;exact Nat.div_lt_of_lt_mul (by rw [Nat.mul_comm];exact h));simp only [Bu];omega
def yZ:∀ n,∀ c∈lets n,97<=c/\c<=122:=by
 intro n
 induction n using Nat.strongRecOn with
 | _ n ih=>
  by_cases h:n<26
  ·rw [LO h];intro c hc;simp at hc;omega
  ·rw [NH h];intro c hc;rcases List.mem_cons.mp hc with e | e
   ·omega
   ·exact ih (n / 26) (by omega) c e
theorem Yt {α:Type}[DecidableEq α]:∀ (k:Nat) (f:Nat->α) (l:List α),(∀ i j,i<k->j<k->f i=f j->i=j)->(∀ i,i<k->f i∈l)->k<=l.length
 | 0,_,_,_,_=>CD _
 | k+1,f,l,hi,hm=>by
  have h1:=hm k (X3 k);have:=Yt k f (l.erase (f k)) (fun i j a b e=>hi i j (by omega) (by omega) e) (fun i a=>by
   have As:f i≠f k:=fun e=>by have:=hi i k (by omega) (by omega) e;omega
   exact (ZA4 As).mpr (hm i (by omega)))
  rw [gH h1] at this;have hp:=gJ h1;omega
end MA
namespace Lw
open L2
variable {a l p:Addr}{H H' H2:Hp}{xs:List V}{o:HO}{α:Type}{n:Nat}{i j r:Int}{ns:List Str}{x z:Str}
def BN (H:Hp)(p:Addr):Prop:=∃ a b:Int,H p=some (.lst [.int a,.int b])/\0<=a/\a<10 ^ 256/\0<=b/\b<2147483647
structure C4 (p:Addr) (H H':Hp):Prop where
 AQ:BN H' p
 same:FT p H H'
theorem C4.trans {H1:Hp}(a:C4 p H H1)(b:C4 p H1 H2):C4 p H H2:=⟨b.AQ,a.same.trans b.same⟩
theorem C4.of (h:BN H p)(s:AJ H H'):C4 p H H':=by
 obtain ⟨a,b,e,r⟩:=h;exact ⟨⟨a,b,s _ _ e,r⟩,FT.of s⟩
def C4.MR {K:ZAy}(s:C4 p H H')(h:AI K H a xs)(As:a≠p):AI K H' a xs:=by
 rcases h with (h | ⟨o,h⟩) | h
 ·exact .inl (.inl (s.same _ _ As h))
 ·exact .inl (.inr ⟨o,s.same _ _ As h⟩)
 ·exact .inr h
def C4.at' (s:C4 p H H')(h:H a=some o)(As:a≠p):H' a=some o:=s.same _ _ As h
def Lr {a:Int}(h0:-(10 ^ 20)<a)(h1:a<10 ^ 20):a.natAbs<2 ^ 1000:=by
 have h4:a.natAbs<10 ^ 20:=by omega
 exact Nat.lt_trans h4 (by decide +kernel)
def PR (K:ZAy):Sp:=fun vs H Q _=>∃ (a:Addr) (ns:List Int) (k:Int),vs=[.ref a,.int k]/\AI K H a (ns.map V.int)/\0<=k/\k<=1000/\∀ p H',H p=none->AJ H H'->BN H' p->Q (.ref p) H'
def LN:Sp:=fun vs H Q _=>∃ (p:Addr) (m:Int),vs=[.ref p,.int m]/\BN H p/\0<m/\m<10 ^ 18/\∀ r H',0<=r->r<m->C4 p H H'->Q (.int r) H'
def Cr (l:List Nat):Str:=⟨l.toArray⟩
def Z9:Sp:=fun vs H Q _=>∃ r:Int,vs=[.int r]/\0<=r/\r<26 ^ 8/\Q (.str (Cr (MA.lets r.toNat))) H
def L9 {xs:List α}{k:Int}{v:α}(h0:0<=k)(h:xs[k.toNat]?=some v):Ba xs k=some v:=by
 have ek:k=((k.toNat:Nat):Int):=by omega
 have q:=En h;rw [<- ek] at q;exact q
abbrev Kw:Str:="abcdefghijklmnopqrstuvwxyz"
def p8:∀ j,j<26->Kw.cps.toList[j]?=some (97+j):=by decide +kernel
def cx {k:Int}(h0:0<=k)(h1:k<26):Ba Kw.cps.toList k=some (97+k.toNat):=L9 h0 (p8 _ (by omega))
def cZ (l:List Nat)(c:Nat):Cr l++(⟨#[c]⟩:Str)=Cr (l++[c]):=by
 show (⟨l.toArray++#[c]⟩:Str)=⟨(l++[c]).toArray⟩;simp
def Qb (l:List Nat):(Cr l).length=l.length:=by simp [Cr,Str.length]
def Xx {l:List Nat}:(V.str (Cr l)=V.str (Str.ofString ""))↔l=[]:=by
 constructor
 ·intro h;injection h with h
  have h2:=l9 (fun x=>x.cps.toList) h;have e:(Str.ofString "").cps.toList=[]:=by decide +kernel
  rw [e] at h2
  simpa [Cr] using h2
 ·rintro rfl;rfl
def small (h:n<=100000):n<=sizeLine:=Em h (by decide +kernel)
def Yu {k:Nat}{pre:List Nat}(h:pre++MA.lets k=MA.lets n):(0<k / 26->(pre++[97+k % 26])++MA.lets (k / 26)=MA.lets n)/\(k / 26=0->pre++[97+k % 26]=MA.lets n):=by
 constructor
 ·intro h1;rw [MA.NH (by omega)] at h;rw [<- h,Ce];rfl
 ·intro h1;have h2:k<26:=by omega
  rw [MA.LO h2] at h;rw [<- h,Nat.mod_eq_of_lt h2]
def Nm (x:Str):Prop:=1<=x.length/\x.length<=8/\∀ c∈x.cps.toList,97<=c/\c<=122
instance (x:Str):Decidable (Nm x):=by unfold Nm;exact inferInstance
def HB (x:Str):x.length=x.cps.toList.length:=by simp [Str.length]
def S7 (h:n<26 ^ 8):Nm (Cr (MA.lets n)):=by
 refine ⟨by rw [Qb];exact MA.Uq n,by rw [Qb];exact MA.OI 7 n h,fun c hc=>MA.yZ n c (by simpa [Cr] using hc)⟩
def menu:List Str:=["put","take","none","ahead","all","over","next","a","ab","abc","abcdefgh","b","step"]
def y3:∀ x∈menu,Nm x:=by decide +kernel
def QN:List V:=[.str "put", .str "take", .str "none", .str "ahead", .str "all", .str "over", .str "next", .str "a", .str "ab", .str "abc", .str "abcdefgh", .str "b", .str "step"]
def oY (h0:0<=i)(h1:i<13):∃ x,Ba QN i=some (.str x)/\Nm x:=by
 have hl:menu.length=13:=rfl;have hi:i.toNat<menu.length:=by omega
 have e:QN=menu.map V.str:=rfl;refine ⟨menu[i.toNat],L9 h0 ?_,y3 _ (Fq hi)⟩;rw [e,AV,AR hi];rfl
def aN (h0:0<=i)(h1:i<ns.length):∃ x,Ba (ns.map V.str) i=some (.str x)/\x∈ns/\ns[i.toNat]?=some x:=by
 have hi:i.toNat<ns.length:=by omega
 exact ⟨ns[i.toNat],L9 h0 (by rw [AV,AR hi];rfl),Fq hi,AR hi⟩
def JV (ns:List Str):(ns.map V.str).all Cp=true:=by
 rw [IC];intro x hx;obtain ⟨y,_,rfl⟩:=List.mem_map.mp hx;rfl
def T4 (x:Str)(ns:List Str):Q2 (.str x) (ns.map V.str)=decide (x∈ns):=by
 unfold Q2;rw [M4,gB,tG];constructor
 ·rintro ⟨v,hv,h⟩;obtain ⟨y,hy,rfl⟩:=List.mem_map.mp hv;have h':(y == x)=true:=h;have:y=x:=by simpa using h'
  rw [<- this];exact hy
 ·intro h;exact ⟨.str x,List.mem_map.mpr ⟨x,h,rfl⟩,by show (x == x)=true;simp⟩
def Ys (xs:List V):Gb xs []=decide (xs=[]):=by
 cases xs with
 | nil=>rfl
 | cons x r=>rw [Oe (by simp)];simp
def yQ (z:Str){a b:Nat}{lo hi:Option Int}(Hc:a<=b)(hb:b<=z.length)(e:Builtin.Str.strSliceIndices lo hi 1 z.length=Builtin.Str.strSliceIndices (some (a:Int)) (some (b:Int)) 1 z.length):
  (Txt.slice z lo hi).cps.toList=(z.cps.toList.drop a).take (b - a):=by
 have q:=StrLaws.sliced_plain z Hc hb;rw [<- e] at q;unfold Txt.slice;split
 ·rename_i h;have hl:(Builtin.Str.strSliceIndices lo hi 1 z.length).length=z.length:=by simpa using h
  rw [e,StrLaws.strSliceIndices_plain Hc hb,A9,IE] at hl;have h1:a=0:=by omega
  have h2:b=z.length:=by omega
  subst h1;subst h2;rw [Wj,X5,HB,Ee]
 ·rw [<- q]
def lP (z:Str)(h:0<=j):(Txt.slice z none (some j)).cps.toList=z.cps.toList.take j.toNat:=by
 have e:=yQ z (a:=0) (b:=min j.toNat z.length) (lo:=none) (hi:=some j) (CD _) (Nat.min_le_right _ _) (by
  have h1:¬ j<0:=by omega
  have h2:¬ (((min j.toNat z.length:Nat):Int)<0):=by omega
  have h3:max (0:Int) (min j (z.length:Int))=max 0 (min ((min j.toNat z.length:Nat):Int) (z.length:Int)):=by omega
  simp only [Builtin.Str.strSliceIndices,h1,h2,uE,h3];rfl)
 rw [e,Wj,X5];rcases gR j.toNat z.length with h1 | h1
 ·rw [X4 h1]
 ·rw [gS h1,HB,Ee,Kc (by rw [<- HB];exact h1)]
def fT (h:1<=j)(hj:j<=8)(hz:1<=z.length)(hc:∀ c∈z.cps.toList,97<=c/\c<=122):Nm (Txt.slice z none (some j)):=by
 have e:=lP z (j:=j) (by omega);refine ⟨?_,?_,fun c O0=>hc c ?_⟩
 ·rw [HB,e,D4,<- HB];omega
 ·rw [HB,e,D4];omega
 ·rw [e] at O0;exact X0 O0
def Y4 (x y:Str):(x++y).cps.toList=x.cps.toList++y.cps.toList:=by
 show (x.cps++y.cps).toList=_;simp
def b4 (x y:Str):(x++y).length=x.length+y.length:=by rw [HB,Y4,Bo,<- HB,<- HB]
def bR (K:ZAy):Sp:=fun vs H Q _=>∃ (p q:Addr) (ns:List Str),vs=[.ref p,.ref q]/\BN H p/\AI K H q (ns.map V.str)/\q≠p/\(∀ x∈ns,Nm x)/\ns.length<=1000/\∀ x H',Nm x->x∉ns->C4 p H H'->Q (.str x) H'
def lr {k:Nat}(h:∀ j,j<k->Cr (MA.lets j)∈ns):k<=ns.length:=
 MA.Yt k (fun j=>Cr (MA.lets j)) ns (fun i j _ _ e=>MA.mi (by
  have:=l9 (fun x=>x.cps.toList) e
  simpa [Cr] using this)) h
def i4:1000<26 ^ 8:=by decide +kernel
def l7:(1000:Int)<26 ^ 8:=by decide +kernel
def kQ:(26:Int) ^ (8:Int).toNat - 26<26 ^ 8:=by decide +kernel
def rq:(26:Int)<26 ^ 8:=by decide +kernel
def wN:(0:Int)<26 ^ (8:Int).toNat - 26:=by decide +kernel
def iR:(26:Int) ^ (8:Int).toNat - 26<10 ^ 18:=by decide +kernel
def YI (h0:0<=r)(h:r<26 ^ 8):r.toNat<26 ^ 8:=by omega
theorem C4.upd (s:C4 p H H2)(h:H l=none)(As:l≠p):C4 p H (upd H2 l o):=by
 obtain ⟨a,b,e,r⟩:=s.AQ;refine ⟨⟨a,b,by rw [AS (Bj As)];exact e,r⟩,fun c u hc q=>?_⟩;rw [AS (DQ q h)];exact s.same c u hc q
def BN.ne (h:BN H p)(hl:H l=none):l≠p:=by
 obtain ⟨_,_,e,_⟩:=h;exact (DQ e hl).symm
theorem AJ.none (s:AJ H H2)(h:H2 l=none):H l=none:=by
 cases q:H l with
 | none=>rfl
 | some o=>rw [s l o q] at h;cases h
def VY:Sp:=fun vs H Q _=>∃ (p:Addr) (m:Int),vs=[.ref p,.int m]/\BN H p/\0<=m/\m<=100/\
 ∀ l H' (ns:List Str),H l=none->C4 p H H'->H' l=some (.lst (ns.map V.str))->(ns.length:Int)=m->(∀ x∈ns,Nm x)->ns.Nodup->Q (.ref l) H'
def KP {l:List α}{x:α}(h:l.Nodup)(hx:x∉l):(l++[x]).Nodup:=by
 rw [CV];exact ⟨h,by simp,fun a ha b hb=>by
  have:b=x:=by simpa using hb
  subst this;rintro rfl;exact hx ha⟩
def Qx (c:Nat):Bool:=!(Builtin.Str.occurrences Kw ⟨#[c]⟩ 0 Kw.length 1).isEmpty
def isNm (x:Str):Bool:=decide ((1:Int)<=x.length) && (decide ((x.length:Int)<=8) && x.cps.toList.all Qx)
def Rf:Sp:=fun vs H Q _=>∃ x:Str,vs=[.str x]/\x.length<=1000/\∀ H',AJ H H'->Q (.bl (isNm x)) H'
def qA (l:List α):l.filter (fun _=>true)=l:=List.filter_eq_self.mpr fun _ _=>rfl
def Xc:V->V
 | .str y=>.bl (!(Builtin.Str.occurrences Kw y 0 Kw.length 1).isEmpty)
 | _=>.bl false
def uO (x:Str):((Fh x).filter (fun _=>true)).map Xc=(x.cps.toList.map Qx).map V.bl:=by
 unfold Fh;rw [qA,CP,CP];rfl
def signs_get {i:Nat}{v:V}(h:(Fh x)[i]?=some v):∃ c,v=.str ⟨#[c]⟩:=by
 unfold Fh at h;rw [AV] at h;cases q:x.cps.toList[i]? with
 | none=>rw [q] at h;cases h
 | some c=>rw [q] at h;simp at h;exact ⟨c,h.symm⟩
theorem all_map (f:α->Bool)(l:List α):(l.map f).all id=l.all f:=by rw [List.all_map];rfl
def pS (xs:List Str):Gb (xs.map V.str) (xs.map V.str)=true:=by
 rw [PF rfl,IC];intro j hj;have Mn:j<xs.length:=by simpa using hj
 have e:(xs.map V.str)[j]?=some (.str xs[j]):=by rw [AV,AR Mn];rfl
 rw [NF e];show (xs[j] == xs[j])=true;simp
def Qg (K:ZAy)(t:String):PySem.W.kitOne K (.type t) (.type t)=some true:=by
 unfold PySem.W.kitOne;rw [gq (by simp)]
def Mx (K:ZAy):Sp:=fun vs H Q _=>∃ (a:Addr) (ns:List Int),vs=[.ref a]/\AI K H a (ns.map V.int)/\ns.length<=63/\∀ H',Q (.bl true) H'
def Dr (tp:Bool)(xs:List V):HO:=match tp with
 | false=>.lst xs
 | true=>.tup xs
def Dr.sq {K:ZAy}{tp:Bool}(h:H a=some (Dr tp xs)):FC K tp H a xs:=by
 cases tp
 ·exact AI.of h
 ·exact An.of h
def CN {c A B:Prop}[Decidable c](h:¬ c)(b:B):if c then A else B:=by rw [gg h];exact b
def zg:∀ j,j<26->Qx (97+j)=true:=by decide +kernel
def xf (h:Nm x):isNm x=true:=by
 obtain ⟨h1,h2,h3⟩:=h;unfold isNm;rw [hJ (by omega),hJ (by omega),fj,fj,IC];intro c hc;obtain ⟨a,b⟩:=h3 c hc;have:=zg (c - 97) (by omega);have e:97+(c - 97)=c:=by omega
 rw [e] at this;exact this
def me (K:ZAy):PySem.W.kitOne K (.type "int") (.type "bool")=some false:=by
 unfold PySem.W.kitOne;rw [gg (by decide)];with_unfolding_all rfl
end Lw
namespace Fz
open L2 Lw
variable {F F' H H':Hp}{v:V}{B7 vs:List V}{a l:Addr}{r:List V->Hp->VK->Prop}{σ τ:L2.St}{o:HO}{i i0 j:Nat}{ta tc te:TE}{tb u:TS}{b neg tp:Bool}{f:Int->Int->Int}{t:TA}{g:TG}{n:String}{c tt:TT}{wi:TI}{A:List Addr}{Q:VK}{X:XK}
inductive PV where
 | A8 | bl (b:Bool) | int (i:Int) | str (x:Str) | lst (xs:List PV) | tup (xs:List PV)
 | Ah (ks:List Key) (xs:List PV) | obj (C:Addr) (ns:List Str) (xs:List PV) | exc (C:Addr) (ns:List Str) (xs:List PV) | con (a:Addr) (xs:List PV)
variable {p:PV}{ps xs:List PV}
def YU (a C:Addr)(dx:Option Addr):HO:=.ext fun h=>∃ ob vs,h.get? a=some ob/\ob.cls=.ref C/\ob.dict=dx/\ob.data=.fields vs
mutual
inductive Rep (F:Hp):V->PV->Prop where
 | A8:Rep F .A8 .A8
 | bl (b:Bool):Rep F (.bl b) (.bl b)
 | int (i:Int):Rep F (.int i) (.int i)
 | str (x:Str):Rep F (.str x) (.str x)
 | lst {a:Addr}{vs:List V}{xs:List PV}:F a=some (.lst vs)->AH F vs xs->Rep F (.ref a) (.lst xs)
 | tup {a:Addr}{vs:List V}{xs:List PV}:F a=some (.tup vs)->AH F vs xs->Rep F (.ref a) (.tup xs)
 | Ah {a:Addr}{ks:List Key}{vs:List V}{xs:List PV}:F a=some (.dK (ks.zip vs))->ks.length=vs.length->AH F vs xs->Rep F (.ref a) (.Ah ks xs)
 | obj {a C dx:Addr}{ns:List Str}{vs:List V}{xs:List PV}:F a=some (.ins C dx (ns.zip vs))->F dx=some (.own a)->ns.length=vs.length->AH F vs xs->Rep F (.ref a) (.obj C ns xs)
 | con {a:Addr}{xs:List PV}:Rep F (.ref a) (.con a xs)
 | QQ {a C:Addr}:F a=some (YU a C none)->Rep F (.ref a) (.exc C [] [])
 | exc {a C dx:Addr}{ns:List Str}{vs:List V}{xs:List PV}:F a=some (YU a C (some dx))->F dx=some (.xd (ns.zip vs))->ns.length=vs.length->AH F vs xs->Rep F (.ref a) (.exc C ns xs)
inductive AH (F:Hp):List V->List PV->Prop where
 | nil:AH F [] []
 | cons {v:V}{p:PV}{vs:List V}{ps:List PV}:Rep F v p->AH F vs ps->AH F (v::vs) (p::ps)
end
mutual
theorem Rep.mono {F F':Hp}(s:AJ F F'):∀ {v:V}{p:PV},Rep F v p->Rep F' v p
 | _,_,.A8=>.A8
 | _,_,.bl b=>.bl b
 | _,_,.int i=>.int i
 | _,_,.str x=>.str x
 | _,_,.lst h r=>.lst (s _ _ h) (AH.mono s r)
 | _,_,.tup h r=>.tup (s _ _ h) (AH.mono s r)
 | _,_,.Ah h e r=>.Ah (s _ _ h) e (AH.mono s r)
 | _,_,.obj h h2 e r=>.obj (s _ _ h) (s _ _ h2) e (AH.mono s r)
 | _,_,.con=>.con
 | _,_,.QQ h=>.QQ (s _ _ h)
 | _,_,.exc h h2 e r=>.exc (s _ _ h) (s _ _ h2) e (AH.mono s r)
theorem AH.mono {F F':Hp}(s:AJ F F'):∀ {vs:List V}{ps:List PV},AH F vs ps->AH F' vs ps
 | _,_,.nil=>.nil
 | _,_,.cons r t=>.cons (Rep.mono s r) (AH.mono s t)
end
theorem AH.length {F:Hp}:∀ {vs:List V}{ps:List PV},AH F vs ps->vs.length=ps.length
 | [],_,.nil=>rfl
 | _::_,_,.cons _ t=>by rw [Bu,Bu,AH.length t]
theorem AH.get {F:Hp}:∀ {vs:List V}{ps:List PV}{i:Nat}{p:PV},AH F vs ps->ps[i]?=some p->∃ v,vs[i]?=some v/\Rep F v p
 | _,_,_,_,.nil,e=>by simp at e
 | _,_,0,_,.cons r _,e=>by simp at e;subst e;exact ⟨_,rfl,r⟩
 | _,_,i+1,p,.cons _ t,e=>by
  obtain ⟨u,h1,h2⟩:=AH.get (i:=i) (p:=p) t (by simpa using e)
  exact ⟨u,by simpa using h1,h2⟩
theorem AH.get' {F:Hp}:∀ {vs:List V}{ps:List PV}{i:Nat}{v:V},AH F vs ps->vs[i]?=some v->∃ p,ps[i]?=some p/\Rep F v p
 | _,_,_,_,.nil,e=>by simp at e
 | _,_,0,_,.cons r _,e=>by simp at e;subst e;exact ⟨_,rfl,r⟩
 | _,_,i+1,p,.cons _ t,e=>by
  obtain ⟨u,h1,h2⟩:=AH.get' (i:=i) (v:=p) t (by simpa using e)
  exact ⟨u,by simpa using h1,h2⟩
theorem AH.append {F:Hp}:∀ {vs ws:List V}{ps qs:List PV},AH F vs ps->AH F ws qs->AH F (vs++ws) (ps++qs)
 | _,_,_,_,.nil,s=>s
 | _,_,_,_,.cons r t,s=>.cons r (AH.append t s)
theorem AH.take {F:Hp}:∀ {vs:List V}{ps:List PV}(n:Nat),AH F vs ps->AH F (vs.take n) (ps.take n)
 | _,_,0,_=>by simp only [gO];exact .nil
 | _,_,_+1,.nil=>.nil
 | _,_,n+1,.cons r t=>.cons r (AH.take n t)
theorem AH.drop {F:Hp}:∀ {vs:List V}{ps:List PV}(n:Nat),AH F vs ps->AH F (vs.drop n) (ps.drop n)
 | _,_,0,r=>r
 | _,_,_+1,.nil=>.nil
 | _,_,n+1,.cons _ t=>AH.drop n t
def AH.one (r:Rep F v p):AH F [v] [p]:=.cons r .nil
def flat:PV->Bool
 | .lst _=>false
 | .tup _=>false
 | .Ah _ _=>false
 | .obj _ _ _=>false
 | .exc _ _ _=>false
 | .con _ _=>false
 | _=>true
def enc:PV->V
 | .bl b=>.bl b
 | .int i=>.int i
 | .str x=>.str x
 | _=>.A8
theorem Rep.enc (h:flat p=true)(r:Rep F v p):v=enc p:=by
 cases r <;> first | rfl | cases h
def Zr (h:flat p=true):Rep F (enc p) p:=by
 cases p with
 | A8=>exact .A8
 | bl b=>exact .bl b
 | int i=>exact .int i
 | str x=>exact .str x
 | lst xs=>cases h
 | tup xs=>cases h
 | Ah ks xs=>cases h
 | obj C ns xs=>cases h
 | exc C ns xs=>cases h
 | con a xs=>cases h
theorem AH.enc {F:Hp}:∀ {vs:List V}{ps:List PV},ps.all flat=true->AH F vs ps->vs=ps.map enc
 | _,_,_,.nil=>rfl
 | _,_,h,.cons r t=>by
  rw [OB,FN] at h;rw [Ac,<- Rep.enc h.1 r,<- AH.enc h.2 t]
theorem Ro {F:Hp}:∀ {ps:List PV},ps.all flat=true->AH F (ps.map enc) ps
 | [],_=>.nil
 | p::r,h=>by
  rw [OB,FN] at h;exact .cons (Zr h.1) (Ro h.2)
def P7 (h:flat p=true):Cp (Fz.enc p)=true:=by cases p <;> first | rfl | cases h
def YT (ns:List Str):(ns.map PV.str).all flat=true:=by
 rw [IC];intro x hx;obtain ⟨y,_,rfl⟩:=List.mem_map.mp hx;rfl
def wx (ns:List Int):(ns.map PV.int).all flat=true:=by
 rw [IC];intro x hx;obtain ⟨y,_,rfl⟩:=List.mem_map.mp hx;rfl
def jQ (ns:List Bool):(ns.map PV.bl).all flat=true:=by
 rw [IC];intro x hx;obtain ⟨y,_,rfl⟩:=List.mem_map.mp hx;rfl
def SW (ns:List Str):(ns.map PV.str).map Fz.enc=ns.map V.str:=by rw [CP];rfl
def wF (ns:List Bool):(ns.map PV.bl).map Fz.enc=ns.map V.bl:=by rw [CP];rfl
def rb (ns:List Int):(ns.map PV.int).map Fz.enc=ns.map V.int:=by rw [CP];rfl
def AH.strs {ns:List Str}(r:AH F vs (ns.map PV.str)):vs=ns.map V.str:=(r.enc (YT ns)).trans (SW ns)
def YC (ns:List Str):AH F (ns.map V.str) (ns.map PV.str):=by rw [<- SW];exact Ro (YT ns)
def AH.dM {ns:List Bool}(r:AH F vs (ns.map PV.bl)):vs=ns.map V.bl:=(r.enc (jQ ns)).trans (wF ns)
def AH.ints {ns:List Int}(r:AH F vs (ns.map PV.int)):vs=ns.map V.int:=(r.enc (wx ns)).trans (rb ns)
inductive NK where
 | lst | Ah (ks:List Key) | obj (C dx:Addr) (ns:List Str)
def NK.ho:NK->List V->HO
 | .lst,vs=>.lst vs
 | .Ah ks,vs=>.dK (ks.zip vs)
 | .obj C dx ns,vs=>.ins C dx (ns.zip vs)
def NK.more:NK->List Addr
 | .obj _ dx _=>[dx]
 | _=>[]
def NK.side (k:NK)(a:Addr)(H:Hp):Prop:=match k with
 | .obj _ dx _=>H dx=some (.own a)
 | _=>True
def NK.fit (k:NK)(n:Nat):Prop:=match k with
 | .Ah ks=>ks.length=n
 | .obj _ _ ns=>ns.length=n
 | _=>True
inductive OV where
 | fz (p:PV)
 | tp (xs:List OV)
 | nd (k:NK) (a:Addr) (xs:List OV)
mutual
def OV.addrs:OV->List Addr
 | .fz _=>[]
 | .tp xs=>OV.AX xs
 | .nd k a xs=>a::(k.more++OV.AX xs)
def OV.AX:List OV->List Addr
 | []=>[]
 | x::r=>x.addrs++OV.AX r
end
mutual
def OV.pv:OV->PV
 | .fz p=>p
 | .tp xs=>.tup (OV.CZ xs)
 | .nd .lst _ xs=>.lst (OV.CZ xs)
 | .nd (.Ah ks) _ xs=>.Ah ks (OV.CZ xs)
 | .nd (.obj C _ ns) _ xs=>.obj C ns (OV.CZ xs)
def OV.CZ:List OV->List PV
 | []=>[]
 | x::r=>x.pv::OV.CZ r
end
mutual
inductive Am (F H:Hp):V->OV->Prop where
 | fz {v:V}{p:PV}:Rep F v p->Am F H v (.fz p)
 | tp {a:Addr}{vs:List V}{xs:List OV}:F a=some (.tup vs)->Ak F H vs xs->Am F H (.ref a) (.tp xs)
 | nd {k:NK}{a:Addr}{vs:List V}{xs:List OV}:H a=some (k.ho vs)->k.side a H->k.fit vs.length->Ak F H vs xs->Am F H (.ref a) (.nd k a xs)
inductive Ak (F H:Hp):List V->List OV->Prop where
 | nil:Ak F H [] []
 | cons {v:V}{t:OV}{vs:List V}{ts:List OV}:Am F H v t->Ak F H vs ts->Ak F H (v::vs) (t::ts)
end
def OV.Cg {k:NK}{xs:List OV}:(OV.nd k a xs).addrs=a::(k.more++OV.AX xs):=by rw [OV.addrs]
def OV.Fg {xs:List OV}:(OV.tp xs).addrs=OV.AX xs:=by rw [OV.addrs]
def OV.NA:(OV.fz p).addrs=[]:=by rw [OV.addrs]
def OV.D9 {x:OV}{r:List OV}:OV.AX (x::r)=x.addrs++OV.AX r:=by rw [OV.AX]
def OV.FL:OV.AX []=[]:=by rw [OV.AX]
def NK.dk {k:NK}(h:k.side a H)(s:∀ b∈k.more,∀ o,H b=some o->H' b=some o):k.side a H':=by
 cases k with
 | obj C dx ns=>exact s dx (by simp [NK.more]) _ h
 | _=>trivial
mutual
theorem Am.mono {F F' H H':Hp}(f:AJ F F'):∀ {v:V}{t:OV},Am F H v t->(∀ a∈t.addrs,∀ o,H a=some o->H' a=some o)->Am F' H' v t
 | _,_,.fz r,_=>.fz (r.mono f)
 | _,_,.tp h r,s=>by
  rw [OV.Fg] at s;exact .tp (f _ _ h) (Ak.mono f r s)
 | _,_,.nd h sd ft r,s=>by
  rw [OV.Cg] at s;exact .nd (s _ (by simp) _ h) (NK.dk sd fun b hb=>s b (by simp [hb])) ft (Ak.mono f r fun a ha=>s a (by simp [ha]))
theorem Ak.mono {F F' H H':Hp}(f:AJ F F'):∀ {vs:List V}{ts:List OV},Ak F H vs ts->(∀ a∈OV.AX ts,∀ o,H a=some o->H' a=some o)->Ak F' H' vs ts
 | _,_,.nil,_=>.nil
 | _,_,.cons r t,s=>by
  rw [OV.D9] at s;exact .cons (Am.mono f r fun a ha=>s a (by simp [ha])) (Ak.mono f t fun a ha=>s a (by simp [ha]))
end
mutual
theorem Am.there {F H:Hp}:∀ {v:V}{t:OV},Am F H v t->∀ a∈t.addrs,H a≠none
 | _,_,.fz _,a,ha=>by rw [OV.addrs] at ha;cases ha
 | _,_,.tp _ r,a,ha=>by rw [OV.Fg] at ha;exact Ak.there r a ha
 | _,_,@Am.nd _ _ k b vs xs h sd ft r,a,ha=>by
  rw [OV.Cg,Dq,RC] at ha;rcases ha with rfl | ha | ha
  ·rw [h];simp
  ·cases k with
   | obj C dx ns=>
    have e:a=dx:=by simpa [NK.more] using ha
    subst e;have VG:H a=some (.own b):=sd;rw [VG];simp
   | _=>simp [NK.more] at ha
  ·exact Ak.there r a ha
theorem Ak.there {F H:Hp}:∀ {vs:List V}{ts:List OV},Ak F H vs ts->∀ a∈OV.AX ts,H a≠none
 | _,_,.nil,a,ha=>by rw [OV.FL] at ha;cases ha
 | _,_,.cons r t,a,ha=>by
  rw [OV.D9,RC] at ha;rcases ha with ha | ha
  ·exact Am.there r a ha
  ·exact Ak.there t a ha
end
theorem Ak.length {F H:Hp}:∀ {vs:List V}{ts:List OV},Ak F H vs ts->vs.length=ts.length
 | [],_,.nil=>rfl
 | _::_,_,.cons _ t=>by rw [Bu,Bu,Ak.length t]
inductive Slot where
 | any | is (p:PV) | own (xs:List PV) | AQ | sq (tp:Bool) (xs:List PV) | raw (P:Hp->V->Prop) | ow (lt:Bool) (t:OV)
variable {ss:List Slot}{s:Slot}{R5 nx:List Slot->Prop}
structure Ent0 where
 A:List Addr
 F0:Hp
 H0:Hp
 B:List Addr
variable {E:Ent0}
abbrev E3 (A:List Addr)(F H:Hp):Ent0:=⟨A,F,H,[]⟩
def Ok (E:Ent0)(F H:Hp):Slot->Option (Option V)->Prop
 | .any,_=>True
 | .is p,o=>∃ v,o=some (some v)/\Rep F v p
 | .own xs,o=>∃ l vs,o=some (some (.ref l))/\F l=none/\E.H0 l=none/\H l=some (.lst vs)/\AH F vs xs
 | .AQ,o=>∃ l,o=some (some (.ref l))/\F l=none/\(E.H0 l=none∨l∈E.A)/\BN H l
 | .sq true xs,o=>∃ v,o=some (some v)/\Rep F v (.tup xs)
 | .sq false xs,o=>∃ l vs,o=some (some (.ref l))/\(l∉E.A/\l∉E.B)/\E.H0 l=some (.lst vs)/\AH F vs xs
 | .raw P,o=>∃ v,o=some (some v)/\P F v/\∀ F F',AJ F F'->P F v->P F' v
 | .ow lt t,o=>∃ v,o=some (some v)/\Am F H v t/\t.addrs.Nodup/\∀ a∈t.addrs,F a=none/\(E.H0 a=none∨(lt=true/\a∈E.B))
def B0:Slot->Option (Option V)->Addr->Prop
 | .own _,o,l=>o=some (some (.ref l))
 | .AQ,o,l=>o=some (some (.ref l))
 | .ow _ t,_,l=>l∈t.addrs
 | _,_,_=>False
structure Fin (E:Ent0) (F H:Hp):Prop where
 fh:AJ F H
 f0:AJ E.F0 F
 keep:∀ a o,(a∉E.A/\a∉E.B)->E.H0 a=some o->H a=some o
 fresh:∀ a o,F a=some o->E.F0 a=some o∨E.H0 a=none
 GR:∀ a,a∈E.A->BN H a
 O4:∀ a,a∈E.A->F a=none
 a0:∀ a,a∈E.A->E.H0 a≠none
 bF:∀ a,a∈E.B->F a=none
 bH:∀ a,a∈E.B->H a≠none
 b0:∀ a,a∈E.B->E.H0 a≠none/\a∉E.A
structure Sg (E:Ent0) (ss:List Slot) (σ:L2.St) (F H:Hp):Prop extends Fin E F H where
 len:ss.length=σ.length
 ok:∀ (i:Nat) s,ss[i]?=some s->Ok E F H s σ[i]?
 Bd:∀ (i j:Nat) s u l,i≠j->ss[i]?=some s->ss[j]?=some u->B0 s σ[i]? l->¬ B0 u σ[j]? l
structure Ex where
 C:Addr
 ns:List Str
 xs:List PV
def Ex.at (x:Ex)(F:Hp)(C:Value)(dx:Option Addr):Prop:=
 C=.ref x.C/\((x.ns=[]/\x.xs=[]/\dx=none)∨∃ a vs,dx=some a/\F a=some (.xd (x.ns.zip vs))/\x.ns.length=vs.length/\AH F vs x.xs)
class Xw where
 e:L2.St->XK
 J:List Slot->Prop
 D:Ex->Prop
structure Ent [Xw] extends Ent0 where
 hx:∀ (ss:List Slot) (σ:L2.St) (F H:Hp) (x:Ex) (C:Value) (dx:Option Addr),Xw.J ss->Sg toEnt0 ss σ F H->Xw.D x->x.at F C dx->Xw.e σ C dx H
instance [Xw]:CoeOut Ent Ent0:=⟨Ent.toEnt0⟩
instance ZF:Xw:=⟨fun _=>E0,fun _=>True,fun _=>False⟩
def C9 (ss:List Slot)(σ:L2.St)(a:Addr):Prop:=∀ i:Nat,ss[i]?=some .AQ->σ[i]?≠some (some (.ref a))
structure Mv (E:Ent0) (ss:List Slot) (σ:L2.St) (F H F' H':Hp):Prop where
 st:Sg E ss σ F' H'
 ff:AJ F F'
 hh:∀ a o,C9 ss σ a->H a=some o->H' a=some o
 nn:∀ a o,F' a=some o->F a=some o∨H a=none
def Sg.Ht (S:Sg E ss σ F H)(h:H l=none):C9 ss σ l:=fun i hi e=>by
 obtain ⟨l',e1,_,_,_,_,e2,_⟩:=S.ok i _ hi;rw [e] at e1;cases e1;rw [h] at e2;cases e2
theorem Mv.none (m:Mv E ss σ F H F' H')(h:H' a=none):H a=none:=by
 cases e:H a with
 | none=>rfl
 | some o=>rw [m.hh a o (m.st.Ht h) e] at h;cases h
theorem Mv.refl (S:Sg E ss σ F H):Mv E ss σ F H F H:=⟨S,AJ.refl _,fun _ _ _ e=>e,fun _ _ e=>.inl e⟩
theorem Mv.trans {F1 H1 F2 H2:Hp}(a:Mv E ss σ F H F1 H1)(b:Mv E ss σ F1 H1 F2 H2):Mv E ss σ F H F2 H2:=
 ⟨b.st,a.ff.trans b.ff,fun c o n e=>b.hh c o n (a.hh c o n e),fun c o e=>(b.nn c o e).elim (fun e=>a.nn c o e) fun e=>.inr (a.none e)⟩
def Sg.DD (S:Sg E ss σ F H){p:Addr}(h:H p=none):E.H0 p=none:=by
 cases e:E.H0 p with
 | none=>rfl
 | some o=>
  by_cases q:p∈E.A
  ·obtain ⟨_,_,e1,_⟩:=S.GR p q;rw [h] at e1;cases e1
  ·by_cases qb:p∈E.B
   ·exact absurd h (S.bH p qb)
   ·rw [S.keep p o ⟨q,qb⟩ e] at h;cases h
def Sg.Bl (S:Sg E ss σ F H){p:Addr}(h:H p=none):F p=none:=AJ.none S.fh h
def BN.keep (h:BN H l)(k:∀ o,H l=some o->H' l=some o):BN H' l:=by
 obtain ⟨a,b,e,r⟩:=h;exact ⟨a,b,k _ e,r⟩
def Sg.dv (S:Sg E ss σ F H)(h:F l=some o):C9 ss σ l:=fun i hi e=>by
 obtain ⟨l',e1,e2,_⟩:=S.ok i _ hi;rw [e] at e1;cases e1;rw [h] at e2;cases e2
def Sg.dN (S:Sg E ss σ F H)(hA:l∉E.A)(h:E.H0 l=some o):C9 ss σ l:=fun i hi e=>by
 obtain ⟨l',e1,_,q,_⟩:=S.ok i _ hi;rw [e] at e1;cases e1;rcases q with q | q
 ·rw [h] at q;cases q
 ·exact hA q
def Sg.vP (S:Sg E ss σ F H)(h:l∈E.B):C9 ss σ l:=fun i hi e=>by
 obtain ⟨l',e1,_,q,_⟩:=S.ok i _ hi;rw [e] at e1;cases e1;obtain ⟨h0,hA⟩:=S.b0 l h;rcases q with q | q
 ·exact h0 q
 ·exact hA q
def Sg.Dk (S:Sg E ss σ F H)(h:ss[i]?=some s)(m:B0 s σ[i]? l):H l≠none:=by
 have k:=S.ok i s h;cases s with
 | own xs=>obtain ⟨l',vs,e1,_,_,e2,_⟩:=k;rw [show σ[i]?=some (some (.ref l)) from m] at e1;cases e1;rw [e2];simp
 | AQ=>obtain ⟨l',e1,_,_,_,_,e2,_⟩:=k;rw [show σ[i]?=some (some (.ref l)) from m] at e1;cases e1;rw [e2];simp
 | ow lt t=>obtain ⟨v,_,r,_⟩:=k;exact r.there l m
 | _=>cases m
def Sg.xK (S:Sg E ss σ F H)(h:ss[i]?=some s)(m:B0 s σ[i]? l):F l=none:=by
 have k:=S.ok i s h;cases s with
 | own xs=>obtain ⟨l',vs,e1,e2,_⟩:=k;rw [show σ[i]?=some (some (.ref l)) from m] at e1;cases e1;exact e2
 | AQ=>obtain ⟨l',e1,e2,_⟩:=k;rw [show σ[i]?=some (some (.ref l)) from m] at e1;cases e1;exact e2
 | ow lt t=>obtain ⟨v,_,r,_,q⟩:=k;exact (q l m).1
 | _=>cases m
def Sg.Il (S:Sg E ss σ F H)(h:ss[i]?=some s)(hl:H l=none):¬ B0 s σ[i]? l:=fun m=>S.Dk h m hl
def Sg.N8 (S:Sg E ss σ F H)(h:ss[i]?=some s)(m:B0 s σ[i]? l)(np:s≠.AQ):C9 ss σ l:=fun j hj ej=>
 S.Bd i j s _ l (by rintro rfl;rw [h] at hj;exact np (B8 hj)) h hj m ej
def Ok.go (S:Sg E ss σ F H)(hi:ss[i]?=some s)(ff:AJ F F')(hk:∀ a o,B0 s σ[i]? a->H a=some o->H' a=some o)(Bl:∀ a,H a≠none->F a=none->F' a=none)(np:s≠.AQ):Ok E F' H' s σ[i]?:=by
 have k:=S.ok i s hi;cases s with
 | any=>trivial
 | is p=>obtain ⟨v,e,r⟩:=k;exact ⟨v,e,r.mono ff⟩
 | own xs=>
  obtain ⟨l,vs,e,e1,e2,e3,r⟩:=k;exact ⟨l,vs,e,Bl l (by rw [e3];simp) e1,e2,hk l _ e e3,r.mono ff⟩
 | AQ=>exact absurd rfl np
 | sq tp xs=>
  cases tp with
  | true=>obtain ⟨v,e,r⟩:=k;exact ⟨v,e,r.mono ff⟩
  | false=>obtain ⟨l,vs,e,e1,e2,r⟩:=k;exact ⟨l,vs,e,e1,e2,r.mono ff⟩
 | raw P=>obtain ⟨v,e,r,st⟩:=k;exact ⟨v,e,st _ _ ff r,st⟩
 | ow lt t=>
  obtain ⟨v,e,r,nd,q⟩:=k;exact ⟨v,e,r.mono ff fun a ha o=>hk a o ha,nd,fun a ha=>⟨Bl a (r.there a ha) (q a ha).1,(q a ha).2⟩⟩
def Sg.step (S:Sg E ss σ F H)(ff:AJ F F')(fh:AJ F' H')(hk:∀ a o,C9 ss σ a->H a=some o->H' a=some o)(hn:∀ a o,F' a=some o->F a=some o∨H a=none)
  (hp:∀ (i:Nat) l,ss[i]?=some .AQ->σ[i]?=some (some (.ref l))->BN H' l):Mv E ss σ F H F' H':=by
 have Bl:∀ a,H a≠none->F a=none->F' a=none:=fun a h1 h2=>by
  cases e:F' a with
  | none=>rfl
  | some o=>
   rcases hn a o e with q | q
   ·rw [h2] at q;cases q
   ·exact absurd q h1
 have u9:∀ a,BN H a->C9 ss σ a->BN H' a:=fun a p n=>BN.keep p fun o e=>hk a o n e;refine ⟨⟨⟨fh,S.f0.trans ff,fun a o hA e=>?_,fun a o e=>?_,fun a hA=>?_,fun a hA=>?_,S.a0,fun a hB=>Bl a (S.bH a hB) (S.bF a hB),fun a hB=>?_,S.b0⟩,S.len,fun i s hi=>?_,S.Bd⟩,ff,hk,hn⟩
 ·exact hk a o (S.dN hA.1 e) (S.keep a o hA e)
 ·rcases hn a o e with q | q
  ·exact S.fresh a o q
  ·exact .inr (S.DD q)
 ·by_cases q:∃ i:Nat,ss[i]?=some .AQ/\σ[i]?=some (some (.ref a))
  ·obtain ⟨i,q1,q2⟩:=q;exact hp i a q1 q2
  ·exact u9 a (S.GR a hA) fun i h1 h2=>q ⟨i,h1,h2⟩
 ·refine Bl a ?_ (S.O4 a hA);obtain ⟨_,_,e1,_⟩:=S.GR a hA;rw [e1];simp
 ·obtain ⟨o,e⟩:=Option.ne_none_iff_exists'.mp (S.bH a hB);rw [hk a o (S.vP hB) e];simp
 ·by_cases np:s=.AQ
  ·subst np;obtain ⟨l,e,e1,e2,e3⟩:=S.ok i _ hi;have Fi:=e3;obtain ⟨_,_,e4,_⟩:=Fi;exact ⟨l,e,Bl l (by rw [e4];simp) e1,e2,hp i l hi e⟩
  ·exact Ok.go S hi ff (fun a o m=>hk a o (S.N8 hi m np)) Bl np
def Sg.ET (S:Sg E ss σ F H)(hi:ss[i]?=some .AQ)(e:σ[i]?=some (some (.ref l))):BN H l:=by
 obtain ⟨l',e1,_,_,p⟩:=S.ok i _ hi;rw [e] at e1;cases e1;exact p
def Sg.alloc (S:Sg E ss σ F H){p:Addr}(h:H p=none)(o:HO):Mv E ss σ F H (upd F p o) (upd H p o):=by
 refine S.step (D5 (S.Bl h) _) (fun a u e=>?_) (fun a u _ e=>D5 h o a u e) (fun a u e=>?_) fun i l hi e=>BN.keep (S.ET hi e) fun u e=>D5 h o l u e
 ·by_cases q:a=p
  ·subst q;rw [Al] at e ⊢;exact e
  ·rw [AS q] at e ⊢;exact S.fh a u e
 ·by_cases q:a=p
  ·subst q;exact .inr h
  ·rw [AS q] at e;exact .inl e
def Sg.make (S:Sg E ss σ F H){p:Addr}(h:H p=none)(o:HO):Mv E ss σ F H F (upd H p o):=
 S.step (AJ.refl _) (S.fh.trans (D5 h o)) (fun a u _ e=>D5 h o a u e) (fun a u e=>.inl e) fun i l hi e=>BN.keep (S.ET hi e) fun u e=>D5 h o l u e
def Sg.grow (S:Sg E ss σ F H)(s:AJ H H'):Mv E ss σ F H F H':=
 S.step (AJ.refl _) (S.fh.trans s) (fun a u _ e=>s a u e) (fun a u e=>.inl e) fun i l hi e=>BN.keep (S.ET hi e) fun u e=>s l u e
def Sg.setG (S:Sg E ss σ F H)(AG:Ok E F H s (some (some v)))(c8:∀ l,B0 s (some (some v)) l->∀ (i:Nat) u,i≠j->ss[i]?=some u->¬ B0 u σ[i]? l):Sg E (ss.set j s) (σ.set j (some v)) F H:=by
 refine ⟨S.toFin,by rw [JO,JO];exact S.len,fun i u hi=>?_,fun i k u w l P8 hi hk mu mw=>?_⟩
 ·by_cases q:i=j
  ·subst q;have AM:i<ss.length:=by have:=(List.getElem?_eq_some_iff.mp hi).1;simpa using this
   rw [DG AM] at hi;cases hi;rw [DG (by rw [<- S.len];exact AM)];exact AG
  ·rw [Cs (Bj q)] at hi ⊢;exact S.ok i u hi
 ·by_cases q:i=j
  ·subst q;have AM:i<ss.length:=by have:=(List.getElem?_eq_some_iff.mp hi).1;simpa using this
   rw [DG AM] at hi;rw [DG (by rw [<- S.len];exact AM)] at mu;cases hi;rw [Cs P8] at hk mw;exact c8 l mu k w (Bj P8) hk mw
  ·rw [Cs (Bj q)] at hi mu
   by_cases q2:k=j
   ·subst q2;have AM:k<ss.length:=by have:=(List.getElem?_eq_some_iff.mp hk).1;simpa using this
    rw [DG AM] at hk;cases hk;rw [DG (by rw [<- S.len];exact AM)] at mw;exact c8 l mw i u P8 hi mu
   ·rw [Cs (Bj q2)] at hk mw;exact S.Bd i k u w l P8 hi hk mu mw
def Sg.Fs (S:Sg E ss σ F H)(r:Rep F v p):Sg E (ss.set j (.is p)) (σ.set j (some v)) F H:=S.setG ⟨v,rfl,r⟩ fun _ h=>by cases h
def Sv (ss:List Slot)(σ:L2.St)(F H:Hp)(v:V):Bool->List PV->Prop
 | true,xs=>Rep F v (.tup xs)
 | false,xs=>∃ l vs,v=.ref l/\C9 ss σ l/\H l=some (.lst vs)/\AH F vs xs
def Fv (E:Ent0)(F:Hp)(v:V):Bool->List PV->Prop
 | true,xs=>Rep F v (.tup xs)
 | false,xs=>∃ l vs,v=.ref l/\(F l=some (.lst vs)∨((l∉E.A/\l∉E.B)/\E.H0 l=some (.lst vs)))/\AH F vs xs
structure Wp [Xw] (ss:List Slot) (t:TE) (k:PV->Prop):Prop where
 go:∀ (E:Ent) (σ:L2.St) (F H:Hp) (Q:VK),Sg E ss σ F H->(∀ v p F' H',Mv E ss σ F H F' H'->Rep F' v p->k p->Q v H')->t σ H Q
structure Wn [Xw] (ss:List Slot) (t:TE) (k:List PV->Prop):Prop where
 go:∀ (E:Ent) (σ:L2.St) (F H:Hp) (Q:VK),Sg E ss σ F H->(∀ l vs xs F' H',Mv E ss σ F H F' H'->F' l=none->H l=none->H' l=some (.lst vs)->AH F' vs xs->k xs->Q (.ref l) H')->t σ H Q
structure Wq [Xw] (ss:List Slot) (t:TE) (k:Bool->List PV->Prop):Prop where
 go:∀ (E:Ent) (σ:L2.St) (F H:Hp) (Q:VK),Sg E ss σ F H->(∀ v tp xs F' H',Mv E ss σ F H F' H'->Sv ss σ F' H' v tp xs->k tp xs->Q v H')->t σ H Q
structure Wz [Xw] (ss:List Slot) (t:TE) (k:Bool->List PV->Prop):Prop where
 go:∀ (E:Ent) (σ:L2.St) (F H:Hp) (Q:VK),Sg E ss σ F H->(∀ v tp xs F' H',Mv E ss σ F H F' H'->Fv E F' v tp xs->k tp xs->Q v H')->t σ H Q
structure Wt [Xw] (ss:List Slot) (t:TT) (k:Bool->Prop):Prop where
 go:∀ (E:Ent) (σ:L2.St) (F H:Hp) (Q:Bool->Hp->Prop),Sg E ss σ F H->(∀ b F' H',Mv E ss σ F H F' H'->k b->Q b H')->t σ H Q
def Av (ss:List Slot)(σ:L2.St)(F H:Hp)(v:V):Slot->Prop
 | .is p=>Rep F v p
 | .sq tp xs=>Sv ss σ F H v tp xs
 | .raw P=>P F v/\∀ F F',AJ F F'->P F v->P F' v
 | _=>False
inductive FI (ss:List Slot) (σ:L2.St) (F H:Hp):List V->List Slot->Prop where
 | nil:FI ss σ F H [] []
 | cons {v:V}{s:Slot}{vs:List V}{l:List Slot}:Av ss σ F H v s->FI ss σ F H vs l->FI ss σ F H (v::vs) (s::l)
structure Wa [Xw] (ss:List Slot) (t:TA) (k:List Slot->Prop):Prop where
 go:∀ (E:Ent) (σ:L2.St) (F H:Hp) (Q:List V->Hp->Prop),Sg E ss σ F H->(∀ vs l F' H',Mv E ss σ F H F' H'->FI ss σ F' H' vs l->k l->Q vs H')->t σ H Q
inductive Ag where
 | is (k:PV->Prop) | new (k:List PV->Prop) | AQ | ow (k:OV->Prop) | mt (k:PV->OV->Prop)
def OV.val:OV->V
 | .nd _ a _=>.ref a
 | _=>.A8
def Ag.ok (R:Ag)(E:Ent0)(F' H':Hp)(v:V):Prop:=match R with
 | .is k=>∃ p,Rep F' v p/\k p
 | .new k=>∃ l vs xs,v=.ref l/\F' l=none/\E.H0 l=none/\H' l=some (.lst vs)/\AH F' vs xs/\k xs
 | .AQ=>∃ l,v=.ref l/\F' l=none/\E.H0 l=none/\BN H' l
 | .ow k=>∃ t,Am F' H' v t/\t.addrs.Nodup/\(∀ a∈t.addrs,F' a=none/\E.H0 a=none)/\k t
 | .mt k=>∃ p t,Rep F' v p/\Am F' H' t.val t/\t.addrs.Nodup/\(∀ a∈t.addrs,F' a=none/\(E.H0 a=none∨a∈E.B))/\k p t
structure Ws [Xw] (ss:List Slot) (t:TS) (nx:List Slot->Prop) (R:Ag):Prop where
 go:∀ (E:Ent) (D:Ends) (σ:L2.St) (F H:Hp),Sg E ss σ F H->(∀ A7 σ' F' H',nx A7->Sg E A7 σ' F' H'->AJ F F'->D.nx σ' H')->(∀ v F' H',Fin E F' H'->R.ok E F' H' v->D.rt v H')->t D σ H
section
variable [Xw]
variable {K:ZAy}{tb:TE}{k:PV->Prop}{R:Ag}
def Sv.mv (h:Sv ss σ F H v tp xs)(m:Mv E ss σ F H F' H'):Sv ss σ F' H' v tp xs:=by
 cases tp with
 | true=>exact Rep.mono m.ff h
 | false=>
  obtain ⟨l,vs,e,n,r,q⟩:=h;exact ⟨l,vs,e,n,m.hh l _ n r,q.mono m.ff⟩
def Sv.seq (S:Sg E ss σ F H)(h:Sv ss σ F H v tp xs):∃ l vs,v=.ref l/\H l=some (Dr tp vs)/\AH F vs xs:=by
 cases tp with
 | true=>cases h with | tup e r=>exact ⟨_,_,rfl,S.fh _ _ e,r⟩
 | false=>obtain ⟨l,vs,e,_,r,q⟩:=h;exact ⟨l,vs,e,r,q⟩
def Fv.sv (S:Sg E ss σ F H)(h:Fv E F v tp xs):Sv ss σ F H v tp xs:=by
 cases tp with
 | true=>exact h
 | false=>
  obtain ⟨l,vs,e,h1 | ⟨hA,h1⟩,r⟩:=h
  ·exact ⟨l,vs,e,S.dv h1,S.fh _ _ h1,r⟩
  ·exact ⟨l,vs,e,S.dN hA.1 h1,S.keep _ _ hA h1,r⟩
def A5 (h:ss[i]?=some (.is p))(hk:k p):Wp ss (B1 i) k:=⟨fun E σ F H Q S q=>by
 obtain ⟨v,hv,r⟩:=S.ok i _ h;exact ⟨v,hv,q v p F H (.refl S) r hk⟩⟩
def Aq {i:Int}(hk:k (.int i)):Wp ss (tC (.int i)) k:=⟨fun E σ F H Q S q=>q _ _ F H (.refl S) (.int i) hk⟩
def EW {x:Str}(hk:k (.str x)):Wp ss (tC (.str x)) k:=⟨fun E σ F H Q S q=>q _ _ F H (.refl S) (.str x) hk⟩
def O7 (hk:k (.bl b)):Wp ss (tC (.bl b)) k:=⟨fun E σ F H Q S q=>q _ _ F H (.refl S) (.bl b) hk⟩
def IA (hk:k .A8):Wp ss (tC .A8) k:=⟨fun E σ F H Q S q=>q _ _ F H (.refl S) .A8 hk⟩
def B4 (h:Wn ss te (fun xs=>k (.lst xs))):Wp ss te k:=⟨fun E σ F H Q S q=>h.go E σ F H Q S fun l vs xs F' H' m fl hl DH r kk=>by
 have S':=m.st;have fr:Mv E ss σ F H (upd F' l (.lst vs)) H':=by
  have nF:∀ a,H' a≠none->a≠l->F' a=none->upd F' l (.lst vs) a=none:=fun a _ h1 h2=>by rw [AS h1];exact h2
  refine ⟨⟨⟨fun a u e=>?_,S'.f0.trans (D5 fl _),S'.keep,fun a u e=>?_,S'.GR,fun a hA=>?_,S'.a0,fun a hB=>?_,S'.bH,S'.b0⟩,S'.len,fun i s hi=>?_,S'.Bd⟩,m.ff.trans (D5 fl _),m.hh,fun a u e=>?_⟩
  ·by_cases q:a=l
   ·subst q;rw [Al] at e;rw [<- e];exact DH
   ·rw [AS q] at e;exact S'.fh a u e
  ·by_cases q:a=l
   ·subst q;exact .inr (S.DD hl)
   ·rw [AS q] at e;exact S'.fresh a u e
  ·by_cases q:a=l
   ·subst q;obtain ⟨_,_,e,_⟩:=S.GR _ hA;rw [hl] at e;cases e
   ·rw [AS q];exact S'.O4 a hA
  ·by_cases q:a=l
   ·subst q;exact absurd hl (S.bH _ hB)
   ·rw [AS q];exact S'.bF a hB
  ·have Tb:∀ a,B0 s σ[i]? a->a≠l:=by
    rintro a m rfl;exact S.Il hi hl m
   have kk:=S'.ok i s hi;cases s with
   | any=>trivial
   | is p=>obtain ⟨v,e,r⟩:=kk;exact ⟨v,e,r.mono (D5 fl _)⟩
   | own ys=>
    obtain ⟨l',ws,e,e1,e2,e3,r⟩:=kk;exact ⟨l',ws,e,by rw [AS (Tb l' e)];exact e1,e2,e3,r.mono (D5 fl _)⟩
   | AQ=>
    obtain ⟨l',e,e1,e2,e3⟩:=kk;exact ⟨l',e,by rw [AS (Tb l' e)];exact e1,e2,e3⟩
   | sq tp ys=>
    cases tp with
    | true=>obtain ⟨v,e,r⟩:=kk;exact ⟨v,e,r.mono (D5 fl _)⟩
    | false=>obtain ⟨l',ws,e,e1,e2,r⟩:=kk;exact ⟨l',ws,e,e1,e2,r.mono (D5 fl _)⟩
   | raw P=>obtain ⟨v,e,r,st⟩:=kk;exact ⟨v,e,st _ _ (D5 fl _) r,st⟩
   | ow lt t=>
    obtain ⟨v,e,r,nd,q⟩:=kk;exact ⟨v,e,r.mono (D5 fl _) fun a _ o h=>h,nd,fun a ha=>⟨by rw [AS (Tb a ha)];exact (q a ha).1,(q a ha).2⟩⟩
  ·by_cases q:a=l
   ·subst q;exact .inr hl
   ·rw [AS q] at e;exact m.nn a u e
 exact q _ _ _ _ fr (.lst Al (r.mono (D5 fl _))) kk⟩
def BH {k:Bool->List PV->Prop}(h:Wp ss te (fun p=>∃ xs,(p=.lst xs/\k false xs)∨(p=.tup xs/\k true xs))):Wq ss te k:=⟨fun E σ F H Q S q=>h.go E σ F H Q S fun v p F' H' m r ⟨xs,h⟩=>by
 rcases h with ⟨rfl,kk⟩ | ⟨rfl,kk⟩
 ·cases r with | lst h r=>exact q _ false xs F' H' m ⟨_,_,rfl,m.st.dv h,m.st.fh _ _ h,r⟩ kk
 ·exact q v true xs F' H' m r kk⟩
def Ck {k:Bool->List PV->Prop}(h:ss[i]?=some (.is (.lst xs)))(hk:k false xs):Wq ss (B1 i) k:=BH (A5 h ⟨xs,.inl ⟨rfl,hk⟩⟩)
def BG {k:Bool->List PV->Prop}(h:ss[i]?=some (.is (.tup xs)))(hk:k true xs):Wq ss (B1 i) k:=BH (A5 h ⟨xs,.inr ⟨rfl,hk⟩⟩)
def LX {k:Bool->List PV->Prop}(h:ss[i]?=some (.own xs))(hk:k false xs):Wq ss (B1 i) k:=⟨fun E σ F H Q S q=>by
 obtain ⟨l,vs,e,e1,e2,e3,r⟩:=S.ok i _ h;exact ⟨_,e,q _ false xs F H (.refl S) ⟨l,vs,rfl,S.N8 h e (by simp),e3,r⟩ hk⟩⟩
def Ry {k:Bool->List PV->Prop}(h:ss[i]?=some (.sq tp xs))(hk:k tp xs):Wz ss (B1 i) k:=⟨fun E σ F H Q S q=>by
 have kk:=S.ok i _ h;cases tp with
 | true=>obtain ⟨v,e,r⟩:=kk;exact ⟨_,e,q _ true xs F H (.refl S) r hk⟩
 | false=>
  obtain ⟨l,vs,e,hA,h0,r⟩:=kk;exact ⟨_,e,q _ false xs F H (.refl S) ⟨l,vs,rfl,.inr ⟨hA,h0⟩,r⟩ hk⟩⟩
def Bp {k:Bool->List PV->Prop}(h:Wp ss te (fun p=>∃ xs,(p=.lst xs/\k false xs)∨(p=.tup xs/\k true xs))):Wz ss te k:=⟨fun E σ F H Q S q=>h.go E σ F H Q S fun v p F' H' m r ⟨xs,h⟩=>by
 rcases h with ⟨rfl,kk⟩ | ⟨rfl,kk⟩
 ·cases r with | lst h r=>exact q _ false xs F' H' m ⟨_,_,rfl,.inl h,r⟩ kk
 ·exact q _ true xs F' H' m r kk⟩
def um {k:Bool->List PV->Prop}(h:Wz ss te k):Wq ss te k:=⟨fun E σ F H Q S q=>h.go E σ F H Q S fun v tp xs F' H' m f kk=>q v tp xs F' H' m (f.sv m.st) kk⟩
def Hu {k:Bool->List PV->Prop}(h:ss[i]?=some (.sq tp xs))(hk:k tp xs):Wq ss (B1 i) k:=um (Ry h hk)
def Uj {C:Int->Int->Prop}(h:Wp ss ta fun x=>∃ i,x=.int i/\Wp ss tb fun y=>∃ j,y=.int j/\C i j/\k (.int (f i j))):Wp ss (BP (rI C fun i j=>.int (f i j)) ta tb) k:=⟨fun E σ F H Q S q=>
 h.go E σ F H _ S fun v p F1 H1 m1 r1 ⟨i,e1,h2⟩=>by
  subst e1;cases r1;exact h2.go E σ F1 H1 _ m1.st fun v2 p2 F2 H2 m2 r2 ⟨j,e2,c,kk⟩=>by
   subst e2;cases r2;exact ⟨i,j,rfl,rfl,c,q _ _ F2 H2 (m1.trans m2) (.int _) kk⟩⟩
def Im (h:Wp ss ta fun x=>∃ i,x=.int i/\Wp ss tb fun y=>∃ j,y=.int j/\k (.int (f i j))):Wp ss (BP (Fm fun i j=>.int (f i j)) ta tb) k:=⟨fun E σ F H Q S q=>
 h.go E σ F H _ S fun v p F1 H1 m1 r1 ⟨i,e1,h2⟩=>by
  subst e1;cases r1;exact h2.go E σ F1 H1 _ m1.st fun v2 p2 F2 H2 m2 r2 ⟨j,e2,kk⟩=>by
   subst e2;cases r2;exact ⟨i,j,rfl,rfl,q _ _ F2 H2 (m1.trans m2) (.int _) kk⟩⟩
def cw {f:Int->Int->Bool}(h:Wp ss ta fun x=>∃ i,x=.int i/\Wp ss tb fun y=>∃ j,y=.int j/\k (.bl (f i j))):Wp ss (BP (Fm fun i j=>.bl (f i j)) ta tb) k:=⟨fun E σ F H Q S q=>
 h.go E σ F H _ S fun v p F1 H1 m1 r1 ⟨i,e1,h2⟩=>by
  subst e1;cases r1;exact h2.go E σ F1 H1 _ m1.st fun v2 p2 F2 H2 m2 r2 ⟨j,e2,kk⟩=>by
   subst e2;cases r2;exact ⟨i,j,rfl,rfl,q _ _ F2 H2 (m1.trans m2) (.bl _) kk⟩⟩
def fY {f:Int->Int}(h:Wp ss ta fun x=>∃ i,x=.int i/\k (.int (f i))):Wp ss (OP (rU fun i=>.int (f i)) ta) k:=⟨fun E σ F H Q S q=>
 h.go E σ F H _ S fun v p F1 H1 m1 r1 ⟨i,e1,kk⟩=>by
  subst e1;cases r1;exact ⟨i,rfl,q _ _ F1 H1 m1 (.int _) kk⟩⟩
def alike:PV->PV->Bool
 | .int i,.int j=>decide (i=j)
 | .str i,.str j=>decide (i=j)
 | .bl i,.bl j=>decide (i=j)
 | .A8,.A8=>true
 | _,_=>false
def Lh (p q:PV):Bool:=flat p && flat q && OJ (Fz.enc p) (Fz.enc q)
def YL {q:PV}(h:Lh p q=true):decide (Fz.enc p=Fz.enc q)=alike p q:=by
 unfold Lh at h;rw [FN,FN] at h;obtain ⟨⟨h1,h2⟩,h3⟩:=h;cases p <;> cases q <;> first | (simp [Fz.enc,alike];done) | (simp [flat] at h1;done) | (simp [flat] at h2;done) | (simp [Fz.enc,OJ] at h3;done)
def KI (h:Wp ss ta fun x=>Wp ss tb fun y=>Lh x y=true/\k (.bl (alike x y))):Wp ss (BP OS ta tb) k:=⟨fun E σ F H Q S q=>
 h.go E σ F H _ S fun v p F1 H1 m1 r1 h2=>h2.go E σ F1 H1 _ m1.st fun v2 p2 F2 H2 m2 r2 ⟨sc,kk⟩=>by
  have V8:=sc;unfold Lh at sc;rw [FN,FN] at sc;rw [r1.enc sc.1.1,r2.enc sc.1.2];refine ⟨sc.2,?_⟩;rw [YL V8];exact q _ _ F2 H2 (m1.trans m2) (.bl _) kk⟩
def YB (h:Wp ss ta fun x=>Wp ss tb fun y=>Lh x y=true/\k (.bl (!alike x y))):Wp ss (BP Yh ta tb) k:=⟨fun E σ F H Q S q=>
 h.go E σ F H _ S fun v p F1 H1 m1 r1 h2=>h2.go E σ F1 H1 _ m1.st fun v2 p2 F2 H2 m2 r2 ⟨sc,kk⟩=>by
  have V8:=sc;unfold Lh at sc;rw [FN,FN] at sc;rw [r1.enc sc.1.1,r2.enc sc.1.2];refine ⟨sc.2,?_⟩;rw [YL V8];exact q _ _ F2 H2 (m1.trans m2) (.bl _) kk⟩
def eT (h:Wp ss ta fun x=>∃ c,x=.bl c/\if c=true then Wp ss tb k else k (.bl false)):Wp ss (Su ta tb) k:=⟨fun E σ F H Q S q=>
 h.go E σ F H _ S fun v p F1 H1 m1 r1 ⟨c,e,h2⟩=>by
  subst e;cases r1;refine ⟨c,rfl,?_⟩;cases c with
  | true=>rw [gq rfl] at h2 ⊢;exact h2.go E σ F1 H1 _ m1.st fun v2 p2 F2 H2 m2 r2 kk=>q _ _ F2 H2 (m1.trans m2) r2 kk
  | false=>rw [gg (by decide)] at h2 ⊢;exact q _ _ F1 H1 m1 (.bl _) h2⟩
def fD (h:Wp ss ta fun x=>∃ c,x=.bl c/\k (.bl (!c))):Wp ss (TN ta) k:=⟨fun E σ F H Q S q=>
 h.go E σ F H _ S fun v p F1 H1 m1 r1 ⟨c,e,kk⟩=>by subst e;cases r1;exact ⟨c,rfl,q _ _ F1 H1 m1 (.bl _) kk⟩⟩
def yC {t:TT}(h:Wt ss t fun c=>if c=true then Wp ss ta k else Wp ss tb k):Wp ss (Po t ta tb) k:=⟨fun E σ F H Q S q=>
 h.go E σ F H _ S fun c F1 H1 m1 h2=>by
  show if c=true then _ else _
  cases c with
  | true=>rw [gq rfl] at h2 ⊢;exact h2.go E σ F1 H1 _ m1.st fun v2 p2 F2 H2 m2 r2 kk=>q _ _ F2 H2 (m1.trans m2) r2 kk
  | false=>rw [gg (by decide)] at h2 ⊢;exact h2.go E σ F1 H1 _ m1.st fun v2 p2 F2 H2 m2 r2 kk=>q _ _ F2 H2 (m1.trans m2) r2 kk⟩
def jq {f g:Int->Int->Bool}(h:Wp ss ta fun x=>∃ i,x=.int i/\Wp ss tb fun y=>∃ j,y=.int j/\if f i j=true then Wp ss tc (fun z=>∃ l,z=.int l/\k (.bl (g j l))) else k (.bl false)):
  Wp ss (Nd (Fm fun i j=>.bl (f i j)) (Fm fun i j=>.bl (g i j)) ta tb tc) k:=⟨fun E σ F H Q S q=>
 h.go E σ F H _ S fun v p F1 H1 m1 r1 ⟨i,e1,h2⟩=>by
  subst e1;cases r1;exact h2.go E σ F1 H1 _ m1.st fun v2 p2 F2 H2 m2 r2 ⟨j,e2,h3⟩=>by
   subst e2;cases r2;refine ⟨i,j,rfl,rfl,f i j,rfl,?_⟩;cases c:f i j with
   | true=>
    rw [c,gq rfl] at h3;rw [gq rfl];exact h3.go E σ F2 H2 _ m2.st fun v3 p3 F3 H3 m3 r3 ⟨l,e3,kk⟩=>by
     subst e3;cases r3;exact ⟨j,l,rfl,rfl,q _ _ F3 H3 (m1.trans (m2.trans m3)) (.bl _) kk⟩
   | false=>
    rw [c,gg (by decide)] at h3;rw [gg (by decide)];exact q _ _ F2 H2 (m1.trans m2) (.bl _) h3⟩
def CJ {k:Bool->Prop}(h:Wp ss te fun x=>∃ c,x=.bl c/\k c):Wt ss (HU te) k:=⟨fun E σ F H Q S q=>
 h.go E σ F H _ S fun v p F1 H1 m1 r1 ⟨c,e,kk⟩=>by subst e;cases r1;exact ⟨c,rfl,q _ F1 H1 m1 kk⟩⟩
def Er {k:Bool->Prop}(h:Wp ss te fun x=>∃ c,x=.bl c/\k c):Wt ss (tB te) k:=⟨fun E σ F H Q S q=>
 h.go E σ F H _ S fun v p F1 H1 m1 r1 ⟨c,e,kk⟩=>by subst e;cases r1;exact ⟨c,rfl,q _ F1 H1 m1 kk⟩⟩
def Du {k:Bool->Prop}(h:k true):Wt ss MP k:=⟨fun E σ F H Q S q=>q _ F H (.refl S) h⟩
def Hl {t:TT}{k:Bool->Prop}(h:Wt ss t fun c=>k (!c)):Wt ss (Vx t) k:=⟨fun E σ F H Q S q=>h.go E σ F H _ S fun c F1 H1 m1 kk=>q _ F1 H1 m1 kk⟩
def br {t u:TT}{k:Bool->Prop}(h:Wt ss t fun c=>if c=true then Wt ss u k else k false):Wt ss (Ou t u) k:=⟨fun E σ F H Q S q=>
 h.go E σ F H _ S fun c F1 H1 m1 h2=>by
  show if c=true then _ else _
  cases c with
  | true=>rw [gq rfl] at h2 ⊢;exact h2.go E σ F1 H1 _ m1.st fun c2 F2 H2 m2 kk=>q _ F2 H2 (m1.trans m2) kk
  | false=>rw [gg (by decide)] at h2 ⊢;exact q _ F1 H1 m1 h2⟩
def KW {t u:TT}{k:Bool->Prop}(h:Wt ss t fun c=>if c=true then k true else Wt ss u k):Wt ss (R6 t u) k:=⟨fun E σ F H Q S q=>
 h.go E σ F H _ S fun c F1 H1 m1 h2=>by
  show if c=true then _ else _
  cases c with
  | true=>rw [gq rfl] at h2 ⊢;exact q _ F1 H1 m1 h2
  | false=>rw [gg (by decide)] at h2 ⊢;exact h2.go E σ F1 H1 _ m1.st fun c2 F2 H2 m2 kk=>q _ F2 H2 (m1.trans m2) kk⟩
end
structure We [Xw] (ss:List Slot) (t:TA) (k:List PV->Prop):Prop where
 go:∀ (E:Ent) (σ:L2.St) (F H:Hp) (Q:List V->Hp->Prop),Sg E ss σ F H->(∀ vs ps F' H',Mv E ss σ F H F' H'->AH F' vs ps->k ps->Q vs H')->t σ H Q
structure Wo [Xw] (ss:List Slot) (t:TO) (k:Option Int->Prop):Prop where
 go:∀ (E:Ent) (σ:L2.St) (F H:Hp) (Q:Option Int->Hp->Prop),Sg E ss σ F H->(∀ o F' H',Mv E ss σ F H F' H'->k o->Q o H')->t σ H Q
section
variable [Xw]
variable {K:ZAy}{tb:TE}{k:PV->Prop}{R:Ag}
def Df {k:List PV->Prop}(h:k []):We ss Az k:=⟨fun E σ F H Q S q=>q _ _ F H (.refl S) .nil h⟩
def Bm {k:List PV->Prop}(h:Wp ss te fun p=>We ss t fun ps=>k (p::ps)):We ss (Af te t) k:=⟨fun E σ F H Q S q=>
 h.go E σ F H _ S fun v p F1 H1 m1 r1 h2=>h2.go E σ F1 H1 _ m1.st fun vs ps F2 H2 m2 r2 kk=>q _ _ F2 H2 (m1.trans m2) (.cons (r1.mono m2.ff) r2) kk⟩
def Ay {k:List Slot->Prop}(h:k []):Wa ss Az k:=⟨fun E σ F H Q S q=>q _ _ F H (.refl S) .nil h⟩
def AW {k:List Slot->Prop}(h:Wp ss te fun p=>Wa ss t fun l=>k (.is p::l)):Wa ss (Af te t) k:=⟨fun E σ F H Q S q=>
 h.go E σ F H _ S fun v p F1 H1 m1 r1 h2=>h2.go E σ F1 H1 _ m1.st fun vs l F2 H2 m2 r2 kk=>q _ _ F2 H2 (m1.trans m2) (.cons (s:=.is p) (r1.mono m2.ff) r2) kk⟩
def GC {k:List Slot->Prop}(h:Wq ss te fun tp xs=>Wa ss t fun l=>k (.sq tp xs::l)):Wa ss (Af te t) k:=⟨fun E σ F H Q S q=>
 h.go E σ F H _ S fun v tp xs F1 H1 m1 r1 h2=>h2.go E σ F1 H1 _ m1.st fun vs l F2 H2 m2 r2 kk=>q _ _ F2 H2 (m1.trans m2) (.cons (s:=.sq tp xs) (r1.mv m2) r2) kk⟩
def Rv {k:Option Int->Prop}(h:k none):Wo ss Tt k:=⟨fun E σ F H Q S q=>q _ F H (.refl S) h⟩
def Rc {k:Option Int->Prop}(h:Wp ss te fun p=>∃ i,p=.int i/\k (some i)):Wo ss (Si te) k:=⟨fun E σ F H Q S q=>
 h.go E σ F H _ S fun v p F1 H1 m1 r1 ⟨i,e,kk⟩=>by subst e;cases r1;exact ⟨i,rfl,q _ F1 H1 m1 kk⟩⟩
def Gv {n:Nat}(h:n<=99999):n<sizeLine:=E6 (Nat.lt_succ_of_le h) (small (Aj 100000))
def Ej (h:We ss t fun ps=>ps.length<=100000/\k (.tup ps)):Wp ss (Nu t) k:=⟨fun E σ F H Q S q=>
 h.go E σ F H _ S fun vs ps F1 H1 m1 r1 ⟨hz,kk⟩=>⟨small (by rw [r1.length];exact hz),fun a ha=>by
  have m2:=m1.st.alloc ha (.tup vs);exact q _ _ _ _ (m1.trans m2) (.tup Al (r1.mono m2.ff)) kk⟩⟩
def Je {k:List PV->Prop}(h:We ss t fun ps=>ps.length<=100000/\k ps):Wn ss (UG t) k:=⟨fun E σ F H Q S q=>
 h.go E σ F H _ S fun vs ps F1 H1 m1 r1 ⟨hz,kk⟩=>⟨small (by rw [r1.length];exact hz),fun a ha=>by
  have m2:=m1.st.make ha (.lst vs);refine q a vs ps F1 _ (m1.trans m2) (m1.st.Bl ha) ?_ Al r1 kk;cases e:H a with
  | none=>rfl
  | some o=>rw [m1.hh a o (m1.st.Ht ha) e] at ha;cases ha⟩⟩
def Lx (h:Wq ss te fun _ xs=>k (.int xs.length)):Wp ss (DL (Oj K) (Af te Az)) k:=⟨fun E σ F H Q S q=>
 h.go E σ F H _ S fun v tp xs F1 H1 m1 sv kk=>by
  obtain ⟨l,vs,rfl,hl,r⟩:=sv.seq m1.st;refine ⟨l,vs,rfl,(Dr.sq (K:=K) hl).or,?_⟩;rw [r.length];exact q _ _ F1 H1 m1 (.int _) kk⟩
theorem AH.Ba {i:Int}(r:AH F vs xs)(h:L2.Ba xs i=some p):∃ u,L2.Ba vs i=some u/\Rep F u p:=by
 unfold L2.Ba at h ⊢;rw [r.length];cases e:Fj xs.length i with
 | none=>rw [e] at h;cases h
 | some j=>
  rw [e] at h;exact r.get h
def GQ (h:Wq ss ta fun tp xs=>tp=false/\Wp ss tb fun y=>∃ i p,y=.int i/\L2.Ba xs i=some p/\k p):Wp ss (BP (Nr K) ta tb) k:=⟨fun E σ F H Q S q=>
 h.go E σ F H _ S fun v tp xs F1 H1 m1 sv ⟨et,h2⟩=>h2.go E σ F1 H1 _ m1.st fun v2 p2 F2 H2 m2 r2 ⟨i,p,e,ha,kk⟩=>by
  subst e;cases r2;subst et;obtain ⟨l,vs,rfl,hl,r⟩:=(sv.mv m2).seq m2.st;obtain ⟨u,hu,ru⟩:=r.Ba ha;exact ⟨l,vs,i,u,rfl,rfl,AI.of hl,hu,q _ _ F2 H2 (m1.trans m2) ru kk⟩⟩
def BA (h:Wq ss ta fun tp xs=>tp=true/\Wp ss tb fun y=>∃ i p,y=.int i/\L2.Ba xs i=some p/\k p):Wp ss (BP (Di K) ta tb) k:=⟨fun E σ F H Q S q=>
 h.go E σ F H _ S fun v tp xs F1 H1 m1 sv ⟨et,h2⟩=>h2.go E σ F1 H1 _ m1.st fun v2 p2 F2 H2 m2 r2 ⟨i,p,e,ha,kk⟩=>by
  subst e;cases r2;subst et;obtain ⟨l,vs,rfl,hl,r⟩:=(sv.mv m2).seq m2.st;obtain ⟨u,hu,ru⟩:=r.Ba ha;exact ⟨l,vs,i,u,rfl,rfl,An.of hl,hu,q _ _ F2 H2 (m1.trans m2) ru kk⟩⟩
def bE (h:Wp ss ta fun p=>∃ x,p=.str x/\Wq ss tb fun _ ys=>∃ ns:List Str,ys=ns.map PV.str/\k (.bl (if neg then !decide (x∈ns) else decide (x∈ns)))):Wp ss (BP (GS K neg) ta tb) k:=⟨fun E σ F H Q S q=>
 h.go E σ F H _ S fun v p F1 H1 m1 r1 ⟨x,e,h2⟩=>by
  subst e;cases r1;exact h2.go E σ F1 H1 _ m1.st fun v2 tp ys F2 H2 m2 sv ⟨ns,e2,kk⟩=>by
   subst e2;obtain ⟨l,vs,rfl,hl,r⟩:=sv.seq m2.st;rw [r.strs] at hl;refine ⟨l,_,rfl,(Dr.sq (K:=K) hl).or,rfl,JV ns,?_⟩;rw [T4];exact q _ _ F2 H2 (m1.trans m2) (.bl _) kk⟩
def Kp {k:List PV->Prop}(hr:r=fun xs H Q=>∃ p ys,xs=[.ref p]/\(AI K H p ys∨An K H p ys)/\∀ l,H l=none->Q (.ref l) (upd H l (.lst ys)))(h:Wq ss te fun _ xs=>k xs):Wn ss (DL r (Af te Az)) k:=⟨fun E σ F H Q S q=>
 h.go E σ F H _ S fun v tp xs F1 H1 m1 sv kk=>by
  subst hr;obtain ⟨l,vs,rfl,hl,r⟩:=sv.seq m1.st;refine ⟨l,vs,rfl,(Dr.sq (K:=K) hl).or,fun a ha=>?_⟩;have m2:=m1.st.make ha (.lst vs);exact q a vs xs F1 _ (m1.trans m2) (m1.st.Bl ha) (m1.none ha) Al r kk⟩
def IW (hr:r=fun xs H Q=>∃ p ys,xs=[.ref p]/\((AI K H p ys/\∀ l,H l=none->Q (.ref l) (upd H l (.tup ys)))∨(An K H p ys/\Q (.ref p) H)))(h:Wq ss te fun _ xs=>k (.tup xs)):Wp ss (DL r (Af te Az)) k:=⟨fun E σ F H Q S q=>
 h.go E σ F H _ S fun v tp xs F1 H1 m1 sv kk=>by
  subst hr;cases tp with
  | false=>
   obtain ⟨l,vs,rfl,hl,r⟩:=sv.seq m1.st;refine ⟨l,vs,rfl,.inl ⟨AI.of hl,fun a ha=>?_⟩⟩;have m2:=m1.st.alloc ha (.tup vs);exact q _ _ _ _ (m1.trans m2) (.tup Al (r.mono m2.ff)) kk
  | true=>
   have vh:Rep F1 v (.tup xs):=sv;cases vh with
   | tup e r=>exact ⟨_,_,rfl,.inr ⟨An.of (m1.st.fh _ _ e),q _ _ F1 H1 m1 (.tup e r) kk⟩⟩⟩
def Qq {k:List PV->Prop}(h:Wq ss ta fun tp xs=>tp=false/\Wq ss tb fun Be ys=>Be=false/\xs.length+ys.length<=100000/\k (xs++ys)):Wn ss (BP fK ta tb) k:=⟨fun E σ F H Q S q=>
 h.go E σ F H _ S fun v tp xs F1 H1 m1 sv ⟨et,h2⟩=>h2.go E σ F1 H1 _ m1.st fun v2 Be ys F2 H2 m2 MT ⟨Uz,hz,kk⟩=>by
  subst et;subst Uz;obtain ⟨l,vs,rfl,hl,r⟩:=(sv.mv m2).seq m2.st;obtain ⟨l2,FE,rfl,DN,r2⟩:=MT.seq m2.st;refine ⟨l,l2,vs,FE,rfl,rfl,hl,DN,small (by rw [r.length,r2.length];exact hz),fun a ha=>?_⟩;have m3:=m2.st.make ha (.lst (vs++FE));exact q a _ _ F2 _ (m1.trans (m2.trans m3)) (m2.st.Bl ha) ((m1.trans m2).none ha) Al (r.append r2) kk⟩
def EU {α:Type}(xs:List α)(lo hi:Option Int):List α:=(xs.drop (HT.Cn xs.length 0 lo)).take (HT.Cn xs.length xs.length hi - HT.Cn xs.length 0 lo)
def AH.cut (r:AH F vs xs)(lo hi:Option Int):AH F (KQ vs lo hi) (EU xs lo hi):=by
 unfold KQ EU;rw [r.length];exact (r.drop _).take _
def V2 {k:List PV->Prop}{tl th:TO}(h:Wq ss te fun tp xs=>tp=false/\Wo ss tl fun lo=>Wo ss th fun hi=>k (EU xs lo hi)):Wn ss (V7 (Yq K) te tl th) k:=⟨fun E σ F H Q S q=>
 h.go E σ F H _ S fun v tp xs F1 H1 m1 sv ⟨et,h2⟩=>h2.go E σ F1 H1 _ m1.st fun lo F2 H2 m2 h3=>h3.go E σ F2 H2 _ m2.st fun hi F3 H3 m3 kk=>by
  subst et;obtain ⟨l,vs,rfl,hl,r⟩:=(sv.mv (m2.trans m3)).seq m3.st;refine ⟨l,vs,rfl,AI.of hl,fun a ha=>?_⟩;have m4:=m3.st.make ha (.lst (KQ vs lo hi));exact q a _ _ F3 _ (m1.trans (m2.trans (m3.trans m4))) (m3.st.Bl ha) ((m1.trans (m2.trans m3)).none ha) Al (r.cut lo hi) kk⟩
def gn (xs ys:List Str):Gb (xs.map V.str) (ys.map V.str)=decide (xs=ys):=by
 by_cases h:xs=ys
 ·subst h;rw [pS,hJ rfl]
 ·rw [iB h]
  by_cases hl:xs.length=ys.length
  ·rw [PF (by simpa using hl)]
   cases c:(List.range (xs.map V.str).length).all fun j=>DM ((xs.map V.str).getD j .A8) ((ys.map V.str).getD j .A8) with
   | false=>rfl
   | true=>
    exfalso;apply h;apply zz hl;intro j h1 h2;have q:=List.all_eq_true.mp c j (List.mem_range.mpr (by simpa using h1))
    have e1:(xs.map V.str)[j]?=some (.str xs[j]):=by rw [AV,AR h1];rfl
    have e2:(ys.map V.str)[j]?=some (.str ys[j]):=by rw [AV,AR h2];rfl
    rw [NF e1,NF e2] at q;have q':(xs[j] == ys[j])=true:=q
    simpa using q'
  ·rw [Oe (by simpa using hl)]
def yq (h:Wq ss ta fun tp xs=>∃ ns:List Str,xs=ns.map PV.str/\Wq ss tb fun Be ys=>Be=tp/\∃ ms:List Str,ys=ms.map PV.str/\k (.bl (if neg then !decide (ns=ms) else decide (ns=ms)))):Wp ss (BP (Sh K neg) ta tb) k:=⟨fun E σ F H Q S q=>
 h.go E σ F H _ S fun v tp xs F1 H1 m1 sv ⟨ns,e1,h2⟩=>h2.go E σ F1 H1 _ m1.st fun v2 Be ys F2 H2 m2 MT ⟨et,ms,e2,kk⟩=>by
  subst e1;subst e2;subst et;obtain ⟨l,vs,rfl,hl,r⟩:=(sv.mv m2).seq m2.st;obtain ⟨l2,FE,rfl,DN,r2⟩:=MT.seq m2.st;rw [r.strs] at hl;rw [r2.strs] at DN;refine ⟨l,l2,ns.map V.str,ms.map V.str,rfl,rfl,?_,JV _,JV _,?_⟩
  ·cases Be
   ·exact .inl ⟨AI.of hl,AI.of DN⟩
   ·exact .inr ⟨An.of hl,An.of DN⟩
  ·rw [gn];cases neg
   ·exact q _ _ F2 H2 (m1.trans m2) (.bl _) kk
   ·exact q _ _ F2 H2 (m1.trans m2) (.bl _) kk⟩
def cN (hr:r=fun xs H Q=>∃ (p:Addr) (bs:List Bool),xs=[.ref p]/\AI K H p (bs.map V.bl)/\Q (.bl (bs.all id)) H)(h:Wq ss te fun tp xs=>tp=false/\∃ bs:List Bool,xs=bs.map PV.bl/\k (.bl (bs.all id))):Wp ss (DL r (Af te Az)) k:=⟨fun E σ F H Q S q=>
 h.go E σ F H _ S fun v tp xs F1 H1 m1 sv ⟨et,bs,e,kk⟩=>by
  subst hr;subst e;subst et;obtain ⟨l,vs,rfl,hl,r⟩:=sv.seq m1.st;rw [r.dM] at hl;exact ⟨l,bs,rfl,AI.of hl,q _ _ F1 H1 m1 (.bl _) kk⟩⟩
def e9 (hr:r=fun xs H Q=>∃ (p:Addr) (bs:List Bool),xs=[.ref p]/\AI K H p (bs.map V.bl)/\Q (.bl (bs.any id)) H)(h:Wq ss te fun tp xs=>tp=false/\∃ bs:List Bool,xs=bs.map PV.bl/\k (.bl (bs.any id))):Wp ss (DL r (Af te Az)) k:=⟨fun E σ F H Q S q=>
 h.go E σ F H _ S fun v tp xs F1 H1 m1 sv ⟨et,bs,e,kk⟩=>by
  subst hr;subst e;subst et;obtain ⟨l,vs,rfl,hl,r⟩:=sv.seq m1.st;rw [r.dM] at hl;exact ⟨l,bs,rfl,AI.of hl,q _ _ F1 H1 m1 (.bl _) kk⟩⟩
def tyP:PV->String
 | .A8 => "NoneType"
 | .bl _ => "bool"
 | .int _ => "int"
 | .str _ => "str"
 | .lst _ => "list"
 | .tup _ => "tuple"
 | .Ah _ _ => "dict"
 | _ => ""
def Jm:PV->Value
 | .obj _ _ _=>.none
 | .exc _ _ _=>.none
 | .con _ _=>.none
 | p=>.type (tyP p)
def OW (h:PySem.W.kitOne K .none (.type n)=some b):False:=by
 unfold PySem.W.kitOne PySem.W.kitCls PySem.W.subIn at h;simp at h
def Rep.lH (s:AJ F H)(r:Rep F v p)(hb:PySem.W.kitOne K (Jm p) (.type n)=some b):Ec K H v (Jm p):=by
 cases r with
 | A8=>exact .A8
 | bl b=>exact .bl b
 | int i=>exact .int i
 | str x=>exact .str x
 | lst h _=>exact .lst (s _ _ h)
 | tup h _=>exact .tup (s _ _ h)
 | Ah h _ _=>exact .dK (s _ _ h)
 | obj _ _ _ _=>exact (OW hb).elim
 | QQ _=>exact (OW hb).elim
 | con=>exact (OW hb).elim
 | exc _ _ _ _=>exact (OW hb).elim
def MH (h:Wp ss te fun p=>∃ b,PySem.W.kitOne K (Jm p) (.type n)=some b/\k (.bl b)):Wp ss (DL (Zz K) (Af te (Af (tC (.ty n)) Az))) k:=⟨fun E σ F H Q S q=>
 h.go E σ F H _ S fun v p F1 H1 m1 r ⟨b,hb,kk⟩=>⟨v,n,_,b,rfl,r.lH m1.st.fh hb,hb,q _ _ F1 H1 m1 (.bl _) kk⟩⟩
def ZH (hr:r=fun xs H Q=>∃ i j,xs=[.int i,.int j]/\Q (.int (if j > i then j else i)) H)(h:Wp ss ta fun x=>∃ i,x=.int i/\Wp ss tb fun y=>∃ j,y=.int j/\k (.int (if j > i then j else i))):Wp ss (DL r (Af ta (Af tb Az))) k:=⟨fun E σ F H Q S q=>
 h.go E σ F H _ S fun v p F1 H1 m1 r1 ⟨i,e1,h2⟩=>by
  subst hr;subst e1;cases r1;exact h2.go E σ F1 H1 _ m1.st fun v2 p2 F2 H2 m2 r2 ⟨j,e2,kk⟩=>by
   subst e2;cases r2;exact ⟨i,j,rfl,q _ _ F2 H2 (m1.trans m2) (.int _) kk⟩⟩
def jl (hr:r=fun xs H Q=>∃ i j,xs=[.int i,.int j]/\Q (.int (if j<i then j else i)) H)(h:Wp ss ta fun x=>∃ i,x=.int i/\Wp ss tb fun y=>∃ j,y=.int j/\k (.int (if j<i then j else i))):Wp ss (DL r (Af ta (Af tb Az))) k:=⟨fun E σ F H Q S q=>
 h.go E σ F H _ S fun v p F1 H1 m1 r1 ⟨i,e1,h2⟩=>by
  subst hr;subst e1;cases r1;exact h2.go E σ F1 H1 _ m1.st fun v2 p2 F2 H2 m2 r2 ⟨j,e2,kk⟩=>by
   subst e2;cases r2;exact ⟨i,j,rfl,q _ _ F2 H2 (m1.trans m2) (.int _) kk⟩⟩
end
structure Src (E:Ent0) (F1:Hp) (J:It) (xs:List PV):Prop where
 go:∀ (ss:List Slot) (σ:L2.St) (F H:Hp) (i:Nat),AJ F1 F->Sg E ss σ F H->i<xs.length->J.go i H
 stop:∀ (ss:List Slot) (σ:L2.St) (F H:Hp),AJ F1 F->Sg E ss σ F H->J.stop xs.length H
 E9:∀ (ss:List Slot) (σ:L2.St) (F H:Hp) (i:Nat) (x:V) (H':Hp),AJ F1 F->Sg E ss σ F H->i<xs.length->J.E9 i H x H'->∃ p F',xs[i]?=some p/\Mv E ss σ F H F' H'/\Rep F' x p
structure Wi [Xw] (ss:List Slot) (wi:TI) (k:List PV->Prop):Prop where
 go:∀ (E:Ent) (σ:L2.St) (F H:Hp) (R:It->Hp->Prop),Sg E ss σ F H->(∀ J xs F' H',Mv E ss σ F H F' H'->Src E F' J xs->k xs->R J H')->wi σ H R
structure Wg [Xw] (ss:List Slot) (g:TG) (p:PV) (k:List Slot->Prop):Prop where
 go:∀ (E:Ent) (σ:L2.St) (F H:Hp) (v:V) (Q:L2.St->Hp->Prop),Sg E ss σ F H->Rep F v p->(∀ A7 σ',k A7->Sg E A7 σ' F H->Q σ' H)->g v σ H Q
section
variable [Xw]
variable {K:ZAy}{tb:TE}{k:PV->Prop}{R:Ag}
def Xe (h:∀ (ss:List Slot) (σ:L2.St) (F H:Hp),AJ F' F->Sg E ss σ F H->H l=some (Dr tp vs))(r:AH F' vs xs):Src E F' (Om K tp l vs) xs where
 go:=fun ss σ F H i s S hi=>⟨Dr.sq (h ss σ F H s S),by rw [r.length];exact hi⟩
 stop:=fun ss σ F H s S=>⟨Dr.sq (h ss σ F H s S),by rw [r.length];exact Aj _⟩
 E9:=fun ss σ F H i x H' s S hi y=>by
  obtain ⟨e,hx⟩:=y;subst e;obtain ⟨p,hp,rp⟩:=r.get' hx;exact ⟨p,F,hp,.refl S,rp.mono s⟩
def CF {k:List PV->Prop}(h:Wz ss te fun _ xs=>k xs):Wi ss (LU K te) k:=⟨fun E σ F H R S q=>
 h.go E σ F H _ S fun v tp xs F1 H1 m1 f kk=>by
  cases tp with
  | true=>
   have f':Rep F1 v (.tup xs):=f;cases f' with
   | tup e r=>exact ⟨true,_,_,rfl,An.of (m1.st.fh _ _ e),q _ _ F1 H1 m1 (Xe (tp:=true) (fun ss σ F H s S=>S.fh _ _ (s _ _ e)) r) kk⟩
  | false=>
   obtain ⟨l,vs,rfl,h1,r⟩:=f;have hl:∀ (ss:List Slot) (σ:L2.St) (F H:Hp),AJ F1 F->Sg E ss σ F H->H l=some (.lst vs):=fun ss σ F H s S=>by
    rcases h1 with h1 | ⟨hA,h1⟩
    ·exact S.fh _ _ (s _ _ h1)
    ·exact S.keep _ _ hA h1
   exact ⟨false,l,vs,rfl,AI.of (hl ss σ F1 H1 (AJ.refl _) m1.st),q _ _ F1 H1 m1 (Xe (tp:=false) hl r) kk⟩⟩
def IZ (n:Nat):List PV:=(List.range n).map fun i:Nat=>PV.int (i:Int)
def Gx (n:Nat):(IZ n).length=n:=by simp [IZ]
def Rn {n:Nat}(h:(IZ n)[i]?=some p):i<n/\p=.int (i:Int):=by
 have hi:i<n:=by have:=(List.getElem?_eq_some_iff.mp h).1;rwa [Gx] at this
 unfold IZ at h;rw [AV,ID hi] at h;exact ⟨hi,(B8 h).symm⟩
def dC {k:List PV->Prop}(h:Wp ss te fun p=>∃ j:Int,p=.int j/\j<=1000000/\-1000000<=j/\k (IZ j.toNat)):Wi ss (RP (Af te Az)) k:=⟨fun E σ F H R S q=>
 h.go E σ F H _ S fun v p F1 H1 m1 r ⟨j,e,h1,h2,kk⟩=>by
  subst e;cases r;refine ⟨j,rfl,by omega,by omega,q _ (IZ j.toNat) F1 H1 m1 ⟨fun ss σ F H i s S hi=>?_,fun ss σ F H s S=>?_,fun ss σ F H i x H' s S hi y=>?_⟩ kk⟩
  ·rw [Gx] at hi;exact hi
  ·show _<=_;rw [Gx];exact Aj _
  ·obtain ⟨e,hx⟩:=y;subst e;subst hx;rw [Gx] at hi;refine ⟨.int (i:Int),F,?_,.refl S,?_⟩
   ·unfold IZ;rw [AV,ID hi];rfl
   ·rw [Int.zero_add];exact .int _⟩
def Ey {k:List Slot->Prop}(h:k (ss.set j (.is p))):Wg ss (Bz j) p k:=⟨fun E σ F H v Q S r q=>q _ _ h (S.Fs r)⟩
def Ni {k:List Slot->Prop}(h:∃ a b,p=.tup [a,b]/\k ((ss.set i (.is a)).set j (.is b))):Wg ss (LI K 2 (IL (Bz i) (IL (Bz j) NT))) p k:=⟨fun E σ F H v Q S r q=>by
 obtain ⟨a,b,rfl,kk⟩:=h;cases r with
 | tup e r=>
  cases r with
  | cons r1 r=>cases r with
   | cons r2 r=>cases r with
    | nil=>exact ⟨_,_,rfl,An.of (S.fh _ _ e),rfl,_,_,rfl,_,_,rfl,rfl,q _ _ kk ((S.Fs r1).Fs r2)⟩⟩
def AU {t:TS}(h:Ws ss t (fun A7=>Ws A7 u nx R) R):Ws ss (Mo t u) nx R:=⟨fun E D σ F H S hn hr=>
 h.go E { D with nx:=u D } σ F H S (fun A7 σ' F' H' w S' s=>w.go E D σ' F' H' S' (fun BL σ2 F2 H2 n2 S2 s2=>hn BL σ2 F2 H2 n2 S2 (s.trans s2)) hr) hr⟩
def Dt {t:TS}(h:Ws ss t nx R):Ws ss (SG t) nx R:=⟨fun E D σ F H S hn hr=>⟨D.nx,h.go E { D with nx:=D.nx } σ F H S hn hr,fun _ _ q=>q⟩⟩
def Ws.mono {t:TS}(h:Ws ss t nx R)(i:∀ s,nx s->R5 s):Ws ss t R5 R:=⟨fun E D σ F H S hn hr=>h.go E D σ F H S (fun A7 σ' F' H' n=>hn A7 σ' F' H' (i _ n)) hr⟩
def pd {t:TS}(J:List Slot->Prop)(h:Ws ss t J R)(h2:∀ A7,J A7->Ws A7 u nx R):Ws ss (Mo t u) nx R:=AU (h.mono h2)
def EL (h:Wp ss te fun p=>nx (ss.set i (.is p))):Ws ss (DK te (Bz i)) nx R:=⟨fun E D σ F H S hn hr=>
 h.go E σ F H _ S fun v p F1 H1 m1 r kk=>hn _ _ F1 H1 kk (m1.st.Fs r) m1.ff⟩
def iw (h:Wp ss te fun p=>Wg ss g p nx):Ws ss (DK te g) nx R:=⟨fun E D σ F H S hn hr=>
 h.go E σ F H _ S fun v p F1 H1 m1 r kk=>kk.go E σ F1 H1 v _ m1.st r fun A7 σ' n S'=>hn _ _ F1 H1 n S' m1.ff⟩
def Ez (h:Wn ss te fun xs=>nx (ss.set i (.own xs))):Ws ss (DK te (Bz i)) nx R:=⟨fun E D σ F H S hn hr=>
 h.go E σ F H _ S fun l vs xs F1 H1 m1 fl hl Jn r kk=>hn _ _ F1 H1 kk (m1.st.setG ⟨l,vs,rfl,fl,S.DD hl,Jn,r⟩ fun l' e j u _ hu mu=>by cases e;exact S.Il hu hl mu) m1.ff⟩
def Dw (h:Wp ss te k):Ws ss (JT te) nx (.is k):=⟨fun E D σ F H S hn hr=>
 h.go E σ F H _ S fun v p F1 H1 m1 r kk=>hr v F1 H1 m1.st.toFin ⟨p,r,kk⟩⟩
def Jw {k:List PV->Prop}(h:Wn ss te k):Ws ss (JT te) nx (.new k):=⟨fun E D σ F H S hn hr=>
 h.go E σ F H _ S fun l vs xs F1 H1 m1 fl hl Jn r kk=>hr _ F1 H1 m1.st.toFin ⟨l,vs,xs,rfl,fl,S.DD hl,Jn,r,kk⟩⟩
def bj {k:List PV->Prop}(h:ss[i]?=some (.own xs))(kk:k xs):Ws ss (JT (B1 i)) nx (.new k):=⟨fun E D σ F H S hn hr=>by
 obtain ⟨l,vs,e,e1,e2,e3,r⟩:=S.ok i _ h;exact ⟨_,e,hr _ F H S.toFin ⟨l,vs,xs,rfl,e1,e2,e3,r,kk⟩⟩⟩
def D3 {t:TS}(h:Wt ss c fun b=>if b=true then Ws ss t nx R else Ws ss u nx R):Ws ss (Tx c t u) nx R:=⟨fun E D σ F H S hn hr=>
 h.go E σ F H _ S fun b F1 H1 m1 w=>by
  show if b=true then _ else _
  cases b with
  | true=>rw [gq rfl] at w ⊢;exact w.go E D σ F1 H1 m1.st (fun BL σ2 F2 H2 n S2 s2=>hn BL σ2 F2 H2 n S2 (m1.ff.trans s2)) hr
  | false=>rw [gg (by decide)] at w ⊢;exact w.go E D σ F1 H1 m1.st (fun BL σ2 F2 H2 n S2 s2=>hn BL σ2 F2 H2 n S2 (m1.ff.trans s2)) hr⟩
def C0 (h:nx ss):Ws ss Vn nx R:=⟨fun E D σ F H S hn hr=>hn ss σ F H h S (AJ.refl _)⟩
def HQ (h:Wp ss te fun _=>nx ss):Ws ss (Gr te) nx R:=⟨fun E D σ F H S hn hr=>
 h.go E σ F H _ S fun v p F1 H1 m1 r kk=>hn ss σ F1 H1 kk m1.st m1.ff⟩
def Sg.drop (S:Sg E ss σ F H)(i:Nat):Sg E (ss.set i .any) σ F H:=by
 have EE:∀ (j:Nat) u,(ss.set i .any)[j]?=some u->u=.any∨ss[j]?=some u:=fun j u hj=>by
  by_cases q:j=i
  ·subst q;have AM:j<ss.length:=by have:=(List.getElem?_eq_some_iff.mp hj).1;simpa using this
   rw [DG AM] at hj;exact .inl (B8 hj).symm
  ·rw [Cs (Bj q)] at hj;exact .inr hj
 refine ⟨S.toFin,by rw [JO];exact S.len,fun j u hj=>?_,fun j k u w l Q8 hj hk mu mw=>?_⟩
 ·rcases EE j u hj with rfl | h
  ·trivial
  ·exact S.ok j u h
 ·rcases EE j u hj with rfl | h
  ·cases mu
  ·rcases EE k w hk with rfl | h2
   ·cases mw
   ·exact S.Bd j k u w l Q8 h h2 mu mw
def Ld (e:σ[i]?=some (some v)):σ.set i (some v)=σ:=by
 apply Wk;intro j
 by_cases q:j=i
 ·subst q;rw [DG (List.getElem?_eq_some_iff.mp e).1,e]
 ·rw [Cs (Bj q)]
def Sg.La (S:Sg E ss σ F H)(fa:F a=none)(h0:E.H0 a=none∨a∈E.B)(hn:∀ (i:Nat) s,ss[i]?=some s->¬ B0 s σ[i]? a):Sg E ss σ F (upd H a o):=by
 have hb:∀ b u,b≠a->H b=some u->upd H a o b=some u:=fun b u h e=>by rw [AS h];exact e
 refine ⟨⟨fun b u e=>?_,S.f0,fun b u hA e=>?_,S.fresh,fun b hA=>?_,S.O4,S.a0,S.bF,fun b hB=>?_,S.b0⟩,S.len,fun i s hi=>?_,S.Bd⟩
 ·exact hb b u (DQ e fa) (S.fh b u e)
 ·refine hb b u ?_ (S.keep b u hA e);rintro rfl;rcases h0 with h0 | h0
  ·rw [h0] at e;cases e
  ·exact hA.2 h0
 ·refine BN.keep (S.GR b hA) fun u e=>hb b u ?_ e;rintro rfl;rcases h0 with h0 | h0
  ·exact S.a0 _ hA h0
  ·exact (S.b0 _ h0).2 hA
 ·by_cases q:b=a
  ·subst q;rw [Al];simp
  ·rw [AS q];exact S.bH b hB
 ·by_cases np:s=.AQ
  ·subst np;obtain ⟨l,e,e1,e2,e3⟩:=S.ok i _ hi;exact ⟨l,e,e1,e2,BN.keep e3 fun u h=>hb l u (by rintro rfl;exact hn i _ hi e) h⟩
  ·exact Ok.go S hi (AJ.refl _) (fun b u m h=>hb b u (by rintro rfl;exact hn i _ hi m) h) (fun _ _ h=>h) np
def Sg.put (S:Sg E ss σ F H){ys:List PV}(hi:ss[i]?=some (.own xs))(e:σ[i]?=some (some (.ref l)))(fl:F l=none)(h0:E.H0 l=none)(r:AH F B7 ys):Sg E (ss.set i (.own ys)) σ F (upd H l (.lst B7)):=by
 have ne1:∀ (j:Nat) s,(ss.set i .any)[j]?=some s->¬ B0 s σ[j]? l:=fun j s hj mj=>by
  by_cases q:j=i
  ·subst q;have AM:j<ss.length:=(List.getElem?_eq_some_iff.mp hi).1;rw [DG AM] at hj;cases hj;cases mj
  ·rw [Cs (Bj q)] at hj;exact S.Bd j i s _ l q hj hi mj e
 have S2:=(S.drop i).La (o:=.lst B7) fl (.inl h0) ne1;have S3:=S2.setG (j:=i) (s:=.own ys) (v:=.ref l) ⟨l,B7,rfl,fl,h0,Al,r⟩ fun l' e' j u hj hu mu=>by cases e';exact ne1 j u hu mu
 rw [Ld e,RF] at S3;exact S3
def Ur (hi:ss[i]?=some (.own xs))(h:Wp ss te fun p=>xs.length<=99999/\nx (ss.set i (.own (xs++[p])))):Ws ss (Gr (FK K "list" OQ (B1 i) (Af te Az))) nx R:=⟨fun E D σ F H S hn hr=>by
 obtain ⟨l,vs,e,e1,e2,e3,r⟩:=S.ok i _ hi;refine ⟨_,e,.inl ⟨rfl,_,AI.of e3⟩,h.go E σ F H _ S fun v p F1 H1 m1 rv ⟨hz,kk⟩=>?_⟩;obtain ⟨l',B7,e',Ci,BY,Fi,r'⟩:=m1.st.ok i _ hi;rw [e] at e';cases e';refine ⟨l,B7,v,rfl,rfl,Fi,Gv (by rw [r'.length];exact hz),?_⟩;exact hn _ σ F1 _ kk (m1.st.put hi e Ci BY (r'.append (.one rv))) m1.ff⟩
def Z4 (hi:ss[i]?=some (.own xs))(h:Wp ss ta fun a=>∃ j:Int,a=.int j/\0<=j/\j<=xs.length/\Wp ss te fun p=>xs.length<=99999/\nx (ss.set i (.own (xs.take j.toNat++p::xs.drop j.toNat)))):
  Ws ss (Gr (FK K "list" SO (B1 i) (Af ta (Af te Az)))) nx R:=⟨fun E D σ F H S hn hr=>by
 obtain ⟨l,vs,e,e1,e2,e3,r⟩:=S.ok i _ hi;refine ⟨_,e,.inl ⟨rfl,_,AI.of e3⟩,h.go E σ F H _ S fun v1 p1 F1 H1 m1 LQ ⟨j,ej,j0,j1,h2⟩=>?_⟩;subst ej;cases LQ;refine h2.go E σ F1 H1 _ m1.st fun v p F2 H2 m2 rv ⟨hz,kk⟩=>?_;obtain ⟨l',B7,e',Ci,BY,Fi,r'⟩:=m2.st.ok i _ hi;rw [e] at e';cases e';refine ⟨l,B7,j,v,rfl,rfl,Fi,j0,by rw [r'.length];exact j1,Gv (by rw [r'.length];exact hz),?_⟩;exact hn _ σ F2 _ kk (m2.st.put hi e Ci BY ((r'.take _).append (.cons rv (r'.drop _)))) (m1.ff.trans m2.ff)⟩
def CU (F H:Hp)(as:List Addr):Hp:=fun a=>if a∈as then H a else F a
def Sg.lay (S:Sg E ss σ F H)(as:List Addr)(h0:∀ a∈as,F a=none/\E.H0 a=none/\H a≠none)(hn:∀ a∈as,∀ (i:Nat) s,ss[i]?=some s->¬ B0 s σ[i]? a):Sg E ss σ (CU F H as) H/\AJ F (CU F H as):=by
 have Nn:∀ a,a∈as->CU F H as a=H a:=fun a h=>gq h;have Px:∀ a,a∉as->CU F H as a=F a:=fun a h=>gg h;have ff:AJ F (CU F H as):=fun a o e=>by
  by_cases q:a∈as
  ·rw [(h0 a q).1] at e;cases e
  ·rw [Px a q];exact e
 have nF:∀ a,a∉as->F a=none->CU F H as a=none:=fun a q h=>by rw [Px a q];exact h
 refine ⟨⟨⟨fun a o e=>?_,S.f0.trans ff,S.keep,fun a o e=>?_,S.GR,fun a hA=>?_,S.a0,fun a hB=>?_,S.bH,S.b0⟩,S.len,fun i s hi=>?_,S.Bd⟩,ff⟩
 ·by_cases q:a∈as
  ·rw [Nn a q] at e;exact e
  ·rw [Px a q] at e;exact S.fh a o e
 ·by_cases q:a∈as
  ·exact .inr (h0 a q).2.1
  ·rw [Px a q] at e;exact S.fresh a o e
 ·exact nF a (fun q=>S.a0 a hA (h0 a q).2.1) (S.O4 a hA)
 ·exact nF a (fun q=>(S.b0 a hB).1 (h0 a q).2.1) (S.bF a hB)
 ·have no:∀ a,B0 s σ[i]? a->a∉as:=fun a m q=>hn a q i s hi m;have kk:=S.ok i s hi;cases s with
  | any=>trivial
  | is p=>obtain ⟨v,e,r⟩:=kk;exact ⟨v,e,r.mono ff⟩
  | own ys=>
   obtain ⟨l',ws,q,q1,q2,q3,r⟩:=kk;exact ⟨l',ws,q,nF l' (no l' q) q1,q2,q3,r.mono ff⟩
  | AQ=>
   obtain ⟨l',q,q1,q2,q3⟩:=kk;exact ⟨l',q,nF l' (no l' q) q1,q2,q3⟩
  | sq tp ys=>
   cases tp with
   | true=>obtain ⟨v,e,r⟩:=kk;exact ⟨v,e,r.mono ff⟩
   | false=>obtain ⟨l',ws,q,q1,q2,r⟩:=kk;exact ⟨l',ws,q,q1,q2,r.mono ff⟩
  | raw P=>obtain ⟨v,e,r,st⟩:=kk;exact ⟨v,e,st _ _ ff r,st⟩
  | ow lt t=>
   obtain ⟨v,e,r,nd,q⟩:=kk;exact ⟨v,e,r.mono ff fun a _ o h=>h,nd,fun a ha=>⟨nF a (no a ha) (q a ha).1,(q a ha).2⟩⟩
def Ho {t:TS}(i:Nat)(hi:ss[i]?=some (.own xs))(h:Ws (ss.set i (.is (.lst xs))) t nx R):Ws ss t nx R:=⟨fun E D σ F H S hn hr=>by
 obtain ⟨l,vs,e,e1,e2,e3,r⟩:=S.ok i _ hi;have one:∀ a,a∈[l]->a=l:=fun a h=>by simpa using h
 obtain ⟨S1,nf⟩:=(S.drop i).lay [l] (fun a h=>by rw [one a h,e3];exact ⟨e1,e2,by simp⟩) fun a h j s hj m=>by
  rw [one a h] at m
  by_cases q:j=i
  ·subst q;rw [DG (List.getElem?_eq_some_iff.mp hi).1] at hj;cases hj;cases m
  ·rw [Cs (Bj q)] at hj;exact S.Bd j i s _ l q hj hi m e
 have S2:=S1.Fs (j:=i) (v:=.ref l) (p:=.lst xs) (.lst (by unfold CU;rw [gq (by simp)];exact e3) (r.mono nf));rw [Ld e,RF] at S2;exact h.go E D σ _ H S2 (fun BL σ2 F2 H2 n S2 s2=>hn BL σ2 F2 H2 n S2 (nf.trans s2)) hr⟩
def E1 {tb:TS}(I:List PV->Nat->List Slot->Prop)(h:Wi ss wi fun xs=>I xs 0 ss/\(∀ (i:Nat) p A7,xs[i]?=some p->I xs i A7->Wg A7 g p fun BL=>Ws BL tb (I xs (i+1)) R)/\∀ A7,I xs xs.length A7->nx A7):Ws ss (MZ wi g tb) nx R:=⟨fun E D σ F H S hn hr=>
 h.go E σ F H _ S fun J xs F1 H1 m1 sr ⟨i0,hs,hd⟩=>by
  refine ⟨fun i m σ' H'=>m=xs.length - i/\i<=xs.length/\∃ A7 F',I xs i A7/\Sg E A7 σ' F' H'/\AJ F1 F',⟨_,rfl,CD _,ss,F1,i0,m1.st,AJ.refl _⟩,?_⟩;rintro i m σ' H' ⟨rfl,hi,A7,F',hI,S',s'⟩
  by_cases AM:i<xs.length
  ·refine .inr ⟨sr.go A7 σ' F' H' i s' S' AM,fun σ2 H2=>∃ BL F2,I xs (i+1) BL/\Sg E BL σ2 F2 H2/\AJ F1 F2,fun σ2 H2 ⟨BL,F2,a,b,c⟩=>⟨_,by omega,rfl,AM,BL,F2,a,b,c⟩,fun x H3 y=>?_⟩;obtain ⟨p,F3,hp,m3,rp⟩:=sr.E9 A7 σ' F' H' i x H3 s' S' AM y;refine (hs i p A7 hp hI).go E σ' F3 H3 x _ m3.st rp fun bC σ4 w S4=>?_;exact w.go E _ σ4 F3 H3 S4 (fun Jc σ5 F5 H5 n5 S5 s5=>⟨Jc,F5,n5,S5,(s'.trans m3.ff).trans s5⟩) hr
  ·have e:i=xs.length:=by omega
   subst e;exact .inl ⟨sr.stop A7 σ' F' H' s' S',hn A7 σ' F' H' (hd A7 hI) S' (m1.ff.trans s')⟩⟩
def YD {tb:TS}(I:Nat->List Slot->Prop)(m0:Nat)(h0:I m0 ss)(h:∀ m A7,I m A7->Wt A7 c fun b=>if b=true then Ws A7 tb (fun BL=>∃ m',m' < m/\I m' BL) R else nx A7):Ws ss (WS c tb) nx R:=⟨fun E D σ F H S hn hr=>by
 refine ⟨fun m σ' H'=>∃ A7 F',I m A7/\Sg E A7 σ' F' H'/\AJ F F',⟨m0,ss,F,h0,S,AJ.refl _⟩,?_⟩;rintro m σ' H' ⟨A7,F',hI,S',s'⟩;refine (h m A7 hI).go E σ' F' H' _ S' fun b F1 H1 m1 w=>?_;cases b with
 | true=>
  rw [gq rfl] at w;refine ⟨fun σ2 H2=>∃ BL F2,(∃ m',m' < m/\I m' BL)/\Sg E BL σ2 F2 H2/\AJ F F2,fun σ2 H2 ⟨BL,F2,⟨m',l,i⟩,b,c⟩=>⟨m',l,BL,F2,i,b,c⟩,?_⟩;exact w.go E _ σ' F1 H1 m1.st (fun Jc σ5 F5 H5 n5 S5 s5=>⟨Jc,F5,n5,S5,(s'.trans m1.ff).trans s5⟩) hr
 | false=>
  rw [gg (by decide)] at w;exact hn A7 σ' F1 H1 w m1.st (s'.trans m1.ff)⟩
end
def Bn (js:List Nat)(ss:List Slot):List Slot:=js.map fun j=>(ss[j]?).getD .any
def MJ (js:List Nat)(ss:List Slot):Bool:=js.all fun j=>match ss[j]? with
 | some .AQ=>false
 | _=>true
section
variable [Xw]
variable {K:ZAy}{js:List Nat}
def Yv (h:js[i]?=some j)(e:(Bn js ss)[i]?=some s):s=(ss[j]?).getD .any:=by
 unfold Bn at e;rw [AV,h] at e;exact (B8 e).symm
def Sg.AD (S:Sg E ss σ F H)(nd:js.Nodup)(r:AH F vs ps):Sg E (Bn js ss++ps.map .is) (BB js σ++vs.map some) F H:=by
 have hl:(Bn js ss).length=js.length:=by simp [Bn]
 have DN:(BB js σ).length=js.length:=by simp [BB]
 have EE:∀ (i:Nat) (hi:i<js.length),(Bn js ss++ps.map .is)[i]?=some ((ss[js[i]]?).getD .any)/\(BB js σ++vs.map some)[i]?=some ((σ[js[i]]?).join):=fun i hi=>by
  rw [DF (by rw [hl];exact hi),DF (by rw [DN];exact hi)];unfold Bn BB;rw [AV,AV,AR hi];exact ⟨rfl,rfl⟩
 have at2:∀ (i:Nat) s,js.length<=i->(Bn js ss++ps.map .is)[i]?=some s->∃ p v,s=.is p/\(BB js σ++vs.map some)[i]?=some (some v)/\Rep F v p:=fun i s hi e=>by
  rw [EJ (by rw [hl];exact hi),hl,AV] at e;rw [EJ (by rw [DN];exact hi),DN,AV];cases q:ps[i - js.length]? with
  | none=>rw [q] at e;cases e
  | some p=>
   rw [q] at e;obtain ⟨v,hv,rv⟩:=r.get q;rw [hv];exact ⟨p,v,(B8 e).symm,rfl,rv⟩
 have fx:∀ (s:Slot) (m:Nat) (l:Addr),B0 s (some (σ[m]?).join) l->B0 s σ[m]? l:=fun s m l o=>by
  have fy:∀ l,some (σ[m]?).join=some (some (V.ref l))->σ[m]?=some (some (.ref l)):=fun l e=>by
   cases q:σ[m]? with
   | none=>rw [q] at e;cases e
   | some o=>rw [q] at e;cases o with
    | none=>cases e
    | some v=>simpa using e
  cases s with
  | own xs=>exact fy l o
  | AQ=>exact fy l o
  | ow lt t=>exact o
  | _=>exact o
 have sm:∀ (i:Nat) s l,(Bn js ss++ps.map .is)[i]?=some s->B0 s (BB js σ++vs.map some)[i]? l->∃ hi:i<js.length,ss[js[i]]?=some s/\B0 s σ[js[i]]? l:=fun i s l e m=>by
  by_cases hi:i<js.length
  ·rw [(EE i hi).2] at m;refine ⟨hi,?_,fx s _ l m⟩;rw [(EE i hi).1] at e;cases q:ss[js[i]]? with
   | none=>rw [q] at e;cases e;cases m
   | some u=>rw [q] at e;exact e
  ·obtain ⟨p,v,rfl,_⟩:=at2 i s (by omega) e;cases m
 refine ⟨S.toFin,?_,fun i s e=>?_,fun i j s u l Gy hi hj ms mu=>?_⟩
 ·rw [Bo,Bo,hl,DN,A9,A9,r.length]
 ·by_cases hi:i<js.length
  ·obtain ⟨a,b⟩:=EE i hi;rw [a] at e;rw [b];cases q:ss[js[i]]? with
   | none=>rw [q] at e;cases e;trivial
   | some u=>
    rw [q] at e;have eu:u=s:=B8 e;subst eu;have kk:=S.ok _ _ q;cases u with
    | any=>trivial
    | is p=>obtain ⟨v,e,r⟩:=kk;rw [e];exact ⟨v,rfl,r⟩
    | own xs=>obtain ⟨l,vs,e,r⟩:=kk;rw [e];exact ⟨l,vs,rfl,r⟩
    | AQ=>obtain ⟨l,e,r⟩:=kk;rw [e];exact ⟨l,rfl,r⟩
    | sq tp xs=>
     cases tp with
     | true=>obtain ⟨v,e,r⟩:=kk;rw [e];exact ⟨v,rfl,r⟩
     | false=>obtain ⟨l,vs,e,r⟩:=kk;rw [e];exact ⟨l,vs,rfl,r⟩
    | raw P=>obtain ⟨v,e,r⟩:=kk;rw [e];exact ⟨v,rfl,r⟩
    | ow lt t=>obtain ⟨v,e,r⟩:=kk;rw [e];exact ⟨v,rfl,r⟩
  ·obtain ⟨p,v,rfl,hv,rv⟩:=at2 i s (by omega) e;rw [hv];exact ⟨v,rfl,rv⟩
 ·obtain ⟨li,qi,oi⟩:=sm i s l hi ms;obtain ⟨lj,qj,oj⟩:=sm j u l hj mu;refine S.Bd js[i] js[j] s u l (fun e=>Gy ?_) qi qj oi oj;exact (Wv nd).mp e
def Mv.out (S:Sg E ss σ F H)(np:MJ js ss=true)(m:Mv E (Bn js ss++ps.map .is) τ F H F' H'):Mv E ss σ F H F' H':=by
 have nn:∀ a,C9 (Bn js ss++ps.map .is) τ a:=fun a i hi _=>by
  by_cases h:i<(Bn js ss).length
  ·rw [DF h] at hi;have hj:i<js.length:=by simpa [Bn] using h
   have q:=Yv (AR hj) hi;have z:=List.all_eq_true.mp np js[i] (Fq hj);cases w:ss[js[i]]? with
   | none=>rw [w] at q;cases q
   | some u=>rw [w] at q z;cases q;cases z
  ·rw [EJ (by omega),AV] at hi;cases w:ps[i - (Bn js ss).length]? with
   | none=>rw [w] at hi;cases hi
   | some p=>rw [w] at hi;cases hi
 have hk:∀ a o,H a=some o->H' a=some o:=fun a o e=>m.hh a o (nn a) e;exact S.step m.ff m.st.fh (fun a o _ e=>hk a o e) m.nn fun i l hi e=>BN.keep (S.ET hi e) fun o e=>hk l o e
def fE {k:List PV->Prop}(f:PV->Bool)(g:PV->PV)
  (h:Wi ss wi fun xs=>xs.length<=100000/\(∀ x∈xs,Wt (Bn js ss++[.is x]) tt fun b=>b=f x)/\(∀ x∈xs,f x=true->Wp (Bn js ss++[.is x]) te fun p=>p=g x)/\k ((xs.filter f).map g))
  (nd:js.Nodup:=by decide) (np:MJ js ss=true:=by rfl):Wn ss (HD wi js tt te) k:=⟨fun E σ F H Q S q=>
 h.go E σ F H _ S fun J xs F1 H1 m1 sr ⟨hz,ht,he,kk⟩ acc Aw=>by
  have FF:C9 ss σ acc:=m1.st.Ht Aw;have Ik:=m1.st.DD Aw;have KJ:∀ (i:Nat) s,ss[i]?=some s->¬ B0 s σ[i]? acc:=fun i s hi=>m1.st.Il hi Aw;refine ⟨fun i m H2=>m=xs.length - i/\i<=xs.length/\∃ F2 vs,Mv E ss σ F1 H1 F2 H2/\F2 acc=none/\H2 acc=some (.lst vs)/\AH F2 vs (((xs.take i).filter f).map g),⟨_,rfl,CD _,F1,[],m1.st.make Aw _,m1.st.Bl Aw,Al,.nil⟩,?_⟩;rintro i m H2 ⟨rfl,hi,F2,vs,m2,fa,ha,rv⟩
  by_cases AM:i<xs.length
  ·refine .inr ⟨sr.go ss σ F2 H2 i m2.ff m2.st AM,fun x H3 y=>?_⟩;obtain ⟨p,F3,hp,m3,rp⟩:=sr.E9 ss σ F2 H2 i x H3 m2.ff m2.st AM y;have Hf:p∈xs:=C2 hp;have J4:(xs.take (i+1))=xs.take i++[p]:=by
    have e2:xs[i]=p:=by rw [AR AM] at hp;exact B8 hp
    rw [OE AM,e2]
   have e1:List.filter f (xs.take (i+1))=(xs.take i).filter f++(if f p=true then [p] else []):=by
    rw [J4,Wr];congr 1
    by_cases hf:f p=true <;> simp [hf]
   have Hw:∀ {F4:Hp},(∀ a o,F4 a=some o->F2 a=some o∨H2 a=none)->F4 acc=none:=fun {F4} n=>by
    cases e:F4 acc with
    | none=>rfl
    | some o=>
     rcases n acc o e with w | w
     ·rw [fa] at w;cases w
     ·rw [ha] at w;cases w
   have S3:=m3.st.AD (js:=js) nd (.one rp);refine (ht p Hf).go E _ F3 H3 _ S3 fun b F4 H4 m4 hb=>?_;have C5:=m3.trans (m4.out (ps:=[p]) m3.st np);show if b=true then _ else _
   rw [hb]
   by_cases hf:f p=true
   ·rw [gq hf];have S4:=C5.st.AD (js:=js) nd (.one (rp.mono (m4.out (ps:=[p]) m3.st np).ff));refine (he p Hf hf).go E _ F4 H4 _ S4 fun w pw F5 H5 m5 HW ew=>?_;have m45:=m4.out (ps:=[p]) m3.st np;have KZ:=m5.out (ps:=[p]) C5.st np;have Cy:=C5.trans KZ;have K0:=Cy.hh acc _ FF ha;have G8:=Hw Cy.nn;have hlen:vs.length<=99999:=by
     rw [rv.length,A9];have:=Ww f (xs.take i);rw [D4] at this;omega
    refine ⟨vs,K0,Gv hlen,xs.length - (i+1),by omega,rfl,AM,F5,vs++[w],?_,G8,Al,?_⟩
    ·have DU:=m2.trans Cy;refine ⟨DU.st.La G8 (.inl Ik) KJ,DU.ff,fun a o n e=>?_,DU.nn⟩;rw [AS (DQ e Aw)];exact DU.hh a o n e
    ·rw [e1,gq hf,CO];rw [ew] at HW;exact (rv.mono Cy.ff).append (.one HW)
   ·have Mq:f p=false:=by simpa using hf
    rw [Mq,gg (by decide)];refine ⟨xs.length - (i+1),by omega,rfl,AM,F4,vs,m2.trans C5,Hw C5.nn,C5.hh acc _ FF ha,?_⟩;rw [e1,gg hf,DV];exact rv.mono C5.ff
  ·have e:i=xs.length:=by omega
   subst e;refine .inl ⟨sr.stop ss σ F2 H2 m2.ff m2.st,q acc vs _ F2 H2 (m1.trans m2) fa (m1.none Aw) ha ?_ kk⟩;rw [Ee] at rv;exact rv⟩
end
abbrev Pre:=List Slot->Ag->Prop
def AN (pre:Pre):Sp:=fun vs H Q _=>∃ (ss:List Slot) (R:Ag) (F:Hp) (A:List Addr),pre ss R/\Sg (E3 A F H) ss (vs.map some) F H/\∀ v F' H',Fin (E3 A F H) F' H'->R.ok (E3 A F H) F' H' v->Q v H'
section
variable [Xw]
variable {pre:Pre}{k:PV->Prop}
theorem FI.at {l:List Slot}(h:FI ss σ F H vs l):∀ {i:Nat}{s:Slot},l[i]?=some s->∃ v,vs[i]?=some v/\Av ss σ F H v s:=by
 induction h with
 | nil=>intro i s e;simp at e
 | cons a _ ih=>
  intro i s e;cases i with
  | zero=>simp at e;subst e;exact ⟨_,rfl,a⟩
  | succ i=>exact ih (by simpa using e)
def FI.len {l:List Slot}(h:FI ss σ F H vs l):l.length=vs.length:=by
 induction h with
 | nil=>rfl
 | cons a _ ih=>rw [Bu,Bu,ih]
def Av.ok (S:Sg E ss σ F H)(a:Av ss σ F H v s)(hA:∀ l,C9 ss σ l->l∉A):Ok (E3 A F H) F H s (some (some v))/\∀ o l,¬ B0 s o l:=by
 cases s with
 | is p=>exact ⟨⟨v,rfl,a⟩,fun _ _ z=>z⟩
 | sq tp xs=>
  cases tp with
  | true=>exact ⟨⟨v,rfl,a⟩,fun _ _ z=>z⟩
  | false=>obtain ⟨l,vs,rfl,n,h,r⟩:=a;exact ⟨⟨l,vs,rfl,⟨hA l n,Aa⟩,h,r⟩,fun _ _ z=>z⟩
 | raw P=>exact ⟨⟨v,rfl,a⟩,fun _ _ z=>z⟩
 | any=>exact a.elim
 | own xs=>exact a.elim
 | AQ=>exact a.elim
 | ow lt t=>exact a.elim
def Sg.MN (S:Sg E ss σ F H){l:List Slot}(a:FI ss σ F H vs l):Sg (E3 [] F H) l (vs.map some) F H:=by
 have nn:∀ {p:Prop}(a:Addr),a∈([]:List Addr)->p:=fun a h=>absurd h Aa;refine ⟨⟨S.fh,AJ.refl _,fun _ _ _ e=>e,fun _ _ e=>.inl e,fun a h=>nn a h,fun a h=>nn a h,fun a h=>nn a h,fun a h=>nn a h,fun a h=>nn a h,fun a h=>nn a h⟩,by rw [A9];exact a.len,fun i s hi=>?_,fun i j s u l Gy hi hj ms mu=>?_⟩
 ·obtain ⟨v,hv,q⟩:=a.at hi;rw [AV,hv];exact (q.ok S fun _ _ h=>absurd h Aa).1
 ·obtain ⟨v,hv,q⟩:=a.at hi;exact (q.ok S (A:=[]) fun _ _ h=>absurd h Aa).2 _ _ ms
def Sg.U9 (S:Sg E ss σ F H){p:Addr}(hi:ss[i0]?=some .AQ)(e:σ[i0]?=some (some (.ref p))){l:List Slot}(a:FI ss σ F H vs l):Sg (E3 [p] F H) (.AQ::l) ((V.ref p::vs).map some) F H:=by
 obtain ⟨p',e',fp,_,pp⟩:=S.ok i0 _ hi;rw [e] at e';cases e';have hA:∀ l,C9 ss σ l->l∉[p]:=fun l n h=>by
  have:l=p:=by simpa using h
  subst this;exact n i0 hi e
 have one:∀ a,a∈[p]->a=p:=fun a h=>by simpa using h
 have nn:∀ {p:Prop}(a:Addr),a∈([]:List Addr)->p:=fun a h=>absurd h Aa;refine ⟨⟨S.fh,AJ.refl _,fun _ _ _ e=>e,fun _ _ e=>.inl e,fun a h=>(one a h)▸pp,fun a h=>(one a h)▸fp,fun a h=>?_,fun a h=>nn a h,fun a h=>nn a h,fun a h=>nn a h⟩,by rw [A9,Bu,Bu];rw [a.len],fun i s hi=>?_,fun i j s u l' Gy hi hj ms mu=>?_⟩
 ·rw [one a h];obtain ⟨_,_,q,_⟩:=pp;show H p≠none;rw [q];simp
 ·cases i with
  | zero=>simp at hi;subst hi;exact ⟨p,rfl,fp,.inr (by simp),pp⟩
  | succ i=>
   obtain ⟨v,hv,q⟩:=a.at (i:=i) (s:=s) (by simpa using hi)
   have:((V.ref p::vs).map some)[i+1]?=some (some v):=by rw [Ac,ZA1,AV,hv];rfl
   rw [this];exact (q.ok S hA).1
 ·have z:∀ (i:Nat) s o l',(Slot.AQ::l)[i]?=some s->B0 s o l'->i=0:=fun i s o l' h m=>by
   cases i with
   | zero=>rfl
   | succ i=>
    obtain ⟨v,hv,q⟩:=a.at (i:=i) (s:=s) (by simpa using h)
    exact ((q.ok S hA).2 _ _ m).elim
  exact absurd ((z i s _ _ hi ms).trans (z j u _ _ hj mu).symm) Gy
def Sg.back (S:Sg E ss σ F H)(hA:∀ a,a∈A->∃ i:Nat,ss[i]?=some .AQ/\σ[i]?=some (some (.ref a)))(f:Fin (E3 A F H) F' H'):Mv E ss σ F H F' H':=by
 refine S.step f.f0 f.fh (fun a o n e=>f.keep a o ⟨fun h=>?_,Aa⟩ e) f.fresh fun i l hi e=>?_
 ·obtain ⟨i,q1,q2⟩:=hA a h;exact n i q1 q2
 ·by_cases q:l∈A
  ·exact f.GR l q
  ·exact BN.keep (S.ET hi e) fun o e=>f.keep l o ⟨q,Aa⟩ e
def wp_call (h:Wa ss t fun l=>∃ k',pre l (.is k')/\∀ p,k' p->k p):Wp ss (E7 (AN pre) [] E0 t) k:=⟨fun E σ F H Q S q=>
 h.go E σ F H _ S fun vs l F1 H1 m1 a ⟨k',hp,kk⟩=>by
  rw [DV];refine ⟨l,.is k',F1,[],hp,m1.st.MN a,fun v F' H' f ⟨p,r,kp⟩=>?_⟩;exact q v p F' H' (m1.trans (m1.st.back (fun _ h=>absurd h Aa) f)) r (kk p kp)⟩
def Gp {k:List PV->Prop}(h:Wa ss t fun l=>∃ k',pre l (.new k')/\∀ xs,k' xs->k xs):Wn ss (E7 (AN pre) [] E0 t) k:=⟨fun E σ F H Q S q=>
 h.go E σ F H _ S fun vs l F1 H1 m1 a ⟨k',hp,kk⟩=>by
  rw [DV];refine ⟨l,.new k',F1,[],hp,m1.st.MN a,fun v F' H' f ⟨l,vs,xs,e,fl,hl,DH,r,kx⟩=>?_⟩;subst e;exact q l vs xs F' H' (m1.trans (m1.st.back (fun _ h=>absurd h Aa) f)) fl (m1.none hl) DH r (kk xs kx)⟩
def xB (hi:ss[i]?=some .AQ)(h:Wa ss t fun l=>∃ k',pre (.AQ::l) (.is k')/\∀ p,k' p->k p):Wp ss (E7 (AN pre) [] E0 (Af (B1 i) t)) k:=⟨fun E σ F H Q S q=>by
 obtain ⟨p,e,_⟩:=S.ok i _ hi;refine ⟨_,e,h.go E σ F H _ S fun vs l F1 H1 m1 a ⟨k',hp,kk⟩=>?_⟩;show AN pre ((V.ref p::vs)++[]) H1 Q E0;rw [DV];refine ⟨.AQ::l,.is k',F1,[p],hp,m1.st.U9 hi e a,fun v F' H' f ⟨pv,r,kp⟩=>?_⟩;exact q v pv F' H' (m1.trans (m1.st.back (A:=[p]) (fun a h=>⟨i,hi,(show a=p from by simpa using h)▸e⟩) f)) r (kk pv kp)⟩
def pH {k:List PV->Prop}(hi:ss[i]?=some .AQ)(h:Wa ss t fun l=>∃ k',pre (.AQ::l) (.new k')/\∀ xs,k' xs->k xs):Wn ss (E7 (AN pre) [] E0 (Af (B1 i) t)) k:=⟨fun E σ F H Q S q=>by
 obtain ⟨p,e,_⟩:=S.ok i _ hi;refine ⟨_,e,h.go E σ F H _ S fun vs l F1 H1 m1 a ⟨k',hp,kk⟩=>?_⟩;show AN pre ((V.ref p::vs)++[]) H1 Q E0;rw [DV];refine ⟨.AQ::l,.new k',F1,[p],hp,m1.st.U9 hi e a,fun v F' H' f ⟨l,vs,xs,e2,fl,hl,DH,r,kx⟩=>?_⟩;subst e2;exact q l vs xs F' H' (m1.trans (m1.st.back (A:=[p]) (fun a h=>⟨i,hi,(show a=p from by simpa using h)▸e⟩) f)) fl (m1.none hl) DH r (kk xs kx)⟩
def Sg.grown (S:Sg E ss σ F H)(n:Nat):Sg E (ss++List.replicate n .any) (σ++List.replicate n none) F H:=by
 have EE:∀ (i:Nat) s,(ss++List.replicate n .any)[i]?=some s->s≠.any->ss[i]?=some s/\(σ++List.replicate n none)[i]?=σ[i]?:=fun i s e hs=>by
  by_cases h:i<ss.length
  ·rw [DF h] at e;rw [DF (by rw [<- S.len];exact h)];exact ⟨e,rfl⟩
  ·rw [EJ (by omega),gF] at e;split at e
   ·exact absurd (B8 e).symm hs
   ·cases e
 refine ⟨S.toFin,by simp [S.len],fun i s e=>?_,fun i j s u l Gy hi hj ms mu=>?_⟩
 ·cases s with
  | any=>trivial
  | _=>obtain ⟨a,b⟩:=EE i _ e (by simp);rw [b];exact S.ok i _ a
 ·have ns:s≠.any:=by rintro rfl;cases ms
  have nu:u≠.any:=by rintro rfl;cases mu
  obtain ⟨a,b⟩:=EE i s hi ns;obtain ⟨c,d⟩:=EE j u hj nu;rw [b] at ms;rw [d] at mu;exact S.Bd i j s u l Gy a c ms mu
end
section
variable {pre:Pre}{k:PV->Prop}
def Nv (E:Ent0):Ent:=⟨E,fun _ _ _ _ _ _ _ _ _ d=>d.elim⟩
def By {N:List Str}{n:Nat}{t:TS}(h:AN pre vs H Q X)(hl:∀ ss R,pre ss R->ss.length=n)
  (hw:∀ ss R,pre ss R->Ws (ss++List.replicate (N.length - n) .any) t (fun _=>∃ k,R=.is k/\k .A8) R):t { nx:=fun _ H'=>Q .A8 H',rt:=Q } (L2.start N vs) H:=by
 obtain ⟨ss,R,F,A,hp,S,q⟩:=h;have e:vs.length=n:=by have:=S.len;rw [A9] at this;rw [<- this];exact hl ss R hp
 unfold L2.start;rw [e];refine (hw ss R hp).go (Nv (E3 A F H)) _ _ F H (S.grown _) (fun A7 σ' F' H' ⟨k,e,kn⟩ S' _=>?_) fun v F' H' f ok=>q v F' H' f ok;subst e;exact q .A8 F' H' S'.toFin ⟨.A8,.A8,kn⟩
def Bv {n:Nat}(hl:∀ ss R,pre ss R->ss.length=n)(h:AN pre vs H Q X):vs.length=n:=by
 obtain ⟨ss,R,F,A,hp,S,q⟩:=h;have:=S.len;rw [A9] at this;rw [<- this];exact hl ss R hp
end
end Fz
namespace L2
section
variable {X:Cx}
def dG (K:ZAy):R2:=fun x y H Q=>∃ p q xs,x=.ref p/\y=.ref q/\AI K H p xs/\AI K H q []/\Q (.bl (!decide (xs=[]))) H
def jr (hu:X.A.units<cLine):B2 X (compareOp .NotEq) (dG X.K):=by
 intro pins s σ H x y v u Q I rx ry h;obtain ⟨p,q,xs,rfl,rfl,ha,hb,hQ⟩:=h;cases rx;cases ry;obtain ⟨A1,r1,p1,z1⟩:=I.list ha;obtain ⟨BC,r2,p2,z2⟩:=I.list hb;have l1:=r1.length;have l2:=r2.length;cases xs with
 | nil=>exact Ow hu pins s σ H _ _ _ _ Q I (show RelV (.ref p) (.ref p) from rfl) (show RelV (.ref q) (.ref q) from rfl) ⟨p,q,[],[],rfl,rfl,.inl ⟨ha,hb⟩,rfl,rfl,hQ⟩
 | cons y ys=>
  have As:(A1.toArray.size != BC.toArray.size)=true:=by simp only [BV,<- l1,<- l2];simp
  exact ZAO p1.isList p2.isList As hu _ _ _ _ ⟨.bl true,H,I,rfl,hQ⟩
end
end L2
namespace Lw
open L2
theorem Ep:∀ {as bs:List Str},as.Nodup->(∀ x∈as,x∈bs)->as.length<=bs.length
 | [],_,_,_=>CD _
 | a::as,bs,nd,h=>by
  obtain ⟨h1,h2⟩:=List.nodup_cons.mp nd;have ha:=h a HG;have q:=Ep (bs:=bs.erase a) h2 fun x hx=>(ZA4 (fun e:x=a=>h1 (by rw [<- e];exact hx))).mpr (h x (E5 _ hx));have e:=gH ha;have p:=gJ ha;simp only [Bu];omega
structure Ent where
 a:Addr
 ns:List Str
 t:Addr
 r:Str
 g:Nat
 ss:List Str
end Lw
namespace Lw
open L2
def Mc {rs:List Str}(nd:rs.Nodup){g:Nat}{x:Str}(h:rs[g]?=some x):rs.idxOf x=g:=by
 obtain ⟨hg,e⟩:=List.getElem?_eq_some_iff.mp h;have hx:x∈rs:=C2 h;have hj:rs.idxOf x<rs.length:=List.idxOf_lt_length_iff.mpr hx;have e2:rs[rs.idxOf x]=x:=GN hj;have pw:=List.pairwise_iff_getElem.mp nd;rcases Nat.lt_trichotomy (rs.idxOf x) g with c | c | c
 ·exact absurd (e2.trans e.symm) (pw _ _ hj hg c)
 ·exact c
 ·exact absurd (e.trans e2.symm) (pw _ _ hg hj c)
end Lw
namespace L2
section
variable {X:Cx}{pins:ZAz}{σ:St}{H2:Hp}{s2:Shared}{elt iter:Expr}{x z:Str}{px pz tp pos:Pos}{tk:Nat}{scope:Scope}{AD:List Str}{js:List Nat}{te:TE}{J:It}{fp:List Addr}{it:Addr}
 {tn:Nat->Heap->Prop}
end
end L2
namespace Fz
open L2 Lw
variable {E:Ent0}{ss:List Slot}{σ:L2.St}{F F' H H':Hp}{js:List Nat}{ta tb te:TE}{nx:List Slot->Prop}{R:Ag}{i:Nat}{ns:List Int}{wi:TI}{α:Type}{xs:List PV}
section
variable [Xw]
variable {K:ZAy}{k:PV->Prop}
def Sg.Z7 (S:Sg E ss σ F H){p:Addr}(hi:ss[i]?=some .AQ)(e:σ[i]?=some (some (.ref p)))(s:C4 p H H'):Mv E ss σ F H F H':=by
 obtain ⟨p',e',fp,_,pp⟩:=S.ok i _ hi;rw [e] at e';cases e';refine S.step (AJ.refl _) (fun a o q=>s.same a o (DQ q fp) (S.fh a o q)) (fun a o n q=>s.same a o (fun z=>?_) q) (fun a o q=>.inl q) fun j l hj ej=>?_
 ·rw [z] at n;exact n i hi e
 ·by_cases z:l=p
  ·rw [z];exact s.AQ
  ·exact BN.keep (S.ET hj ej) fun o q=>s.same l o z q
def jY (hi:ss[i]?=some .AQ)(h:Wp ss te fun x=>∃ m,x=.int m/\0<m/\m<10 ^ 18/\∀ r:Int,0<=r->r<m->k (.int r)):Wp ss (E7 LN [] E0 (Af (B1 i) (Af te Az))) k:=⟨fun E σ F H Q S q=>by
 obtain ⟨p,e,_⟩:=S.ok i _ hi;refine ⟨_,e,h.go E σ F H _ S fun v x F1 H1 m1 r ⟨m,em,m0,KD,kk⟩=>?_⟩;subst em;cases r;exact ⟨p,m,rfl,m1.st.ET hi e,m0,KD,fun r H2 r0 r1 s=>q _ _ F1 H2 (m1.trans (m1.st.Z7 hi e s)) (.int r) (kk r r0 r1)⟩⟩
def JF (K:ZAy)(ns:List Int):Hp->V->Prop:=fun F v=>∃ a,v=.ref a/\AI K F a (ns.map V.int)
def Q0 (K:ZAy)(ns:List Int):∀ (v:V) (F F':Hp),AJ F F'->JF K ns F v->JF K ns F' v:=fun v F F' s ⟨a,e,h⟩=>⟨a,e,by
 rcases h with (h | ⟨o,h⟩) | h
 ·exact .inl (.inl (s _ _ h))
 ·exact .inl (.inr ⟨o,s _ _ h⟩)
 ·exact .inr h⟩
def x8 (hi:ss[i]?=some (.raw (JF K ns)))(h:k (.int ns.length)):Wp ss (DL (Oj K) (Af (B1 i) Az)) k:=⟨fun E σ F H Q S q=>by
 obtain ⟨v,e,⟨a,ev,hq⟩,st⟩:=S.ok i _ hi;subst ev;obtain ⟨a',ea,GI⟩:=Q0 K ns _ F H S.fh ⟨a,rfl,hq⟩;cases ea;refine ⟨_,e,a,_,rfl,.inl GI,?_⟩;rw [A9];exact q _ _ F H (.refl S) (.int _) h⟩
def ZQ {j:Nat}(hi:ss[i]?=some (.raw (JF K ns)))(h:Wp ss te fun x=>∃ m,x=.int m/\0<=m/\m<=1000/\nx (ss.set j .AQ)):Ws ss (DK (E7 (PR K) [] E0 (Af (B1 i) (Af te Az))) (Bz j)) nx R:=⟨fun E D σ F H S hn hr=>by
 obtain ⟨v,e,⟨a,ev,hq⟩,st⟩:=S.ok i _ hi;subst ev;refine ⟨_,e,h.go E σ F H _ S fun v x F1 H1 m1 r ⟨m,em,m0,KD,kk⟩=>?_⟩;subst em;cases r;obtain ⟨v',e',HS,_⟩:=m1.st.ok i _ hi;rw [e] at e';cases e';obtain ⟨a',ea,GI⟩:=Q0 K ns _ F1 H1 m1.st.fh HS;cases ea;refine ⟨a,ns,m,rfl,GI,m0,KD,fun p H2 hp s pp=>?_⟩;have m2:=m1.st.grow s;exact hn _ _ F1 H2 kk (m2.st.setG ⟨p,rfl,m1.st.Bl hp,.inl (m1.st.DD hp),pp⟩ fun l e b u _ hu mu=>by cases e;exact m1.st.Il hu hp mu) m1.ff⟩
end
section
variable {K:ZAy}
def je {N:List Str}{vs:List V}{Q:VK}{X:XK}{t:TS}(h:Mx K vs H Q X)(hw:∀ ns:List Int,ns.length<=63->Ws (.raw (JF K ns)::List.replicate (N.length - 1) .any) t (fun _=>False) (.is fun p=>p=.bl true)):t { nx:=fun _ H'=>Q .A8 H',rt:=Q } (L2.start N vs) H:=by
 obtain ⟨a,ns,rfl,hS,Yp,q⟩:=h;have S:Sg (E3 [] H H) [.raw (JF K ns)] [some (.ref a)] H H:=by
  have nn:∀ {p:Prop}(a:Addr),a∈([]:List Addr)->p:=fun a h=>absurd h Aa;refine ⟨⟨AJ.refl _,AJ.refl _,fun _ _ _ e=>e,fun _ _ e=>.inl e,fun a h=>nn a h,fun a h=>nn a h,fun a h=>nn a h,fun a h=>nn a h,fun a h=>nn a h,fun a h=>nn a h⟩,rfl,fun i s hi=>?_,fun i j s u l Gy hi hj ms=>?_⟩
  ·cases i with
   | zero=>cases hi;exact ⟨_,rfl,⟨a,rfl,hS⟩,Q0 K ns _⟩
   | succ i=>simp at hi
  ·cases i with
   | zero=>cases hi;cases ms
   | succ i=>simp at hi
 refine (hw ns Yp).go (Nv (E3 [] H H)) _ _ H H (S.grown _) (fun _ _ _ _ h=>h.elim) fun v F' H' f ok=>?_;obtain ⟨p,r,rfl⟩:=ok;cases r;exact q H'
end
section
variable [Xw]
variable {K:ZAy}{k:PV->Prop}
def Wi.mono {k k':List PV->Prop}(h:Wi ss wi k)(i:∀ xs,k xs->k' xs):Wi ss wi k':=⟨fun E σ F H R S q=>h.go E σ F H R S fun J xs F' H' m s kk=>q J xs F' H' m s (i xs kk)⟩
def Dg {tt:TT}{k:List PV->Prop}(c:α->PV)(f:α->Bool)(g:α->PV)
  (h:Wi ss wi fun xs=>∃ ns:List α,xs=ns.map c/\ns.length<=100000/\(∀ x∈ns,Wt (Bn js ss++[.is (c x)]) tt fun b=>b=f x)/\(∀ x∈ns,f x=true->Wp (Bn js ss++[.is (c x)]) te fun p=>p=g x)/\k ((ns.filter f).map g))
  (inj:∀ x y,c x=c y->x=y) (nd:js.Nodup:=by decide) (np:MJ js ss=true:=by rfl):Wn ss (HD wi js tt te) k:=by
 by_cases hα:Nonempty α
 ·obtain ⟨x0⟩:=hα;have inv:∀ p:PV,∃ x:α,∀ y,c y=p->y=x:=fun p=>by
   by_cases q:∃ y,c y=p
   ·obtain ⟨y,hy⟩:=q;exact ⟨y,fun z hz=>inj _ _ (hz.trans hy.symm)⟩
   ·exact ⟨x0,fun y hy=>absurd ⟨y,hy⟩ q⟩
  let d:PV->α:=fun p=>Classical.choose (inv p)
  have hd:∀ x,d (c x)=x:=fun x=>(fq (inv (c x)) x rfl).symm;refine fE (fun p=>f (d p)) (fun p=>g (d p)) (h.mono fun xs ⟨ns,e,hz,h1,h2,kk⟩=>?_) nd np;subst e;refine ⟨by rw [A9];exact hz,fun x hx=>?_,fun x hx hf=>?_,?_⟩
  ·obtain ⟨y,hy,rfl⟩:=List.mem_map.mp hx;rw [hd];exact h1 y hy
  ·obtain ⟨y,hy,rfl⟩:=List.mem_map.mp hx;rw [hd] at hf ⊢;exact h2 y hy hf
  ·have e:((ns.map c).filter fun p=>f (d p)).map (fun p=>g (d p))=(ns.filter f).map g:=by
    rw [List.filter_map,CP]
    congr 1
    ·funext x;show g (d (c x))=g x;rw [hd]
    ·congr 1;funext x;show f (d (c x))=f x;rw [hd]
   rw [e];exact kk
 ·refine fE (fun _=>true) (fun p=>p) (h.mono fun xs ⟨ns,e,hz,h1,h2,kk⟩=>?_) nd np;have en:ns=[]:=by
   cases ns with
   | nil=>rfl
   | cons x r=>exact absurd ⟨x⟩ hα
  subst en;subst e;exact ⟨by simp,fun x hx=>absurd hx (by simp),fun x hx=>absurd hx (by simp),kk⟩
def Ip (h:Wp ss ta fun p=>∃ x,p=.str x/\Wq ss tb fun _ ys=>∃ ns:List Str,ys=ns.map PV.str/\k (.bl (decide (x∈ns)))):Wp ss (BP (GS K false) ta tb) k:=bE h
def ar (h:Wp ss ta fun p=>∃ x,p=.str x/\Wq ss tb fun _ ys=>∃ ns:List Str,ys=ns.map PV.str/\k (.bl (!decide (x∈ns)))):Wp ss (BP (GS K true) ta tb) k:=bE h
def aE (h:Wq ss ta fun tp xs=>∃ ns:List Str,xs=ns.map PV.str/\Wq ss tb fun Be ys=>Be=tp/\∃ ms:List Str,ys=ms.map PV.str/\k (.bl (!decide (ns=ms)))):Wp ss (BP (Sh K true) ta tb) k:=yq h
def SY {β:Type}(c:α->β)(xs:List α)(lo hi:Option Int):EU (xs.map c) lo hi=(EU xs lo hi).map c:=by
 unfold EU;rw [A9,Wy,gK]
def qz (xs:List α)(g:Nat):EU xs none (some (g:Int))=xs.take g:=by
 unfold EU;rw [HT.Z3,HT.Xv,Wj,X5];rcases gR g xs.length with h | h
 ·rw [X4 h]
 ·rw [gS h,Ee,Kc h]
def sj (xs:List α)(g:Nat):EU xs (some (g:Int)) none=xs.drop g:=by
 unfold EU;rw [HT.Z3,HT.Xv];rcases gR g xs.length with h | h
 ·rw [X4 h,Kc (by rw [gG];omega)]
 ·rw [gS h,List.drop_length,List.drop_of_length_le h];simp
variable {ys:List PV}
def Qt (h:Wq ss ta fun tp xs=>tp=false/\∃ ns:List Str,xs=ns.map PV.str/\Wp ss tb fun p=>∃ x,p=.str x/\x∈ns/\k (.int (ns.idxOf x:Nat))):Wp ss (FK K "list" (Xs K) ta (Af tb Az)) k:=⟨fun E σ F H Q S q=>
 h.go E σ F H _ S fun v tp xs F1 H1 m1 sv ⟨et,ns,e,h2⟩=>by
  subst e;subst et;obtain ⟨l,vs,rfl,hl,r⟩:=sv.seq m1.st;refine ⟨.inl ⟨rfl,_,AI.of hl⟩,h2.go E σ F1 H1 _ m1.st fun v2 p2 F2 H2 m2 r2 ⟨x,e2,hx,kk⟩=>?_⟩;subst e2;cases r2;obtain ⟨l',B7,e',DH,r'⟩:=(sv.mv m2).seq m2.st;cases e';rw [r'.strs] at DH;exact ⟨l,ns,x,rfl,rfl,AI.of DH,hx,q _ _ F2 H2 (m1.trans m2) (.int _) kk⟩⟩
def JU (xs:List PV):List PV:=(List.range xs.length).map fun i:Nat=>.tup [.int (i:Int),xs.getD i .A8]
def Oq (xs:List PV):(JU xs).length=xs.length:=by simp [JU]
def aA {x:PV}(h:xs[i]?=some x):(JU xs)[i]?=some (.tup [.int (i:Int),x]):=by
 have hi:i<xs.length:=(List.getElem?_eq_some_iff.mp h).1;unfold JU;rw [AV,ID hi];show some (PV.tup [PV.int (i:Int),xs.getD i PV.A8])=_;rw [DW,h];rfl
def eY {p:PV}(h:(JU xs)[i]?=some p):∃ x,xs[i]?=some x/\p=.tup [.int (i:Int),x]:=by
 have hi:i<xs.length:=by have:=(List.getElem?_eq_some_iff.mp h).1;rwa [Oq] at this
 have e:=AR hi;refine ⟨xs[i],e,?_⟩;rw [aA e] at h;exact (B8 h).symm
def Od {r:List V->Hp->VK->Prop}(hr:r=fun xs H Q=>(∃ i,xs=[.int i]/\Q (.int i) H)∨∃ k,xs=[.bl k]/\Q (.int (if k then 1 else 0)) H)(h:Wp ss te fun p=>∃ b,p=.bl b/\k (.int (if b then 1 else 0))):Wp ss (DL r (Af te Az)) k:=⟨fun E σ F H Q S q=>
 h.go E σ F H _ S fun v p F1 H1 m1 r ⟨b,e,kk⟩=>by
  subst hr;subst e;cases r;exact .inr ⟨b,rfl,q _ _ F1 H1 m1 (.int _) kk⟩⟩
end
def J3 {c A B:Prop}[Decidable c](h:c)(a:A):if c then A else B:=by rw [gq h];exact a
end Fz
namespace L2
def j3 {X:Cx}{tg:Expr}{a b:Expr}{ta:TA}{p pos:Pos}(hg:Gl X "range")(hm:X.mg "range"=none)(ha:QA X [a,b] ta)(hs:starEach [a,b] X.env=[(false,eval a X.env),(false,eval b X.env)]:=by rfl)(CT:starEach [b] X.env=[(false,eval b X.env)]:=by rfl):QI X tg (.Call (.Name "range" p) [a,b] [] pos) (Sj ta):=⟨by
 have ha:=ha.h;intro pins s σ H R I h;refine Call_ (JK I hg hm boot_range (RI (AF (ha pos pins s σ H _ I h) fun us s1 ⟨vs,H1,I1,r1,q1⟩=>?_) (by rw [hs,CT]) (by rw [CT];rfl)));obtain ⟨i,j,e,⟨q1,q2,q3,q4⟩,q⟩:=q1;subst e;cases r1 with
 | cons r rr=>
  cases rr with
  | cons r' rr=>
   cases rr;obtain ⟨t,rfl⟩:=r;obtain ⟨t',rfl⟩:=r';exact call_range_2 (Xa I1 q1 q2 q3 q4 q)⟩
end L2
namespace Fz
open L2 Lw
section
variable [Xw]
variable {E:Ent0}{ss:List Slot}{σ:L2.St}{F H F' H':Hp}{K:ZAy}{js:List Nat}{ta tb tc te:TE}{k:PV->Prop}{nx:List Slot->Prop}{R:Ag}{xs ys:List PV}
def Jt (i:Int)(n:Nat):List PV:=(List.range n).map fun j:Nat=>PV.int (i+(j:Int))
def QX (i:Int)(n:Nat):(Jt i n).length=n:=by simp [Jt]
def gk {i:Int}{n j:Nat}{p:PV}(h:(Jt i n)[j]?=some p):j<n/\p=.int (i+(j:Int)):=by
 have hj:j<n:=by have:=(List.getElem?_eq_some_iff.mp h).1;rwa [QX] at this
 unfold Jt at h;rw [AV,ID hj] at h;exact ⟨hj,(B8 h).symm⟩
def tZ {k:List PV->Prop}(h:Wp ss ta fun p=>∃ i:Int,p=.int i/\Wp ss tb fun p=>∃ j:Int,p=.int j/\(i<=1000000/\-1000000<=i/\j<=1000000/\-1000000<=j)/\k (Jt i (j - i).toNat)):Wi ss (Sj (Af ta (Af tb Az))) k:=⟨fun E σ F H R S q=>
 h.go E σ F H _ S fun v p F1 H1 m1 r ⟨i,e,h2⟩=>by
  subst e;cases r;exact h2.go E σ F1 H1 _ m1.st fun v2 p2 F2 H2 m2 r2 ⟨j,e2,hb,kk⟩=>by
   subst e2;cases r2;refine ⟨i,j,rfl,by omega,q _ (Jt i (j - i).toNat) F2 H2 (m1.trans m2) ⟨fun ss σ F H n s S hn=>?_,fun ss σ F H s S=>?_,fun ss σ F H n x H' s S hn y=>?_⟩ kk⟩
   ·rw [QX] at hn;exact hn
   ·show _<=_;rw [QX];exact Aj _
   ·obtain ⟨e,hx⟩:=y;subst e;subst hx;rw [QX] at hn;refine ⟨.int (i+(n:Int)),F,?_,.refl S,.int _⟩;unfold Jt;rw [AV,ID hn];rfl⟩
theorem aQ:∀ (ps:List PV){vs:List V},FI ss σ F H vs (ps.map Slot.is)->AH F vs ps
 | [],_,h=>by cases h;exact .nil
 | p::ps,_,h=>by
  rw [Ac] at h;cases h with
  | cons a t=>exact .cons a (aQ ps t)
theorem dQ {ss:List Slot}{σ:L2.St}:∀ {ps:List PV}{vs:List V},AH F vs ps->FI ss σ F H vs (ps.map Slot.is)
 | _,_,.nil=>.nil
 | _,_,.cons r t=>.cons (s:=.is _) r (dQ t)
def lX {pre:Pre}{t:TA}{i:Nat}{ns:List Int}(hi:ss[i]?=some (.raw (JF K ns)))(h:Wp ss te fun x=>∃ m,x=.int m/\0<=m/\m<=1000/\Wa ss t fun l=>∃ (ps:List PV) (k':PV->Prop),l=ps.map Slot.is/\pre (.AQ::l) (.is k')/\∀ p,k' p->k p):
  Wp ss (E7 (AN pre) [] E0 (Af (E7 (PR K) [] E0 (Af (B1 i) (Af te Az))) t)) k:=⟨fun E σ F H Q S q=>by
 obtain ⟨v,e,⟨a,ev,hq⟩,st⟩:=S.ok i _ hi;subst ev;refine ⟨_,e,h.go E σ F H _ S fun v x F1 H1 m1 r ⟨m,em,m0,KD,hw⟩=>?_⟩;subst em;cases r;obtain ⟨v',e',HS,_⟩:=m1.st.ok i _ hi;rw [e] at e';cases e';obtain ⟨a',ea,GI⟩:=Q0 K ns _ F1 H1 m1.st.fh HS;cases ea;refine ⟨a,ns,m,rfl,GI,m0,KD,fun p H2 hp s pp=>?_⟩;have m2:=m1.st.grow s;refine hw.go E σ F1 H2 _ m2.st fun vs l F3 H3 m3 av ⟨ps,k',el,IP,kk⟩=>?_;show AN pre ((V.ref p::vs)++[]) H3 Q E0;rw [DV];have Q5:=m1.trans (m2.trans m3);have Q1:∀ (j:Nat) s,ss[j]?=some s->¬ B0 s σ[j]? p:=fun j s hj=>m1.st.Il hj hp;have np:C9 ss σ p:=fun j hj=>Q1 j _ hj;have tR:BN H3 p:=BN.keep pp fun o eo=>m3.hh p o np eo;have qo:F3 p=none:=by
  cases z:F3 p with
  | none=>rfl
  | some o=>
   rcases m3.nn p o z with w | w
   ·rw [m1.st.Bl hp] at w;cases w
   ·obtain ⟨_,_,w2,_⟩:=pp;rw [w] at w2;cases w2
 have S':Sg E (ss++[.AQ]) (σ++[some (.ref p)]) F3 H3:=by
  have S3:=m3.st;have EE:∀ (j:Nat) s,(ss++[Slot.AQ])[j]?=some s->(ss[j]?=some s/\(σ++[some (V.ref p)])[j]?=σ[j]?)∨(s=.AQ/\(σ++[some (V.ref p)])[j]?=some (some (.ref p))/\j=ss.length):=fun j s hj=>by
   by_cases AM:j<ss.length
   ·rw [DF AM] at hj;rw [DF (by rw [<- S3.len];exact AM)];exact .inl ⟨hj,rfl⟩
   ·rw [EJ (by omega)] at hj;have ON:j - ss.length=0:=by
     have:=(List.getElem?_eq_some_iff.mp hj).1
     simpa using this
    rw [ON] at hj;refine .inr ⟨by simpa using hj.symm,?_,by omega⟩
    rw [EJ (by rw [<- S3.len];omega),<- S3.len,ON];rfl
  refine ⟨S3.toFin,by simp [S3.len],fun j s hj=>?_,fun j j2 s u l cL hj K7 ms mu=>?_⟩
  ·rcases EE j s hj with ⟨a1,a2⟩ | ⟨rfl,a2,_⟩
   ·rw [a2];exact S3.ok j s a1
   ·rw [a2];exact ⟨p,rfl,qo,.inl (m1.st.DD hp),tR⟩
  ·rcases EE j s hj with ⟨a1,a2⟩ | ⟨rfl,a2,a3⟩
   ·rcases EE j2 u K7 with ⟨b1,b2⟩ | ⟨rfl,b2,_⟩
    ·rw [a2] at ms;rw [b2] at mu;exact S3.Bd j j2 s u l cL a1 b1 ms mu
    ·rw [a2] at ms;rw [b2] at mu;cases mu;exact Q1 j s a1 ms
   ·rcases EE j2 u K7 with ⟨b1,b2⟩ | ⟨rfl,b2,b3⟩
    ·rw [a2] at ms;cases ms;rw [b2] at mu;exact Q1 j2 u b1 mu
    ·exact absurd (a3.trans b3.symm) cL
 have gy:(ss++[Slot.AQ])[ss.length]?=some .AQ:=by rw [EJ (Aj _)];simp
 have yt:(σ++[some (V.ref p)])[ss.length]?=some (some (.ref p)):=by rw [m3.st.len,EJ (Aj _)];simp
 have tq:FI (ss++[Slot.AQ]) (σ++[some (V.ref p)]) F3 H3 vs l:=by
  subst el;exact dQ (aQ ps av)
 refine ⟨.AQ::l,.is k',F3,[p],IP,S'.U9 gy yt tq,fun v F' H' f ⟨pv,r,kp⟩=>?_⟩;have hA:∀ a,a≠p->a∉[p]:=fun a h z=>h (by simpa using z)
 have mU:H p=none:=m1.none hp;have mv:Mv E ss σ F H F' H':=by
  refine S.step (Q5.ff.trans f.f0) f.fh (fun a o n e=>f.keep a o ⟨hA a (DQ e mU),Aa⟩ (Q5.hh a o n e)) (fun a o e=>?_) fun j l hj ej=>?_
  ·rcases f.fresh a o e with w | w
   ·exact Q5.nn a o w
   ·exact .inr (Q5.none w)
  ·exact BN.keep (m3.st.ET hj ej) fun o eo=>f.keep l o ⟨hA l (by rintro rfl;exact Q1 j _ hj ej),Aa⟩ eo
 exact q v pv F' H' mv r (kk pv kp)⟩
end
end Fz
namespace Fz
open L2 Lw
section
variable [Xw]
variable {E:Ent0}{ss:List Slot}{σ:L2.St}{F H F' H':Hp}{K:ZAy}{js:List Nat}{ta tb tc te:TE}{k:PV->Prop}{nx:List Slot->Prop}{R:Ag}{xs ys:List PV}{P:Program}{w:World}
def k7 (h:Wq ss ta fun tp xs=>tp=false/\Wq ss tb fun Be ys=>Be=false/\ys=[]/\k (.bl (!decide (xs.length=0)))):Wp ss (BP (dG K) ta tb) k:=⟨fun E σ F H Q S q=>
 h.go E σ F H _ S fun v tp xs F1 H1 m1 sv ⟨et,h2⟩=>h2.go E σ F1 H1 _ m1.st fun v2 Be ys F2 H2 m2 MT ⟨Uz,ey,kk⟩=>by
  subst et;subst Uz;subst ey;obtain ⟨l,vs,rfl,hl,r⟩:=(sv.mv m2).seq m2.st;obtain ⟨l2,FE,rfl,DN,r2⟩:=MT.seq m2.st;cases r2;refine ⟨l,l2,vs,rfl,rfl,AI.of hl,AI.of DN,?_⟩;have e:decide (vs=[])=decide (xs.length=0):=by
   rw [<- r.length];cases vs <;> simp
  rw [e];exact q _ _ F2 H2 (m1.trans m2) (.bl _) kk⟩
end
end Fz
namespace Fz
open L2 Lw
variable {E:Ent0}{ss:List Slot}{σ:L2.St}{F F' F0 F1 H H' H0:Hp}{js m p:List Nat}{ta tb tc te ti:TE}{nx:List Slot->Prop}{R:Ag}{ps xs ys:List PV}{n t u:OV}{i j:Nat}{B7 vs ws:List V}{A:Around}{A1 BC:List Value}{v x:V}{Be tp:Bool}{a b:Addr}{q:PV}{tr:TA}{t':TS}{us:List OV}{pre:Pre}
section
variable [Xw]
variable {K:ZAy}{k:PV->Prop}
def ZK {n:Nat}(h:j<n):Fj n (j:Int)=some j:=by
 unfold Fj;simp;omega
theorem AH.set:∀ {xs:List PV}(j:Nat){v:V}{p:PV},AH F vs xs->Rep F v p->AH F (vs.set j v) (xs.set j p):=by
 intro xs
 induction vs generalizing xs with
 | nil=>intro j v p h r;cases h;exact .nil
 | cons a vs ih=>
  intro j v p h r;cases h with
  | cons r1 t=>
   cases j with
   | zero=>exact .cons r t
   | succ j=>exact .cons r1 (ih j t r)
def dF (hi:ss[i]?=some (.own xs))(h:Wp ss te fun p=>Wp ss ti fun q=>∃ j:Nat,q=.int j/\j<xs.length/\nx (ss.set i (.own (xs.set j p)))):Ws ss (DK te (Ve (B1 i) ti Pp)) nx R:=⟨fun E D σ F H S hn hr=>
 h.go E σ F H _ S fun v p F1 H1 m1 rv h2=>by
  obtain ⟨l,vs,e,e1,e2,e3,r⟩:=m1.st.ok i _ hi;refine ⟨_,e,h2.go E σ F1 H1 _ m1.st fun v2 q F2 H2 m2 r2 ⟨j,ej,hj,kk⟩=>?_⟩;subst ej;cases r2;obtain ⟨l',B7,e',Ci,BY,Fi,r'⟩:=m2.st.ok i _ hi;rw [e] at e';cases e';refine ⟨l,B7,_,j,rfl,rfl,Fi,ZK (by rw [r'.length];exact hj),?_⟩;exact hn _ σ F2 _ kk (m2.st.put hi e Ci BY (r'.set j (rv.mono m2.ff))) (m1.ff.trans m2.ff)⟩
end
mutual
def Ao:PV->PV->Bool
 | .lst xs,.lst ys=>Cm xs ys
 | .tup xs,.tup ys=>Cm xs ys
 | .tup xs,.con _ ys=>Cm xs ys
 | .con _ xs,.tup ys=>Cm xs ys
 | .con _ xs,.con _ ys=>Cm xs ys
 | .A8,.A8=>true
 | .bl a,.bl b=>a == b
 | .bl a,.int b=>(if a then 1 else 0) == b
 | .int a,.bl b=>a == (if b then 1 else 0)
 | .int a,.int b=>a == b
 | .str a,.str b=>a == b
 | _,_=>false
def Cm:List PV->List PV->Bool
 | [],[]=>true
 | x::r,y::t=>Ao x y && Cm r t
 | _,_=>false
end
def QB (x y:PV)(r t:List PV):Cm (x::r) (y::t)=(Ao x y && Cm r t):=by rw [Cm]
theorem W5:∀ (xs ys:List PV),xs.length≠ys.length->Cm xs ys=false
 | [],[],h=>absurd rfl h
 | [],_::_,_=>by rw [Cm];all_goals simp
 | _::_,[],_=>by rw [Cm];all_goals simp
 | x::r,y::t,h=>by rw [QB,W5 r t (by simpa using h),WY]
theorem SR:∀ (xs ys:List PV),xs.length=ys.length->Cm xs ys=(List.range xs.length).all fun j=>Ao (xs.getD j .A8) (ys.getD j .A8)
 | [],[],_=>by rw [Cm];rfl
 | x::r,y::t,h=>by
  rw [QB,SR r t (by simpa using h),Bu,List.range_succ_eq_map,OB,List.all_map]
  rfl
def dat (K:ZAy):Nat->PV->Prop
 | _,.A8=>True
 | _,.bl _=>True
 | _,.int _=>True
 | _,.str _=>True
 | d+1,.lst xs=>∀ x∈xs,dat K d x
 | d+1,.tup xs=>∀ x∈xs,dat K d x
 | d+1,.con a xs=>(∀ x∈xs,dat K d x)/\xs.all flat=true/\∀ H,An K H a (xs.map Fz.enc)
 | _,_=>False
inductive FU (K:ZAy) (H:Hp):V->PV->Bool->Addr->List V->List PV->Prop where
 | lst {a:Addr}{vs:List V}{xs:List PV}:AI K H a vs->AH H vs xs->FU K H (.ref a) (.lst xs) false a vs xs
 | tup {a:Addr}{vs:List V}{xs:List PV}:An K H a vs->AH H vs xs->FU K H (.ref a) (.tup xs) true a vs xs
 | con {a:Addr}{vs:List V}{xs:List PV}:An K H a vs->AH H vs xs->FU K H (.ref a) (.con a xs) true a vs xs
def Eu {K:ZAy}:∀ {d:Nat}{x:V}{p:PV},dat K d p->Rep H x p->(flat p=true/\x=Fz.enc p)∨∃ d' tp a vs xs,d=d'+1/\FU K H x p tp a vs xs/\∀ y∈xs,dat K d' y:=by
 intro d x p h r;cases r with
 | A8=>exact .inl ⟨rfl,rfl⟩
 | bl b=>exact .inl ⟨rfl,rfl⟩
 | int b=>exact .inl ⟨rfl,rfl⟩
 | str b=>exact .inl ⟨rfl,rfl⟩
 | lst e r=>cases d with
  | zero=>exact h.elim
  | succ d=>exact .inr ⟨d,_,_,_,_,rfl,.lst (AI.of e) r,h⟩
 | tup e r=>cases d with
  | zero=>exact h.elim
  | succ d=>exact .inr ⟨d,_,_,_,_,rfl,.tup (An.of e) r,h⟩
 | con=>cases d with
  | zero=>exact h.elim
  | succ d=>obtain ⟨h1,h2,h3⟩:=h;exact .inr ⟨d,_,_,_,_,rfl,.con (h3 H) (Ro h2),h1⟩
 | Ah _ _ _=>cases d <;> exact h.elim
 | obj _ _ _ _=>cases d <;> exact h.elim
 | QQ _=>cases d <;> exact h.elim
 | exc _ _ _ _=>cases d <;> exact h.elim
section
variable {X:Cx}{pins:ZAz}{s:Shared}
def yw (r1:Vals vs A1)(r2:Vals ws BC)(q1:AH H vs xs)(q2:AH H ws ys)
  (h:∀ (x y:V) (p q:PV) (u v:Value),p∈xs->q∈ys->Rep H x p->Rep H y q->RelV x u->RelV y v->SeqAt.EqAt A s u v (Ao p q)) :
  ∀ j (h1:j<A1.toArray.size) (h2:j<BC.toArray.size),SeqAt.EqAt A s A1.toArray[j] BC.toArray[j] ((fun j=>Ao (xs.getD j .A8) (ys.getD j .A8)) j):=fun j h1 h2=>by
 have l1:=r1.length;have l2:=r2.length;have l3:=q1.length;have l4:=q2.length;have Co:j<A1.length:=by simpa using h1
 have DR:j<BC.length:=by simpa using h2
 have a1:j<xs.length:=by omega
 have a2:j<ys.length:=by omega
 obtain ⟨x,hx,rx⟩:=q1.get (i:=j) (p:=xs[j]) (AR a1);obtain ⟨y,hy,ry⟩:=q2.get (i:=j) (p:=ys[j]) (AR a2);obtain ⟨u,hu,ru⟩:=r1.get hx;obtain ⟨v,hv,rv⟩:=r2.get hy;rw [AR Co] at hu;rw [AR DR] at hv;have FH:A1[j]=u:=B8 hu;have Hq:BC[j]=v:=B8 hv;have q:=h x y _ _ u v (Fq a1) (Fq a2) rx ry ru rv;rw [<- FH,<- Hq] at q;show SeqAt.EqAt A s _ _ (Ao (xs.getD j .A8) (ys.getD j .A8));rw [DW,AR a1,DW,AR a2]
 simpa using q
def Pq {p:PV}(h:FU X.K H x p tp a vs xs)(f:flat q=true):Ao p q=false/\Ao q p=false:=by
 cases h <;> cases q <;> first | (cases f;done) | exact ⟨by rw [Ao] <;> simp,by rw [Ao] <;> simp⟩
def WN {p:PV}{y:V}(h:FU X.K H x p tp a vs xs)(h2:FU X.K H y q Be b ws ys):Ao p q=(if tp=Be then Cm xs ys else false):=by
 cases h <;> cases h2 <;> first | (rw [gq rfl,Ao];done) | (rw [gg (by decide),Ao] <;> simp)
def Qv {p:PV}(h:flat p=true)(h2:flat q=true):Ao p q=DM (Fz.enc p) (Fz.enc q):=by
 cases p <;> cases q <;> first | (cases h;done) | (cases h2;done) | (rw [Ao] <;> first | rfl | simp [Fz.enc,DM];done)
def qu {p:PV}{u v:Value}(h:flat p=true)(h2:flat q=true)(ru:RelV (Fz.enc p) u)(rv:RelV (Fz.enc q) v):SeqAt.RcAt A s u v (Ao p q)/\SeqAt.RcNeAt A s u v (!Ao p q):=by
 cases p <;> first | (cases h;done) | skip
 all_goals cases q <;> first | (cases h2;done) | skip
 all_goals simp only [Fz.enc,L2.RelV] at ru rv
 ·subst ru;subst rv;rw [Ao];exact ⟨.none_none,.none_none⟩
 ·subst ru;subst rv;rw [Ao] <;> first | exact ⟨.none_bool _,.none_bool _⟩ | simp
 ·subst ru;obtain ⟨t,rfl⟩:=rv;rw [Ao] <;> first | exact ⟨.none_int _ _,.none_int _ _⟩ | simp
 ·subst ru;obtain ⟨t,rfl⟩:=rv;rw [Ao] <;> first | exact ⟨.none_str _ _,.none_str _ _⟩ | simp
 ·subst ru;subst rv;rw [Ao] <;> first | exact ⟨.bool_none _,.bool_none _⟩ | simp
 ·subst ru;subst rv;rw [Ao];exact ⟨.bool_bool _ _,.bool_bool _ _⟩
 ·subst ru;obtain ⟨t,rfl⟩:=rv;rw [Ao];exact ⟨.bool_int _ _ _,.bool_int _ _ _⟩
 ·subst ru;obtain ⟨t,rfl⟩:=rv;rw [Ao] <;> first | exact ⟨.bool_str _ _ _,.bool_str _ _ _⟩ | simp
 ·obtain ⟨t,rfl⟩:=ru;subst rv;rw [Ao] <;> first | exact ⟨.int_none _ _,.int_none _ _⟩ | simp
 ·obtain ⟨t,rfl⟩:=ru;subst rv;rw [Ao];exact ⟨.int_bool _ _ _,.int_bool _ _ _⟩
 ·obtain ⟨t,rfl⟩:=ru;obtain ⟨t2,rfl⟩:=rv;rw [Ao];exact ⟨.int_int _ _ _ _,.int_int _ _ _ _⟩
 ·obtain ⟨t,rfl⟩:=ru;obtain ⟨t2,rfl⟩:=rv;rw [Ao] <;> first | exact ⟨.int_str _ _ _ _,.int_str _ _ _ _⟩ | simp
 ·obtain ⟨t,rfl⟩:=ru;subst rv;rw [Ao] <;> first | exact ⟨.str_none _ _,.str_none _ _⟩ | simp
 ·obtain ⟨t,rfl⟩:=ru;subst rv;rw [Ao] <;> first | exact ⟨.str_bool _ _ _,.str_bool _ _ _⟩ | simp
 ·obtain ⟨t,rfl⟩:=ru;obtain ⟨t2,rfl⟩:=rv;rw [Ao] <;> first | exact ⟨.str_int _ _ _ _,.str_int _ _ _ _⟩ | simp
 ·obtain ⟨t,rfl⟩:=ru;obtain ⟨t2,rfl⟩:=rv;rw [Ao];exact ⟨.str_str _ _ _ _,.str_str _ _ _ _⟩
def QU (h:Heap)(tp:Bool)(a:Addr)(A1:Array Value):Prop:=if tp then IsTup h a A1 else h.IsList a A1
def FU.FV (I:Inv X pins σ H s){p:PV}(h:FU X.K H x p tp a vs xs):∃ A1:List Value,x=.ref a/\Vals vs A1/\QU s.heap tp a A1.toArray/\AH H vs xs:=by
 cases h with
 | lst h r=>obtain ⟨A1,r1,p1,_⟩:=I.list h;exact ⟨A1,rfl,r1,p1.isList,r⟩
 | tup h r=>obtain ⟨A1,r1,p1,_⟩:=I.tuple h;exact ⟨A1,rfl,r1,p1,r⟩
 | con h r=>obtain ⟨A1,r1,p1,_⟩:=I.tuple h;exact ⟨A1,rfl,r1,p1,r⟩
def Qf {A1:Array Value}{v:Value}(h:QU s.heap tp a A1)(f:flat q=true)(rv:RelV (Fz.enc q) v)(hu:A.units<cLine):
  (SeqAt.EqAt A s (.ref a) v false/\SeqAt.EqAt A s v (.ref a) false)/\(SeqAt.RcAt A s (.ref a) v false/\SeqAt.RcAt A s v (.ref a) false)/\(SeqAt.RcNeAt A s (.ref a) v true/\SeqAt.RcNeAt A s v (.ref a) true):=by
 cases tp with
 | false=>
  have h':s.heap.IsList a A1:=h;cases q <;> first | (cases f;done) | skip
  all_goals simp only [Fz.enc,L2.RelV] at rv
  ·subst rv;exact ⟨⟨.list_none h' hu,.none_list h' hu⟩,⟨.list_none h' hu,.none_list h' hu⟩,⟨.list_none h' hu,.none_list h' hu⟩⟩
  ·subst rv;exact ⟨⟨.list_bool _ h' hu,.bool_list _ h' hu⟩,⟨.list_bool _ h' hu,.bool_list _ h' hu⟩,⟨.list_bool _ h' hu,.bool_list _ h' hu⟩⟩
  ·obtain ⟨t,rfl⟩:=rv;exact ⟨⟨.list_int _ _ h' hu,.int_list _ _ h' hu⟩,⟨.list_int _ _ h' hu,.int_list _ _ h' hu⟩,⟨.list_int _ _ h' hu,.int_list _ _ h' hu⟩⟩
  ·obtain ⟨t,rfl⟩:=rv;exact ⟨⟨.list_str _ _ h' hu,.str_list _ _ h' hu⟩,⟨.list_str _ _ h' hu,.str_list _ _ h' hu⟩,⟨.list_str _ _ h' hu,.str_list _ _ h' hu⟩⟩
 | true=>
  have h':IsTup s.heap a A1:=h;cases q <;> first | (cases f;done) | skip
  all_goals simp only [Fz.enc,L2.RelV] at rv
  ·subst rv;exact ⟨⟨.tuple_none h' hu,.none_tuple h' hu⟩,⟨.tuple_none h' hu,.none_tuple h' hu⟩,⟨.tuple_none h' hu,.none_tuple h' hu⟩⟩
  ·subst rv;exact ⟨⟨.tuple_bool _ h' hu,.bool_tuple _ h' hu⟩,⟨.tuple_bool _ h' hu,.bool_tuple _ h' hu⟩,⟨.tuple_bool _ h' hu,.bool_tuple _ h' hu⟩⟩
  ·obtain ⟨t,rfl⟩:=rv;exact ⟨⟨.tuple_int _ _ h' hu,.int_tuple _ _ h' hu⟩,⟨.tuple_int _ _ h' hu,.int_tuple _ _ h' hu⟩,⟨.tuple_int _ _ h' hu,.int_tuple _ _ h' hu⟩⟩
  ·obtain ⟨t,rfl⟩:=rv;exact ⟨⟨.tuple_str _ _ h' hu,.str_tuple _ _ h' hu⟩,⟨.tuple_str _ _ h' hu,.str_tuple _ _ h' hu⟩,⟨.tuple_str _ _ h' hu,.str_tuple _ _ h' hu⟩⟩
def FU.inj (I:Inv X pins σ H s){x y:V}{p q:PV}{tp Be:Bool}{a:Addr}{vs ws:List V}{xs ys:List PV}(h:FU X.K H x p tp a vs xs)(h2:FU X.K H y q Be a ws ys):tp=Be/\vs=ws:=by
 have no:∀ {vs ws:List V},AI X.K H a vs->An X.K H a ws->False:=fun {vs ws} h1 h2=>by
  obtain ⟨A1,_,p1,_⟩:=I.list h1;obtain ⟨BC,_,p2,_⟩:=I.tuple h2;obtain ⟨o,n,e,c,_⟩:=p1;obtain ⟨o2,e2,c2,_⟩:=p2;rw [e] at e2;cases e2;rw [c] at c2;exact absurd c2 (by decide)
 cases h with
 | lst h r=>cases h2 with
  | lst h2 _=>exact ⟨rfl,I.cX h h2⟩
  | tup h2 _=>exact (no h h2).elim
  | con h2 _=>exact (no h h2).elim
 | tup h r=>cases h2 with
  | lst h2 _=>exact (no h2 h).elim
  | tup h2 _=>exact ⟨rfl,I.MQ h h2⟩
  | con h2 _=>exact ⟨rfl,I.MQ h h2⟩
 | con h r=>cases h2 with
  | lst h2 _=>exact (no h2 h).elim
  | tup h2 _=>exact ⟨rfl,I.MQ h h2⟩
  | con h2 _=>exact ⟨rfl,I.MQ h h2⟩
def ed {p:PV}(h:flat p=true):DM (Fz.enc p) (Fz.enc p)=true:=by cases p <;> first | (cases h;done) | simp [Fz.enc,DM]
theorem Yd (ih:∀ (x:V) (p q:PV),Rep H x p->Rep H x q->dat X.K d p->dat X.K d q->Ao p q=true):∀ {vs:List V}{xs ys:List PV},AH H vs xs->AH H vs ys->(∀ x∈xs,dat X.K d x)->(∀ y∈ys,dat X.K d y)->Cm xs ys=true
 | _,_,_,.nil,.nil,_,_=>by rw [Cm]
 | _,_,_,.cons r1 t1,.cons r2 t2,h1,h2=>by
  rw [QB,ih _ _ _ r1 r2 (h1 _ (by simp)) (h2 _ (by simp)),Yd ih t1 t2 (fun x hx=>h1 x (by simp [hx])) (fun x hx=>h2 x (by simp [hx]))];rfl
def mI (I:Inv X pins σ H s):∀ (d:Nat) (x:V) (p q:PV),Rep H x p->Rep H x q->dat X.K d p->dat X.K d q->Ao p q=true:=fun d=>by
 induction d with
 | zero=>
  intro x p q r1 r2 h1 h2;rcases Eu h1 r1 with ⟨f1,e1⟩ | ⟨d',_,_,_,_,e,_⟩
  ·rcases Eu h2 r2 with ⟨f2,e2⟩ | ⟨d',_,_,_,_,e,_⟩
   ·rw [Qv f1 f2,<- e1,e2];exact ed f2
   ·cases e
  ·cases e
 | succ d ih=>
  intro x p q r1 r2 h1 h2;rcases Eu h1 r1 with ⟨f1,e1⟩ | ⟨d1,tp,a,vs,xs,e,q1,k1⟩
  ·rcases Eu h2 r2 with ⟨f2,e2⟩ | ⟨d2,Be,b,ws,ys,e,q2,k2⟩
   ·rw [Qv f1 f2,<- e1,e2];exact ed f2
   ·obtain ⟨_,ex,_⟩:=q2.FV I;subst ex;cases p <;> first | (cases f1;done) | (cases e1;done)
  ·cases e;rcases Eu h2 r2 with ⟨f2,e2⟩ | ⟨d2,Be,b,ws,ys,e,q2,k2⟩
   ·obtain ⟨_,ex,_⟩:=q1.FV I;subst ex;cases q <;> first | (cases f2;done) | (cases e2;done)
   ·cases e;obtain ⟨_,ex,_,_,r3⟩:=q1.FV I;obtain ⟨_,ey,_,_,r4⟩:=q2.FV I;rw [ex] at ey;cases ey;obtain ⟨et,ev⟩:=q1.inj I q2;subst ev;rw [WN q1 q2,gq et];exact Yd ih r3 r4 k1 k2
def tS (r1:Vals vs A1)(r2:Vals ws BC)(q1:AH H vs xs)(q2:AH H ws ys):A1.toArray.size=xs.length/\BC.toArray.size=ys.length:=by
 have l1:=r1.length;have l2:=r2.length;have l3:=q1.length;have l4:=q2.length;simp only [BV];omega
def cO (h1:QU s.heap tp a A1.toArray)(h2:QU s.heap Be b BC.toArray)(r1:Vals vs A1)(r2:Vals ws BC)(q1:AH H vs xs)(q2:AH H ws ys)(hu:A.units<cLine)
  (h:∀ (x y:V) (p q:PV) (u v:Value),p∈xs->q∈ys->Rep H x p->Rep H y q->RelV x u->RelV y v->SeqAt.EqAt A.in1 s u v (Ao p q)) :
  SeqAt.RcAt A s (.ref a) (.ref b) (if tp=Be then Cm xs ys else false)/\SeqAt.RcNeAt A s (.ref a) (.ref b) (!(if tp=Be then Cm xs ys else false)):=by
 obtain ⟨z1,z2⟩:=tS r1 r2 q1 q2;have it:=yw (A:=A.in1) r1 r2 q1 q2 h;cases tp with
 | false=>cases Be with
  | false=>
   rw [gq rfl];have Co:s.heap.IsList a A1.toArray:=h1;have DR:s.heap.IsList b BC.toArray:=h2
   by_cases hl:xs.length=ys.length
   ·rw [SR xs ys hl,<- z1];exact ⟨.lists Co DR (by omega) hu it,.lists Co DR (by omega) hu it⟩
   ·rw [W5 xs ys hl];have As:(A1.toArray.size != BC.toArray.size)=true:=by simp only [bne_iff_ne,ne_eq];omega
    exact ⟨.lists_lengths Co DR As hu,.lists_lengths Co DR As hu⟩
  | true=>rw [gg (by decide)];exact ⟨.list_tuple h1 h2 hu,.list_tuple h1 h2 hu⟩
 | true=>cases Be with
  | false=>rw [gg (by decide)];exact ⟨.tuple_list h1 h2 hu,.tuple_list h1 h2 hu⟩
  | true=>
   rw [gq rfl];have Co:IsTup s.heap a A1.toArray:=h1;have DR:IsTup s.heap b BC.toArray:=h2;have e:((List.range (min A1.toArray.size BC.toArray.size)).all (fun j=>Ao (xs.getD j .A8) (ys.getD j .A8)) && A1.toArray.size == BC.toArray.size)=Cm xs ys:=by
    by_cases hl:xs.length=ys.length
    ·rw [SR xs ys hl,z1,z2,<- hl,Nat.min_self,jw,Bool.and_true]
    ·rw [W5 xs ys hl,z1,z2,show (xs.length == ys.length)=false from by simpa using hl,WY]
   have k1:=SeqAt.RcAt.tuples (A:=A) (e:=fun j=>Ao (xs.getD j .A8) (ys.getD j .A8)) Co DR hu it;have k2:=SeqAt.RcNeAt.tuples (A:=A) (e:=fun j=>Ao (xs.getD j .A8) (ys.getD j .A8)) Co DR hu it;rw [e] at k1 k2;exact ⟨k1,k2⟩
def qw (I:Inv X pins σ H s):∀ (d:Nat) (x y:V) (p q:PV),Rep H x p->Rep H y q->dat X.K d p->dat X.K d q->∀ (A:Around) (u v:Value),RelV x u->RelV y v->A.units+d<cLine->SeqAt.EqAt A s u v (Ao p q):=fun d=>by
 induction d with
 | zero=>
  intro x y p q r1 r2 h1 h2 A u v ru rv hu;rcases Eu h1 r1 with ⟨f1,e1⟩ | ⟨_,_,_,_,_,e,_⟩
  ·rcases Eu h2 r2 with ⟨f2,e2⟩ | ⟨_,_,_,_,_,e,_⟩
   ·subst e1;subst e2;rw [Qv f1 f2];exact R4 ru rv (P7 f1) (P7 f2)
   ·cases e
  ·cases e
 | succ d ih=>
  intro x y p q r1 r2 h1 h2 A u v ru rv hu;rcases Eu h1 r1 with ⟨f1,e1⟩ | ⟨d1,tp,a,vs,xs,e,q1,k1⟩
  ·rcases Eu h2 r2 with ⟨f2,e2⟩ | ⟨d2,Be,b,ws,ys,e,q2,k2⟩
   ·subst e1;subst e2;rw [Qv f1 f2];exact R4 ru rv (P7 f1) (P7 f2)
   ·obtain ⟨A1,ey,_,j,_⟩:=q2.FV I;subst e1;subst ey;cases (show v=Value.ref b from rv);rw [(Pq q2 f1).2];exact (Qf j f1 ru (by omega)).1.2
  ·cases e;rcases Eu h2 r2 with ⟨f2,e2⟩ | ⟨d2,Be,b,ws,ys,e,q2,k2⟩
   ·obtain ⟨A1,ex,_,j,_⟩:=q1.FV I;subst e2;subst ex;cases (show u=Value.ref a from ru);rw [(Pq q1 f2).1];exact (Qf j f2 rv (by omega)).1.1
   ·cases e;obtain ⟨A1,ex,v1,j1,w1⟩:=q1.FV I;obtain ⟨BC,ey,v2,j2,w2⟩:=q2.FV I;subst ex;subst ey;cases (show u=Value.ref a from ru);cases (show v=Value.ref b from rv)
    by_cases Hc:a=b
    ·subst Hc;rw [mI I (d+1) _ p q r1 r2 h1 h2];exact .same _
    ·rw [WN q1 q2];refine SeqAt.EqAt.of_refs Hc (cO j1 j2 v1 v2 w1 w2 (by omega) fun x y p q u v hp hq r1 r2 ru rv=>?_).1;exact ih x y p q r1 r2 (k1 p hp) (k2 q hq) A.in1 u v ru rv (by show A.units+1+d<cLine;omega)
def nM (I:Inv X pins σ H s)(d:Nat)(x y:V)(p q:PV)(r1:Rep H x p)(r2:Rep H y q)(h1:dat X.K d p)(h2:dat X.K d q)(A:Around)(u v:Value)(ru:RelV x u)(rv:RelV y v)(hu:A.units+d<cLine):SeqAt.RcAt A s u v (Ao p q)/\SeqAt.RcNeAt A s u v (!Ao p q):=by
 rcases Eu h1 r1 with ⟨f1,e1⟩ | ⟨d1,tp,a,vs,xs,e,q1,k1⟩
 ·rcases Eu h2 r2 with ⟨f2,e2⟩ | ⟨d2,Be,b,ws,ys,e,q2,k2⟩
  ·subst e1;subst e2;exact qu f1 f2 ru rv
  ·obtain ⟨A1,ey,_,j,_⟩:=q2.FV I;subst e1;subst ey;cases (show v=Value.ref b from rv);rw [(Pq q2 f1).2];have z:=Qf (A:=A) j f1 ru (by omega);exact ⟨z.2.1.2,z.2.2.2⟩
 ·rcases Eu h2 r2 with ⟨f2,e2⟩ | ⟨d2,Be,b,ws,ys,e2,q2,k2⟩
  ·obtain ⟨A1,ex,_,j,_⟩:=q1.FV I;subst e2;subst ex;cases (show u=Value.ref a from ru);rw [(Pq q1 f2).1];have z:=Qf (A:=A) j f2 rv (by omega);exact ⟨z.2.1.1,z.2.2.1⟩
  ·subst e;cases e2;obtain ⟨A1,ex,v1,j1,w1⟩:=q1.FV I;obtain ⟨BC,ey,v2,j2,w2⟩:=q2.FV I;subst ex;subst ey;cases (show u=Value.ref a from ru);cases (show v=Value.ref b from rv);rw [WN q1 q2];exact cO j1 j2 v1 v2 w1 w2 (by omega) fun x y p q u v hp hq r1 r2 ru rv=>qw I d1 x y p q r1 r2 (k1 p hp) (k2 q hq) A.in1 u v ru rv (by show A.units+1+d1<cLine;omega)
def fS (K:ZAy)(neg:Bool):R2:=fun x y H Q=>∃ p q,Rep H x p/\Rep H y q/\dat K 40 p/\dat K 40 q/\Q (.bl (if neg then !Ao p q else Ao p q)) H
def oG (hu:X.A.units+64<cLine):B2 X (compareOp .NotEq) (fS X.K true):=by
 intro pins s σ H x y v u Q I rx ry h;obtain ⟨p,q,r1,r2,d1,d2,hQ⟩:=h;exact (nM I 40 x y p q r1 r2 d1 d2 X.A _ _ rx ry (by omega)).2 _ _ _ _ ⟨.bl (!Ao p q),H,I,rfl,hQ⟩
end
section
variable [Xw]
variable {K:ZAy}{k:PV->Prop}
def Zi (h:Wp ss ta fun p=>Wp ss tb fun q=>dat K 40 p/\dat K 40 q/\k (.bl (!Ao p q))):Wp ss (BP (fS K true) ta tb) k:=⟨fun E σ F H Q S q=>
 h.go E σ F H _ S fun v p F1 H1 m1 r1 h2=>h2.go E σ F1 H1 _ m1.st fun v2 p2 F2 H2 m2 r2 ⟨d1,d2,kk⟩=>
  ⟨p,p2,(r1.mono m2.ff).mono m2.st.fh,r2.mono m2.st.fh,d1,d2,q _ _ F2 H2 (m1.trans m2) (.bl _) kk⟩⟩
end
def OV.at:OV->List Nat->Option OV
 | t,[]=>some t
 | .nd _ _ xs,j::p=>(xs[j]?).bind fun x=>x.at p
 | .tp xs,j::p=>(xs[j]?).bind fun x=>x.at p
 | .fz _,_::_=>none
termination_by _ p=>p.length
def OV.put:OV->List Nat->OV->OV
 | _,[],n=>n
 | .nd k a xs,j::p,n=>match xs[j]? with
  | some x=>.nd k a (xs.set j (x.put p n))
  | none=>.nd k a xs
 | .tp xs,j::p,n=>match xs[j]? with
  | some x=>.tp (xs.set j (x.put p n))
  | none=>.tp xs
 | .fz p,_::_,_=>.fz p
termination_by _ p=>p.length
def OV.Iu:t.at []=some t:=by rw [OV.at]
def OV.Kt {k:NK}{xs:List OV}:(OV.nd k a xs).at (j::p)=(xs[j]?).bind fun x=>x.at p:=by rw [OV.at]
def OV.Nf {xs:List OV}:(OV.tp xs).at (j::p)=(xs[j]?).bind fun x=>x.at p:=by rw [OV.at]
def OV.Gq:t.put [] n=n:=by rw [OV.put]
def OV.Jx {k:NK}{xs:List OV}{x:OV}(h:xs[j]?=some x):(OV.nd k a xs).put (j::p) n=.nd k a (xs.set j (x.put p n)):=by rw [OV.put,h]
def OV.Ml {xs:List OV}{x:OV}(h:xs[j]?=some x):(OV.tp xs).put (j::p) n=.tp (xs.set j (x.put p n)):=by rw [OV.put,h]
theorem OV.Ue {u w:OV}:∀ {p:List Nat}{t:OV}{j:Nat},t.at p=some u->u.at [j]=some w->t.at (p++[j])=some w
 | [],t,j,h,h2=>by rw [OV.Iu] at h;cases h;exact h2
 | i::p,.nd k a xs,j,h,h2=>by
  rw [OV.Kt] at h;rw [Wh,OV.Kt];cases e:xs[i]? with
  | none=>rw [e] at h;cases h
  | some x=>rw [e] at h;exact OV.Ue (t:=x) h h2
 | i::p,.tp xs,j,h,h2=>by
  rw [OV.Nf] at h;rw [Wh,OV.Nf];cases e:xs[i]? with
  | none=>rw [e] at h;cases h
  | some x=>rw [e] at h;exact OV.Ue (t:=x) h h2
 | i::p,.fz q,j,h,h2=>by rw [OV.at] at h;cases h
theorem Ii:∀ {xs:List OV}{j:Nat}{x:OV},xs[j]?=some x->∃ l r,OV.AX xs=l++x.addrs++r/\∀ y:OV,OV.AX (xs.set j y)=l++y.addrs++r
 | x::xs,0,z,h=>by
  simp at h;subst h;exact ⟨[],OV.AX xs,by rw [OV.D9];rfl,fun y=>by rw [X1,OV.D9];rfl⟩
 | x::xs,j+1,z,h=>by
  obtain ⟨l,r,e1,e2⟩:=Ii (xs:=xs) (j:=j) (x:=z) (by simpa using h)
  refine ⟨x.addrs++l,r,by rw [OV.D9,e1];simp [Ce],fun y=>by rw [RE,OV.D9,e2];simp [Ce]⟩
theorem OV.split {u:OV}:∀ {p:List Nat}{t:OV},t.at p=some u->∃ l r,t.addrs=l++u.addrs++r/\∀ n:OV,(t.put p n).addrs=l++n.addrs++r
 | [],t,h=>by rw [OV.Iu] at h;cases h;exact ⟨[],[],by simp,fun n=>by rw [OV.Gq];simp⟩
 | j::p,.nd k a xs,h=>by
  rw [OV.Kt] at h;cases e:xs[j]? with
  | none=>rw [e] at h;cases h
  | some x=>
   rw [e] at h;obtain ⟨l,r,e1,e2⟩:=Ii e;obtain ⟨l2,r2,f1,f2⟩:=OV.split (t:=x) h;refine ⟨a::(k.more++(l++l2)),r2++r,by rw [OV.Cg,e1,f1];simp [Ce],fun n=>by rw [OV.Jx e,OV.Cg,e2,f2];simp [Ce]⟩
 | j::p,.tp xs,h=>by
  rw [OV.Nf] at h;cases e:xs[j]? with
  | none=>rw [e] at h;cases h
  | some x=>
   rw [e] at h;obtain ⟨l,r,e1,e2⟩:=Ii e;obtain ⟨l2,r2,f1,f2⟩:=OV.split (t:=x) h;refine ⟨l++l2,r2++r,by rw [OV.Fg,e1,f1];simp [Ce],fun n=>by rw [OV.Ml e,OV.Fg,e2,f2];simp [Ce]⟩
 | j::p,.fz q,h=>by rw [OV.at] at h;cases h
theorem Ak.get {F H:Hp}:∀ {vs:List V}{ts:List OV}{j:Nat}{t:OV},Ak F H vs ts->ts[j]?=some t->∃ v,vs[j]?=some v/\Am F H v t
 | _,_,_,_,.nil,e=>by simp at e
 | _,_,0,_,.cons r _,e=>by simp at e;subst e;exact ⟨_,rfl,r⟩
 | _,_,j+1,t,.cons _ q,e=>by
  obtain ⟨u,h1,h2⟩:=Ak.get (j:=j) (t:=t) q (by simpa using e)
  exact ⟨u,by simpa using h1,h2⟩
theorem Ak.append {F H:Hp}:∀ {vs ws:List V}{xs ys:List OV},Ak F H vs xs->Ak F H ws ys->Ak F H (vs++ws) (xs++ys)
 | _,_,_,_,.nil,s=>s
 | _,_,_,_,.cons r t,s=>.cons r (Ak.append t s)
def Ak.one (r:Am F H v t):Ak F H [v] [t]:=.cons r .nil
theorem OL {F H:Hp}:∀ {vs:List V}{xs:List PV},AH F vs xs->Ak F H vs (xs.map .fz)
 | _,_,.nil=>.nil
 | _,_,.cons r t=>.cons (.fz r) (OL t)
theorem Ak.aV {F H:Hp}:∀ {vs:List V}{xs:List PV},Ak F H vs (xs.map .fz)->AH F vs xs
 | _,[],.nil=>.nil
 | _,_::_,.cons (.fz r) t=>.cons r (Ak.aV t)
theorem WA:∀ (xs:List PV),OV.AX (xs.map .fz)=[]
 | []=>by rw [Ek,OV.AX]
 | x::r=>by rw [Ac,OV.D9,OV.NA,WA r];rfl
theorem Ak.set {F H:Hp}:∀ {vs:List V}{xs:List OV}(j:Nat){v:V}{t:OV},Ak F H vs xs->Am F H v t->Ak F H (vs.set j v) (xs.set j t)
 | _,_,_,_,_,.nil,_=>.nil
 | _,_,0,_,_,.cons _ t,r=>.cons r t
 | _,_,j+1,_,_,.cons q t,r=>.cons q (Ak.set j t r)
theorem Ak.swap {F H H':Hp}{y:OV}:∀ {vs:List V}{xs:List OV}{j:Nat}{x:OV}{v:V},Ak F H vs xs->xs[j]?=some x->vs[j]?=some v->(∀ l r,OV.AX xs=l++x.addrs++r->(∀ z:OV,OV.AX (xs.set j z)=l++z.addrs++r)->∀ b∈l++r,∀ o,H b=some o->H' b=some o)->Am F H' v y->Ak F H' vs (xs.set j y)
 | _,x::xs,0,z,w,.cons r t,h,hv,hk,ry=>by
  simp at h hv;subst h;subst hv;rw [X1];have e:∀ z:OV,OV.AX ((x::xs).set 0 z)=[]++z.addrs++OV.AX xs:=fun z=>by rw [X1,OV.D9];rfl
  exact .cons ry (t.mono (AJ.refl _) fun b hb o=>hk [] (OV.AX xs) (by rw [OV.D9];rfl) e b (by simpa using hb) o)
 | _,x::xs,j+1,z,w,.cons r t,h,hv,hk,ry=>by
  rw [RE];have h':xs[j]?=some z:=by simpa using h
  obtain ⟨l,q,e1,e2⟩:=Ii h';refine .cons (r.mono (AJ.refl _) fun b hb o=>hk (x.addrs++l) q (by rw [OV.D9,e1];simp [Ce]) (fun z=>by rw [RE,OV.D9,e2];simp [Ce]) b (by simp [hb]) o) (Ak.swap (v:=w) t h' (by simpa using hv) (fun l' r' Ci BY b hb o=>hk (x.addrs++l') r' (by rw [OV.D9,Ci];simp [Ce]) (fun z=>by rw [RE,OV.D9,BY];simp [Ce]) b (by rcases List.mem_append.mp hb with hz | hz <;> simp [hz]) o) ry)
theorem Am.at {F H:Hp}{u:OV}:∀ {p:List Nat}{t:OV}{v:V},Am F H v t->t.at p=some u->∃ w,Am F H w u/\∀ (H':Hp) (n:OV),Am F H' w n->(∀ l r,t.addrs=l++u.addrs++r->(∀ n:OV,(t.put p n).addrs=l++n.addrs++r)->∀ b∈l++r,∀ o,H b=some o->H' b=some o)->Am F H' v (t.put p n)
 | [],t,v,h,e=>by rw [OV.Iu] at e;cases e;exact ⟨v,h,fun H' n r _=>by rw [OV.Gq];exact r⟩
 | j::p,.fz q,v,h,e=>by rw [OV.at] at e;cases e
 | j::p,.nd k a xs,_,.nd h sd ft r,e=>by
  rw [OV.Kt] at e;cases ex:xs[j]? with
  | none=>rw [ex] at e;cases e
  | some x=>
   rw [ex] at e;obtain ⟨vj,Vv,rj⟩:=r.get ex;obtain ⟨w,rw_,go⟩:=Am.at (t:=x) rj e;refine ⟨w,rw_,fun H' n rn hk=>?_⟩;obtain ⟨l2,r2,f1,f2⟩:=OV.split e;have key:∀ l r,OV.AX xs=l++x.addrs++r->(∀ z:OV,OV.AX (xs.set j z)=l++z.addrs++r)->∀ b,b∈(a::(k.more++(l++l2)))++(r2++r)->∀ o,H b=some o->H' b=some o:=fun l r e1 e2 b hb o=>
    hk (a::(k.more++(l++l2))) (r2++r) (by rw [OV.Cg,e1,f1];simp [Ce]) (fun n=>by rw [OV.Jx ex,OV.Cg,e2,f2];simp [Ce]) b hb o
   obtain ⟨l,q,e1,e2⟩:=Ii ex;rw [OV.Jx ex];refine .nd (key l q e1 e2 a (by simp) _ h) (NK.dk sd fun b hb=>key l q e1 e2 b (by simp [hb])) ft ?_;refine r.swap ex Vv (fun l' r' Ci BY b hb o=>key l' r' Ci BY b (by rcases List.mem_append.mp hb with hz | hz <;> simp [hz]) o) ?_
   refine go H' n rn fun l' r' g1 g2 b hb o=>?_;refine hk (a::(k.more++(l++l'))) (r'++q) (by rw [OV.Cg,e1,g1];simp [Ce]) (fun n=>by rw [OV.Jx ex,OV.Cg,e2,g2];simp [Ce]) b (by rcases List.mem_append.mp hb with hz | hz <;> simp [hz]) o
 | j::p,.tp xs,_,.tp h r,e=>by
  rw [OV.Nf] at e;cases ex:xs[j]? with
  | none=>rw [ex] at e;cases e
  | some x=>
   rw [ex] at e;obtain ⟨vj,Vv,rj⟩:=r.get ex;obtain ⟨w,rw_,go⟩:=Am.at (t:=x) rj e;refine ⟨w,rw_,fun H' n rn hk=>?_⟩;obtain ⟨l2,r2,f1,f2⟩:=OV.split e;obtain ⟨l,q,e1,e2⟩:=Ii ex;rw [OV.Ml ex];refine .tp h (r.swap ex Vv (fun l' r' Ci BY b hb o=>?_) (go H' n rn fun l' r' g1 g2 b hb o=>?_))
   ·exact hk (l'++l2) (r2++r') (by rw [OV.Fg,Ci,f1];simp [Ce]) (fun n=>by rw [OV.Ml ex,OV.Fg,BY,f2];simp [Ce]) b (by rcases List.mem_append.mp hb with hz | hz <;> simp [hz]) o
   ·exact hk (l++l') (r'++q) (by rw [OV.Fg,e1,g1];simp [Ce]) (fun n=>by rw [OV.Ml ex,OV.Fg,e2,g2];simp [Ce]) b (by rcases List.mem_append.mp hb with hz | hz <;> simp [hz]) o
def Td {l u r n:List Addr}(h:(l++u++r).Nodup)(hn:n.Nodup)(hd:∀ b∈n,b∈u∨b∉l++u++r):(l++n++r).Nodup:=by
 rw [CV] at h ⊢;obtain ⟨h1,h2,h3⟩:=h;rw [CV] at h1 ⊢;obtain ⟨a1,a2,a3⟩:=h1;refine ⟨⟨a1,hn,fun a ha b hb e=>?_⟩,h2,fun a ha b hb e=>?_⟩
 ·subst e;rcases hd a hb with z | z
  ·exact a3 a ha a z rfl
  ·exact z (by simp [ha])
 ·subst e;rcases List.mem_append.mp ha with ha | ha
  ·exact h3 a (by simp [ha]) a hb rfl
  ·rcases hd a ha with z | z
   ·exact h3 a (by simp [z]) a hb rfl
   ·exact z (by simp [hb])
def Sg.QC (S:Sg E ss σ F H){k:NK}{xs:List OV}{ho:HO}{lt:Bool}(hi:ss[i]?=some (.ow lt t))(BZ:t.at p=some (.nd k a xs))(hn:Am F (upd H a ho) (.ref a) n)(nd:n.addrs.Nodup)
  (aW:∀ b∈n.addrs,b∈(OV.nd k a xs).addrs∨(F b=none/\E.H0 b=none/\∀ (j:Nat) s,ss[j]?=some s->¬ B0 s σ[j]? b)):Sg E (ss.set i (.ow lt (t.put p n))) σ F (upd H a ho):=by
 obtain ⟨v,e,r,W9,q⟩:=S.ok i _ hi;obtain ⟨l,rr,e1,e2⟩:=OV.split BZ;have au:a∈(OV.nd k a xs).addrs:=by rw [OV.Cg];simp
 have ut:∀ b∈(OV.nd k a xs).addrs,b∈t.addrs:=fun b hb=>by rw [e1];simp [hb]
 have GP:∀ b∈n.addrs,b∈(OV.nd k a xs).addrs∨b∉t.addrs:=fun b hb=>(aW b hb).imp id fun z m=>z.2.2 i _ hi m;obtain ⟨w,rw_,go⟩:=r.at BZ;have ew:w=.ref a:=by cases rw_;rfl
 subst ew;have ne1:∀ (j:Nat) s,(ss.set i .any)[j]?=some s->∀ b,b∈t.addrs->¬ B0 s σ[j]? b:=fun j s hj b hb m=>by
  by_cases z:j=i
  ·subst z;rw [DG (List.getElem?_eq_some_iff.mp hi).1] at hj;cases hj;cases m
  ·rw [Cs (Bj z)] at hj;exact S.Bd j i s _ b z hj hi m hb
 have S2:=(S.drop i).La (o:=ho) (q a (ut a au)).1 ((q a (ut a au)).2.imp id fun z=>z.2) fun j s hj=>ne1 j s hj a (ut a au);have dP:=W9;rw [e1,CV,CV] at dP;obtain ⟨⟨_,_,d1⟩,_,d2⟩:=dP;have ZAt:∀ b,b∈l++rr->b≠a:=fun b hb z=>by
  subst z;rcases List.mem_append.mp hb with hb | hb
  ·exact d1 b hb b au rfl
  ·exact d2 b (by simp [au]) b hb rfl
 have r2:Am F (upd H a ho) v (t.put p n):=go _ n hn fun l' r' g1 g2 b hb o zf=>by
  rw [AS ?_];exact zf;rintro rfl;have ZG:=W9;rw [g1,CV,CV] at ZG;obtain ⟨⟨_,_,c1⟩,_,c2⟩:=ZG;rcases List.mem_append.mp hb with hb | hb
  ·exact c1 b hb b au rfl
  ·exact c2 b (by simp [au]) b hb rfl
 have ad:∀ b∈(t.put p n).addrs,b∈t.addrs∨(F b=none/\E.H0 b=none/\∀ (j:Nat) s,ss[j]?=some s->¬ B0 s σ[j]? b):=fun b hb=>by
  rw [e2] at hb;rcases List.mem_append.mp hb with hb | hb
  ·rcases List.mem_append.mp hb with hb | hb
   ·exact .inl (by rw [e1];simp [hb])
   ·exact (aW b hb).imp (ut b) id
  ·exact .inl (by rw [e1];simp [hb])
 have S3:=S2.setG (j:=i) (s:=.ow lt (t.put p n)) (v:=v) ⟨v,rfl,r2,by rw [e2];exact Td (e1▸W9) nd fun b hb=>(GP b hb).imp id (by rw [e1];exact id),fun b hb=>(ad b hb).elim (q b) fun z=>⟨z.1,.inl z.2.1⟩⟩ fun b hb j s hj hs m=>by
  rcases ad b hb with z | z
  ·exact ne1 j s hs b z m
  ·rw [Cs (Bj hj)] at hs;exact z.2.2 j s hs m
 rw [Ld e,RF] at S3;exact S3
structure Wl [Xw] (ss:List Slot) (i:Nat) (t:OV) (te:TE) (k:List Nat->OV->Prop):Prop where
 hi:∃ lt,ss[i]?=some (.ow lt t)
 go:∀ (E:Ent) (σ:L2.St) (F H:Hp) (Q:VK),Sg E ss σ F H->(∀ v p u F' H',Mv E ss σ F H F' H'->Am F' H' v u->t.at p=some u->k p u->Q v H')->te σ H Q
def Cz:List Nat->List Slot->List Slot
 | [],ss=>ss
 | i::m,ss=>Cz m (ss.set i .any)
structure Wx [Xw] (ss:List Slot) (te:TE) (k:List Nat->OV->Prop):Prop where
 go:∀ (E:Ent) (σ:L2.St) (F H:Hp) (Q:VK),Sg E ss σ F H->(∀ v m u F' H',Mv E ss σ F H F' H'->Am F' H' v u->u.addrs.Nodup->(∀ a∈u.addrs,F' a=none/\E.H0 a=none/\((∃ i∈m,∃ s,s≠Slot.AQ/\ss[i]?=some s/\B0 s σ[i]? a)∨H a=none))->k m u->Q v H')->te σ H Q
structure Kx [Xw] (ss:List Slot) (te:TA) (k:List Nat->List OV->Prop):Prop where
 go:∀ (E:Ent) (σ:L2.St) (F H:Hp) (Q:List V->Hp->Prop),Sg E ss σ F H->(∀ vs m us F' H',Mv E ss σ F H F' H'->Ak F' H' vs us->(OV.AX us).Nodup->(∀ a∈OV.AX us,F' a=none/\E.H0 a=none/\((∃ i∈m,∃ s,s≠Slot.AQ/\ss[i]?=some s/\B0 s σ[i]? a)∨H a=none))->k m us->Q vs H')->te σ H Q
section
variable [Xw]
variable {K:ZAy}{k:PV->Prop}
def OV.JZ (h:t.at p=some u):∀ a∈u.addrs,a∈t.addrs:=fun a ha=>by
 obtain ⟨l,r,e,_⟩:=OV.split h;rw [e];simp [ha]
def Am.mv (r:Am F H v u)(S:Sg E ss σ F H)(hi:∃ lt,ss[i]?=some (.ow lt t))(h:t.at p=some u)(m:Mv E ss σ F H F' H'):Am F' H' v u:=
 r.mono m.ff fun a ha o e=>m.hh a o (S.N8 hi.choose_spec (OV.JZ h a ha) (by simp)) e
def Gh {lt:Bool}{k:List Nat->OV->Prop}(hi:ss[i]?=some (.ow lt t))(hk:k [] t):Wl ss i t (B1 i) k:=⟨⟨lt,hi⟩,fun E σ F H Q S q=>by
 obtain ⟨v,e,r,_,_⟩:=S.ok i _ hi;exact ⟨v,e,q v [] t F H (.refl S) r OV.Iu hk⟩⟩
def HA {k:List Nat->OV->Prop}(h:Wp ss te fun p=>k [] (.fz p)):Wx ss te k:=⟨fun E σ F H Q S q=>
 h.go E σ F H _ S fun v p F1 H1 m1 r kk=>q v [] (.fz p) F1 H1 m1 (.fz r) (by rw [OV.NA];exact IG) (fun a ha=>by rw [OV.NA] at ha;cases ha) kk⟩
def Lf (a:Addr)(xs:List PV):(OV.nd .lst a (xs.map .fz)).addrs=[a]:=by rw [OV.Cg,WA];rfl
def va {k:List Nat->OV->Prop}(h:Wn ss te fun xs=>∀ l,k [] (.nd .lst l (xs.map .fz))):Wx ss te k:=⟨fun E σ F H Q S q=>
 h.go E σ F H _ S fun l vs xs F1 H1 m1 fl hl Jn r kk=>q _ [] _ F1 H1 m1 (.nd (k:=.lst) Jn trivial trivial (OL r)) (by rw [Lf];simp) (fun a ha=>by
  rw [Lf] at ha;have e:a=l:=by simpa using ha
  subst e;exact ⟨fl,S.DD hl,.inr hl⟩) (kk l)⟩
def bx {k:List Nat->List OV->Prop}(h:k [] []):Kx ss Az k:=⟨fun E σ F H Q S q=>q _ [] [] F H (.refl S) .nil (by rw [OV.FL];exact IG) (fun a ha=>by rw [OV.FL] at ha;cases ha) h⟩
def xD {k:List Nat->OV->Prop}(hi:ss[i]?=some (.ow false t))(h:k [i] t):Wx ss (B1 i) k:=⟨fun E σ F H Q S q=>by
 obtain ⟨v,e,r,nd,qa⟩:=S.ok i _ hi;refine ⟨_,e,q v [i] t F H (.refl S) r nd (fun a ha=>⟨(qa a ha).1,?_,.inl ⟨i,by simp,_,by simp,hi,ha⟩⟩) h⟩;exact (qa a ha).2.elim id fun z=>by cases z.1⟩
def Wx.mP (S:Sg E ss σ F H)(h:(∃ i∈m,∃ s,s≠Slot.AQ/\ss[i]?=some s/\B0 s σ[i]? a)∨H a=none):C9 ss σ a:=by
 rcases h with ⟨j,_,s,hp,hs,o⟩ | z
 ·exact S.N8 hs o hp
 ·exact S.Ht z
def Mv.Zy (m:Mv E ss σ F H F' H')(h:F a=Option.none)(h2:H a≠Option.none):F' a=Option.none:=by
 cases e:F' a with
 | none=>rfl
 | some o=>
  rcases m.nn a o e with z | z
  ·rw [h] at z;cases z
  ·exact absurd z h2
def L3 {k:List Nat->List OV->Prop}(h:Wx ss te fun m u=>Kx ss tr fun m2 us=>(∀ i∈m,i∉m2)/\k (m++m2) (u::us)):Kx ss (Af te tr) k:=⟨fun E σ F H Q S q=>
 h.go E σ F H _ S fun v m u F1 H1 m1 r1 Fx a1 h2=>h2.go E σ F1 H1 _ m1.st fun vs pj us F2 H2 m2 r2 EY a2 ⟨dj,kk⟩=>by
  have np:∀ a∈u.addrs,C9 ss σ a:=fun a ha=>Wx.mP S (a1 a ha).2.2;refine q (v::vs) (m++pj) (u::us) F2 H2 (m1.trans m2) (.cons (r1.mono m2.ff fun a ha o e=>m2.hh a o (np a ha) e) r2) ?_ (fun a ha=>?_) kk
  ·rw [OV.D9,CV];refine ⟨Fx,EY,fun a ha b hb e=>?_⟩;subst e;rcases (a2 a hb).2.2 with ⟨j2,K7,s2,dA,CT,o2⟩ | z
   ·rcases (a1 a ha).2.2 with ⟨j,hj,s,hp,hs,o⟩ | z
    ·exact S.Bd j j2 s s2 a (by rintro rfl;exact dj j hj K7) hs CT o o2
    ·exact S.Dk CT o2 z
   ·exact r1.there a ha z
  ·rw [OV.D9] at ha;rcases List.mem_append.mp ha with ha | ha
   ·obtain ⟨f,h0,w⟩:=a1 a ha;exact ⟨m2.Zy f (r1.there a ha),h0,w.imp (fun ⟨j,hj,z⟩=>⟨j,by simp [hj],z⟩) id⟩
   ·obtain ⟨f,h0,w⟩:=a2 a ha;exact ⟨f,h0,w.imp (fun ⟨j,hj,z⟩=>⟨j,by simp [hj],z⟩) m1.none⟩⟩
def nH {k:List Nat->OV->Prop}(h:Kx ss tr fun m us=>us.length<=100000/\k m (.tp us)):Wx ss (Nu tr) k:=⟨fun E σ F H Q S q=>
 h.go E σ F H _ S fun vs m us F1 H1 m1 r1 Fx a1 ⟨hz,kk⟩=>⟨small (by rw [r1.length];exact hz),fun p hp=>by
  have m2:=m1.st.alloc hp (.tup vs);refine q _ m (.tp us) _ _ (m1.trans m2) (.tp Al (r1.mono m2.ff fun a ha o e=>by rw [AS (by rintro rfl;exact r1.there _ ha hp)];exact e)) (by rw [OV.Fg];exact Fx) (fun a ha=>?_) kk;rw [OV.Fg] at ha;obtain ⟨f,h0,w⟩:=a1 a ha;exact ⟨by rw [AS (by rintro rfl;exact r1.there _ ha hp)];exact f,h0,w⟩⟩⟩
theorem O3 {j:Nat}{s:Slot}:∀ {m:List Nat}{ss:List Slot},(Cz m ss)[j]?=some s->s=.any∨(ss[j]?=some s/\j∉m)
 | [],ss,h=>.inr ⟨h,by simp⟩
 | i::m,ss,h=>by
  rcases O3 (m:=m) (ss:=ss.set i .any) h with e | ⟨e,hm⟩
  ·exact .inl e
  ·by_cases q:j=i
   ·subst q;have AM:j<ss.length:=by have:=(List.getElem?_eq_some_iff.mp e).1;simpa using this
    rw [DG AM] at e;exact .inl (B8 e).symm
   ·rw [Cs (Bj q)] at e;exact .inr ⟨e,by simp [q,hm]⟩
theorem Sg.Cz {E:Ent0}{σ:L2.St}{F H:Hp}:∀ (m:List Nat){ss:List Slot},Sg E ss σ F H->Sg E (Fz.Cz m ss) σ F H
 | [],_,S=>S
 | i::m,_,S=>Sg.Cz m (S.drop i)
def Sg.WW (S0:Sg E ss σ F0 H0)(S:Sg E ss σ F H)(r:Am F H v u)(nd:u.addrs.Nodup)(hu:∀ a∈u.addrs,F a=none/\E.H0 a=none/\((∃ i∈m,∃ s,s≠Slot.AQ/\ss[i]?=some s/\B0 s σ[i]? a)∨H0 a=none)):
  Sg E ((Fz.Cz m ss).set j (.ow false u)) (σ.set j (some v)) F H:=by
 refine (S.Cz m).setG ⟨v,rfl,r,nd,fun a ha=>⟨(hu a ha).1,.inl (hu a ha).2.1⟩⟩ fun a ha i s Gy hs o=>?_;rcases O3 hs with e | ⟨Fu,hm⟩
 ·subst e;cases o
 ·rcases (hu a ha).2.2 with ⟨i2,Dn,s2,_,CT,o2⟩ | z
  ·exact S.Bd i i2 s s2 a (by rintro rfl;exact hm Dn) Fu CT o o2
  ·exact S0.Dk Fu o z
def Ja (h:Wx ss te fun m u=>nx ((Fz.Cz m ss).set j (.ow false u))):Ws ss (DK te (Bz j)) nx R:=⟨fun E D σ F H S hn hr=>
 h.go E σ F H _ S fun v m u F1 H1 m1 r nd hu kk=>hn _ _ F1 H1 kk (Sg.WW S m1.st r nd hu) m1.ff⟩
def ic (i:Nat)(hi:ss[i]?=some (.own xs))(h:∀ l,Ws (ss.set i (.ow false (.nd .lst l (xs.map .fz)))) t' nx R):Ws ss t' nx R:=⟨fun E D σ F H S hn hr=>by
 obtain ⟨l,vs,e,e1,e2,e3,r⟩:=S.ok i _ hi;have S2:=Sg.WW (j:=i) (m:=[i]) (v:=.ref l) (u:=.nd .lst l (xs.map .fz)) S S (.nd (k:=.lst) e3 trivial trivial (OL r)) (by rw [Lf];simp) fun a ha=>by
  rw [Lf] at ha;have ea:a=l:=by simpa using ha
  subst ea;exact ⟨e1,e2,.inl ⟨i,by simp,_,by simp,hi,e⟩⟩
 rw [Ld e] at S2;have e5:(Fz.Cz [i] ss).set i (.ow false (.nd .lst l (xs.map .fz)))=ss.set i (.ow false (.nd .lst l (xs.map .fz))):=by show (ss.set i .any).set i _=_;rw [RF]
 rw [e5] at S2;exact (h l).go E D σ F H S2 hn hr⟩
def Am.rep (ff:AJ F F1):∀ {v:V}{t:OV},Am F H v t->(∀ a∈t.addrs,∀ o,H a=some o->F1 a=some o)->Rep F1 v t.pv:=by
 intro v t r h;exact Am.rec (motive_1:=fun v t _=>(∀ a∈t.addrs,∀ o,H a=some o->F1 a=some o)->Rep F1 v t.pv) (motive_2:=fun vs ts _=>(∀ a∈OV.AX ts,∀ o,H a=some o->F1 a=some o)->AH F1 vs (OV.CZ ts))
  (fun {v p} r _=>by rw [OV.pv];exact r.mono ff)
  (fun {a vs xs} e _ ih h=>by rw [OV.pv];exact .tup (ff _ _ e) (ih (by rw [OV.Fg] at h;exact h)))
  (fun {k a vs xs} e sd ft _ ih h=>by
   rw [OV.Cg] at h;have Uu:=ih fun a ha=>h a (by simp [ha]);have e':=h a (by simp) _ e;cases k with
   | lst=>rw [OV.pv];exact .lst e' Uu
   | Ah ks=>rw [OV.pv];exact .Ah e' ft Uu
   | obj C dx ns=>rw [OV.pv];exact .obj e' (h dx (by simp [NK.more]) _ sd) ft Uu)
  (fun _=>by rw [OV.CZ];exact .nil)
  (fun _ _ NZ Mi h=>by
   rw [OV.D9] at h;rw [OV.CZ];exact .cons (NZ fun a ha=>h a (by simp [ha])) (Mi fun a ha=>h a (by simp [ha])))
  r h
def WK (i:Nat)(hi:ss[i]?=some (.ow false t))(h:Ws (ss.set i (.is t.pv)) t' nx R):Ws ss t' nx R:=⟨fun E D σ F H S hn hr=>by
 obtain ⟨v,e,r,nd,qa⟩:=S.ok i _ hi;obtain ⟨S1,nf⟩:=(S.drop i).lay t.addrs (fun a ha=>⟨(qa a ha).1,(qa a ha).2.elim id (fun z=>by cases z.1),r.there a ha⟩) fun a ha j s hj m=>by
  by_cases q:j=i
  ·subst q;rw [DG (List.getElem?_eq_some_iff.mp hi).1] at hj;cases hj;cases m
  ·rw [Cs (Bj q)] at hj;exact S.Bd j i s _ a q hj hi m ha
 have S2:=S1.Fs (j:=i) (v:=v) (p:=t.pv) (r.rep nf fun a ha o ho=>by unfold CU;rw [gq ha];exact ho);rw [Ld e,RF] at S2;exact h.go E D σ _ H S2 (fun BL σ2 F2 H2 n S2 s2=>hn BL σ2 F2 H2 n S2 (nf.trans s2)) hr⟩
variable {lt:Bool}
def Lc:(OV.nd .lst a us).addrs=a::OV.AX us:=by rw [OV.Cg];rfl
theorem Ig:∀ (us ws:List OV),OV.AX (us++ws)=OV.AX us++OV.AX ws
 | [],ws=>by rw [M9,OV.FL,M9]
 | u::us,ws=>by rw [Wh,OV.D9,OV.D9,Ig us ws,Ce]
def KS (u:OV):OV.AX [u]=u.addrs:=by rw [OV.D9,OV.FL,DV]
def Sg.Xb {BR:List OV}(S0:Sg E ss σ F0 H0)(S:Sg E ss σ F H)(hi:ss[i]?=some (.ow lt t))(BZ:t.at p=some (.nd .lst a us))
  (hu:∀ a∈u.addrs,F a=none/\E.H0 a=none/\((∃ i∈m,∃ s,s≠Slot.AQ/\ss[i]?=some s/\B0 s σ[i]? a)∨H0 a=none)) (Dz:i∉m)
  (hr:Ak F H B7 BR) (Me:(OV.AX BR).Nodup) (HC:∀ b∈OV.AX BR,b∈OV.AX us∨b∈u.addrs):Sg E ((Fz.Cz m ss).set i (.ow lt (t.put p (.nd .lst a BR)))) σ F (upd H a (.lst B7)):=by
 have Bb:(Fz.Cz m ss)[i]?=some (.ow lt t):=by
  have aux:∀ (m:List Nat) (ss:List Slot),ss[i]?=some (.ow lt t)->i∉m->(Fz.Cz m ss)[i]?=some (.ow lt t):=by
   intro m
   induction m with
   | nil=>intro ss h _;exact h
   | cons j m ih=>
    intro ss h hm;refine ih _ ?_ fun z=>hm (by simp [z]);rw [Cs (by rintro rfl;exact hm (by simp))];exact h
  exact aux m ss hi Dz
 obtain ⟨v,e,r,nd,q⟩:=S.ok i _ hi;have ut:∀ b,b∈a::OV.AX us->b∈t.addrs:=fun b hb=>OV.JZ BZ b (by rw [Lc];exact hb);have L7:∀ b∈u.addrs,b∉t.addrs:=fun b hb z=>by
  rcases (hu b hb).2.2 with ⟨j,hj,s,_,hs,o⟩ | w
  ·exact S.Bd j i s _ b (by rintro rfl;exact Dz hj) hs hi o z
  ·exact S0.Dk hi z w
 have Dp:(OV.nd .lst a us).addrs.Nodup:=by
  obtain ⟨l,rr,e1,_⟩:=OV.split BZ;rw [e1,CV,CV] at nd;exact nd.1.2.1
 rw [Lc] at Dp;have na:∀ b∈OV.AX BR,b≠a:=fun b hb z=>by
  subst z;rcases HC b hb with w | w
  ·exact (List.nodup_cons.mp Dp).1 w
  ·exact L7 b w (ut b (by simp))
 refine (S.Cz m).QC Bb BZ (.nd (k:=.lst) Al trivial trivial (hr.mono (AJ.refl _) fun b hb o ho=>by rw [AS (na b hb)];exact ho)) (by rw [Lc];exact List.nodup_cons.mpr ⟨fun z=>na a z rfl,Me⟩) fun b hb=>?_;rw [Lc] at hb ⊢;rcases List.mem_cons.mp hb with w | w
 ·exact .inl (by simp [w])
 ·rcases HC b w with z | z
  ·exact .inl (by simp [z])
  ·refine .inr ⟨(hu b z).1,(hu b z).2.1,fun j s hs o=>?_⟩;rcases O3 hs with y | ⟨Fu,hm⟩
   ·subst y;cases o
   ·rcases (hu b z).2.2 with ⟨i2,Dn,s2,_,CT,o2⟩ | y
    ·exact S.Bd j i2 s s2 b (by rintro rfl;exact hm Dn) Fu CT o o2
    ·exact S0.Dk Fu o y
def r9 (h:Wl ss i t ta fun p u=>∃ lt a us,ss[i]?=some (.ow lt t)/\u=.nd .lst a us/\us.length<=99999/\Wx ss te fun m w=>i∉m/\nx ((Cz m ss).set i (.ow lt (t.put p (.nd .lst a (us++[w])))))):Ws ss (Gr (FK K "list" OQ ta (Af te Az))) nx R:=⟨fun E D σ F H S hn hr=>
 h.go E σ F H _ S fun v p u F1 H1 m1 r1 h1 ⟨lt,a,us,hi,eu,hz,hw⟩=>by
  subst eu;cases r1 with
  | @nd k a' vs _ ha sd ft rr=>
   refine .inl ⟨rfl,_,AI.of ha⟩ |> fun q0=>⟨q0,hw.go E σ F1 H1 _ m1.st fun v2 m w F2 H2 m2 r2 EY a2 ⟨Dz,kk⟩=>?_⟩;have r3:=(Am.nd (k:=.lst) ha sd ft rr).mv m1.st h.hi h1 m2;cases r3 with
   | @nd _ _ zN _ tW sd3 ft3 fO=>
    refine ⟨a,zN,v2,rfl,rfl,tW,Gv (by rw [fO.length];exact hz),?_⟩;refine hn _ σ F2 _ kk (Sg.Xb (u:=w) m1.st m2.st hi h1 a2 Dz (fO.append (.one r2)) ?_ fun b hb=>?_) (m1.ff.trans m2.ff)
    ·rw [Ig,KS,CV];obtain ⟨v0,e0,r0,CA,q0⟩:=m2.st.ok i _ hi;have Dp:(OV.nd .lst a us).addrs.Nodup:=by
      obtain ⟨l,rr,e1,_⟩:=OV.split h1;rw [e1,CV,CV] at CA;exact CA.1.2.1
     rw [Lc] at Dp;refine ⟨(List.nodup_cons.mp Dp).2,EY,fun x hx y hy e=>?_⟩;subst e;have xt:x∈t.addrs:=OV.JZ h1 x (by rw [Lc];simp [hx]);rcases (a2 x hy).2.2 with ⟨j,hj,s,_,hs,o⟩ | w
     ·exact m1.st.Bd j i s _ x (by rintro rfl;exact Dz hj) hs hi o xt
     ·exact m1.st.Dk hi xt w
    ·rw [Ig,KS] at hb;exact List.mem_append.mp hb⟩
def kg {k:OV->Prop}(h:Wx ss te fun _ u=>k u):Ws ss (JT te) nx (.ow k):=⟨fun E D σ F H S hn hr=>
 h.go E σ F H _ S fun v m u F1 H1 m1 r nd hu kk=>hr v F1 H1 m1.st.toFin ⟨u,r,nd,fun a ha=>⟨(hu a ha).1,(hu a ha).2.1⟩,kk⟩⟩
def vD {ta:TA}{k:List Nat->OV->Prop}(h:Wa ss ta fun l=>∃ k',pre l (.ow k')/\∀ u,k' u->k [] u):Wx ss (E7 (AN pre) [] E0 ta) k:=⟨fun E σ F H Q S q=>
 h.go E σ F H _ S fun vs l F1 H1 m1 a ⟨k',hp,kk⟩=>by
  rw [DV];refine ⟨l,.ow k',F1,[],hp,m1.st.MN a,fun v F' H' f ⟨u,r,nd,hu,ku⟩=>?_⟩;exact q v [] u F' H' (m1.trans (m1.st.back (fun _ h=>absurd h Aa) f)) r nd (fun a ha=>⟨(hu a ha).1,S.DD (m1.none (hu a ha).2),.inr (m1.none (hu a ha).2)⟩) (kk u ku)⟩
end
def ptr (a:Addr):Hp->V->Prop:=fun _ v=>v=.ref a
section
variable [Xw]
variable {K:ZAy}{k:PV->Prop}{lt:Bool}
def xX {k:List Nat->OV->Prop}{nk:NK}(hj:ss[j]?=some (.raw (ptr a)))(hi:ss[i]?=some (.ow lt t))(BZ:t.at p=some (.nd nk a us))(hk:k p (.nd nk a us)):Wl ss i t (B1 j) k:=⟨⟨lt,hi⟩,fun E σ F H Q S q=>by
 obtain ⟨v,e,rv,_⟩:=S.ok j _ hj;obtain ⟨v2,e2,r2,_,_⟩:=S.ok i _ hi;obtain ⟨w,rw_,_⟩:=r2.at BZ;have ew:w=.ref a:=by cases rw_;rfl
 subst ew;cases (show v=.ref a from rv);exact ⟨_,e,q _ p _ F H (.refl S) rw_ BZ hk⟩⟩
def OV.JS:OV->Option V
 | .fz p=>if flat p then some (Fz.enc p) else none
 | .nd _ a _=>some (.ref a)
 | .tp _=>none
theorem Am.JS {w:V}(r:Am F H v u)(h:u.JS=some w):v=w:=by
 cases r with
 | @fz _ p r=>
  have h':(if flat p=true then some (Fz.enc p) else none)=some w:=h
  by_cases hf:flat p=true
  ·rw [gq hf] at h';rw [r.enc hf];exact B8 h'
  ·rw [gg hf] at h';cases h'
 | tp _ _=>cases h
 | nd _ _ _ _=>exact B8 h
theorem Ak.vals1 {F H:Hp}:∀ {vs ws:List V}{us:List OV},Ak F H vs us->us.map OV.JS=ws.map some->vs=ws
 | _,[],_,.nil,_=>rfl
 | _,w::ws,_,.cons r t,h=>by
  rw [Ac,Ac] at h;injection h with h1 h2
  rw [r.JS h1,Ak.vals1 t h2]
 | _,_::_,_,.nil,h=>by cases h
 | _,[],_,.cons _ _,h=>by cases h
def Still (i:Nat)(p:List Nat)(a:Addr)(vs:List V)(ss:List Slot):Prop:=∃ lt t us,ss[i]?=some (.ow lt t)/\t.at p=some (.nd .lst a us)/\us.map OV.JS=vs.map some
def Still.sq (h:Still i p a vs ss)(S:Sg E ss σ F H):H a=some (.lst vs):=by
 obtain ⟨lt,t,us,hi,BZ,hv⟩:=h;obtain ⟨v,e,r,_,_⟩:=S.ok i _ hi;obtain ⟨w,rw_,_⟩:=r.at BZ;cases rw_ with
 | nd ha _ _ rr=>rw [rr.vals1 hv] at ha;exact ha
structure fe (ss:List Slot) (g:TG) (v:V) (k:List Slot->Prop):Prop where
 go:∀ (E:Ent) (σ:L2.St) (F H:Hp) (Q:L2.St->Hp->Prop),Sg E ss σ F H->(∀ A7 σ',k A7->Sg E A7 σ' F H->Q σ' H)->g v σ H Q
def iu {n:Nat}{k:List Slot->Prop}(hf:flat q=true)(e:v=Fz.enc q)(h:k (ss.set n (.is q))):fe ss (Bz n) v k:=⟨fun E σ F H Q S hq=>by subst e;exact hq _ _ h (S.Fs (Zr hf))⟩
def u4 {g:TG}{tb:TS}(I:Nat->List Slot->Prop)(h:Wl ss i t te fun p u=>∃ a us vs,u=.nd .lst a us/\us.map OV.JS=vs.map some/\I 0 ss/\(∀ n A7,n<=vs.length->I n A7->Still i p a vs A7)/\(∀ n v A7,vs[n]?=some v->I n A7->fe A7 g v fun BL=>Ws BL tb (I (n+1)) R)/\∀ A7,I vs.length A7->nx A7):
  Ws ss (MZ (LU K te) g tb) nx R:=⟨fun E D σ F H S hn hr=>
 h.go E σ F H _ S fun v p u F1 H1 m1 r1 BZ ⟨a,us,vs,eu,hv,i0,st,tn,hd⟩=>by
  subst eu;have ev:v=.ref a:=by cases r1;rfl
  subst ev;have h1:=(st 0 ss (CD _) i0).sq m1.st;refine ⟨false,a,vs,rfl,AI.of h1,?_⟩;refine ⟨fun n m σ' H'=>m=vs.length - n/\n<=vs.length/\∃ A7 F',I n A7/\Sg E A7 σ' F' H'/\AJ F1 F',⟨_,rfl,CD _,ss,F1,i0,m1.st,AJ.refl _⟩,?_⟩;rintro n m σ' H' ⟨rfl,MM,A7,F',hI,S',s'⟩;have hl:=(st n A7 MM hI).sq S'
  by_cases AM:n<vs.length
  ·refine .inr ⟨⟨AI.of hl,AM⟩,fun σ2 H2=>∃ BL F2,I (n+1) BL/\Sg E BL σ2 F2 H2/\AJ F1 F2,fun σ2 H2 ⟨BL,F2,a,b,c⟩=>⟨_,by omega,rfl,AM,BL,F2,a,b,c⟩,fun x H3 y=>?_⟩;obtain ⟨eH,hx⟩:=y;subst eH;refine (tn n x A7 hx hI).go E σ' F' H3 _ S' fun bC σ4 w S4=>?_;exact w.go E _ σ4 F' H3 S4 (fun Jc σ5 F5 H5 n5 S5 s5=>⟨Jc,F5,n5,S5,s'.trans s5⟩) hr
  ·have e:n=vs.length:=by omega
   subst e;exact .inl ⟨⟨AI.of hl,Aj _⟩,hn A7 σ' F' H' (hd A7 hI) S' (m1.ff.trans s')⟩⟩
end
def BU:List Slot->L2.St->List Addr
 | .own _::ss,some (.ref l)::σ=>l::BU ss σ
 | .ow _ t::ss,_::σ=>t.addrs++BU ss σ
 | _::ss,_::σ=>BU ss σ
 | _,_=>[]
theorem bB:∀ {ss:List Slot}{σ:L2.St} {a:Addr},a∈BU ss σ->∃ (i:Nat) (s:Slot),ss[i]?=some s/\s≠.AQ/\B0 s σ[i]? a
 | [],σ,a,h=>by simp [BU] at h
 | s::ss,[],a,h=>by cases s <;> simp [BU] at h
 | s::ss,o::σ,a,h=>by
  have up:a∈BU ss σ->∃ (i:Nat) (s':Slot),(s::ss)[i]?=some s'/\s'≠.AQ/\B0 s' (o::σ)[i]? a:=fun h=>by
   obtain ⟨i,s',h1,h2,h3⟩:=bB h;exact ⟨i+1,s',by simpa using h1,h2,by simpa using h3⟩
  cases s with
  | own xs=>
   cases o with
   | none=>exact up (by simpa [BU] using h)
   | some v=>
    cases v with
    | ref l=>
     rw [BU] at h;rcases List.mem_cons.mp h with e | h
     ·subst e;exact ⟨0,_,rfl,by simp,rfl⟩
     ·exact up h
    | _=>exact up (by simpa [BU] using h)
  | ow lt t=>
   rw [BU] at h;rcases List.mem_append.mp h with h | h
   ·exact ⟨0,_,rfl,by simp,h⟩
   ·exact up h
  | _=>exact up (by simpa [BU] using h)
theorem V3:∀ {ss:List Slot}{σ:L2.St} {i:Nat}{s:Slot}{a:Addr},ss.length=σ.length->ss[i]?=some s->s≠.AQ->B0 s σ[i]? a->a∈BU ss σ
 | [],σ,i,s,a,_,h,_,_=>by simp at h
 | s0::ss,[],i,s,a,hl,_,_,_=>by simp at hl
 | s0::ss,o::σ,0,s,a,hl,h,hp,ho=>by
  simp at h;subst h;cases s0 with
  | own xs=>
   have e:o=some (.ref a):=by have:some o=some (some (V.ref a)):=ho;exact B8 this
   subst e;rw [BU];simp
  | ow lt t=>rw [BU];exact RD _ ho
  | AQ=>exact absurd rfl hp
  | _=>cases ho
 | s0::ss,o::σ,i+1,s,a,hl,h,hp,ho=>by
  have q:=V3 (ss:=ss) (σ:=σ) (i:=i) (a:=a) (by simpa using hl) (by simpa using h) hp (by simpa using ho)
  cases s0 with
  | own xs=>cases o with
   | none=>simpa [BU] using q
   | some v=>cases v with
    | ref l=>rw [BU];simp [q]
    | _=>simpa [BU] using q
  | ow lt t=>rw [BU];exact HF _ q
  | _=>simpa [BU] using q
mutual
theorem Am.Lu {F H:Hp}:∀ {v:V}{t:OV},Am F H v t->∀ a∈t.addrs,∀ vs,H a≠some (.tup vs)
 | _,_,.fz _,a,ha,_=>by rw [OV.NA] at ha;cases ha
 | _,_,.tp _ r,a,ha,vs=>by rw [OV.Fg] at ha;exact Ak.Lu r a ha vs
 | _,_,@Am.nd _ _ k b ws xs h sd ft r,a,ha,vs=>by
  rw [OV.Cg,Dq,RC] at ha;rcases ha with rfl | ha | ha
  ·rw [h];cases k <;> simp [NK.ho]
  ·cases k with
   | obj C dx ns=>
    have e:a=dx:=by simpa [NK.more] using ha
    subst e;have VG:H a=some (.own b):=sd;rw [VG];simp
   | _=>simp [NK.more] at ha
  ·exact Ak.Lu r a ha vs
theorem Ak.Lu {F H:Hp}:∀ {vs:List V}{ts:List OV},Ak F H vs ts->∀ a∈OV.AX ts,∀ ws,H a≠some (.tup ws)
 | _,_,.nil,a,ha,_=>by rw [OV.FL] at ha;cases ha
 | _,_,.cons r t,a,ha,ws=>by
  rw [OV.D9,RC] at ha;rcases ha with ha | ha
  ·exact Am.Lu r a ha ws
  ·exact Ak.Lu t a ha ws
end
mutual
def D6:PV->Bool
 | .lst _=>false
 | .Ah _ _=>false
 | .obj _ _ _=>false
 | .exc _ _ _=>false
 | .tup xs=>Eo xs
 | _=>true
def Eo:List PV->Bool
 | []=>true
 | x::r=>D6 x && Eo r
end
def ES (F:Hp)(as:List Addr):Hp:=fun a=>if a∈as then none else F a
def Rep.sub {as:List Addr}(h:∀ a∈as,∀ vs,F a≠some (.tup vs)):∀ {v:V}{p:PV},Rep F v p->D6 p=true->Rep (ES F as) v p:=by
 intro v p r hn;exact Rep.rec (motive_1:=fun v p _=>D6 p=true->Rep (ES F as) v p) (motive_2:=fun vs ps _=>Eo ps=true->AH (ES F as) vs ps)
  (fun _=>.A8) (fun b _=>.bl b) (fun i _=>.int i) (fun x _=>.str x)
  (fun _ _ _ z=>by simp [D6] at z)
  (fun {a vs xs} e _ ih z=>.tup (by unfold ES;rw [gg (fun q=>h a q vs e)];exact e) (ih (by simpa [D6] using z)))
  (fun _ _ _ _ z=>by simp [D6] at z)
  (fun _ _ _ _ _ z=>by simp [D6] at z)
  (fun _=>.con)
  (fun _ z=>by simp [D6] at z)
  (fun _ _ _ _ _ z=>by simp [D6] at z)
  (fun _=>.nil)
  (fun _ _ NZ Mi z=>by
   rw [Eo,FN] at z;exact .cons (NZ z.1) (Mi z.2))
  r hn
theorem AH.sub {as:List Addr}(h:∀ a∈as,∀ vs,F a≠some (.tup vs)):∀ {vs:List V}{ps:List PV},AH F vs ps->Eo ps=true->AH (ES F as) vs ps
 | _,_,.nil,_=>.nil
 | _,_,.cons r t,z=>by
  rw [Eo,FN] at z;exact .cons (r.sub h z.1) (t.sub h z.2)
def Sg.as (S:Sg E ss σ F H)(h:a∈BU ss σ):F a=none/\H a≠none/\(∀ vs,H a≠some (.tup vs))/\C9 ss σ a:=by
 obtain ⟨i,s,hs,hp,ho⟩:=bB h;refine ⟨S.xK hs ho,S.Dk hs ho,?_,S.N8 hs ho hp⟩;have k:=S.ok i s hs;cases s with
 | own xs=>obtain ⟨l,vs,e,_,_,e3,_⟩:=k;rw [show σ[i]?=some (some (.ref a)) from ho] at e;cases e;rw [e3];simp
 | ow lt t=>obtain ⟨v,_,r,_⟩:=k;exact r.Lu a ho
 | AQ=>exact absurd rfl hp
 | _=>cases ho
def Sg.IS (S:Sg E ss σ F H):AJ F (CU F H (BU ss σ))/\AJ (CU F H (BU ss σ)) H:=by
 refine ⟨fun a o e=>?_,fun a o e=>?_⟩
 ·unfold CU;rw [gg (fun q=>by rw [(S.as q).1] at e;cases e)];exact e
 ·unfold CU at e;split at e
  ·exact e
  ·exact S.fh a o e
def Sg.Ug (S:Sg E ss σ F H)(f:Fin (E3 [] (CU F H (BU ss σ)) H) F' H'):Mv E ss σ F H (ES F' (BU ss σ)) H'/\∀ a∈BU ss σ,∀ vs,F' a≠some (.tup vs):=by
 have kp:∀ a o,H a=some o->H' a=some o:=fun a o e=>f.keep a o ⟨Aa,Aa⟩ e;refine ⟨S.step (fun a o e=>?_) (fun a o e=>?_) (fun a o _ e=>kp a o e) (fun a o e=>?_) (fun i l hi e=>BN.keep (S.ET hi e) fun o e=>kp l o e),fun a ha vs e=>?_⟩
 ·unfold ES;rw [gg (fun q=>by rw [(S.as q).1] at e;cases e)];exact f.f0 a o (S.IS.1 a o e)
 ·unfold ES at e;split at e
  ·cases e
  ·exact f.fh a o e
 ·unfold ES at e;split at e
  ·cases e
  ·rename_i q;rcases f.fresh a o e with z | z
   ·left
    have z':CU F H (BU ss σ) a=some o:=z;unfold CU at z';rw [gg q] at z';exact z'
   ·exact .inr z
 ·obtain ⟨o,ho⟩:=Option.ne_none_iff_exists'.mp (S.as ha).2.1;have z:F' a=some o:=f.f0 a o (by show CU F H (BU ss σ) a=some o;unfold CU;rw [gq ha];exact ho);rw [z] at e;cases e;exact (S.as ha).2.2.1 vs ho
section
variable [Xw]
variable {K:ZAy}{k:PV->Prop}{lt:Bool}
def za (h:Wx ss te fun m u=>m=[]/\k u.pv):Wp ss te k:=⟨fun E σ F H Q S q=>
 h.go E σ F H _ S fun v m u F1 H1 m1 r nd hu ⟨em,kk⟩=>by
  subst em;have FH:∀ a∈u.addrs,H a=none:=fun a ha=>by
   rcases (hu a ha).2.2 with ⟨i,hi,_⟩ | z
   ·cases hi
   ·exact z
  obtain ⟨S1,nf⟩:=m1.st.lay u.addrs (fun a ha=>⟨(hu a ha).1,(hu a ha).2.1,r.there a ha⟩) fun a ha i s hs o=>S.Dk hs o (FH a ha);refine q v u.pv _ H1 ⟨S1,m1.ff.trans nf,m1.hh,fun a o e=>?_⟩ (r.rep nf fun a ha o ho=>by unfold CU;rw [gq ha];exact ho) kk;unfold CU at e;split at e
  ·rename_i z;exact .inr (FH a z)
  ·exact m1.nn a o e⟩
end
theorem Ph:∀ {xs:List PV},(∀ x∈xs,Ao x x=true)->Cm xs xs=true
 | [],_=>by rw [Cm]
 | x::r,h=>by rw [QB,h x (by simp),Ph (xs:=r) fun y hy=>h y (by simp [hy])];rfl
def qH {K:ZAy}:∀ (d:Nat){p:PV},dat K d p->Ao p p=true:=by
 intro d
 induction d with
 | zero=>intro p h;cases p <;> first | exact h.elim | (rw [Ao] <;> simp)
 | succ d ih=>
  intro p h;cases p with
  | lst xs=>rw [Ao];exact Ph fun x hx=>ih (h x hx)
  | tup xs=>rw [Ao];exact Ph fun x hx=>ih (h x hx)
  | con a xs=>rw [Ao];exact Ph fun x hx=>ih (h.1 x hx)
  | _=>first | exact h.elim | (rw [Ao] <;> simp)
end Fz
namespace L2
variable {M:Model}{A:Around}{E xe:Value->Shared->Prop}{s:Shared}{base h:Heap}{env:Env}{outer:List Env}{C S ea f fI:Addr}{dd dx tb:Option Addr}{w:World}{mg:ZB0}{N ps sn:List Str}{n name par qual x:Str}{scope:Scope}{cd v:Value}{H:Hp}{X:Cx}{E':St->XK}{BQ NV np p pos:Pos}{e e0:Expr}{es:List Expr}{t:TA}{ab j6:Bool}{prog:Program}{ZAh pins:ZAz}{σ:St}{j kk:Nat}{fd:FuncData}{body cT:List Stmt}{b0:Stmt}{XR:(St->XK)->TS}{th:TS}{sp:Sp}
section
variable {K:ZAy}{x t:Addr}
section
open PySem.Builtin PySem.Builtin.ObjectAttr
end
end
end L2
namespace Fz
open L2 Lw
variable {xs:List PV}{E:Ent0}{ss:List Slot}{σ:L2.St}{F F' F1 H H':Hp}{ta tb tc te ti:TE}{tp:Bool}{nx:List Slot->Prop}{R:Ag}
structure FX (K:ZAy) (a:Addr) (xs:List PV):Prop where
 IM:xs.all flat=true
 sq:∀ H,An K H a (xs.map Fz.enc)
 ob:∃ o:Obj,K.lookup a=some o/\o.cls=.type "tuple"
def FX.of {K:ZAy}{a:Addr}{vs:List V}(h:∀ H,An K H a vs)(e:xs.map Fz.enc=vs)(f:xs.all flat=true):FX K a xs:=by
 subst e;refine ⟨f,h,?_⟩;rcases h (fun _=>none) with h | ⟨o,A1,n,h1,h2,_⟩
 ·rcases h with h | ⟨_,h⟩
  ·cases h
  ·cases h
 ·exact ⟨o,h1,h2⟩
def S8:Pre:=fun l R=>∃ i:Int,l=[.is (.int i)]/\R=.is fun p=>p=.bl true
end Fz
namespace Fz
open L2 Lw
variable {E:Ent0}{ss:List Slot}{σ:L2.St}{F F' H H':Hp}{te:TE}{nx:List Slot->Prop}{R:Ag}{pre:Oi}
section
variable [Xw]
variable {K:ZAy}{ta tb tc:TE}{k:PV->Prop}{v:V}{tp:Bool}{xs:List PV}
def jL (h:Wp ss ta fun p=>∃ xs,p=.tup xs/\xs≠[]/\Wp ss tb fun q=>∃ ys,q=.tup ys/\xs.length+ys.length<=100000/\k (.tup (xs++ys))):Wp ss (BP (dw K) ta tb) k:=⟨fun E σ F H Q S q=>
 h.go E σ F H _ S fun v p F1 H1 m1 r1 ⟨xs,e,hx,h2⟩=>h2.go E σ F1 H1 _ m1.st fun v2 p2 F2 H2 m2 r2 ⟨ys,e2,hz,kk⟩=>by
  subst e;subst e2;cases r1 with
  | @tup a vs _ f1 s1=>
   cases r2 with
   | @tup b ws _ f2 s2=>
    have g1:=m2.ff _ _ f1;have t1:=s1.mono m2.ff;have l1:=t1.length;have l2:=s2.length;refine ⟨a,b,vs,ws,rfl,rfl,An.of (m2.st.fh _ _ g1),An.of (m2.st.fh _ _ f2),fun z=>hx ?_,small (by omega),fun z=>?_,fun _ c hc=>?_⟩
    ·rw [z] at l1;exact zw l1.symm
    ·have ey:ys=[]:=by rw [z] at l2;exact zw l2.symm
     subst ey;rw [DV] at kk;exact q _ _ F2 H2 (m1.trans m2) (.tup g1 t1) kk
    ·have m3:=m2.st.alloc hc (.tup (vs++ws));exact q _ _ _ _ (m1.trans (m2.trans m3)) (.tup Al ((t1.append s2).mono m3.ff)) kk⟩
end
@[reducible] def ZAl (X:XK) (D:Ex->Prop):Xw:=⟨fun _=>X,fun _=>True,D⟩
@[reducible] def xwT (E:Ent0) (J:List Slot->Prop) (D:Ex->Prop):Xw:=⟨fun σ C dx H=>∃ ss F x,J ss/\Sg E ss σ F H/\D x/\x.at F C dx,J,D⟩
end Fz
namespace Fz
open L2 Lw
variable {i j n:Nat}{l ss:List Slot}{ta tb te:TE}{a a0:Addr}{N ns:List Str}{F F' H H':Hp}{t t' u:OV}{pre:Pre}{X:XK}{σ:L2.St}{E:Ent0}{vs:List V}{nk:NK}{us:List OV}{Q:VK}
def kW {b c n:Int}(hb:1<=b)(hc:b<=c)(hn:0<=n):∃ m:Nat,(if (if c<n then c else n) > b then (if c<n then c else n) else b)=(m:Int)/\(m:Int)<=c:=by
 have h:∀ z:Int,1<=z->z<=c->∃ m:Nat,z=(m:Int)/\(m:Int)<=c:=fun z h0 h1=>⟨z.toNat,by omega,by omega⟩;apply h
 ·split
  ·omega
  ·omega
 ·split
  ·split <;> omega
  ·omega
section
variable [Xw]
variable {K:ZAy}{k:PV->Prop}
def Qo {neg:Bool}(c:FX K a (ns.map .str))(h:Wp ss ta fun p=>∃ x,p=.str x/\k (.bl (if neg then !decide (x∈ns) else decide (x∈ns)))):Wp ss (BP (GS K neg) ta (tC (.ref a))) k:=⟨fun E σ F H Q S q=>
 h.go E σ F H _ S fun v p F1 H1 m1 r1 ⟨x,e,kk⟩=>by
  subst e;cases r1;have sq:=c.sq H1;rw [SW] at sq;refine ⟨a,ns.map V.str,rfl,.inr sq,rfl,JV ns,?_⟩;rw [T4];exact q _ _ F1 H1 m1 (.bl _) kk⟩
end
def PX:PV->Bool
 | .A8=>true
 | _=>false
theorem Rep.PX {v:V}{p:PV}(r:Rep F v p):decide (v=.A8)=PX p:=by
 cases r <;> rfl
section
variable [Xw]
variable {k:PV->Prop}
def NW (h:Wp ss ta fun p=>Wp ss tb fun q=>q=.A8/\k (.bl (!PX p))):Wp ss (BP (fun x y H Q=>y=.A8/\Q (.bl (!decide (x=.A8))) H) ta tb) k:=⟨fun E σ F H Q S q=>
 h.go E σ F H _ S fun v p F1 H1 m1 r1 h2=>h2.go E σ F1 H1 _ m1.st fun v2 p2 F2 H2 m2 r2 ⟨e,kk⟩=>by
  subst e;cases r2;refine ⟨rfl,?_⟩;rw [r1.PX];exact q _ _ F2 H2 (m1.trans m2) (.bl _) kk⟩
variable {K:ZAy}{t u:TE}{pre:Oi}{tA:TA}
def kY (h:Wp ss t k):Wp ss (Ov t u) k:=⟨fun E σ F H Q S q=>.inl (h.go E σ F H Q S q)⟩
def pI (h:Wp ss u k):Wp ss (Ov t u) k:=⟨fun E σ F H Q S q=>.inr (h.go E σ F H Q S q)⟩
def wZ (h:Wp ss te fun p=>∃ x,p=.str x/\x.length<=1000/\k (.bl (isNm x))):Wp ss (E7 Rf [] E0 (Af te Az)) k:=⟨fun E σ F H Q S q=>
 h.go E σ F H _ S fun v p F1 H1 m1 r ⟨x,e,hx,kk⟩=>by
  subst e;cases r;exact ⟨x,rfl,hx,fun H3 s=>q _ _ F1 H3 (m1.trans (m1.st.grow s)) (.bl _) kk⟩⟩
end
def TZ (K:ZAy):List V->Hp->VK->Prop:=fun xs H Q=>∃ p ys,xs=[.ref p]/\(AI K H p ys∨An K H p ys)/\∀ l,H l=none->Q (.ref l) (upd H l (.lst ys))
def YQ {X:Cx}:C3 X (.type "list") (TZ X.K):=NY
def G6 (xs ys:List PV):List PV:=List.zipWith (fun x y=>.tup [x,y]) xs ys
def Qz (xs ys:List PV):(G6 xs ys).length=min xs.length ys.length:=by unfold G6;rw [List.length_zipWith]
def cG {xs ys:List PV}{x y:PV}(h:xs[i]?=some x)(h2:ys[i]?=some y):(G6 xs ys)[i]?=some (.tup [x,y]):=by
 unfold G6;rw [List.getElem?_zipWith,h,h2]
def DS (pre:Pre):Sp:=fun vs H Q _=>∃ (ss:List Slot) (R:Ag) (F:Hp) (A B:List Addr),pre ss R/\Sg ⟨A,F,H,B⟩ ss (vs.map some) F H/\∀ v F' H',Fin ⟨A,F,H,B⟩ F' H'->R.ok ⟨A,F,H,B⟩ F' H' v->Q v H'
inductive HI (F:Hp):List V->List Slot->Prop where
 | nil:HI F [] []
 | cons {v:V}{p:PV}{vs:List V}{l:List Slot}:Rep F v p->HI F vs l->HI F (v::vs) (.is p::l)
inductive Hb (σ:L2.St) (F:Hp) (i:Nat) (t:OV):List V->List Slot->Prop where
 | here {v:V}{vs:List V}{l:List Slot}:σ[i]?=some (some v)->HI F vs l->Hb σ F i t (v::vs) (.ow true t::l)
 | there {v:V}{p:PV}{vs:List V}{l:List Slot}:Rep F v p->Hb σ F i t vs l->Hb σ F i t (v::vs) (.is p::l)
theorem HI.len:∀ {vs:List V}{l:List Slot},HI F vs l->l.length=vs.length
 | _,_,.nil=>rfl
 | _,_,.cons _ t=>by rw [Bu,Bu,t.len]
theorem Hb.len:∀ {vs:List V}{l:List Slot},Hb σ F i t vs l->l.length=vs.length
 | _,_,.here _ r=>by rw [Bu,Bu,r.len]
 | _,_,.there _ h=>by rw [Bu,Bu,h.len]
theorem HI.at:∀ {vs:List V}{l:List Slot},HI F vs l->∀ {n:Nat}{s:Slot},l[n]?=some s->∃ v p,vs[n]?=some v/\s=.is p/\Rep F v p
 | _,_,.nil,_,_,e=>by simp at e
 | _,_,.cons r _,0,_,e=>by simp at e;subst e;exact ⟨_,_,rfl,rfl,r⟩
 | _,_,.cons _ t,n+1,s,e=>by
  obtain ⟨v,p,h⟩:=t.at (n:=n) (s:=s) (by simpa using e)
  exact ⟨v,p,by simpa using h⟩
theorem Hb.at:∀ {vs:List V}{l:List Slot},Hb σ F i t vs l->∃ m:Nat,∀ {n:Nat}{s:Slot},l[n]?=some s->(n=m/\s=.ow true t/\∃ v,vs[n]?=some v/\σ[i]?=some (some v))∨∃ v p,vs[n]?=some v/\s=.is p/\Rep F v p
 | _,_,.here e r=>⟨0,fun {n s} h=>by
  cases n with
  | zero=>simp at h;subst h;exact .inl ⟨rfl,rfl,_,rfl,e⟩
  | succ n=>
   obtain ⟨v,p,q⟩:=r.at (n:=n) (s:=s) (by simpa using h)
   exact .inr ⟨v,p,by simpa using q⟩⟩
 | _,_,.there r h=>by
  obtain ⟨m,hm⟩:=h.at;refine ⟨m+1,fun {n s} q=>?_⟩;cases n with
  | zero=>simp at q;subst q;exact .inr ⟨_,_,rfl,rfl,r⟩
  | succ n=>
   rcases hm (n:=n) (s:=s) (by simpa using q) with ⟨e,es,v,hv⟩ | ⟨v,p,hv⟩
   ·exact .inl ⟨by rw [e],es,v,by simpa using hv⟩
   ·exact .inr ⟨v,p,by simpa using hv⟩
structure Oz (E:Ent0) (ss:List Slot) (σ:L2.St) (i:Nat) (lt:Bool) (t t':OV) (F H F' H':Hp):Prop where
 st:Sg E (ss.set i (.ow lt t')) σ F' H'
 ff:AJ F F'
 hh:∀ a o,C9 ss σ a->a∉t.addrs->H a=some o->H' a=some o
 nn:∀ a o,F' a=some o->F a=some o∨H a=none
structure ML [Xw] (ss:List Slot) (ta:TA) (k:List Slot->Prop):Prop where
 go:∀ (E:Ent) (σ:L2.St) (F H:Hp) (Q:List V->Hp->Prop),Sg E ss σ F H->(∀ vs l F' H',Mv E ss σ F H F' H'->HI F' vs l->k l->Q vs H')->ta σ H Q
structure PN [Xw] (ss:List Slot) (i:Nat) (t:OV) (ta:TA) (k:List Slot->Prop):Prop where
 go:∀ (E:Ent) (σ:L2.St) (F H:Hp) (Q:List V->Hp->Prop),Sg E ss σ F H->(∀ vs l F' H',Mv E ss σ F H F' H'->Hb σ F' i t vs l->k l->Q vs H')->ta σ H Q
structure Wm [Xw] (ss:List Slot) (i:Nat) (lt:Bool) (t:OV) (te:TE) (k:PV->OV->Prop):Prop where
 go:∀ (E:Ent) (σ:L2.St) (F H:Hp) (Q:VK),Sg E ss σ F H->(∀ v p t' F' H',Oz E ss σ i lt t t' F H F' H'->Rep F' v p->k p t'->Q v H')->te σ H Q
def Sg.aD {lt:Bool}(S:Sg E ss σ F H)(hi:ss[i]?=some (.ow lt t))(a:Hb σ F i t vs l):Sg ⟨[],F,H,t.addrs⟩ l (vs.map some) F H:=by
 obtain ⟨v0,e0,r0,CA,q0⟩:=S.ok i _ hi;have nn:∀ {p:Prop}(a:Addr),a∈([]:List Addr)->p:=fun a h=>absurd h Aa;obtain ⟨m,hm⟩:=a.at;refine ⟨⟨S.fh,AJ.refl _,fun _ _ _ e=>e,fun _ _ e=>.inl e,fun a h=>nn a h,fun a h=>nn a h,fun a h=>nn a h,fun a h=>(q0 a h).1,fun a h=>r0.there a h,fun a h=>⟨r0.there a h,Aa⟩⟩,by rw [A9];exact a.len,fun n s hn=>?_,fun n j s u b ia hn hj ms mu=>?_⟩
 ·rcases hm hn with ⟨_,rfl,v,hv,ev⟩ | ⟨v,p,hv,rfl,r⟩
  ·rw [AV,hv];rw [e0] at ev;cases ev;exact ⟨v0,rfl,r0,CA,fun a ha=>⟨(q0 a ha).1,.inr ⟨rfl,ha⟩⟩⟩
  ·rw [AV,hv];exact ⟨v,rfl,r⟩
 ·rcases hm hn with ⟨e1,rfl,_⟩ | ⟨_,_,_,rfl,_⟩
  ·rcases hm hj with ⟨e2,rfl,_⟩ | ⟨_,_,_,rfl,_⟩
   ·exact ia (e1.trans e2.symm)
   ·cases mu
  ·cases ms
def Sg.fJ {lt:Bool}{GV:NK}{BR:List OV}(S:Sg E ss σ F H)(hi:ss[i]?=some (.ow lt (.nd nk a0 us)))(f:Fin ⟨[],F,H,(OV.nd nk a0 us).addrs⟩ F' H')(r:Am F' H' (.ref a0) (.nd GV a0 BR))(nd:(OV.nd GV a0 BR).addrs.Nodup)(q:∀ a∈(OV.nd GV a0 BR).addrs,F' a=none/\(H a=none∨a∈(OV.nd nk a0 us).addrs)):
  Oz E ss σ i lt (.nd nk a0 us) (.nd GV a0 BR) F H F' H':=by
 obtain ⟨v0,e0,r0,CA,q0⟩:=S.ok i _ hi;have ev:v0=.ref a0:=by cases r0;rfl
 subst ev;have AM:i<ss.length:=(List.getElem?_eq_some_iff.mp hi).1;have kp:∀ a o,a∉(OV.nd nk a0 us).addrs->H a=some o->H' a=some o:=fun a o n e=>f.keep a o ⟨Aa,n⟩ e;have Bl:∀ a,H a≠none->F a=none->F' a=none:=fun a h1 h2=>by
  cases e:F' a with
  | none=>rfl
  | some o=>
   rcases f.fresh a o e with z | z
   ·rw [show F a=some o from z] at h2;cases h2
   ·exact absurd z h1
 have vZ:∀ a,a∈E.A->a∉(OV.nd nk a0 us).addrs:=fun a hA hm=>by
  rcases (q0 a hm).2 with z | ⟨_,z⟩
  ·exact S.a0 a hA z
  ·exact (S.b0 a z).2 hA
 have other:∀ (j:Nat) s,j≠i->ss[j]?=some s->∀ a,B0 s σ[j]? a->a∉(OV.nd nk a0 us).addrs:=fun j s hj hs a ho hm=>S.Bd j i s _ a hj hs hi ho hm;refine ⟨⟨⟨f.fh,S.f0.trans f.f0,fun a o hA e=>?_,fun a o e=>?_,fun a hA=>?_,fun a hA=>?_,S.a0,fun a hB=>?_,fun a hB=>?_,S.b0⟩,by rw [JO];exact S.len,fun j s hj=>?_,fun j k s u b Q8 hj hk ms mu=>?_⟩,f.f0,fun a o _ n e=>kp a o n e,fun a o e=>f.fresh a o e⟩
 ·refine kp a o (fun hm=>?_) (S.keep a o hA e);rcases (q0 a hm).2 with z | ⟨_,z⟩
  ·rw [e] at z;cases z
  ·exact hA.2 z
 ·rcases f.fresh a o e with z | z
  ·exact S.fresh a o z
  ·exact .inr (S.DD z)
 ·exact BN.keep (S.GR a hA) fun o e=>kp a o (vZ a hA) e
 ·obtain ⟨_,_,e1,_⟩:=S.GR a hA;exact Bl a (by rw [e1];simp) (S.O4 a hA)
 ·exact Bl a (S.bH a hB) (S.bF a hB)
 ·by_cases hm:a∈(OV.nd nk a0 us).addrs
  ·exact f.bH a hm
  ·intro z;cases e:H a with
   | none=>exact S.bH a hB e
   | some o=>rw [kp a o hm e] at z;cases z
 ·by_cases c:j=i
  ·subst c;rw [DG AM] at hj;cases hj;refine ⟨.ref a0,e0,r,nd,fun a ha=>⟨(q a ha).1,?_⟩⟩;rcases (q a ha).2 with z | z
   ·exact .inl (S.DD z)
   ·exact (q0 a z).2
  ·rw [Cs (Bj c)] at hj
   by_cases np:s=.AQ
   ·subst np;obtain ⟨l,e,fl,hl,pt⟩:=S.ok j _ hj;obtain ⟨_,_,e1,_⟩:=id pt;exact ⟨l,e,Bl l (by rw [e1];simp) fl,hl,BN.keep pt fun o z=>kp l o (other j _ c hj l e) z⟩
   ·exact Ok.go S hj f.f0 (fun a o ho e=>kp a o (other j s c hj a ho) e) Bl np
 ·have at_:∀ (n:Nat) s,(ss.set i (.ow lt (.nd GV a0 BR)))[n]?=some s->(n=i/\s=.ow lt (.nd GV a0 BR))∨(n≠i/\ss[n]?=some s):=fun n s hn=>by
   by_cases c:n=i
   ·subst c;rw [DG AM] at hn;exact .inl ⟨rfl,(B8 hn).symm⟩
   ·rw [Cs (Bj c)] at hn;exact .inr ⟨c,hn⟩
  have YV:∀ (n:Nat) s,n≠i->ss[n]?=some s->B0 s σ[n]? b->b∉(OV.nd GV a0 BR).addrs:=fun n s hn hs ho hm=>by
   rcases (q b hm).2 with z | z
   ·exact S.Dk hs ho z
   ·exact other n s hn hs b ho z
  rcases at_ j s hj with ⟨e1,rfl⟩ | ⟨n1,h1⟩
  ·rcases at_ k u hk with ⟨e2,rfl⟩ | ⟨n2,h2⟩
   ·exact Q8 (e1.trans e2.symm)
   ·exact YV k u n2 h2 mu ms
  ·rcases at_ k u hk with ⟨e2,rfl⟩ | ⟨n2,h2⟩
   ·exact YV j s n1 h1 ms mu
   ·exact S.Bd j k s u b Q8 h1 h2 ms mu
section
variable [Xw]
variable {ta:TA}{lt:Bool}{nx:List Slot->Prop}{R:Ag}
def MD {k:List Slot->Prop}(h:k []):ML ss Az k:=⟨fun E σ F H Q S q=>q [] [] F H (Mv.refl S) .nil h⟩
def yO {k:List Slot->Prop}(h:Wp ss te fun p=>ML ss ta fun l=>k (.is p::l)):ML ss (Af te ta) k:=⟨fun E σ F H Q S q=>
 h.go E σ F H _ S fun v p F1 H1 m1 r h2=>h2.go E σ F1 H1 _ m1.st fun vs l F2 H2 m2 a kk=>q _ _ F2 H2 (m1.trans m2) (.cons (r.mono m2.ff) a) kk⟩
def Ot {k:List Slot->Prop}(hi:ss[i]?=some (.ow lt t))(h:ML ss ta fun l=>k (.ow true t::l)):PN ss i t (Af (B1 i) ta) k:=⟨fun E σ F H Q S q=>by
 obtain ⟨v0,e0,_⟩:=S.ok i _ hi;exact ⟨_,e0,h.go E σ F H _ S fun vs l F2 H2 m2 a kk=>q _ _ F2 H2 m2 (.here e0 a) kk⟩⟩
def FW {k:List Slot->Prop}(h:Wp ss te fun p=>PN ss i t ta fun l=>k (.is p::l)):PN ss i t (Af te ta) k:=⟨fun E σ F H Q S q=>
 h.go E σ F H _ S fun v p F1 H1 m1 r h2=>h2.go E σ F1 H1 _ m1.st fun vs l F2 H2 m2 a kk=>q _ _ F2 H2 (m1.trans m2) (.there (r.mono m2.ff) a) kk⟩
def Mv.jF {F1 H1 F2 H2:Hp}(hi:ss[i]?=some (.ow lt t))(a:Mv E ss σ F H F1 H1)(b:Oz E ss σ i lt t t' F1 H1 F2 H2):Oz E ss σ i lt t t' F H F2 H2:=
 ⟨b.st,a.ff.trans b.ff,fun c o n z e=>b.hh c o n z (a.hh c o n e),fun c o e=>(b.nn c o e).elim (fun e=>a.nn c o e) fun e=>.inr (a.none e)⟩
def P4 {k:PV->OV->Prop}(hi:ss[i]?=some (.ow lt (.nd nk a0 us)))(h:PN ss i (.nd nk a0 us) ta fun l=>∃ k',pre l (.mt k')/\∀ p t',k' p t'->∃ GV BR,t'=.nd GV a0 BR/\k p t'):Wm ss i lt (.nd nk a0 us) (E7 (DS pre) [] E0 ta) k:=⟨fun E σ F H Q S q=>
 h.go E σ F H _ S fun vs l F1 H1 m1 a ⟨k',hp,kk⟩=>by
  rw [DV];refine ⟨l,.mt k',F1,[],(OV.nd nk a0 us).addrs,hp,m1.st.aD hi a,fun v F' H' f ⟨p,t',r,ro,nd,qa,kp⟩=>?_⟩;obtain ⟨GV,BR,rfl,k2⟩:=kk p t' kp;exact q v p _ F' H' (m1.jF hi (m1.st.fJ hi f ro nd qa)) r k2⟩
def fN (h:Wm ss i lt t te fun _ t'=>nx (ss.set i (.ow lt t'))):Ws ss (Gr te) nx R:=⟨fun E D σ F H S hn hr=>
 h.go E σ F H _ S fun v p t' F1 H1 m1 r kk=>hn _ σ F1 H1 kk m1.st m1.ff⟩
def cj (h:Wm ss i lt t te fun p t'=>nx ((ss.set i (.ow lt t')).set j (.is p))):Ws ss (DK te (Bz j)) nx R:=⟨fun E D σ F H S hn hr=>
 h.go E σ F H _ S fun v p t' F1 H1 m1 r kk=>hn _ _ F1 H1 kk (m1.st.Fs r) m1.ff⟩
def PL {k:PV->OV->Prop}(hi:ss[i]?=some (.ow lt (.nd nk a0 us)))(h:Wp ss te fun p=>k p (.nd nk a0 us)):Ws ss (JT te) nx (.mt k):=⟨fun E D σ F H S hn hr=>
 h.go E σ F H _ S fun v p F1 H1 m1 r kk=>by
  obtain ⟨v0,e0,r0,CA,q0⟩:=m1.st.ok i _ hi;have ev:v0=.ref a0:=by cases r0;rfl
  subst ev;exact hr v F1 H1 m1.st.toFin ⟨p,.nd nk a0 us,r,r0,CA,fun a ha=>⟨(q0 a ha).1,(q0 a ha).2.imp id fun z=>z.2⟩,kk⟩⟩
end
def ij {t:TS}(h:DS pre vs H Q X)(hl:∀ ss R,pre ss R->ss.length=n)
  (hw:∀ ss R,pre ss R->Ws (ss++List.replicate (N.length - n) .any) t (fun _=>False) R):t { nx:=fun _ H'=>Q .A8 H',rt:=Q } (L2.start N vs) H:=by
 obtain ⟨ss,R,F,A,B,hp,S,q⟩:=h;have e:vs.length=n:=by have:=S.len;rw [A9] at this;rw [<- this];exact hl ss R hp
 unfold L2.start;rw [e];exact (hw ss R hp).go (Nv ⟨A,F,H,B⟩) _ _ F H (S.grown _) (fun A7 σ' F' H' z S' _=>z.elim) fun v F' H' f ok=>q v F' H' f ok
def SA (hl:∀ ss R,pre ss R->ss.length=n)(h:DS pre vs H Q X):vs.length=n:=by
 obtain ⟨ss,R,F,A,B,hp,S,q⟩:=h;have:=S.len;rw [A9] at this;rw [<- this];exact hl ss R hp
end Fz
namespace L2
section
variable {X:Cx}{o i value:Expr}{td ty tv:TE}{pos pos':Pos}
def GH (hu:X.A.units+1<cLine)(ho:QE X o td)(hi:QE X i ty)(hs:Vp i):QE X (.Subscript o i pos) (Qj td ty):=⟨by
 have ho:=ho.h;have hi:=hi.h;intro pins s σ H Q I h;refine nK PySem.F.slot_dict_getitem.lookup hs (AF (ho pins s σ H _ I h) fun u s1 ⟨x,H1,I1,rx,q1⟩=>AF (hi pins s1 σ H1 _ I1 q1) fun iv s2 ⟨y,H2,I2,ry,a,v,ex,g,q2⟩=>?_);subst ex;obtain rfl:u=Value.ref a:=rx;exact ⟨qr I2 g,sg hu I2 g ry fun w' s3 I3 Es=>⟨v,H2,I3,Es,q2⟩⟩⟩
def J9 (hu:X.A.units+1<cLine)(ho:QE X o td)(hi:QE X i ty)(hv:QE X value tv)(hs:swapsWith value (some (.Subscript o i pos')) pos.line X.env=pure false:=by rfl):
  QS X (.Assign [.Subscript o i pos'] value pos) (Oa td ty tv):=⟨by
 have ho:=ho.h;have hi:=hi.h;have hv:=hv.h;intro pins s σ H D I h;refine wpAny_Assign_Subscript (AF (hv pins s σ H _ I h) fun r s1 ⟨v,H1,I1,rv,q1⟩=>AF (ho pins s1 σ H1 _ I1 q1) fun u s2 ⟨x,H2,I2,rx,q2⟩=>AF (hi pins s2 σ H2 _ I2 q2) fun iv s3 ⟨y,H3,I3,ry,a,H4,ex,g,q3⟩=>?_) hs;subst ex;obtain rfl:u=Value.ref a:=rx;exact zF hu I3 g ry rv fun s4 I4=>⟨σ,H4,I4,q3⟩⟩
def Kl:QE X (.Dict [] [] pos) RQ:=⟨fun pins s σ H Q I h=>
 wpAny_Dict_empty ⟨.ref s.heap.objs.size,_,I.laid (a:=s.heap.objs.size) (o:=.dK []) (t':=s.toks) (fun _ _ q=>Bi _ q) (Aj _) (Z8 s.heap I.big),rfl,h _ (I.AG.fresh (Aj _))⟩⟩
end
end L2
namespace Fz
open L2 Lw
variable {F F0 H H0:Hp}{ss:List Slot}{ta td tv ty:TE}{nx:List Slot->Prop}{R:Ag}{i:Nat}{ks:List Key}{C a dx:Addr}{xs:List PV}{B7 vs:List V}{t u w:OV}{BR us:List OV}{E:Ent0}{σ:L2.St}{m p:List Nat}{f:Str}{ns:List Str}{pre:Pre}
def Gg:Key->PV
 | .inl i=>.int i
 | .inr x=>.str x
def Dj:List Key->List PV->Key->Option PV
 | k'::ks,x::xs,k=>if k'=k then some x else Dj ks xs k
 | _,_,_=>none
def EO (ks:List Key)(k:Key):Bool:=ks.any fun k'=>decide (k'=k)
def Dl (ks:List Key)(k:Key):List Key:=if EO ks k=true then ks else ks++[k]
def He:List Key->List PV->Key->PV->List PV
 | k'::ks,x::xs,k,p=>(if k'=k then p else x)::He ks xs k p
 | _,xs,_,_=>xs
def IY (ks:List Key)(xs:List PV)(k:Key)(p:PV):List PV:=if EO ks k=true then He ks xs k p else xs++[p]
def Lp {v:V}{k:Key}(r:Rep F v (Gg k)):v=kV k:=by
 cases k with
 | inl i=>cases r;rfl
 | inr x=>cases r;rfl
theorem Tf {F:Hp}{k:Key}{y:PV}:∀ {ks:List Key}{vs:List V}{xs:List PV},AH F vs xs->ks.length=vs.length->Dj ks xs k=some y->∃ v,DY (ks.zip vs) k=some v/\Rep F v y
 | [],_,_,_,_,h=>by rw [Dj] at h;cases h;all_goals simp
 | k'::ks,v::vs,x::xs,.cons r t,hl,h=>by
  rw [Dj] at h;rw [FP]
  by_cases c:k'=k
  ·rw [gq c] at h;cases h;exact ⟨v,N7 c,r⟩
  ·rw [gg c] at h;obtain ⟨w,h1,h2⟩:=Tf t (by simpa using hl) h
   exact ⟨w,by rw [LK c];exact h1,h2⟩
 | k'::ks,[],xs,_,hl,_=>by simp at hl
section
variable [Xw]
variable {k:PV->Prop}{lt:Bool}
def Gi (h:Wp ss td fun p=>∃ ks xs,p=.Ah ks xs/\Wp ss ty fun q=>∃ key y,q=Gg key/\Dj ks xs key=some y/\k y):Wp ss (Qj td ty) k:=⟨fun E σ F H Q S q=>
 h.go E σ F H _ S fun v p F1 H1 m1 r1 ⟨ks,xs,e,h2⟩=>h2.go E σ F1 H1 _ m1.st fun v2 p2 F2 H2 m2 r2 ⟨key,y,e2,hy,kk⟩=>by
  subst e;subst e2;have KY:=r1.mono m2.ff;cases KY with
  | Ah ef hl rr=>
   obtain ⟨w,hw,rw_⟩:=Tf rr hl hy;refine ⟨_,w,rfl,?_,q w y F2 H2 (m1.trans m2) rw_ kk⟩;rw [<- hw,Lp r2];exact EA.k (m2.st.fh _ _ ef)⟩
def Lg {k:List Nat->OV->Prop}(h:∀ a,k [] (.nd (.Ah []) a (([]:List PV).map .fz))):Wx ss RQ k:=⟨fun E σ F H Q S q p hp=>by
 have m:=S.make hp (.dK []);refine q _ [] (.nd (.Ah []) p (([]:List PV).map .fz)) F _ m (.nd (k:=.Ah []) (vs:=[]) Al trivial rfl .nil) (by rw [OV.Cg];simp [NK.more,OV.FL]) (fun a ha=>?_) (h p);rw [OV.Cg] at ha;have e:a=p:=by simpa [NK.more,OV.FL] using ha
 subst e;exact ⟨S.Bl hp,S.DD hp,.inr hp⟩⟩
def aL (ks:List Key)(a:Addr)(xs:List PV):(OV.nd (.Ah ks) a (xs.map .fz)).addrs=[a]:=by rw [OV.Cg,WA];rfl
theorem Qn:∀ {ks:List Key}{vs:List V}{key:Key},ks.length=vs.length->(ks.zip vs).any (fun kv=>decide (kv.1=key))=EO ks key
 | [],vs,key,h=>rfl
 | k'::ks,w::vs,key,h=>by
  rw [FP,M6,Qn (by simpa using h)]
  rfl
 | _::_,[],_,h=>by simp at h
def DB:List Key->List V->Key->V->List V
 | k'::ks,x::xs,k,p=>(if k'=k then p else x)::DB ks xs k p
 | _,xs,_,_=>xs
theorem RT:∀ {ks:List Key}{vs:List V}{key:Key}{v:V},(ks.zip vs).map (fun kv=>if kv.1=key then (kv.1,v) else kv)=ks.zip (DB ks vs key v)
 | [],vs,key,v=>by simp
 | k'::ks,w::vs,key,v=>by
  rw [FP,Ac,RT,DB,FP]
  by_cases c:k'=key
  ·rw [gq c,gq c]
  ·rw [gg c,gg c]
 | _::_,[],_,_=>by simp [DB]
theorem YO:∀ (ks:List Key) (vs:List V) (key:Key) (v:V),(DB ks vs key v).length=vs.length
 | [],vs,key,v=>by rw [DB];simp
 | k'::ks,w::vs,key,v=>by rw [DB,Bu,YO,Bu]
 | _::_,[],_,_=>by rw [DB];simp
theorem T5 {F:Hp}{key:Key}{v:V}{p:PV}(r:Rep F v p):∀ {ks:List Key}{vs:List V}{xs:List PV},AH F vs xs->AH F (DB ks vs key v) (He ks xs key p)
 | [],vs,xs,h=>by rw [DB,He];exact h;all_goals simp
 | k'::ks,_,_,.nil=>by rw [DB,He];exact .nil;all_goals simp
 | k'::ks,_,_,.cons q t=>by
  rw [DB,He]
  by_cases c:k'=key
  ·rw [gq c,gq c];exact .cons r (T5 r t)
  ·rw [gg c,gg c];exact .cons q (T5 r t)
def Qi (hi:ss[i]?=some (.ow lt (.nd (.Ah ks) a (xs.map .fz))))(h:Wp ss tv fun p=>Wp ss ty fun q=>∃ key,q=Gg key/\ks.length<=99999/\nx (ss.set i (.ow lt (.nd (.Ah (Dl ks key)) a ((IY ks xs key p).map .fz))))):Ws ss (Oa (B1 i) ty tv) nx R:=⟨fun E D σ F H S hn hr=>
 h.go E σ F H _ S fun v p F1 H1 m1 rv h2=>by
  obtain ⟨v0,e0,r0,_,_⟩:=m1.st.ok i _ hi;have ev:v0=.ref a:=by cases r0;rfl
  subst ev;refine ⟨_,e0,h2.go E σ F1 H1 _ m1.st fun v2 q F2 H2 m2 r2 ⟨key,eq,hz,kk⟩=>?_⟩;subst eq;have Jo:=rv.mono m2.ff;obtain ⟨v3,e3,r3,nd3,q3⟩:=m2.st.ok i _ hi;cases r3 with
  | @nd _ _ vs _ ha sd ft rr=>
   have cY:=rr.aV;have Ff:ks.length=vs.length:=ft;have Um:(ks.zip vs).length<=99999:=by rw [M8];omega
   refine ⟨a,_,rfl,by rw [Lp r2];exact LD.k ha (Gv Um),?_⟩;obtain ⟨B7,NX,JG,ep⟩:∃ B7:List V,(Dl ks key).length=B7.length/\AH F2 B7 (IY ks xs key p)/\putK (ks.zip vs) key v=(Dl ks key).zip B7:=by
    unfold putK Dl IY;rw [Qn Ff]
    by_cases c:EO ks key=true
    ·rw [gq c,gq c,gq c];exact ⟨DB ks vs key v,by rw [YO];exact Ff,T5 Jo cY,RT⟩
    ·rw [gg c,gg c,gg c];exact ⟨vs++[v],by rw [Bo,Bo,Ff];rfl,cY.append (.one Jo),by rw [List.zip_append Ff];rfl⟩
   rw [ep];have M:=m2.st.QC (p:=[]) (n:=.nd (.Ah (Dl ks key)) a ((IY ks xs key p).map .fz)) (ho:=.dK ((Dl ks key).zip B7)) hi OV.Iu (.nd (k:=.Ah (Dl ks key)) Al trivial NX (OL JG)) (by rw [aL];simp) fun b hb=>.inl (by rw [aL] at hb ⊢;exact hb);rw [OV.Gq] at M;exact hn _ σ F2 _ kk M (m1.ff.trans m2.ff)⟩
end
def Eg:List Key->Key->Option Nat
 | [],_=>none
 | k'::ks,k=>if k'=k then some 0 else (Eg ks k).map (· + 1)
theorem fB:∀ {ks:List Key}{key:Key}{n:Nat},Eg ks key=some n->ks[n]?=some key
 | [],_,_,h=>by cases h
 | k'::ks,key,n,h=>by
  rw [Eg] at h
  by_cases c:k'=key
  ·rw [gq c] at h;cases h;subst c;rfl
  ·rw [gg c] at h;cases e:Eg ks key with
   | none=>rw [e] at h;cases h
   | some m=>rw [e] at h;cases h;exact fB (ks:=ks) e
theorem Sy:∀ {ks:List Key}{key:Key},(Eg ks key).isSome=EO ks key
 | [],_=>rfl
 | k'::ks,key=>by
  rw [Eg];unfold EO;rw [M6]
  by_cases c:k'=key
  ·rw [gq c,hJ c];rfl
  ·rw [gg c,iB c,fi,X6,Sy];rfl
def eQ {key:Key}(hl:ks.length=vs.length):(DY (ks.zip vs) key).isSome=EO ks key:=by
 rw [<- OU,Qn hl]
theorem b7:∀ {ks:List Key}{vs:List V}{key:Key}{n:Nat}{v:V},ks.Nodup->Eg ks key=some n->DB ks vs key v=vs.set n v
 | [],_,_,_,_,_,h=>by cases h
 | k'::ks,[],key,n,v,_,h=>by rw [DB];simp;simp
 | k'::ks,w::vs,key,n,v,nd,h=>by
  rw [Eg] at h;obtain ⟨n1,n2⟩:=List.nodup_cons.mp nd;rw [DB]
  by_cases c:k'=key
  ·rw [gq c] at h;cases h;rw [gq c,X1]
   congr 1
   subst c;have aux:∀ {ks:List Key}{vs:List V},k'∉ks->DB ks vs k' v=vs:=by
    intro ks
    induction ks with
    | nil=>intro vs _;rw [DB];simp
    | cons k2 ks ih=>
     intro vs hn;cases vs with
     | nil=>rw [DB];simp
     | cons u vs=>
      rw [DB,gg (fun z=>hn (by rw [z];simp)),ih (fun z=>hn (by simp [z]))]
   exact aux n1
  ·rw [gg c] at h;cases e:Eg ks key with
   | none=>rw [e] at h;cases h
   | some m=>
    rw [e] at h;cases h;rw [gg c,RE,b7 n2 e]
section
variable [Xw]
variable {k:PV->Prop}
def Yr (h:Wp ss ty fun q=>Wl ss i t td fun _ u=>∃ ks a us key,u=.nd (.Ah ks) a us/\q=Gg key/\k (.bl (EO ks key))):Wp ss (VB ty td) k:=⟨fun E σ F H Q S q=>
 h.go E σ F H _ S fun v p F1 H1 m1 r1 h2=>h2.go E σ F1 H1 _ m1.st fun v2 p2 u F2 H2 m2 r2 BZ ⟨ks,a,us,key,eu,eq,kk⟩=>by
  subst eu;subst eq;cases r2 with
  | @nd _ _ vs _ ha sd ft rr=>
   refine ⟨a,DY (ks.zip vs) key,rfl,by rw [Lp r1];exact EA.k ha,?_⟩;rw [eQ ft];exact q _ _ F2 H2 (m1.trans m2) (.bl _) kk⟩
def jO (h:Wp ss ty fun q=>Wp ss td fun u=>∃ ks xs key,u=.Ah ks xs/\q=Gg key/\k (.bl (!EO ks key))):Wp ss (US ty td) k:=⟨fun E σ F H Q S q=>
 h.go E σ F H _ S fun v p F1 H1 m1 r1 h2=>h2.go E σ F1 H1 _ m1.st fun v2 u F2 H2 m2 r2 ⟨ks,xs,key,eu,eq,kk⟩=>by
  subst eu;subst eq;cases r2 with
  | @Ah a _ vs _ ef hl rr=>
   refine ⟨a,DY (ks.zip vs) key,rfl,by rw [Lp r1];exact EA.k (m2.st.fh _ _ ef),?_⟩;rw [eQ hl];exact q _ _ F2 H2 (m1.trans m2) (.bl _) kk⟩
def Le:(OV.nd (.Ah ks) a us).addrs=a::OV.AX us:=by rw [OV.Cg];rfl
def ak {lt:Bool}:∀ (m:List Nat) (ss:List Slot),ss[i]?=some (.ow lt t)->i∉m->(Fz.Cz m ss)[i]?=some (.ow lt t):=by
 intro m
 induction m with
 | nil=>intro ss h _;exact h
 | cons j m ih=>
  intro ss h hm;refine ih _ ?_ fun z=>hm (by simp [z]);rw [Cs (by rintro rfl;exact hm (by simp))];exact h
def Sg.tK {lt:Bool}{Qu:List Key}(S0:Sg E ss σ F0 H0)(S:Sg E ss σ F H)(hi:ss[i]?=some (.ow lt t))(BZ:t.at p=some (.nd (.Ah ks) a us))
  (hu:∀ a∈u.addrs,F a=none/\E.H0 a=none/\((∃ i∈m,∃ s,s≠Slot.AQ/\ss[i]?=some s/\B0 s σ[i]? a)∨H0 a=none)) (Dz:i∉m)
  (hr:Ak F H B7 BR) (hl:Qu.length=B7.length) (Me:(OV.AX BR).Nodup) (HC:∀ b∈OV.AX BR,b∈OV.AX us∨b∈u.addrs):Sg E ((Fz.Cz m ss).set i (.ow lt (t.put p (.nd (.Ah Qu) a BR)))) σ F (upd H a (.dK (Qu.zip B7))):=by
 have Bb:=ak m ss hi Dz;obtain ⟨v,e,r,nd,q⟩:=S.ok i _ hi;have ut:∀ b,b∈a::OV.AX us->b∈t.addrs:=fun b hb=>OV.JZ BZ b (by rw [Le];exact hb);have L7:∀ b∈u.addrs,b∉t.addrs:=fun b hb z=>by
  rcases (hu b hb).2.2 with ⟨j,hj,s,_,hs,o⟩ | w
  ·exact S.Bd j i s _ b (by rintro rfl;exact Dz hj) hs hi o z
  ·exact S0.Dk hi z w
 have Dp:(OV.nd (.Ah ks) a us).addrs.Nodup:=by
  obtain ⟨l,rr,e1,_⟩:=OV.split BZ;rw [e1,CV,CV] at nd;exact nd.1.2.1
 rw [Le] at Dp;have na:∀ b∈OV.AX BR,b≠a:=fun b hb z=>by
  subst z;rcases HC b hb with w | w
  ·exact (List.nodup_cons.mp Dp).1 w
  ·exact L7 b w (ut b (by simp))
 refine (S.Cz m).QC Bb BZ (.nd (k:=.Ah Qu) Al trivial hl (hr.mono (AJ.refl _) fun b hb o ho=>by rw [AS (na b hb)];exact ho)) (by rw [Le];exact List.nodup_cons.mpr ⟨fun z=>na a z rfl,Me⟩) fun b hb=>?_;rw [Le] at hb ⊢;rcases List.mem_cons.mp hb with w | w
 ·exact .inl (by simp [w])
 ·rcases HC b w with z | z
  ·exact .inl (by simp [z])
  ·refine .inr ⟨(hu b z).1,(hu b z).2.1,fun j s hs o=>?_⟩;rcases O3 hs with y | ⟨Fu,hm⟩
   ·subst y;cases o
   ·rcases (hu b z).2.2 with ⟨i2,Dn,s2,_,CT,o2⟩ | y
    ·exact S.Bd j i2 s s2 b (by rintro rfl;exact hm Dn) Fu CT o o2
    ·exact S0.Dk Fu o y
def Ib (ks:List Key)(us:List OV)(key:Key)(w:OV):List OV:=match Eg ks key with
 | some n=>us.set n w
 | none=>us++[w]
def Qd (h:Wx ss tv fun m w=>Wl ss i t td fun p u=>∃ lt a ks us,ss[i]?=some (.ow lt t)/\u=.nd (.Ah ks) a us/\us.length<=99999/\ks.Nodup/\i∉m/\Wp ss ty fun q=>∃ key,q=Gg key/\nx ((Fz.Cz m ss).set i (.ow lt (t.put p (.nd (.Ah (Dl ks key)) a (Ib ks us key w)))))):Ws ss (Oa td ty tv) nx R:=⟨fun E D σ F H S hn hr=>
 h.go E σ F H _ S fun v m w F1 H1 m1 r1 Fx a1 h2=>h2.go E σ F1 H1 _ m1.st fun v2 p u F2 H2 m2 r2 BZ ⟨lt,a,ks,us,hi,eu,hz,hk,Dz,h3⟩=>h3.go E σ F2 H2 _ m2.st fun v3 q F3 H3 m3 r3 ⟨key,eq,kk⟩=>by
  subst eu;subst eq;have ev:v2=.ref a:=by cases r2;rfl
  subst ev;have J1:=m2.trans m3;have np:∀ b∈w.addrs,C9 ss σ b:=fun b hb k hk ek=>by
   rcases (a1 b hb).2.2 with ⟨j,hj,s,hs,NM,o⟩ | z
   ·exact S.Bd j k s _ b (fun e=>by subst e;rw [NM] at hk;exact hs (B8 hk)) NM hk o ek
   ·exact S.Dk hk ek z
  have KY:Am F3 H3 v w:=r1.mono J1.ff fun b hb o e=>J1.hh b o (np b hb) e;have Nz:∀ b∈w.addrs,F3 b=none/\E.H0 b=none/\((∃ i∈m,∃ s,s≠Slot.AQ/\ss[i]?=some s/\B0 s σ[i]? b)∨H b=none):=fun b hb=>by
   refine ⟨?_,(a1 b hb).2⟩;cases e:F3 b with
   | none=>rfl
   | some o=>
    rcases J1.nn b o e with z | z
    ·rw [(a1 b hb).1] at z;cases z
    ·exact absurd z (r1.there b hb)
  have r4:=r2.mv m2.st ⟨lt,hi⟩ BZ m3;cases r4 with
  | @nd _ _ vs _ ha sd ft rr=>
   have Ff:ks.length=vs.length:=ft;have vl:=rr.length;have Um:(ks.zip vs).length<=99999:=by rw [M8];omega
   refine ⟨a,_,rfl,by rw [Lp r3];exact LD.k ha (Gv Um),?_⟩;obtain ⟨v0,e0,r0,CA,q0⟩:=m3.st.ok i _ hi;have Dp:(OV.nd (.Ah ks) a us).addrs.Nodup:=by
    obtain ⟨l,rr,e1,_⟩:=OV.split BZ;rw [e1,CV,CV] at CA;exact CA.1.2.1
   rw [Le] at Dp;have apart:∀ b∈w.addrs,b∉OV.AX us:=fun b hb z=>by
    have bt:b∈t.addrs:=OV.JZ BZ b (by rw [Le];simp [z]);rcases (a1 b hb).2.2 with ⟨j,hj,s,_,hs,o⟩ | y
    ·exact S.Bd j i s _ b (by rintro rfl;exact Dz hj) hs hi o bt
    ·exact S.Dk hi bt y
   obtain ⟨B7,ep,NX,JG,EY,sb⟩:∃ B7:List V,putK (ks.zip vs) key v=(Dl ks key).zip B7/\(Dl ks key).length=B7.length/\Ak F3 H3 B7 (Ib ks us key w)/\(OV.AX (Ib ks us key w)).Nodup/\∀ b∈OV.AX (Ib ks us key w),b∈OV.AX us∨b∈w.addrs:=by
    unfold putK Dl Ib;rw [Qn Ff];cases e:Eg ks key with
    | some n=>
     have c:EO ks key=true:=by rw [<- Sy,e];rfl
     have Rm:n<us.length:=by
      have:=(List.getElem?_eq_some_iff.mp (fB e)).1;omega
     obtain ⟨l,r,e1,e2⟩:=Ii (AR Rm);rw [gq c,gq c,RT,b7 hk e];refine ⟨vs.set n v,rfl,by rw [JO];exact Ff,rr.set n KY,?_,fun b hb=>?_⟩
     ·show (OV.AX (us.set n w)).Nodup;rw [e2];have n1:=(List.nodup_cons.mp Dp).2;rw [e1] at n1;exact Td n1 Fx fun b hb=>.inr (by rw [<- e1];exact apart b hb)
     ·have DO:b∈OV.AX (us.set n w):=hb;rw [e2] at DO;rcases List.mem_append.mp DO with z | z
      ·rcases List.mem_append.mp z with z | z
       ·exact .inl (by rw [e1];simp [z])
       ·exact .inr z
      ·exact .inl (by rw [e1];simp [z])
    | none=>
     have c:¬ EO ks key=true:=by rw [<- Sy,e];decide
     rw [gg c,gg c];refine ⟨vs++[v],by rw [List.zip_append Ff];rfl,by rw [Bo,Bo,Ff];rfl,rr.append (.one KY),?_,fun b hb=>?_⟩
     ·show (OV.AX (us++[w])).Nodup;rw [Ig,KS,CV];exact ⟨(List.nodup_cons.mp Dp).2,Fx,fun x hx y hy e=>apart y hy (e▸hx)⟩
     ·have DO:b∈OV.AX (us++[w]):=hb;rw [Ig,KS] at DO;exact List.mem_append.mp DO
   rw [ep];exact hn _ σ F3 _ kk (Sg.tK (u:=w) S m3.st hi BZ Nz Dz JG NX EY sb) (m1.ff.trans J1.ff)⟩
end
def D0:List Str->Str->Option Nat
 | [],_=>none
 | g::ns,f=>if g=f then some 0 else (D0 ns f).map (· + 1)
def Mg (ns:List Str)(f:Str):List Str:=match D0 ns f with
 | some _=>ns
 | none=>ns++[f]
def N4 (ns:List Str)(us:List OV)(f:Str)(w:OV):List OV:=match D0 ns f with
 | some n=>us.set n w
 | none=>us++[w]
def Ly (ns:List Str)(vs:List V)(f:Str)(w:V):List V:=match D0 ns f with
 | some n=>vs.set n w
 | none=>vs++[w]
theorem dX:∀ {ns:List Str}{f:Str}{n:Nat},D0 ns f=some n->n<ns.length
 | [],_,_,h=>by cases h
 | g::ns,f,n,h=>by
  rw [D0] at h
  by_cases c:g=f
  ·rw [gq c] at h;cases h;exact Nat.succ_pos _
  ·rw [gg c] at h;cases e:D0 ns f with
   | none=>rw [e] at h;cases h
   | some m=>rw [e] at h;cases h;exact Nat.succ_lt_succ (dX e)
theorem Vw:∀ {ns:List Str}{vs:List V}{f:Str}{n:Nat}{v:V},D0 ns f=some n->vs[n]?=some v->(ns.zip vs).lookup f=some v
 | [],_,_,_,_,h,_=>by cases h
 | g::ns,[],f,n,v,h,hv=>by simp at hv
 | g::ns,w::vs,f,n,v,h,hv=>by
  rw [D0] at h;rw [FP]
  by_cases c:g=f
  ·rw [gq c] at h;cases h;simp at hv;subst c;rw [List.lookup_cons_self,hv]
  ·rw [gg c] at h;cases e:D0 ns f with
   | none=>rw [e] at h;cases h
   | some m=>
    rw [e] at h;cases h;rw [GO];have:(f == g)=false:=by simpa using fun z=>c z.symm
    rw [this];exact Vw e (by simpa using hv)
theorem bU:∀ {ns:List Str}{vs:List V}{f:Str}{v:V},ns.length=vs.length->DE f v (ns.zip vs)=(Mg ns f).zip (Ly ns vs f v)/\(Mg ns f).length=(Ly ns vs f v).length
 | [],[],f,v,_=>by simp [DE,Mg,Ly,D0]
 | [],_::_,_,_,h=>by simp at h
 | _::_,[],_,_,h=>by simp at h
 | g::ns,w::vs,f,v,h=>by
  obtain ⟨i1,i2⟩:=bU (ns:=ns) (vs:=vs) (f:=f) (v:=v) (by simpa using h)
  rw [FP];rw [show DE f v ((g,w)::ns.zip vs)=(if g=f then (g,v)::ns.zip vs else (g,w)::DE f v (ns.zip vs)) from rfl]
  unfold Mg Ly at i1 i2 ⊢;rw [D0]
  by_cases c:g=f
  ·rw [gq c,gq c];exact ⟨by simp,by simpa using h⟩
  ·rw [gg c,gg c,i1];cases e:D0 ns f with
   | none=>rw [e] at i2;exact ⟨by simp,by simpa using i2⟩
   | some m=>rw [e] at i2;exact ⟨by simp,by simpa using i2⟩
section
variable [Xw]
variable {k:PV->Prop}{K:ZAy}
def Xi {k:List Nat->OV->Prop}(h:Wl ss i t ta fun p u=>∃ C dx ns a us n w,u=.nd (.obj C dx ns) a us/\DP K C/\Ei K C f/\D0 ns f=some n/\us[n]?=some w/\k (p++[n]) w):Wl ss i t (QJ K ta f) k:=⟨h.hi,fun E σ F H Q S q=>
 h.go E σ F H _ S fun v p u F1 H1 m1 r1 h1 ⟨C,dx,ns,a,us,n,w,eu,hc,hn,hx,hw,kk⟩=>by
  subst eu;cases r1 with
  | @nd _ _ vs _ ha sd ft rr=>
   obtain ⟨x,GK,rx⟩:=rr.get hw;exact ⟨a,C,dx,ns.zip vs,x,rfl,ha,hc,hn,Vw hx GK,q x (p++[n]) w F1 H1 m1 rx (OV.Ue h1 (by rw [OV.Kt,hw];exact OV.Iu)) kk⟩⟩
def K5:(OV.nd (.obj C dx ns) a us).addrs=a::dx::OV.AX us:=by rw [OV.Cg];rfl
def Sg.pA {lt:Bool}{Jh:List Str}(S0:Sg E ss σ F0 H0)(S:Sg E ss σ F H)(hi:ss[i]?=some (.ow lt t))(BZ:t.at p=some (.nd (.obj C dx ns) a us))(Ng:H dx=some (.own a))
  (hu:∀ a∈u.addrs,F a=none/\E.H0 a=none/\((∃ i∈m,∃ s,s≠Slot.AQ/\ss[i]?=some s/\B0 s σ[i]? a)∨H0 a=none)) (Dz:i∉m)
  (hr:Ak F H B7 BR) (hl:Jh.length=B7.length) (Me:(OV.AX BR).Nodup) (HC:∀ b∈OV.AX BR,b∈OV.AX us∨b∈u.addrs):Sg E ((Fz.Cz m ss).set i (.ow lt (t.put p (.nd (.obj C dx Jh) a BR)))) σ F (upd H a (.ins C dx (Jh.zip B7))):=by
 have Bb:=ak m ss hi Dz;obtain ⟨v,e,r,nd,q⟩:=S.ok i _ hi;have ut:∀ b,b∈a::dx::OV.AX us->b∈t.addrs:=fun b hb=>OV.JZ BZ b (by rw [K5];exact hb);have L7:∀ b∈u.addrs,b∉t.addrs:=fun b hb z=>by
  rcases (hu b hb).2.2 with ⟨j,hj,s,_,hs,o⟩ | w
  ·exact S.Bd j i s _ b (by rintro rfl;exact Dz hj) hs hi o z
  ·exact S0.Dk hi z w
 have Dp:(OV.nd (.obj C dx ns) a us).addrs.Nodup:=by
  obtain ⟨l,rr,e1,_⟩:=OV.split BZ;rw [e1,CV,CV] at nd;exact nd.1.2.1
 rw [K5] at Dp;obtain ⟨n1,n2⟩:=List.nodup_cons.mp Dp;obtain ⟨n3,n4⟩:=List.nodup_cons.mp n2;have na:∀ b∈OV.AX BR,b≠a:=fun b hb z=>by
  subst z;rcases HC b hb with w | w
  ·exact n1 (by simp [w])
  ·exact L7 b w (ut b (by simp))
 have R5:∀ b∈OV.AX BR,b≠dx:=fun b hb z=>by
  subst z;rcases HC b hb with w | w
  ·exact n3 w
  ·exact L7 b w (ut b (by simp))
 have bG:dx≠a:=fun z=>n1 (by simp [z]);refine (S.Cz m).QC Bb BZ (.nd (k:=.obj C dx Jh) Al (show upd H a _ dx=some (.own a) by rw [AS bG];exact Ng) hl (hr.mono (AJ.refl _) fun b hb o ho=>by rw [AS (na b hb)];exact ho)) (by
  rw [K5];exact List.nodup_cons.mpr ⟨fun z=>by
   rcases List.mem_cons.mp z with z | z
   ·exact bG z.symm
   ·exact na a z rfl,List.nodup_cons.mpr ⟨fun z=>R5 dx z rfl,Me⟩⟩) fun b hb=>?_
 rw [K5] at hb ⊢;rcases List.mem_cons.mp hb with w | w
 ·exact .inl (by simp [w])
 ·rcases List.mem_cons.mp w with w | w
  ·exact .inl (by simp [w])
  ·rcases HC b w with z | z
   ·exact .inl (by simp [z])
   ·refine .inr ⟨(hu b z).1,(hu b z).2.1,fun j s hs o=>?_⟩;rcases O3 hs with y | ⟨Fu,hm⟩
    ·subst y;cases o
    ·rcases (hu b z).2.2 with ⟨i2,Dn,s2,_,CT,o2⟩ | y
     ·exact S.Bd j i2 s s2 b (by rintro rfl;exact hm Dn) Fu CT o o2
     ·exact S0.Dk Fu o y
def mq {F1 H1 F3 H3:Hp}{v:V}(S:Sg E ss σ F H)(J1:Mv E ss σ F1 H1 F3 H3)(r1:Am F1 H1 v w)(a1:∀ a∈w.addrs,F1 a=none/\E.H0 a=none/\((∃ i∈m,∃ s,s≠Slot.AQ/\ss[i]?=some s/\B0 s σ[i]? a)∨H a=none)):
  Am F3 H3 v w/\∀ b∈w.addrs,F3 b=none/\E.H0 b=none/\((∃ i∈m,∃ s,s≠Slot.AQ/\ss[i]?=some s/\B0 s σ[i]? b)∨H b=none):=by
 have np:∀ b∈w.addrs,C9 ss σ b:=fun b hb k hk ek=>by
  rcases (a1 b hb).2.2 with ⟨j,hj,s,hs,NM,o⟩ | z
  ·exact S.Bd j k s _ b (fun e=>by subst e;rw [NM] at hk;exact hs (B8 hk)) NM hk o ek
  ·exact S.Dk hk ek z
 refine ⟨r1.mono J1.ff fun b hb o e=>J1.hh b o (np b hb) e,fun b hb=>⟨?_,(a1 b hb).2⟩⟩;cases e:F3 b with
 | none=>rfl
 | some o=>
  rcases J1.nn b o e with z | z
  ·rw [(a1 b hb).1] at z;cases z
  ·exact absurd z (r1.there b hb)
def aO (h:Wx ss tv fun m w=>Wl ss i t ta fun p u=>∃ lt C dx ns a us,ss[i]?=some (.ow lt t)/\u=.nd (.obj C dx ns) a us/\DP K C/\Ei K C f/\ns.length<1000/\i∉m/\nx ((Fz.Cz m ss).set i (.ow lt (t.put p (.nd (.obj C dx (Mg ns f)) a (N4 ns us f w)))))):Ws ss (TK K ta tv f) nx R:=⟨fun E D σ F H S hn hr=>
 h.go E σ F H _ S fun v m w F1 H1 m1 r1 Fx a1 h2=>h2.go E σ F1 H1 _ m1.st fun v2 p u F2 H2 m2 r2 BZ ⟨lt,C,dx,ns,a,us,hi,eu,hc,jJ,hz,Dz,kk⟩=>by
  subst eu;have ev:v2=.ref a:=by cases r2;rfl
  subst ev;obtain ⟨KY,Nz⟩:=mq S m2 r1 a1;cases r2 with
  | @nd _ _ vs _ ha sd ft rr=>
   have Ff:ns.length=vs.length:=ft;have vl:=rr.length;obtain ⟨ep,NX⟩:=bU (f:=f) (v:=v) Ff;refine ⟨a,C,dx,ns.zip vs,rfl,ha,hc,jJ,by rw [M8];omega,?_⟩;obtain ⟨v0,e0,r0,CA,q0⟩:=m2.st.ok i _ hi;have Dp:(OV.nd (.obj C dx ns) a us).addrs.Nodup:=by
    obtain ⟨l,rr,e1,_⟩:=OV.split BZ;rw [e1,CV,CV] at CA;exact CA.1.2.1
   rw [K5] at Dp;have Kr:=(List.nodup_cons.mp (List.nodup_cons.mp Dp).2).2;have apart:∀ b∈w.addrs,b∉OV.AX us:=fun b hb z=>by
    have bt:b∈t.addrs:=OV.JZ BZ b (by rw [K5];simp [z]);rcases (a1 b hb).2.2 with ⟨j,hj,s,_,hs,o⟩ | y
    ·exact S.Bd j i s _ b (by rintro rfl;exact Dz hj) hs hi o bt
    ·exact S.Dk hi bt y
   obtain ⟨JG,EY,sb⟩:Ak F2 H2 (Ly ns vs f v) (N4 ns us f w)/\(OV.AX (N4 ns us f w)).Nodup/\∀ b∈OV.AX (N4 ns us f w),b∈OV.AX us∨b∈w.addrs:=by
    unfold Ly N4;cases e:D0 ns f with
    | some n=>
     have Rm:n<us.length:=by have:=dX e;omega
     obtain ⟨l,r,e1,e2⟩:=Ii (AR Rm);refine ⟨rr.set n KY,?_,fun b hb=>?_⟩
     ·show (OV.AX (us.set n w)).Nodup;rw [e2];rw [e1] at Kr;exact Td Kr Fx fun b hb=>.inr (by rw [<- e1];exact apart b hb)
     ·have DO:b∈OV.AX (us.set n w):=hb;rw [e2] at DO;rcases List.mem_append.mp DO with z | z
      ·rcases List.mem_append.mp z with z | z
       ·exact .inl (by rw [e1];simp [z])
       ·exact .inr z
      ·exact .inl (by rw [e1];simp [z])
    | none=>
     refine ⟨rr.append (.one KY),?_,fun b hb=>?_⟩
     ·show (OV.AX (us++[w])).Nodup;rw [Ig,KS,CV];exact ⟨Kr,Fx,fun x hx y hy e=>apart y hy (e▸hx)⟩
     ·have DO:b∈OV.AX (us++[w]):=hb;rw [Ig,KS] at DO;exact List.mem_append.mp DO
   rw [ep];exact hn _ σ F2 _ kk (Sg.pA (u:=w) S m2.st hi BZ sd Nz Dz JG NX EY sb) (m1.ff.trans m2.ff)⟩
end
theorem TU:∀ {ns:List Str}{vs:List V}{f:Str},D0 ns f=none->(ns.zip vs).lookup f=none
 | [],_,_,_=>by simp
 | g::ns,[],f,h=>by simp
 | g::ns,w::vs,f,h=>by
  rw [D0] at h
  by_cases c:g=f
  ·rw [gq c] at h;cases h
  ·rw [gg c] at h;rw [FP,GO];have:(f == g)=false:=by simpa using fun z=>c z.symm
   rw [this];refine TU ?_;cases e:D0 ns f with
   | none=>rfl
   | some m=>rw [e] at h;cases h
section
variable [Xw]
variable {te:TE}{ta:TA}{lt:Bool}{K:ZAy}
def n6 {m:Str}{k:PV->Prop}(h:Wp ss te fun o=>∃ ns xs,o=.obj C ns xs/\D0 ns m=none/\Wa ss ta fun l=>∃ k',pre (.is o::l) (.is k')/\∀ p,k' p->k p):Wp ss (KN C m (AN pre) [] E0 te ta) k:=⟨fun E σ F H Q S q=>
 h.go E σ F H _ S fun v o F1 H1 m1 ro ⟨ns,xs,eo,hm,h2⟩=>by
  subst eo;cases ro with
  | @obj a _ dx _ Iq _ e1 e2 hl rr=>
   refine ⟨a,dx,ns.zip Iq,rfl,m1.st.fh _ _ e1,TU hm,h2.go E σ F1 H1 _ m1.st fun vs l F2 H2 m2 al ⟨k',hp,kk⟩=>?_⟩;rw [DV];refine ⟨.is (.obj C ns xs)::l,.is k',F2,[],hp,m2.st.MN (.cons (s:=.is _) (Rep.obj (m2.ff _ _ e1) (m2.ff _ _ e2) hl (rr.mono m2.ff)) al),fun v F' H' f ⟨p,r,kp⟩=>?_⟩;exact q v p F' H' (m1.trans (m2.trans (m2.st.back (fun _ h=>absurd h Aa) f))) r (kk p kp)⟩
def MV {k:PV->Prop}(h:Wp ss te fun o=>∃ C ns xs n y,o=.obj C ns xs/\DP K C/\Ei K C f/\D0 ns f=some n/\xs[n]?=some y/\k y):Wp ss (QJ K te f) k:=⟨fun E σ F H Q S q=>
 h.go E σ F H _ S fun v o F1 H1 m1 ro ⟨C,ns,xs,n,y,eo,hc,hn,hx,hy,kk⟩=>by
  subst eo;cases ro with
  | @obj a _ dx _ Iq _ e1 e2 hl rr=>
   obtain ⟨u,hu,ru⟩:=rr.get hy;exact ⟨a,C,dx,ns.zip Iq,u,rfl,m1.st.fh _ _ e1,hc,hn,Vw hx hu,q u y F1 H1 m1 ru kk⟩⟩
def u7 {k:List Nat->OV->Prop}(h:ML ss ta fun l=>∀ x dx:Addr,∃ k',pre (.ow true (.nd (.obj C dx []) x [])::l) (.mt k')/\∀ p t',k' p t'->p=.A8/\∃ Jh BR,t'=.nd (.obj C dx Jh) x BR/\k [] t'):Wx ss (Sn C (DS pre) [] E0 ta) k:=⟨fun E σ F H Q S q=>
 h.go E σ F H _ S fun vs l F1 H1 m1 al IP x dx hx Ng As=>by
  rw [DV];have M1:=m1.st.make Ng (.own x);have L1:upd H1 dx (.own x) x=none:=by rw [AS (Bj As)];exact hx
  have M2:=M1.st.make L1 (.ins C dx []);have m2:=M1.trans M2;have up:∀ a o,H1 a=some o->upd (upd H1 dx (.own x)) x (.ins C dx []) a=some o:=fun a o e=>by
   rw [AS (DQ e hx),AS (DQ e Ng)];exact e
  have dn:∀ a,upd (upd H1 dx (.own x)) x (.ins C dx []) a=none->H1 a=none:=fun a e=>by
   cases z:H1 a with
   | none=>rfl
   | some o=>rw [up a o z] at e;cases e
  have a0:(OV.nd (.obj C dx []) x []).addrs=[x,dx]:=by rw [K5,OV.FL]
  have r0:Am F1 (upd (upd H1 dx (.own x)) x (.ins C dx [])) (.ref x) (.nd (.obj C dx []) x []):=.nd (k:=.obj C dx []) (vs:=[]) Al (show upd _ x _ dx=some (.own x) by rw [AS As];exact Al) rfl .nil;have f0:∀ a∈(OV.nd (.obj C dx []) x []).addrs,H1 a=none:=fun a ha=>by
   rw [a0] at ha;simp only [Dq,Aa,lg] at ha;rcases ha with rfl | rfl
   ·exact hx
   ·exact Ng
  have CA:(OV.nd (.obj C dx []) x []).addrs.Nodup:=by
   rw [a0];simp [Bj As]
  have Sx:=Sg.WW (j:=ss.length) (m:=[]) (v:=.ref x) (u:=.nd (.obj C dx []) x []) (m1.st.grown 1) (m2.st.grown 1) r0 CA fun a ha=>⟨m1.st.Bl (f0 a ha),m1.st.DD (f0 a ha),.inr (f0 a ha)⟩;have hl:=m1.st.len;have hi:((ss++List.replicate 1 Slot.any).set ss.length (.ow false (.nd (.obj C dx []) x [])))[ss.length]?=some (.ow false (.nd (.obj C dx []) x [])):=DG (by simp);have e0:((σ++List.replicate 1 none).set ss.length (some (V.ref x)))[ss.length]?=some (some (.ref x)):=DG (by simp;omega);obtain ⟨k',hp,kk⟩:=IP x dx;refine ⟨.ow true (.nd (.obj C dx []) x [])::l,.mt k',F1,[],(OV.nd (.obj C dx []) x []).addrs,hp,Sx.aD hi (.here e0 al),fun v F' H' f ⟨p,t',r,ro,nd,qa,kp⟩=>?_⟩;obtain ⟨rfl,Jh,BR,rfl,k2⟩:=kk p t' kp;have B:=Sx.fJ hi f ro nd qa;have at':∀ n,n<ss.length->((ss++List.replicate 1 Slot.any).set ss.length (.ow false (.nd (.obj C dx []) x [])))[n]?=ss[n]?:=fun n hn=>by rw [Cs (by omega),DF hn]
  have CI:∀ n,n<ss.length->((σ++List.replicate 1 none).set ss.length (some (V.ref x)))[n]?=σ[n]?:=fun n hn=>by rw [Cs (by omega),DF (by omega)]
  have np:∀ a,H1 a≠none->C9 ss σ a->C9 ((ss++List.replicate 1 Slot.any).set ss.length (.ow false (.nd (.obj C dx []) x []))) ((σ++List.replicate 1 none).set ss.length (some (V.ref x))) a:=fun a _ hn n hk=>by
   by_cases c:n<ss.length
   ·rw [at' n c] at hk;rw [CI n c];exact hn n hk
   ·by_cases c2:n=ss.length
    ·subst c2;rw [hi] at hk;cases hk
    ·rw [M7 (by simp;omega)] at hk;cases hk
  have M3:Mv E ss σ F1 H1 F' H':=m1.st.step B.ff B.st.fh (fun a o hn e=>B.hh a o (np a (by rw [e];simp) hn) (fun z=>by rw [f0 a z] at e;cases e) (up a o e)) (fun a o e=>(B.nn a o e).imp id (dn a)) fun n l' hn en=>by
   have c:n<ss.length:=(List.getElem?_eq_some_iff.mp hn).1;refine B.st.ET (i:=n) ?_ (by rw [CI n c];exact en);rw [Cs (by omega)];exact (at' n c).trans hn
  cases r;refine ⟨rfl,q (.ref x) [] _ F' H' (m1.trans M3) ro nd (fun a ha=>?_) k2⟩;have h1:H1 a=none:=(qa a ha).2.elim (dn a) (f0 a);exact ⟨(qa a ha).1,m1.st.DD h1,.inr (m1.none h1)⟩⟩
end
end Fz
namespace L2
section
variable {X:Cx}{o e value:Expr}{f:Str}{pos pos' Jl:Pos}{ta tv:TE}
def Jj (he:QE X e ta)(hb:attributeBase e f X.env (eval e X.env)=eval e X.env:=by rfl):QE X (.Attribute e f pos) (QJ X.K ta f):=⟨by
 have he:=he.h;intro pins s σ H Q I h;refine zi hb (AF (he pins s σ H _ I h) fun u s1 ⟨x,H1,I1,rx,a,C,dx,fs,v,ex,ea,c,n,l,q⟩=>?_);subst ex;obtain rfl:u=Value.ref a:=rx;exact mM I1 ea c n l fun u' s2 I2 ru=>⟨v,H1,I2,ru,q⟩⟩
def bb (ha:QE X o ta)(hv:QE X value tv)(hs:swapsWith value (some (.Attribute o f pos')) pos.line X.env=pure false:=by rfl):QS X (.Assign [.Attribute o f pos'] value pos) (TK X.K ta tv f):=⟨by
 have ha:=ha.h;have hv:=hv.h;intro pins s σ H D I h;refine plainObj_wpAny_Assign_Attribute (AF (hv pins s σ H _ I h) fun u s1 ⟨y,H1,I1,ry,q⟩=>AF (ha pins s1 σ H1 _ I1 q) fun ov s2 ⟨x,H2,I2,rx,a,C,dx,fs,ex,ea,c,n,l,q2⟩=>?_) hs;subst ex;obtain rfl:ov=Value.ref a:=rx;exact kZ I2 ea c n l ry fun s3 I3=>⟨σ,_,I3,q2⟩⟩
end
end L2
namespace L2
variable {pl:Sem Bool}
def FJ (P:Program)(w:World)(K:ZAy)(mg:ZB0)(base:Heap)(C:Addr)(m:Str)(k:Nat)(ps:List Str)(sp:Sp):Prop:=
 ∃ f fd,D2 P w K mg base FD k f fd ps sp/\Binds K fd ps []/\Meth K C m f/\DP K C
def W8 (P:Program)(w:World)(K:ZAy)(mg:ZB0)(base:Heap)(C:Addr)(k:Nat)(ps:List Str)(sp:Sp):Prop:=
 ∃ f fd,D2 P w K mg base FD k f fd ps sp/\Binds K fd ps []/\Mk K C f
section
variable {X:Cx}{o e:Expr}{es:List Expr}{m x:Str}{C:Addr}{k j:Nat}{ps:List Str}{sp:Sp}{ta:TE}{t:TA}{apos pos p:Pos}
def WO (h:FJ X.prog X.w X.K X.mg X.base C m k ps sp)(hr:BO j X.A)(hk:k<=j)(he:QE X o ta)(ha:QA X (e::es) t)
  (Hs:starEach (e::es) X.env=(false,eval e X.env)::starEach es X.env:=by rfl) (Bx:(backTo pos (starEach es X.env)).any (·.1)=false:=by rfl)
  (ht:eval (.Call (.Attribute o m apos) (e::es) [] pos) X.env=(do
   let ov <- eval o X.env
   standAt apos.atName
   let (f,first) <- holding [ov] (getMethod ov m pl)
   callWith pos f first (backTo pos (starEach (e::es) X.env)) (backToKw pos (keywordEach [] X.env))):=by rfl) :
  QE X (.Call (.Attribute o m apos) (e::es) [] pos) (KN C m sp [] E0 ta t):=by
 obtain ⟨f,fd,F,b,hm,c⟩:=h;exact ⟨jU he.h c hm (F.mono hk) hr b .nil Pa ha.h Hs Bx ht⟩
def LP (h:FJ X.prog X.w X.K X.mg X.base C m k ps sp)(hr:BO j X.A)(hk:k<=j)(he:QE X o ta)
  (ht:eval (.Call (.Attribute o m apos) [] [] pos) X.env=(do
   let ov <- eval o X.env
   standAt apos.atName
   let (f,first) <- holding [ov] (getMethod ov m pl)
   callWith pos f first (backTo pos (starEach [] X.env)) (backToKw pos (keywordEach [] X.env))):=by rfl) :
  QE X (.Call (.Attribute o m apos) [] [] pos) (KN C m sp [] E0 ta Az):=by
 obtain ⟨f,fd,F,b,hm,c⟩:=h;exact ⟨j9 he.h c hm (F.mono hk) hr b .nil Pa ht⟩
def yT (h:W8 X.prog X.w X.K X.mg X.base C k ps sp)(hr:BO (j+1) X.A)(hk:k<=j)(hm:X.mg x=some (.ref C))(ha:QA X (e::es) t)(hg:Gl X x:=by rfl)(CY:(x == ("__debug__":Str))=false:=by decide)
  (he:starEach (e::es) X.env=(false,eval e X.env)::starEach es X.env:=by rfl) (Bx:(backTo pos (starEach es X.env)).any (·.1)=false:=by rfl):QE X (.Call (.Name x p) (e::es) [] pos) (Sn C sp [] E0 t):=by
 obtain ⟨f,fd,F,b,M⟩:=h;exact ⟨qJ M (F.mono hk) hr hg hm b .nil Pa ha.h CY he Bx⟩
variable {prog:Program}{w:World}{A:Around}{E:Value->Shared->Prop}{s:Shared}
end
end L2
set_option maxHeartbeats 200000
set_option maxHeartbeats 4000000
namespace L2
open Lw
section
variable {X:Cx}
def zC:Et X "list.extend" VZ:=p7
end
end L2
namespace Fz
open L2 Lw
variable {ps xs:List PV}{i:Nat}{js:List Nat}
section
variable [Xw]
variable {E:Ent0}{ss:List Slot}{σ:L2.St}{F H F' H':Hp}{K:ZAy}{ta tb tc te:TE}{k:PV->Prop}{v:V}{tp:Bool}{nx:List Slot->Prop}{R:Ag}
def ug (hi:ss[i]?=some (.own xs))(h:Wn ss te fun ys=>xs.length+ys.length<=100000/\nx (ss.set i (.own (xs++ys)))):Ws ss (Gr (FK K "list" VZ (B1 i) (Af te Az))) nx R:=⟨fun E D σ F H S hn hr=>by
 obtain ⟨l,vs,e,e1,e2,e3,r⟩:=S.ok i _ hi;refine ⟨_,e,.inl ⟨rfl,_,AI.of e3⟩,h.go E σ F H _ S fun l2 FE ys F1 H1 m1 fl hl Jn rv ⟨hz,kk⟩=>?_⟩;obtain ⟨l',B7,e',Ci,BY,Fi,r'⟩:=m1.st.ok i _ hi;rw [e] at e';cases e';refine ⟨l,l2,B7,FE,rfl,rfl,Fi,Jn,small (by rw [r'.length,rv.length];exact hz),?_⟩;exact hn _ σ F1 _ kk (m1.st.put hi e Ci BY (r'.append rv)) m1.ff⟩
def az {j:Nat}(h:js[i]?=some j):(BB js σ)[i]?=some ((σ[j]?).join):=by
 unfold BB;rw [AV,h];rfl
def join_some {o:Option (Option V)}{a:Addr}(h:some o.join=some (some (V.ref a))):o=some (some (.ref a)):=by
 cases o with
 | none=>cases h
 | some q=>cases q with
  | none=>cases h
  | some v=>simpa using h
def Mv.bX {vs:List V}(S:Sg E ss σ F H)(m:Mv E (Bn js ss++ps.map .is) (BB js σ++vs.map some) F H F' H'):Mv E ss σ F H F' H':=by
 have hl:(Bn js ss).length=js.length:=by simp [Bn]
 have DN:(BB js σ).length=js.length:=by simp [BB]
 have Y9:∀ (i:Nat) (a:Addr),(Bn js ss++ps.map .is)[i]?=some .AQ->(BB js σ++vs.map some)[i]?=some (some (.ref a))->∃ j,js[i]?=some j/\ss[j]?=some .AQ/\σ[j]?=some (some (.ref a)):=fun i a hi ei=>by
  by_cases h:i<js.length
  ·rw [DF (by rw [hl];exact h)] at hi;rw [DF (by rw [DN];exact h)] at ei;have hj:=AR h;have q:=Yv hj hi;rw [az hj] at ei;refine ⟨js[i],hj,?_,join_some ei⟩;cases w:ss[js[i]]? with
   | none=>rw [w] at q;cases q
   | some u=>rw [w] at q;cases q;rfl
  ·rw [EJ (by omega),AV] at hi;cases w:ps[i - (Bn js ss).length]? with
   | none=>rw [w] at hi;cases hi
   | some p=>rw [w] at hi;cases hi
 refine S.step m.ff m.st.fh (fun a o n e=>m.hh a o (fun i hi ei=>?_) e) m.nn fun i l hi e=>?_
 ·obtain ⟨j,_,h1,h2⟩:=Y9 i a hi ei;exact n j h1 h2
 ·by_cases c:∃ i':Nat,js[i']?=some i
  ·obtain ⟨i',c⟩:=c;have lt:i' < js.length:=(List.getElem?_eq_some_iff.mp c).1;refine m.st.ET (i:=i') ?_ ?_
   ·rw [DF (by rw [hl];exact lt)];unfold Bn;rw [AV,c];show some ((ss[i]?).getD .any)=_;rw [hi];rfl
   ·rw [DF (by rw [DN];exact lt),az c,e];rfl
  ·refine BN.keep (S.ET hi e) fun o eo=>m.hh l o (fun i' Bb hU=>?_) eo;obtain ⟨j,h0,h1,h2⟩:=Y9 i' l Bb hU;have hj:j≠i:=by rintro rfl;exact c ⟨i',h0⟩
   exact S.Bd j i _ _ l hj h1 hi h2 e
def vn {wi:TI}{tt:TT}{k:List PV->Prop}(P:PV->PV->Prop)
  (h:Wi ss wi fun xs=>xs.length<=100000/\(∀ x∈xs,Wt (Bn js ss++[.is x]) tt fun b=>b=true)/\(∀ x∈xs,Wp (Bn js ss++[.is x]) te (P x))/\∀ ys:List PV,ys.length=xs.length->(∀ (j:Nat) x y,xs[j]?=some x->ys[j]?=some y->P x y)->k ys)
  (nd:js.Nodup:=by decide):Wn ss (HD wi js tt te) k:=⟨fun E σ F H Q S q=>
 h.go E σ F H _ S fun J xs F1 H1 m1 sr ⟨hz,ht,he,kk⟩ acc Aw=>by
  have FF:C9 ss σ acc:=m1.st.Ht Aw;have Ik:=m1.st.DD Aw;have KJ:∀ (i:Nat) s,ss[i]?=some s->¬ B0 s σ[i]? acc:=fun i s hi=>m1.st.Il hi Aw;refine ⟨fun i m H2=>m=xs.length - i/\i<=xs.length/\∃ F2 vs ys,Mv E ss σ F1 H1 F2 H2/\F2 acc=none/\H2 acc=some (.lst vs)/\AH F2 vs ys/\ys.length=i/\∀ (j:Nat) x y,xs[j]?=some x->ys[j]?=some y->P x y,⟨_,rfl,CD _,F1,[],[],m1.st.make Aw _,m1.st.Bl Aw,Al,.nil,rfl,fun j x y _ e=>by simp at e⟩,?_⟩;rintro i m H2 ⟨rfl,hi,F2,vs,ys,m2,fa,ha,rv,KA,hP⟩
  by_cases AM:i<xs.length
  ·refine .inr ⟨sr.go ss σ F2 H2 i m2.ff m2.st AM,fun x H3 y=>?_⟩;obtain ⟨p,F3,hp,m3,rp⟩:=sr.E9 ss σ F2 H2 i x H3 m2.ff m2.st AM y;have Hf:p∈xs:=C2 hp;have Hw:∀ {F4:Hp},(∀ a o,F4 a=some o->F2 a=some o∨H2 a=none)->F4 acc=none:=fun {F4} n=>by
    cases e:F4 acc with
    | none=>rfl
    | some o=>
     rcases n acc o e with w | w
     ·rw [fa] at w;cases w
     ·rw [ha] at w;cases w
   have S3:=m3.st.AD (js:=js) nd (.one rp);refine (ht p Hf).go E _ F3 H3 _ S3 fun b F4 H4 m4 hb=>?_;have II:=m4.bX (ps:=[p]) (vs:=[x]) m3.st;have C5:=m3.trans II;show if b=true then _ else _
   rw [hb,gq rfl];have S4:=C5.st.AD (js:=js) nd (.one (rp.mono II.ff));refine (he p Hf).go E _ F4 H4 _ S4 fun w pw F5 H5 m5 HW ew=>?_;have KZ:=m5.bX (ps:=[p]) (vs:=[x]) C5.st;have Cy:=C5.trans KZ;have K0:=Cy.hh acc _ FF ha;have G8:=Hw Cy.nn;have hlen:vs.length<=99999:=by
    rw [rv.length,KA];omega
   refine ⟨vs,K0,Gv hlen,xs.length - (i+1),by omega,rfl,AM,F5,vs++[w],ys++[pw],?_,G8,Al,(rv.mono Cy.ff).append (.one HW),by simp [KA],fun j a b hj hb=>?_⟩
   ·have DU:=m2.trans Cy;refine ⟨DU.st.La G8 (.inl Ik) KJ,DU.ff,fun a o n e=>?_,DU.nn⟩;rw [AS (DQ e Aw)];exact DU.hh a o n e
   ·by_cases c:j<ys.length
    ·rw [DF c] at hb;exact hP j a b hj hb
    ·have ej:j=i:=by
      have:=(List.getElem?_eq_some_iff.mp hb).1;rw [Bo,IF] at this;omega
     subst ej;rw [EJ (by omega),KA,Nat.sub_self] at hb;rw [hp] at hj;cases hj;cases hb;exact ew
  ·have e:i=xs.length:=by omega
   subst e;exact .inl ⟨sr.stop ss σ F2 H2 m2.ff m2.st,q acc vs _ F2 H2 (m1.trans m2) fa (m1.none Aw) ha rv (kk ys KA hP)⟩⟩
variable {t:OV}
end
end Fz
namespace L2
def Py (s:Stmt)(n:Nat):Stmt:=match s with
 | .ClassDef _ _ _ b ..=>b.getD n (.Pass ⟨0,0,0,0⟩)
 | s=>s
end L2
namespace Fz
open L2 Lw
@[reducible] def xwM (X:XK) (t:OV) (D:Ex->Prop):Xw:=⟨fun _=>X,fun ss=>ss[0]?=some (.ow true t),D⟩
variable {R:Ag}{A7 ss:List Slot}
section
variable {pre:Oi}{H:Hp}
def SF (R:Ag)(A7:List Slot):Prop:=∃ (k:PV->OV->Prop) (nk:NK) (a:Addr) (us:List OV),R=.mt k/\A7[0]?=some (.ow true (.nd nk a us))/\k .A8 (.nd nk a us)
theorem SF.ok {E:Ent0}{σ:L2.St}{F:Hp}(h:SF R A7)(S:Sg E A7 σ F H):R.ok E F H .A8:=by
 obtain ⟨k,nk,a,us,rfl,h0,hk⟩:=h;obtain ⟨v0,e0,r0,CA,q0⟩:=S.ok 0 _ h0;have ev:v0=.ref a:=by cases r0;rfl
 subst ev;exact ⟨.A8,.nd nk a us,.A8,r0,CA,fun b hb=>⟨(q0 b hb).1,(q0 b hb).2.imp id fun z=>z.2⟩,hk⟩
end
section
variable [Xw]
variable {te tv:TE}{ta:TA}{i:Nat}{lt:Bool}{t:OV}{nx:List Slot->Prop}{K:ZAy}{f:Str}
def JE {pre:Pre}{C:Addr}{m:Str}{k:List PV->Prop}(h:Wp ss te fun o=>∃ ns xs,o=.obj C ns xs/\D0 ns m=none/\Wa ss ta fun l=>∃ k',pre (.is o::l) (.new k')/\∀ p,k' p->k p):Wn ss (KN C m (AN pre) [] E0 te ta) k:=⟨fun E σ F H Q S q=>
 h.go E σ F H _ S fun v o F1 H1 m1 ro ⟨ns,xs,eo,hm,h2⟩=>by
  subst eo;cases ro with
  | @obj a _ dx _ Iq _ e1 e2 hl rr=>
   refine ⟨a,dx,ns.zip Iq,rfl,m1.st.fh _ _ e1,TU hm,h2.go E σ F1 H1 _ m1.st fun vs l F2 H2 m2 al ⟨k',hp,kk⟩=>?_⟩;rw [DV];refine ⟨.is (.obj C ns xs)::l,.new k',F2,[],hp,m2.st.MN (.cons (s:=.is _) (Rep.obj (m2.ff _ _ e1) (m2.ff _ _ e2) hl (rr.mono m2.ff)) al),fun v F' H' f ⟨a,Vm,ZZ,ev,f1,h1,DR,r,kp⟩=>?_⟩;subst ev;exact q a Vm ZZ F' H' (m1.trans (m2.trans (m2.st.back (fun _ h=>absurd h Aa) f))) f1 (m1.none (m2.none h1)) DR r (kk ZZ kp)⟩
end
end Fz
namespace L2
section
variable {prog:Program}{w:World}{A:Around}{E:Value->Shared->Prop}{s:Shared}
def nR:typeLookup (.type "dict") "__len__"=pure (some (.builtin "dict.__len__")):=by rw [typeLookup_type,builtinLookup_eq_fast];kernel_rfl
variable {X:Cx}
end
end L2
namespace Fz
open L2 Lw
theorem Zs:∀ {ks:List Key}{vs:List V},ks.length=vs.length->(ks.zip vs).map (·.1)=ks
 | [],[],_=>rfl
 | [],_::_,h=>by simp at h
 | _::_,[],h=>by simp at h
 | k::ks,v::vs,h=>by
  rw [FP,Ac,Zs (by simpa using h)]
end Fz
namespace L2
section
variable {prog:Program}{w:World}{A:Around}{s:Shared}{R:Result->Shared->Prop}
def nZ {L S:Addr}{c0:Nat}{res:Value}{A3:List (Key×Value)}{n:Nat}(hh:A.handled=none)(Gj:(S == sysModules)=false)(hL:s.heap.get? L=some { cls:=.type "list", data:=.seq #[] c0 })(yN:s.heap.DictOf (CB prog w) S A3)(en:A3.length=n)(hn:n<=sizeLine)
  (h:∀ (s':Shared) (vs:List Value) (c':Nat),(∀ b o,b≠L->s.heap.get? b=some o->s'.heap.get? b=some o)->L<s'.heap.objs.size->s'.gens=s.gens->s'.os=s.os->s'.heap.get? L=some { cls:=.type "list", data:=.seq vs.toArray c' }->vs.length=n->(∀ (i:Nat) v,vs[i]?=some v->∃ k x,A3[i]?=some (k,x)/\(CB prog w).is k v=true)->R (.ok (.ret res)) s') :
  wpAny (model prog w) A.in1 (Builtin.List.listExtendWith (.ref L) (.ref S) res)
   (fun fin s'=>match fin with | .done f=>R (.ok f) s' | .again c'=>c'.quiet=true/\codeAny (model prog w) A c' R s') (fun e s'=>R (.error e) s') s:=by
 obtain ⟨ep,hS⟩:=yN.dictAt;have AM:S<s.heap.objs.size:=hS.lt_size;have Zg:L≠S:=fun z=>by
  subst z;obtain ⟨o,ho,hc⟩:=hS.dictOf.typeIs;rw [hL] at ho;cases ho;exact absurd hc (by show ¬ Value.type "list"=Value.type "dict"; decide)
 have Z0:Shared.TypeIs s (.ref S) "dict" := hS.dictOf.typeIs;have h1:Builtin.List.listSameRef (.ref L) (.ref S)=false:=by simp [Builtin.List.listSameRef,Zg]
 unfold Builtin.List.listExtendWith;refine gd (wpAny_typeOf Z0 ?_);rw [gg (by rw [h1];decide)];refine gd (wpAny_pyIter_dict (s:=s) Gj hS ?_);dsimp only;generalize Vy:({ cls:=.type "dict_keyiterator", data:=.fields #[.ref S,.int 0 0,.int A3.length 0,.int ep 0] }:Obj)=io;have kp:∀ b o,s.heap.get? b=some o->(s.heap.push io).get? b=some o:=fun b o e=>Bi _ e;have As:S≠s.heap.objs.size:=CQ AM;have W:∀ A2:Around,A2.handled=none->Walks prog w A2 s.heap.objs.size [s.heap.objs.size,S] [s.heap.objs.size] A3.length _ _:=fun A2 h2=>gc (knd:=CB prog w) h2 s.heap.objs.size S As A3 ep;have cC:(s.heap.push io).IsKeyIter s.heap.objs.size S 0 A3.length ep/\(s.heap.push io).DictAt (CB prog w) S A3 ep:=⟨⟨io,C1 _ (by rw [<- Vy];rfl),by rw [<- Vy],by rw [<- Vy];rfl⟩,hS.push _⟩;have Mj:L∉[s.heap.objs.size,S]:=fun hm=>by
  simp only [Dq,Aa,lg] at hm;rcases hm with z | z
  ·have q:L<s.heap.objs.size:=Au hL;rw [z] at q;exact IH _ q
  ·exact Zg z
 generalize hh2:s.heap.push io=h2 at kp cC ⊢;have Ri:Shared.TypeIs { s with heap:=h2 } (.ref S) "dict" := by obtain ⟨o,ho,hc⟩:=Z0;exact ⟨o,kp _ _ ho,hc⟩
 refine gd (oH ?_);unfold Builtin.List.listLengthHint;refine gd (wpAny_specialOf Ri nR ?_);generalize Xy:("dict.__len__":String)=iP
 wp_delta
 rw [show splitId iP=some ("dict","__len__") from by subst Xy;decide +kernel];subst Xy;refine gd (wpAny_isInstance (b:=true) Ri (by rw [isSubtype_type];kernel_rfl) ?_);rw [gg (by decide)];refine wpAny_ite_split (fun _=>?_) (fun Hc=>absurd (by decide +kernel) Hc);refine gd (wpAny_typeOf Ri ?_);refine i7 ?_;refine wpAny_ite_split (fun _=>?_) (fun Hc=>absurd (by decide +kernel) Hc);refine gd (rJ ?_);refine gd ?_;show wpAny _ _ (updateSeq L (·.push .none) >>= fun _=>updateSeq L (·.pop)) _ _ _
 have z0:(#[]:Array Value).size<=sizeLine:=CD _;have z1:((#[]:Array Value).push Value.none).size<=sizeLine:=by show 1<=sizeLine;decide
 have z2:((#[]:Array Value).push Value.none).size<=sizeLine+1:=Nat.le_succ_of_le z1;have z3:(((#[]:Array Value).push Value.none).pop).size<=sizeLine+1:=CD _;have bo:=kp _ _ hL;refine gd (mD (s:={ s with heap:=h2 }) bo rfl ?_ z0 z2)
 have q2:=M5 (Obj.mapSeq (·.push Value.none)) bo rfl
 refine mD q2 rfl ?_ z1 z3;have q3:=M5 (Obj.mapSeq (·.pop)) q2 rfl
 have ZS:∀ b o,b≠L->h2.get? b=some o->((h2.update L (Obj.mapSeq (·.push Value.none))).update L (Obj.mapSeq (·.pop))).get? b=some o:=
  fun b o hb e=>(IB _ _ (Bj hb)).trans ((IB _ _ (Bj hb)).trans e)
 refine i7 ⟨oo PySem.F.plain_extend_loop _,codeAny_extend_loopS (W A.in1 hh).toS (en▸hn) _ Mj _ A3.length 0 _ #[] _ rfl (CD _) ?_ q3 (ItemsOf.nil _) fun s' xU c' hm Ge Aw=>?_⟩
 ·exact (W A.in1 hh).frame 0 h2 _ cC fun b hb o e=>ZS b o (fun z=>Mj (z▸hb)) e
 ·have hsz:L<s'.heap.objs.size:=Au Ge;refine h s' xU.toList c' (fun b o hb e=>?_) hsz hm.gens hm.os Ge (by rw [WX,Aw.1];exact en) fun i v hv=>Aw.2 i v (by rw [<- fg];exact hv);have DO:b<s.heap.objs.size:=Au e;refine hm.heap b o ?_ (ZS b o hb (kp b o e));simp only [Dq,Aa,lg,not_or];exact ⟨hb,CQ DO⟩
end
theorem aM {prog:Program}{w:World}:∀ {ks:List Key}{A3:List (Key×Value)}{vs:List Value},A3.map (·.1)=ks->vs.length=A3.length->(∀ (i:Nat) v,vs[i]?=some v->∃ k x,A3[i]?=some (k,x)/\(CB prog w).is k v=true)->Vals (ks.map kV) vs
 | [],[],[],_,_,_=>.nil
 | [],[],_::_,_,h,_=>by simp at h
 | [],_::_,_,h,_,_=>by simp at h
 | _::_,[],_,h,_,_=>by simp at h
 | _::_,_::_,[],_,h,_=>by simp at h
 | n::ns,kv::A3,v::vs,e,hl,h=>by
  rw [Ac] at e;injection e with e1 e2
  obtain ⟨k,x,ek,hk⟩:=h 0 v rfl;have sD:kv=(k,x):=by simpa using ek
  subst sD;have Ci:k=n:=e1;subst Ci;refine .cons ?_ (aM e2 (by simpa using hl) fun i v hv=>h (i+1) v hv)
  rcases Fy (show Iy k v=true from hk) with ⟨i,t,rfl,rfl⟩ | ⟨y,t,rfl,rfl⟩
  ·exact ⟨t,rfl⟩
  ·exact ⟨t,rfl⟩
section
variable {X:Cx}
def YF:List V->Hp->VK->Prop:=fun xs H Q=>∃ (p:Addr) (A3:List (Key×V)),xs=[.ref p]/\Rd H p (.dK A3)/\A3.length<=1000/\∀ l:Addr,H l=none->Q (.ref l) (upd H l (.lst ((A3.map (·.1)).map kV)))
def wA (hc:X.calm=true):C3 X (.type "list") YF:=by
 intro pins s σ H xs us Q I r h;obtain ⟨p,A3,rfl,hH,SI,q⟩:=h;obtain ⟨u,rfl,rx⟩:=vals1 r;cases rx;obtain ⟨hz,Gj,Iq,rel,hS⟩:=Hy I.AG hH;have hh:X.A.handled=none:=I.ok.hd hc;have AM:p<s.heap.objs.size:=by obtain ⟨ep,h2⟩:=hS.dictAt;exact h2.lt_size
 have As:p≠s.heap.objs.size:=CQ AM;refine callType_codes (Q₁:=fun obj s₁=>obj=.ref s.heap.objs.size/\s₁={ s with heap:=s.heap.push { cls:=.type "list", data:=.seq #[] } }) F.called_list (F.typeCall_list_1 _) F.entry_list_init
  (code_list_new _ ⟨rfl,rfl⟩) fun obj s₁ h₁=>?_
 obtain ⟨rfl,rfl⟩:=h₁;have Pn:(s.heap.push { cls:=.type "list", data:=.seq #[] }).get? s.heap.objs.size=some { cls:=.type "list", data:=.seq #[] }:=C1 _ rfl;refine ⟨⟨_,Pn,rfl⟩,F.args_list_init_2 _ _,?_⟩;show wpAny _ X.A.in1.in1 (do let old <- Builtin.List.listItems (.ref s.heap.objs.size);Builtin.List.listUpdate (.ref s.heap.objs.size) (fun _=>#[]);letGo old.toList.reverse;Builtin.List.listExtendWith (.ref s.heap.objs.size) (.ref p) .none) _ _ _
 refine gd ?_;unfold Builtin.List.listItems;refine gd (kE Pn rfl (i7 ?_));show wpAny _ X.A.in1.in1 (updateSeq s.heap.objs.size (fun _=>#[]) >>= fun _=>letGo (#[]:Array Value).toList.reverse >>= fun _=>Builtin.List.listExtendWith (.ref s.heap.objs.size) (.ref p) .none) _ _ _;refine gd (mD Pn rfl ?_);have UI:=M5 (Obj.mapSeq (fun _=>(#[]:Array Value))) Pn rfl;have old:∀ b o,s.heap.get? b=some o->((s.heap.push { cls:=.type "list", data:=.seq #[] }).update s.heap.objs.size (Obj.mapSeq (fun _=>(#[]:Array Value)))).get? b=some o:=fun b o e=>
  (IB _ _ (Ke (Au e))).trans (Bi _ e)
 have yb:((s.heap.push { cls:=.type "list", data:=.seq #[] }).update s.heap.objs.size (Obj.mapSeq (fun _=>(#[]:Array Value)))).DictOf (CB X.prog X.w) p Iq:=by
  obtain ⟨o,es,ep,ho,rest⟩:=hS;exact ⟨o,es,ep,old _ _ ho,rest⟩
 refine gd (nW ?_);refine nZ (A:=X.A.in1) hh Gj UI yb rfl (by rw [<- rel.length];exact hz) fun s' vs c' a1 a2 a3 a4 a5 a6 a7=>?_;have vv:Vals ((A3.map (·.1)).map kV) vs:=by
  rw [rel.keys];exact aM rfl a6 a7
 refine ⟨rfl,?_⟩;obtain ⟨h1,g1,d1,t1,o1⟩:=s';simp only at a1 a2 a3 a4 a5;subst a3;subst a4;refine ⟨.ref _,_,(I.drew d1).laid (a:=s.heap.objs.size) (h':=h1) (t':=t1) (o:=.lst ((A3.map (·.1)).map kV)) (fun b o e=>a1 b o (CQ (Au e)) (old b o e)) (Aj _) ?_,rfl,q _ (I.AG.fresh (Aj _))⟩
 exact ⟨by rw [A9,A9];exact hz,vs,c',vv,a5⟩
variable {i o:Expr}{ty td:TE}{pos:Pos}
def d4 (hu:X.A.units+1<cLine)(hi:QE X i ty)(ho:QE X o td)(hm:behindInMarks .In o=false:=by with_unfolding_all rfl):QT X (.Compare i [.In] [o] pos) (tB (VB ty td)):=⟨bD (yc hu hi.h ho.h) hm⟩
def sE (hu:X.A.units+1<cLine)(hi:QE X i ty)(ho:QE X o td)(hm:behindInMarks .NotIn o=false:=by with_unfolding_all rfl):QT X (.Compare i [.NotIn] [o] pos) (tB (US ty td)):=⟨bD (jD hu hi.h ho.h) hm⟩
end
end L2
namespace Fz
open L2 Lw
theorem VF {F:Hp}:∀ ks:List Key,AH F (ks.map kV) (ks.map Gg)
 | []=>.nil
 | .inl i::ks=>.cons (.int i) (VF ks)
 | .inr x::ks=>.cons (.str x) (VF ks)
section
variable [Xw]
variable {E:Ent0}{ss:List Slot}{σ:L2.St}{F H F' H':Hp}{K:ZAy}{i:Nat}{t:OV}{ta tb tc te:TE}{nx:List Slot->Prop}{R:Ag}
def l5 {k:List PV->Prop}(h:Wp ss te fun p=>∃ (ks:List Key) (xs:List PV),p=.Ah ks xs/\ks.length<=1000/\k (ks.map Gg)):Wn ss (DL YF (Af te Az)) k:=⟨fun E σ F H Q S q=>
 h.go E σ F H _ S fun v p F1 H1 m1 rp ⟨ks,xs,e,hz,kk⟩=>by
  subst e;cases rp with
  | @Ah a _ vs _ ef hl rr=>
   refine ⟨a,_,rfl,.inl (m1.st.fh _ _ ef),by rw [M8];omega,fun l DH=>?_⟩;rw [Zs hl];have m2:=m1.st.make DH (.lst (ks.map kV));exact q l _ _ F1 _ (m1.trans m2) (m1.st.Bl DH) (m1.none DH) Al (VF ks) kk⟩
end
end Fz
namespace L2
variable {w:World}{H H2:Hp}{h h':Heap}{a b it l l1 l2 t:Addr}{X:Cx}{pins:ZAz}{σ:St}{s s2:Shared}{r x:Value}{A3:List (Key×V)}{A:Around}{E Q:Value->Shared->Prop}{o:Obj}{ep i k1 tk:Nat}{e elt tg:Expr}{p1 pos:Pos}{es ifs:List Expr}{t1 t2 tp:Bool}{outer scope:Scope}{js:List Nat}{tt:TT}{te:TE}{J:It}{fp:List Addr}{tn:Nat->Heap->Prop}{N zs:List Str}{wi:TI}{xs ys:Array Value}{prog:Program}
structure Hm (N:List Str) (outer scope:Scope) (zs:List Str) (AD:List Str) (js:List Nat):Prop where
 kind:scope.kind=.function
 KR:∀ y∈scope.names,y.2≠.cell
 loc:∀ y∈scope.names,y.2=.local->scope.names.lookup y.1=some .local
 Ft:∀ x∈zs,scope.names.lookup x=some .local
 at':js.map (fun j=>N[j]?)=AD.map some
 cell:∀ y∈AD,outer.names.lookup y=some .cell
 free:∀ y∈AD,scope.names.lookup y=some .free
 all:∀ y∈scope.names,y.2=.free->outer.names.lookup y.1=some .cell
 nd:(AD++zs).Nodup
def Ky (K:ZAy)(n:Nat)(wi:TI)(js:List Nat)(tt:TT)(te:TE):TE:=fun σ H Q=>wi σ H fun J H1=>∀ acc,H1 acc=none->OX K n J js tt te σ H1 acc Q
section
variable {iter:Expr}{tp:Pos}{AD:List Str}
def Hm.G (S:Hm N outer scope zs AD js):EF N outer scope none zs AD js:=.bI S.kind S.KR S.loc S.at' S.cell S.free S.all S.nd
def yI (hc:X.calm=true)(S:Hm X.N X.env.scope scope zs AD js)(HR:Hi zs es)(HV:∀ e,(assignEach es e).length=zs.length)(EH:∀ e,(assignEach es e).findIdx? (·.1)=none)(hi:PI X (.Tuple es tk tp) iter wi)
  (C6:∀ fp C s H,G7 (EG X (AD++zs) scope (BJ X.env.cells scope.names) C s H fp) ifs tt) (C7:∀ fp C s H,PE (EG X (AD++zs) scope (BJ X.env.cells scope.names) C s H fp) elt te)
  (hs:∀ v,foldedSetIterable iter X.env v=pure v:=by intro _;rfl):PE X (.ListComp elt [⟨.Tuple es tk tp,iter,ifs,0⟩] scope pos) (Ky X.K zs.length wi js tt te):=
 V1 (CW:=fun J σ H1 acc Q=>OX X.K zs.length J js tt te σ H1 acc Q) (YG S.G) hc S.G hi (fun _ _ _ _=>cy hc S.G S.Ft HR HV EH) C6 C7 hs
def Ya (hc:X.calm=true)(S:Hm X.N X.env.scope scope zs AD js)(HR:Hi zs es)(HV:∀ e,(assignEach es e).length=zs.length)(EH:∀ e,(assignEach es e).findIdx? (·.1)=none)(hi:QI X (.Tuple es tk tp) iter wi)(C6:∀ fp C s H,Iv (EG X (AD++zs) scope (BJ X.env.cells scope.names) C s H fp) ifs tt)(C7:∀ fp C s H,QE (EG X (AD++zs) scope (BJ X.env.cells scope.names) C s H fp) elt te)
  (hs:∀ v,foldedSetIterable iter X.env v=pure v:=by intro _;rfl):QE X (.ListComp elt [⟨.Tuple es tk tp,iter,ifs,0⟩] scope pos) (Ky X.K zs.length wi js tt te):=⟨yI hc S HR HV EH hi.h (fun fp C s H=>(C6 fp C s H).h) (fun fp C s H=>(C7 fp C s H).h) hs⟩
end
def Cq (tp:Bool)(h:Heap)(i l:Addr)(k:Nat):Prop:=match tp with
 | true=>h.IsTupleIter i l k
 | false=>h.IsListIter i l k
def Dd (tp:Bool)(h:Heap)(l:Addr)(xs:Array Value):Prop:=match tp with
 | true=>h.IsTuple l xs
 | false=>h.IsList l xs
def O2 (tp:Bool):String:=match tp with
 | true => "tuple_iterator"
 | false => "list_iterator"
theorem Cq.at (x:Cq tp h a t i)(e:∀ o,h.get? a=some o->h'.get? a=some o):Cq tp h' a t i:=by
 cases tp
 ·exact Heap.IsListIter.at x e
 ·exact Heap.IsTupleIter.at x e
def Cq.has (x:Cq tp h a t i):∃ o fs,h.get? a=some o/\o.data=.fields fs:=by
 cases tp
 ·obtain ⟨o,e,_,d⟩:=x;exact ⟨o,_,e,d⟩
 ·obtain ⟨o,e,_,d⟩:=x;exact ⟨o,_,e,d⟩
def Dd.at (x:Dd tp h a xs)(e:∀ o,h.get? a=some o->h'.get? a=some o):Dd tp h' a xs:=by
 cases tp
 ·obtain ⟨o,q,r⟩:=x;exact ⟨o,e o q,r⟩
 ·obtain ⟨o,q,r⟩:=x;exact ⟨o,e o q,r⟩
section
def UU (hi:Cq tp s.heap it l i)(hl:Dd tp s.heap l xs)(hx:xs[i]?=some x)
  (q:∀ h',Cq tp h' it l (i+1)->Heap.SameBut it s.heap h'->Q x { s with heap:=h' }):wpAny (model prog w) A (Builtin.SmallTypes.nextOf (.ref it)) Q E s:=by
 cases tp
 ·exact wpAny_nextOf_list_item hi hl hx q
 ·exact HT.oJ hi hl hx q
def bh (hh:A.handled=none)(hi:Cq tp s.heap it l i)(hl:Dd tp s.heap l xs)(hx:xs[i]?=none)
  (q:∀ h' e,Heap.ExtBut it s.heap h'->(∃ o,h'.get? e=some o/\o.cls=.type "StopIteration")->E (.ref e) { s with heap:=h' }):wpAny (model prog w) A (Builtin.SmallTypes.nextOf (.ref it)) Q E s:=by
 cases tp
 ·exact wpAny_nextOf_list_end hh hi hl hx q
 ·exact HT.uf hh hi hl hx q
def fU (hl:Dd tp s.heap l xs)(q:Q (.ref s.heap.objs.size) { s with heap:=s.heap.push { cls:=.type (O2 tp),data:=.fields #[.ref l,.int 0 0] } }):wpAny (model prog w) A (pyIter (.ref l)) Q E s:=by
 cases tp
 ·exact mK hl q
 ·exact wpAny_pyIter_tuple hl q
variable {z TI TO i1 i2:Addr}{k:Nat}{y a b:Value}
def zK {Q:Option Value->Shared->Prop}(D:ZipApart z TI TO i1 i2 l1 l2)(hz:IsZip s.heap z TI TO .none)(I0:IsPair s.heap TI (.ref i1) (.ref i2))(IV:IsPair s.heap TO a b)
  (h1:Cq t1 s.heap i1 l1 k) (h2:Cq t2 s.heap i2 l2 k) (g1:Dd t1 s.heap l1 xs) (g2:Dd t2 s.heap l2 ys) (hx:xs[k]?=some x) (hy:ys[k]?=some y)
  (q:∀ h',IsZip h' z TI TO (rawInt s.heap.objs.size)->IsPair h' TO x y->Cq t1 h' i1 l1 (k+1)->Cq t2 h' i2 l2 (k+1)->IsPair h' s.heap.objs.size x y->
   (∀ c o,c≠z->c≠TO->c≠i1->c≠i2->s.heap.get? c=some o->h'.get? c=some o)->Q (some (.ref s.heap.objs.size)) { s with heap:=h' }):wpAny (model prog w) A (pyNext (.ref z)) Q E s:=by
 have hT:s.TypeIs (.ref z) "zip" := ⟨_,hz,rfl⟩;unfold pyNext;refine gd (wpAny_attempt (m9 (name:=Str.ofString "__next__") hT Wb (oV Wb hT F.entry_zip_next ?_ (F.args_zip_next_1 _))));show wpAny _ _ (field (.ref z) 2 >>= _) _ _ _;refine gd (kf hz rfl (x:=.bool false) rfl ?_);show wpAny _ _ (field (.ref z) 3 >>= _) _ _ _;refine gd (kf hz rfl (x:=.ref TI) rfl (gd (kE I0 rfl ?_)));show wpAny _ _ (Builtin.SmallTypes.ownedTupleIsFree (.ref z) >>= _) _ _ _;refine gd ?_;unfold Builtin.SmallTypes.ownedTupleIsFree;refine gd (kf hz rfl (x:=.none) rfl (i7 ?_));simp only [pq];refine gd (rJ (gd (kf hz rfl (x:=.ref TO) rfl (gd (lC hz (by simp) fun e1 z1 w1=>?_)))));have z1:IsZip e1 z TI TO .ellipsis:=z1;have u1:∀ c o,c≠z->s.heap.get? c=some o->e1.get? c=some o:=fun c o hc e=>w1.extBut c o hc e;refine gd ?_;simp only [ZA8,List.zipIdx_nil,Wu,RB];refine gd (gd (qp ?_));show wpAny _ _ (Builtin.SmallTypes.nextOf (.ref i1) >>= _) _ _ _;refine gd (UU (h1.at fun o e=>u1 i1 o D.i1z e) (g1.at fun o e=>u1 l1 o D.l1z e) hx fun e2 p1 w2=>i7 ?_);have u2:∀ c o,c≠z->c≠i1->s.heap.get? c=some o->e2.get? c=some o:=fun c o hc hd e=>w2.extBut c o hd (u1 c o hc e);have o2:IsPair e2 TO a b:=u2 TO _ D.TOz D.TOi1 IV;refine gd (kE o2 rfl (gd (pB o2 fun e3 o3 w3=>?_)));have o3:IsPair e3 TO x b:=o3;have u3:∀ c o,c≠z->c≠i1->c≠TO->s.heap.get? c=some o->e3.get? c=some o:=fun c o h1 h2 h3 e=>w3.extBut c o h3 (u2 c o h1 h2 e);refine gd (nW (i7 (gd (gd (qp ?_)))));show wpAny _ _ (Builtin.SmallTypes.nextOf (.ref i2) >>= _) _ _ _;refine gd (UU (h2.at fun o e=>u3 i2 o D.i2z D.i12.symm D.TOi2.symm e) (g2.at fun o e=>u3 l2 o D.l2z D.l2i1 D.l2TO e) hy fun e4 p2 w4=>i7 ?_);have o4:IsPair e4 TO x b:=w4.extBut TO _ D.TOi2 o3;refine gd (kE o4 rfl (gd (pB o4 fun e5 o5 w5=>?_)));have o5:IsPair e5 TO x y:=o5;have hsz:e5.objs.size=s.heap.objs.size:=by rw [w5.1,w4.1,w3.1,w2.1,w1.1]
 have u5:∀ c o,c≠z->c≠TO->c≠i1->c≠i2->s.heap.get? c=some o->e5.get? c=some o:=fun c o c1 c2 c3 c4 e=>w5.extBut c o c2 (w4.extBut c o c4 (u3 c o c1 c3 c2 e));have z5:IsZip e5 z TI TO .ellipsis:=w5.extBut z _ D.TOz.symm (w4.extBut z _ D.i2z.symm (w3.extBut z _ D.TOz.symm (w2.extBut z _ D.i1z.symm z1)));have r1:Cq t1 e5 i1 l1 (k+1):=p1.at fun o e=>w5.extBut i1 o D.TOi1.symm (w4.extBut i1 o D.i12 (w3.extBut i1 o D.TOi1.symm e));have r2:Cq t2 e5 i2 l2 (k+1):=p2.at fun o e=>w5.extBut i2 o D.TOi2.symm e;refine gd (nW (i7 (i7 (gd (kE o5 rfl (gd (wpAny_newTuple ?_)))))));have lz:z<e5.objs.size:=Au z5;show wpAny _ _ (Builtin.SmallTypes.ownedTupleHandOut (.ref z) (.ref e5.objs.size) >>= _) _ _ _;refine gd ?_;unfold Builtin.SmallTypes.ownedTupleHandOut;have z6:IsZip (e5.push { cls:=.type "tuple", data:=.seq #[x,y] }) z TI TO .ellipsis:=Bi _ z5;refine gd (lC z6 (by simp) fun e7 z7 w7=>?_);have z7:IsZip e7 z TI TO (rawInt e5.objs.size):=z7;refine lC z7 (by simp) fun e8 z8 w8=>?_;have z8:IsZip e8 z TI TO (rawInt e5.objs.size):=z8;have u8:∀ c o,c≠z->e5.get? c=some o->e8.get? c=some o:=fun c o hc e=>w8.extBut c o hc (w7.extBut c o hc (Bi _ e));have n8:IsPair e8 e5.objs.size x y:=w8.extBut _ _ (Ke lz) (w7.extBut _ _ (Ke lz) (C1 _ rfl));rw [hsz] at z8 n8;refine i7 ⟨_,rfl,i7 ?_⟩;show Q (some (.ref e5.objs.size)) _;rw [hsz];exact q e8 z8 (u8 TO _ D.TOz o5) (r1.at fun o e=>u8 i1 o D.i1z e) (r2.at fun o e=>u8 i2 o D.i2z e) n8 fun c o c1 c2 c3 c4 e=>u8 c o c1 (u5 c o c1 c2 c3 c4 e)
def p0 {Q:Option Value->Shared->Prop}(hh:A.handled=none)(D:ZipApart z TI TO i1 i2 l1 l2)(hz:IsZip s.heap z TI TO .none)(I0:IsPair s.heap TI (.ref i1) (.ref i2))(IV:IsPair s.heap TO a b)
  (h1:Cq t1 s.heap i1 l1 k) (h2:Cq t2 s.heap i2 l2 k) (g1:Dd t1 s.heap l1 xs) (g2:Dd t2 s.heap l2 ys) (rS:xs[k]?=none∨ys[k]?=none)
  (q:∀ h',(∀ c o,c≠z->c≠TO->c≠i1->c≠i2->s.heap.get? c=some o->h'.get? c=some o)->Q none { s with heap:=h' }):wpAny (model prog w) A (pyNext (.ref z)) Q E s:=by
 have hT:s.TypeIs (.ref z) "zip" := ⟨_,hz,rfl⟩;unfold pyNext;have fin:∀ (h':Heap) (e:Addr),(∀ c o,c≠z->c≠TO->c≠i1->c≠i2->s.heap.get? c=some o->h'.get? c=some o)->(∃ o,h'.get? e=some o/\o.cls=.type "StopIteration")->wpAny (model prog w) A (do if <- isInstance (.ref e) (.type "StopIteration") then pure none else throw (.ref e)) Q E { s with heap:=h' }:=fun h' e hk ⟨o,ho,hc⟩=>
  gd (wpAny_isInstance (T:="StopIteration") (b:=true) ⟨o,ho,hc⟩ isSubtype_stop (i7 (q h' hk)))
 refine gd (wpAny_attempt (m9 (name:=Str.ofString "__next__") hT Wb (oV Wb hT F.entry_zip_next ?_ (F.args_zip_next_1 _))));show wpAny _ _ (field (.ref z) 2 >>= _) _ _ _;refine gd (kf hz rfl (x:=.bool false) rfl ?_);show wpAny _ _ (field (.ref z) 3 >>= _) _ _ _;refine gd (kf hz rfl (x:=.ref TI) rfl (gd (kE I0 rfl ?_)));show wpAny _ _ (Builtin.SmallTypes.ownedTupleIsFree (.ref z) >>= _) _ _ _;refine gd ?_;unfold Builtin.SmallTypes.ownedTupleIsFree;refine gd (kf hz rfl (x:=.none) rfl (i7 ?_));simp only [pq];refine gd (rJ (gd (kf hz rfl (x:=.ref TO) rfl (gd (lC hz (by simp) fun e1 z1 w1=>?_)))));have z1:IsZip e1 z TI TO .ellipsis:=z1;have u1:∀ c o,c≠z->s.heap.get? c=some o->e1.get? c=some o:=fun c o hc e=>w1.extBut c o hc e;refine gd ?_;simp only [ZA8,List.zipIdx_nil,Wu,RB];refine gd (gd (qp ?_));show wpAny _ _ (Builtin.SmallTypes.nextOf (.ref i1) >>= _) _ _ _;cases hx:xs[k]? with
 | none=>
  refine gd (bh hh (h1.at fun o e=>u1 i1 o D.i1z e) (g1.at fun o e=>u1 l1 o D.l1z e) hx fun e2 e w2 he=>?_);have z2:IsZip e2 z TI TO .ellipsis:=w2 z _ D.i1z.symm z1;obtain ⟨oe,Jg,Nq⟩:=he;have W6:e≠z:=fun q=>by subst q;rw [z2] at Jg;cases Jg;simp at Nq
  exact lC z2 (by simp) fun e3 _ w3=>fin e3 e (fun c o c1 _ c3 _ y=>w3.extBut c o c1 (w2 c o c3 (u1 c o c1 y))) ⟨oe,w3.extBut _ _ W6 Jg,Nq⟩
 | some x=>
  have hy:ys[k]?=none:=rS.resolve_left (by rw [hx];simp);refine gd (UU (h1.at fun o e=>u1 i1 o D.i1z e) (g1.at fun o e=>u1 l1 o D.l1z e) hx fun e2 p1 w2=>i7 ?_);have u2:∀ c o,c≠z->c≠i1->s.heap.get? c=some o->e2.get? c=some o:=fun c o hc hd e=>w2.extBut c o hd (u1 c o hc e);have o2:IsPair e2 TO a b:=u2 TO _ D.TOz D.TOi1 IV;refine gd (kE o2 rfl (gd (pB o2 fun e3 o3 w3=>?_)));have u3:∀ c o,c≠z->c≠i1->c≠TO->s.heap.get? c=some o->e3.get? c=some o:=fun c o h1 h2 h3 e=>w3.extBut c o h3 (u2 c o h1 h2 e);refine gd (nW (i7 (gd (gd (qp ?_)))));show wpAny _ _ (Builtin.SmallTypes.nextOf (.ref i2) >>= _) _ _ _;refine gd (bh hh (h2.at fun o e=>u3 i2 o D.i2z D.i12.symm D.TOi2.symm e) (g2.at fun o e=>u3 l2 o D.l2z D.l2i1 D.l2TO e) hy fun e4 e w4 he=>?_);have z4:IsZip e4 z TI TO .ellipsis:=w4 z _ D.i2z.symm (w3.extBut z _ D.TOz.symm (w2.extBut z _ D.i1z.symm z1));obtain ⟨oe,Jg,Nq⟩:=he;have W6:e≠z:=fun q=>by subst q;rw [z4] at Jg;cases Jg;simp at Nq
  exact lC z4 (by simp) fun e5 _ w5=>fin e5 e (fun c o c1 c2 c3 c4 y=>w5.extBut c o c1 (w4 c o c4 (u3 c o c1 c3 c2 y))) ⟨oe,w5.extBut _ _ W6 Jg,Nq⟩
end
abbrev Oh (h:Heap)(t1:Bool)(l1:Addr):Heap:=h.push { cls:=.type (O2 t1),data:=.fields #[.ref l1,.int 0 0] }
abbrev Q7 (h:Heap)(t1 t2:Bool)(l1 l2:Addr):Heap:=(Oh h t1 l1).push { cls:=.type (O2 t2),data:=.fields #[.ref l2,.int 0 0] }
abbrev R3 (h:Heap)(t1 t2:Bool)(l1 l2:Addr):Heap:=(Q7 h t1 t2 l1 l2).push { cls:=.type "tuple", data:=.seq #[.ref h.objs.size,.ref (Oh h t1 l1).objs.size] }
abbrev PK (h:Heap)(t1 t2:Bool)(l1 l2:Addr):Heap:=(R3 h t1 t2 l1 l2).push { cls:=.type "tuple", data:=.seq #[.none,.none] }
abbrev Kh (h:Heap)(t1 t2:Bool)(l1 l2:Addr):Heap:=(PK h t1 t2 l1 l2).push { cls:=.type "zip", data:=.fields #[.none,.bool false,.bool false,.ref (Q7 h t1 t2 l1 l2).objs.size,.ref (R3 h t1 t2 l1 l2).objs.size] }
def tm (t1 t2 : Bool)(l1 l2 : Addr)(xs ys : Array Value): Meets (Builtin.«zip.__new__» ⟨[.type "zip", .ref l1, .ref l2], []⟩) (fun _ R s => Dd t1 s.heap l1 xs /\ Dd t2 s.heap l2 ys /\
   R (.ok (.ret (.ref (PK s.heap t1 t2 l1 l2).objs.size))) { s with heap:=Kh s.heap t1 t2 l1 l2 }):=
 .of_wp fun prog w A R s h=>by
  obtain ⟨hp,g,d,tk,os⟩:=s;obtain ⟨q1,q2,h⟩:=h;have HC:=sub_zip;have c1:Dd t1 (Shared.heap ⟨hp,g,d,tk,os⟩) l1 xs:=q1;have c2:Dd t2 (Shared.heap ⟨hp.push { cls:=.type (O2 t1),data:=.fields #[.ref l1,.int 0 0] },g,d,tk,os⟩) l2 ys:=Dd.at q2 fun o e=>Bi _ e
  wp_walk using fU c1,fU c2
  exact ⟨_,rfl,h⟩
def Cq.new {i:Addr}(e:h.get? i=some { cls:=.type (O2 tp),data:=.fields #[.ref l,.int 0 0] }):Cq tp h i l 0:=by
 cases tp
 ·exact ⟨_,e,rfl,rfl⟩
 ·exact ⟨_,e,rfl,rfl⟩
def iE (q1:Dd t1 s.heap l1 xs)(q2:Dd t2 s.heap l2 ys)
  (h:∀ h',IsZip h' (s.heap.objs.size+4) (s.heap.objs.size+2) (s.heap.objs.size+3) .none->IsPair h' (s.heap.objs.size+2) (.ref s.heap.objs.size) (.ref (s.heap.objs.size+1))->
   IsPair h' (s.heap.objs.size+3) .none .none->Cq t1 h' s.heap.objs.size l1 0->Cq t2 h' (s.heap.objs.size+1) l2 0->
   (∀ c o,s.heap.get? c=some o->h'.get? c=some o)->Q (.ref (s.heap.objs.size+4)) { s with heap:=h' }):wpAny (model prog w) A (call (.type "zip") [.ref l1,.ref l2]) Q E s:=by
 refine callType_new F.called_zip (by decide) (F.typeCall_zip_2 _ _) (F.newCall_zip_2 _ _) (fun obj=>F.args_object_init_3 obj _ _) F.entry_zip_new (tm t1 t2 l1 l2 xs ys) ⟨q1,q2,?_⟩;have n1:(Oh s.heap t1 l1).objs.size=s.heap.objs.size+1:=JL ..;have n2:(Q7 s.heap t1 t2 l1 l2).objs.size=s.heap.objs.size+2:=by rw [JL,n1]
 have n3:(R3 s.heap t1 t2 l1 l2).objs.size=s.heap.objs.size+3:=by rw [JL,n2]
 have n4:(PK s.heap t1 t2 l1 l2).objs.size=s.heap.objs.size+4:=by rw [JL,n3]
 have p:∀ {hp:Heap}{c o ob},hp.get? c=some o->(hp.push ob).get? c=some o:=fun e=>Bi _ e;have m5:(Kh s.heap t1 t2 l1 l2).get? (PK s.heap t1 t2 l1 l2).objs.size=some _:=C1 _ rfl;have m4:(Kh s.heap t1 t2 l1 l2).get? (R3 s.heap t1 t2 l1 l2).objs.size=some _:=p (C1 _ rfl);have m3:(Kh s.heap t1 t2 l1 l2).get? (Q7 s.heap t1 t2 l1 l2).objs.size=some _:=p (p (C1 _ rfl));have m2:(Kh s.heap t1 t2 l1 l2).get? (Oh s.heap t1 l1).objs.size=some _:=p (p (p (C1 _ rfl)));have m1:(Kh s.heap t1 t2 l1 l2).get? s.heap.objs.size=some _:=p (p (p (p (C1 _ rfl))));show _/\_;rw [n2,n3,n4] at m5;rw [n1,n2] at m3;rw [n3] at m4;rw [n1] at m2;rw [n4];exact ⟨⟨_,m5,rfl⟩,h _ m5 m3 m4 (.new m1) (.new m2) fun c o e=>p (p (p (p (p e))))⟩
def Kk {xs:List V}(I:Inv X pins σ H s)(h:FC X.K tp H a xs):∃ A1:List Value,Vals xs A1/\Dd tp s.heap a A1.toArray:=by
 cases tp
 ·obtain ⟨A1,rv,pl,_⟩:=I.list h;exact ⟨A1,rv,pl.isList⟩
 ·obtain ⟨A1,rv,pl,_⟩:=I.tuple h;exact ⟨A1,rv,pl⟩
def Yw (K:ZAy)(t1 t2:Bool)(a b:Addr)(xs ys:List V):It:=
 ⟨fun i H=>FC K t1 H a xs/\FC K t2 H b ys/\i<xs.length/\i<ys.length,fun i H x H'=>∃ p x1 y1,xs[i]?=some x1/\ys[i]?=some y1/\x=.ref p/\H p=none/\H'=upd H p (.tup [x1,y1]),fun i H=>FC K t1 H a xs/\FC K t2 H b ys/\(xs.length<=i∨ys.length<=i)⟩
def iq {P:Program}{K:ZAy}(t1 t2:Bool)(a b z TI TO i1 i2:Addr)(xs ys:List V)(D:ZipApart z TI TO i1 i2 a b):
  Turn P w K (.Tuple es k1 p1) (Yw K t1 t2 a b xs ys) [z,TI,TO,i1,i2] z (fun i h=>(IsZip h z TI TO .none/\IsPair h TI (.ref i1) (.ref i2))/\(∃ c d,IsPair h TO c d)/\Cq t1 h i1 a i/\Cq t2 h i2 b i) where
 mem:=by simp
 obj:=fun i h st c hc=>by
  obtain ⟨⟨s1,s2⟩,⟨d,e,s3⟩,g1,g2⟩:=st;obtain ⟨o1,_,q1,d1⟩:=g1.has;obtain ⟨o2,_,q2,d2⟩:=g2.has;simp only [Dq,Aa,lg] at hc;rcases hc with rfl | rfl | rfl | rfl | rfl
  ·exact ⟨_,s1,fun v y=>by cases y⟩
  ·exact ⟨_,s2,fun v y=>by cases y⟩
  ·exact ⟨_,s3,fun v y=>by cases y⟩
  ·exact ⟨o1,q1,fun v y=>by rw [d1] at y;cases y⟩
  ·exact ⟨o2,q2,fun v y=>by rw [d2] at y;cases y⟩
 keep:=fun i h h' st k=>⟨⟨k z (by simp) _ st.1.1,k TI (by simp) _ st.1.2⟩,let ⟨c,d,s3⟩:=st.2.1;⟨c,d,k TO (by simp) _ s3⟩,st.2.2.1.at fun o q=>k i1 (by simp) o q,st.2.2.2.at fun o q=>k i2 (by simp) o q⟩
 item:=by
  intro X hP hw hK hc i pins s σ H E I hf st hg;subst hP hw hK;obtain ⟨HS,NL,Uv,Dn⟩:=hg;obtain ⟨⟨hz,I0⟩,⟨c,d,IV⟩,Lz,OF⟩:=st;obtain ⟨cQ,LQ,LY⟩:=Kk I HS;obtain ⟨BC,Jo,L6⟩:=Kk I NL;obtain ⟨u1,jd,yo⟩:=LQ.get (AR Uv);obtain ⟨u2,z9,iU⟩:=Jo.get (AR Dn);refine zK D hz I0 IV Lz OF LY L6 (x:=u1) (y:=u2) (by simpa using jd) (by simpa using z9) fun h1 a1 a2 a3 a4 a5 hk=>⟨_,rfl,?_⟩
  refine wpAny_letOwnedTupleGo_zip a1 fun h2 Np CT=>?_;have lz:z<s.heap.objs.size:=Au hz;have up:∀ b o,b≠z->h1.get? b=some o->h2.get? b=some o:=fun b o hb q=>(CT.2 b hb).trans q;have O6:IsPair h2 s.heap.objs.size u1 u2:=up _ _ (Ke lz) a5;have kp:∀ b o,b∉[z,TI,TO,i1,i2]->s.heap.get? b=some o->h2.get? b=some o:=fun b o hb q=>by
   simp only [Dq,Aa,lg,not_or] at hb;exact up b o hb.1 (hk b o hb.1 hb.2.2.1 hb.2.2.2.1 hb.2.2.2.2 q)
  refine ⟨.ref s.heap.objs.size,_,I.Yn (t':=s.toks) (a:=s.heap.objs.size) (o:=.tup [xs[i],ys[i]]) hf kp (Aj _) ?_,rfl,⟨_,_,_,AR Uv,AR Dn,rfl,I.AG.fresh (Aj _),rfl⟩,?_,fun b hb=>?_⟩
  ·exact ⟨(by show 2<=sizeLine;decide),[u1,u2],.cons yo (.cons iU .nil),⟨_,O6,rfl,_,rfl⟩,fun ob q=>by rw [show h2.get? s.heap.objs.size=_ from O6] at q;cases q;rfl⟩
  ·exact ⟨⟨Np,up _ _ D.TIz (hk _ _ D.TIz D.TITO D.TIi1 D.TIi2 I0)⟩,⟨_,_,up _ _ D.TOz a2⟩,a3.at fun o q=>up _ _ D.i1z q,a4.at fun o q=>up _ _ D.i2z q⟩
  ·have y:b<s.heap.objs.size:=by
    simp only [Dq,Aa,lg] at hb;rcases hb with rfl | rfl | rfl | rfl | rfl
    ·exact lz
    ·exact Au I0
    ·exact Au IV
    ·obtain ⟨o,_,q,_⟩:=Lz.has;exact Au q
    ·obtain ⟨o,_,q,_⟩:=OF.has;exact Au q
   rw [AS (CQ y)];exact (hf b hb).1
 done:=by
  intro X hP hw hK hc i pins s σ H E I hf st hg;subst hP hw hK;obtain ⟨HS,NL,hx⟩:=hg;obtain ⟨⟨hz,I0⟩,⟨c,d,IV⟩,Lz,OF⟩:=st;obtain ⟨cQ,LQ,LY⟩:=Kk I HS;obtain ⟨BC,Jo,L6⟩:=Kk I NL;have l1:=LQ.length;have l2:=Jo.length;exact p0 (I.ok.hd hc) D hz I0 IV Lz OF LY L6 (hx.imp (fun h=>by simp;omega) (fun h=>by simp;omega)) fun h' eb=>⟨rfl,I.aX (t':=s.toks) hf fun b o hb q=>by
   simp only [Dq,Aa,lg,not_or] at hb;exact eb b o hb.1 hb.2.2.1 hb.2.2.2.1 hb.2.2.2.2 q⟩
 self:=fun _ _ _ _ _ st h=>wpAny_pyIter_zip st.1.1 h
def Sb (K:ZAy)(t:TA):TI:=fun σ H R=>t σ H fun vs H1=>∃ a b t1 t2 xs ys,vs=[.ref a,.ref b]/\FC K t1 H1 a xs/\FC K t2 H1 b ys/\R (Yw K t1 t2 a b xs ys) H1
def wq {p:Pos}{l l2:Expr}{t:TA}(hg:Gl X "zip")(hm:X.mg "zip"=none)(ha:QA X [l,l2] t)(hs:starEach [l,l2] X.env=(false,eval l X.env)::starEach [l2] X.env:=by rfl)(hp:(backTo pos (starEach [l2] X.env)).any (·.1)=false:=by rfl):
  QI X (.Tuple es k1 p1) (.Call (.Name "zip" p) [l,l2] [] pos) (Sb X.K t):=⟨by
 have ha:=ha.h;intro pins s σ H R I h;refine kL (JK I hg hm (show bootBuiltins "zip"=some (.type "zip") by decide +kernel) ?_ (by decide) (by decide));refine RI (AF (ha pos pins s σ H _ I h) fun us s1 ⟨vs,H1,I1,r1,q1⟩=>?_) hs hp;obtain ⟨a,b,t1,t2,xs,ys,rfl,HS,NL,q⟩:=q1;obtain ⟨u1,u2,rfl,rx,ry⟩:=vals2 r1;cases rx;cases ry;obtain ⟨cQ,LQ,LY⟩:=Kk I1 HS;obtain ⟨BC,Jo,L6⟩:=Kk I1 NL;have e1:a<s1.heap.objs.size:=by cases t1 <;> (obtain ⟨_,e,_⟩:=LY;exact Au e)
 have e2:b<s1.heap.objs.size:=by cases t2 <;> (obtain ⟨_,e,_⟩:=L6;exact Au e)
 refine iE LY L6 fun h' c1 c2 c3 c4 c5 kp=>wpAny_pyIter_zip c1 ?_;refine ⟨_,[s1.heap.objs.size+4,s1.heap.objs.size+2,s1.heap.objs.size+3,s1.heap.objs.size,s1.heap.objs.size+1],_,_,H1,rfl,I1.kept (t':=s1.toks) kp,iq t1 t2 a b _ _ _ _ _ xs ys (zipApart_new e1 e2),⟨⟨c1,c2⟩,⟨_,_,c3⟩,c4,c5⟩,fun b hb=>?_,q⟩;have y:s1.heap.objs.size<=b:=by
  simp only [Dq,Aa,lg] at hb;rcases hb with rfl | rfl | rfl | rfl | rfl
  ·exact X2 _ 4
  ·exact X2 _ 2
  ·exact X2 _ 3
  ·exact Aj _
  ·exact X2 _ 1
 exact I1.J7 y (I1.AG.fresh y)⟩
def Inv.swap {u0 u1:HO}(I:Inv X pins σ H s)(h0:H a=some u0)(no:∀ x,u0≠.own x)(nt:∀ xs,u0≠.tup xs)(n1:∀ o u,X.H₀ a≠some (.C8 o u))(n2:∀ xs,X.H₀ a≠some (.tup xs))(n3:∀ ps,X.H₀ a≠some (.Hz ps))
  (new:Br X.prog X.w H s.heap a u1):Inv X pins σ (upd H a u1) s:=by
 have tr:∀ b,b≠a->upd H a u1 b=H b:=fun b hb=>AS hb;have own:∀ b x,H b=some (.own x)->upd H a u1 b=some (.own x):=fun b x e=>by
  rw [tr b (by rintro rfl;rw [h0] at e;exact no x (by injection e))];exact e
 have tup:∀ b xs,H b=some (.tup xs)->upd H a u1 b=some (.tup xs):=fun b xs e=>by
  rw [tr b (by rintro rfl;rw [h0] at e;exact nt xs (by injection e))];exact e
 refine ⟨I.ok,I.os,I.bare,⟨I.base.keep,I.base.slot,fun b o q n hx=>?_,I.base.there,fun b xs q=>?_,fun b o u q=>?_,fun b ps q=>?_⟩,I.loc,I.cell,?_,fun y c q=>?_,fun p hp=>?_,fun b o q=>?_,I.len⟩
 ·have z:=I.base.free b o q n hx;rw [tr b (by rintro rfl;rw [h0] at z;cases z)];exact z
 ·rw [tr b (by rintro rfl;exact n2 xs q)];exact I.base.Gn b xs q
 ·rw [tr b (by rintro rfl;exact n1 o u q)];exact I.base.G4 b o u q
 ·rw [tr b (by rintro rfl;exact n3 ps q)];exact I.base.Gw b ps q
 ·have z:=I.free;rw [tr _ (by rintro e;rw [e,h0] at z;cases z)];exact z
 ·have z:=I.G5 y c q;rw [tr _ (by rintro rfl;rw [h0] at z;cases z)];exact z
 ·obtain ⟨h1,h2,h3⟩:=I.pin p hp;exact ⟨h1,by rw [tr _ (by rintro e;rw [e,h0] at h2;cases h2)];exact h2,h3⟩
 ·by_cases z:b=a
  ·subst z;rw [Al] at q;cases q;exact new.Hj (fun _ _ _ e=>e) (fun c e=>own c _ e) tup
  ·rw [tr b z] at q;exact (I.AG b o q).Hj (fun _ _ _ e=>e) (fun c e=>own c _ e) tup
def aa (X:Cx)(a:Addr):Prop:=(∀ o u,X.H₀ a≠some (.C8 o u))/\(∀ xs,X.H₀ a≠some (.tup xs))/\∀ ps,X.H₀ a≠some (.Hz ps)
def Inv.bT (I:Inv X pins σ H s)(h0:H a=some (.dK A3)):aa X a:=by
 refine ⟨fun o u e=>?_,fun xs e=>?_,fun ps e=>?_⟩
 ·have:=I.base.G4 a o u e;rw [h0] at this;cases this
 ·have:=I.base.Gn a xs e;rw [h0] at this;cases this
 ·obtain ⟨m,z⟩:=I.base.Gw a ps e;rw [h0] at z;cases z
def Inv.held (I:Inv X pins σ H s)(h0:H a=some (.dK A3)):∃ o es ep,s.heap.get? a=some o/\o.data=.dict es ep/\Inv X pins σ (upd H a (.C8 o (.dK A3))) s:=by
 obtain ⟨z,y,vs,r,ob,es,ep,e,c,d,rest⟩:=I.AG a _ h0;have m:=I.bT h0;exact ⟨ob,es,ep,e,d,I.swap h0 (fun _ z=>by cases z) (fun _ z=>by cases z) m.1 m.2.1 m.2.2 ⟨e,z,y,vs,r,ob,es,ep,e,c,d,rest⟩⟩
def Inv.iO {u:HO}(I:Inv X pins σ H s)(m:aa X a)(h0:H a=some (.C8 o u)):Inv X pins σ (upd H a u) s:=
 I.swap h0 (fun _ z=>by cases z) (fun _ z=>by cases z) m.1 m.2.1 m.2.2 (I.AG a _ h0).2
def fF (a:Addr)(o:Obj)(A3:List (Key×V)):It:=⟨fun i H=>H a=some (.C8 o (.dK A3))/\i<A3.length,fun i H x H'=>H'=H/\∃ k v,A3[i]?=some (k,v)/\x=kV k,fun i H=>H a=some (.C8 o (.dK A3))/\i=A3.length⟩
theorem KV.at {vs:List (Key×Value)}(r:KV A3 vs){k:Key}(h:vs[i]?=some (k,x)):∃ v,A3[i]?=some (k,v):=by
 have e:=r.keys;have h1:(vs.map (·.1))[i]?=some k:=by rw [AV,h];rfl
 rw [<- e,AV] at h1;cases q:A3[i]? with
 | none=>rw [q] at h1;cases h1
 | some p=>
  rw [q] at h1;obtain ⟨k',v⟩:=p;have:k'=k:=by simpa using h1
  subst this;exact ⟨v,rfl⟩
def ik {P:Program}{K:ZAy}{es:Array DictEntry}(hd:o.data=.dict es ep)(As:a≠it):
  Turn P w K tg (fF a o A3) [it] it (fun i h=>h.IsKeyIter it a i A3.length ep) where
 mem:=by simp
 obj:=fun i h st b hb=>by
  have e:b=it:=by simpa using hb
  subst e;obtain ⟨o,e,c,d⟩:=st;exact ⟨o,e,fun v z=>by rw [d] at z;cases z⟩
 keep:=fun i h h' st k=>let ⟨o,e,r⟩:=st;⟨o,k it (by simp) o e,r⟩
 item:=by
  intro X hP hw hK hc i pins s σ H E I hf st hg;subst hP hw hK;obtain ⟨f0,f1,f2,f3,f4,f5⟩:=hf it (by simp);obtain ⟨e0,hz,Gj,vs,rel,ob,Lm,LF,e1,c1,d1,rest⟩:=I.AG a _ hg.1;rw [e0] at e1;cases e1;rw [hd] at d1;cases d1;have hl:=rel.length;refine (gc (knd:=CB X.prog X.w) (I.ok.hd hc) it a As vs ep).item i s _ _ (by rw [<- hl];exact hg.2) ⟨by rw [<- hl];exact st,o,es,e0,c1,hd,rest⟩ fun v h' tk ⟨k,x,hk,qZ⟩ CI kp=>?_;obtain ⟨v0,nc⟩:=rel.at hk;have I1:Inv X pins σ H { s with heap:=h',toks:=tk }:=I.turned (t':=tk) (fun b o hb e=>kp b o (by simpa using hb) e) f0 f1 f3 f4 f5
  obtain ⟨o',e',cl,d⟩:=id CI.1;have rk:RelV (kV k) v:=by
   rcases Fy (show Iy k v=true from qZ) with ⟨i,t,rfl,rfl⟩ | ⟨y,t,rfl,rfl⟩
   ·exact ⟨t,rfl⟩
   ·exact ⟨t,rfl⟩
  exact ⟨_,rfl,Nb (s:={ s with heap:=h',toks:=tk }) e' cl d (by decide) ⟨kV k,H,I1,rk,⟨rfl,k,v0,nc,rfl⟩,by rw [hl];exact CI.1,fun b hb=>(hf b hb).1⟩⟩
 done:=by
  intro X hP hw hK hc i pins s σ H E I hf st hg;subst hP hw hK;obtain ⟨f0,f1,f2,f3,f4,f5⟩:=hf it (by simp);obtain ⟨e0,hz,Gj,vs,rel,ob,Lm,LF,e1,c1,d1,rest⟩:=I.AG a _ hg.1;rw [e0] at e1;cases e1;rw [hd] at d1;cases d1;have hl:=rel.length;have hi:i=A3.length:=hg.2;subst hi;exact (gc (knd:=CB X.prog X.w) (I.ok.hd hc) it a As vs ep).done s _ _ ⟨by rw [<- hl];exact st,o,es,e0,c1,hd,rest⟩ fun h' tk kp=>⟨rfl,I.turned (t':=tk) (fun b o hb e=>kp b o (by simpa using hb) e) f0 f1 f3 f4 f5⟩
 self:=fun A i s Q E st h=>wpAny_pyIter_keyiter st h
def Ru (tl:TE):TI:=fun σ H R=>tl σ H fun x H1=>∃ a A3,x=.ref a/\H1 a=some (.dK A3)/\∀ o,R (fF a o A3) (upd H1 a (.C8 o (.dK A3)))
def RS (t:TE):TE:=fun σ H Q=>∃ a A3,H a=some (.dK A3)/\t σ H fun v H1=>∃ o u,H1 a=some (.C8 o u)/\Q v (upd H1 a u)
section
variable {l:Expr}{tl t:TE}{st:Stmt}{ts:TS}
def lV (h:QE X l tl):QI X tg l (Ru tl):=⟨by
 have hl:=h.h;intro pins s σ H R I h;refine AF (hl pins s σ H _ I h) fun v s1 ⟨x,H1,I1,r1,q1⟩=>?_;obtain ⟨a,A3,e,hq,q⟩:=q1;subst e;cases r1;obtain ⟨z,Gj,vs,rel,hS⟩:=Hy I1.AG (.inl hq);obtain ⟨o,es,ep,e0,hd,I2⟩:=I1.held hq;have AM:a<s1.heap.objs.size:=Au e0;have UI:s1.heap.DictAt (CB X.prog X.w) a vs ep:=by
  obtain ⟨ob,Lm,LF,e1,c1,d1,rest⟩:=hS;rw [e0] at e1;cases e1;rw [hd] at d1;cases d1;exact ⟨o,es,e0,c1,hd,rest⟩
 have fin:∀ b∈[s1.heap.objs.size],Dx X pins (upd H1 a (.C8 o (.dK A3))) b:=fun b hb=>by
  have e:b=s1.heap.objs.size:=by simpa using hb
  subst e;exact I2.J7 (Aj _) (I2.AG.fresh (Aj _))
 refine wpAny_pyIter_dict Gj UI ?_;exact ⟨s1.heap.objs.size,[s1.heap.objs.size],_,_,_,rfl,I2.kept (t':=s1.toks) fun b o e=>Bi _ e,ik hd (CQ AM),⟨_,C1 _ rfl,rfl,by rw [rel.length];rfl⟩,fin,q o⟩⟩
def sW (h:QE X e t):QE X e (RS t):=⟨by
 have h:=h.h;intro pins s σ H Q I ⟨a,A3,h0,q⟩;have m:=I.bT h0;refine AF (h pins s σ H _ I q) fun v s' ⟨x,H',I',r,o,u,e,q'⟩=>?_;exact ⟨x,_,I'.iO m e,r,q'⟩⟩
end
end L2
namespace Fz
open L2 Lw
theorem Sd {F H:Hp}:∀ {vs:List V}{xs:List PV},Ak F H vs (xs.map .fz)->AH F vs xs
 | _,[],h=>by cases h;exact .nil
 | _,x::xs,h=>by
  cases h with
  | cons a b=>cases a with | fz r=>exact .cons r (Sd b)
theorem bZ:∀ {ks:List Key}{vs:List V}{n:Nat}{k:Key}{v:V},ks.Nodup->ks[n]?=some k->vs[n]?=some v->DY (ks.zip vs) k=some v
 | [],_,_,_,_,_,h,_=>by simp at h
 | _::_,[],_,_,_,_,_,h=>by simp at h
 | k0::ks,v0::vs,0,k,v,_,h1,h2=>by
  have e1:k0=k:=by simpa using h1
  have e2:v0=v:=by simpa using h2
  subst e1 e2;rw [FP];exact N7 rfl
 | k0::ks,v0::vs,n+1,k,v,nd,h1,h2=>by
  rw [FP,LK]
  ·exact bZ (List.nodup_cons.mp nd).2 (by simpa using h1) (by simpa using h2)
  ·rintro rfl;exact (List.nodup_cons.mp nd).1 (C2 (by simpa using h1))
theorem Yb:∀ {ks:List Key}{vs:List V}{n:Nat}{k:Key}{v:V},(ks.zip vs)[n]?=some (k,v)->ks[n]?=some k/\vs[n]?=some v
 | [],_,_,_,_,h=>by simp at h
 | _::_,[],_,_,_,h=>by simp at h
 | k0::ks,v0::vs,0,k,v,h=>by
  rw [FP] at h;have:(k0,v0)=(k,v):=by simpa using h
  cases this;exact ⟨rfl,rfl⟩
 | k0::ks,v0::vs,n+1,k,v,h=>by
  rw [FP] at h;have:=Yb (ks:=ks) (vs:=vs) (n:=n) (k:=k) (v:=v) (by simpa using h)
  exact ⟨by simpa using this.1,by simpa using this.2⟩
section
variable [Xw]
variable {ss:List Slot}{i j:Nat}{lt:Bool}{ks:List Key}{a:Addr}{xs:List PV}{nx:List Slot->Prop}{R:Ag}{tt:TT}{te:TE}
def kb {k:List PV->Prop}(hi:ss[i]?=some (.ow lt (.nd (.Ah ks) a (xs.map .fz))))(nd:ks.Nodup)(hl:xs.length<=1000)(hk:k xs):Wn ss (RS (HD (Ru (B1 i)) [i] MP (Qj (B1 0) (B1 1)))) k:=⟨fun E σ F H Q S q=>by
 obtain ⟨v0,e0,r0,CA,q0⟩:=S.ok i _ hi;cases r0 with
 | @nd _ _ vs _ ha sd ft rr=>
  have Lv:H a=some (.dK (ks.zip vs)):=ha;have Ff:ks.length=vs.length:=ft;have rv:=Sd rr;have lv:=rv.length;refine ⟨a,_,Lv,.ref a,e0,a,_,rfl,Lv,fun o acc Aw=>?_⟩;have na:acc≠a:=fun z=>by rw [z,Al] at Aw;cases Aw
  have UE:H acc=none:=by rw [AS na] at Aw;exact Aw
  have zl:(ks.zip vs).length=vs.length:=by rw [M8];omega
  refine ⟨fun n m H2=>m=vs.length - n/\n<=vs.length/\H2=upd (upd H a (.C8 o (.dK (ks.zip vs)))) acc (.lst (vs.take n)),⟨_,rfl,CD _,rfl⟩,?_⟩;rintro n m H2 ⟨rfl,hn,rfl⟩;have OH:∀ z:HO,upd (upd H a (.C8 o (.dK (ks.zip vs)))) acc z a=some (.C8 o (.dK (ks.zip vs))):=fun z=>by rw [AS (Bj na)];exact Al
  by_cases AM:n<vs.length
  ·refine .inr ⟨⟨OH _,by rw [zl];exact AM⟩,fun x H3 y=>?_⟩;obtain ⟨eH,key,v,yF,ex⟩:=y;subst eH;subst ex;obtain ⟨h1,h2⟩:=Yb yF;unfold MP;dsimp only;rw [gq rfl];refine ⟨.ref a,by show (BB [i] σ++[some (kV key)])[0]?=some (some (V.ref a));show some (σ[i]?).join=_;rw [e0];rfl,kV key,rfl,a,v,rfl,.inl ⟨_,key,.inr ⟨o,OH _⟩,rfl,(bZ nd h1 h2).symm⟩,?_⟩;refine ⟨_,Al,Gv (by rw [D4];omega),vs.length - (n+1),by omega,rfl,AM,?_⟩;obtain ⟨hv,ev⟩:=List.getElem?_eq_some_iff.mp h2;rw [OE hv,ev]
   funext b
   by_cases c:b=acc
   ·rw [c,Al,Al]
   ·rw [AS c,AS c,AS c]
  ·have e:n=vs.length:=by omega
   subst e;refine .inl ⟨⟨OH _,zl.symm⟩,o,_,OH _,?_⟩;have eH:upd (upd (upd H a (.C8 o (.dK (ks.zip vs)))) acc (.lst (vs.take vs.length))) a (.dK (ks.zip vs))=upd H acc (.lst vs):=by
    funext b
    rw [Ee]
    by_cases c:b=a
    ·rw [c,Al,AS (Bj na),Lv]
    ·by_cases d:b=acc
     ·rw [d,AS na,Al,Al]
     ·rw [AS c,AS d,AS c,AS d]
   rw [eH];exact q acc vs xs F _ (S.make UE (.lst vs)) (S.Bl UE) UE Al rv hk⟩
variable {ta:TA}{j0:Nat}{K:ZAy}
end
end Fz
namespace L2
variable {values vs:List Expr}{EM:List (TE×TE)}
section
variable {X:Cx}{pos:Pos}
def tQ:Ih X pos [] [] []:=mJ
def VJ {k v:Expr}{ks:List (Option Expr)}{tk tv:TE}(hk:QE X k tk)(hv:QE X v tv)(hr:Ih X pos ks vs EM):Ih X pos (some k::ks) (v::vs) ((tk,tv)::EM):=uH hk.h hv.h hr
def vN {keys:List (Option Expr)}(h:Ih X pos keys values EM)(JB:keys.all (·.isSome)=true)(hl:keys.length=values.length)(h0:keys≠[])(PZ:keys.length<=15):QE X (.Dict keys values pos) (Uw EM):=⟨by
 intro pins s σ H Q I q;have hn:=I.AG.fresh (Aj s.heap.objs.size);have I1:=I.laid (a:=s.heap.objs.size) (o:=.dK []) (h':=s.heap.push { cls:=.type "dict", data:=.dict #[] }) (t':=s.toks) (fun _ _ q=>Bi _ q) (Aj _) (Z8 s.heap I.big);refine wpAny_Dict_walk (knd:=CB X.prog X.w) JB hl h0 PZ (AF (h pins _ σ _ _ I1 (q _ hn)) fun ws s2 ⟨ps,H2,I2,rel,e,A3,ep,lk,q2⟩=>?_);subst ep;obtain ⟨rs,c,rk⟩:=Za (P:=X.prog) (w:=X.w) rel;obtain ⟨z,hd,Iq,r0,dd⟩:=XN I2.AG e;cases r0;refine ⟨rs,c,dd,fun h' K3 hs=>⟨.ref s.heap.objs.size,_,?_,rfl,q2⟩⟩;have hz:(J6 [] A3).length<=sizeLine:=by
  have h1:=cV A3 [];rw [gI] at h1;rw [sizeLine_eq];omega
 have he:∃ q,h'.get? s.heap.objs.size=some q:=let ⟨q,_,_,hq,_⟩:=K3;⟨q,hq⟩;exact TV I2 (by rw [e];exact True.intro) hs he (dZ hz hd (rk.merge .nil) K3)⟩
end
theorem Y6:∀ (more acc:List (Key×V)),((acc++more).map (·.1)).Nodup->J6 acc more=acc++more
 | [],acc,_=>by rw [DV];rfl
 | p::r,acc,h=>by
  show J6 (putK acc p.1 p.2) r=_;have hp:acc.any (fun kv=>decide (kv.1=p.1))=false:=by
   rw [gA];intro q hq e;have e':=i8 e;rw [CO,Ac,CV] at h;exact h.2.2 q.1 (List.mem_map.mpr ⟨q,hq,rfl⟩) p.1 HG e'
  have e:putK acc p.1 p.2=acc++[p]:=by
   unfold putK;rw [hp];rfl
  rw [e,Y6 r (acc++[p]) (by rw [Ce];exact h),Ce];rfl
end L2
namespace Fz
open L2 Lw
variable {ss:List Slot}{E:Ent0}{σ:L2.St}{F H:Hp}{p:Addr}{ta:TA}{Q:VK}{i n:Nat}{pre:Pre}
section
variable [Xw]
def kI {F1 H1:Hp}{o:HO}(S:Sg E ss σ F H)(m:Mv E ss σ F H F1 H1)(hp:H p=none)(hf:F1 p=none):Mv E ss σ F H F1 (upd H1 p o):=
 S.step m.ff (fun a u e=>by rw [AS (by rintro rfl;rw [hf] at e;cases e)];exact m.st.fh a u e)
  (fun a u n e=>by rw [AS (by rintro rfl;rw [hp] at e;cases e)];exact m.hh a u n e) m.nn
  fun i l hi e=>BN.keep (m.st.ET hi e) fun u e2=>by
   rw [AS (by
    rintro rfl;obtain ⟨_,_,e3,_⟩:=S.ET hi e;rw [hp] at e3;cases e3)]
   exact e2
def vH {k:List Nat->OV->Prop}{E:Ent}(ks:List Str)(hk:ks.Nodup)(PZ:ks.length<=15)(S:Sg E ss σ F H)(hp:H p=none)
  (h:Kx ss ta fun m us=>us.length=ks.length/\∀ l,k m (.nd (.Ah (ks.map Sum.inr)) l us))
  (q:∀ v m u F' H',Mv E ss σ F H F' H'->Am F' H' v u->u.addrs.Nodup->(∀ a∈u.addrs,F' a=none/\E.H0 a=none/\((∃ i∈m,∃ s,s≠Slot.AQ/\ss[i]?=some s/\B0 s σ[i]? a)∨H a=none))->k m u->Q v H') :
  ta σ (upd H p (.dK [])) fun vs H2=>H2 p=some (.dK [])/\∃ A3:List (Key×V),List.zipWith (fun s v=>(V.str s,v)) ks vs=A3.map (fun kv=>(kV kv.1,kv.2))/\A3.length<=15/\Q (.ref p) (upd H2 p (.dK (J6 [] A3))):=by
 have m0:=S.make hp (.dK []);have uk:F p=none:=S.Bl hp;refine h.go E σ F _ _ m0.st fun vs m us F1 H1 m1 r1 Fx a1 ⟨hl,kk⟩=>?_;have pb:H1 p=some (.dK []):=m1.hh p _ (S.Ht hp) Al;have ah:F1 p=none:=by
  cases e:F1 p with
  | none=>rfl
  | some o=>
   rcases m1.nn p o e with z | z
   ·rw [uk] at z;cases z
   ·rw [Al] at z;cases z
 have lv:vs.length=ks.length:=by rw [r1.length,hl]
 have ez:List.zipWith (fun s v=>(V.str s,v)) ks vs=((ks.map Sum.inr).zip vs:List (Key×V)).map (fun kv=>(kV kv.1,kv.2)):=by
  rw [List.zip_eq_zipWith,List.zipWith_map_left,List.map_zipWith];rfl
 refine ⟨pb,(ks.map Sum.inr).zip vs,ez,by rw [M8,A9];omega,?_⟩;have nk:((ks.map Sum.inr:List Key)).Nodup:=zr _ (fun a b (h:a≠b)=>fun z=>h (by injection z)) hk;rw [Y6 _ [] (by rw [M9,List.map_fst_zip (by rw [A9];omega)];exact nk),M9];have mv:=kI (o:=.dK ((ks.map Sum.inr).zip vs)) S (m0.trans m1) hp ah;have FF:p∉OV.AX us:=fun ha=>by
  rcases (a1 p ha).2.2 with ⟨i,_,s,_,hs,ow⟩ | z
  ·exact S.Dk hs ow hp
  ·rw [Al] at z;cases z
 refine q _ m (.nd (.Ah (ks.map Sum.inr)) p us) F1 _ mv (.nd (k:=.Ah (ks.map Sum.inr)) (vs:=vs) Al trivial (show (List.map Sum.inr ks:List Key).length=vs.length by rw [A9];exact lv.symm) (r1.mono (AJ.refl _) fun a ha o e=>by rw [AS (by rintro rfl;exact FF ha)];exact e)) ?_ (fun a ha=>?_) (kk p)
 ·rw [OV.Cg];exact List.nodup_cons.mpr ⟨FF,Fx⟩
 ·rw [OV.Cg] at ha;rcases List.mem_cons.mp ha with e | ha
  ·subst e;exact ⟨ah,S.DD hp,.inr hp⟩
  ·obtain ⟨f,h0,w⟩:=a1 a ha;exact ⟨f,h0,w.imp id fun z=>by
    by_cases c:a=p
    ·subst c;exact hp
    ·rw [AS c] at z;exact z⟩
def om {k:List Nat->OV->Prop}{k1 k2 k3:Str}{t1 t2 t3:TE}(hk:[k1,k2,k3].Nodup)(h:Kx ss (Af t1 (Af t2 (Af t3 Az))) fun m us=>us.length=3/\∀ l,k m (.nd (.Ah [.inr k1,.inr k2,.inr k3]) l us)):Wx ss (Uw [(tC (.str k1),t1),(tC (.str k2),t2),(tC (.str k3),t3)]) k:=⟨fun E σ F H Q S q p hp=>
 vH (ta:=Af t1 (Af t2 (Af t3 Az))) [k1,k2,k3] hk (by show (_:Nat)+1<=15;simp) S hp h q⟩
variable {te:TE}{t:OV}
end
def lN {N:List Str}{vs:List V}{X:XK}{t:TS}(h:DS pre vs H Q X)(hl:∀ ss R,pre ss R->ss.length=n)
  (hw:∀ ss R,pre ss R->Ws (ss++List.replicate (N.length - n) .any) t (SF R) R):t { nx:=fun _ H'=>Q .A8 H',rt:=Q } (L2.start N vs) H:=by
 obtain ⟨ss,R,F,A,B,hp,S,q⟩:=h;have e:vs.length=n:=by have:=S.len;rw [A9] at this;rw [<- this];exact hl ss R hp
 unfold L2.start;rw [e];exact (hw ss R hp).go (Nv ⟨A,F,H,B⟩) _ _ F H (S.grown _) (fun A7 σ' F' H' z S' _=>q .A8 F' H' S'.toFin (z.ok S')) fun v F' H' f ok=>q v F' H' f ok
end Fz
namespace Fz
open L2 Lw
section
variable [Xw]
variable {ss:List Slot}{te:TE}{K:ZAy}{P:Program}{w:World}
variable {E:Ent0}{σ:L2.St}{F H F' H':Hp}{js:List Nat}{ta tb:TE}
def Z6 {E:Ent}{F1:Hp}{v:V}{tp:Bool}{xs:List PV}(f:Fv E.toEnt0 F1 v tp xs):∃ l vs,v=.ref l/\(∀ (ss:List Slot) (σ:L2.St) (F H:Hp),AJ F1 F->Sg E.toEnt0 ss σ F H->H l=some (Dr tp vs))/\AH F1 vs xs:=by
 cases tp with
 | true=>
  have f':Rep F1 v (.tup xs):=f;cases f' with
  | tup e r=>exact ⟨_,_,rfl,fun ss σ F H s S=>S.fh _ _ (s _ _ e),r⟩
 | false=>
  obtain ⟨l,vs,e,h1,r⟩:=f;refine ⟨l,vs,e,fun ss σ F H s S=>?_,r⟩;rcases h1 with h1 | ⟨hA,h1⟩
  ·exact S.fh _ _ (s _ _ h1)
  ·exact S.keep _ _ hA h1
def wa {k:List PV->Prop}(h:Wz ss ta fun _ xs=>Wz ss tb fun _ ys=>k (G6 xs ys)):Wi ss (Sb K (Af ta (Af tb Az))) k:=⟨fun E σ F H R S q=>
 h.go E σ F H _ S fun v tp xs F1 H1 m1 f h2=>h2.go E σ F1 H1 _ m1.st fun v2 Be ys F2 H2 m2 f2 kk=>by
  obtain ⟨l,vs,e,Nz,r⟩:=Z6 f;obtain ⟨l2,FE,e2,a2,r2⟩:=Z6 f2;have r:=r.mono m2.ff;have a1:∀ (ss:List Slot) (σ:L2.St) (F H:Hp),AJ F2 F->Sg E ss σ F H->H l=some (Dr tp vs):=fun ss σ F H s S=>Nz ss σ F H (fun a o e=>s a o (m2.ff a o e)) S;subst e;subst e2;have c:=r.length;have c2:=r2.length;refine ⟨l,l2,tp,Be,vs,FE,rfl,Dr.sq (a1 ss σ F2 H2 (AJ.refl _) m2.st),Dr.sq (a2 ss σ F2 H2 (AJ.refl _) m2.st),q _ (G6 xs ys) F2 H2 (m1.trans m2) ⟨fun ss σ F H i s S hi=>?_,fun ss σ F H s S=>?_,fun ss σ F H i x H' s S hi y=>?_⟩ kk⟩
  ·rw [Qz] at hi;exact ⟨Dr.sq (a1 ss σ F H s S),Dr.sq (a2 ss σ F H s S),by omega,by omega⟩
  ·refine ⟨Dr.sq (a1 ss σ F H s S),Dr.sq (a2 ss σ F H s S),?_⟩;rw [Qz];omega
  ·obtain ⟨p,x1,y1,hx,hy,ex,hp,eH⟩:=y;subst ex;subst eH;obtain ⟨z1,SI,vx⟩:=r.get' hx;obtain ⟨z2,Np,ux⟩:=r2.get' hy;have m:=S.alloc hp (.tup [x1,y1]);exact ⟨_,_,cG SI Np,m,.tup Al (.cons (vx.mono (s.trans m.ff)) (.one (ux.mono (s.trans m.ff))))⟩⟩
def bW {n:Nat}{wi:TI}{tt:TT}{te:TE}{k:List PV->Prop}(f:PV->Bool)(g:PV->PV)
  (h:Wi ss wi fun xs=>xs.length<=100000/\(∀ x∈xs,∃ as:List PV,x=.tup as/\as.length=n/\Wt (Bn js ss++as.map .is) tt (fun c=>c=f x)/\(f x=true->Wp (Bn js ss++as.map .is) te fun p=>p=g x))/\k ((xs.filter f).map g))
  (nd:js.Nodup:=by decide) (np:MJ js ss=true:=by rfl):Wn ss (Ky K n wi js tt te) k:=⟨fun E σ F H Q S q=>
 h.go E σ F H _ S fun J xs F1 H1 m1 sr ⟨hz,he,kk⟩ acc Aw=>by
  have FF:C9 ss σ acc:=m1.st.Ht Aw;have Ik:=m1.st.DD Aw;have KJ:∀ (i:Nat) s,ss[i]?=some s->¬ B0 s σ[i]? acc:=fun i s hi=>m1.st.Il hi Aw;refine ⟨fun i m H2=>m=xs.length - i/\i<=xs.length/\∃ F2 vs,Mv E ss σ F1 H1 F2 H2/\F2 acc=none/\H2 acc=some (.lst vs)/\AH F2 vs (((xs.take i).filter f).map g),⟨_,rfl,CD _,F1,[],m1.st.make Aw _,m1.st.Bl Aw,Al,.nil⟩,?_⟩;rintro i m H2 ⟨rfl,hi,F2,vs,m2,fa,ha,rv⟩
  by_cases AM:i<xs.length
  ·refine .inr ⟨sr.go ss σ F2 H2 i m2.ff m2.st AM,fun x H3 y=>?_⟩;obtain ⟨p,F3,hp,m3,rp⟩:=sr.E9 ss σ F2 H2 i x H3 m2.ff m2.st AM y;have Hf:p∈xs:=C2 hp;have J4:(xs.take (i+1))=xs.take i++[p]:=by
    have e2:xs[i]=p:=by rw [AR AM] at hp;exact B8 hp
    rw [OE AM,e2]
   have e1:List.filter f (xs.take (i+1))=(xs.take i).filter f++(if f p=true then [p] else []):=by
    rw [J4,Wr];congr 1
    by_cases hf:f p=true <;> simp [hf]
   have Hw:∀ {F4:Hp},(∀ a o,F4 a=some o->F2 a=some o∨H2 a=none)->F4 acc=none:=fun {F4} n=>by
    cases e:F4 acc with
    | none=>rfl
    | some o=>
     rcases n acc o e with w | w
     ·rw [fa] at w;cases w
     ·rw [ha] at w;cases w
   obtain ⟨as,ep,hn,ht,hw⟩:=he p Hf;rw [ep] at rp;cases rp with
   | tup e r=>
    refine ⟨_,_,rfl,An.of (m3.st.fh _ _ e),by rw [r.length,hn],?_⟩;have S3:=m3.st.AD (js:=js) nd r;refine ht.go E _ F3 H3 _ S3 fun c F4 H4 m4 hb=>?_;have II:=m4.out (ps:=as) m3.st np;have C5:=m3.trans II;show if c=true then _ else _
    rw [hb]
    by_cases hf:f p=true
    ·rw [gq hf];have S4:=C5.st.AD (js:=js) nd (r.mono II.ff);refine (hw hf).go E _ F4 H4 _ S4 fun w pw F5 H5 m5 HW ew=>?_;have KZ:=m5.out (ps:=as) C5.st np;have Cy:=C5.trans KZ;have K0:=Cy.hh acc _ FF ha;have G8:=Hw Cy.nn;have hlen:vs.length<=99999:=by
      rw [rv.length,A9];have:=Ww f (xs.take i);rw [D4] at this;omega
     refine ⟨vs,K0,Gv hlen,xs.length - (i+1),by omega,rfl,AM,F5,vs++[w],?_,G8,Al,?_⟩
     ·have DU:=m2.trans Cy;refine ⟨DU.st.La G8 (.inl Ik) KJ,DU.ff,fun a o n e=>?_,DU.nn⟩;rw [AS (DQ e Aw)];exact DU.hh a o n e
     ·rw [e1,gq hf,CO];rw [ew] at HW;exact (rv.mono Cy.ff).append (.one HW)
    ·have Mq:f p=false:=by simpa using hf
     rw [Mq,gg (by decide)];refine ⟨xs.length - (i+1),by omega,rfl,AM,F4,vs,m2.trans C5,Hw C5.nn,C5.hh acc _ FF ha,?_⟩;rw [e1,gg hf,DV];exact rv.mono C5.ff
  ·have e:i=xs.length:=by omega
   subst e;refine .inl ⟨sr.stop ss σ F2 H2 m2.ff m2.st,q acc vs _ F2 H2 (m1.trans m2) fa (m1.none Aw) ha ?_ kk⟩;rw [Ee] at rv;exact rv⟩
end
end Fz
namespace L2
def wG {X:Cx}:Et X "list.clear" Us:=xy
end L2
namespace L2
section
variable {X:Cx}{e:Expr}{t1 t2:TE}{u1 u2:TT}
def Vs (t1 t2:TT):TT:=fun σ H Q=>t1 σ H Q∨t2 σ H Q
def yg (h1:QT X e u1)(h2:QT X e u2):QT X e (Vs u1 u2):=⟨fun pins s σ H Q I h=>h.elim (h1.h pins s σ H Q I) (h2.h pins s σ H Q I)⟩
end
end L2
namespace Fz
open L2 Lw
variable {ss:List Slot}{te:TE}{a a0 b:Addr}
section
variable [Xw]
variable {K:ZAy}{ta tb tc ti t1 t2:TE}{u1 u2:TT}{nx:List Slot->Prop}{R:Ag}{xs ps:List PV}{i j:Nat}{t:OV}{lt:Bool}{js:List Nat}
def vz {k:Bool->Prop}(h:Wt ss u1 k):Wt ss (Vs u1 u2) k:=⟨fun E σ F H Q S q=>.inl (h.go E σ F H Q S q)⟩
def j5 {k:Bool->Prop}(h:Wt ss u2 k):Wt ss (Vs u1 u2) k:=⟨fun E σ F H Q S q=>.inr (h.go E σ F H Q S q)⟩
def yL {n:Nat}{wi:TI}{tt:TT}{k:List Nat->OV->Prop}(G:PV->OV->Prop)
  (h:Wi ss wi fun xs=>xs.length<=99999/\(∀ x∈xs,∃ as:List PV,x=.tup as/\as.length=n/\Wt (Bn js ss++as.map .is) tt (fun c=>c=true)/\Wx (Bn js ss++as.map .is) te fun m u=>m=[]/\G x u)/\∀ l us,us.length=xs.length->(∀ (j:Nat) x u,xs[j]?=some x->us[j]?=some u->G x u)->k [] (.nd .lst l us))
  (nd:js.Nodup:=by decide) (np:MJ js ss=true:=by rfl):Wx ss (Ky K n wi js tt te) k:=⟨fun E σ F H Q S q=>
 h.go E σ F H _ S fun J xs F1 H1 m1 sr ⟨hz,he,kk⟩ acc Aw=>by
  have FF:C9 ss σ acc:=m1.st.Ht Aw;have Ik:=m1.st.DD Aw;have KJ:∀ (i:Nat) s,ss[i]?=some s->¬ B0 s σ[i]? acc:=fun i s hi=>m1.st.Il hi Aw;refine ⟨fun i m H2=>m=xs.length - i/\i<=xs.length/\∃ F2 vs us,Mv E ss σ F1 H1 F2 H2/\F2 acc=none/\H2 acc=some (.lst vs)/\Ak F2 H2 vs us/\(OV.AX us).Nodup/\(∀ a∈OV.AX us,F2 a=none/\H1 a=none/\a≠acc)/\us.length=i/\∀ (j:Nat) x u,xs[j]?=some x->us[j]?=some u->G x u,
   ⟨_,rfl,CD _,F1,[],[],m1.st.make Aw _,m1.st.Bl Aw,Al,.nil,by rw [OV.FL];exact IG,fun a ha=>by (rw [OV.FL] at ha;cases ha),rfl,fun j x u _ e=>by simp at e⟩,?_⟩
  rintro i m H2 ⟨rfl,hi,F2,vs,us,m2,fa,ha,rv,Kr,K4,Jv,hG⟩
  by_cases AM:i<xs.length
  ·refine .inr ⟨sr.go ss σ F2 H2 i m2.ff m2.st AM,fun x H3 y=>?_⟩;obtain ⟨p,F3,hp,m3,rp⟩:=sr.E9 ss σ F2 H2 i x H3 m2.ff m2.st AM y;have Hf:p∈xs:=C2 hp;have Hw:∀ {F4:Hp},(∀ a o,F4 a=some o->F2 a=some o∨H2 a=none)->F4 acc=none:=fun {F4} n=>by
    cases e:F4 acc with
    | none=>rfl
    | some o=>
     rcases n acc o e with w | w
     ·rw [fa] at w;cases w
     ·rw [ha] at w;cases w
   obtain ⟨as,ep,hn,ht,hw⟩:=he p Hf;rw [ep] at rp;cases rp with
   | tup e r=>
    refine ⟨_,_,rfl,An.of (m3.st.fh _ _ e),by rw [r.length,hn],?_⟩;have S3:=m3.st.AD (js:=js) nd r;refine ht.go E _ F3 H3 _ S3 fun c F4 H4 m4 hb=>?_;have II:=m4.out (ps:=as) m3.st np;have C5:=m3.trans II;show if c=true then _ else _
    rw [hb,gq rfl];have S4:=C5.st.AD (js:=js) nd (r.mono II.ff);refine hw.go E _ F4 H4 _ S4 fun w mm u F5 H5 m5 HW jB hu ⟨em,vq⟩=>?_;subst em;have KZ:=m5.out (ps:=as) C5.st np;have Cy:=C5.trans KZ;have K0:=Cy.hh acc _ FF ha;have G8:=Hw Cy.nn;have hlen:vs.length<=99999:=by rw [rv.length,Jv];omega
    have cq:∀ b∈OV.AX us,C9 ss σ b:=fun b hb=>m1.st.Ht (K4 b hb).2.1;have r5:=rv.mono Cy.ff fun b hb o eo=>Cy.hh b o (cq b hb) eo;have r4:=rv.mono C5.ff fun b hb o eo=>C5.hh b o (cq b hb) eo;have un:∀ b∈u.addrs,F5 b=none/\H4 b=none:=fun b hb=>by
     obtain ⟨f,_,w⟩:=hu b hb;exact ⟨f,w.elim (fun ⟨_,z,_⟩=>absurd z (by simp)) id⟩
    have qN:H4 acc≠none:=by rw [C5.hh acc _ FF ha];simp
    have aS:∀ b∈u.addrs,b≠acc:=fun b hb z=>qN (z▸(un b hb).2);have ad:OV.AX (us++[u])=OV.AX us++u.addrs:=by rw [Ig,KS]
    have uC:∀ b,F2 b=none->H2 b≠none->F5 b=none:=fun b h1 h2=>Cy.Zy h1 h2;refine ⟨vs,K0,Gv hlen,xs.length - (i+1),by omega,rfl,AM,F5,vs++[w],us++[u],?_,G8,Al,?_,?_,fun b hb=>?_,by rw [Bo,Jv];rfl,fun j x u' hx FH=>?_⟩
    ·have DU:=m2.trans Cy;refine ⟨DU.st.La G8 (.inl Ik) KJ,DU.ff,fun a o n e=>?_,DU.nn⟩;rw [AS (DQ e Aw)];exact DU.hh a o n e
    ·refine (r5.append (.one HW)).mono (AJ.refl _) fun b hb o eo=>?_;rw [AS ?_]
     ·exact eo
     ·rw [ad] at hb;rcases List.mem_append.mp hb with hb | hb
      ·exact (K4 b hb).2.2
      ·exact aS b hb
    ·rw [ad,CV];refine ⟨Kr,jB,fun b hb c hc kJ=>?_⟩;subst kJ;exact r4.there b hb (un b hc).2
    ·rw [ad] at hb;rcases List.mem_append.mp hb with hb | hb
     ·exact ⟨uC b (K4 b hb).1 (rv.there b hb),(K4 b hb).2⟩
     ·exact ⟨(un b hb).1,(m2.trans C5).none (un b hb).2,aS b hb⟩
    ·by_cases c:j<us.length
     ·rw [DF c] at FH;exact hG j x u' hx FH
     ·rw [EJ (by omega)] at FH;have hj:j=us.length:=by
       have:=(List.getElem?_eq_some_iff.mp FH).1;simp at this;omega
      subst hj;simp at FH;subst FH;rw [Jv,hp] at hx;cases hx;exact vq
  ·have e:i=xs.length:=by omega
   subst e;refine .inl ⟨sr.stop ss σ F2 H2 m2.ff m2.st,?_⟩;refine q _ [] (.nd .lst acc us) F2 H2 (m1.trans m2) (.nd (k:=.lst) ha trivial trivial rv) ?_ (fun b hb=>?_) (kk acc us Jv hG)
   ·rw [OV.Cg];exact List.nodup_cons.mpr ⟨fun z=>(K4 acc z).2.2 rfl,Kr⟩
   ·rw [OV.Cg] at hb;rcases List.mem_cons.mp hb with e | hb
    ·subst e;exact ⟨fa,Ik,.inr (m1.none Aw)⟩
    ·have hb:b∈OV.AX us:=by simpa [NK.more] using hb
     have z:=(K4 b hb).2.1;exact ⟨(K4 b hb).1,m1.st.DD z,.inr (m1.none z)⟩⟩
def mG (h:Wl ss i t ta fun p u=>∃ lt a us,ss[i]?=some (.ow lt t)/\u=.nd .lst a us/\nx (ss.set i (.ow lt (t.put p (.nd .lst a []))))):Ws ss (Gr (Oo K "list" Us ta)) nx R:=⟨fun E D σ F H S hn hr=>
 h.go E σ F H _ S fun v p u F1 H1 m1 r1 BZ ⟨lt,a,us,hi,eu,kk⟩=>by
  subst eu;cases r1 with
  | @nd k a' vs _ ha sd ft rr=>
   refine ⟨.inl ⟨rfl,_,AI.of ha⟩,a,vs,rfl,rfl,ha,hn _ σ F1 _ kk (Sg.Xb (m:=[]) (u:=.fz .A8) m1.st m1.st hi BZ (fun b hb=>by rw [OV.NA] at hb;cases hb) (by simp) .nil (by rw [OV.FL];exact IG) fun b hb=>by rw [OV.FL] at hb;cases hb) m1.ff⟩⟩
structure Yg (ss:List Slot) (g:TG) (u:OV) (k:List Slot->Prop):Prop where
 go:∀ (E:Ent) (σ:L2.St) (F H:Hp) (v:V) (Q:L2.St->Hp->Prop),Sg E ss σ F H->Am F H v u->(∀ A7 σ',k A7->Sg E A7 σ' F H->Q σ' H)->g v σ H Q
def qP {n1 n2 n3:Nat}{p q:PV}{nk:NK}{us:List OV}{k:List Slot->Prop}(h:k (((ss.set n1 (.is p)).set n2 (.raw (ptr b))).set n3 (.is q))):Yg ss (LI K 3 (IL (Bz n1) (IL (Bz n2) (IL (Bz n3) NT)))) (.tp [.fz p,.nd nk b us,.fz q]) k:=⟨fun E σ F H v Q S r qq=>by
 cases r with
 | tp e r=>
  cases r with
  | cons r1 r=>cases r with
   | cons r2 r=>cases r with
    | cons r3 r=>cases r with
     | nil=>
      cases r1 with
      | fz r1=>cases r3 with
       | fz r3=>cases r2 with
        | nd _ _ _ _=>
         refine ⟨_,_,rfl,An.of (S.fh _ _ e),rfl,_,_,rfl,_,_,rfl,_,_,rfl,rfl,qq _ _ h ?_⟩;exact ((S.Fs r1).setG (j:=n2) (s:=.raw (ptr b)) (v:=.ref b) ⟨_,rfl,rfl,fun _ _ _ h=>h⟩ fun _ z=>by cases z).Fs r3⟩
def pJ {g:TG}{tb:TS}(N:Nat)(I:Nat->List Slot->Prop)(h0:I 0 ss)(st:∀ n A7,n<=N->I n A7->∃ lt us,A7[i]?=some (.ow lt (.nd .lst a0 us))/\us.length=N/\(n<N->∃ u,us[n]?=some u/\Yg A7 g u fun BL=>Ws BL tb (I (n+1)) R))(hd:∀ A7,I N A7->nx A7):
  Ws ss (MZ (VH K (B1 i)) g tb) nx R:=⟨fun E D σ F H S hn hr=>by
 have look:∀ {A7:List Slot}{σ':L2.St} {F' H':Hp}{lt:Bool}{us:List OV},Sg E A7 σ' F' H'->A7[i]?=some (.ow lt (.nd .lst a0 us))->σ'[i]?=some (some (.ref a0))/\∃ vs,H' a0=some (.lst vs)/\Ak F' H' vs us:=fun {A7 σ' F' H' lt us} S hi=>by
  obtain ⟨v,e,r,_,_⟩:=S.ok i _ hi;cases r with
  | nd ha _ _ rr=>exact ⟨e,_,ha,rr⟩
 obtain ⟨lt,us,hi,hl,_⟩:=st 0 ss (CD _) h0;obtain ⟨e,vs,hv,rv⟩:=look S hi;refine ⟨_,e,a0,rfl,⟨vs,AI.of hv⟩,?_⟩;refine ⟨fun n m σ' H'=>m=N - n/\n<=N/\∃ A7 F',I n A7/\Sg E A7 σ' F' H'/\AJ F F',⟨_,rfl,CD _,ss,F,h0,S,AJ.refl _⟩,?_⟩;rintro n m σ' H' ⟨rfl,MM,A7,F',hI,S',s'⟩;obtain ⟨lt',BR,Bb,DH,tn⟩:=st n A7 MM hI;obtain ⟨_,B7,Hq,ZO⟩:=look S' Bb;have ll:=ZO.length
 by_cases AM:n<N
 ·obtain ⟨u,hu,wg⟩:=tn AM;obtain ⟨v,YR,uc⟩:=ZO.get hu;refine .inr ⟨⟨B7,v,AI.of Hq,YR⟩,fun σ2 H2=>∃ BL F2,I (n+1) BL/\Sg E BL σ2 F2 H2/\AJ F F2,fun σ2 H2 ⟨BL,F2,a,b,c⟩=>⟨_,by omega,rfl,AM,BL,F2,a,b,c⟩,fun x H3 y=>?_⟩;obtain ⟨eH,hx⟩:=y;subst eH;have ex:x=v:=by
   have:=hx B7 (AI.of Hq);rw [YR] at this;exact (B8 this).symm
  subst ex;refine wg.go E σ' F' H3 _ _ S' uc fun bC σ4 w S4=>?_;exact w.go E _ σ4 F' H3 S4 (fun Jc σ5 F5 H5 n5 S5 s5=>⟨Jc,F5,n5,S5,s'.trans s5⟩) hr
 ·have e:n=N:=by omega
  subst e;refine .inl ⟨⟨B7,AI.of Hq,by omega⟩,?_⟩;exact hn _ _ F' H' (hd _ hI) S' s'⟩
end
def DX:Slot->Slot
 | .own xs=>.is (.lst xs)
 | .ow _ t=>.is t.pv
 | .AQ=>.any
 | s=>s
section
variable {E:Ent0}{σ:L2.St}{F H F' H':Hp}
def Sg.RV (S:Sg E ss σ F H):Sg (E3 [] (CU F H (BU ss σ)) H) (ss.map DX) σ (CU F H (BU ss σ)) H:=by
 have nn:∀ {p:Prop}(a:Addr),a∈([]:List Addr)->p:=fun a h=>absurd h Aa;refine ⟨⟨S.IS.2,AJ.refl _,fun _ _ _ e=>e,fun _ _ e=>.inl e,fun a h=>nn a h,fun a h=>nn a h,fun a h=>nn a h,fun a h=>nn a h,fun a h=>nn a h,fun a h=>nn a h⟩,by rw [A9,S.len],fun i s hi=>?_,fun i j s u l Gy hi hj ms mu=>?_⟩
 ·rw [AV] at hi;cases e:ss[i]? with
  | none=>rw [e] at hi;cases hi
  | some s0=>
   rw [e] at hi;have es:DX s0=s:=B8 hi;subst es;have k:=S.ok i s0 e;cases s0 with
   | any=>trivial
   | is p=>obtain ⟨v,e1,r⟩:=k;exact ⟨v,e1,r.mono S.IS.1⟩
   | own xs=>
    obtain ⟨l,vs,e1,_,_,e3,r⟩:=k;refine ⟨_,e1,.lst ?_ (r.mono S.IS.1)⟩;unfold CU;rw [gq (V3 S.len e (by simp) e1)];exact e3
   | AQ=>trivial
   | sq tp xs=>
    cases tp with
    | true=>obtain ⟨v,e1,r⟩:=k;exact ⟨v,e1,r.mono S.IS.1⟩
    | false=>
     obtain ⟨l,vs,e1,hA,e2,r⟩:=k;exact ⟨l,vs,e1,⟨Aa,Aa⟩,S.keep l _ hA e2,r.mono S.IS.1⟩
   | raw P=>obtain ⟨v,e1,hp,hm⟩:=k;exact ⟨v,e1,hm _ _ S.IS.1 hp,hm⟩
   | ow lt t=>
    obtain ⟨v,e1,r,_,_⟩:=k;refine ⟨v,e1,r.rep S.IS.1 fun a ha o ho=>?_⟩;unfold CU;rw [gq (V3 S.len e (by simp) ha)];exact ho
 ·rw [AV] at hi;cases e:ss[i]? with
  | none=>rw [e] at hi;cases hi
  | some s0=>
   rw [e] at hi;have es:DX s0=s:=B8 hi;subst es;cases s0 <;> cases ms
mutual
def OV.Fc:OV->Bool
 | .fz p=>D6 p
 | .tp xs=>OV.Hk xs
 | .nd _ _ xs=>OV.Hk xs
def OV.Hk:List OV->Bool
 | []=>true
 | x::r=>x.Fc && OV.Hk r
end
def Am.sk {as:List Addr}(h:∀ a∈as,∀ vs,F a≠some (.tup vs)):∀ {v:V}{t:OV},Am F H v t->t.Fc=true->Am (ES F as) H v t:=by
 intro v t r hn;exact Am.rec (motive_1:=fun v t _=>t.Fc=true->Am (ES F as) H v t) (motive_2:=fun vs ts _=>OV.Hk ts=true->Ak (ES F as) H vs ts)
  (fun {v p} r z=>.fz (r.sub h (by simpa [OV.Fc] using z)))
  (fun {a vs xs} e _ ih z=>.tp (by unfold ES;rw [gg (fun q=>h a q vs e)];exact e) (ih (by simpa [OV.Fc] using z)))
  (fun {k a vs xs} e sd ft _ ih z=>.nd e sd ft (ih (by simpa [OV.Fc] using z)))
  (fun _=>.nil)
  (fun _ _ NZ Mi z=>by
   rw [OV.Hk,FN] at z;exact .cons (NZ z.1) (Mi z.2))
  r hn
end
section
variable {c:TT}
def RO (E:Ent0)(F H:Hp)(as:List Addr):@Ent ZF:=@Ent.mk ZF (E3 [] (CU F H as) H) fun _ _ _ _ _ _ _ _ _ d _=>d.elim
def RL {k:PV->Prop}(h:Wp (ss.map DX) te fun p=>D6 p=true/\k p):Wp ss te k:=⟨fun E σ F H Q S q=>by
 refine h.go (RO E F H (BU ss σ)) σ _ H Q S.RV fun v p F' H' m rp ⟨hn,kk⟩=>?_;obtain ⟨M,ht⟩:=S.Ug m.st.toFin;exact q v p _ H' M (rp.sub ht hn) kk⟩
def cE {k:List PV->Prop}(h:Wn (ss.map DX) te fun ys=>Eo ys=true/\k ys):Wn ss te k:=⟨fun E σ F H Q S q=>by
 refine h.go (RO E F H (BU ss σ)) σ _ H Q S.RV fun l2 FE ys F' H' m f2 h2 DR rp ⟨hn,kk⟩=>?_;obtain ⟨M,ht⟩:=S.Ug m.st.toFin;exact q l2 FE ys _ H' M (by unfold ES;split <;> first | rfl | exact f2) h2 DR (rp.sub ht hn) kk⟩
def mz {k:List Nat->OV->Prop}(h:Wx (ss.map DX) te fun m u=>m=[]/\u.Fc=true/\k [] u):Wx ss te k:=⟨fun E σ F H Q S q=>by
 refine h.go (RO E F H (BU ss σ)) σ _ H Q S.RV fun v mm u F' H' m ro nd hu ⟨em,hn,kk⟩=>?_;subst em;obtain ⟨M,ht⟩:=S.Ug m.st.toFin;refine q v [] u _ H' M (ro.sk ht hn) nd (fun a ha=>?_) kk;obtain ⟨f,h0,_⟩:=hu a ha;have h0:H a=none:=h0;exact ⟨by unfold ES;split <;> first | rfl | exact f,S.DD h0,.inr h0⟩⟩
end
end Fz
namespace L2
variable {X:Cx}{pins:ZAz}{σ:St}{s s2:Shared}{i tk:Nat}{te tl:TE}{Dv pos py:Pos}{ifs:List Expr}{N zs:List Str}{outer scope:Scope}{js:List Nat}{tt:TT}{wi:TI}{x y:Str}
section
def Inv.same {H:Hp}(I:Inv X pins σ H s){h':Heap}(k:∀ b o,s.heap.get? b=some o->h'.get? b=some o):Inv X pins σ H { s with heap:=h',toks:=tk }:=I.kept (t':=tk) k
def WQ (K:ZAy):List V->Hp->VK->Prop:=fun xs H Q=>∃ (p:Addr) (ss:List Int),xs=[.ref p]/\AI K H p (ss.map V.int)/\Q (.int ss.sum) H
def eN (hc:X.calm=true):C3 X (.builtin "sum") (WQ X.K):=by
 intro pins s σ H xs us Q I r h;obtain ⟨p,ss,rfl,hq,q⟩:=h;obtain ⟨u,rfl,rx⟩:=vals1 r;cases rx;obtain ⟨A1,rv,pl,_⟩:=I.list hq;have hi:=Pg rv;obtain ⟨ys,e⟩:=hi.allInts.items;have hl:=pl.isList;rw [e] at hl;refine sum_intListG (I.ok.hd hc) hl fun h' tk t' hk=>⟨.int _,H,I.same hk,⟨t',rfl⟩,?_⟩;have e2:ys.toList.map (·.1)=ss:=by
  rw [<- sY,<- e];exact hi.numsOf
 rw [preSum_eq,Kc (by simp),e2];exact q
def bg (K:ZAy):List V->Hp->VK->Prop:=fun xs H Q=>∃ (p:Addr) (ss:List Int),xs=[.ref p]/\AI K H p (ss.map V.int)/\ss≠[]/\∀ m∈ss,(∀ y∈ss,y<=m)->Q (.int m) H
def ZT (hc:X.calm=true):C3 X (.builtin "max") (bg X.K):=by
 intro pins s σ H xs us Q I r h;obtain ⟨p,ss,rfl,hq,As,q⟩:=h;obtain ⟨u,rfl,rx⟩:=vals1 r;cases rx;obtain ⟨A1,rv,pl,_⟩:=I.list hq;have hi:=Pg rv;obtain ⟨ys,e⟩:=hi.allInts.items;have hl:=pl.isList;rw [e] at hl;have e2:ys.toList.map (·.1)=ss:=by
  rw [<- sY,<- e];exact hi.numsOf
 have hlen:ys.size=ss.length:=by rw [<- e2];simp
 have NV:0<ss.length:=List.length_pos_iff.mpr As;refine max_intList (I.ok.hd hc) hl (by omega) fun v h' tk hv hk=>?_;obtain ⟨t',rfl⟩:=intItems_at hv;obtain ⟨b1,b2⟩:=argBest_gt (numAt ys) (ys.size - 1);refine ⟨.int _,H,I.same hk,⟨t',rfl⟩,q _ ?_ fun y hy=>?_⟩
 ·rw [numAt_eq,e2];exact getD_mem (by omega)
 ·obtain ⟨j,hj,ej⟩:=mem_getD hy;have:=b2 j (by omega);rw [numAt_eq ys j,e2,ej] at this;exact this
def Vi (K:ZAy):V->V->Hp->VK->Prop:=fun x y H Q=>∃ (p:Addr) (xs:List V) (i:Nat) (v:V),x=.ref p/\y=.int i/\AI K H p xs/\xs[i]?=some v/\Q v H
def tN:aR X (Vi X.K):=by
 intro pins s σ H o i ov iv Q I ro ri h;obtain ⟨p,xs,j,v,rfl,rfl,hq,hx,q⟩:=h;cases ro;obtain ⟨t,rfl⟩:=ri;obtain ⟨A1,r,pl,hz⟩:=I.list hq;obtain ⟨w,ew,Es⟩:=r.get hx;have hj:=(List.getElem?_eq_some_iff.mp hx).1;refine wpAny_getItem_list pl.isList (by omega) ?_ (x:=w) (by simpa using ew) ⟨v,H,I,Es,q⟩
 have h24:sizeLine<2 ^ 63:=by decide +kernel
 have:(j:Int)<((2 ^ 63:Nat):Int):=Int.ofNat_lt.mpr (by omega);exact this
def pQ {o i e:Expr}{to ti:TE}{K6:O9}{op:Operator}{Jl:Pos}(ho:QE X o to)(hi:QE X i ti)(he:QE X e te)(hp:T6 X op K6)
  (ha:∀ ov iv new,augStore i ov iv new=(do holding [new,ov,iv] (setItem ov iv new);release [new,ov,iv] [];pure .next):=by intros;rfl):QS X (.AugAssign (.Subscript o i Jl) op e pos) (SE to ti te (Vi X.K) K6 Pp):=⟨xA ho.h hi.h tN he.h hp set_list ha⟩
def qM {tg l:Expr}(hl:QE X l tl):QI X tg l (VH X.K tl):=⟨by
 have hl:=hl.h;intro pins s σ H R I h;refine AF (hl pins s σ H _ I h) fun v s1 ⟨x,H1,I1,r1,q1⟩=>?_;obtain ⟨a,e,⟨xs,hq⟩,q⟩:=q1;subst e;cases r1;obtain ⟨A1,rv,p,hz⟩:=I1.list hq;refine mK p.isList ?_;refine ⟨s1.heap.objs.size,[s1.heap.objs.size],_,_,H1,rfl,I1.kept (t':=s1.toks) fun b o e=>Bi _ e,LG a _,⟨_,C1 _ rfl,rfl,rfl⟩,fun b hb=>?_,q⟩;have e:b=s1.heap.objs.size:=by simpa using hb
 subst e;exact I1.J7 (Aj _) (I1.AG.fresh (Aj _))⟩
variable {elt iter:Expr}{es:List Expr}{tp:Pos}{AD:List Str}
def nL (hN:X.N.Nodup)(Bb:X.N[i]?=some y)(hy:Loc X.env.scope y)(hc:X.calm=true)(S:Hm X.N X.env.scope scope zs AD js)(HR:Hi zs es)(HV:∀ e,(assignEach es e).length=zs.length)(EH:∀ e,(assignEach es e).findIdx? (·.1)=none)(hi:QI X (.Tuple es tk tp) iter wi)
  (C6:∀ fp C s H,Iv (EG X (AD++zs) scope (BJ X.env.cells scope.names) C s H fp) ifs tt) (C7:∀ fp C s H,QE (EG X (AD++zs) scope (BJ X.env.cells scope.names) C s H fp) elt te)
  (GB:swapsWith (.ListComp elt [⟨.Tuple es tk tp,iter,ifs,0⟩] scope pos) (some (.Name y py)) Dv.line X.env=pure true:=by rfl)
  (hf:X.fn y=true∨X.env.scope.names.lookup y=some .local:=by first | exact .inl rfl | exact .inr rfl | assumption)
  (hs:∀ v,foldedSetIterable iter X.env v=pure v:=by intro _;rfl):QS X (.Assign [.Name y py] (.ListComp elt [⟨.Tuple es tk tp,iter,ifs,0⟩] scope pos) Dv) (DK (Ky X.K zs.length wi js tt te) (Bz i)):=⟨by have hi:=hi.h;have C6:=fun fp C s H=>(C6 fp C s H).h;have C7:=fun fp C s H=>(C7 fp C s H).h;exact Vt (CW:=fun J σ H1 acc Q=>OX X.K zs.length J js tt te σ H1 acc Q) (YG S.G) hN Bb hy hc S.G hi (fun _ _ _ _=>cy hc S.G S.Ft HR HV EH) C6 C7 GB hf hs⟩
end
structure Km (N:List Str) (outer scope:Scope) (x:Str) (AD:List Str) (js:List Nat):Prop where
 kind:scope.kind=.function
 loc:∀ y∈scope.names,y.2=.local->scope.names.lookup y.1=some .local
 Ft:scope.names.lookup x=some .cell
 one:∀ y∈scope.names,y.2=.cell->y.1=x
 cf:∀ (n:Nat) (cl:List (Str×Addr)),cellsFrom n scope.names cl=(x,n)::cl
 pc:∀ h:Heap,pushCells h scope.names=h.push { cls:=.type "cell", data:=.cell none }
 at':js.map (fun j=>N[j]?)=AD.map some
 cell:∀ y∈AD,outer.names.lookup y=some .cell
 free:∀ y∈AD,scope.names.lookup y=some .free
 all:∀ y∈scope.names,y.2=.free->outer.names.lookup y.1=some .cell
 nd:(AD++[x]).Nodup
abbrev Qk (X:Cx)(N:List Str)(scope:Scope)(x:Str)(cl:List (Str×Addr))(C:Addr)(s:Shared)(H:Hp)(fp:List Addr):Cx:=EX X N scope (some x) cl C s H fp
section
variable {H2:Hp}{elt iter:Expr}{px:Pos}{AD:List Str}{J:It}{fp:List Addr}{it:Addr}{tn:Nat->Heap->Prop}
def Km.G (S:Km N outer scope x AD js):EF N outer scope (some x) [x] AD js:=
 ⟨S.kind,S.loc,fun y hy e=>by rw [S.one y hy e],fun y e=>by rw [B8 e];exact List.mem_singleton_self _,S.cf,S.pc,S.at',S.cell,S.free,S.all,S.nd⟩
def jh (hc:X.calm=true)(S:Km X.N X.env.scope scope x AD js)(hi:QI X (.Name x px) iter wi)
  (C6:∀ fp C s H,Iv (Qk X (AD++[x]) scope x (BJ X.env.cells scope.names) C s H fp) ifs tt) (C7:∀ fp C s H,QE (Qk X (AD++[x]) scope x (BJ X.env.cells scope.names) C s H fp) elt te)
  (hs:∀ v,foldedSetIterable iter X.env v=pure v:=by intro _;rfl):QE X (.ListComp elt [⟨.Name x px,iter,ifs,0⟩] scope pos) (HD wi js tt te):=
 ⟨V1 (CW:=fun J σ H1 acc Q=>JC J js tt te σ H1 acc Q) (Pr S.G) hc S.G hi.h (fun _ _ _ _=>QM S.G (.inr ⟨rfl,S.Ft⟩)) (fun fp C s H=>(C6 fp C s H).h) (fun fp C s H=>(C7 fp C s H).h) hs⟩
def mR (hN:X.N.Nodup)(Bb:X.N[i]?=some y)(hy:Loc X.env.scope y)(hc:X.calm=true)(S:Km X.N X.env.scope scope x AD js)(hi:QI X (.Name x px) iter wi)
  (C6:∀ fp C s H,Iv (Qk X (AD++[x]) scope x (BJ X.env.cells scope.names) C s H fp) ifs tt) (C7:∀ fp C s H,QE (Qk X (AD++[x]) scope x (BJ X.env.cells scope.names) C s H fp) elt te)
  (GB:swapsWith (.ListComp elt [⟨.Name x px,iter,ifs,0⟩] scope pos) (some (.Name y py)) Dv.line X.env=pure true:=by rfl)
  (hf:X.fn y=true∨X.env.scope.names.lookup y=some .local:=by first | exact .inl rfl | exact .inr rfl | assumption)
  (hs:∀ v,foldedSetIterable iter X.env v=pure v:=by intro _;rfl):QS X (.Assign [.Name y py] (.ListComp elt [⟨.Name x px,iter,ifs,0⟩] scope pos) Dv) (DK (HD wi js tt te) (Bz i)):=
 ⟨Vt (CW:=fun J σ H1 acc Q=>JC J js tt te σ H1 acc Q) (Pr S.G) hN Bb hy hc S.G hi.h (fun _ _ _ _=>QM S.G (.inr ⟨rfl,S.Ft⟩)) (fun fp C s H=>(C6 fp C s H).h) (fun fp C s H=>(C7 fp C s H).h) GB hf hs⟩
end
end L2
namespace Fz
open L2 Lw
variable {A7 ss:List Slot}{ta tb tc te ti:TE}{nx:List Slot->Prop}{R:Ag}{ps xs ys:List PV}{i j n:Nat}{r s x y:Str}{E:Ent0}{σ:L2.St}{F H:Hp}{pre:Pre}{L N S T W ns:List Str}{vs:List V}{Q:VK}{c m t:Int}{nk:NK}{C a a0 b:Addr}{us:List OV}{js l:List Nat}{u:OV}{f:Str->List Str}
section
variable [Xw]
variable {K:ZAy}{k:PV->Prop}
def c7 (h:Wq ss te fun tp xs=>tp=false/\∃ ns:List Int,xs=ns.map PV.int/\k (.int ns.sum)):Wp ss (DL (WQ K) (Af te Az)) k:=⟨fun E σ F H Q S q=>
 h.go E σ F H _ S fun v tp xs F1 H1 m1 sv ⟨et,ns,e,kk⟩=>by
  subst et;subst e;obtain ⟨l,vs,rfl,hl,r⟩:=sv.seq m1.st;rw [r.ints] at hl;exact ⟨l,ns,rfl,AI.of hl,q _ _ F1 H1 m1 (.int _) kk⟩⟩
def ZJ (h:Wq ss te fun tp xs=>tp=false/\∃ ns:List Int,xs=ns.map PV.int/\ns≠[]/\∀ m∈ns,(∀ y∈ns,y<=m)->k (.int m)):Wp ss (DL (bg K) (Af te Az)) k:=⟨fun E σ F H Q S q=>
 h.go E σ F H _ S fun v tp xs F1 H1 m1 sv ⟨et,ns,e,As,kk⟩=>by
  subst et;subst e;obtain ⟨l,vs,rfl,hl,r⟩:=sv.seq m1.st;rw [r.ints] at hl;exact ⟨l,ns,rfl,AI.of hl,As,fun m hm hy=>q _ _ F1 H1 m1 (.int _) (kk m hm hy)⟩⟩
def jT {g:Int->Int->Int}(hi:ss[i]?=some (.own xs))(h:Wp ss ti fun q=>∃ (n:Nat) (x:Int),q=.int n/\xs[n]?=some (.int x)/\Wp ss te fun p=>∃ y,p=.int y/\nx (ss.set i (.own (xs.set n (.int (g x y)))))):Ws ss (SE (B1 i) ti te (Vi K) (bL g) Pp) nx R:=⟨fun E D σ F H S hn hr=>by
 obtain ⟨l,vs,e,e1,e2,e3,r⟩:=S.ok i _ hi;refine ⟨_,e,h.go E σ F H _ S fun v q F1 H1 m1 r1 ⟨n,x,eq,hx,h2⟩=>?_⟩;subst eq;cases r1;obtain ⟨l',Vm,e',_,_,xg,o7⟩:=m1.st.ok i _ hi;rw [e] at e';cases e';obtain ⟨w,hw,rw_⟩:=o7.get hx;cases rw_;refine ⟨l,Vm,n,_,rfl,rfl,AI.of xg,hw,h2.go E σ F1 H1 _ m1.st fun v2 p F2 H2 m2 r2 ⟨y,ey,kk⟩=>?_⟩;subst ey;cases r2;obtain ⟨l',FE,e',f1,f2,iJ,JG⟩:=m2.st.ok i _ hi;rw [e] at e';cases e';have EH:n<FE.length:=by rw [JG.length];exact (List.getElem?_eq_some_iff.mp hx).1
 refine ⟨x,y,rfl,rfl,l,FE,_,n,rfl,rfl,iJ,ZK EH,?_⟩;exact hn _ σ F2 _ kk (m2.st.put hi e f1 f2 (JG.set n (.int _))) (m1.ff.trans m2.ff)⟩
def zP {y:PV}(hj:ss[j]?=some (.own ys))(hy:ys[ys.length - 1]?=some y)(h:nx ((ss.set j (.own ys.dropLast)).set i (.is y))):Ws ss (DK (Oo K "list" Vk (B1 j)) (Bz i)) nx R:=⟨fun E D σ F H S hn hr=>by
 obtain ⟨l,vs,e,e1,e2,e3,r⟩:=S.ok j _ hj;obtain ⟨w,hw,rw_⟩:=r.get hy;have hl:=r.length;refine ⟨_,e,.inl ⟨rfl,_,AI.of e3⟩,l,vs,w,rfl,rfl,e3,by rw [hl];exact hw,?_⟩;have rd:AH F vs.dropLast ys.dropLast:=by
  rw [zv,zv,hl];exact r.take _
 exact hn _ _ F _ h ((S.put hj e e1 e2 rd).Fs rw_) (AJ.refl _)⟩
end
section
variable {lt:Bool}
def Vg (i:Nat)(R:Ag)(A7:List Slot):Prop:=∃ (k:PV->OV->Prop) (nk:NK) (a:Addr) (us:List OV),R=.mt k/\A7[i]?=some (.ow true (.nd nk a us))/\k .A8 (.nd nk a us)
theorem Vg.ok (h:Vg i R A7)(S:Sg E A7 σ F H):R.ok E F H .A8:=by
 obtain ⟨k,nk,a,us,rfl,h0,hk⟩:=h;obtain ⟨v0,e0,r0,CA,q0⟩:=S.ok i _ h0;have ev:v0=.ref a:=by cases r0;rfl
 subst ev;exact ⟨.A8,.nd nk a us,.A8,r0,CA,fun b hb=>⟨(q0 b hb).1,(q0 b hb).2.imp id fun z=>z.2⟩,hk⟩
def vG (i:Nat){X:XK}{t:TS}(h:DS pre vs H Q X)(hl:∀ ss R,pre ss R->ss.length=n)
  (hw:∀ ss R,pre ss R->Ws (ss++List.replicate (N.length - n) .any) t (Vg i R) R):t { nx:=fun _ H'=>Q .A8 H',rt:=Q } (L2.start N vs) H:=by
 obtain ⟨ss,R,F,A,B,hp,S,q⟩:=h;have e:vs.length=n:=by have:=S.len;rw [A9] at this;rw [<- this];exact hl ss R hp
 unfold L2.start;rw [e];exact (hw ss R hp).go (Nv ⟨A,F,H,B⟩) _ _ F H (S.grown _) (fun A7 σ' F' H' z S' _=>q .A8 F' H' S'.toFin (z.ok S')) fun v F' H' f ok=>q v F' H' f ok
variable [Xw]
def ly {k:PV->OV->Prop}(hi:ss[i]?=some (.ow lt (.nd nk a0 us)))(h:k .A8 (.nd nk a0 us)):Ws ss TL nx (.mt k):=⟨fun E D σ F H S hn hr=>by
 obtain ⟨v0,e0,r0,CA,q0⟩:=S.ok i _ hi;have ev:v0=.ref a0:=by cases r0;rfl
 subst ev;exact hr .A8 F H S.toFin ⟨.A8,.nd nk a0 us,.A8,r0,CA,fun a ha=>⟨(q0 a ha).1,(q0 a ha).2.imp id fun z=>z.2⟩,h⟩⟩
end
def R0 (h0:∀ ss R,¬ pre ss R){E:XK}(h:DS pre vs H Q E):False:=by
 obtain ⟨ss,R,F,A,B,hp,_⟩:=h;exact h0 ss R hp
section
variable [Xw]
def pK {k:List PV->Prop}(hi:ss[i]?=some .AQ)(h:Wp ss te fun x=>∃ m,x=.int m/\0<=m/\m<=100/\∀ ns:List Str,(ns.length:Int)=m->(∀ x∈ns,Nm x)->ns.Nodup->k (ns.map PV.str)):Wn ss (E7 VY [] E0 (Af (B1 i) (Af te Az))) k:=⟨fun E σ F H Q S q=>by
 obtain ⟨p,e,_⟩:=S.ok i _ hi;refine ⟨_,e,h.go E σ F H _ S fun v x F1 H1 m1 r ⟨m,em,m0,KD,kk⟩=>?_⟩;subst em;cases r;refine ⟨p,m,rfl,m1.st.ET hi e,m0,KD,fun l H2 ns hl s DN hz hN nd=>?_⟩;have m2:=m1.st.Z7 hi e s;exact q l _ _ F1 H2 (m1.trans m2) (m1.st.Bl hl) (m1.none hl) DN (YC ns) (kk ns hz hN nd)⟩
end
theorem XY:∀ ps:List PV,OV.CZ (ps.map .fz)=ps
 | []=>rfl
 | p::ps=>by rw [Ac,OV.CZ,OV.pv,XY ps]
def cv {n:Int}(h:n<=1000):n<10 ^ 18:=fu h (by decide)
def kB {k:Nat}(h:k<=ns.length):EU ns none (some (k:Int))=ns.take k:=by
 unfold EU;rw [show HT.Cn ns.length 0 none=0 from rfl,Wj,X5]
 congr 1
 simp only [HT.Cn];split <;> omega
structure Kd where
 w:Str
 ps:List (Str×Str)
 g:Bool
variable {ks:List Kd}
def Ar (p:Str×Str):PV:=.tup [.str p.1,.str p.2]
def Kd.P (k:Kd):PV:=.tup [.str k.w,.tup (k.ps.map Ar),.bl k.g]
def WH:List Str:=["next","last","back","first"]
def Fo {α:Type}{xs:List α}{k:Nat}{x:α}(h:xs[k]?=some x):xs.take (k+1)=xs.take k++[x]:=by
 obtain ⟨hk,e⟩:=List.getElem?_eq_some_iff.mp h;rw [OE hk,e]
def yW (h0:0<=t)(h:t<7):∃ z:Nat,L2.Ba [PV.int 0,.int 1,.int 1,.int 2,.int 2,.int 3,.int 6] t=some (.int (z:Int))/\z<=6:=by
 rcases (show t=0∨t=1∨t=2∨t=3∨t=4∨t=5∨t=6 by omega) with rfl | rfl | rfl | rfl | rfl | rfl | rfl
 ·exact ⟨0,rfl,by decide⟩
 ·exact ⟨1,rfl,by decide⟩
 ·exact ⟨1,rfl,by decide⟩
 ·exact ⟨2,rfl,by decide⟩
 ·exact ⟨2,rfl,by decide⟩
 ·exact ⟨3,rfl,by decide⟩
 ·exact ⟨6,rfl,by decide⟩
theorem SN:∀ {ps qs:List (Str×Str)},ps.map Ar=qs.map Ar->ps=qs
 | [],[],_=>rfl
 | [],_::_,h=>by simp at h
 | _::_,[],h=>by simp at h
 | p::ps,q::qs,h=>by
  rw [Ac,Ac] at h;injection h with h1 h2
  have e1:p.1=q.1/\p.2=q.2:=by
   unfold Ar at h1;injection h1 with h1
   injection h1 with a b
   injection a with a
   injection b with b _
   injection b with b
   exact ⟨a,b⟩
  rw [SN h2,Prod.ext e1.1 e1.2]
def Kd.inj (x y:Kd)(h:x.P=y.P):x=y:=by
 obtain ⟨w,ps,g⟩:=x;obtain ⟨w',Ji,g'⟩:=y;unfold Kd.P at h;injection h with h
 injection h with a b
 injection a with a
 injection b with b c
 injection b with b
 injection c with c _
 injection c with c
 have b':=SN b;simp only at a b' c;subst a b' c;rfl
def Ad (ns:List Str):List Key:=ns.map Sum.inr
def Ko (ns:List Str)(x:Str):EO (Ad ns) (.inr x)=decide (x∈ns):=by
 unfold EO Ad;rw [List.any_map]
 by_cases h:x∈ns
 ·rw [hJ h];exact List.any_eq_true.mpr ⟨x,h,hJ rfl⟩
 ·rw [iB h];rw [Bool.eq_false_iff];intro z;obtain ⟨y,hy,e⟩:=List.any_eq_true.mp z;have e2:(Sum.inr y:Key)=Sum.inr x:=i8 e;injection e2 with e2
  exact h (e2▸hy)
theorem dJ:∀ {ns:List Str}{x:Str},x∉ns->Eg (Ad ns) (.inr x)=none
 | [],_,_=>rfl
 | y::ns,x,h=>by
  unfold Ad;rw [Ac,Eg,gg (fun e=>h (by injection e with e;subst e;exact HG))]
  have h1:Eg (ns.map (Sum.inr:Str->Key)) (.inr x)=none:=dJ (ns:=ns) fun z=>h (E5 _ z);rw [h1];rfl
def Mu (h:ns.Nodup):(Ad ns).Nodup:=zr _ (fun a b (h:a≠b)=>fun z=>h (by injection z)) h
def eB (h:x∉ns):Dl (Ad ns) (.inr x)=Ad (ns++[x])/\Ib (Ad ns) us (.inr x) u=us++[u]:=by
 unfold Ib Dl;rw [dJ h,Ko,iB h];exact ⟨by unfold Ad;rw [CO];rfl,rfl⟩
def MU (h:x∉ns):Dl (Ad ns) (.inr x)=Ad (ns++[x]):=(eB (us:=[]) (u:=.fz .A8) h).1
def Ol (h:x∉ns):Ib (Ad ns) us (.inr x) u=us++[u]:=(eB h).2
theorem Jd {y:PV}:∀ {ns:List Str}{xs:List PV}{x:Str},x∈ns->xs[ns.idxOf x]?=some y->Dj (Ad ns) xs (.inr x)=some y
 | [],_,_,h,_=>absurd h Aa
 | z::ns,xs,x,h,e=>by
  rw [List.idxOf_cons] at e;unfold Ad
  by_cases c:z=x
  ·subst c;rw [show (z == z)=true from jw z] at e;cases xs with
   | nil=>cases e
   | cons w ws=>rw [Ac,Dj,gq rfl];exact e
  ·rw [show (z == x)=false from beq_eq_false_iff_ne.mpr c] at e;cases xs with
   | nil=>cases e
   | cons w ws=>
    rw [Ac,Dj,gg (fun q=>c (by injection q))];exact Jd ((List.mem_cons.mp h).resolve_left fun q=>c q.symm) e
def mh (ns:List Str):(Ad ns).map Gg=ns.map PV.str:=by
 unfold Ad;rw [CP];rfl
abbrev wk (ks:List Kd):List Str:=ks.map Kd.w
structure KG (ks:List Kd):Prop where
 l1:1<=ks.length
 l8:ks.length<=8
 nd:(wk ks).Nodup
 nm:∀ k∈ks,Nm k.w
 ps:∀ k∈ks,k.ps.length<=6/\∀ p∈k.ps,p.1∈WH/\p.2∈wk ks
def Cv:List Str:=[("none":Str), "ahead","all"]
def Ea (k:Kd):PV:=.tup [.str k.w,.lst (k.ps.map Ar),.bl k.g]
def Bg (ks:List Kd)(x:Str):List (Str×Str):=match ks[(wk ks).idxOf x]? with
 | some k=>k.ps
 | none=>[]
def E8 (ks:List Kd)(x:Str):Bool:=match ks[(wk ks).idxOf x]? with
 | some k=>k.g
 | none=>false
def Cw:List Str:=["next","last"]
def BK (ks:List Kd)(r x:Str):List (Str×Str):=if r="none" then [] else (Bg ks x).filter fun p=>decide (r="all") || decide (p.1∈Cw)
def AL (ks:List Kd)(r x:Str):List Str:=(BK ks r x).map (·.2)
def OK (r:Str):List Str:=if r="none" then [] else if r="ahead" then Cw else WH
theorem KG.at (h:KG ks)(hx:x∈wk ks):∃ k,ks[(wk ks).idxOf x]?=some k/\k.w=x/\Bg ks x=k.ps/\E8 ks x=k.g/\k∈ks:=by
 have hi:=List.idxOf_lt_length_iff.mpr hx;have Dn:(wk ks).idxOf x<ks.length:=by simpa using hi
 have e:=AR Dn;refine ⟨_,e,?_,?_,?_,Fq Dn⟩
 ·have q:(wk ks)[(wk ks).idxOf x]'hi=x:=GN hi;rw [OD] at q;exact q
 ·unfold Bg;rw [e]
 ·unfold E8;rw [e]
def KG.GU (h:KG ks)(x:Str):(Bg ks x).length<=6/\∀ p∈Bg ks x,p.1∈WH/\p.2∈wk ks:=by
 unfold Bg;split
 ·next k e=>exact h.ps k (C2 e)
 ·exact ⟨CD _,fun p hp=>absurd hp Aa⟩
def kh {p:Str×Str}(h:p∈BK ks r x):p∈Bg ks x:=by
 unfold BK at h;split at h
 ·cases h
 ·exact (List.mem_filter.mp h).1
def bQ (h:KG ks)(r x:Str):(BK ks r x).length<=6:=by
 unfold BK;split
 ·exact CD _
 ·exact Em (Ww _ _) (h.GU x).1
def KG.Vf (h:KG ks)(hy:y∈AL ks r x):y∈wk ks:=by
 obtain ⟨p,hp,rfl⟩:=List.mem_map.mp hy;exact ((h.GU x).2 p (kh hp)).2
def VN (h:KG ks)(r x:Str):(AL ks r x).length<=6:=by
 unfold AL;rw [A9];exact bQ h r x
def pf (h:KG ks)(hr:r∈Cv)(x:Str):((Bg ks x).filter fun p=>decide (p.1∈OK r)).map (·.2)=AL ks r x:=by
 unfold AL BK OK;simp only [Cv,Dq,Aa,lg] at hr;rcases hr with rfl | rfl | rfl
 ·rw [gq rfl];simp
 ·rw [gg (by decide),gq rfl,gg (by decide)]
  congr 1
 ·rw [gg (by decide),gg (by decide),gg (by decide)]
  congr 1
  refine List.filter_congr fun p hp=>?_;rw [hJ ((h.GU x).2 p hp).1];simp
def W4 (p q:Str×Str)(h:Ar p=Ar q):p=q:=by
 unfold Ar at h;injection h with h
 injection h with h1 h2
 injection h1 with h1
 injection h2 with h2 _
 injection h2 with h2
 exact Prod.ext h1 h2
def jz (x y:Kd)(h:Ea x=Ea y):x=y:=by
 obtain ⟨w,ps,g⟩:=x;obtain ⟨w',Ji,g'⟩:=y;unfold Ea at h;injection h with h
 injection h with h1 h2
 injection h1 with h1
 injection h2 with h2 h3
 injection h2 with h2
 injection h3 with h3 _
 injection h3 with h3
 have h2:=SN h2;subst h1 h2 h3;rfl
inductive BF (f:Str->List Str) (S:List Str):Str->Prop
 | here {x:Str}:x∈S->BF f S x
 | step {x y:Str}:BF f S x->y∈f x->BF f S y
def Top (f:Str->List Str)(L:List Str):Prop:=∀ (i:Nat) (x:Str),L[i]?=some x->∀ y∈f x,y∈L.take i
def HN (f:Str->List Str)(W:List Str):Prop:=∀ (i:Nat) (x y:Str),W[i]?=some x->W[i+1]?=some y->y∈f x
def Top.nil:Top f []:=fun i x h=>by simp at h
def Top.snoc (h:Top f L)(hx:∀ y∈f x,y∈L):Top f (L++[x]):=fun i z hz y hy=>by
 by_cases c:i<L.length
 ·rw [DF c] at hz;rw [List.take_append_of_le_length (by omega)];exact h i z hz y hy
 ·rw [EJ (by omega)] at hz;have hi:i=L.length:=by
   have:=(List.getElem?_eq_some_iff.mp hz).1;simp at this;omega
  subst hi;simp at hz;subst hz;rw [List.take_left']
  ·exact hx y hy
  ·rfl
def HN.snoc {V:List Str}(h:HN f (V++[x]))(hy:y∈f x):HN f (V++[x]++[y]):=fun i a b ha hb=>by
 by_cases c:i+1<(V++[x]).length
 ·rw [DF c] at hb;rw [DF (by omega)] at ha;exact h i a b ha hb
 ·have hi:i+1=(V++[x]).length:=by
   have:=(List.getElem?_eq_some_iff.mp hb).1;simp at this c ⊢;omega
  rw [hi] at hb;have hb:(V++[x]++[y])[(V++[x]).length]?=some b:=hb;rw [EJ (Aj _)] at hb;simp at hb;subst hb;have Dn:i=V.length:=by simp at hi;exact hi
  subst Dn;rw [Ce,EJ (Aj _)] at ha;simp at ha;subst ha;exact hy
def HN.one (x:Str):HN f [x]:=fun i a b _ hb=>by simp at hb
structure Tc (f:Str->List Str) (ws W:List Str) (i:Nat):Prop where
 nd:W.Nodup
 ch:HN f W
 sub:∀ x∈W,x∈ws
 at':∃ y z,W[i]?=some y/\W[W.length - 1]?=some z/\y∈f z
def VX (W:List Str)(i:Nat):PV:=.tup [.lst ((W.take (i+1)).map .str),.lst ((W.drop i).map .str)]
def ml (h:Top f L)(hS:∀ x∈S,x∈L)(r:BF f S x):x∈L:=by
 induction r with
 | here m=>exact hS _ m
 | step _ hy ih=>
  obtain ⟨i,hi,e⟩:=E4 ih;exact X0 (h i _ (by rw [AR hi,e]) _ hy)
def vC (h:Top f L)(n:Nat):Top f (L.take n):=fun i x hx y hy=>by
 rw [List.getElem?_take] at hx;split at hx
 ·next c=>
  rw [List.take_take,X4 (by omega)];exact h i x hx y hy
 ·cases hx
def vm (h:Top f L)(nd:L.Nodup)(hx:x∈L):¬ BF f (f x) x:=fun r=>by
 obtain ⟨i,hi,e⟩:=E4 hx;have e2:L[i]?=some x:=by rw [AR hi,e]
 have m:=ml (vC h i) (S:=f x) (fun y hy=>h i x e2 y hy) r;obtain ⟨j,hj,ej⟩:=E4 m;rw [D4] at hj;rw [Kb] at ej;have q:=List.pairwise_iff_getElem.mp nd j i (by omega) hi (by omega);exact q (ej.trans e.symm)
def J2 (f:Str->List Str)(S:List Str):Prop:=∃ x,BF f S x/\BF f (f x) x
def ZL (h:HN f W)(hi:∃ x,W[i]?=some x/\BF f S x):∀ j,i<=j->∀ y,W[j]?=some y->BF f S y:=by
 intro j
 induction j with
 | zero=>
  intro hj y hy;obtain ⟨x,hx,r⟩:=hi;have:i=0:=by omega
  subst this;rw [hx] at hy;cases hy;exact r
 | succ j ih=>
  intro hj y hy
  by_cases c:i=j+1
  ·obtain ⟨x,hx,r⟩:=hi;subst c;rw [hx] at hy;cases hy;exact r
  ·have AM:=(List.getElem?_eq_some_iff.mp hy).1;obtain ⟨x,hx⟩:∃ x,W[j]?=some x:=⟨_,AR (by omega)⟩;exact .step (ih (by omega) x hx) (h j x y hx hy)
def jx {ws:List Str}(h:Tc f ws W i)(h0:∃ x,W[0]?=some x/\x∈S):J2 f S:=by
 obtain ⟨x0,e0,m0⟩:=h0;obtain ⟨y,z,hy,hz,hf⟩:=h.at';have hi:=(List.getElem?_eq_some_iff.mp hy).1;refine ⟨y,ZL h.ch ⟨x0,e0,.here m0⟩ i (CD _) y hy,?_⟩
 by_cases c:i=W.length - 1
 ·subst c;rw [hy] at hz;cases hz;exact .here hf
 ·obtain ⟨a,ha⟩:∃ a,W[i+1]?=some a:=⟨_,AR (by omega)⟩;exact .step (ZL h.ch ⟨a,ha,.here (h.ch i y a hy ha)⟩ _ (by omega) z hz) hf
def Ds:List Str:=["puts_by_word","goes_by_word"]
def BS (C:Addr)(ks:List Kd):PV:=.obj C Ds [.Ah (Ad (wk ks)) (ks.map fun k=>.tup (k.ps.map Ar)),.Ah (Ad (wk ks)) (ks.map fun k=>.bl k.g)]
def Hx (C dx a b1 b2:Addr)(ks:List Kd):OV:=.nd (.obj C dx Ds) a [.nd (.Ah (Ad (wk ks))) b1 (ks.map fun k=>.fz (.tup (k.ps.map Ar))),.nd (.Ah (Ad (wk ks))) b2 (ks.map fun k=>.fz (.bl k.g))]
theorem O1 {α:Type}(g:α->PV):∀ (l:List α),OV.CZ (l.map fun x=>OV.fz (g x))=l.map g
 | []=>by rw [Ek,OV.CZ];rfl
 | x::r=>by rw [Ac,OV.CZ,OV.pv,O1 g r];rfl
def nD (C dx a b1 b2:Addr)(ks:List Kd):(Hx C dx a b1 b2 ks).pv=BS C ks:=by
 unfold Hx BS;rw [OV.pv,OV.CZ,OV.pv,OV.CZ,OV.pv,OV.CZ,O1,O1]
theorem NU {α:Type}(g:α->PV)(h:∀ x,D6 (g x)=true):∀ (l:List α),Eo (l.map g)=true
 | []=>by rw [Ek,Eo]
 | x::r=>by rw [Ac,Eo,h x,NU g h r];rfl
theorem Sr {α:Type}(g:α->OV)(h:∀ x,(g x).Fc=true):∀ (l:List α),OV.Hk (l.map g)=true
 | []=>by rw [Ek,OV.Hk]
 | x::r=>by rw [Ac,OV.Hk,h x,Sr g h r];rfl
def mQ (p:Str×Str):D6 (Ar p)=true:=by unfold Ar;simp [D6,Eo]
def jS (C dx a b1 b2:Addr)(ks:List Kd):(Hx C dx a b1 b2 ks).Fc=true:=by
 unfold Hx;simp only [OV.Fc,OV.Hk];rw [Sr _ fun k=>?_,Sr _ fun k=>?_]
 ·rfl
 ·simp [OV.Fc,D6]
 ·rw [OV.Fc,D6];exact NU _ mQ _
def Ll:Pre:=fun l R=>∃ (ws:List Str) (d:PV) (x:Str),l=[.is d,.is (.str x)]/\(d=.lst (ws.map .str)∨∃ xs,d=.Ah (Ad ws) xs)/\ws.length<=1000/\x∈ws/\R=.is (fun p=>p=.A8)
def UZ:Pre:=fun l R=>∃ (ws:List Str) (ps:List (Str×Str)),l=[.is (.lst (ws.map .str)),.is (.lst (ps.map Ar))]/\ws.length<=1000/\(∀ p∈ps,p.1∈WH/\p.2∈ws)/\R=.is (fun p=>p=.A8)
def WB:Pre:=fun l R=>∃ ks:List Kd,l=[.is (.lst (ks.map Ea))]/\KG ks/\R=.is (fun p=>p=.A8)
def UJ (C:Addr):Pre:=fun l R=>∃ (dx a:Addr) (ks:List Kd),l=[.ow true (.nd (.obj C dx []) a []),.is (.lst (ks.map Ea))]/\KG ks/\R=.mt (fun p t'=>p=.A8/\∃ b1 b2,t'=Hx C dx a b1 b2 ks)
def Jr (C:Addr):Pre:=fun l R=>∃ ks:List Kd,l=[.is (BS C ks)]/\KG ks/\R=.new (fun xs=>xs=(wk ks).map .str)
def Pw (C:Addr):Pre:=fun l R=>∃ (ks:List Kd) (x:Str),l=[.is (BS C ks),.is (.str x)]/\KG ks/\x∈wk ks/\R=.new (fun xs=>xs=(Bg ks x).map Ar)
def Qc (C:Addr):Pre:=fun l R=>∃ (ks:List Kd) (x:Str),l=[.is (BS C ks),.is (.str x)]/\KG ks/\x∈wk ks/\R=.is (fun p=>p=.bl (E8 ks x))
def Tq:Pre:=fun l R=>∃ r:Str,l=[.is (.str r)]/\r∈Cv/\R=.is (fun p=>p=.A8)
def U8 (C:Addr):Pre:=fun l R=>∃ (ks:List Kd) (tp:Bool) (cs:List Str),l=[.is (BS C ks),.sq tp (cs.map .str)]/\KG ks/\cs.length<=12/\(∀ c∈cs,c∈wk ks)/\R=.is (fun p=>p=.A8)
def Lj (C:Addr):Pre:=fun l R=>∃ (ks:List Kd) (x r:Str),l=[.is (BS C ks),.is (.str x),.is (.str r)]/\KG ks/\x∈wk ks/\r∈Cv/\R=.new (fun xs=>xs=(BK ks r x).map Ar)
def Lb (a:Addr)(L:List Str):OV:=.nd (.Ah (Ad L)) a (L.map fun _=>.fz (.bl true))
def Jk (C:Addr)(n:Nat):Pre:=fun l R=>∃ (ks:List Kd) (r:Str) (V:List Str) (x:Str) (L:List Str) (a:Addr),l=[.is (BS C ks),.is (.str r),.is (.lst ((V++[x]).map .str)),.ow true (Lb a L)]/\KG ks/\r∈Cv/\9<=V.length+1+n/\
 (V++[x]).Nodup/\(∀ y∈V++[x],y∈wk ks)/\HN (AL ks r) (V++[x])/\(∀ y∈V,y∉L)/\Top (AL ks r) L/\L.Nodup/\(∀ y∈L,y∈wk ks)/\
 R=.mt (fun p t'=>∃ L',t'=Lb a L'/\((p=.A8/\Top (AL ks r) L'/\L'.Nodup/\(∀ y∈L',y∈wk ks)/\(∀ y∈L,y∈L')/\(∀ y∈V,y∉L')/\x∈L')∨∃ W i,p=VX W i/\(V++[x]) <+: W/\Tc (AL ks r) (wk ks) W i))
def YX:∀ ss R,¬ Jk C 0 ss R:=by
 rintro ss R ⟨ks,r,V,x,L,a,_,g,_,h9,nd,sub,_⟩;have:=Ep nd sub;have:=g.l8;rw [Bo,IF,A9] at *;omega
def gh (f:Str->List Str)(ws cs:List Str)(p:PV):Prop:=(p=.A8/\∃ L,Top f L/\L.Nodup/\(∀ y∈L,y∈ws)/\∀ c∈cs,c∈L)∨∃ W i c,p=VX W i/\Tc f ws W i/\W[0]?=some c/\c∈cs
def Vr (C:Addr):Pre:=fun l R=>∃ (ks:List Kd) (tp:Bool) (cs:List Str) (r:Str),l=[.is (BS C ks),.sq tp (cs.map .str),.is (.str r)]/\KG ks/\r∈Cv/\cs.length<=12/\(∀ c∈cs,c∈wk ks)/\R=.is (gh (AL ks r) (wk ks) cs)
def Vh:Pre:=fun l R=>l=[.AQ]/\R=.is fun p=>∃ ks:List Kd,p=.lst (ks.map Kd.P)/\KG ks
def SU (C:Addr):Pre:=fun l R=>∃ ks:List Kd,l=[.is (.lst (ks.map Kd.P))]/\KG ks/\R=.is (fun p=>p=BS C ks)
def Vb:Pre:=fun l R=>∃ ks:List Kd,l=[.AQ,.is (.lst (ks.map Kd.P))]/\KG ks/\R=.new (fun xs=>∃ cs:List Str,xs=cs.map .str/\cs.length<=12/\∀ c∈cs,c∈wk ks)
def Sw:Pre:=fun l R=>l=[.AQ]/\R=.is (fun p=>∃ r∈Cv,p=.str r)
def Ma:Pre:=fun l R=>∃ (ks:List Kd) (x r:Str),l=[.is (.lst (ks.map Kd.P)),.is (.str x),.is (.str r)]/\KG ks/\x∈wk ks/\r∈Cv/\R=.new (fun xs=>xs=(AL ks r x).map .str)
def Qy:Pre:=fun l R=>∃ (ks:List Kd) (S:List Str) (r:Str),l=[.is (.lst (ks.map Kd.P)),.sq false (S.map .str),.is (.str r)]/\KG ks/\r∈Cv/\S.length<=12/\(∀ x∈S,x∈wk ks)/\R=.new (fun xs=>∃ L:List Str,xs=L.map .str/\L.Nodup/\L.length<=8/\∀ x,x∈L↔BF (AL ks r) S x)
def Rb:Pre:=fun l R=>∃ (ks:List Kd) (cs:List Str) (r:Str),l=[.is (.lst (ks.map Kd.P)),.sq false (cs.map .str),.is (.str r)]/\KG ks/\r∈Cv/\cs.length<=12/\(∀ x∈cs,x∈wk ks)/\R=.is (fun p=>∃ b:Bool,p=.bl b/\(b=true↔J2 (AL ks r) cs))
def KG.bp (h:KG ks)(hx:x∈wk ks):∃ k rest,ks.filter (fun k=>decide (k.w=x))=k::rest/\k.ps=Bg ks x:=by
 obtain ⟨k,ek,ew,ep,_,km⟩:=h.at hx;have:k∈ks.filter (fun k=>decide (k.w=x)):=List.mem_filter.mpr ⟨km,hJ ew⟩;cases e:ks.filter (fun k=>decide (k.w=x)) with
 | nil=>rw [e] at this;cases this
 | cons k' rest=>
  refine ⟨k',rest,rfl,?_⟩;have hm:k'∈ks.filter (fun k=>decide (k.w=x)):=by rw [e];simp
  obtain ⟨lS,WL⟩:=List.mem_filter.mp hm;have WL:k'.w=x:=i8 WL;obtain ⟨i,hi,ei⟩:=E4 lS;have iD:(wk ks).idxOf x=i:=by
   have q:(wk ks)[i]?=some x:=by rw [AV,AR hi,ei];simp [WL]
   exact Mc h.nd q
  rw [ep];rw [iD,AR hi,ei] at ek;cases ek;rfl
def Gu (h:KG ks)(hS:∀ x∈S,x∈wk ks)(q:BF (AL ks r) S x):x∈wk ks:=by
 induction q with
 | here m=>exact hS _ m
 | step _ hy _=>exact h.Vf hy
def uq (n:Nat):Fj (n+1) (-1)=some n:=by
 unfold Fj;rw [gg (by decide),gq (by omega)]
 congr 1
 omega
def pO (V:List Str)(x:Str):L2.Ba ((V++[x]).map PV.str) (-1)=some (.str x):=by
 unfold L2.Ba;rw [A9,Bo,IF,uq];simp
def jX (h0:0<=t)(h:t<3):∃ r∈Cv,L2.Ba [PV.str "none", .str "ahead", .str "all"] t=some (.str r):=by
 rcases (show t=0∨t=1∨t=2 by omega) with rfl | rfl | rfl
 ·exact ⟨"none", by decide,rfl⟩
 ·exact ⟨"ahead", by decide,rfl⟩
 ·exact ⟨"all", by decide,rfl⟩
def wY (h0:0<=t)(h:t<4):∃ x∈WH,L2.Ba [PV.str "next", .str "last", .str "back", .str "first"] t=some (.str x):=by
 rcases (show t=0∨t=1∨t=2∨t=3 by omega) with rfl | rfl | rfl | rfl
 ·exact ⟨"next", by decide,rfl⟩
 ·exact ⟨"last", by decide,rfl⟩
 ·exact ⟨"back", by decide,rfl⟩
 ·exact ⟨"first", by decide,rfl⟩
def oB (h0:0<=t)(h:t<8):∃ z:Nat,L2.Ba [PV.int 0,.int 1,.int 1,.int 2,.int 3,.int 4,.int 6,.int 12] t=some (.int (z:Int))/\z<=12:=by
 rcases (show t=0∨t=1∨t=2∨t=3∨t=4∨t=5∨t=6∨t=7 by omega) with rfl | rfl | rfl | rfl | rfl | rfl | rfl | rfl
 ·exact ⟨0,rfl,by decide⟩
 ·exact ⟨1,rfl,by decide⟩
 ·exact ⟨1,rfl,by decide⟩
 ·exact ⟨2,rfl,by decide⟩
 ·exact ⟨3,rfl,by decide⟩
 ·exact ⟨4,rfl,by decide⟩
 ·exact ⟨6,rfl,by decide⟩
 ·exact ⟨12,rfl,by decide⟩
theorem UH {P:Str->Prop}:∀ {ys:List PV},(∀ y∈ys,∃ c,P c/\y=.str c)->∃ cs:List Str,ys=cs.map .str/\∀ c∈cs,P c
 | [],_=>⟨[],rfl,fun c h=>absurd h Aa⟩
 | y::r,h=>by
  obtain ⟨c,hc,rfl⟩:=h y (by simp);obtain ⟨cs,e,h2⟩:=UH (ys:=r) fun z hz=>h z (by simp [hz]);exact ⟨c::cs,by rw [e];rfl,fun d hd=>by
   rcases List.mem_cons.mp hd with rfl | hd
   ·exact hc
   ·exact h2 d hd⟩
theorem VT:∀ {a b:List Str},a.map PV.str=b.map PV.str->a=b
 | [],[],_=>rfl
 | [],_::_,h=>by simp at h
 | _::_,[],h=>by simp at h
 | x::a,y::b,h=>by
  rw [Ac,Ac] at h;injection h with h1 h2
  injection h1 with h1
  rw [h1,VT h2]
def De:List Kd->List Addr->List OV
 | k::ks,b::bs=>.tp [.fz (.str k.w),.nd .lst b ((k.ps.map Ar).map .fz),.fz (.bl k.g)]::De ks bs
 | _,_=>[]
theorem Xd:∀ {ks:List Kd}{us:List OV},us.length=(ks.map Kd.P).length->(∀ (j:Nat) x u,(ks.map Kd.P)[j]?=some x->us[j]?=some u->∃ (k:Kd) (b:Addr),x=k.P/\u=.tp [.fz (.str k.w),.nd .lst b ((k.ps.map Ar).map .fz),.fz (.bl k.g)])->∃ bs:List Addr,bs.length=ks.length/\us=De ks bs
 | [],[],_,_=>⟨[],rfl,rfl⟩
 | [],_::_,h,_=>by simp at h
 | _::_,[],h,_=>by simp at h
 | k::ks,u::us,h,hG=>by
  obtain ⟨k',b,e1,e2⟩:=hG 0 _ _ rfl rfl;have e1:=Kd.inj _ _ e1;subst e1;obtain ⟨bs,lb,e⟩:=Xd (ks:=ks) (us:=us) (by simpa using h) fun j x u hx hu=>hG (j+1) x u hx hu
  exact ⟨b::bs,by simp [lb],by rw [e,e2];rfl⟩
theorem Zt:∀ (ks:List Kd) (bs:List Addr),bs.length=ks.length->(De ks bs).length=ks.length
 | [],_,_=>by simp [De]
 | _::_,[],h=>by simp at h
 | k::ks,b::bs,h=>by rw [De,Bu,Bu,Zt ks bs (by simpa using h)]
theorem aG:∀ (ks:List Kd) (bs:List Addr),bs.length=ks.length->∀ {j:Nat}{u:OV},(De ks bs)[j]?=some u->∃ (k:Kd) (b:Addr),k∈ks/\u=.tp [.fz (.str k.w),.nd .lst b ((k.ps.map Ar).map .fz),.fz (.bl k.g)]
 | [],_,_,j,u,hu=>by simp [De] at hu
 | _::_,[],h,_,_,_=>by simp at h
 | k::ks,b::bs,h,0,u,hu=>by
  rw [De] at hu;exact ⟨k,b,by simp,(B8 hu).symm⟩
 | k::ks,b::bs,h,j+1,u,hu=>by
  rw [De] at hu;obtain ⟨k',b',km,e⟩:=aG ks bs (by simpa using h) (j:=j) (u:=u) (by simpa using hu)
  exact ⟨k',b',by simp [km],e⟩
theorem dq:∀ (ks:List Kd) (bs:List Addr),bs.length=ks.length->OV.CZ (De ks bs)=ks.map Ea
 | [],_,_=>by rw [De,OV.CZ];rfl;exact fun _ _ _ _ h=>by cases h
 | _::_,[],h=>by simp at h
 | k::ks,b::bs,h=>by
  rw [De,OV.CZ,dq ks bs (by simpa using h),Ac]
  congr 1
  rw [OV.pv,OV.CZ,OV.pv,OV.CZ,OV.pv,OV.CZ,OV.pv,OV.CZ];unfold Ea;rw [CP,show (OV.fz ∘ Ar)=fun p=>OV.fz (Ar p) from rfl,O1]
def uP (ks:List Kd)(bs:List Addr)(l:Addr)(h:bs.length=ks.length):(OV.nd .lst l (De ks bs)).pv=.lst (ks.map Ea):=by rw [OV.pv,dq ks bs h]
def D1:List Int->Int
 | []=>0
 | [a]=>a
 | a::b::r=>if a<=D1 (b::r) then D1 (b::r) else a
theorem Iw:∀ (ns:List Int),ns≠[]->D1 ns∈ns/\∀ y∈ns,y<=D1 ns
 | [],h=>absurd rfl h
 | [a],_=>⟨by simp [D1],fun y hy=>by rw [List.mem_singleton.mp hy];exact FO _⟩
 | a::b::r,_=>by
  obtain ⟨h1,h2⟩:=Iw (b::r) (by simp);rw [D1]
  by_cases c:a<=D1 (b::r)
  ·rw [gq c];refine ⟨E5 _ h1,fun y hy=>?_⟩;rcases List.mem_cons.mp hy with rfl | hy
   ·exact c
   ·exact h2 y hy
  ·rw [gg c];refine ⟨by simp,fun y hy=>?_⟩;rcases List.mem_cons.mp hy with rfl | hy
   ·exact FO _
   ·have:=h2 y hy;omega
def YE {ns:List Int}(hm:m∈ns)(h:∀ y∈ns,y<=m):m=D1 ns:=by
 obtain ⟨h1,h2⟩:=Iw ns (fun z=>by rw [z] at hm;cases hm);have:=h2 m hm;have:=h _ h1;omega
def Eh (ks:List Kd)(r x:Str)(g:Str->List Int):List Int:=(List.range ks.length).map fun j=>((AL ks r x).map fun y=>(g y).getD j 0).sum+(if (wk ks).idxOf x=j then 1 else 0)
def GF (f:Str->Int)(p:Str×Str):Int:=if p.1∈Cw then f p.2 else f p.2+1
def HJ (ks:List Kd)(r x:Str)(f:Str->Int):Int:=D1 (1::(BK ks r x).map (GF f))
def CG (ks:List Kd)(r:Str):Nat->Str->List Int
 | 0=>fun _=>(List.range ks.length).map fun _=>0
 | n+1=>fun x=>Eh ks r x (CG ks r n)
def GA (ks:List Kd)(r:Str):Nat->Str->Int
 | 0=>fun _=>0
 | n+1=>fun x=>HJ ks r x (GA ks r n)
def qY (ks:List Kd)(r x:Str)(g:Str->List Int):(Eh ks r x g).length=ks.length:=by unfold Eh;rw [A9,IE]
def wI (ks:List Kd)(r:Str)(n:Nat)(x:Str):(CG ks r n x).length=ks.length:=by
 cases n with
 | zero=>rw [CG,A9,IE]
 | succ n=>rw [CG,qY]
def de {g g':Str->List Int}(h:∀ y∈AL ks r x,g y=g' y):Eh ks r x g=Eh ks r x g':=by
 unfold Eh;refine JP fun j _=>?_;rw [JP fun y hy=>by rw [h y hy]]
def Y7 {g g':Str->Int}(h:∀ y∈AL ks r x,g y=g' y):HJ ks r x g=HJ ks r x g':=by
 unfold HJ;rw [JP fun p hp=>?_];unfold GF;rw [h p.2 (List.mem_map.mpr ⟨p,hp,rfl⟩)]
def lZ (h:Top (AL ks r) T):∀ (i:Nat) (x:Str),T[i]?=some x->∀ n m,i<n->i<m->CG ks r n x=CG ks r m x/\GA ks r n x=GA ks r m x:=by
 intro i
 induction i using Nat.strongRecOn with
 | _ i ih=>
  intro x hx n m hn hm;cases n with
  | zero=>omega
  | succ n=>cases m with
   | zero=>omega
   | succ m=>
    have key:∀ y∈AL ks r x,CG ks r n y=CG ks r m y/\GA ks r n y=GA ks r m y:=fun y hy=>by
     obtain ⟨j,hj,ej⟩:=E4 (h i x hx y hy);rw [D4] at hj;rw [Kb] at ej;exact ih j (by omega) y (by rw [AR (by omega),ej]) n m (by omega) (by omega)
    rw [CG,CG,GA,GA];exact ⟨de fun y hy=>(key y hy).1,Y7 fun y hy=>(key y hy).2⟩
theorem Z5:∃ n:Nat,n=9:=⟨9,rfl⟩
noncomputable def fuel:Nat:=Classical.choose Z5
def ZN:fuel=9:=fq Z5
noncomputable def cnt (ks:List Kd)(r x:Str):List Int:=CG ks r fuel x
noncomputable def BM (ks:List Kd)(r x:Str):Int:=GA ks r fuel x
def dD (ks:List Kd)(r x:Str):(cnt ks r x).length=ks.length:=wI ks r fuel x
def Rr (h:Top (AL ks r) T)(h8:T.length<=8)(hx:x∈T):cnt ks r x=Eh ks r x (cnt ks r)/\BM ks r x=HJ ks r x (BM ks r):=by
 obtain ⟨i,hi,e⟩:=E4 hx;have e2:T[i]?=some x:=by rw [AR hi,e]
 have hf:=ZN;have key:∀ y∈AL ks r x,∀ m,m+1=fuel->CG ks r m y=cnt ks r y/\GA ks r m y=BM ks r y:=fun y hy m hm=>by
  obtain ⟨j,hj,ej⟩:=E4 (h i x e2 y hy);rw [D4] at hj;rw [Kb] at ej;exact lZ h j y (by rw [AR (by omega),ej]) m fuel (by omega) (by omega)
 obtain ⟨m,hm⟩:∃ m,m+1=fuel:=⟨8,by omega⟩;refine ⟨?_,?_⟩
 ·have q:cnt ks r x=CG ks r (m+1) x:=by unfold cnt;rw [hm]
  rw [q,CG];exact de fun y hy=>(key y hy m hm).1
 ·have q:BM ks r x=GA ks r (m+1) x:=by unfold BM;rw [hm]
  rw [q,GA];exact Y7 fun y hy=>(key y hy m hm).2
noncomputable def Fp (ks:List Kd)(r x:Str):PV:=.tup [.str x,.tup ((cnt ks r x).map .int),.int (BM ks r x)]
noncomputable def EI (ks:List Kd)(r:Str)(a:Addr)(M:List Str):OV:=.nd (.Ah (Ad M)) a (M.map fun y=>.fz (Fp ks r y))
noncomputable def Q6 (ks:List Kd)(r:Str)(M:List Str):PV:=.Ah (Ad M) (M.map (Fp ks r))
def To (ks:List Kd)(r:Str)(a:Addr)(M:List Str):(EI ks r a M).pv=Q6 ks r M:=by
 unfold EI Q6;rw [OV.pv,O1]
def dW (l:List Int):Eo (l.map PV.int)=true:=NU _ (fun _=>by simp [D6]) l
def Nx:Pre:=fun l R=>∃ (cs:List (List Int)) (n:Nat),l=[.is (.lst (cs.map fun c=>.tup (c.map .int))),.is (.int n)]/\n<=8/\cs.length<=100/\(∀ c∈cs,c.length=n)/\R=.new (fun xs=>xs=((List.range n).map fun j=>(cs.map fun c=>c.getD j 0).sum).map .int)
def P5:Pre:=fun l R=>∃ (ks:List Kd) (r:Str) (M:List Str) (p:Str×Str),l=[.is (Ar p),.is (Q6 ks r M)]/\p.2∈M/\R=.is (fun q=>q=.int (GF (BM ks r) p))
def Pe (f:Str->List Str)(M:List Str):Prop:=∀ y∈M,∀ z∈f y,z∈M
def JR (C:Addr)(n:Nat):Pre:=fun l R=>∃ (ks:List Kd) (x r:Str) (T:List Str) (i:Nat) (M:List Str) (a:Addr),l=[.is (BS C ks),.is (.str x),.is (.str r),.ow true (EI ks r a M)]/\KG ks/\r∈Cv/\Top (AL ks r) T/\T.Nodup/\(∀ y∈T,y∈wk ks)/\T[i]?=some x/\i<n/\
 M.Nodup/\(∀ y∈M,y∈T)/\Pe (AL ks r) M/\R=.mt (fun p t'=>p=.A8/\∃ M',t'=EI ks r a M'/\M'.Nodup/\(∀ y∈M',y∈T)/\Pe (AL ks r) M'/\(∀ y∈M,y∈M')/\x∈M'/\∀ y∈M',y∈M∨BF (AL ks r) [x] y)
def Yj:∀ ss R,¬ JR C 0 ss R:=by
 rintro ss R ⟨ks,x,r,T,i,M,a,_,_,_,_,_,_,_,h,_⟩;omega
def VA (C:Addr):Pre:=fun l R=>∃ (ks:List Kd) (tp:Bool) (cs:List Str) (r:Str) (T:List Str),l=[.is (BS C ks),.sq tp (cs.map .str),.is (.str r)]/\KG ks/\r∈Cv/\Top (AL ks r) T/\T.Nodup/\(∀ y∈T,y∈wk ks)/\(∀ c∈cs,c∈T)/\R=.ow (fun t=>∃ a M,t=EI ks r a M/\M.Nodup/\∀ x,x∈M↔BF (AL ks r) cs x)
def sum_set {g:Nat->Int}(hl:l=List.range n)(hj:j<n):(l.map g).set j (g j+1)=l.map fun k=>g k+(if j=k then 1 else 0):=by
 subst hl;refine zz (by simp) fun k h1 h2=>?_;simp only [JO,A9,IE] at h1;rw [List.getElem_set,OD,ZA2]
 by_cases c:j=k
 ·subst c;simp
 ·simp [c]
def BF.mono {S':List Str}(h:∀ x∈S,BF f S' x)(r:BF f S x):BF f S' x:=by
 induction r with
 | here m=>exact h _ m
 | step _ hy ih=>exact .step ih hy
theorem XO:∀ {a b:List Int},a.map PV.int=b.map PV.int->a=b
 | [],[],_=>rfl
 | [],_::_,h=>by simp at h
 | _::_,[],h=>by simp at h
 | x::a,y::b,h=>by
  rw [Ac,Ac] at h;injection h with h1 h2
  injection h1 with h1
  rw [h1,XO h2]
theorem Ye {ks:List Kd}{r:Str}:∀ (n:Nat) (x:Str),∀ c∈CG ks r n x,0<=c
 | 0,x,c,hc=>by
  rw [CG] at hc;obtain ⟨_,_,rfl⟩:=List.mem_map.mp hc;exact FO _
 | n+1,x,c,hc=>by
  rw [CG] at hc;unfold Eh at hc;obtain ⟨j,_,rfl⟩:=List.mem_map.mp hc;have h1:0<=((AL ks r x).map fun y=>(CG ks r n y).getD j 0).sum:=by
   have aux:∀ l:List Int,(∀ z∈l,0<=z)->0<=l.sum:=by
    intro l
    induction l with
    | nil=>intro _;simp
    | cons a l ih=>
     intro h;rw [El];have:=h a (by simp);have:=ih fun z hz=>h z (by simp [hz]);omega
   refine aux _ fun z hz=>?_;obtain ⟨y,_,rfl⟩:=List.mem_map.mp hz;rw [DW];cases e:(CG ks r n y)[j]? with
   | none=>exact FO _
   | some v=>exact Ye n y v (C2 e)
  split <;> omega
def oK (h:c∈cnt ks r x):0<=c:=Ye fuel x c h
def tM (h:s∈WH):decide (s∈Cw)=!decide (s∈([("back":Str), "first"])):=by
 simp only [WH,Dq,Aa,lg] at h;rcases h with rfl | rfl | rfl | rfl <;> decide
def xC {z:PV}(h:z∈G6 xs ys):∃ p q,p∈xs/\q∈ys/\z=.tup [p,q]:=by
 obtain ⟨i,hi,e⟩:=E4 h;have hl:i<min xs.length ys.length:=by rw [<- Qz];exact hi
 have q:=cG (xs:=xs) (ys:=ys) (i:=i) (AR (by omega)) (AR (by omega));rw [AR hi,e] at q;exact ⟨_,_,Fq _,Fq _,B8 q⟩
def rw_inj (x y:Str)(h:Fp ks r x=Fp ks r y):x=y:=by
 unfold Fp at h;injection h with h
 injection h with h1 _
 injection h1
def qS (h:W.Nodup)(e:W[i]?=some y):y∉W.take i:=fun m=>by
 obtain ⟨j,hj,ej⟩:=E4 m;rw [D4] at hj;rw [Kb] at ej;have hi:=(List.getElem?_eq_some_iff.mp e).1;exact List.pairwise_iff_getElem.mp h j i (by omega) hi (by omega) (ej.trans (List.getElem?_eq_some_iff.mp e).2.symm)
end Fz
namespace L2
variable {ns:List Str}
section
variable {X:Cx}
def rX (y:Str):Value->Bool
 | .str a _=>a == y
 | _=>false
def pV {y:Str}(h:y∈ns):∃ h:ns.idxOf y<ns.length,ns[ns.idxOf y]=y/\∀ m (hm:m<ns.length),m<ns.idxOf y->ns[m]≠y:=by
 have hj:ns.idxOf y<ns.length:=List.idxOf_lt_length_iff.mpr h;refine ⟨hj,GN hj,fun m hm AM e=>?_⟩;have:=List.not_of_lt_findIdx (p:=(· == y)) (xs:=ns) (i:=m) AM
 simp [e] at this
def uF {A1:List Value}(r:Vals (ns.map V.str) A1){m:Nat}{u:Value}(h:A1[m]?=some u):∃ (hm:m<ns.length) (t:Tok),u=.str ns[m] t:=by
 have hl:=r.length;rw [A9] at hl;have hi:m<A1.length:=(List.getElem?_eq_some_iff.mp h).1;have Bb:m<ns.length:=by omega
 obtain ⟨w,h1,h2⟩:=r.get (i:=m) (x:=.str ns[m]) (by rw [AV,AR Bb];rfl);rw [h1] at h;cases h;obtain ⟨t,rfl⟩:=h2;exact ⟨Bb,t,rfl⟩
theorem XH:∀ (ns:List Str) (j:Nat),(ns.map V.str).eraseIdx j=(ns.eraseIdx j).map V.str
 | [],_=>rfl
 | _::_,0=>rfl
 | x::t,j+1=>by rw [Ac,zy,XH t j];rfl
def eG:V->List V->Hp->VK->Prop:=fun x vs H Q=>∃ (l:Addr) (ns:List Str) (y:Str),x=.ref l/\vs=[.str y]/\H l=some (.lst (ns.map V.str))/\y∈ns/\Q .A8 (upd H l (.lst ((ns.eraseIdx (ns.idxOf y)).map V.str)))
def xY:Et X "list.remove" eG:=by
 intro pins s σ H x vs v us Q I rx rv h;obtain ⟨l,ns,y,rfl,rfl,hH,hy,q⟩:=h;cases rx;obtain ⟨u,rfl,ru⟩:=rv.one;obtain ⟨t,rfl⟩:=ru;obtain ⟨z,A1,n,r,hl,e⟩:=I.HX hH;obtain ⟨hj,U5,VO⟩:=pV hy;have hll:ns.length=A1.length:=by rw [<- hl,A9]
 have at':∀ (m:Nat) (hm:m<A1.toArray.size),∃ (LH:m<ns.length) (t:Tok),A1.toArray[m]=.str ns[m] t:=fun m hm=>by
  have Sf:m<A1.length:=by simpa using hm
  obtain ⟨h2,t,e⟩:=uF r (AR Sf);exact ⟨h2,t,by simpa using e⟩
 have MK:ns.idxOf y<A1.toArray.size:=by simp;omega
 refine nC ZAI ⟨_,e,rfl⟩ PySem.F.entry_list_remove (PySem.F.args_list_remove_2 _ _) (MeetsSeq.list_remove l A1.toArray n (.str y t) (rX y) (fun w hw=>?_) (ns.idxOf y) MK ?_ (fun m hm AM=>?_) (by rw [BV];omega)) ⟨e,?_⟩
 ·obtain ⟨m,hm,rfl⟩:=Array.mem_iff_getElem.mp hw;obtain ⟨h2,t2,e2⟩:=at' m hm;rw [e2];exact eqGives_str _ _ _ _
 ·obtain ⟨h2,t2,e2⟩:=at' _ MK;rw [e2];show (_ == _)=true;rw [U5];simp
 ·obtain ⟨h2,t2,e2⟩:=at' m hm;rw [e2];show (_ == _)=false
  simpa using VO m h2 AM
 ·refine ⟨.A8,_,I.Kv (its':=A1.eraseIdx (ns.idxOf y)) hH e ?_ ?_ ?_,rfl,q⟩
  ·show A1.toArray.eraseIdxIfInBounds _=_;rw [zx]
  ·rw [<- XH];exact r.eraseIdx _
  ·have:=fZ ns (ns.idxOf y);rw [A9] at z ⊢;omega
end
end L2
namespace Fz
open L2 Lw
variable {ss:List Slot}{tb tc te ti ty:TE}{nx:List Slot->Prop}{R:Ag}{Ji ps:List (Str×Str)}{i j:Nat}{t:OV}{a b:Addr}{us:List OV}{nk:NK}{S ns:List Str}{f:Str->List Str}{r x0:Str}{p:Str×Str}
section
variable [Xw]
variable {K:ZAy}{ta:TE}{xs ps:List PV}{lt:Bool}
def iW (hi:ss[i]?=some (.own (ns.map PV.str)))(h:Wp ss ty fun q=>∃ y,q=.str y/\y∈ns/\nx (ss.set i (.own ((ns.eraseIdx (ns.idxOf y)).map PV.str)))):Ws ss (Gr (FK K "list" eG (B1 i) (Af ty Az))) nx R:=⟨fun E D σ F H S hn hr=>by
 obtain ⟨l,vs,e,e1,e2,e3,r⟩:=S.ok i _ hi;refine ⟨_,e,.inl ⟨rfl,_,AI.of e3⟩,h.go E σ F H _ S fun v q F1 H1 m1 rv ⟨y,ey,hy,kk⟩=>?_⟩;subst ey;cases rv;obtain ⟨l',B7,e',Ci,BY,Fi,r'⟩:=m1.st.ok i _ hi;rw [e] at e';cases e';rw [r'.strs] at Fi;refine ⟨l,ns,y,rfl,rfl,Fi,hy,?_⟩;exact hn _ σ F1 _ kk (m1.st.put hi e Ci BY (YC _)) m1.ff⟩
def Y5 {k:List PV->Prop}(h:Wz ss te fun tp xs=>tp=false/\k (JU xs)):Wi ss (Tz K (Af te Az)) k:=⟨fun E σ F H R S q=>
 h.go E σ F H _ S fun v tp xs F1 H1 m1 f ⟨et,kk⟩=>by
  subst et;obtain ⟨l,vs,ev,hl,r⟩:∃ l vs,v=.ref l/\(∀ (ss:List Slot) (σ:L2.St) (F H:Hp),AJ F1 F->Sg E ss σ F H->H l=some (.lst vs))/\AH F1 vs xs:=by
   obtain ⟨l,vs,e,h1,r⟩:=f;refine ⟨l,vs,e,fun ss σ F H s S=>?_,r⟩;rcases h1 with h1 | ⟨hA,h1⟩
   ·exact S.fh _ _ (s _ _ h1)
   ·exact S.keep _ _ hA h1
  subst ev;refine ⟨l,vs,rfl,AI.of (hl ss σ F1 H1 (AJ.refl _) m1.st),q _ (JU xs) F1 H1 m1 ⟨fun ss σ F H i s S hi=>?_,fun ss σ F H s S=>?_,fun ss σ F H i x H' s S hi y=>?_⟩ kk⟩
  ·rw [Oq] at hi;exact ⟨AI.of (hl ss σ F H s S),by rw [r.length];exact hi⟩
  ·refine ⟨AI.of (hl ss σ F H s S),?_⟩;rw [Oq,r.length];exact Aj _
  ·obtain ⟨p,y,hy,ex,hp,eH⟩:=y;subst ex;subst eH;obtain ⟨z,hz,rz⟩:=r.get' hy;have m:=S.alloc hp (.tup [.int i,y]);exact ⟨_,_,aA hz,m,.tup Al (.cons (.int _) (.one (rz.mono (s.trans m.ff))))⟩⟩
end
abbrev Rw:=Str×List Int×Int
def Rw.P (w:Rw):PV:=.tup [.str w.1,.tup (w.2.1.map .int),.int w.2.2]
def qW (p q:Str×Str)(h:Ar p=Ar q):p=q:=by
 obtain ⟨a,b⟩:=p;obtain ⟨c,d⟩:=q;unfold Ar at h;injection h with h
 injection h with h1 h2
 injection h2 with h2 _
 injection h1 with h1
 injection h2 with h2
 have h1:a=c:=h1;have h2:b=d:=h2;rw [h1,h2]
def ZAU {K:ZAy}(T:List Rw):dat K 40 (.lst (T.map Rw.P)):=fun x hx=>by
 obtain ⟨y,_,rfl⟩:=List.mem_map.mp hx;intro z hz;simp only [Dq,Aa,lg] at hz;rcases hz with rfl | rfl | rfl
 ·trivial
 ·intro w hw;obtain ⟨i,_,rfl⟩:=List.mem_map.mp hw;trivial
 ·trivial
theorem dE:∀ {l:List Str},¬ l.Nodup->∃ (i j:Nat) (x:Str),i<j/\l[i]?=some x/\l[j]?=some x
 | [],h=>absurd IG h
 | a::l,h=>by
  by_cases c:a∈l
  ·obtain ⟨j,hj,e⟩:=E4 c;exact ⟨0,j+1,a,by omega,rfl,by rw [ZA1,AR hj,e]⟩
  ·obtain ⟨i,j,x,h1,h2,h3⟩:=dE (l:=l) fun z=>h (List.nodup_cons.mpr ⟨c,z⟩);exact ⟨i+1,j+1,x,by omega,h2,h3⟩
def NC (g:Str->Str)(x:Str):Nat->Str
 | 0=>x
 | n+1=>g (NC g x n)
def sink (h0:x0∈S)(h:∀ x∈S,∃ y,y∈f x/\y∈S):∃ x∈S,BF f (f x) x:=by
 have hg:∀ x,∃ y,x∈S->y∈f x/\y∈S:=fun x=>by
  by_cases c:x∈S
  ·obtain ⟨y,hy⟩:=h x c;exact ⟨y,fun _=>hy⟩
  ·exact ⟨x,fun z=>absurd z c⟩
 let g:Str->Str:=fun x=>Classical.choose (hg x)
 have gs:∀ x∈S,g x∈f x/\g x∈S:=fun x hx=>fq (hg x) hx;have is:∀ n,NC g x0 n∈S:=fun n=>by
  induction n with
  | zero=>exact h0
  | succ n ih=>exact (gs _ ih).2
 have nn:¬ ((List.range (S.length+1)).map (NC g x0)).Nodup:=fun nd=>by
  have:=Ep nd (bs:=S) fun y hy=>by
   obtain ⟨n,_,rfl⟩:=List.mem_map.mp hy;exact is n
  rw [A9,IE] at this;omega
 obtain ⟨i,j,x,Gy,e1,e2⟩:=dE nn;rw [AV] at e1 e2;obtain ⟨i',ei,rfl⟩:=Option.map_eq_some_iff.mp e1;obtain ⟨j',ej,e3⟩:=Option.map_eq_some_iff.mp e2;have hi:=(List.getElem?_eq_some_iff.mp ei);have hj:=(List.getElem?_eq_some_iff.mp ej);obtain ⟨Uv,Dn⟩:=hi;obtain ⟨pX,K7⟩:=hj;rw [ZA2] at Dn K7;subst Dn;subst K7;refine ⟨_,is i,?_⟩;have go:∀ d,BF f (f (NC g x0 i)) (NC g x0 (i+1+d)):=fun d=>by
  induction d with
  | zero=>exact .here (gs _ (is i)).1
  | succ d ih=>exact .step ih (gs _ (is (i+1+d))).1
 have:=go (j - i - 1);rw [show i+1+(j - i - 1)=j from by omega,e3] at this;exact this
def bY {ws cs:List Str}(hw:∀ x,BF f cs x->x∈ws)(h:¬ J2 f cs):∃ T,Top f T/\T.Nodup/\(∀ y∈T,BF f cs y)/\∀ x,BF f cs x->x∈T:=by
 have go:∀ n,∃ T,Top f T/\T.Nodup/\(∀ y∈T,BF f cs y)/\(n<=T.length∨∀ x,BF f cs x->x∈T):=fun n=>by
  induction n with
  | zero=>exact ⟨[],Top.nil,IG,fun _ h=>absurd h Aa,.inl (Aj _)⟩
  | succ n ih=>
   obtain ⟨T,tT,nd,sub,hn⟩:=ih
   by_cases c:∀ x,BF f cs x->x∈T
   ·exact ⟨T,tT,nd,sub,.inr c⟩
   have hn:n<=T.length:=hn.elim id fun z=>absurd z c;obtain ⟨x0,Tp⟩:=Classical.not_forall.mp c;obtain ⟨r0,n0⟩:=Classical.not_imp.mp Tp;haveI:DecidablePred fun x=>BF f cs x/\x∉T:=fun _=>Classical.propDecidable _;have mS:∀ x,x∈ws.filter (fun x=>decide (BF f cs x/\x∉T))↔BF f cs x/\x∉T:=fun x=>by
    rw [List.mem_filter,tG];exact ⟨fun h=>h.2,fun h=>⟨hw x h.1,h⟩⟩
   by_cases d:∀ x∈ws.filter (fun x=>decide (BF f cs x/\x∉T)),∃ y,y∈f x/\y∈ws.filter (fun x=>decide (BF f cs x/\x∉T))
   ·obtain ⟨x,hx,rr⟩:=sink ((mS x0).mpr ⟨r0,n0⟩) d;exact absurd ⟨x,((mS x).mp hx).1,rr⟩ h
   ·obtain ⟨x,hx⟩:=Classical.not_forall.mp d;obtain ⟨jj,L1⟩:=Classical.not_imp.mp hx;obtain ⟨rx,nx⟩:=(mS x).mp jj;refine ⟨T++[x],tT.snoc fun y hy=>?_,KP nd nx,fun y hy=>?_,.inl (by rw [Bo,IF];omega)⟩
    ·refine Classical.byContradiction fun ny=>L1 ⟨y,hy,(mS y).mpr ⟨.step rx hy,ny⟩⟩
    ·rcases List.mem_append.mp hy with z | z
     ·exact sub y z
     ·rw [List.mem_singleton.mp z];exact rx
 obtain ⟨T,tT,nd,sub,hn⟩:=go (ws.length+1);refine ⟨T,tT,nd,sub,hn.elim (fun z=>?_) id⟩;have:=Ep nd (bs:=ws) fun y hy=>hw y (sub y hy);omega
def DI (r:Str)(ps:List (Str×Str)):List (Str×Str):=if r="none" then [] else ps.filter fun p=>decide (r="all") || decide (p.1∈Cw)
def fM (ks:List Kd)(r x:Str):DI r (Bg ks x)=BK ks r x:=rfl
def jV (r:Str)(ps:List (Str×Str))(p:Str×Str):DI r (ps++[p])=DI r ps++(if r="none" then [] else if (decide (r="all") || decide (p.1∈Cw))=true then [p] else []):=by
 unfold DI
 by_cases c:r="none"
 ·rw [gq c,gq c,gq c,DV]
 ·rw [gg c,gg c,gg c,Wr]
  congr 1
  by_cases d:(decide (r="all") || decide (p.1∈Cw))=true
  ·rw [gq d,ZA0,gq d];rfl
  ·rw [gg d,ZA0,gg d];rfl
def hX (h:r="all" ∨ (r="ahead" /\ p.1∈Cw))(st:DI r Ji=DI r ps++(if r="none" then [] else if (decide (r="all") || decide (p.1∈Cw))=true then [p] else [])):DI r Ji=DI r ps++[p]:=by
 rw [st];rcases h with rfl | ⟨rfl,h⟩
 ·rw [gg (by decide),gq (by rw [hJ rfl,fk])]
 ·rw [gg (by decide),hJ h,Bool.or_true,gq rfl]
def nT (hr:r∈Cv)(h:¬ (r="all" ∨ (r="ahead" /\ p.1∈Cw)))(st:DI r Ji=DI r ps++(if r="none" then [] else if (decide (r="all") || decide (p.1∈Cw))=true then [p] else [])):DI r Ji=DI r ps:=by
 rw [st];simp only [Cv,Dq,Aa,lg] at hr;rcases hr with rfl | rfl | rfl
 ·rw [gq rfl,DV]
 ·rw [gg (by decide),iB (show ¬ (("ahead":Str)="all") by decide),fi,gg (fun z=>h (.inr ⟨rfl,i8 z⟩)),DV]
 ·exact absurd (.inl rfl) h
def nJ (L:List Str)(x:Str):L.eraseIdx (L.idxOf x)=L.erase x:=by
 rw [List.erase_eq_eraseIdx_of_idxOf rfl]
end Fz
namespace L2
section
variable {X:Cx}
theorem V5 (y:Str):∀ ss:List Str,N9 (.str y) (ss.map V.str)=ss.count y
 | []=>rfl
 | a::ss=>by
  have:=V5 y ss;unfold N9 at this ⊢;rw [Ac,gC,List.count_cons,this];rfl
def Sk (ss:List Str):(ss.map V.str).all Cp=true:=by
 rw [IC];intro w hw;obtain ⟨y',_,rfl⟩:=List.mem_map.mp hw;rfl
def Tw (K:ZAy):V->List V->Hp->VK->Prop:=fun x vs H Q=>∃ (l:Addr) (ss:List Str) (y:Str),x=.ref l/\vs=[.str y]/\An K H l (ss.map V.str)/\Q (.int (ss.count y:Nat)) H
def QL (K:ZAy):V->List V->Hp->VK->Prop:=fun x vs H Q=>∃ (l:Addr) (ss:List Str) (y:Str),x=.ref l/\vs=[.str y]/\AI K H l (ss.map V.str)/\Q (.int (ss.count y:Nat)) H
def Tr:Et X "list.count" (QL X.K):=by
 intro pins s σ H x vs v us Q I rx rv h;obtain ⟨l,ss,y,rfl,rfl,hq,q⟩:=h;refine jf pins s σ H _ _ v us Q I rx rv ⟨l,_,_,rfl,rfl,hq,rfl,Sk ss,?_⟩;rw [V5];exact q
def rR:Et X "tuple.count" (Tw X.K):=by
 intro pins s σ H x vs v us Q I rx rv h;obtain ⟨l,ss,y,rfl,rfl,hq,q⟩:=h;cases rx;obtain ⟨u,rfl,ru⟩:=rv.one;obtain ⟨A1,r,pl,hz⟩:=I.tuple hq;obtain ⟨⟨c,d,dt,sl⟩,ho,hc,n,GP⟩:=id pl;simp only at hc GP;subst hc;subst GP;refine nC F.slot_tuple_count ⟨_,ho,rfl⟩ F.entry_tuple_count (F.args_tuple_count_2 _ _) (SeqAt.tuple_countAt l A1.toArray n d sl u (DC (.str y))) ⟨ho,fun z N0=>Ir ru rfl r (Sk ss) z (by simpa using N0),?_⟩
 refine ⟨.int _,H,I.tok _,⟨_,rfl⟩,?_⟩;rw [ZA7,Tj r (Sk ss),V5];exact q
variable {o e f:Expr}{apos BQ:Pos}{td ty tx:TE}
def mW (hu:X.A.units+1<cLine)(ho:QE X o td)(he:QE X e ty)(hf:QE X f tx)(m:M2 X o "get" apos e f BQ):QE X (.Call (.Attribute o "get" apos) [e,f] [] BQ) (Vz td ty tx):=⟨by
 have ho:=ho.h;have he:=he.h;have hf:=hf.h;intro pins s σ H Q I h;refine wpAny_Call_method m.base m.p4 m.line PySem.F.plainAttrs_dict gU PySem.F.type_dict_get (AF (ho pins s σ H _ I h) fun u s1 ⟨x,H1,I1,rx,a,ex,d,q1⟩=>?_);subst ex;obtain rfl:u=Value.ref a:=rx;obtain ⟨t1,t2,_⟩:=uK I1 d;refine ⟨t1,t2,?_⟩;rw [m.trees];refine fm rfl (Calls.evalArgs_plain (fo (AF (he pins s1 σ H1 _ I1 q1) fun iv s2 ⟨y,H2,I2,ry,q2⟩=>
  fo (AF (hf pins s2 σ H2 _ I2 q2) fun fv s3 ⟨z,H3,I3,rz,ov,g,q3⟩=>Calls.spliced_nil ?_))))
 exact jP hu I3 g ry rz fun w' s4 I4 Es=>⟨_,H3,I4,Es,q3⟩⟩
end
end L2
namespace Fz
open L2 Lw
variable {g m φ:Str->Int}{D L cs:List Str}{ks:List Kd}{r w x:Str}{j:Nat}{l ns:List Int}
theorem fA {F:Hp}{k:Key}:∀ {ks:List Key}{vs:List V}{xs:List PV},AH F vs xs->ks.length=vs.length->Dj ks xs k=none->DY (ks.zip vs) k=none
 | [],vs,xs,_,_,_=>by rw [List.zip_nil_left];rfl
 | k'::ks,v::vs,x::xs,.cons r t,hl,h=>by
  rw [Dj] at h;rw [FP]
  by_cases c:k'=k
  ·rw [gq c] at h;cases h
  ·rw [gg c] at h;rw [LK c];exact fA t (by simpa using hl) h
 | k'::ks,[],xs,_,hl,_=>by simp at hl
section
variable [Xw]
variable {ss:List Slot}{K:ZAy}{td ty tx ta tb:TE}{k:PV->Prop}
def nB (h:Wp ss td fun p=>∃ ks xs,p=.Ah ks xs/\Wp ss ty fun q=>∃ key,q=Gg key/\Wp ss tx fun z=>k ((Dj ks xs key).getD z)):Wp ss (Vz td ty tx) k:=⟨fun E σ F H Q S q=>
 h.go E σ F H _ S fun v p F1 H1 m1 r1 ⟨ks,xs,e,h2⟩=>by
  subst e;cases r1 with
  | @Ah a _ vs _ ef hl rr=>
   refine ⟨a,rfl,.inl ⟨_,.inl (m1.st.fh _ _ ef)⟩,h2.go E σ F1 H1 _ m1.st fun v2 p2 F2 H2 m2 r2 ⟨key,e2,h3⟩=>h3.go E σ F2 H2 _ m2.st fun v3 p3 F3 H3 m3 r3 kk=>?_⟩;subst e2;have ev:=Lp r2;subst ev;have mm:=m2.trans m3;have e3:=mm.st.fh _ _ (mm.ff _ _ ef);cases hy:Dj ks xs key with
   | some y=>
    obtain ⟨w,hw,rw_⟩:=Tf (rr.mono mm.ff) hl hy;refine ⟨some w,?_,?_⟩
    ·rw [<- hw];exact EA.k e3
    ·rw [hy] at kk;exact q w y F3 H3 (m1.trans mm) rw_ kk
   | none=>
    refine ⟨none,?_,?_⟩
    ·rw [<- fA rr hl hy];exact EA.k e3
    ·rw [hy] at kk;exact q v3 p3 F3 H3 (m1.trans mm) r3 kk⟩
def WT (h:Wq ss ta fun tp xs=>tp=false/\∃ ns:List Str,xs=ns.map PV.str/\Wp ss tb fun q=>∃ y,q=.str y/\k (.int (ns.count y:Nat))):Wp ss (FK K "list" (QL K) ta (Af tb Az)) k:=⟨fun E σ F H Q S q=>
 h.go E σ F H _ S fun v tp xs F1 H1 m1 sv ⟨et,ns,e,h2⟩=>by
  subst et;subst e;obtain ⟨l,vs,rfl,hl,r⟩:=sv.seq m1.st;refine ⟨.inl ⟨rfl,_,AI.of hl⟩,h2.go E σ F1 H1 _ m1.st fun v2 p2 F2 H2 m2 r2 ⟨y,ey,kk⟩=>?_⟩;subst ey;cases r2;obtain ⟨l',B7,e',DH,r'⟩:=(sv.mv m2).seq m2.st;cases e';rw [r'.strs] at DH;exact ⟨l,ns,y,rfl,rfl,AI.of DH,q _ _ F2 H2 (m1.trans m2) (.int _) kk⟩⟩
def wb (h:Wq ss ta fun tp xs=>tp=true/\∃ ns:List Str,xs=ns.map PV.str/\Wp ss tb fun q=>∃ y,q=.str y/\k (.int (ns.count y:Nat))):Wp ss (FK K "tuple" (Tw K) ta (Af tb Az)) k:=⟨fun E σ F H Q S q=>
 h.go E σ F H _ S fun v tp xs F1 H1 m1 sv ⟨et,ns,e,h2⟩=>by
  subst et;subst e;obtain ⟨l,vs,rfl,hl,r⟩:=sv.seq m1.st;refine ⟨.inr (.inr (.inr (.inr ⟨rfl,_,hl⟩))),h2.go E σ F1 H1 _ m1.st fun v2 p2 F2 H2 m2 r2 ⟨y,ey,kk⟩=>?_⟩;subst ey;cases r2;obtain ⟨l',B7,e',DH,r'⟩:=(sv.mv m2).seq m2.st;cases e';rw [r'.strs] at DH;exact ⟨l,ns,y,rfl,rfl,An.of DH,q _ _ F2 H2 (m1.trans m2) (.int _) kk⟩⟩
end
theorem R8 (h:Str->Int):∀ {L:List Str}{x:Str},x∈L->(L.map h).sum=h x+((L.erase x).map h).sum
 | [],x,hx=>by cases hx
 | a::L,x,hx=>by
  by_cases c:a=x
  ·subst c;rw [List.erase_cons_head,Ac,El]
  ·have GK:x∈L:=by
    rcases List.mem_cons.mp hx with e | e
    ·exact absurd e.symm c
    ·exact e
   rw [List.erase_cons_tail (by simpa using c),Ac,El,Ac,El,R8 h GK]
   omega
theorem sum_add (g h:Str->Int):∀ (L:List Str),(L.map fun x=>g x+h x).sum=(L.map g).sum+(L.map h).sum
 | []=>by simp
 | a::L=>by
  rw [Ac,El,sum_add g h L,Ac,El,Ac,El];omega
def OZ {h:Str->Int}(e:∀ x∈L,g x=h x):(L.map g).sum=(L.map h).sum:=by rw [JP e]
def R9 (e:∀ x∈L,g x=0):(L.map g).sum=0:=by
 rw [OZ (h:=fun _=>0) e]
 induction L with
 | nil=>rfl
 | cons a L ih=>rw [Ac,El,ih fun x hx=>e x (by simp [hx])];rfl
theorem af (c:Int)(g:Str->Int):∀ (L:List Str),(L.map fun x=>c * g x).sum=c * (L.map g).sum
 | []=>by simp
 | a::L=>by
  rw [Ac,El,af c g L,Ac,El,fw]
theorem WJ (g:Str->Int){L:List Str}(nd:L.Nodup):∀ (cs:List Str),(∀ w∈cs,w∈L)->(L.map fun x=>(cs.count x:Int) * g x).sum=(cs.map g).sum
 | [],_=>by
  rw [R9 (fun x _=>by simp)];rfl
 | w::cs,h=>by
  have ih:=WJ g nd cs fun z hz=>h z (by simp [hz]);rw [Ac,El,<- ih];have e:(L.map fun x=>(((w::cs).count x:Nat):Int) * g x).sum=(L.map fun x=>(cs.count x:Int) * g x+(if x=w then g x else 0)).sum:=OZ fun x _=>by
   rw [List.count_cons]
   by_cases c:x=w
   ·subst c;simp only [jw,pq];rw [Wf,Wc];simp
   ·rw [gg c];have c2:(w == x)=false:=by simpa using fun z=>c z.symm
    rw [c2];simp
  rw [e,sum_add];have e2:(L.map fun x=>if x=w then g x else 0).sum=g w:=by
   rw [R8 (fun x=>if x=w then g x else 0) (h w (by simp)),gq rfl,R9 fun x hx=>?_]
   ·omega
   ·rw [JN nd] at hx;rw [gg hx.1]
  rw [e2];omega
noncomputable def Ie (ks:List Kd)(r:Str)(L D:List Str)(m:Str->Int)(j:Nat):Int:=(L.map fun x=>m x * (cnt ks r x).getD j 0).sum+(D.map fun x=>if (wk ks).idxOf x=j then m x else 0).sum
def Bq (m:Str->Int)(x:Str)(ys:List Str):Str->Int:=fun y=>m y+(ys.count y:Int) * m x
def mE (m:Str->Int)(x:Str):Bq m x []=m:=by funext y;unfold Bq;simp
def rm (m:Str->Int)(x:Str)(ys:List Str)(z:Str)(hz:z≠x)(hx:x∉ys):Bq m x (ys++[z])=fun y=>if y=z then Bq m x ys y+Bq m x ys x else Bq m x ys y:=by
 have ex:Bq m x ys x=m x:=by
  unfold Bq;rw [gD hx];simp
 funext y
 rw [ex];unfold Bq;rw [zt,zu]
 by_cases c:y=z
 ·subst c;simp only [jw,pq];rw [Wf,Wc];simp;omega
 ·rw [gg c];have c2:(z == y)=false:=by simpa using fun q=>c q.symm
  rw [c2];simp
def lu (hj:j<ks.length)(nd:L.Nodup)(hx:x∈L)(dj:∀ y∈D,y∉L)(cl:∀ y∈AL ks r x,y∈L.erase x)(ec:cnt ks r x=Eh ks r x (cnt ks r)):
  Ie ks r (L.erase x) (D++[x]) (Bq m x (AL ks r x)) j=Ie ks r L D m j:=by
 have xn:x∉AL ks r x:=fun z=>by
  have:=cl x z;rw [JN nd] at this;exact this.1 rfl
 have ex:Bq m x (AL ks r x) x=m x:=by
  unfold Bq;rw [gD xn];simp
 have eD:∀ y∈D,Bq m x (AL ks r x) y=m y:=fun y hy=>by
  unfold Bq;rw [gD fun z=>dj y hy (gL (cl y z))];simp
 have e1:((L.erase x).map fun y=>Bq m x (AL ks r x) y * (cnt ks r y).getD j 0).sum=((L.erase x).map fun y=>m y * (cnt ks r y).getD j 0).sum+m x * ((AL ks r x).map fun y=>(cnt ks r y).getD j 0).sum:=by
  rw [<- WJ (fun y=>(cnt ks r y).getD j 0) (nd.erase x) (AL ks r x) cl,<- af,<- sum_add];refine OZ fun y _=>?_;unfold Bq;rw [Wc,Int.mul_comm ((AL ks r x).count y:Int) (m x),Int.mul_assoc]
 have e2:(cnt ks r x).getD j 0=((AL ks r x).map fun y=>(cnt ks r y).getD j 0).sum+(if (wk ks).idxOf x=j then 1 else 0):=by
  have:(Eh ks r x (cnt ks r)).getD j 0=((AL ks r x).map fun y=>(cnt ks r y).getD j 0).sum+(if (wk ks).idxOf x=j then 1 else 0):=by
   unfold Eh;rw [DW,AV,ID hj];rfl
  rw [<- ec] at this;exact this
 unfold Ie;rw [e1,CO,List.sum_append,R8 (fun y=>m y * (cnt ks r y).getD j 0) hx,e2];have e3:(D.map fun y=>if (wk ks).idxOf y=j then Bq m x (AL ks r x) y else 0).sum=(D.map fun y=>if (wk ks).idxOf y=j then m y else 0).sum:=OZ fun y hy=>by rw [eD y hy]
 rw [e3,Ac,Ek,El,gN,ex,fw];split
 ·rw [Int.mul_one];omega
 ·rw [Int.mul_zero];omega
def EB (p:Str×Str):Int:=if p.1∈Cw then 0 else 1
def dz (f:Str->Int)(p:Str×Str):GF f p=f p.2+EB p:=by
 unfold GF EB;split <;> omega
def aU (p:Str×Str):0<=EB p:=by unfold EB;split <;> omega
def IT (a b:Int):Int:=if b > a then b else a
def Bs (φ:Str->Int)(c:Int):List (Str×Str)->Str->Int
 | []=>φ
 | p::ps=>Bs (fun y=>if y=p.2 then IT (φ y) (c+EB p) else φ y) c ps
theorem XB (c:Int)(p:Str×Str):∀ (ps:List (Str×Str)) (φ:Str->Int),Bs φ c (ps++[p])=fun y=>if y=p.2 then IT (Bs φ c ps y) (c+EB p) else Bs φ c ps y
 | [],φ=>rfl
 | q::ps,φ=>by rw [Wh,Bs,XB c p ps,Bs]
theorem QY (c:Int){y:Str}:∀ (ps:List (Str×Str)) (φ:Str->Int),(∀ p∈ps,p.2≠y)->Bs φ c ps y=φ y
 | [],φ,_=>rfl
 | q::ps,φ,h=>by
  rw [Bs,QY c ps _ fun p hp=>h p (by simp [hp]),gg fun e=>h q (by simp) e.symm]
theorem Q9 (c:Int)(y:Str):∀ (ps:List (Str×Str)) (φ:Str->Int),φ y<=Bs φ c ps y
 | [],φ=>FO _
 | q::ps,φ=>by
  rw [Bs];refine RA ?_ (Q9 c y ps _);show φ y<=if y=q.2 then IT (φ y) (c+EB q) else φ y
  split
  ·unfold IT;split <;> omega
  ·exact FO _
theorem XC (c:Int){p:Str×Str}:∀ (ps:List (Str×Str)) (φ:Str->Int),p∈ps->c+EB p<=Bs φ c ps p.2
 | q::ps,φ,h=>by
  rw [Bs];rcases List.mem_cons.mp h with rfl | h
  ·refine RA ?_ (Q9 c p.2 ps _);show c+EB p<=if p.2=p.2 then IT (φ p.2) (c+EB p) else φ p.2
   rw [gq rfl];unfold IT;split <;> omega
  ·exact XC c ps _ h
def PB (R M a:Int):Prop:=1<=a->a - 1+R<=M
def rY {R M a b:Int}(hb:1<=b):PB R M (IT a b)↔PB R M a/\b - 1+R<=M:=by
 unfold PB IT;split
 ·constructor
  ·intro h;have:=h (by omega);exact ⟨fun _=>by omega,by omega⟩
  ·intro h _;exact h.2
 ·constructor
  ·intro h;have:=h (by omega);exact ⟨fun _=>this,by omega⟩
  ·intro h;exact h.1
theorem Oy {R M c:Int}(hc:1<=c)(y:Str):∀ (ps:List (Str×Str)) (φ:Str->Int),PB R M (Bs φ c ps y)↔PB R M (φ y)/\∀ p∈ps,p.2=y->c+EB p - 1+R<=M
 | [],φ=>⟨fun h=>⟨h,fun _ h=>by cases h⟩,fun h=>h.1⟩
 | q::ps,φ=>by
  rw [Bs,Oy hc y ps];have hq:=aU q
  by_cases e:y=q.2
  ·rw [gq e,rY (by omega)];constructor
   ·rintro ⟨⟨h1,h2⟩,h3⟩;refine ⟨h1,fun p hp JD=>?_⟩;rcases List.mem_cons.mp hp with rfl | hp
    ·exact h2
    ·exact h3 p hp JD
   ·rintro ⟨h1,h2⟩;exact ⟨⟨h1,h2 q (by simp) e.symm⟩,fun p hp JD=>h2 p (by simp [hp]) JD⟩
  ·rw [gg e];constructor
   ·rintro ⟨h1,h3⟩;refine ⟨h1,fun p hp JD=>?_⟩;rcases List.mem_cons.mp hp with rfl | hp
    ·exact absurd JD.symm e
    ·exact h3 p hp JD
   ·rintro ⟨h1,h2⟩;exact ⟨h1,fun p hp JD=>h2 p (by simp [hp]) JD⟩
def UR (h:ns≠[])(B:Int):D1 ns<=B↔∀ y∈ns,y<=B:=by
 obtain ⟨h1,h2⟩:=Iw ns h;exact ⟨fun h y hy=>RA (h2 y hy) h,fun h=>h _ h1⟩
def Mz (ks:List Kd)(r:Str)(cs L D:List Str)(φ:Str->Int):Prop:=∀ M:Int,0<=M->(((∀ x∈D,φ x<=M)/\∀ x∈L,PB (BM ks r x) M (φ x))↔∀ w∈cs,BM ks r w<=M)
def sN (nd:L.Nodup)(hx:x∈L)(dj:∀ y∈D,y∉L)(cl:∀ y∈AL ks r x,y∈L.erase x)(er:BM ks r x=HJ ks r x (BM ks r))(hc:1<=φ x)(h:Mz ks r cs L D φ):
  Mz ks r cs (L.erase x) (D++[x]) (Bs φ (φ x) (BK ks r x)):=by
 intro M hM;rw [<- h M hM];have pn:∀ p∈BK ks r x,p.2∈L.erase x:=fun p hp=>cl p.2 (List.mem_map.mpr ⟨p,hp,rfl⟩);have xo:∀ p∈BK ks r x,p.2≠x:=fun p hp e=>by
  have:=pn p hp;rw [JN nd] at this;exact this.1 e
 have ex:Bs φ (φ x) (BK ks r x) x=φ x:=QY _ _ _ xo;have eD:∀ y∈D,Bs φ (φ x) (BK ks r x) y=φ y:=fun y hy=>QY _ _ _ fun p hp e=>dj y hy (by rw [<- e];exact gL (pn p hp));have key:PB (BM ks r x) M (φ x)↔φ x<=M/\∀ p∈BK ks r x,φ x+EB p - 1+BM ks r p.2<=M:=by
  have e1:PB (BM ks r x) M (φ x)↔BM ks r x<=M+1 - φ x:=by
   unfold PB;exact ⟨fun h=>by have:=h hc;omega,fun h _=>by omega⟩
  rw [e1,er];unfold HJ;rw [UR (by simp)];constructor
  ·intro h;refine ⟨by have:=h 1 (by simp);omega,fun p hp=>?_⟩;have:=h (GF (BM ks r) p) (E5 _ (List.mem_map.mpr ⟨p,hp,rfl⟩));rw [dz] at this;omega
  ·rintro ⟨h1,h2⟩ y hy;rcases List.mem_cons.mp hy with rfl | hy
   ·omega
   ·obtain ⟨p,hp,rfl⟩:=List.mem_map.mp hy;have:=h2 p hp;rw [dz];omega
 constructor
 ·rintro ⟨h1,h2⟩;refine ⟨fun y hy=>?_,fun y hy=>?_⟩
  ·have:=h1 y (by simp [hy]);rw [eD y hy] at this;exact this
  ·by_cases e:y=x
   ·subst e;refine key.mpr ⟨?_,fun p hp=>?_⟩
    ·have:=h1 y (by simp);rw [ex] at this;exact this
    ·exact ((Oy hc p.2 _ _).mp (h2 p.2 (pn p hp))).2 p hp rfl
   ·have:=h2 y (by rw [JN nd];exact ⟨e,hy⟩);exact ((Oy hc y _ _).mp this).1
 ·rintro ⟨h1,h2⟩;obtain ⟨k1,k2⟩:=key.mp (h2 x hx);refine ⟨fun y hy=>?_,fun y hy=>?_⟩
  ·rcases List.mem_append.mp hy with hy | hy
   ·rw [eD y hy];exact h1 y hy
   ·rw [List.mem_singleton.mp hy,ex];exact k1
  ·refine (Oy hc y _ _).mpr ⟨h2 y (gL hy),fun p hp e=>?_⟩;have:=k2 p hp;rw [e] at this;exact this
def yU {f:Str->List Str}{T:List Str}(tT:Top f T)(E2:T.Nodup)(hL:∀ x∈L,x∈T)(ne:L≠[]):∃ x∈L,∀ y∈L,x∉f y:=by
 have key:∀ (n:Nat) (x:Str) (i:Nat),T.length<=i+n->T[i]?=some x->x∈L->∃ x∈L,∀ y∈L,x∉f y:=fun n=>by
  induction n with
  | zero=>
   intro x i h e;have:=(List.getElem?_eq_some_iff.mp e).1;omega
  | succ n ih=>
   intro x i h e hx
   by_cases c:∀ y∈L,x∉f y
   ·exact ⟨x,hx,c⟩
   obtain ⟨y,hy⟩:=Classical.not_forall.mp c;obtain ⟨XX,WV⟩:=Classical.not_imp.mp hy;have WV:=Classical.not_not.mp WV;obtain ⟨j,hj,ej⟩:=E4 (hL y XX);have e2:T[j]?=some y:=by rw [AR hj,ej]
   obtain ⟨k,hk,ek⟩:=E4 (tT j y e2 x WV);rw [D4] at hk;rw [Kb] at ek;have ki:k=i:=by
    have h1:=(List.getElem?_eq_some_iff.mp e);obtain ⟨h1,Co⟩:=h1;exact (Wv E2).mp (ek.trans Co.symm)
   exact ih y j (by omega) e2 XX
 obtain ⟨x,hx⟩:=List.exists_mem_of_ne_nil L ne;obtain ⟨i,hi,e⟩:=E4 (hL x hx);exact key T.length x i (by omega) (by rw [AR hi,e]) hx
def fV {B:Int}(h:∀ z∈l,z<=B):l.sum<=l.length * B:=by
 induction l with
 | nil=>simp
 | cons a l ih=>
  have h1:=h a (by simp);have h2:=ih fun z hz=>h z (by simp [hz]);rw [El,Bu,Wf,Wc];omega
theorem cR {ks:List Kd}(g:KG ks)(r:Str):∀ (n:Nat) (x:Str),∀ c∈CG ks r n x,c<=7 ^ n
 | 0,x,c,hc=>by
  rw [CG] at hc;obtain ⟨_,_,rfl⟩:=List.mem_map.mp hc;decide
 | n+1,x,c,hc=>by
  rw [CG] at hc;unfold Eh at hc;obtain ⟨j,_,rfl⟩:=List.mem_map.mp hc;have h6:=VN g r x;have pos:(1:Int)<=7 ^ n:=by
   have:(0:Int)<7 ^ n:=Int.pow_pos (by decide);omega
  have h1:((AL ks r x).map fun y=>(CG ks r n y).getD j 0).sum<=((AL ks r x).map fun y=>(CG ks r n y).getD j 0).length * 7 ^ n:=fV fun z hz=>by
   obtain ⟨y,_,rfl⟩:=List.mem_map.mp hz;rw [DW];cases e:(CG ks r n y)[j]? with
   | none=>show (0:Int)<=_;omega
   | some v=>exact cR g r n y v (C2 e)
  rw [A9] at h1;have h2:((AL ks r x).length:Int) * 7 ^ n<=6 * 7 ^ n:=Int.mul_le_mul_of_nonneg_right (by omega) (by omega);have h3:(7:Int) ^ (n+1)=7 * 7 ^ n:=by rw [Int.pow_succ,Int.mul_comm]
  split <;> omega
def gu (g:KG ks){c:Int}(h:c∈cnt ks r x):c<=40353607:=by
 have:=cR g r fuel x c h;rw [ZN] at this;exact this
def xJ (nd:L.Nodup)(h:∀ w∈cs,w∈L)(j:Nat):Ie ks r L [] (fun x=>(cs.count x:Nat)) j=(cs.map fun w=>(cnt ks r w).getD j 0).sum:=by
 unfold Ie;rw [WJ (fun w=>(cnt ks r w).getD j 0) nd cs h];simp
def mL (g:KG ks)(nd:D.Nodup)(hD:∀ x∈D,x∈wk ks)(hw:(wk ks)[j]?=some w):Ie ks r [] D m j=if w∈D then m w else 0:=by
 have ix:(wk ks).idxOf w=j:=Mc g.nd hw;have other:∀ x∈D,x≠w->(wk ks).idxOf x≠j:=fun x hx ne e=>by
  have hi:=List.idxOf_lt_length_iff.mpr (hD x hx);have q:=GN hi;have h2:=(List.getElem?_eq_some_iff.mp hw);obtain ⟨h2,h3⟩:=h2;refine ne ?_;rw [<- q,<- h3]
  congr 1
 unfold Ie;rw [Ek,gN,Int.zero_add]
 by_cases c:w∈D
 ·rw [gq c,R8 (fun x=>if (wk ks).idxOf x=j then m x else 0) c,gq ix,R9 fun x hx=>?_]
  ·omega
  ·rw [JN nd] at hx;rw [gg (other x hx.2 hx.1)]
 ·rw [gg c];exact R9 fun x hx=>by rw [gg (other x hx fun e=>c (by rw [<- e];exact hx))]
def qG (h:∀ w∈cs,w∈L):Mz ks r cs L [] (fun x=>if decide (x∈cs)=true then 1 else 0):=by
 intro M hM;constructor
 ·rintro ⟨_,h2⟩ w hw;have:=h2 w (h w hw);unfold PB at this;dsimp only at this;rw [gq (hJ hw)] at this;have:=this (FO _);omega
 ·intro h1;refine ⟨fun _ h=>absurd h Aa,fun x _=>?_⟩;unfold PB;dsimp only
  by_cases c:x∈cs
  ·rw [gq (hJ c)];intro _;have:=h1 x c;omega
  ·rw [gg (fun z=>c (i8 z))];intro z;omega
def XM (A:List Int):0<=D1 (0::A):=(Iw (0::A) (by simp)).2 0 (by simp)
def sy (h:Mz ks r cs [] D φ):D1 (0::D.map φ)=D1 (0::cs.map (BM ks r)):=by
 have a1:∀ M:Int,0<=M->(D1 (0::D.map φ)<=M↔∀ x∈D,φ x<=M):=fun M hM=>by
  rw [UR (by simp)];constructor
  ·intro h x hx;exact h _ (E5 _ (List.mem_map.mpr ⟨x,hx,rfl⟩))
  ·intro h y hy;rcases List.mem_cons.mp hy with rfl | hy
   ·exact hM
   ·obtain ⟨x,hx,rfl⟩:=List.mem_map.mp hy;exact h x hx
 have a2:∀ M:Int,0<=M->(D1 (0::cs.map (BM ks r))<=M↔∀ w∈cs,BM ks r w<=M):=fun M hM=>by
  rw [UR (by simp)];constructor
  ·intro h x hx;exact h _ (E5 _ (List.mem_map.mpr ⟨x,hx,rfl⟩))
  ·intro h y hy;rcases List.mem_cons.mp hy with rfl | hy
   ·exact hM
   ·obtain ⟨x,hx,rfl⟩:=List.mem_map.mp hy;exact h x hx
 have e:∀ M:Int,0<=M->(D1 (0::D.map φ)<=M↔D1 (0::cs.map (BM ks r))<=M):=fun M hM=>by
  rw [a1 M hM,a2 M hM,<- h M hM];exact ⟨fun z=>⟨z,fun _ h=>absurd h Aa⟩,fun z=>z.1⟩
 have z1:=XM (D.map φ);have z2:=XM (cs.map (BM ks r));have l1:=(e _ z1).mp (FO _);have l2:=(e _ z2).mpr (FO _);omega
end Fz
namespace L2
variable {E Q:Value->Shared->Prop}{I S l:Addr}{d:Value}
def k4 (val:Nat->Int)(i:Nat)(old:Array Value):Prop:=(i=0/\old=#[])∨∃ b t,old=#[.int b t,.int b t]/\(∃ j,j<i/\val j=b)/\∀ j,j<i->val j<=b
def Xp (val:Nat->Int)(n:Nat)(d v:Value):Prop:=(n=0/\v=d)∨∃ b t,v=.int b t/\(∃ j,j<n/\val j=b)/\∀ j,j<n->val j<=b
section
variable {prog:Program}{w:World}{A:Around}{s:Shared}
def iT {fp wr:List Addr}{n:Nat}{P:Nat->Value->Prop}{St:Nat->Heap->Prop}(W:Walks prog w A.in1 I fp wr n P St)(val:Nat->Int)(hv:∀ i v,P i v->∃ t,v=.int (val i) t)(Mj:S∉fp){R:Result->Shared->Prop}:
  ∀ (k i:Nat) (s:Shared) (old:Array Value) (c:Nat),i+k=n->St i s.heap->s.heap.get? S=some { cls:=.type "list", dict:=none,data:=.seq old c,slots:=#[] }->k4 val i old->
   (∀ v h' tk,Xp val n d v->(∀ b o,b∉S::wr->s.heap.get? b=some o->h'.get? b=some o)->R (.ok (.ret v)) { s with heap:=h',toks:=tk })->
   codeAny (model prog w) A (.builtin "max.loop" ⟨[.ref I,.none,.ref S],[("default", d)]⟩) R s:=by
 have hn:(toString "max" ++ toString ".loop":String)="max.loop" := by decide
 have bS:S∉wr:=fun h=>Mj (W.sub _ h);have nS:∀ {b:Addr},b∉S::wr->S≠b:=fun hb h=>hb (by simp [h]);have nw:∀ {b:Addr},b∉S::wr->b∉wr:=fun hb h=>hb (by simp [h]);have nf:∀ {b:Addr},b∈fp->S≠b:=fun hb h=>Mj (by rw [h];exact hb);intro k
 induction k with
 | zero=>
  intro i s old c hk st hS hB hR;have Nn:i=n:=by omega
  subst Nn;refine codeAny_builtin F.entry_max_loop ?_;simp only [Around.under_plainId OA];refine gd (kE hS rfl (gd (sJ (W.done s _ _ st fun h' tk hm=>?_))));have Ge:=hm S _ bS hS;rcases hB with ⟨h0,rfl⟩ | ⟨b,t,rfl,h1,h2⟩
  ·show wpAny _ A.in1 (rule _ >>= fun _=>ret d) _ _ _;refine gd (rJ (i7 ?_));exact hR d h' tk (.inl ⟨h0,rfl⟩) fun b o hb e=>hm b o (nw hb) e
  ·show wpAny _ A.in1 (updateSeq S (fun _=>#[]) >>= fun _=>letGo [.int b t] [.int b t] >>= fun _=>ret (.int b t)) _ _ _;refine gd (mD Ge rfl (gd (nW (i7 ?_))));exact hR _ _ tk (.inr ⟨b,t,rfl,h1,h2⟩) fun b o hb e=>(IB _ _ (nS hb)).trans (hm b o (nw hb) e)
 | succ k ih=>
  intro i s old c hk st hS hB hR;refine codeAny_builtin F.entry_max_loop ?_;simp only [Around.under_plainId OA];refine gd (kE hS rfl (gd (sJ (W.item i s _ _ (by omega) st fun v h' tk hP CI hm=>?_))));have Ge:=hm S _ bS hS;obtain ⟨tv,rfl⟩:=hv i v hP;rcases hB with ⟨h0,rfl⟩ | ⟨b,t,rfl,h1,h2⟩
  ·show wpAny _ A.in1 (updateSeq S (fun _=>#[.int (val i) tv,.int (val i) tv]) >>= _) _ _ _;refine gd (mD Ge rfl ?_);rw [hn];refine i7 ⟨oo OA _,ih (i+1) _ _ _ (by omega) (W.frame _ _ _ CI fun b hb o e=>(IB _ _ (nf hb)).trans e) (M5 _ Ge rfl) (.inr ⟨_,_,rfl,⟨i,by omega,rfl⟩,fun j hj=>?_⟩) fun v h2 O5 hM LH=>?_⟩
   ·have:j=i:=by omega
    rw [this];exact FO _
   ·exact hR v h2 O5 hM fun b o hb e=>LH b o hb ((IB _ _ (nS hb)).trans (hm b o (nw hb) e))
  ·show wpAny _ A.in1 (tryCatch (holding [.int (val i) tv,.int (val i) tv] (richCompare .Gt (.int (val i) tv) (.int b t) >>= _)) _ >>= _) _ _ _;refine gd (sJ (oH (gd ?_)));refine CmpOf.ints_gt (P:=fun j v=>∃ t,v=.int (if j=0 then val i else b) t) (fun j=>if j=0 then val i else b) (fun _ _ h=>h) 0 1 _ _ _ _ _ ⟨tv,rfl⟩ ⟨t,rfl⟩ ?_
   refine gd (oH (iK (gd (nW (i7 ?_)))))
   by_cases hb:val i > b
   ·have hd:(fun i1 j:Nat=>decide ((if i1=0 then val i else b) > if j=0 then val i else b)) 0 1=true:=hJ hb
    rw [gq hd];refine gd (mD Ge rfl (gd (nW ?_)));rw [hn];refine i7 ⟨oo OA _,ih (i+1) _ _ _ (by omega) (W.frame _ _ _ CI fun b hb o e=>(IB _ _ (nf hb)).trans e) (M5 _ Ge rfl) (.inr ⟨_,_,rfl,⟨i,by omega,rfl⟩,fun j hj=>?_⟩) fun v h2 O5 hM LH=>?_⟩
    ·by_cases U6:j=i
     ·rw [U6];exact FO _
     ·have:=h2 j (by omega);omega
    ·exact hR v h2 O5 hM fun b o hb e=>LH b o hb ((IB _ _ (nS hb)).trans (hm b o (nw hb) e))
   ·have hd:¬ (fun i1 j:Nat=>decide ((if i1=0 then val i else b) > if j=0 then val i else b)) 0 1=true:=fun z=>hb (i8 z)
    rw [gg hd];refine gd (nW ?_);rw [hn];obtain ⟨j0,ON,sS⟩:=h1;refine i7 ⟨oo OA _,ih (i+1) _ _ _ (by omega) CI Ge (.inr ⟨_,_,rfl,⟨j0,by omega,sS⟩,fun j hj=>?_⟩) fun v h2 O5 hM LH=>?_⟩
    ·by_cases U6:j=i
     ·rw [U6];omega
     ·exact h2 j (by omega)
    ·exact hR v h2 O5 hM fun b o hb e=>LH b o hb (hm b o (nw hb) e)
def vk {xs:Array (Int×Tok)}(hh:A.handled=none)(hl:s.heap.IsList l (intItems xs))
  (h:∀ v h' tk,Xp (numAt xs) xs.size d v->(∀ b o,s.heap.get? b=some o->h'.get? b=some o)->Q v { s with heap:=h',toks:=tk }) :
  wpAny (model prog w) A (call (.builtin "max") [.ref l] [("default", d)]) Q E s:=by
 refine wpAny_call (codeAny_call_builtin F.plain_max F.entry_max ?_);rw [show checkBuiltinCall "max" ⟨[.ref l],[("default", d)]⟩=pure () from by kernel_rfl];refine i7 ?_;have hb:Builtin.Builtins.bindParams "max" ["key","default"] 0 ⟨[],[("default", d)]⟩=pure [none,some d]:=rfl;show wpAny _ A.in1 (Builtin.Builtins.bindParams "max" ["key","default"] 0 ⟨[],[("default", d)]⟩ >>= _) _ _ s;refine gd (wpAny_of_eq hb (gd (i7 (gd (iter_intList hl fun s2 e st uA oI=>?_)))));subst e;refine gd (oN ?_);rw [show (toString "max" ++ toString ".loop":String)="max.loop" by decide];have hsz:xs.size=(intItems xs).size:=by simp [intItems]
 have W:=Walks.list (prog:=prog) (w:=w) (A:=A.in1) hh _ l oI (intItems xs);refine i7 ⟨oo OA _,iT W (numAt xs) (fun _ _=>intItems_at) (fun z=>absurd (uA _ z) (IH _)) (intItems xs).size 0 _ _ _ (Nat.zero_add _) (W.frame _ _ _ st fun b _ o e=>Bi _ e) (C1 _ rfl) (.inl ⟨rfl,rfl⟩) fun v h' tk hM hk=>?_⟩;rw [<- hsz] at hM;refine h v h' tk hM (old_kept fun b o hb e=>hk b o (fun z=>?_) (Bi _ e));rcases List.mem_cons.mp z with z | z
 ·rw [z] at e;exact absurd (Au e) (IH _)
 ·exact hb z
end
def WG (K:ZAy)(t:TA):TE:=fun σ H Q=>t σ H fun vs H1=>∃ a ss,vs=[.ref a]/\AI K H1 a (ss.map V.int)/\∀ m,(ss=[]/\m=0∨m∈ss/\∀ y∈ss,y<=m)->Q (.int m) H1
section
variable {X:Cx}
def ur {p pos kp:Pos}{l e1:Expr}{t:TA}(hc:X.calm=true)(hg:Gl X "max")(hm:X.mg "max"=none)(ha:QA X [l] t)(h1:QE X e1 (tC (.int 0)))
  (hs:starEach [l] X.env=[(false,eval l X.env)]:=by rfl):QE X (.Call (.Name "max" p) [l] [⟨some "default", e1,kp⟩] pos) (WG X.K t):=⟨by
 have ha:=ha.h;have h1:=h1.h;intro pins s σ H Q I h;refine kL (JK I hg hm (show bootBuiltins "max"=some (.builtin "max") by decide +kernel) ?_ (by decide) (by decide));refine callWith_kw (AF (ha pos pins s σ H _ I h) fun us s1 ⟨vs,H1,I1,r1,q1⟩=>?_) (by rw [hs];rfl) (by rw [hs];rfl) rfl rfl;refine kws_cons (AF (h1 pins s1 σ H1 (fun v H'=>v=.int 0/\H'=H1) I1 ⟨rfl,rfl⟩) fun v s2 ⟨v',H2,I2,r2,e2,e3⟩=>?_);subst e2 e3;obtain ⟨tk,rfl⟩:=r2;refine kws_nil ?_;obtain ⟨a,ss,rfl,hq,q⟩:=q1;obtain ⟨u,rfl,rx⟩:=vals1 r1;cases rx;obtain ⟨A1,rv,pl,_⟩:=I2.list hq;have hi:=Pg rv;obtain ⟨ys,e⟩:=hi.allInts.items;have hl:=pl.isList;rw [e] at hl;have e2:ys.toList.map (·.1)=ss:=by
  rw [<- sY,<- e];exact hi.numsOf
 have hlen:ys.size=ss.length:=by rw [<- e2];simp
 refine vk (I2.ok.hd hc) hl fun v h' tk hM hk=>?_;rcases hM with ⟨h0,rfl⟩ | ⟨b,t,rfl,⟨j,hj,ej⟩,hb⟩
 ·exact ⟨.int 0,H2,I2.same hk,⟨_,rfl⟩,q 0 (.inl ⟨List.length_eq_zero_iff.mp (by omega),rfl⟩)⟩
 ·refine ⟨.int b,H2,I2.same hk,⟨_,rfl⟩,q b (.inr ⟨?_,fun y hy=>?_⟩)⟩
  ·rw [<- ej,numAt_eq,e2];exact getD_mem (by omega)
  ·obtain ⟨j,hj,ej⟩:=mem_getD hy;have:=hb j (by omega);rw [numAt_eq ys j,e2,ej] at this;exact this⟩
end
end L2
namespace Fz
open L2 Lw
variable {D L L0 cs ys:List Str}{r w x y z:Str}{ks:List Kd}{C:List Int}{j n:Nat}{m φ:Str->Int}{f:Nat->Int}{c v:Int}
def nQ (K:ZAy):List V->Hp->VK->Prop:=fun xs H Q=>∃ (p:Addr) (bs:List Bool),xs=[.ref p]/\AI K H p (bs.map V.bl)/\Q (.bl (bs.any id)) H
section
variable [Xw]
variable {ss:List Slot}{K:ZAy}{te:TE}{k:PV->Prop}
def zG (h:Wq ss te fun tp xs=>tp=false/\∃ ns:List Int,xs=ns.map PV.int/\∀ m,(ns=[]/\m=0∨m∈ns/\∀ y∈ns,y<=m)->k (.int m)):Wp ss (WG K (Af te Az)) k:=⟨fun E σ F H Q S q=>
 h.go E σ F H _ S fun v tp xs F1 H1 m1 sv ⟨et,ns,e,kk⟩=>by
  subst et;subst e;obtain ⟨l,vs,rfl,hl,r⟩:=sv.seq m1.st;rw [r.ints] at hl;exact ⟨l,ns,rfl,AI.of hl,fun m hm=>q _ _ F1 H1 m1 (.int _) (kk m hm)⟩⟩
def iQ {t':TS}{nx:List Slot->Prop}{R:Ag}{l:Addr}{xs:List PV}(i:Nat)(hi:ss[i]?=some (.ow false (.nd .lst l (xs.map .fz))))(h:Ws (ss.set i (.own xs)) t' nx R):Ws ss t' nx R:=⟨fun E D σ F H S hn hr=>by
 obtain ⟨v,e,r,_,qa⟩:=S.ok i _ hi;cases r with
 | @nd _ _ vs _ ha sd ft rr=>
  have hl:=qa l (by rw [Lf];simp);have S2:=S.setG (j:=i) (s:=.own xs) (v:=.ref l) ⟨l,vs,rfl,hl.1,hl.2.elim id (fun z=>by cases z.1),ha,Sd rr⟩ fun b hb j u hj hu ou=>by
   have eb:l=b:=by have z:some (some (V.ref l))=some (some (V.ref b)):=hb;injection z with z;injection z with z;injection z
   subst eb;exact S.Bd j i u _ l hj hu hi ou (by show l∈OV.addrs _;rw [Lf];simp)
  rw [Ld e] at S2;exact h.go E D σ F H S2 hn hr⟩
end
def CS (a:Addr)(L:List Str)(m:Str->Int):OV:=.nd (.Ah (Ad L)) a ((L.map fun y=>PV.int (m y)).map .fz)
def N5 (L:List Str)(m:Str->Int):PV:=.Ah (Ad L) (L.map fun y=>PV.int (m y))
def Jy (a:Addr)(L:List Str)(m:Str->Int):(CS a L m).pv=N5 L m:=by
 unfold CS N5;rw [OV.pv,XY]
def MX (m:Str->Int)(h:y∈L):Dj (Ad L) (L.map fun y=>PV.int (m y)) (.inr y)=some (.int (m y)):=by
 have hi:=List.idxOf_lt_length_iff.mpr h;exact Jd h (by rw [AV,AR hi,GN hi];rfl)
def vb (m:Str->Int)(h:y∉L):Dj (Ad L) (L.map fun y=>PV.int (m y)) (.inr y)=none:=by
 induction L with
 | nil=>rfl
 | cons a L ih=>
  show Dj (.inr a::Ad L) (PV.int (m a)::L.map fun y=>PV.int (m y)) (.inr y)=none;rw [Dj,gg (fun e=>h (by injection e with e;simp [e]))]
  exact ih fun z=>h (by simp [z])
theorem Zj {y:Str}{p:PV}{f:Str->PV}:∀ (L:List Str),He (Ad L) (L.map f) (.inr y) p=L.map fun z=>if z=y then p else f z
 | []=>rfl
 | a::L=>by
  show He (.inr a::Ad L) (f a::L.map f) (.inr y) p=_;rw [He,Zj L,Ac]
  congr 1
  by_cases c:a=y
  ·rw [gq c,gq (by rw [c])]
  ·rw [gg c,gg (fun e=>c (by injection e))]
def bJ (m:Str->Int)(v:Int)(h:y∈L)(a:Addr):OV.nd (.Ah (Dl (Ad L) (.inr y))) a ((IY (Ad L) (L.map fun z=>PV.int (m z)) (.inr y) (.int v)).map .fz)=CS a L fun z=>if z=y then v else m z:=by
 have hk:EO (Ad L) (.inr y)=true:=by rw [Ko];exact hJ h
 unfold Dl IY CS;rw [gq hk,gq hk,Zj]
 congr 2
 refine JP fun z _=>?_;show (if z=y then PV.int v else PV.int (m z))=PV.int (if z=y then v else m z)
 split <;> rfl
def Xm (m:Str->Int)(h:y∉L)(a:Addr):OV.nd (.Ah (Dl (Ad L) (.inr y))) a ((IY (Ad L) (L.map fun z=>PV.int (m z)) (.inr y) (.int (m y))).map .fz)=CS a (L++[y]) m:=by
 have hk:¬ EO (Ad L) (.inr y)=true:=by rw [Ko];exact fun z=>h (i8 z)
 unfold Dl IY CS;rw [gg hk,gg hk];unfold Ad;rw [CO,CO,CO,CO];rfl
noncomputable def totC (ks:List Kd)(r:Str)(cs:List Str):List Int:=(List.range ks.length).map fun j=>(cs.map fun c=>(cnt ks r c).getD j 0).sum
noncomputable def J5 (ks:List Kd)(r:Str)(cs:List Str):Int:=D1 (0::cs.map (BM ks r))
def pin (ks:List Kd)(x y:Str):Int:=(((Bg ks x).map (·.2)).count y:Nat)
def Nw (ks:List Kd)(cs:List Str)(C:List Int)(j:Nat)(w:Str):Int:=(cs.count w:Nat)+(((wk ks).zip C).map fun q=>q.2 * pin ks q.1 w).sum - (if E8 ks w=true then C.getD j 0 else 0)
def GZ (ks:List Kd)(cs:List Str)(C:List Int):List Int:=(List.range ks.length).map fun j=>Nw ks cs C j ((wk ks).getD j Str.empty)
def Kg (A:List Int)(n:Int)(B:List Int):PV:=.tup [.tup (A.map .int),.int n,.tup (B.map .int)]
noncomputable def dS (ks:List Kd)(r:Str)(cs:List Str):PV:=Kg (totC ks r cs) (J5 ks r cs) (GZ ks cs (totC ks r cs))
def Mh (ks:List Kd)(r:Str)(cs:List Str):(totC ks r cs).length=ks.length:=by unfold totC;rw [A9,IE]
def Rl (ks:List Kd)(cs:List Str)(C:List Int):(GZ ks cs C).length=ks.length:=by unfold GZ;rw [A9,IE]
def ju (h:(wk ks)[j]?=some w):(GZ ks cs C)[j]?=some (Nw ks cs C j w):=by
 have hj:=(List.getElem?_eq_some_iff.mp h).1;rw [A9] at hj;unfold GZ;rw [AV,ID hj];show some (Nw ks cs C j ((wk ks).getD j Str.empty))=_;rw [DW,h];rfl
structure Ew (ks:List Kd) (r:Str) (cs L0 L D:List Str) (m φ:Str->Int):Prop where
 FR:L.Nodup
 SM:D.Nodup
 mem:∀ x,x∈L0↔x∈L∨x∈D
 dj:∀ y∈D,y∉L
 cl:∀ y∈L,∀ z∈AL ks r y,z∈L
 sum:∀ j,j<ks.length->Ie ks r L D m j=(cs.map fun c=>(cnt ks r c).getD j 0).sum
 WD:Mz ks r cs L D φ
 pos:∀ x∈cs,1<=φ x
 U3:∀ y∈D,∀ z∈AL ks r y,1<=φ z
def Ew.start (nd:L0.Nodup)(h:∀ x,x∈L0↔BF (AL ks r) cs x):Ew ks r cs L0 L0 [] (fun x=>(cs.count x:Nat)) (fun x=>if decide (x∈cs)=true then 1 else 0) where
 FR:=nd
 SM:=IG
 mem:=fun x=>⟨.inl,fun z=>z.resolve_right Aa⟩
 dj:=fun _ h=>absurd h Aa
 cl:=fun y hy z hz=>(h z).mpr (.step ((h y).mp hy) hz)
 sum:=fun j _=>xJ nd (fun w hw=>(h w).mpr (.here hw)) j
 WD:=qG fun w hw=>(h w).mpr (.here hw)
 pos:=fun x hx=>by rw [gq (hJ hx)];exact FO _
 U3:=fun _ h=>absurd h Aa
def Ew.one (I:Ew ks r cs L0 L D m φ)(h:∀ x,x∈L0↔BF (AL ks r) cs x)(hx:x∈L)(fr:∀ y∈L,x∉AL ks r y):1<=φ x:=by
 have q:=(h x).mp ((I.mem x).mpr (.inl hx));cases q with
 | here m=>exact I.pos x m
 | step q hy=>
  rcases (I.mem _).mp ((h _).mpr q) with z | z
  ·exact absurd hy (fr _ z)
  ·exact I.U3 _ z x hy
def Ew.step (I:Ew ks r cs L0 L D m φ)(h:∀ x,x∈L0↔BF (AL ks r) cs x)(hx:x∈L)(fr:∀ y∈L,x∉AL ks r y)(ec:cnt ks r x=Eh ks r x (cnt ks r))(er:BM ks r x=HJ ks r x (BM ks r)):
  Ew ks r cs L0 (L.erase x) (D++[x]) (Bq m x (AL ks r x)) (Bs φ (φ x) (BK ks r x)):=by
 have ox:=I.one h hx fr;have cl:∀ y∈AL ks r x,y∈L.erase x:=fun y hy=>by
  rw [JN I.FR];exact ⟨fun e=>fr x hx (by rw [e] at hy;exact hy),I.cl x hx y hy⟩
 refine ⟨I.FR.erase x,KP I.SM (fun z=>I.dj x z hx),fun y=>?_,fun y hy=>?_,fun y hy z hz=>?_,fun j hj=>(lu hj I.FR hx I.dj cl ec).trans (I.sum j hj),sN I.FR hx I.dj cl er ox I.WD,fun y hy=>RA (I.pos y hy) (Q9 _ _ _ _),fun y hy z hz=>?_⟩
 ·rw [I.mem y,JN I.FR,RC,ZA5];constructor
  ·rintro (z | z)
   ·by_cases c:y=x
    ·exact .inr (.inr c)
    ·exact .inl ⟨c,z⟩
   ·exact .inr (.inl z)
  ·rintro (z | z | rfl)
   ·exact .inl z.2
   ·exact .inr z
   ·exact .inl hx
 ·rw [JN I.FR];rintro ⟨n,z⟩;rcases List.mem_append.mp hy with q | q
  ·exact I.dj y q z
  ·exact n (List.mem_singleton.mp q)
 ·rw [JN I.FR] at hy ⊢;exact ⟨fun e=>fr y hy.2 (by rw [<- e];exact hz),I.cl y hy.2 z hz⟩
 ·rcases List.mem_append.mp hy with q | q
  ·exact RA (I.U3 y q z hz) (Q9 _ _ _ _)
  ·rw [List.mem_singleton.mp q] at hz;obtain ⟨p,hp,rfl⟩:=List.mem_map.mp hz;have:=XC (φ x) (BK ks r x) φ hp;have:=aU p;omega
def Ew.counts (g:KG ks)(I:Ew ks r cs L0 [] D m φ)(hw:∀ x∈L0,x∈wk ks):(ks.map fun k=>if decide (k.w∈L0)=true then m k.w else 0)=totC ks r cs:=by
 refine Wk fun j=>?_;unfold totC;rw [AV,AV]
 by_cases hj:j<ks.length
 ·rw [AR hj,ID hj];have e:=I.sum j hj;rw [mL g (w:=ks[j].w) I.SM (fun x hx=>hw x ((I.mem x).mpr (.inr hx))) (by unfold wk;rw [AV,AR hj];rfl)] at e;show some (if decide (ks[j].w∈L0)=true then m ks[j].w else 0)=some (cs.map fun c=>(cnt ks r c).getD j 0).sum
  rw [<- e];have q:ks[j].w∈L0↔ks[j].w∈D:=(I.mem _).trans ⟨fun z=>z.resolve_left Aa,.inr⟩
  by_cases c:ks[j].w∈D
  ·rw [gq c,gq (hJ (q.mpr c))]
  ·rw [gg c,gg (fun z=>c (q.mp (i8 z)))]
 ·rw [M7 (by omega),M7 (by rw [IE];omega)];rfl
def nU {A B:List Int}(h:∀ x,x∈A↔x∈B):D1 (0::A)=D1 (0::B):=by
 obtain ⟨a1,a2⟩:=Iw (0::A) (by simp);obtain ⟨b1,b2⟩:=Iw (0::B) (by simp);have q:∀ x,x∈0::A↔x∈0::B:=fun x=>by rw [Dq,Dq,h x]
 have:=a2 _ ((q _).mpr b1);have:=b2 _ ((q _).mp a1);omega
def Ew.rounds (I:Ew ks r cs L0 [] D m φ):D1 (0::L0.map φ)=J5 ks r cs:=by
 unfold J5;rw [<- sy I.WD];refine nU fun x=>?_;rw [List.mem_map,List.mem_map];have q:∀ y,y∈L0↔y∈D:=fun y=>(I.mem y).trans ⟨fun z=>z.resolve_left Aa,.inr⟩;exact ⟨fun ⟨y,h1,h2⟩=>⟨y,(q y).mp h1,h2⟩,fun ⟨y,h1,h2⟩=>⟨y,(q y).mpr h1,h2⟩⟩
def pW (ks:List Kd)(x y:Str):((((Bg ks x).filter fun p=>decide (p.2=y)).map Ar).length:Int)=pin ks x y:=by
 unfold pin;rw [A9,List.count_eq_countP,List.countP_map,List.countP_eq_length_filter]
 congr 2
def oh (g:KG ks)(x y:Str):0<=pin ks x y/\pin ks x y<=6:=by
 unfold pin;have h1:=(g.GU x).1;have h2:((Bg ks x).map (·.2)).count y<=((Bg ks x).map (·.2)).length:=List.count_le_length
 rw [A9] at h2;omega
def Zo (ks:List Kd)(w:Str):PV->PV
 | .tup [.str o,.int m]=>.int (m * pin ks o w)
 | _=>.A8
theorem ZC (ks:List Kd)(w:Str):∀ (W:List Str) (A:List Int),(G6 (W.map .str) (A.map .int)).map (Zo ks w)=((W.zip A).map fun q=>q.2 * pin ks q.1 w).map PV.int
 | [],_=>by simp [G6]
 | _::_,[]=>by simp [G6]
 | a::W,b::A=>by
  have ih:=ZC ks w W A;unfold G6 at ih ⊢;rw [Ac,Ac,List.zipWith_cons_cons,Ac,ih,FP,Ac,Ac];rfl
def fR {a b:Int}(h1:0<=a)(h2:a<=10 ^ 15)(h3:0<=b)(h4:b<=10 ^ 15):L2.Zb a b:=
 ⟨RG (show a.natAbs<=10 ^ 15 by omega) (by decide +kernel),RG (show b.natAbs<=10 ^ 15 by omega) (by decide +kernel)⟩
def EC (n:Nat)(f:Nat->Int):List PV:=(List.range n).map fun j=>PV.int (f j)
def Nj (h:j<n):(EC n f)[j]?=some (.int (f j)):=by
 unfold EC;rw [AV,ID h];rfl
def Kn (n:Nat)(f:Nat->Int):(EC n f).length=n:=by unfold EC;rw [A9,IE]
def Z1 {a:Nat}:(EC n f).set a (.int v)=EC n fun j=>if j=a then v else f j:=by
 refine Wk fun j=>?_
 by_cases hj:j<n
 ·rw [Nj hj]
  by_cases c:j=a
  ·subst c;rw [DG (by rw [Kn];exact hj),gq rfl]
  ·rw [Cs (Bj c),Nj hj,gg c]
 ·rw [M7 (by rw [JO,Kn];omega),M7 (by rw [Kn];omega)]
def dY {f':Nat->Int}(h:∀ j,j<n->f j=f' j):EC n f=EC n f':=JP fun j hj=>by rw [h j (List.mem_range.mp hj)]
def stK (ks:List Kd)(cs:List Str)(C:List Int)(k j:Nat):Int:=(cs.count ((wk ks).getD j Str.empty):Nat)+((((wk ks).zip C).take k).map fun q=>q.2 * pin ks q.1 ((wk ks).getD j Str.empty)).sum - (if E8 ks ((wk ks).getD j Str.empty)=true/\j<k then C.getD j 0 else 0)
def vY (hC:C.length=ks.length):EC ks.length (stK ks cs C ks.length)=(GZ ks cs C).map .int:=by
 unfold GZ;rw [CP];refine JP fun j hj=>?_;have hj:=List.mem_range.mp hj;show PV.int (stK ks cs C ks.length j)=PV.int (Nw ks cs C j _);unfold stK Nw;rw [Kc (by rw [M8,A9];omega)]
 by_cases c:E8 ks ((wk ks).getD j Str.empty)=true
 ·rw [gq ⟨c,hj⟩,gq c]
 ·rw [gg (fun z=>c z.1),gg c]
def oa {k:Nat}(hx:(wk ks)[k]?=some x)(hc:C[k]?=some c):stK ks cs C (k+1) j=stK ks cs C k j+c * pin ks x ((wk ks).getD j Str.empty) - (if E8 ks x=true/\j=k then c else 0):=by
 have e:((wk ks).zip C)[k]?=some (x,c):=by rw [List.getElem?_zip_eq_some];exact ⟨hx,hc⟩
 unfold stK;rw [Fo e,CO,List.sum_append,Ac,Ek,El,gN]
 by_cases h:j=k
 ·subst h;have e1:(wk ks).getD j Str.empty=x:=by rw [DW,hx];rfl
  have e2:C.getD j 0=c:=by rw [DW,hc];rfl
  rw [e1,e2]
  by_cases q:E8 ks x=true
  ·rw [gq ⟨q,X3 _⟩,gg (fun z=>IH _ z.2),gq ⟨q,rfl⟩];show _+(_+(c * pin ks x x+0)) - c=_;omega
  ·rw [gg (fun z=>q z.1),gg (fun z=>q z.1),gg (fun z=>q z.1)];show _+(_+(c * pin ks x x+0)) - 0=_;omega
 ·rw [gg (fun z:E8 ks x=true/\j=k=>h z.2)];have e3:(E8 ks ((wk ks).getD j Str.empty)=true/\j<k+1)↔(E8 ks ((wk ks).getD j Str.empty)=true/\j<k):=⟨fun z=>⟨z.1,by omega⟩,fun z=>⟨z.1,by omega⟩⟩;simp only [e3];show _+(_+(c * pin ks x ((wk ks).getD j Str.empty)+0)) - _=_;omega
def ZU (g:KG ks)(hz:cs.length<=12)(h:c∈totC ks r cs):0<=c/\c<=10 ^ 12:=by
 unfold totC at h;obtain ⟨j,_,rfl⟩:=List.mem_map.mp h;have b:∀ z∈cs.map fun c=>(cnt ks r c).getD j 0,0<=z/\z<=40353607:=fun z hz=>by
  obtain ⟨y,_,rfl⟩:=List.mem_map.mp hz;rw [DW];cases e:(cnt ks r y)[j]? with
  | none=>exact ⟨FO _,by decide⟩
  | some v=>exact ⟨oK (C2 e),gu g (C2 e)⟩
 have h1:=fV (B:=40353607) fun z hz=>(b z hz).2;rw [A9] at h1;have h2:∀ {l:List Int},(∀ z∈l,0<=z)->0<=l.sum:=fun {l}=>by
  induction l with
  | nil=>intro _;exact FO _
  | cons a l ih=>
   intro q;have:=q a (by simp);have:=ih fun z hz=>q z (by simp [hz]);rw [El];omega
 exact ⟨h2 fun z hz=>(b z hz).1,by omega⟩
def iM (hp:∀ c∈cs,0<=BM ks r c){m:Int}(h:cs.map (BM ks r)=[]/\m=0∨m∈cs.map (BM ks r)/\∀ y∈cs.map (BM ks r),y<=m):m=J5 ks r cs:=by
 unfold J5;obtain ⟨a1,a2⟩:=Iw (0::cs.map (BM ks r)) (by simp);rcases h with ⟨e,rfl⟩ | ⟨h1,h2⟩
 ·rw [e] at a1 ⊢;rw [List.mem_singleton.mp a1]
 ·have q1:=a2 m (E5 _ h1);rcases List.mem_cons.mp a1 with e | e
  ·obtain ⟨y,hy,rfl⟩:=List.mem_map.mp h1;have:=hp y hy;omega
  ·have:=h2 _ e;omega
def vt:(ks.map fun k=>PV.int (cs.count k.w:Nat))=EC ks.length (stK ks cs C 0):=by
 refine Wk fun j=>?_
 by_cases hj:j<ks.length
 ·rw [Nj hj,AV,AR hj];have e:(wk ks).getD j Str.empty=ks[j].w:=by rw [DW,AV,AR hj];rfl
  unfold stK;rw [e,gO,gg (fun z=>by omega)];simp
 ·rw [M7 (by rw [A9];omega),M7 (by rw [Kn];omega)]
def kA (g:KG ks)(hz:z∈wk ks)(hj:j<ks.length):(wk ks).getD j Str.empty=z↔j=(wk ks).idxOf z:=by
 have Mn:j<(wk ks).length:=by rw [A9];exact hj
 have hi:=List.idxOf_lt_length_iff.mpr hz;have e1:(wk ks).getD j Str.empty=(wk ks)[j]:=by rw [DW,AR Mn];rfl
 rw [e1];constructor
 ·intro e;exact (Wv g.nd).mp (e.trans (GN hi).symm)
 ·rintro rfl;exact GN hi
def nG (g:KG ks)(hz:z∈wk ks):
  EC ks.length (fun j=>if j=(wk ks).idxOf z then f ((wk ks).idxOf z)+c * (ys.count ((wk ks).getD ((wk ks).idxOf z) Str.empty):Nat)+c else f j+c * (ys.count ((wk ks).getD j Str.empty):Nat))=EC ks.length fun j=>f j+c * ((ys++[z]).count ((wk ks).getD j Str.empty):Nat):=by
 refine dY fun j hj=>?_;have q:=kA g hz hj;rw [zt,zu,Wf,fw]
 by_cases h:j=(wk ks).idxOf z
 ·rw [gq h];rw [show (z == (wk ks).getD j Str.empty)=true from by rw [q.mpr h];exact jw z,gq rfl,<- h];simp;omega
 ·rw [gg h,show (z == (wk ks).getD j Str.empty)=false from beq_eq_false_iff_ne.mpr fun e=>h (q.mp e.symm)];simp
def yX {k:Nat}(hx:(wk ks)[k]?=some x)(hc:C[k]?=some c):
  EC ks.length (fun j=>if j=k then stK ks cs C k k+c * (((Bg ks x).map (·.2)).count ((wk ks).getD k Str.empty):Nat) - c * (if E8 ks x=true then 1 else 0) else stK ks cs C k j+c * (((Bg ks x).map (·.2)).count ((wk ks).getD j Str.empty):Nat))=EC ks.length (stK ks cs C (k+1)):=by
 refine dY fun j hj=>?_;rw [oa hx hc];unfold pin
 by_cases h:j=k
 ·subst h;rw [gq rfl]
  by_cases q:E8 ks x=true
  ·rw [gq q,gq ⟨q,rfl⟩];omega
  ·rw [gg q,gg (fun z=>q z.1)];omega
 ·rw [gg h,gg (fun z=>h z.2)];omega
theorem T9:∀ (W:List Str),((W.map PV.str).map OV.fz).map OV.JS=(W.map V.str).map some
 | []=>rfl
 | a::W=>by
  rw [Ac,Ac,Ac,T9 W,Ac,Ac];rfl
def UA (C:Addr):Pre:=fun l R=>∃ (ks:List Kd) (x y:Str),l=[.is (BS C ks),.is (.str x),.is (.str y)]/\KG ks/\x∈wk ks/\R=.is (fun p=>p=.int (pin ks x y))
def RW (C:Addr):Pre:=fun l R=>∃ (ks:List Kd) (tp:Bool) (cs:List Str) (A:List Int),l=[.is (BS C ks),.sq tp (cs.map .str),.is (.lst (A.map .int))]/\KG ks/\cs.length<=12/\A.length=ks.length/\(∀ c∈A,0<=c/\c<=10 ^ 12)/\R=.is (fun p=>p=.tup ((GZ ks cs A).map .int))
def TY (C:Addr):Pre:=fun l R=>∃ (ks:List Kd) (tp:Bool) (cs:List Str) (r:Str),l=[.is (BS C ks),.sq tp (cs.map .str),.is (.str r)]/\KG ks/\r∈Cv/\cs.length<=12/\(∀ c∈cs,c∈wk ks)/\¬ J2 (AL ks r) cs/\R=.is (fun p=>p=.A8)
def Sm (C:Addr):Pre:=fun l R=>∃ (ks:List Kd) (tp:Bool) (cs:List Str) (r:Str),l=[.is (BS C ks),.sq tp (cs.map .str),.is (.str r)]/\KG ks/\r∈Cv/\cs.length<=12/\(∀ c∈cs,c∈wk ks)/\¬ J2 (AL ks r) cs/\R=.is (fun p=>p=dS ks r cs)
def UP:Pre:=fun l R=>∃ (ks:List Kd) (cs:List Str) (r:Str),l=[.is (.lst (ks.map Kd.P)),.is (.lst (cs.map .str)),.is (.str r)]/\KG ks/\r∈Cv/\cs.length<=12/\(∀ c∈cs,c∈wk ks)/\¬ J2 (AL ks r) cs/\R=.is (fun p=>∃ (L:List Str) (m:Str->Int),p=.tup [N5 L m,.int (J5 ks r cs)]/\(ks.map fun k=>if decide (k.w∈L)=true then m k.w else 0)=totC ks r cs)
def VW:Pre:=fun l R=>∃ (ks:List Kd) (cs:List Str) (r:Str),l=[.is (.lst (ks.map Kd.P)),.is (.lst (cs.map .str)),.is (.str r)]/\KG ks/\r∈Cv/\cs.length<=12/\(∀ c∈cs,c∈wk ks)/\¬ J2 (AL ks r) cs/\R=.is (fun p=>p=dS ks r cs)
def WR:Pre:=fun l R=>∃ (A:List Int) (n:Int) (B:List Int),l=[.is (Kg A n B),.is (Kg A n B)]/\1<=A.length/\A.length<=8/\B.length<=8/\R=.is (fun p=>p=.bl true)
end Fz
set_option maxHeartbeats 8000000
namespace Pf
open L2 Lw
variable {w:World}{mg:ZB0}{base h:Heap}{A4 FG Io J0 f:Addr}{α:Type}{UC Uy VD VM VP:Tok}{kK my n qd:Nat}{l:PySem.W.OpenLaw}{t6 uM vJ:Option Addr}{oX qV tX:Array (Option Value)}
abbrev St:=L2.St
def top (i:Nat):Stmt:=PySem.Challenge.pw_stirround_k78_reckoned.main.body.getD i (.Pass ⟨0,0,0,0⟩)
abbrev T7:Stmt:=top 40
abbrev RU:Stmt:=top 41
abbrev Te:Stmt:=top 42
abbrev UL:Stmt:=top 43
abbrev S9:Stmt:=top 45
abbrev WI:Stmt:=top 23
abbrev Se:Stmt:=top 22
abbrev Qs:Stmt:=top 11
abbrev OM:Stmt:=top 21
abbrev U4:Stmt:=Py (top 20) 0
abbrev QH:Stmt:=top 51
abbrev Ui:Stmt:=top 39
abbrev Pl:Stmt:=top 46
abbrev SQ:Stmt:=top 47
abbrev NO:Stmt:=top 48
abbrev T2:Stmt:=top 49
abbrev W3:Stmt:=top 50
abbrev Li:Stmt:=top 52
abbrev Kj:Stmt:=top 53
abbrev Ts:Stmt:=top 44
abbrev P6:Stmt:=top 54
abbrev Tn:Stmt:=Py (top 20) 1
abbrev Rp:Stmt:=top 14
abbrev V9:Stmt:=top 24
abbrev Sz:Stmt:=Py (top 20) 2
abbrev QD:Stmt:=top 29
abbrev Ox:Stmt:=top 31
abbrev VQ:Stmt:=top 30
abbrev UW:Stmt:=top 28
abbrev P9:Stmt:=top 34
abbrev WE:Stmt:=top 35
abbrev LR:Stmt:=top 33
abbrev Vc:Stmt:=top 32
abbrev T8:Stmt:=Py (top 20) 3
abbrev Pz:Stmt:=top 37
abbrev PU:Stmt:=top 36
abbrev LS:Stmt:=top 27
abbrev L5:Stmt:=top 55
variable {P:Program}{K:ZAy}{fd:FuncData}
def bq {us:List α}(h:us.length=1):∃ a,us=[a]:=by
 rcases us with _ | ⟨a,_ | ⟨b,us⟩⟩
 ·cases h
 ·exact ⟨a,rfl⟩
 ·cases h
def ln2 {us:List α}(h:us.length=2):∃ a b,us=[a,b]:=by
 rcases us with _ | ⟨a,us⟩
 ·cases h
 ·obtain ⟨b,rfl⟩:=bq (RH h);exact ⟨a,b,rfl⟩
def ZD {us:List α}(h:us.length=3):∃ a b c,us=[a,b,c]:=by
 rcases us with _ | ⟨a,us⟩
 ·cases h
 ·obtain ⟨b,c,rfl⟩:=ln2 (RH h);exact ⟨a,b,c,rfl⟩
def Yx {us:List α}(h:us.length=4):∃ a b c d,us=[a,b,c,d]:=by
 rcases us with _ | ⟨a,us⟩
 ·cases h
 ·obtain ⟨b,c,d,rfl⟩:=ZD (RH h);exact ⟨a,b,c,d,rfl⟩
def cD {us:List α}(h:us.length=5):∃ a b c d e,us=[a,b,c,d,e]:=by
 rcases us with _ | ⟨a,us⟩
 ·cases h
 ·obtain ⟨b,c,d,e,rfl⟩:=Yx (RH h);exact ⟨a,b,c,d,e,rfl⟩
def ig {us:List α}(h:us.length=6):∃ a b c d e f,us=[a,b,c,d,e,f]:=by
 rcases us with _ | ⟨a,us⟩
 ·cases h
 ·obtain ⟨b,c,d,e,f,rfl⟩:=cD (RH h);exact ⟨a,b,c,d,e,f,rfl⟩
local macro_rules | `(tactic| walk_at "bD1")=>`(tactic| (intro _ _ _ _ _ _ us hl;obtain ⟨_,e⟩:=bq hl;subst e;rfl))
local macro_rules | `(tactic| walk_at "bD2")=>`(tactic| (intro _ _ _ _ _ _ us hl;obtain ⟨_,_,e⟩:=ln2 hl;subst e;rfl))
local macro_rules | `(tactic| walk_at "bD3")=>`(tactic| (intro _ _ _ _ _ _ us hl;obtain ⟨_,_,_,e⟩:=ZD hl;subst e;rfl))
local macro_rules | `(tactic| walk_at "bD4")=>`(tactic| (intro _ _ _ _ _ _ us hl;obtain ⟨_,_,_,_,e⟩:=Yx hl;subst e;rfl))
local macro_rules | `(tactic| walk_at "bD5")=>`(tactic| (intro _ _ _ _ _ _ us hl;obtain ⟨_,_,_,_,_,e⟩:=cD hl;subst e;rfl))
local macro_rules | `(tactic| walk_at "bD6")=>`(tactic| (intro _ _ _ _ _ _ us hl;obtain ⟨_,_,_,_,_,_,e⟩:=ig hl;subst e;rfl))
abbrev nS (K:ZAy)(x:Str)(v:Value):Prop:=PySem.W.nsIn K mainGlobals x=some (some v)
abbrev nN (K:ZAy)(x:Str):Prop:=PySem.W.nsIn K mainGlobals x=some none
open Fz
def ZWM (t:String):Lean.MacroM (Lean.TSyntax `tactic):=do
 let g:Lean.TSyntax `tactic←`(tactic| fail)
 let k←`(tactic| case wk=>rfl)
 let n (s:String):=`(tactic| walk_at $(Lean.quote s):str)
 (t.splitOn " ").foldrM (fun s r=>do
  let l:=((s.drop 1).toString.splitOn "/").map fun x=>Lean.mkIdent (`Fz++x.toName)
  let h:Lean.Ident:=l.getLast!
  let c:=s.front
  let w:=(h.getId.getString!.toLower.replace "o" "e").replace "i" "e"
  let z←if c=='j' then `($h ?wj ?wk ?_) else if c=='k'||c=='K' then `($h ?wk ?_) else `($h ?_)
  let z←l.dropLast.foldrM (fun (f:Lean.Ident) (z:Lean.Term)=>`($f ($z))) z
  let p←if c=='e' then `(tactic| show ∃ _,_=$h _/\_) else if c=='s' then `(tactic| show $h _ _ _) else `(tactic| refine' $z)
  let p←if c=='K'||c=='R'||c=='j' then pure p else `(tactic| with_reducible $p:tactic)
  let q←if c=='e' then `(tactic| refine ⟨_,rfl,?_⟩) else if c=='s' then n w else if c=='n' then n "wn" else if c=='p' then n "wp" else if c=='k'||c=='K' then pure k else if c=='j' then `(tactic| ((case wj=>rfl);$k:tactic)) else `(tactic| skip)
  `(tactic| first | ($p:tactic;$q:tactic) | $r:tactic)) g
local macro_rules | `(tactic| walk_at "wp")=>ZWM "kA5 rAq rEW rO7 rIA rUj rIm rcw rKI rYB reT rfD rjq rfY kx8 rLx rGQ rBA rIp rar rEj raE rZi kjY rQt rk7 KZH KOd Kjl KcN Ke9 KIW"
local macro_rules | `(tactic| walk_at "wn")=>ZWM "rJe rQq rV2 KKp"
local macro_rules | `(tactic| walk_at "wq")=>do
 let z←ZWM "kLX kHu kCk kBG"
 `(tactic| first | $z:tactic | (refine BH (B4 ?_);walk_at "wn") | (refine BH ?_;walk_at "wp"))
local macro_rules | `(tactic| walk_at "wz")=>`(tactic| first
 | ((with_reducible refine' Ry ?wk ?_);(case wk=>rfl))
 | (refine Bp (B4 ?_);walk_at "wn")
 | (refine Bp ?_;walk_at "wp"))
local macro_rules | `(tactic| walk_at "wt")=>ZWM "rCJ rEr rDu rHl rbr rKW"
local macro_rules | `(tactic| walk_at "we")=>ZWM "rBm rDf rRv rRc rdC rtZ rCF"
local macro_rules | `(tactic| walk_at "w")=>do
 let z←ZWM "rAU rDt rD3 rC0 kUr kZ4 kZQ nEz pEL kbj nJw pDw"
 let z1←ZWM "eOV.tp eOV.fz"
 let z2←ZWM "sWn sWq sWz sWt sWe sWo sWi"
 let z3←ZWM "ePV.int ePV.str ePV.bl"
 `(tactic| first | $z1:tactic | ((with_reducible show ∃ _ _,_=OV.nd NK.lst _ _/\_);refine ⟨_,_,rfl,?_⟩) | ((with_reducible show ∃ _ _ _,_=PV.int _/\_/\_/\_);refine ⟨_,_,_,rfl,rfl,rfl,?_⟩) | ((with_reducible show Wp _ _ _);first | walk_at "wp" | (refine B4 ?_;walk_at "wn")) | $z2:tactic | ((with_reducible show Ws _ _ _ _);$z:tactic) | $z3:tactic | ((with_reducible show (_:Bool)=_/\_);refine ⟨rfl,?_⟩) | ((with_reducible show ∃ _ _,_=PV.int _/\L2.Ba _ _=some _/\_);refine ⟨_,_,rfl,rfl,?_⟩) | ((with_reducible show ∃ _,(_=PV.lst _/\_)∨(_=PV.tup _/\_));first | refine ⟨_,.inl ⟨rfl,?_⟩⟩ | refine ⟨_,.inr ⟨rfl,?_⟩⟩) | ((with_reducible show ∃ _,_=List.map _ _/\_);first | refine ⟨_,rfl,?_⟩ | refine ⟨[],rfl,?_⟩ | refine ⟨_,SY _ _ _ _,?_⟩))
local macro_rules | `(tactic| walk_at "ww")=>`(tactic| repeat walk_at "w")
local macro_rules | `(tactic| walk_at "z1")=>`(tactic| exact ⟨rfl,rfl,rfl,by decide +kernel,rfl,by decide +kernel,by decide +kernel⟩)
local macro_rules | `(tactic| walk_at "z2")=>`(tactic| exact ⟨rfl,by decide +kernel,by decide +kernel,rfl,rfl,by decide +kernel,by decide +kernel,by decide +kernel,by decide +kernel⟩)
def aI:B6 ["pot","many","found"] ["pot","many"] (AZ T7):=by walk_at "z1"
variable (MY:AB P w K mg base "_law_letters" 1 ["number"] (Z9))(CL:AB P w K mg base "_law_take" 1 ["pot","many"] (LN))(B9:mg "len"=none)(TF:AB P w K mg base "_law_name" 2 ["pot","names"] (bR K))(DJ:mg "range"=none)(Sq:AB P w K mg base "_law_names" 3 ["pot","many"] (VY))(Dc:mg "max"=none)(Bt:mg "tuple"=none)(FY:AB P w K mg base "check_word" 1 ["words","word"] (AN Ll))(Rg:mg "WHERES"=some (.ref Io))(Uh:∀ H,An K H Io [.str "next", .str "last", .str "back", .str "first"])(Ls:mg "all"=none)(UK:mg "LETTERS"=some (.str "abcdefghijklmnopqrstuvwxyz" VD))(U7:mg "MOST_LETTERS"=some (.int 8 UC))(RM:AB P w K mg base "check_puts" 2 ["words","puts"] (AN UZ))(Sa:AB P w K mg base "is_name" 1 ["text"] (Rf))(M0:mg "enumerate"=none)(TX:mg "MOST_KINDS"=some (.int 8 Uy))(Vj:mg "MOST_PUTS"=some (.int 6 VM))(TQ:AB P w K mg base "check_kinds" 3 ["kinds"] (AN WB))(D8:DP K A4)(JH:Ei K A4 "goes_by_word")(G9:Ei K A4 "puts_by_word")(Vo:W8 P w K mg base A4 4 ["self","kinds"] (DS (UJ A4)))(Cu:mg "list"=none)(Ux:mg "Errands"=some (.ref A4))(Hv:AB P w K mg base "_law_comers" 1 ["kinds","word","rule"] (AN Ma))(Jq:AB P w K mg base "_law_reached" 2 ["kinds","some","rule"] (AN Qy))(VE:mg "any"=none)(Gf:mg "int"=none)(V6:AB P w K mg base "_law_counted" 3 ["kinds","some","rule"] (AN UP))(UQ:mg "bool"=none)(HK:mg "isinstance"=none)(Pt:AB P w K mg base "_law_whole" 1 ["found"] (AN S8))(WC:mg "RULES"=some (.ref J0))(T3:∀ H,An K H J0 [.str "none", .str "ahead", .str "all"])(ED:FJ P w K mg base A4 "words" 1 ["self"] (AN (Jr A4)))(Up:mg "MOST_IN_CROWD"=some (.int 12 VP))(Ku:FJ P w K mg base A4 "puts" 2 ["self","word"] (AN (Pw A4)))(Lq:mg "WHERES_AHEAD"=some (.ref FG))(Ks:∀ H,An K H FG [.str "next", .str "last"])(GY:AB P w K mg base "comers_of" 3 ["book","word","rule"] (AN (Lj A4)))(U0:AB P w K mg base "way_and_ring" 14 ["book","crowd","rule"] (AN (Vr A4)))(Kz:mg "sum"=none)(MS:AB P w K mg base "rounds_to" 1 ["put","known"] (AN P5))(IJ:AB P w K mg base "sums_of" 1 ["many","length"] (AN Nx))(UX:FJ P w K mg base A4 "goes" 2 ["self","word"] (AN (Qc A4)))(UB:AB P w K mg base "puts_in" 3 ["book","word","kind"] (AN (UA A4)))(UY:mg "zip"=none)(RX:AB P w K mg base "check_crowd" 2 ["book","crowd"] (AN (U8 A4)))(Tv:AB P w K mg base "check_ends" 15 ["book","crowd","rule"] (AN (TY A4)))(Rz:AB P w K mg base "check_rule" 1 ["rule"] (AN Tq))(W7:AB P w K mg base "known_rows" 14 ["book","crowd","rule"] (AN (VA A4)))(WM:AB P w K mg base "standing_behind" 4 ["book","crowd","counts"] (AN (RW A4)))(UT:AB P w K mg base "_law_book" 6 ["kinds"] (AN (SU A4)))(Ut:AB P w K mg base "_law_crowd" 2 ["pot","kinds"] (AN Vb))(UO:AB P w K mg base "_law_due" 4 ["kinds","crowd","rule"] (AN VW))(Vu:AB P w K mg base "_law_kinds" 4 ["pot"] (AN Vh))(QF:AB P w K mg base "_law_pot" 1 ["script","k"] (PR K))(Pj:AB P w K mg base "_law_right" 2 ["found","due"] (AN WR))(U2:AB P w K mg base "_law_rings" 3 ["kinds","crowd","rule"] (AN Rb))(Tg:AB P w K mg base "_law_rule" 2 ["pot"] (AN Sw))(OY:AB P w K mg base "reckoned" 16 ["book","crowd","rule"] (AN (Sm A4)))(S6:mg "min"=none)
def rW (F:AO K "_law_take" "_law_take" T7 f fd)(m:mg "_law_take"=some (.ref f)):
  AB P w K mg base "_law_take" 1 ["pot","many"] (LN):=by
 refine AB.mk F (F.binds (by walk_at "bD2")) m (F.BE (k:=0) aI (fun vs H Q E h=>?_) (fun Ab A outer s H vs Q E hr h=>?_))
 ·obtain ⟨p,m,rfl,⟨a,b,hp,a0,a1,b0,b1⟩,m0,m1,q⟩:=h;rfl
 obtain ⟨p,m,rfl,⟨a,b,hp,a0,a1,b0,b1⟩,m0,m1,q⟩:=h;refine ⟨_,(AE rfl (Bc (BI Pd (AY Ca (qv 0) AA) AA) (AE rfl (Ai 2 aI.nd (Ap HY (AY Ca (qv 0) AA) (qv 1)))
   (AE rfl (MC (Ap TB (AY Ca (qv 0) AA) (qv 1)) (OT (qv 0) AA set_list))
   (AK rfl (B5 (qv 2))))) BW)
   (AE rfl (MC (Ap HY (Ap Ed (Ap Hg (AY Ca (qv 0) AA) AA) AA) AA) (OT (qv 0) AA set_list))
   (AK rfl (B5 (Ap HY (Ap TB (Ap HY (Ap Hg (AY Ca (qv 0) AA) (AY Ca (qv 0) AA)) AA) AA) (qv 1)))))),?_⟩
 refine ⟨_,rfl,p,_,_,_,rfl,rfl,AI.of hp,rfl,_,_,rfl,rfl,_,rfl,?_⟩;refine CM (fun c=>?_) (fun c=>?_)
 ·have c':0<a:=i8 c;refine ⟨_,rfl,p,_,_,_,rfl,rfl,AI.of hp,rfl,_,rfl,_,_,rfl,rfl,m0,?_⟩;refine ⟨_,rfl,p,_,_,_,rfl,rfl,AI.of hp,rfl,_,rfl,_,_,rfl,rfl,⟨m0,Lr (by omega) (by omega)⟩,?_⟩;refine ⟨_,rfl,p,_,_,_,rfl,rfl,hp,rfl,?_⟩;refine ⟨_,rfl,?_⟩;refine q _ _ (JM _ (by omega)) (Ka _ m0) ⟨⟨a / m,b,Al,Int.ediv_nonneg a0 (by omega),fu (Int.ediv_le_self _ a0) a1,b0,b1⟩,FT.upd⟩
 ·refine ⟨_,rfl,p,_,_,_,rfl,rfl,AI.of hp,rfl,_,_,rfl,rfl,⟨Lr (by omega) (by omega),by decide +kernel⟩,_,_,rfl,rfl,_,_,rfl,rfl,(by show (0:Int)<2147483647;decide),?_⟩;refine ⟨_,rfl,p,_,_,_,rfl,rfl,hp,rfl,?_⟩;have ae:0<=(b * 69621+12345) % 2147483647:=JM _ (by decide);have YM:(b * 69621+12345) % 2147483647<2147483647:=Ka _ (by decide);generalize hb:(b * 69621+12345) % 2147483647=b' at ae YM;have So:(upd H p (.lst [.int a,.int ((b * 69621+12345) % 2147483647)])) p=some (.lst [.int a,.int b']):=by rw [Al,hb]
  refine ⟨_,rfl,p,_,_,_,rfl,rfl,AI.of So,rfl,_,rfl,p,_,_,_,rfl,rfl,AI.of So,rfl,_,_,rfl,rfl,⟨Lr (by omega) (by omega),Lr (by omega) (by omega)⟩,_,_,rfl,rfl,(by show (0:Int)<2147483629;decide),?_⟩;refine ⟨_,_,rfl,rfl,⟨(by show (0:Int)<64;decide),by decide +kernel⟩,_,rfl,_,_,rfl,rfl,m0,?_⟩;exact q _ _ (JM _ (by omega)) (Ka _ m0) ⟨⟨a,b',So,a0,a1,ae,YM⟩,FT.upd⟩
def Qr:B6 ["number","word"] ["number"] (AZ RU):=by walk_at "z1"
def uL (F:AO K "_law_letters" "_law_letters" RU f fd)(m:mg "_law_letters"=some (.ref f)):
  AB P w K mg base "_law_letters" 1 ["number"] (Z9):=by
 refine AB.mk F (F.binds (by walk_at "bD1")) m (F.BE (k:=0) Qr (fun vs H Q E h=>?_) (fun Ab A outer s H vs Q E hr h=>?_))
 ·obtain ⟨r,rfl,r0,r1,q⟩:=h;rfl
 obtain ⟨r,rfl,r0,r1,q⟩:=h;refine ⟨_,(AE rfl (Ai 1 Qr.nd BD)
   (AE rfl (CC (OG Cf (JX (BI Fb (qv 1) BD) (MF (BI Pd (qv 0) AA))).pt (AE rfl (Ai 1 Qr.nd (Ap Xr (qv 1) (AY mO BD (Ap HY (qv 0) AA))))
   (AK rfl (Ai 0 Qr.nd (Ap TB (qv 0) AA))))))
   (AK rfl (B5 (qv 1))))),?_⟩
 obtain ⟨n,rfl⟩:=Wd r0;have hn:n<26 ^ 8:=by omega
 rw [HE] at q;refine ⟨fun σ' H'=>∃ v,σ'=[some v,some (.str (Cr (MA.lets n)))]/\H=H',?_,?_⟩
 ·refine ⟨fun m σ' H'=>∃ (k:Nat) (pre:List Nat),σ'=[some (.int k),some (.str (Cr pre))]/\H=H'/\((pre=[]/\k=n/\m=n+2)∨(pre≠[]/\m=k+1/\(0<k->pre++MA.lets k=MA.lets n)/\(k=0->pre=MA.lets n))),⟨n+2,n,[],rfl,rfl,.inl ⟨rfl,rfl,rfl⟩⟩,?_⟩;rintro m σ' H' ⟨k,pre,rfl,rfl,hI⟩;refine ⟨_,rfl,rfl,_,rfl,?_⟩;refine CM (fun c=>eO ?_) (fun c=>⟨_,rfl,_,_,rfl,rfl,_,rfl,?_⟩)
  ·have hp:pre=[]:=Xx.mp (i8 c);obtain ⟨_,hk,hm⟩ | ⟨h,_⟩:=hI
   ·have he:pre++MA.lets k=MA.lets n:=by rw [hp,hk];rfl
    have hlen:pre.length+1<=8:=by
     have h1:=l9 List.length he;rw [Bo] at h1;have h2:=MA.OI 7 n hn;have h3:=MA.Uq k;omega
    refine ⟨fun σ' H'=>σ'=[some (.int ((k:Int) / 26)),some (.str (Cr pre++⟨#[97+((k:Int) % 26).toNat]⟩))]/\H=H',?_,?_⟩
    ·rintro σ' H' ⟨rfl,rfl⟩;have nx:=Yu he;have e1:((k:Int) % 26).toNat=k % 26:=by omega
     have e2:(k:Int) / 26=((k / 26:Nat):Int):=by omega
     exact ⟨k / 26+1,by omega,k / 26,pre++[97+k % 26],by rw [e1,e2,cZ],rfl,.inr ⟨by simp,rfl,nx.1,nx.2⟩⟩
    ·refine ⟨_,rfl,_,rfl,_,_,rfl,rfl,(by show (0:Int)<26;decide),_,_,_,rfl,rfl,(by decide +kernel),cx (JM _ (by decide)) (Ka _ (by decide)),_,_,rfl,rfl,?_,?_⟩
     ·rw [Qb];exact small (show pre.length+1<=_ by omega)
     ·exact ⟨_,rfl,_,_,rfl,rfl,⟨(by show (0:Int)<26;decide),by decide +kernel⟩,rfl,rfl⟩
   ·exact absurd hp h
  ·have hp:pre≠[]:=fun h=>c (hJ (Xx.mpr h));obtain ⟨h,_⟩ | ⟨_,hm,h1,h2⟩:=hI
   ·exact absurd h hp
   refine CM (fun c2=>?_) (fun c2=>?_)
   ·have hk:0<k:=by have:(0:Int)<k:=i8 c2;omega
    have he:=h1 hk;have hlen:pre.length+1<=8:=by
     have h1:=l9 List.length he;rw [Bo] at h1;have h2:=MA.OI 7 n hn;have h3:=MA.Uq k;omega
    refine ⟨fun σ' H'=>σ'=[some (.int ((k:Int) / 26)),some (.str (Cr pre++⟨#[97+((k:Int) % 26).toNat]⟩))]/\H=H',?_,?_⟩
    ·rintro σ' H' ⟨rfl,rfl⟩;have nx:=Yu he;have e1:((k:Int) % 26).toNat=k % 26:=by omega
     have e2:(k:Int) / 26=((k / 26:Nat):Int):=by omega
     exact ⟨k / 26+1,by omega,k / 26,pre++[97+k % 26],by rw [e1,e2,cZ],rfl,.inr ⟨by simp,rfl,nx.1,nx.2⟩⟩
    ·refine ⟨_,rfl,_,rfl,_,_,rfl,rfl,(by show (0:Int)<26;decide),_,_,_,rfl,rfl,(by decide +kernel),cx (JM _ (by decide)) (Ka _ (by decide)),_,_,rfl,rfl,?_,?_⟩
     ·rw [Qb];exact small (show pre.length+1<=_ by omega)
     ·exact ⟨_,rfl,_,_,rfl,rfl,⟨(by show (0:Int)<26;decide),by decide +kernel⟩,rfl,rfl⟩
   ·have hk:k=0:=by
     have:¬ (0:Int)<k:=fun z=>c2 (hJ z);omega
    exact ⟨_,by rw [h2 hk],rfl⟩
 ·rintro σ' H' ⟨v,rfl,rfl⟩;exact ⟨_,rfl,q⟩
def Fd:B6 ["pot","names","some","way","name","number"] ["pot","names"] (AZ Te):=by walk_at "z1"
def sA (F:AO K "_law_name" "_law_name" Te f fd)(m:mg "_law_name"=some (.ref f)):
  AB P w K mg base "_law_name" 2 ["pot","names"] (bR K):=by
 refine AB.mk F (F.binds (by walk_at "bD2")) m (F.BE (k:=1) Fd (fun vs H Q E h=>?_) (fun Ab A outer s H vs Q E hr h=>?_))
 ·obtain ⟨p,q,ns,rfl,hp,hS,As,hN,hL,K1⟩:=h;rfl
 obtain ⟨p,q,ns,rfl,hp,hS,As,hN,hL,K1⟩:=h;refine ⟨_,(AE rfl (Ai 2 Fd.nd (DT (A0 BD (A0 BD (A0 BD (A0 BD (A0 BD (A0 BD (A0 BD (A0 BD (A0 BD (A0 BD (A0 BD (A0 BD (A0 BD A6)))))))))))))))
   (AE rfl (Ai 3 Fd.nd (Ae CL hr (A0 (qv 0) (A0 AA A6))))
   (AE rfl (Ai 4 Fd.nd (AY Ax (qv 2) (Ae CL hr (A0 (qv 0) (A0 AA A6)))))
   (AE rfl (CC (Bc (BI Fb (qv 3) AA) (AK rfl (Ai 4 Fd.nd (Ae MY hr (A0 (Ae CL hr (A0 (qv 0) (A0 (Ap MI (Ap L8 AA AA) AA) A6))) A6)))) BW))
   (AE rfl (CC (Bc (VL (BI Fb (qv 3) AA) (Uc (BI (Ow hr.Pk) (qv 1) (EK A6)))).pt (AE rfl (Ai 4 Fd.nd (AY Ca (qv 1) (Ae CL hr (A0 (qv 0) (A0 (Bh P2 B9 (A0 (qv 1) A6)) A6)))))
   (AK rfl (Ai 4 Fd.nd (Nh XD (Ap Xr (qv 4) (Ae MY hr (A0 (Ae CL hr (A0 (qv 0) (A0 AA A6))) A6))) MG (Na AA))))) BW))
   (AE rfl (CC (Bc (VL (BI Fb (qv 3) AA) (Uc (BI (Ow hr.Pk) (qv 1) (EK A6)))).pt (AE rfl (Ai 4 Fd.nd (AY Ca (qv 1) (Ae CL hr (A0 (qv 0) (A0 (Bh P2 B9 (A0 (qv 1) A6)) A6)))))
   (AK rfl (Ai 4 Fd.nd (Nh XD (qv 4) MG (Na (Ap Ed AA (Ae CL hr (A0 (qv 0) (A0 (Bh dy B9 (A0 (qv 4) A6)) A6))))))))) BW))
   (AE rfl (Ai 5 Fd.nd AA)
   (AE rfl (CC (OG Cf (BI GD (qv 4) (qv 1)) (AE rfl (Ai 4 Fd.nd (Ae MY hr (A0 (qv 5) A6)))
   (AK rfl (Ai 5 Fd.nd (Ap Ed (qv 5) AA))))))
   (AK rfl (B5 (qv 4))))))))))),?_⟩
 have hl:(ns.map V.str).length=ns.length:=A9 _;refine ⟨(by show 13<=sizeLine;decide +kernel),fun sm Gj=>?_⟩;have GJ:sm≠p:=by
  obtain ⟨_,_,e,_⟩:=hp;exact (DQ e Gj).symm
 have g0:C4 p H (upd H sm (.tup QN)):=C4.of hp (D5 Gj _);refine ⟨_,rfl,p,4,rfl,g0.AQ,by decide,by decide,fun way H1 w0 w1 s1=>?_⟩;refine ⟨_,rfl,_,rfl,p,13,rfl,s1.AQ,by decide,by decide,fun i H2 i0 i1 s2=>?_⟩;have h2:H2 sm=some (.tup QN):=s2.at' (s1.at' Al GJ) GJ;obtain ⟨x,hx,nx⟩:=oY i0 i1;refine ⟨sm,_,_,_,rfl,rfl,An.of h2,hx,?_⟩;have g2:=g0.trans (s1.trans s2);refine ⟨fun σ' H'=>∃ x,σ'=[some (.ref p),some (.ref q),some (.ref sm),some (.int way),some (.str x),none]/\Nm x/\C4 p H H',?_,?_⟩
 ·refine ⟨_,rfl,rfl,_,rfl,?_⟩;refine CM (fun c=>?_) (fun c=>?_)
  ·refine ⟨_,rfl,_,_,rfl,rfl,⟨by decide,by decide,by decide +kernel⟩,_,_,rfl,rfl,p,_,rfl,g2.AQ,wN,iR,fun r H3 r0 r1 s3=>?_⟩;have r2:r<26 ^ 8:=Int.lt_trans r1 kQ;exact ⟨r,rfl,r0,r2,_,rfl,S7 (YI r0 r2),g2.trans s3⟩
  ·exact ⟨x,rfl,nx,g2⟩
 clear h2 hx nx s2 g2 i0 i1;rintro σ' H3 ⟨y,rfl,ny,g3⟩;refine ⟨fun σ' H'=>∃ x,σ'=[some (.ref p),some (.ref q),some (.ref sm),some (.int way),some (.str x),none]/\Nm x/\C4 p H H',?_,?_⟩
 ·refine ⟨_,rfl,rfl,_,rfl,?_⟩;refine CM (fun c=>?_) (fun c=>TM ⟨y,rfl,ny,g3⟩);refine ⟨_,rfl,(by show 0<=sizeLine;decide),fun e he=>?_⟩;have g4:=g3.trans (C4.of g3.AQ (D5 he (.lst [])));have Mp:=g4.MR hS As;refine ⟨q,e,_,[],rfl,rfl,.inl ⟨Mp,AI.of Al⟩,JV ns,rfl,_,rfl,?_⟩;rw [Ys];refine CM (fun c2=>?_) (fun c2=>⟨y,rfl,ny,g4⟩);have NV:0<ns.length:=by
   cases ns with
   | nil=>simp at c2
   | cons a r=>simp
  refine ⟨_,rfl,_,rfl,_,rfl,q,_,rfl,.inl Mp,p,_,rfl,g4.AQ,(by rw [hl];omega),(by rw [hl];omega),fun i H5 i0 i1 s5=>?_⟩;rw [hl] at i1;have g5:=g4.trans s5;obtain ⟨z,hz,Rk,_⟩:=aN i0 i1;have nz:=hN z Rk;refine ⟨q,_,_,_,rfl,rfl,g5.MR hS As,hz,?_⟩;refine ⟨_,rfl,_,rfl,p,26,rfl,g5.AQ,by decide,by decide,fun r H6 r0 r1 s6=>?_⟩;have g6:=g5.trans s6;have r2:r<26 ^ 8:=Int.lt_trans r1 rq;refine ⟨r,rfl,r0,r2,?_⟩;have nl:=S7 (n:=r.toNat) (YI r0 r2);have hlen:z.length+(Cr (MA.lets r.toNat)).length<=16:=by have:=nz.2.1;have:=nl.2.1;omega
  refine ⟨_,_,rfl,rfl,small (by omega),?_⟩;refine ⟨_,rfl,_,rfl,small (by rw [b4];omega),?_⟩;refine ⟨_,rfl,fT (by decide) (by decide) (by rw [b4];have:=nz.1;omega) (fun c hc=>?_),g6⟩;rw [Y4] at hc;rcases List.mem_append.mp hc with hc | hc
  ·exact nz.2.2 c hc
  ·exact nl.2.2 c hc
 clear ny g3;rintro σ' H3 ⟨y,rfl,ny,g3⟩;refine ⟨fun σ' H'=>∃ x,σ'=[some (.ref p),some (.ref q),some (.ref sm),some (.int way),some (.str x),none]/\Nm x/\C4 p H H',?_,?_⟩
 ·refine ⟨_,rfl,rfl,_,rfl,?_⟩;refine CM (fun c=>?_) (fun c=>TM ⟨y,rfl,ny,g3⟩);refine ⟨_,rfl,(by show 0<=sizeLine;decide),fun e he=>?_⟩;have g4:=g3.trans (C4.of g3.AQ (D5 he (.lst [])));have Mp:=g4.MR hS As;refine ⟨q,e,_,[],rfl,rfl,.inl ⟨Mp,AI.of Al⟩,JV ns,rfl,_,rfl,?_⟩;rw [Ys];refine CM (fun c2=>?_) (fun c2=>⟨y,rfl,ny,g4⟩);have NV:0<ns.length:=by
   cases ns with
   | nil=>simp at c2
   | cons a r=>simp
  refine ⟨_,rfl,_,rfl,_,rfl,q,_,rfl,.inl Mp,p,_,rfl,g4.AQ,(by rw [hl];omega),(by rw [hl];omega),fun i H5 i0 i1 s5=>?_⟩;rw [hl] at i1;have g5:=g4.trans s5;obtain ⟨z,hz,Rk,_⟩:=aN i0 i1;have nz:=hN z Rk;refine ⟨q,_,_,_,rfl,rfl,g5.MR hS As,hz,?_⟩;have ky:=nz.1;have nz2:=nz.2.1;refine ⟨_,rfl,_,rfl,_,rfl,_,rfl,small (by omega),p,_,rfl,g5.AQ,(by omega),(by omega),fun r H6 r0 r1 s6=>?_⟩;refine ⟨_,_,rfl,rfl,_,rfl,_,rfl,small (by omega),?_⟩;exact ⟨_,rfl,fT (by omega) (by omega) ky nz.2.2,g5.trans s6⟩
 clear ny g3;rintro σ' H3 ⟨y,rfl,ny,g3⟩;refine ⟨fun σ' H'=>∃ x v,σ'=[some (.ref p),some (.ref q),some (.ref sm),some (.int way),some (.str x),some v]/\Nm x/\x∉ns/\H3=H',?_,?_⟩
 ·refine ⟨fun m σ' H'=>∃ (k:Nat) (x:Str),σ'=[some (.ref p),some (.ref q),some (.ref sm),some (.int way),some (.str x),some (.int k)]/\H3=H'/\Nm x/\m=ns.length+1 - k/\k<=ns.length+1/\(0<k->x=Cr (MA.lets (k - 1)))/\(∀ j,j+1<k->Cr (MA.lets j)∈ns),
   ⟨ns.length+1,0,y,rfl,rfl,ny,rfl,CD _,fun h=>absurd h (by decide),fun j h=>absurd h (by omega)⟩,?_⟩
  rintro m σ' H' ⟨k,x,rfl,rfl,nx,rfl,hk,hx,hj⟩;refine ⟨_,rfl,_,rfl,q,_,rfl,.inl (g3.MR hS As),rfl,JV ns,_,rfl,?_⟩;rw [gg (by decide),T4];refine CM (fun c=>?_) (fun c=>⟨x,_,rfl,nx,fun z=>c (hJ z),rfl⟩);have Nn:x∈ns:=i8 c;have JB:∀ j,j<k->Cr (MA.lets j)∈ns:=fun j Mn=>by
   by_cases e:j+1<k
   ·exact hj j e
   ·have e2:j=k - 1:=by omega
    rw [e2,<- hx (by omega)];exact Nn
  have QP:=lr JB;refine ⟨fun σ' H'=>σ'=[some (.ref p),some (.ref q),some (.ref sm),some (.int way),some (.str (Cr (MA.lets k))),some (.int ((k:Int)+1))]/\H3=H',?_,?_⟩
  ·rintro σ' H' ⟨rfl,rfl⟩;exact ⟨ns.length+1 - (k+1),by omega,k+1,Cr (MA.lets k),rfl,rfl,S7 (RG (Em QP hL) i4),rfl,by omega,fun _=>rfl,fun j Mn=>JB j (by omega)⟩
  ·refine ⟨_,rfl,k,rfl,by omega,?_,?_⟩
   ·have:(k:Int)<=1000:=by omega
    exact fu this l7
   ·rw [HE];exact ⟨_,rfl,_,_,rfl,rfl,rfl,rfl⟩
 rintro σ' H' ⟨x,v,rfl,nx,hx,rfl⟩;exact ⟨_,rfl,K1 x H3 nx hx g3⟩
def Rt:B6 ["pot","many","names","k"] ["pot","many"] (AZ UL):=by walk_at "z1"
def kc (F:AO K "_law_names" "_law_names" UL f fd)(m:mg "_law_names"=some (.ref f)):
  AB P w K mg base "_law_names" 3 ["pot","many"] (VY):=by
 refine AB.mk F (F.binds (by walk_at "bD2")) m (F.BE (k:=2) Rt (fun vs H Q E h=>?_) (fun Ab A outer s H vs Q E hr h=>?_))
 ·obtain ⟨p,m,rfl,hp,m0,m1,q⟩:=h;rfl
 obtain ⟨p,m,rfl,hp,m0,m1,q⟩:=h;refine ⟨_,(AE rfl (Ai 2 Rt.nd (EK A6))
   (AE rfl (CC (DA Cf rfl (LL rfl DJ (A0 (qv 1) A6)) (Bw 3 Rt.nd) (AK rfl (D7 (EZ Ef RJ RK NG (qv 2) (A0 (Ae TF hr (A0 (qv 0) (A0 (qv 2) A6))) A6))))))
   (AK rfl (B5 (qv 2))))),?_⟩
 refine ⟨(by show 0<=sizeLine;decide),fun l hl=>?_⟩;have As:=hp.ne hl;refine ⟨fun σ' H'=>∃ (ns:List Str) (v:Option V),σ'=[some (.ref p),some (.int m),some (.ref l),v]/\C4 p H H'/\H' l=some (.lst (ns.map V.str))/\(ns.length:Int)=m/\(∀ x∈ns,Nm x)/\ns.Nodup,?_,?_⟩
 ·refine ⟨_,rfl,m,rfl,by omega,by omega,sO (n:=m.toNat) (fun i σ' H'=>∃ (ns:List Str) (v:Option V),σ'=[some (.ref p),some (.int m),some (.ref l),v]/\C4 p H H'/\H' l=some (.lst (ns.map V.str))/\ns.length=i/\(∀ x∈ns,Nm x)/\ns.Nodup) ?_ ?_ ?_⟩
  ·exact ⟨[],none,rfl,(C4.of hp (AJ.refl H)).upd hl As,Al,rfl,fun x hx=>absurd hx (by simp),by simp⟩
  ·rintro i σ' H' hi ⟨ns,v,rfl,g,e,hlen,hN,nd⟩;refine ⟨_,rfl,.inl ⟨rfl,_,AI.of e⟩,_,rfl,_,rfl,p,l,ns,rfl,g.AQ,AI.of e,As,hN,by omega,fun x H2 nx hx s2=>?_⟩;refine ⟨l,_,_,rfl,rfl,s2.at' e As,RG (m:=100) (by rw [A9];omega) (by decide +kernel),?_⟩;refine ⟨ns++[x],_,rfl,(g.trans s2).upd hl As,by rw [Al,CO];rfl,by rw [Bo];simp [hlen],fun y hy=>?_,KP nd hx⟩;rcases List.mem_append.mp hy with h | h
   ·exact hN y h
   ·have:y=x:=by simpa using h
    rw [this];exact nx
  ·rintro σ' H' ⟨ns,v,rfl,g,e,hlen,hN,nd⟩;exact ⟨ns,v,rfl,g,e,by omega,hN,nd⟩
 rintro σ' H' ⟨ns,v,rfl,g,e,hlen,hN,nd⟩;exact ⟨_,rfl,q l H' ns hl g e hlen hN nd⟩
def Fw:B6 ["pot","many","words","shape","kinds","k","puts","j","where","kind"] ["pot"] (AZ S9):=by walk_at "z1"
def Zp : ∀ ss R,Vh ss R->ss.length=1:=by rintro _ _ ⟨rfl,rfl⟩;rfl
def su (F:AO K "_law_kinds" "_law_kinds" S9 f fd)(m:mg "_law_kinds"=some (.ref f)):
  AB P w K mg base "_law_kinds" 4 ["pot"] (AN Vh):=by
 refine AB.mk F (F.binds (by walk_at "bD1")) m (F.BE (k:=3) Fw (fun vs H Q E h=>Fz.Bv Zp h) (fun Ab A outer s H vs Q E hr h=>?_))
 refine ⟨_,(AE rfl (Ai 1 Fw.nd (Ap Ed AA (Ae CL hr (A0 (qv 0) (A0 AA A6)))))
   (AE rfl (Ai 2 Fw.nd (Ae Sq hr (A0 (qv 0) (A0 (qv 1) A6))))
   (AE rfl (Ai 3 Fw.nd (Ae CL hr (A0 (qv 0) (A0 AA A6))))
   (AE rfl (Ai 4 Fw.nd (EK A6))
   (AE rfl (CC (DA Cf rfl (LL rfl DJ (A0 (qv 1) A6)) (Bw 5 Fw.nd) (AE rfl (Ai 6 Fw.nd (EK A6))
   (AE rfl (CC (DA Cf rfl (LL rfl DJ (A0 (AY Ax (DT (A0 AA (A0 AA (A0 AA (A0 AA (A0 AA (A0 AA (A0 AA A6)))))))) (Ae CL hr (A0 (qv 0) (A0 AA A6)))) A6)) (Bw 7 Fw.nd) (AE rfl (Ai 8 Fw.nd (AY Ax (DT (A0 BD (A0 BD (A0 BD (A0 BD A6))))) (Ae CL hr (A0 (qv 0) (A0 AA A6)))))
   (AE rfl (Ai 9 Fw.nd (Ae CL hr (A0 (qv 0) (A0 (qv 1) A6))))
   (AE rfl (CC (Bc (BI Rj (qv 3) AA) (AK rfl (Ai 9 Fw.nd (Ap Ed (Ap Ed (qv 5) AA) (Ap HY (qv 9) (Bh (Uo rfl) Dc (A0 AA (A0 (Ap MI (Ap MI (qv 1) AA) (qv 5)) A6))))))) BW))
   (AK rfl (Bc (BI Rj (qv 9) (qv 1)) (AK rfl (D7 (EZ Ef RJ RK NG (qv 6) (A0 (DT (A0 (qv 8) (A0 (AY Ca (qv 2) (qv 9)) A6))) A6)))) BW)))))))
   (AK rfl (D7 (EZ Ef ZAH PySem.F.type_list_insert zd (qv 4) (A0 (Ae CL hr (A0 (qv 0) (A0 (Ap Ed (qv 5) AA) A6))) (A0 (DT (A0 (AY Ca (qv 2) (qv 5)) (A0 (Dh JI Bt (A0 (qv 6) A6)) (A0 (NJ Fb (Ae CL hr (A0 (qv 0) (A0 AA A6))) AA) A6)))) A6)))))))))
   (AK rfl (B5 (qv 4)))))))),?_⟩
 refine Fz.By h Zp ?_;rintro _ _ ⟨rfl,rfl⟩;show Ws [_,.any,.any,.any,.any,.any,.any,.any,.any,.any] _ _ _
 walk_at "ww"
 refine ⟨by decide,by decide,fun r a1 b1=>⟨_,rfl,?_⟩⟩;obtain ⟨m0,rfl⟩:=Wd a1;refine AU (Ez (pK rfl (A5 rfl ⟨_,rfl,by omega,by omega,fun ws hl hN nd=>?_⟩)));refine Ho 2 rfl ?_
 walk_at "ww"
 refine ⟨by decide,by decide,fun sh s0 s1=>?_⟩
 walk_at "ww"
 refine ⟨by decide,?_⟩;refine AU (Dt (E1 (fun _ i A7=>∃ (ks:List Kd) (s5 s6 s7 s8 s9:Slot),A7=[.AQ,.is (.int (1+(m0:Int))),.is (.lst (ws.map .str)),.is (.int sh),.own (ks.map Kd.P),s5,s6,s7,s8,s9]/\(wk ks).Perm (ws.take i)/\∀ k∈ks,k.ps.length<=6/\∀ p∈k.ps,p.1∈WH/\p.2∈ws) ?_))
 walk_at "ww"
 rw [Gx];refine ⟨by omega,by omega,⟨[],_,_,_,_,_,rfl,.refl _,fun k hk=>absurd hk Aa⟩,?_,?_⟩
 ·rintro k p A7 hp ⟨ks,s5,s6,s7,s8,s9,rfl,lk,ok⟩;obtain ⟨hk,rfl⟩:=Rn hp;have sR:=lk.length_eq;rw [A9,D4] at sR;refine Ey ?_
  walk_at "ww"
  refine ⟨by decide,?_⟩;refine AU (Dt (E1 (fun _ j A7=>∃ (qs:List (Str×Str)) (s7 s8 s9:Slot),A7=[.AQ,.is (.int (1+(m0:Int))),.is (.lst (ws.map .str)),.is (.int sh),.own (ks.map Kd.P),.is (.int k),.own (qs.map Ar),s7,s8,s9]/\qs.length<=j/\∀ q∈qs,q.1∈WH/\q.2∈ws) ?_))
  walk_at "ww"
  refine ⟨by decide,_,.inr ⟨rfl,rfl,?_⟩⟩
  walk_at "ww"
  refine ⟨by decide,by decide,fun t t0 t1=>?_⟩;obtain ⟨m,hm,lm⟩:=yW t0 t1;refine ⟨_,_,rfl,hm,_,rfl,by omega,by omega,?_⟩;rw [Gx,HE];refine ⟨⟨[],_,_,_,rfl,Aj _,fun q hq=>absurd hq Aa⟩,?_,?_⟩
  ·rintro j p A7 hp ⟨qs,s7,s8,s9,rfl,lq,oq⟩;obtain ⟨hj,rfl⟩:=Rn hp;refine Ey ?_
   walk_at "ww"
   refine ⟨by decide,_,.inr ⟨rfl,rfl,?_⟩⟩
   walk_at "ww"
   refine ⟨by decide,by decide,fun t2 a2 b2=>?_⟩;obtain ⟨wh,uX,oE⟩:=wY a2 b2;refine ⟨_,_,rfl,oE,?_⟩
   walk_at "ww"
   refine ⟨by omega,cv (by omega),fun kd a3 b3=>?_⟩;refine pd (fun A7=>∃ kd:Int,A7=[.AQ,.is (.int (1+(m0:Int))),.is (.lst (ws.map .str)),.is (.int sh),.own (ks.map Kd.P),.is (.int k),.own (qs.map Ar),.is (.int j),.is (.str wh),.is (.int kd)]/\0<=kd) ?_ ?_
   ·walk_at "ww"
    refine CM (fun c=>?_) (fun c=>C0 ⟨kd,rfl,a3⟩)
    walk_at "ww"
    have Xt:0<(if 1+(m0:Int) - 1 - k > 1 then 1+(m0:Int) - 1 - k else 1):=by split <;> omega
    have ZAQ:=JM kd (Int.ne_of_gt Xt);exact ⟨Xt,_,rfl,_,rfl,by omega⟩
   rintro _ ⟨kd,rfl,k0⟩
   walk_at "ww"
   refine CM (fun c=>?_) (fun c=>C0 ⟨qs,_,_,_,rfl,by omega,oq⟩);have c':=i8 c;obtain ⟨kn,rfl⟩:=Wd k0;have QP:kn<ws.length:=by omega
   have aK:L2.Ba (ws.map PV.str) (kn:Int)=some (.str ws[kn]):=L9 (by omega) (by rw [HE,AV,AR QP];rfl);refine Ur rfl (Ej ?_)
   walk_at "ww"
   refine ⟨_,_,rfl,aK,?_⟩
   walk_at "ww"
   refine ⟨by show 2<=100000;decide,by rw [A9];omega,qs++[(wh,ws[kn])],.is (.int j),.is (.str wh),.is (.int kn),?_,?_,?_⟩
   ·rw [CO];rfl
   ·rw [Bo,IF];omega
   ·intro q hq;rcases List.mem_append.mp hq with z | z
    ·exact oq q z
    ·rw [List.mem_singleton.mp z];exact ⟨uX,Fq QP⟩
  ·rintro A7 ⟨qs,s7,s8,s9,rfl,lq,oq⟩;have d7:k<ws.length:=by omega
   have aK:L2.Ba (ws.map PV.str) (k:Int)=some (.str ws[k]):=L9 (by omega) (by rw [HE,AV,AR d7];rfl);refine Z4 rfl ?_
   walk_at "ww"
   refine ⟨by omega,cv (by omega),fun t9 a9 b9=>⟨_,rfl,a9,by rw [A9];omega,?_⟩⟩;refine Ej ?_
   walk_at "ww"
   refine ⟨_,_,rfl,aK,?_⟩
   walk_at "ww"
   refine ⟨by decide,by decide,fun r2 a2 b2=>?_⟩
   walk_at "ww"
   refine ⟨by show 3<=100000;decide,by rw [A9];omega,ks.take t9.toNat++⟨ws[k],qs,alike (.int r2) (.int 1)⟩ :: ks.drop t9.toNat,.is (.int k),.own (qs.map Ar),s7,s8,s9,?_,?_,?_⟩
   ·rw [<- Wy,<- gK,CO];rfl
   ·rw [OE d7];show (List.map Kd.w (_++_::_)).Perm _;rw [CO,Ac,Wy,gK];refine (List.perm_middle.trans (List.Perm.cons _ ?_)).trans (List.perm_append_comm (l₁:=[ws[k]]));rw [List.take_append_drop];exact lk
   ·intro kk zX;rcases List.mem_append.mp zX with z | z
    ·exact ok kk (X0 z)
    ·rcases List.mem_cons.mp z with z | z
     ·rw [z];exact ⟨by show qs.length<=6;omega,oq⟩
     ·exact ok kk (List.mem_of_mem_drop z)
 ·rintro A7 ⟨ks,s5,s6,s7,s8,s9,rfl,lk,ok⟩;refine Ho 4 rfl ?_;have PY:(wk ks).Perm ws:=by
   have e:ws.take (1+(m0:Int)).toNat=ws:=Kc (by omega);rw [e] at lk;exact lk
  have ll:=PY.length_eq;rw [A9] at ll;refine Dw (A5 rfl ⟨ks,rfl,by omega,by omega,PY.nodup_iff.mpr nd,fun k hk=>hN _ (PY.mem_iff.mp (List.mem_map.mpr ⟨k,hk,rfl⟩)),fun k hk=>⟨(ok k hk).1,fun p hp=>⟨((ok k hk).2 p hp).1,PY.mem_iff.mpr ((ok k hk).2 p hp).2⟩⟩⟩)
def nv:B6 ["words","word"] ["words","word"] (AZ WI):=by walk_at "z1"
def aB : ∀ ss R,Ll ss R->ss.length=2:=by rintro _ _ ⟨ws,d,x,rfl,_,_,_,rfl⟩;rfl
def yp (F:AO K "check_word" "check_word" WI f fd)(m:mg "check_word"=some (.ref f)):
  AB P w K mg base "check_word" 1 ["words","word"] (AN Ll):=by
 refine AB.mk F (F.binds (by walk_at "bD2")) m (F.BE (k:=0) nv (fun vs H Q E h=>Fz.Bv aB h) (fun Ab A outer s H vs Q E hr h=>?_))
 refine ⟨_,(AK rfl (Bc (yg (sE (Cb hr) (qv 1) (qv 0)) (dI OR (qv 1) (qv 0) (by with_unfolding_all rfl))) (AK rfl Hn) BW)),?_⟩;refine Fz.By h aB ?_;rintro _ _ ⟨ws,d,x,rfl,hd,hz,hx,rfl⟩;show Ws [_,_] _ _ _;refine D3 ?_;rcases hd with rfl | ⟨xs,rfl⟩
 ·refine j5 (CJ (ar (A5 rfl ⟨x,rfl,Ck rfl ⟨_,rfl,?_⟩⟩)));refine ⟨_,rfl,CN ?_ (C0 ⟨_,rfl,rfl⟩)⟩;rw [hJ hx];decide
 ·refine vz (Er (jO (A5 rfl (A5 rfl ⟨_,_,.inr x,rfl,rfl,_,rfl,?_⟩))));rw [Ko,hJ hx];exact CN (by decide) (C0 ⟨_,rfl,rfl⟩)
def XU:B6 ["words","puts","put"] ["words","puts"] (AZ Se):=by walk_at "z1"
def Z2 : ∀ ss R,UZ ss R->ss.length=2:=by rintro _ _ ⟨ws,ps,rfl,_,_,rfl⟩;rfl
def ud (F:AO K "check_puts" "check_puts" Se f fd)(m:mg "check_puts"=some (.ref f)):
  AB P w K mg base "check_puts" 2 ["words","puts"] (AN UZ):=by
 refine AB.mk F (F.binds (by walk_at "bD2")) m (F.BE (k:=1) XU (fun vs H Q E h=>Fz.Bv Z2 h) (fun Ab A outer s H vs Q E hr h=>?_))
 refine ⟨_,(AK rfl (DA Cf rfl (Bf (qv 1)) (Bw 2 XU.nd) (AE rfl (Bc (BI OR (AY Ax (qv 2) AA) (Hr (v:=.ref Io) (by rfl) Rg rfl)) (AK rfl Hn) BW)
   (AK rfl (D7 (Ae FY hr (A0 (qv 0) (A0 (AY Ax (qv 2) AA) A6)))))))),?_⟩
 refine Fz.By h Z2 ?_;rintro _ _ ⟨ws,ps,rfl,hz,hp,rfl⟩;show Ws [_,_,.any] _ _ _;have C:FX K Io (WH.map .str):=FX.of Uh rfl rfl;refine E1 (fun _ i A7=>∃ s2:Slot,A7=[.is (.lst (ws.map .str)),.is (.lst (ps.map Ar)),s2]) ?_
 walk_at "ww"
 refine ⟨⟨_,rfl⟩,?_,?_⟩
 ·rintro k p A7 hq ⟨s2,rfl⟩;rw [AV] at hq;obtain ⟨q,ex,rfl⟩:=Option.map_eq_some_iff.mp hq;refine Ey ?_;have sq:=hp q (C2 ex);refine AU (D3 (CJ (Qo (neg:=true) C (BA (BG rfl ⟨rfl,Aq ⟨_,_,rfl,rfl,q.1,rfl,_,rfl,?_⟩⟩)))));rw [hJ sq.1];refine CN (by decide) (C0 ?_);refine HQ (wp_call (AW (A5 rfl (AW (BA (BG rfl ⟨rfl,Aq ⟨_,_,rfl,rfl,Ay ⟨_,⟨ws,_,q.2,rfl,.inl rfl,hz,sq.2,rfl⟩,?_⟩⟩⟩))))));rintro _ rfl;exact ⟨_,rfl⟩
 ·rintro A7 ⟨s2,rfl⟩;exact ⟨_,rfl,rfl⟩
def kX:B6 ["text"] ["text"] (AZ Qs):=by walk_at "z1"
def yf:Scope:={ kind:=.function,names:=[(".0", .local),("sign", .local),("LETTERS", .globalImplicit)],isGenerator:=false,isCoroutine:=false,more:=[] }
def nP:CK ["text"] (AZ Qs) yf "sign" [] []:=by walk_at "z2"
def md (F:AO K "is_name" "is_name" Qs f fd)(m:mg "is_name"=some (.ref f)):
  AB P w K mg base "is_name" 1 ["text"] (Rf):=by
 refine AB.mk F (F.binds (by walk_at "bD1")) m (F.BE (k:=0) kX (fun vs H Q E h=>?_) (fun Ab A outer s H vs Q E hr h=>?_))
 ·obtain ⟨x,rfl,hx,q⟩:=h;rfl
 obtain ⟨x,rfl,hx,q⟩:=h;refine ⟨_,(AK rfl (B5 (cg (vd Og Og AA (Bh dy B9 (A0 (qv 0) A6)) (Hr (v:=.int 8) (by rfl) U7 ⟨_,rfl⟩)) (bM (Bh (YK rfl) Ls (A0 (ER rfl nP (pU (qv 0)) (fun _ _ _ _=>by exact Dm) (fun _ _ _ _=>by exact (NJ yA (qv 0) (Hr (v:=.str "abcdefghijklmnopqrstuvwxyz") (by rfl) UK ⟨_,rfl⟩)))) A6)))))),?_⟩;refine ⟨_,rfl,_,rfl,small (by omega),_,_,rfl,rfl,_,rfl,?_⟩;refine CM (fun c=>?_) (fun c=>⟨_,rfl,TM ?_⟩)
 ·refine ⟨_,_,rfl,rfl,_,rfl,?_⟩;refine CM (fun c2=>?_) (fun c2=>?_)
  ·refine ⟨_,rfl,x,rfl,fun acc Aw=>pF (fun _=>true) Xc Aw (by rw [<- WX,<- HB];exact small (by omega)) (fun i v H' Q' _ _ h=>h H' (AJ.refl _)) (fun i v H' Q' hv _ _ h=>?_) (fun H' s1 e1=>?_)⟩
   ·obtain ⟨cc,rfl⟩:=signs_get hv;exact ⟨_,rfl,_,_,rfl,rfl,h H' (AJ.refl _)⟩
   ·rw [uO] at e1;refine ⟨acc,_,rfl,AI.of e1,?_⟩;rw [all_map];have e:isNm x=x.cps.toList.all Qx:=by unfold isNm;rw [c,c2];rfl
    rw [<- e];exact q H' s1
  ·have e:isNm x=false:=by unfold isNm;rw [Bool.eq_false_iff.mpr c2];simp
   rw [<- e];exact q H (AJ.refl _)
 ·have e:isNm x=false:=by unfold isNm;rw [Bool.eq_false_iff.mpr c];simp
  rw [<- e];exact q H (AJ.refl _)
def N2:B6 ["kinds","words","number","kind"] ["kinds"] (AZ OM):=by walk_at "z1"
def qU:Scope:={ kind:=.function,names:=[(".0", .local),("kind", .local)],isGenerator:=false,isCoroutine:=false,more:=[] }
def k8:CK ["kinds","words","number","kind"] (AZ OM) qU "kind" [] []:=by walk_at "z2"
def ax : ∀ ss R,WB ss R->ss.length=1:=by rintro _ _ ⟨ks,rfl,_,rfl⟩;rfl
def sZ (F:AO K "check_kinds" "check_kinds" OM f fd)(m:mg "check_kinds"=some (.ref f)):
  AB P w K mg base "check_kinds" 3 ["kinds"] (AN WB):=by
 refine AB.mk F (F.binds (by walk_at "bD1")) m (F.BE (k:=2) N2 (fun vs H Q E h=>Fz.Bv ax h) (fun Ab A outer s H vs Q E hr h=>?_))
 refine ⟨_,(AE rfl (Bc (GX (pN Og Og AA (Bh Gd B9 (A0 (qv 0) A6)) (Hr (v:=.int 8) (by rfl) TX ⟨_,rfl⟩))) (AK rfl Hn) BW)
   (AE rfl (Ql (i:=1) N2.nd rfl (Or.inl rfl) rfl k8 (Bf (qv 0)) (fun _ _ _ _=>by exact Dm) (fun _ _ _ _=>by exact (AY (show Cc _ (Di K) from Ax) (qv 0) AA)))
   (AE rfl (CC (DA Cf rfl (XT rfl M0 (A0 (qv 0) A6)) (Ki rfl (FA (Bw 2 N2.nd) (FA (Bw 3 N2.nd) Ln))) (AE rfl (Bc (GX (Gm (Ae Sa hr (A0 (AY Ax (qv 3) AA) A6)))) (AK rfl Hn) BW)
   (AE rfl (Bc (BI GD (AY Ax (qv 3) AA) (Nh SH (qv 1) MG (Na (qv 2)))) (AK rfl Hn) BW)
   (AK rfl (Bc (BI Pd (Bh Gd B9 (A0 (AY Ax (qv 3) AA) A6)) (Hr (v:=.int 6) (by rfl) Vj ⟨_,rfl⟩)) (AK rfl Hn) BW))))))
   (AK rfl (DA Cf rfl (Bf (qv 0)) (Bw 3 N2.nd) (AK rfl (D7 (Ae RM hr (A0 (qv 1) (A0 (AY Ax (qv 3) AA) A6)))))))))),?_⟩
 refine Fz.By h ax ?_;rintro _ _ ⟨ks,rfl,g,rfl⟩;show Ws [_,.any,.any,.any] _ _ _;have l1:=g.l1;have l8:=g.l8
 walk_at "ww"
 rw [A9];refine J3 (hJ (by omega)) ?_;refine Aq ⟨_,rfl,_,rfl,?_⟩;rw [hJ (show (ks.length:Int)<=8 by omega)];refine CN (by decide) (C0 ?_);refine AU (Ez (Dg Ea (fun _=>true) (fun k=>PV.str k.w) (CF (Bp (A5 rfl ⟨_,.inl ⟨rfl,ks,rfl,by omega,fun k _=>Du rfl,fun k _ _=>BA (BG rfl ⟨rfl,Aq ⟨_,_,rfl,rfl,rfl⟩⟩),?_⟩⟩))) jz));rw [List.filter_eq_self.mpr fun _ _=>rfl];refine Ho 1 rfl ?_;have ew:(ks.map fun k=>PV.str k.w)=(wk ks).map PV.str:=by rw [CP];rfl
 rw [ew];show Ws [.is (.lst (ks.map Ea)),.is (.lst ((wk ks).map .str)),.any,.any] _ _ _;refine AU (Dt (E1 (fun _ i A7=>∃ s2 s3:Slot,A7=[.is (.lst (ks.map Ea)),.is (.lst ((wk ks).map .str)),s2,s3]) (Y5 (Bp (A5 rfl ⟨_,.inl ⟨rfl,rfl,⟨_,_,rfl⟩,?_,?_⟩⟩)))))
 ·rintro i q A7 hq ⟨s2,s3,rfl⟩;obtain ⟨x0,hx,rfl⟩:=eY hq;rw [AV] at hx;obtain ⟨k,ex,rfl⟩:=Option.map_eq_some_iff.mp hx;have hi:=(List.getElem?_eq_some_iff.mp ex).1;have km:=C2 ex;refine Ni ⟨_,_,rfl,?_⟩
  walk_at "ww"
  refine wZ (BA (BG rfl ⟨rfl,Aq ⟨_,_,rfl,rfl,k.w,rfl,Em (g.nm k km).2.1 (by decide),_,rfl,?_⟩⟩));rw [xf (g.nm k km)];refine CN (by decide) (C0 ?_)
  walk_at "ww"
  rw [show EU (wk ks) none (some (i:Int))=(wk ks).take i from kB (by rw [A9];omega)];refine CN (fun c=>?_) (C0 ?_)
  ·obtain ⟨j,hj,ej⟩:=E4 (i8 c);rw [D4,A9] at hj;rw [Kb] at ej;have q:=List.pairwise_iff_getElem.mp g.nd j i (by rw [A9];omega) (by rw [A9];exact hi) (by omega);refine q (ej.trans ?_);rw [OD,(List.getElem?_eq_some_iff.mp ex).2]
  refine D3 (CJ (cw (Lx (BH (BA (BG rfl ⟨rfl,Aq ⟨_,_,rfl,rfl,_,.inl ⟨rfl,?_⟩⟩⟩))))))
  walk_at "ww"
  rw [A9];refine CN (fun c=>?_) (C0 ⟨_,_,rfl⟩);have:=i8 c;have:=(g.ps k km).1;omega
 ·rintro A7 ⟨s2,s3,rfl⟩;refine E1 (fun _ i A7=>∃ s2 s3:Slot,A7=[.is (.lst (ks.map Ea)),.is (.lst ((wk ks).map .str)),s2,s3]) ?_
  walk_at "ww"
  refine ⟨⟨_,_,rfl⟩,?_,?_⟩
  ·rintro i p A7 hp ⟨s2,s3,rfl⟩;rw [AV] at hp;obtain ⟨k,ex,rfl⟩:=Option.map_eq_some_iff.mp hp;have km:=C2 ex;refine Ey ?_;refine HQ (wp_call (AW (A5 rfl (AW (BA (BG rfl ⟨rfl,Aq ⟨_,_,rfl,rfl,Ay ⟨_,⟨wk ks,k.ps,rfl,by rw [A9];omega,(g.ps k km).2,rfl⟩,?_⟩⟩⟩))))));rintro _ rfl;exact ⟨_,_,rfl⟩
  ·rintro A7 ⟨s2,s3,rfl⟩;exact ⟨_,rfl,rfl⟩
def cU:B6 ["self","kinds","kind"] ["self","kinds"] (AZ U4):=by walk_at "z1"
def aH:∀ ss R,(UJ A4) ss R->ss.length=2:=by rintro _ _ ⟨dx,a,ks,rfl,_,rfl⟩;rfl
def uN (F:AO K "__init__" "Errands.__init__" U4 f fd)(mt:Mk K A4 f):
  W8 P w K mg base A4 4 ["self","kinds"] (DS (UJ A4)):=by
 refine ⟨f,fd,F.BE (k:=3) cU (fun vs H Q E h=>Fz.SA aH h) (fun Ab A outer s H vs Q E hr h=>?_),(F.binds (by walk_at "bD2")),mt⟩
 refine ⟨_,(AE rfl (D7 (Ae TQ hr (A0 (qv 1) A6)))
   (AE rfl (bb (qv 0) Kl)
   (AE rfl (bb (qv 0) Kl)
   (AK rfl (DA Cf rfl (Bf (qv 1)) (Bw 2 cU.nd) (AE rfl (J9 (Cb hr) (Jj (qv 0)) (AY Ax (qv 2) AA) (Dh JI Bt (A0 (AY Ax (qv 2) AA) A6)))
   (AK rfl (J9 (Cb hr) (Jj (qv 0)) (AY Ax (qv 2) AA) (AY Ax (qv 2) AA))))))))),?_⟩
 refine Fz.lN h aH ?_;rintro _ _ ⟨dx,a,ks,rfl,g,rfl⟩;show Ws [_,_,.any] _ _ _;refine AU (HQ (wp_call (AW (A5 rfl (Ay ⟨_,⟨ks,rfl,g,rfl⟩,?_⟩)))));rintro _ rfl;refine AU (aO (i:=0) (Lg fun b1=>Gh rfl ⟨true,A4,dx,[],a,[],rfl,rfl,D8,G9,by decide,Aa,?_⟩));rw [OV.Gq];show Ws [.ow true (.nd (.obj A4 dx ["puts_by_word"]) a [.nd (.Ah []) b1 []]),.is (.lst (ks.map Ea)),.any] _ _ _;refine AU (aO (i:=0) (Lg fun b2=>Gh rfl ⟨true,A4,dx,_,a,_,rfl,rfl,D8,JH,by decide,Aa,?_⟩));rw [OV.Gq];have l8:=g.l8;refine E1 (fun _ i A7=>∃ (s2:Slot),A7=[.ow true (Hx A4 dx a b1 b2 (ks.take i)),.is (.lst (ks.map Ea)),s2]) ?_
 walk_at "ww"
 refine ⟨⟨_,rfl⟩,?_,?_⟩
 ·rintro i p A7 hp ⟨s2,rfl⟩;rw [AV] at hp;obtain ⟨k,ex,rfl⟩:=Option.map_eq_some_iff.mp hp;have hi:=(List.getElem?_eq_some_iff.mp ex).1;have nk:k.w∉wk (ks.take i):=fun m=>by
   obtain ⟨j,hj,ej⟩:=E4 m;rw [A9,D4] at hj;rw [OD,Kb] at ej;have q:=List.pairwise_iff_getElem.mp g.nd j i (by rw [A9];omega) (by rw [A9];exact hi) (by omega);refine q ?_;rw [OD,OD,ej,(List.getElem?_eq_some_iff.mp ex).2]
  have E2:(wk (ks.take i)).Nodup:=by
   rw [show wk (ks.take i)=(wk ks).take i from Wy];exact g.nd.sublist (ZA6 _ _)
  refine Ey ?_;refine AU (Qd (i:=0) (t:=Hx A4 dx a b1 b2 (ks.take i)) (HA (IW rfl (BH (BA (BG rfl ⟨rfl,Aq ⟨_,_,rfl,rfl,_,.inl ⟨rfl,?_⟩⟩⟩))))));refine Xi (Gh rfl ⟨A4,dx,_,a,_,0,_,rfl,D8,G9,rfl,rfl,true,b1,_,_,rfl,rfl,by rw [A9,D4];omega,Mu E2,Aa,BA (BG rfl ⟨rfl,Aq ⟨_,_,rfl,rfl,.inr k.w,rfl,?_⟩⟩)⟩);rw [M9,MU nk,Ol nk];unfold Hx;rw [OV.Jx (show _=some _ from rfl),OV.Gq];refine Qd (i:=0) (t:=.nd (.obj A4 dx Ds) a [.nd (.Ah (Ad (wk (ks.take i)++[k.w]))) b1 ((ks.take i).map (fun k=>.fz (.tup (k.ps.map Ar)))++[.fz (.tup (k.ps.map Ar))]),.nd (.Ah (Ad (wk (ks.take i)))) b2 ((ks.take i).map fun k=>.fz (.bl k.g))]) (HA (BA (BG rfl ⟨rfl,Aq ⟨_,_,rfl,rfl,?_⟩⟩)));refine Xi (Gh rfl ⟨A4,dx,_,a,_,1,_,rfl,D8,JH,by decide +kernel,rfl,true,b2,_,_,rfl,rfl,by rw [A9,D4];omega,Mu E2,Aa,BA (BG rfl ⟨rfl,Aq ⟨_,_,rfl,rfl,.inr k.w,rfl,?_⟩⟩)⟩);rw [M9,MU nk,Ol nk,OV.Jx (show _=some _ from rfl),OV.Gq];refine ⟨.is (Ea k),?_⟩;rw [Fo ex];simp only [wk,CO,Ac,Ek];rfl
 ·rintro A7 ⟨s2,rfl⟩;rw [A9,Ee];exact ⟨_,_,_,_,rfl,rfl,rfl,b1,b2,rfl⟩
def LV:B6 ["kinds","handed","book","word","puts","goes"] ["kinds"] (AZ QH):=by walk_at "z1"
def yr:Scope:={ kind:=.function,names:=[(".0", .local),("word", .local),("puts", .local),("goes", .local),("list", .globalImplicit)],isGenerator:=false,isCoroutine:=false,more:=[] }
def jH:Hm ["kinds","handed","book","word","puts","goes"] (AZ QH) yr ["word","puts","goes"] [] []:=⟨rfl,by decide +kernel,by decide +kernel,by decide +kernel,rfl,by decide +kernel,by decide +kernel,by decide +kernel,by decide +kernel⟩
def fX:∀ ss R,(SU A4) ss R->ss.length=1:=by rintro _ _ ⟨ks,rfl,_,rfl⟩;rfl
def o6 (F:AO K "_law_book" "_law_book" QH f fd)(m:mg "_law_book"=some (.ref f)):
  AB P w K mg base "_law_book" 6 ["kinds"] (AN (SU A4)):=by
 refine AB.mk F (F.binds (by walk_at "bD1")) m (F.BE (k:=5) LV (fun vs H Q E h=>Fz.Bv fX h) (fun Ab A outer s H vs Q E hr h=>?_))
 refine ⟨_,(AE rfl (nL (i:=1) LV.nd rfl (Or.inl rfl) rfl jH (.cons (.cons (.cons .nil))) (fun _=>rfl) (fun _=>rfl) (Bf (qv 0)) (fun _ _ _ _=>by exact Dm) (fun _ _ _ _=>by exact (DT (A0 (qv 0) (A0 (Dh (show C3 _ (.type "list") (Fz.TZ K) from Fz.YQ) Cu (A0 (qv 1) A6)) (A0 (qv 2) A6))))))
   (AE rfl (Ai 2 LV.nd (yT Vo hr (by decide) Ux (A0 (qv 1) A6)))
   (AE rfl (CC (DA Cf rfl (qM (qv 1)) (Ki rfl (FA (Bw 3 LV.nd) (FA (Bw 4 LV.nd) (FA (Bw 5 LV.nd) Ln)))) (AK rfl (D7 (EZ Ef RJ RK NG (qv 4) (A0 (DT (A0 BD (A0 (qv 3) A6))) A6))))))
   (AE rfl (D7 (YJ Ef PySem.F.slot_list_clear PySem.F.type_list_clear wG (qv 1)))
   (AK rfl (B5 (qv 2))))))),?_⟩
 refine Fz.By h fX ?_;rintro _ _ ⟨ks,rfl,g,rfl⟩;show Ws [_,.any,.any,.any,.any,.any] _ _ _;have l8:=g.l8;refine AU (Ja (yL (fun x u=>∃ (k:Kd) (b:Addr),x=k.P/\u=.tp [.fz (.str k.w),.nd .lst b ((k.ps.map Ar).map .fz),.fz (.bl k.g)]) (CF (Bp (A5 rfl ⟨_,.inl ⟨rfl,by rw [A9];omega,fun x hx=>?_,fun l us hl hG=>?_⟩⟩)))))
 ·obtain ⟨k,km,rfl⟩:=List.mem_map.mp hx;refine ⟨_,rfl,rfl,Du rfl,?_⟩;refine nH (L3 (HA (A5 rfl (L3 (va (Kp rfl (BG rfl fun b=>L3 (HA (A5 rfl (bx ⟨fun _ h=>absurd h Aa,fun _ h=>absurd h Aa,fun _ h=>absurd h Aa,by show 3<=100000;decide,rfl,k,b,rfl,rfl⟩))))))))))
 have NP:∃ bs:List Addr,bs.length=ks.length/\us=De ks bs:=Xd hl hG;obtain ⟨bs,lb,rfl⟩:=NP;show Ws [.is (.lst (ks.map Kd.P)),.ow false (.nd .lst l (De ks bs)),.any,.any,.any,.any] _ _ _;refine AU (Ja (mz ?_));show Wx [.is (.lst (ks.map Kd.P)),.is (OV.nd .lst l (De ks bs)).pv,.any,.any,.any,.any] _ _;refine u7 (yO (A5 rfl (MD fun x dx=>⟨_,⟨dx,x,ks,by rw [uP ks bs l lb],g,rfl⟩,?_⟩)));rintro _ _ ⟨rfl,b1,b2,rfl⟩;refine ⟨rfl,_,_,rfl,rfl,jS _ _ _ _ _ _,?_⟩;show Ws [.is (.lst (ks.map Kd.P)),.ow false (.nd .lst l (De ks bs)),.ow false (Hx A4 dx x b1 b2 ks),.any,.any,.any] _ _ _;refine WK 2 rfl ?_;rw [nD];show Ws [.is (.lst (ks.map Kd.P)),.ow false (.nd .lst l (De ks bs)),.is (BS A4 ks),.any,.any,.any] _ _ _;refine AU (Dt (pJ (i:=1) (a0:=l) ks.length (fun n A7=>∃ (us:List OV) (s3 s4 s5:Slot),A7=[.is (.lst (ks.map Kd.P)),.ow false (.nd .lst l us),.is (BS A4 ks),s3,s4,s5]/\us.length=ks.length/\∀ (j:Nat) u,us[j]?=some u->∃ (k:Kd) (b:Addr) (qs:List PV),u=.tp [.fz (.str k.w),.nd .lst b (qs.map .fz),.fz (.bl k.g)]/\qs.length<=7/\(n<=j->qs.length<=6)) ⟨_,_,_,_,rfl,Zt ks bs lb,fun j u hu=>?_⟩ (fun n A7 hn hI=>?_) ?_))
 ·obtain ⟨k,b,km,rfl⟩:=aG ks bs lb hu;have:=(g.ps k km).1;exact ⟨k,b,_,rfl,by rw [A9];omega,fun _=>by rw [A9];exact this⟩
 ·obtain ⟨us,s3,s4,s5,rfl,hl,hu⟩:=hI;refine ⟨false,us,rfl,hl,fun AM=>?_⟩;obtain ⟨u,eu⟩:∃ u,us[n]?=some u:=⟨_,AR (by omega)⟩;obtain ⟨k,b,qs,rfl,h7,h6⟩:=hu n u eu;have h6:=h6 (Aj _);refine ⟨_,eu,qP ?_⟩;show Ws [.is (.lst (ks.map Kd.P)),.ow false (.nd .lst l us),.is (BS A4 ks),.is (.str k.w),.raw (ptr b),.is (.bl k.g)] _ _ _;have at':(OV.nd .lst l us).at [n,1]=some (.nd .lst b (qs.map .fz)):=by rw [OV.Kt,eu];show OV.at _ [1]=_;rw [OV.Nf];show OV.at _ []=_;rw [OV.Iu]
  refine r9 (i:=1) (xX (j:=4) (p:=[n,1]) rfl rfl at' ⟨false,b,_,rfl,rfl,by rw [A9];omega,HA (Ej (Bm (EW (Bm (A5 rfl (Df ⟨by show 2<=100000;decide,?_⟩))))))⟩);refine ⟨Aa,us.set n (.tp [.fz (.str k.w),.nd .lst b ((qs++[PV.tup [.str "first", .str k.w]]).map .fz),.fz (.bl k.g)]),.is (.str k.w),.raw (ptr b),.is (.bl k.g),?_,by rw [JO];exact hl,fun j u hj=>?_⟩
  ·rw [OV.Jx eu,OV.Ml (show _=some _ from rfl),OV.Gq,CO];rfl
  ·by_cases c:j=n
   ·subst c;rw [DG (by omega)] at hj;cases hj;exact ⟨k,b,_,rfl,by rw [Bo];show _+1<=_;omega,fun z=>by omega⟩
   ·rw [Cs (Bj c)] at hj;obtain ⟨k',b',vQ,e,h1,h2⟩:=hu j u hj;exact ⟨k',b',vQ,e,h1,fun z=>h2 (by omega)⟩
 ·rintro A7 ⟨us,s3,s4,s5,rfl,hl,hu⟩;refine AU (mG (i:=1) (Gh rfl ⟨false,l,us,rfl,rfl,?_⟩));exact Dw (A5 rfl rfl)
def Ny:B6 ["script","k","cell","rest_here"] ["script","k"] (AZ Ui):=by walk_at "z1"
def kH (F:AO K "_law_pot" "_law_pot" Ui f fd)(m:mg "_law_pot"=some (.ref f)):
  AB P w K mg base "_law_pot" 1 ["script","k"] (PR K):=by
 refine AB.mk F (F.binds (by walk_at "bD2")) m (F.BE (k:=0) Ny (fun vs H Q E h=>?_) (fun Ab A outer s H vs Q E hr h=>?_))
 ·obtain ⟨a,ns,k,rfl,hS,k0,k1,q⟩:=h;rfl
 obtain ⟨a,ns,k,rfl,hS,k0,k1,q⟩:=h;refine ⟨_,(AE rfl (Ai 2 Ny.nd AA)
   (AE rfl (CC (Bc (BI Rj (qv 1) (Bh P2 B9 (A0 (qv 0) A6))) (AK rfl (Ai 2 Ny.nd (Ap HY (AY Ca (qv 0) (qv 1)) (Ap Hg (Ap Hg (Ap Hg (Ap L8 AA AA) (Ap L8 AA AA)) (Ap L8 AA AA)) (Ap L8 AA AA))))) BW))
   (AE rfl (Ai 3 Ny.nd AA)
   (AE rfl (CC (Bc (BI sf (qv 2) (Ap L8 AA AA)) (AK rfl (Ai 3 Ny.nd (qv 2))) BW))
   (AK rfl (B5 (EK (A0 (qv 3) (A0 (Ap HY (Ap Hg (Ap Ed (Ap Ed (Ap HY (qv 2) AA) (Ap Hg AA (qv 1))) AA) AA) AA) A6))))))))),?_⟩
 have hl:(ns.map V.int).length=ns.length:=A9 _;refine ⟨fun σ' H'=>∃ c:Int,σ'=[some (.ref a),some (.int k),some (.int c),none]/\H=H'/\0<=c/\c<10 ^ 256,?_,?_⟩
 ·refine ⟨_,rfl,_,rfl,a,_,rfl,.inl hS,_,_,rfl,rfl,_,rfl,?_⟩;refine CM (fun c=>?_) (fun c=>?_)
  ·have c':k<(((ns.map V.int).length:Nat):Int):=i8 c;rw [hl] at c';have hk:k.toNat<ns.length:=by omega
   have hv:Ba (ns.map V.int) k=some (.int ns[k.toNat]):=L9 k0 (by rw [AV,AR hk] <;> rfl)
   refine ⟨_,rfl,_,rfl,a,_,_,_,rfl,rfl,hS,hv,_,_,rfl,rfl,⟨by decide,by decide,by decide +kernel⟩,_,_,rfl,rfl,⟨by decide,by decide,by decide +kernel⟩,_,_,rfl,rfl,⟨by decide +kernel,by decide +kernel⟩,_,_,rfl,rfl,⟨by decide,by decide,by decide +kernel⟩,_,_,rfl,rfl,⟨by decide +kernel,by decide +kernel⟩,
    _,_,rfl,rfl,⟨by decide,by decide,by decide +kernel⟩,_,_,rfl,rfl,⟨by decide +kernel,by decide +kernel⟩,_,_,rfl,rfl,(by show (0:Int)<_;decide +kernel),?_⟩
   exact ⟨_,rfl,rfl,JM _ (by decide +kernel),Ka _ (by decide +kernel)⟩
  ·exact ⟨0,rfl,rfl,by decide,by decide +kernel⟩
 rintro σ' H' ⟨c,rfl,rfl,c0,c1⟩;refine ⟨fun σ' H'=>∃ d:Int,σ'=[some (.ref a),some (.int k),some (.int c),some (.int d)]/\H=H'/\0<=d/\d<10 ^ 256,?_,?_⟩
 ·refine ⟨_,rfl,_,_,rfl,rfl,⟨by decide,by decide,by decide +kernel⟩,_,_,rfl,rfl,_,rfl,?_⟩;refine CM (fun _=>?_) (fun _=>?_)
  ·exact ⟨_,rfl,c,rfl,rfl,c0,c1⟩
  ·exact ⟨0,rfl,rfl,by decide,by decide +kernel⟩
 rintro σ' H' ⟨d,rfl,rfl,d0,d1⟩;have e0:0<=c % 2147483629:=JM _ (by decide);have e1:c % 2147483629<2147483629:=Ka _ (by decide);refine ⟨_,rfl,_,rfl,_,_,rfl,rfl,(by show (0:Int)<2147483629;decide),_,rfl,_,_,rfl,rfl,⟨by decide +kernel,Lr (by omega) (by omega)⟩,_,_,rfl,rfl,_,_,rfl,rfl,_,_,rfl,rfl,⟨Lr (by omega) (by omega),by decide +kernel⟩,_,_,rfl,rfl,(by show (0:Int)<2147483647;decide),?_⟩;refine ⟨(by show 2<=sizeLine;decide),fun p hp=>?_⟩;exact q p _ hp (D5 hp _) ⟨d,_,Al,d0,d1,JM _ (by decide),Ka _ (by decide)⟩
def Yy:B6 ["pot","kinds","many"] ["pot","kinds"] (AZ Pl):=by walk_at "z1"
def qF:Scope:={ kind:=.function,names:=[(".0", .local),("k", .local),("_law_take", .globalImplicit),("len", .globalImplicit),("kinds", .free),("pot", .free)],isGenerator:=false,isCoroutine:=false,more:=[] }
def qE:CK ["pot","kinds","many"] (AZ Pl) qF "k" ["kinds","pot"] [1,0]:=by walk_at "z2"
def bw : ∀ ss R,Vb ss R->ss.length=2:=by rintro _ _ ⟨ks,rfl,_,rfl⟩;rfl
def gf (F:AO K "_law_crowd" "_law_crowd" Pl f fd)(m:mg "_law_crowd"=some (.ref f)):
  AB P w K mg base "_law_crowd" 2 ["pot","kinds"] (AN Vb):=by
 refine AB.mk F (F.binds (by walk_at "bD2")) m (F.BE (k:=1) Yy (fun vs H Q E h=>Fz.Bv bw h) (fun Ab A outer s H vs Q E hr h=>?_))
 refine ⟨_,(AE rfl (Ai 2 Yy.nd (AY Ax (DT (A0 AA (A0 AA (A0 AA (A0 AA (A0 AA (A0 AA (A0 AA (A0 AA A6))))))))) (Ae CL hr (A0 (qv 0) (A0 AA A6)))))
   (AK rfl (B5 (ER rfl qE (LL rfl DJ (A0 (qv 2) A6)) (fun _ _ _ _=>by exact Dm) (fun _ _ _ _=>by exact (AY (show Cc _ (Di K) from Ax) (AY (show Cc _ (Nr K) from Ca) (qv 0) (Ae CL hr (A0 (qv 1) (A0 (Bh (show C3 _ (.builtin "len") (Oj K) from Gd) B9 (A0 (qv 0) A6)) A6)))) AA)))))),?_⟩
 refine Fz.By h bw ?_;rintro _ _ ⟨ks,rfl,g,rfl⟩;show Ws [_,_,.any] _ _ _;have l1:=g.l1;have l8:=g.l8
 walk_at "ww"
 refine ⟨by decide,?_⟩
 walk_at "ww"
 refine ⟨by decide,by decide,fun t t0 t1=>?_⟩;obtain ⟨z,e,hz⟩:=oB t0 t1;refine ⟨_,_,rfl,e,?_⟩;refine Jw (vn (fun _ p=>∃ c∈wk ks,p=.str c) ?_)
 walk_at "ww"
 rw [HE];refine ⟨by omega,by omega,by rw [Gx];omega,fun x hx=>Du rfl,fun x hx=>?_,fun ys KA hP=>?_⟩
 ·walk_at "ww"
  rw [A9];refine ⟨by omega,by omega,fun q q0 q1=>?_⟩;obtain ⟨qn,rfl⟩:=Wd q0;have hq:qn<ks.length:=by omega
  refine ⟨_,_,rfl,En (by rw [AV,AR hq];rfl),_,.inr ⟨rfl,rfl,?_⟩⟩
  walk_at "ww"
  exact ⟨_,List.mem_map.mpr ⟨_,Fq hq,rfl⟩,rfl⟩
 ·rw [Gx] at KA;have all:∀ y∈ys,∃ c∈wk ks,y=.str c:=fun y hy=>by
   obtain ⟨q,hq,eq⟩:=E4 hy;have h1:ys[q]?=some y:=by rw [AR hq,eq]
   exact hP q _ y (AR (show q<(IZ z).length by rw [Gx];omega)) h1
  obtain ⟨cs,rfl,hc⟩:=UH all;exact ⟨cs,rfl,by rw [A9] at KA;omega,hc⟩
def lE:B6 ["pot"] ["pot"] (AZ SQ):=by walk_at "z1"
def fQ : ∀ ss R,Sw ss R->ss.length=1:=by rintro _ _ ⟨rfl,rfl⟩;rfl
def uR (F:AO K "_law_rule" "_law_rule" SQ f fd)(m:mg "_law_rule"=some (.ref f)):
  AB P w K mg base "_law_rule" 2 ["pot"] (AN Sw):=by
 refine AB.mk F (F.binds (by walk_at "bD1")) m (F.BE (k:=1) lE (fun vs H Q E h=>Fz.Bv fQ h) (fun Ab A outer s H vs Q E hr h=>?_))
 refine ⟨_,(AK rfl (B5 (AY Ax (DT (A0 BD (A0 BD (A0 BD A6)))) (Ae CL hr (A0 (qv 0) (A0 AA A6)))))),?_⟩;refine Fz.By h fQ ?_;rintro _ _ ⟨rfl,rfl⟩;show Ws [_] _ _ _
 walk_at "ww"
 refine ⟨by decide,?_⟩
 walk_at "ww"
 refine ⟨by decide,by decide,fun t t0 t1=>?_⟩;obtain ⟨r,hr,e⟩:=jX t0 t1;exact ⟨_,_,rfl,e,r,hr,rfl⟩
def VR:B6 ["kinds","word","rule","wheres","puts"] ["kinds","word","rule"] (AZ NO):=by walk_at "z1"
def tj:Scope:={ kind:=.function,names:=[(".0", .local),("row", .local),("word", .free)],isGenerator:=false,isCoroutine:=false,more:=[] }
def j4:CK ["kinds","word","rule","wheres","puts"] (AZ NO) tj "row" ["word"] [1]:=by walk_at "z2"
def uI:Scope:={ kind:=.function,names:=[(".0", .local),("where", .local),("kind", .local),("wheres", .free)],isGenerator:=false,isCoroutine:=false,more:=[] }
def jE:Hm ["kinds","word","rule","wheres","puts"] (AZ NO) uI ["where","kind"] ["wheres"] [3]:=⟨rfl,by decide +kernel,by decide +kernel,by decide +kernel,rfl,by decide +kernel,by decide +kernel,by decide +kernel,by decide +kernel⟩
def YH : ∀ ss R,Ma ss R->ss.length=3:=by rintro _ _ ⟨ks,x,r,rfl,_,_,_,rfl⟩;rfl
def iL (F:AO K "_law_comers" "_law_comers" NO f fd)(m:mg "_law_comers"=some (.ref f)):
  AB P w K mg base "_law_comers" 1 ["kinds","word","rule"] (AN Ma):=by
 refine AB.mk F (F.binds (by walk_at "bD3")) m (F.BE (k:=0) VR (fun vs H Q E h=>Fz.Bv YH h) (fun Ab A outer s H vs Q E hr h=>?_))
 refine ⟨_,(AE rfl (Ai 3 VR.nd (GH (Cb hr) (vN (VJ BD (DT A6) (VJ BD (DT (A0 BD (A0 BD A6))) (VJ BD (DT (A0 BD (A0 BD (A0 BD (A0 BD A6))))) tQ))) rfl rfl (by simp) (by decide)) (qv 2) (fun _ _=>rfl)))
   (AE rfl (Ai 4 VR.nd (AY Ca (ER rfl j4 (Bf (qv 0)) (fun _ _ _ _=>by exact (L4 (BI Fb (AY (show Cc _ (Di K) from Ax) (qv 1) AA) (qv 0)))) (fun _ _ _ _=>by exact (AY (show Cc _ (Di K) from Ax) (qv 1) AA))) AA))
   (AK rfl (B5 (Ya rfl jE (.cons (.cons .nil)) (fun _=>rfl) (fun _=>rfl) (Bf (qv 4)) (fun _ _ _ _=>by exact (L4 (BI (show B2 _ (compareOp .In) (GS K false) from GD) (qv 1) (qv 0)))) (fun _ _ _ _=>by exact (qv 2))))))),?_⟩
 refine Fz.By h YH ?_;rintro _ _ ⟨ks,x,r,rfl,g,hx,hr,rfl⟩;show Ws [_,_,_,.any,.any] _ _ _;have l8:=g.l8;have h6:=(g.GU x).1;refine AU (EL (Gi (za (om (by decide) ?_))));refine L3 (HA (Ej (Df ⟨by decide,?_⟩)));refine L3 (HA (Ej (Bm (EW (Bm (EW (Df ⟨by decide,?_⟩)))))));refine L3 (HA (Ej (Bm (EW (Bm (EW (Bm (EW (Bm (EW (Df ⟨by decide,?_⟩)))))))))));refine bx ⟨fun _ h=>absurd h Aa,fun _ h=>absurd h Aa,fun _ h=>absurd h Aa,rfl,fun l=>⟨rfl,_,_,by rw [OV.pv],A5 rfl ⟨.inr r,.tup ((OK r).map .str),rfl,?_,?_⟩⟩⟩
 ·simp only [Cv,Dq,Aa,lg] at hr;rcases hr with rfl | rfl | rfl <;> rfl
 obtain ⟨k,rest,ef,ep⟩:=g.bp hx;refine AU (EL (GQ (BH (B4 (Dg Kd.P (fun k=>decide (k.w=x)) (fun k=>PV.tup (k.ps.map Ar)) (CF (Bp (A5 rfl ⟨_,.inl ⟨rfl,ks,rfl,by omega,fun k _=>?_,fun k _ _=>?_,?_⟩⟩))) Kd.inj)))))
 ·exact CJ (KI (BA (BG rfl ⟨rfl,Aq ⟨_,_,rfl,rfl,A5 rfl ⟨rfl,_,rfl,rfl⟩⟩⟩)))
 ·exact BA (BG rfl ⟨rfl,Aq ⟨_,_,rfl,rfl,rfl⟩⟩)
 rw [ef];refine ⟨_,.inl ⟨rfl,rfl,Aq ⟨0,PV.tup (k.ps.map Ar),rfl,(En (j:=0) rfl:L2.Ba (List.map (fun k:Kd=>PV.tup (k.ps.map Ar)) (k::rest)) ((0:Nat):Int)=_),?_⟩⟩⟩;rw [ep];refine Jw (bW (fun q=>match q with | .tup [.str a,_]=>decide (a∈OK r) | _=>false) (fun q=>match q with | .tup [_,b]=>b | _=>.A8) (CF (Bp (A5 rfl ⟨_,.inr ⟨rfl,by rw [A9];omega,fun q hq=>?_,?_⟩⟩))))
 ·obtain ⟨p,hp,rfl⟩:=List.mem_map.mp hq;refine ⟨_,rfl,rfl,?_,fun _=>A5 rfl rfl⟩;exact CJ (Ip (A5 rfl ⟨p.1,rfl,BG rfl ⟨_,rfl,_,rfl,rfl⟩⟩))
 ·rw [<- pf g hr x,List.filter_map,CP,CP];rfl
def P1:B6 ["kinds","some","rule","found","left","word"] ["kinds","some","rule"] (AZ T2):=by walk_at "z1"
def bV : ∀ ss R,Qy ss R->ss.length=3:=by rintro _ _ ⟨ks,S,r,rfl,_,_,_,_,rfl⟩;rfl
def ib (F:AO K "_law_reached" "_law_reached" T2 f fd)(m:mg "_law_reached"=some (.ref f)):
  AB P w K mg base "_law_reached" 2 ["kinds","some","rule"] (AN Qy):=by
 refine AB.mk F (F.binds (by walk_at "bD3")) m (F.BE (k:=1) P1 (fun vs H Q E h=>Fz.Bv bV h) (fun Ab A outer s H vs Q E hr h=>?_))
 refine ⟨_,(AE rfl (Ai 3 P1.nd (EK A6))
   (AE rfl (Ai 4 P1.nd (Dh NY Cu (A0 (qv 1) A6)))
   (AE rfl (CC (OG Cf (BI (jr hr.Pk) (qv 4) (EK A6)) (AE rfl (Ai 5 P1.nd (YJ Ef PySem.F.slot_list_pop PySem.F.type_list_pop se (qv 4)))
   (AK rfl (Bc (BI OR (qv 5) (qv 3)) (AE rfl (D7 (EZ Ef RJ RK NG (qv 3) (A0 (qv 5) A6)))
   (AK rfl (D7 (EZ Ef PySem.F.slot_list_extend PySem.F.type_list_extend zC (qv 4) (A0 (Ae Hv hr (A0 (qv 0) (A0 (qv 5) (A0 (qv 2) A6)))) A6))))) BW)))))
   (AK rfl (B5 (qv 3)))))),?_⟩
 refine Fz.By h bV ?_;rintro _ _ ⟨ks,S,r,rfl,g,hr,hz,hS,rfl⟩;show Ws [_,_,_,.any,.any,.any] _ _ _;have l8:=g.l8
 walk_at "ww"
 refine ⟨by decide,?_⟩
 walk_at "ww"
 refine YD (fun m A7=>∃ (A B:List Str) (s5:Slot),A7=[.is (.lst (ks.map Kd.P)),.sq false (S.map .str),.is (.str r),.own (A.map .str),.own (B.map .str),s5]/\A.Nodup/\(∀ y∈A,BF (AL ks r) S y)/\(∀ y∈B,BF (AL ks r) S y)/\(∀ y∈S,y∈A∨y∈B)/\(∀ y∈A,∀ z∈AL ks r y,z∈A∨z∈B)/\B.length<=12+6 * A.length/\m+7 * A.length=B.length+7 * 9) (S.length+7 * 9) ?_ ?_
 ·exact ⟨[],S,_,rfl,IG,fun y hy=>absurd hy Aa,fun y hy=>.here hy,fun y hy=>.inr hy,fun y hy=>absurd hy Aa,by simp;omega,by simp⟩
 rintro m A7 ⟨A,B,s5,rfl,nd,rA,rB,cS,cA,lB,hm⟩;have lA:A.length<=8:=by
  have:=Ep nd (bs:=wk ks) fun y hy=>Gu g hS (rA y hy);rw [A9] at this;omega
 walk_at "ww"
 refine ⟨by decide,_,.inl ⟨rfl,rfl,rfl,_,rfl,?_⟩⟩;rw [A9];refine CM (fun c=>?_) (fun c=>?_)
 ·obtain ⟨B',x,rfl⟩:∃ B' x,B=B'++[x]:=by
   have As:B≠[]:=fun z=>by subst z;cases c
   exact ⟨_,_,(List.dropLast_concat_getLast As).symm⟩
  have rx:=rB x (by simp);have xw:=Gu g hS rx;refine AU (zP (y:=.str x) rfl (by simp) ?_);rw [CO,Ac,Ek,List.dropLast_concat];show Ws [.is (.lst (ks.map Kd.P)),.sq false (S.map .str),.is (.str r),.own (A.map .str),.own (B'.map .str),.is (.str x)] _ _ _;rw [Bo,IF] at lB hm
  walk_at "ww"
  refine CM (fun c2=>?_) (fun c2=>C0 ?_)
  ·have hx:x∉A:=fun z=>by rw [hJ z] at c2;cases c2
   walk_at "ww"
   refine ⟨by rw [A9];omega,?_⟩;refine ug rfl (Gp (AW (A5 rfl (AW (A5 rfl (AW (A5 rfl (Ay ⟨_,⟨ks,x,r,rfl,g,xw,hr,rfl⟩,?_⟩))))))));rintro _ rfl;have h6:=VN g r x;refine ⟨by rw [A9,A9];omega,(8 * 7+B'.length+(AL ks r x).length) - 7 * A.length,by omega,A++[x],B'++AL ks r x,.is (.str x),?_,KP nd hx,?_,?_,?_,?_,?_,?_⟩
   ·rw [CO,CO];rfl
   ·intro y hy;rcases List.mem_append.mp hy with h | h
    ·exact rA y h
    ·rw [List.mem_singleton.mp h];exact rx
   ·intro y hy;rcases List.mem_append.mp hy with h | h
    ·exact rB y (by simp [h])
    ·exact .step rx h
   ·intro y hy;rcases cS y hy with h | h
    ·exact .inl (by simp [h])
    ·rcases List.mem_append.mp h with h | h
     ·exact .inr (by simp [h])
     ·exact .inl (by simp [List.mem_singleton.mp h])
   ·intro y hy z hz;rcases List.mem_append.mp hy with h | h
    ·rcases cA y h z hz with q | q
     ·exact .inl (by simp [q])
     ·rcases List.mem_append.mp q with q | q
      ·exact .inr (by simp [q])
      ·exact .inl (by simp [List.mem_singleton.mp q])
    ·rw [List.mem_singleton.mp h] at hz;exact .inr (by simp [hz])
   ·rw [Bo,Bo,IF];omega
   ·rw [Bo,Bo,IF];omega
  ·have hx:x∈A:=Decidable.byContradiction fun z=>c2 (by rw [iB z];rfl);refine ⟨m - 1,by omega,A,B',_,rfl,nd,rA,fun y hy=>rB y (by simp [hy]),fun y hy=>?_,fun y hy z hz=>?_,by omega,by omega⟩
   ·rcases cS y hy with h | h
    ·exact .inl h
    ·rcases List.mem_append.mp h with h | h
     ·exact .inr h
     ·exact .inl (by rw [List.mem_singleton.mp h];exact hx)
   ·rcases cA y hy z hz with q | q
    ·exact .inl q
    ·rcases List.mem_append.mp q with q | q
     ·exact .inr q
     ·exact .inl (by rw [List.mem_singleton.mp q];exact hx)
 ·have hB:B=[]:=by
   cases B with
   | nil=>rfl
   | cons b r=>exact absurd rfl c
  subst hB;refine bj rfl ⟨A,rfl,nd,lA,fun x=>⟨rA x,fun q=>?_⟩⟩
  induction q with
  | here m=>exact (cS _ m).elim id fun z=>absurd z Aa
  | step _ hy ih=>exact (cA _ ih _ hy).elim id fun z=>absurd z Aa
def cW:B6 ["kinds","crowd","rule","word"] ["kinds","crowd","rule"] (AZ W3):=by walk_at "z1"
def bK : ∀ ss R,Rb ss R->ss.length=3:=by rintro _ _ ⟨ks,cs,r,rfl,_,_,_,_,rfl⟩;rfl
def uh (F:AO K "_law_rings" "_law_rings" W3 f fd)(m:mg "_law_rings"=some (.ref f)):
  AB P w K mg base "_law_rings" 3 ["kinds","crowd","rule"] (AN Rb):=by
 refine AB.mk F (F.binds (by walk_at "bD3")) m (F.BE (k:=2) cW (fun vs H Q E h=>Fz.Bv bK h) (fun Ab A outer s H vs Q E hr h=>?_))
 refine ⟨_,(AE rfl (CC (DA Cf rfl (Bf (Ae Jq hr (A0 (qv 0) (A0 (qv 1) (A0 (qv 2) A6))))) (Bw 3 cW.nd) (AK rfl (Bc (BI GD (qv 3) (Ae Jq hr (A0 (qv 0) (A0 (Ae Hv hr (A0 (qv 0) (A0 (qv 3) (A0 (qv 2) A6)))) (A0 (qv 2) A6))))) (AK rfl (B5 Ic)) BW))))
   (AK rfl (B5 Ic))),?_⟩
 refine Fz.By h bK ?_;rintro _ _ ⟨ks,cs,r,rfl,g,hr,hz,hc,rfl⟩;show Ws [_,_,_,.any] _ _ _;refine AU (Dt (E1 (fun xs i A7=>∃ (L:List Str) (s3:Slot),xs=L.map .str/\A7=[.is (.lst (ks.map Kd.P)),.sq false (cs.map .str),.is (.str r),s3]/\(∀ x,x∈L↔BF (AL ks r) cs x)/\∀ x∈L.take i,¬ BF (AL ks r) (AL ks r x) x) (CF (Bp (B4 (Gp (AW (A5 rfl (GC (Hu rfl (AW (A5 rfl (Ay ⟨_,⟨ks,cs,r,rfl,g,hr,hz,hc,rfl⟩,?_⟩)))))))))))));rintro _ ⟨L,rfl,nd,l8,hL⟩;refine ⟨_,.inl ⟨rfl,⟨L,_,rfl,rfl,hL,fun x hx=>absurd hx (by simp)⟩,?_,?_⟩⟩
 ·rintro i p A7 hp ⟨L',s3,eL,rfl,_,hn⟩;have eL:=VT eL;subst eL;rw [AV] at hp;obtain ⟨x,ex,rfl⟩:=Option.map_eq_some_iff.mp hp;have xm:=C2 ex;have xw:=Gu g hc ((hL x).mp xm);have h6:=VN g r x;refine Ey ?_;refine D3 (CJ (Ip (A5 rfl ⟨x,rfl,BH (B4 (Gp (AW (A5 rfl (GC (BH (B4 (Gp (AW (A5 rfl (AW (A5 rfl (AW (A5 rfl (Ay ⟨_,⟨ks,x,r,rfl,g,xw,hr,rfl⟩,?_⟩)))))))))))))))⟩)));rintro _ rfl;refine ⟨_,.inl ⟨rfl,AW (A5 rfl (Ay ⟨_,⟨ks,AL ks r x,r,rfl,g,hr,by omega,fun y hy=>g.Vf hy,rfl⟩,?_⟩))⟩⟩;rintro _ ⟨M,rfl,_,_,hM⟩;refine ⟨_,.inl ⟨rfl,M,rfl,_,rfl,?_⟩⟩;refine CM (fun c=>?_) (fun c=>C0 ?_)
  ·exact Dw (O7 ⟨true,rfl,⟨fun _=>⟨x,(hL x).mp xm,(hM x).mp (i8 c)⟩,fun _=>rfl⟩⟩)
  ·refine ⟨L,_,rfl,rfl,hL,fun y hy=>?_⟩;rw [Fo ex] at hy;rcases List.mem_append.mp hy with h | h
   ·exact hn y h
   ·rw [List.mem_singleton.mp h];exact fun q=>c (hJ ((hM x).mpr q))
 ·rintro A7 ⟨L',s3,eL,rfl,_,hn⟩;have eL:=VT eL;subst eL;rw [A9,Ee] at hn;refine Dw (O7 ⟨false,rfl,⟨fun z=>(by cases z),fun ⟨x,h1,h2⟩=>absurd h2 (hn x ((hL x).mpr h1))⟩⟩)
def HP:B6 ["kinds","some","rule","left","many","first","word","free","where","kind"] ["kinds","some","rule"] (AZ Li):=by walk_at "z1"
def ze:Scope:={ kind:=.function,names:=[(".0", .local),("word", .cell),("any", .globalImplicit),("kinds", .free),("left", .free),("rule", .free)],isGenerator:=false,isCoroutine:=false,more:=[] }
def xR:Scope:={ kind:=.function,names:=[(".0", .local),("one", .local),("_law_comers", .globalImplicit),("kinds", .free),("rule", .free),("word", .free)],isGenerator:=false,isCoroutine:=false,more:=[] }
def kq:Scope:={ kind:=.function,names:=[(".0", .local),("row", .local),("word", .free)],isGenerator:=false,isCoroutine:=false,more:=[] }
def kN:Scope:={ kind:=.function,names:=[(".0", .local),("word", .local),("first", .free)],isGenerator:=false,isCoroutine:=false,more:=[] }
def vF:Km ["kinds","some","rule","left","many","first","word","free","where","kind"] (AZ Li) ze "word" ["kinds","left","rule"] [0,3,2]:=⟨rfl,by decide +kernel,rfl,by decide +kernel,fun _ _=>rfl,fun _=>rfl,rfl,by decide +kernel,by decide +kernel,by decide +kernel,by decide +kernel⟩
def yG:Scope:={ kind:=.function,names:=[(".0", .local),("word", .cell),("any", .globalImplicit),("kinds", .cell),("left", .cell),("rule", .cell)],isGenerator:=false,isCoroutine:=false,more:=[] }
def yH:CK ["kinds","left","rule","word"] yG xR "one" ["kinds","rule","word"] [0,2,3]:=by walk_at "z2"
def uY:CK ["kinds","some","rule","left","many","first","word","free","where","kind"] (AZ Li) kq "row" ["word"] [6]:=by walk_at "z2"
def p6:CK ["kinds","some","rule","left","many","first","word","free","where","kind"] (AZ Li) kN "word" ["first"] [5]:=by walk_at "z2"
def Zf : ∀ ss R,UP ss R->ss.length=3:=by rintro _ _ ⟨ks,cs,r,rfl,_,_,_,_,_,rfl⟩;rfl
def kM (F:AO K "_law_counted" "_law_counted" Li f fd)(m:mg "_law_counted"=some (.ref f)):
  AB P w K mg base "_law_counted" 3 ["kinds","some","rule"] (AN UP):=by
 refine AB.mk F (F.binds (by walk_at "bD3")) m (F.BE (k:=2) HP (fun vs H Q E h=>Fz.Bv Zf h) (fun Ab A outer s H vs Q E hr h=>?_))
 refine ⟨_,(AE rfl (Ai 3 HP.nd (Ae Jq hr (A0 (qv 0) (A0 (qv 1) (A0 (qv 2) A6)))))
   (AE rfl (Ai 4 HP.nd Kl)
   (AE rfl (Ai 5 HP.nd Kl)
   (AE rfl (CC (DA Cf rfl (Bf (qv 3)) (Bw 6 HP.nd) (AE rfl (J9 (Cb hr) (qv 4) (qv 6) (EZ Ef gW gX Tr (Dh NY Cu (A0 (qv 1) A6)) (A0 (qv 6) A6)))
   (AK rfl (J9 (Cb hr) (qv 5) (qv 6) (Dh Ud Gf (A0 (NJ GD (qv 6) (qv 1)) A6)))))))
   (AE rfl (CC (OG Cf (BI (Ow hr.Pk) (qv 3) (EK A6)) (AE rfl (mR (i:=7) HP.nd rfl (Or.inl rfl) rfl vF (Bf (qv 3)) (fun _ _ _ _=>by exact (L4 (GX (Gm (Bh (show C3 _ (.builtin "any") (Fz.nQ K) from ue rfl) VE (A0 (ER rfl yH (show QI _ _ _ (LU K _) from Bf (qv 1)) (fun _ _ _ _=>by exact Dm) (fun _ _ _ _=>by exact (NJ (show B2 _ (compareOp .In) (GS K false) from GD) (qv 2) (Ae Hv hr (A0 (qv 0) (A0 (qv 3) (A0 (qv 1) A6))))))) A6)))))) (fun _ _ _ _=>by exact (qv 3)))
   (AE rfl (Ai 6 HP.nd (AY Ca (qv 7) AA))
   (AE rfl (CC (DA Cf rfl (Bf (AY Ca (ER rfl uY (Bf (qv 0)) (fun _ _ _ _=>by exact (L4 (BI Fb (AY (show Cc _ (Di K) from Ax) (qv 1) AA) (qv 0)))) (fun _ _ _ _=>by exact (AY (show Cc _ (Di K) from Ax) (qv 1) AA))) AA)) (Ki rfl (FA (Bw 8 HP.nd) (FA (Bw 9 HP.nd) Ln))) (AK rfl (Bc (JX (BI Fb (qv 2) BD) (MF (VL (BI Fb (qv 2) BD) (Uc (BI GD (qv 8) (DT (A0 BD (A0 BD A6)))))).pt)).pt (AE rfl (J9 (Cb hr) (qv 4) (qv 9) (Ap Ed (GH (Cb hr) (qv 4) (qv 9) (fun _ _=>rfl)) (GH (Cb hr) (qv 4) (qv 6) (fun _ _=>rfl))))
   (AK rfl (J9 (Cb hr) (qv 5) (qv 9) (Bh (Uo rfl) Dc (A0 (GH (Cb hr) (qv 5) (qv 9) (fun _ _=>rfl)) (A0 (Ap Ed (GH (Cb hr) (qv 5) (qv 6) (fun _ _=>rfl)) (Dh Ud Gf (A0 (NJ GD (qv 8) (DT (A0 BD (A0 BD A6)))) A6))) A6)))))) BW))))
   (AK rfl (D7 (EZ Ef ZAI PySem.F.type_list_remove xY (qv 3) (A0 (qv 6) A6)))))))))
   (AK rfl (B5 (DT (A0 (qv 4) (A0 (Bh (ZT rfl) Dc (A0 (Ap SD (EK (A0 AA A6)) (sW (ER rfl p6 (lV (qv 5)) (fun _ _ _ _=>by exact Dm) (fun _ _ _ _=>by exact (GH (Cb hr) (qv 0) (qv 1) (fun _ _=>rfl)))))) A6)) A6)))))))))),?_⟩
 refine Fz.By h Zf ?_;rintro _ _ ⟨ks,cs,r,rfl,g,hr,hz,hc,nr,rfl⟩;show Ws [_,_,_,.any,.any,.any,.any,.any,.any,.any] _ _ _;have l8:=g.l8;obtain ⟨T,tT,E2,rT,Ms⟩:=bY (ws:=wk ks) (fun x h=>Gu g hc h) nr;have sT:∀ y∈T,y∈wk ks:=fun y hy=>Gu g hc (rT y hy);have lT:T.length<=8:=by
  have:=Ep E2 sT;rw [A9] at this;omega
 refine AU (Ez (Gp (AW (A5 rfl (GC (Ck rfl (AW (A5 rfl (Ay ⟨_,⟨ks,cs,r,rfl,g,hr,hz,hc,rfl⟩,?_⟩)))))))));rintro _ ⟨L0,rfl,CA,l0,h0⟩;refine AU (Ja (Lg fun a=>?_));refine AU (Ja (Lg fun b=>?_));refine ic 3 rfl fun l=>?_;show Ws [.is (.lst (ks.map Kd.P)),.is (.lst (cs.map .str)),.is (.str r),.ow false (.nd .lst l ((L0.map .str).map .fz)),.ow false (CS a [] fun x=>(cs.count x:Nat)),.ow false (CS b [] fun x=>if decide (x∈cs)=true then 1 else 0),.any,.any,.any,.any] _ _ _
 refine AU (Dt (u4 (i:=3) (fun n A7=>∃ s6:Slot,A7=[.is (.lst (ks.map Kd.P)),.is (.lst (cs.map .str)),.is (.str r),.ow false (.nd .lst l ((L0.map .str).map .fz)),.ow false (CS a (L0.take n) fun x=>(cs.count x:Nat)),.ow false (CS b (L0.take n) fun x=>if decide (x∈cs)=true then 1 else 0),s6,.any,.any,.any]) (Gh rfl ⟨l,_,L0.map V.str,rfl,T9 L0,⟨_,rfl⟩,?_,?_,?_⟩)))
 ·rintro n A7 _ ⟨s6,rfl⟩;exact ⟨_,_,_,rfl,OV.Iu,T9 L0⟩
 ·rintro n v A7 hv ⟨s6,rfl⟩;rw [AV] at hv;obtain ⟨w,ew,rfl⟩:=Option.map_eq_some_iff.mp hv;have nw:w∉L0.take n:=qS CA ew;have lt:(L0.take n).length<=8:=by rw [D4];omega
  refine iu (q:=.str w) rfl rfl ?_;refine AU (Qi (i:=4) (ks:=Ad (L0.take n)) (xs:=(L0.take n).map fun y=>PV.int (cs.count y:Nat)) rfl (WT (BH (B4 (Kp rfl (Ck rfl ⟨_,.inl ⟨rfl,rfl,cs,rfl,A5 rfl ⟨w,rfl,A5 rfl ⟨.inr w,rfl,?_,?_⟩⟩⟩⟩))))))
  ·unfold Ad;rw [A9];omega
  rw [Xm (fun x=>(cs.count x:Nat)) nw a,<- Fo ew];refine Qi (i:=5) (ks:=Ad (L0.take n)) (xs:=(L0.take n).map fun y=>PV.int (if decide (y∈cs)=true then 1 else 0)) rfl (Od rfl (Ip (A5 rfl ⟨w,rfl,Ck rfl ⟨cs,rfl,_,rfl,A5 rfl ⟨.inr w,rfl,?_,?_⟩⟩⟩)))
  ·unfold Ad;rw [A9];omega
  rw [Xm (fun x=>if decide (x∈cs)=true then 1 else 0) nw b,<- Fo ew]
  exact ⟨_,rfl⟩
 rintro A7 ⟨s6,rfl⟩;rw [A9,Ee];refine iQ (xs:=L0.map .str) 3 rfl ?_;show Ws [.is (.lst (ks.map Kd.P)),.is (.lst (cs.map .str)),.is (.str r),.own (L0.map .str),.ow false (CS a L0 fun x=>(cs.count x:Nat)),.ow false (CS b L0 fun x=>if decide (x∈cs)=true then 1 else 0),s6,.any,.any,.any] _ _ _
 refine AU (Dt (YD (fun n A7=>∃ (L D:List Str) (m φ:Str->Int) (s6 s7 s8 s9:Slot),A7=[.is (.lst (ks.map Kd.P)),.is (.lst (cs.map .str)),.is (.str r),.own (L.map .str),.ow false (CS a L0 m),.ow false (CS b L0 φ),s6,s7,s8,s9]/\Ew ks r cs L0 L D m φ/\n=L.length) L0.length ⟨L0,[],_,_,_,_,_,_,rfl,Ew.start CA h0,rfl⟩ ?_));rintro n A7 ⟨L,D,m,φ,s6,s7,s8,s9,rfl,I,rfl⟩;have rL:∀ x∈L,BF (AL ks r) cs x:=fun x hx=>(h0 x).mp ((I.mem x).mpr (.inl hx));have lL:L.length<=8:=by
  have:=Ep I.FR (bs:=T) fun y hy=>Ms y (rL y hy);omega
 refine CJ (aE (LX rfl ⟨L,rfl,BH (B4 (Je (Df ⟨by decide,_,.inl ⟨rfl,rfl,[],rfl,_,rfl,?_⟩⟩)))⟩))
 by_cases ne:L=[]
 ·subst ne;refine CN (by decide) ?_;refine WK 4 rfl ?_;rw [Jy];refine Dw (Ej (Bm (A5 rfl (Bm (ZJ (BH (B4 (Qq (BH (B4 (Je (Bm (Aq (Df ?_))))))))))))));refine ⟨by show 1<=100000;decide,_,.inl ⟨rfl,rfl,BH (B4 (kb (ks:=Ad L0) (a:=b) (xs:=L0.map fun y=>PV.int (φ y)) rfl (Mu CA) (by rw [A9];omega) ?_))⟩⟩;refine ⟨_,.inl ⟨rfl,rfl,by rw [A9];show 1+_<=_;omega,?_⟩⟩;refine ⟨_,.inl ⟨rfl,rfl,0::L0.map φ,by rw [Ac,CP];rfl,by simp,fun mx h1 h2=>?_⟩⟩;have em:=YE h1 h2;rw [I.rounds] at em;subst em;exact Df ⟨by show 2<=100000;decide,L0,m,rfl,I.counts g fun x hx=>Gu g hc ((h0 x).mp hx)⟩
 rw [iB ne];refine J3 rfl ?_;refine AU (Ez (cE ?_));rw [show List.map DX _=[.is (.lst (ks.map Kd.P)),.is (.lst (cs.map .str)),.is (.str r),.is (.lst (L.map .str)),.is (CS a L0 m).pv,.is (CS b L0 φ).pv,DX s6,DX s7,DX s8,DX s9] from rfl,Jy,Jy];refine Dg PV.str (fun y=>!(L.any fun o=>decide (y∈AL ks r o))) (fun y=>PV.str y) (CF (Bp (A5 rfl ⟨_,.inl ⟨rfl,L,rfl,by omega,fun y hy=>?_,fun y _ _=>A5 rfl rfl,?_⟩⟩))) (fun a b e=>by injection e)
 ·refine Hl (Er (e9 rfl (BH (B4 (Dg PV.str (fun _=>true) (fun o=>PV.bl (decide (y∈AL ks r o))) (CF (Bp (A5 rfl ⟨_,.inl ⟨rfl,L,rfl,by omega,fun _ _=>Du rfl,fun o ho _=>?_,?_⟩⟩))) (fun a b e=>by injection e))))))
  ·refine Ip (A5 rfl ⟨y,rfl,BH (B4 (Gp (AW (A5 rfl (AW (A5 rfl (AW (A5 rfl (Ay ⟨_,⟨ks,o,r,rfl,g,Gu g hc (rL o ho),hr,rfl⟩,?_⟩)))))))))⟩);rintro _ rfl;exact ⟨_,.inl ⟨rfl,AL ks r o,rfl,rfl⟩⟩
  ·rw [List.filter_eq_self.mpr fun _ _=>rfl];refine ⟨_,.inl ⟨rfl,rfl,L.map fun o=>decide (y∈AL ks r o),by rw [CP];rfl,_,rfl,?_⟩⟩;rw [List.any_map];rfl
 obtain ⟨x0,Tp,p5⟩:=yU (f:=AL ks r) tT E2 (fun x hx=>Ms x (rL x hx)) ne;refine ⟨NU _ (fun _=>by simp [D6]) _,?_⟩;have cH:∀ {z:Str},z∈(L.filter fun y=>!(L.any fun o=>decide (y∈AL ks r o)))↔z∈L/\∀ y∈L,z∉AL ks r y:=fun {z}=>by
  rw [List.mem_filter,Bool.not_eq_true',gA];exact ⟨fun h=>⟨h.1,fun y hy q=>h.2 y hy (hJ q)⟩,fun h=>⟨h.1,fun y hy q=>h.2 y hy (i8 q)⟩⟩
 obtain ⟨x,rest,eF⟩:∃ x rest,(L.filter fun y=>!(L.any fun o=>decide (y∈AL ks r o)))=x::rest:=by
  have mF:=cH.mpr ⟨Tp,p5⟩;cases e:L.filter fun y=>!(L.any fun o=>decide (y∈AL ks r o)) with
  | nil=>rw [e] at mF;cases mF
  | cons x rest=>exact ⟨x,rest,rfl⟩
 obtain ⟨xL,xF⟩:=cH.mp (show x∈_ by rw [eF];simp);rw [eF];have xw:=Gu g hc (rL x xL);obtain ⟨eC,eR⟩:=Rr tT lT (Ms x (rL x xL));have J:=I.step h0 xL xF eC eR;refine Ho 7 rfl ?_;refine AU (EL (GQ (Ck rfl ⟨rfl,Aq ⟨0,.str x,rfl,(En (j:=0) rfl:L2.Ba (List.map (fun y=>PV.str y) (x::rest)) ((0:Nat):Int)=_),?_⟩⟩)));obtain ⟨k,iA,ef,ep⟩:=g.bp xw;have h6:=(g.GU x).1;have z0:∀ {z:Str},z∈L->z∈L0:=fun {z} hz=>(I.mem z).mpr (.inl hz);refine AU (Dt (E1 (fun xs i A7=>∃ (s8 s9:Slot),A7=[.is (.lst (ks.map Kd.P)),.is (.lst (cs.map .str)),.is (.str r),.own (L.map .str),.ow false (CS a L0 (Bq m x ((DI r ((Bg ks x).take i)).map (·.2)))),.ow false (CS b L0 (Bs φ (φ x) (DI r ((Bg ks x).take i)))),.is (.str x),.is (.lst (List.map (fun y=>PV.str y) (x::rest))),s8,s9]) (CF (Bp (GQ (BH (B4 (Dg Kd.P (fun k=>decide (k.w=x)) (fun k=>PV.tup (k.ps.map Ar)) (CF (Bp (A5 rfl ⟨_,.inl ⟨rfl,ks,rfl,by omega,fun k _=>?_,fun k _ _=>?_,?_⟩⟩))) Kd.inj))))))))
 ·exact CJ (KI (BA (BG rfl ⟨rfl,Aq ⟨_,_,rfl,rfl,A5 rfl ⟨rfl,_,rfl,rfl⟩⟩⟩)))
 ·exact BA (BG rfl ⟨rfl,Aq ⟨_,_,rfl,rfl,rfl⟩⟩)
 rw [ef];refine ⟨_,.inl ⟨rfl,rfl,Aq ⟨0,PV.tup (k.ps.map Ar),rfl,(En (j:=0) rfl:L2.Ba (List.map (fun k:Kd=>PV.tup (k.ps.map Ar)) (k::iA)) ((0:Nat):Int)=_),?_⟩⟩⟩;rw [ep];have e0:DI r ((Bg ks x).take 0)=[]:=by rw [gO];unfold DI;split <;> rfl
 refine ⟨_,.inr ⟨rfl,⟨s8,s9,by rw [e0,Ek,mE];rfl⟩,?_,?_⟩⟩
 ·rintro i q A7 hq ⟨s8,s9,rfl⟩;rw [AV] at hq;obtain ⟨p,Y8,rfl⟩:=Option.map_eq_some_iff.mp hq;have pm:=C2 Y8;have pw:=((g.GU x).2 p pm).1;refine Ni ⟨_,_,rfl,?_⟩;have st:=jV r ((Bg ks x).take i) p;rw [<- Fo Y8] at st;have sub:∀ q∈DI r ((Bg ks x).take i),q∈BK ks r x:=fun q hq=>by
   rw [<- fM];unfold DI at hq ⊢;split at hq
   ·cases hq
   ·next c=>rw [gg c];exact List.mem_filter.mpr ⟨X0 (List.mem_filter.mp hq).1,(List.mem_filter.mp hq).2⟩
  generalize hQ:DI r ((Bg ks x).take i)=Q at st sub ⊢;show Ws [.is (.lst (ks.map Kd.P)),.is (.lst (cs.map .str)),.is (.str r),.own (L.map .str),.ow false (CS a L0 (Bq m x (Q.map (·.2)))),.ow false (CS b L0 (Bs φ (φ x) Q)),.is (.str x),.is (.lst (List.map (fun y=>PV.str y) (x::rest))),.is (.str p.1),.is (.str p.2)] _ _ _
  have cond:∀ {K':ZAy}{ss:List Slot}{k:Bool->Prop},ss[2]?=some (.is (.str r))->ss[8]?=some (.is (.str p.1))->k (decide (r="all" ∨ (r="ahead" /\ p.1∈Cw)))->Wt ss (R6 (HU (BP OS (B1 2) (tC (.str "all")))) (Ou (HU (BP OS (B1 2) (tC (.str "ahead")))) (HU (BP (GS K' false) (B1 8) (Nu (Af (tC (.str "next")) (Af (tC (.str "last")) Az))))))) k:=fun {K' ss k} h2 h9 hk=>by
   refine KW (CJ (KI (A5 h2 (EW ⟨rfl,_,rfl,?_⟩))));show if decide (r="all")=true then _ else _
   by_cases c1:r="all"
   ·rw [hJ c1];rw [hJ (Or.inl c1)] at hk;exact J3 rfl hk
   rw [iB c1];refine CN (by decide) (br (CJ (KI (A5 h2 (EW ⟨rfl,_,rfl,?_⟩)))));show if decide (r="ahead")=true then _ else _
   by_cases c2:r="ahead"
   ·rw [hJ c2];refine J3 rfl (CJ (Ip (A5 h9 ⟨p.1,rfl,BH (Ej (Bm (EW (Bm (EW (Df ⟨by decide,_,.inr ⟨rfl,Cw,rfl,_,rfl,?_⟩⟩))))))⟩)));rw [show decide (r="all" ∨ (r="ahead" /\ p.1∈Cw))=decide (p.1∈Cw) from decide_eq_decide.mpr ⟨fun h=>(h.resolve_left c1).2,fun h=>.inr ⟨c2,h⟩⟩] at hk;exact hk
   ·rw [iB c2];rw [iB (fun h=>h.elim c1 fun z=>c2 z.1)] at hk;exact CN (by decide) hk
  refine D3 (cond rfl rfl ?_);rcases Classical.em (¬ (r="all" ∨ (r="ahead" /\ p.1∈Cw))) with hC | hC
  ·rw [iB hC];rw [<- hQ] at st;have st:=nT hr hC st;rw [hQ] at st;rw [st];exact CN (by decide) (C0 ⟨_,_,rfl⟩)
  have hC:=Classical.not_not.mp hC;rw [hJ hC];refine J3 rfl ?_;rw [<- hQ] at st;have st:=hX hC st;rw [hQ] at st;have pc:p∈BK ks r x:=by
   have r0:r ≠ "none" := by rcases hC with h | ⟨h,_⟩ <;> rw [h] <;> decide
   unfold BK;rw [gg r0];refine List.mem_filter.mpr ⟨pm,?_⟩;rcases hC with h | ⟨_,h⟩
   ·rw [hJ h,fk]
   ·rw [hJ h,Bool.or_true]
  have pn:p.2∈AL ks r x:=List.mem_map.mpr ⟨p,pc,rfl⟩;have px:p.2≠x:=fun e=>xF x xL (by rw [e] at pn;exact pn);have pL:=z0 (I.cl x xL p.2 pn);have x0:=z0 xL;have qx:x∉Q.map (·.2):=fun z=>by
   obtain ⟨q,hq,e⟩:=List.mem_map.mp z;exact xF x xL (List.mem_map.mpr ⟨q,sub q hq,e⟩)
  have l0':(L0.map fun y=>PV.int (Bq m x (Q.map (·.2)) y)).length<=8:=by rw [A9];exact l0
  have kl:(Ad L0).length<=99999:=by unfold Ad;rw [A9];omega
  refine AU (Qi (i:=4) (ks:=Ad L0) (xs:=L0.map fun y=>PV.int (Bq m x (Q.map (·.2)) y)) rfl (RL ?_))
  rw [show List.map DX _=[.is (.lst (ks.map Kd.P)),.is (.lst (cs.map .str)),.is (.str r),.is (.lst (L.map .str)),.is (CS a L0 (Bq m x (Q.map (·.2)))).pv,.is (CS b L0 (Bs φ (φ x) Q)).pv,.is (.str x),.is (.lst (List.map (fun y=>PV.str y) (x::rest))),.is (.str p.1),.is (.str p.2)] from rfl,Jy,Jy]
  refine Im (Gi (A5 rfl ⟨Ad L0,_,rfl,A5 rfl ⟨.inr p.2,_,rfl,MX _ pL,_,rfl,Gi (A5 rfl ⟨Ad L0,_,rfl,A5 rfl ⟨.inr x,_,rfl,MX _ x0,_,rfl,rfl,A5 rfl ⟨.inr p.2,rfl,kl,?_⟩⟩⟩)⟩⟩));rw [bJ (Bq m x (Q.map (·.2))) _ pL a,show (fun z=>if z=p.2 then Bq m x (Q.map (·.2)) p.2+Bq m x (Q.map (·.2)) x else Bq m x (Q.map (·.2)) z)=Bq m x ((Q++[p]).map (·.2)) from by
   rw [CO,Ac,Ek,rm m x (Q.map (·.2)) p.2 px qx]
   funext z
   by_cases c:z=p.2
   ·rw [gq c,gq c,c]
   ·rw [gg c,gg c]]
  refine Qi (i:=5) (ks:=Ad L0) (xs:=L0.map fun y=>PV.int (Bs φ (φ x) Q y)) rfl (RL ?_);rw [show List.map DX _=[.is (.lst (ks.map Kd.P)),.is (.lst (cs.map .str)),.is (.str r),.is (.lst (L.map .str)),.is (CS a L0 (Bq m x ((Q++[p]).map (·.2)))).pv,.is (CS b L0 (Bs φ (φ x) Q)).pv,.is (.str x),.is (.lst (List.map (fun y=>PV.str y) (x::rest))),.is (.str p.1),.is (.str p.2)] from rfl,Jy,Jy]
  refine ZH rfl (Gi (A5 rfl ⟨Ad L0,_,rfl,A5 rfl ⟨.inr p.2,_,rfl,MX _ pL,_,rfl,Im (Gi (A5 rfl ⟨Ad L0,_,rfl,A5 rfl ⟨.inr x,_,rfl,MX _ x0,_,rfl,?_⟩⟩))⟩⟩));refine Od rfl (Ip (A5 rfl ⟨p.1,rfl,BH (Ej (Bm (EW (Bm (EW (Df ⟨by decide,_,.inr ⟨rfl,[("back":Str), "first"],rfl,_,rfl,_,rfl,_,rfl,rfl,A5 rfl ⟨.inr p.2,rfl,kl,.is (.str p.1),.is (.str p.2),?_⟩⟩⟩))))))⟩))
  have e5:(if decide (p.1∈([("back":Str), "first"]))=true then (1:Int) else 0)=EB p:=by
   have q:=tM pw;unfold EB
   by_cases c:p.1∈Cw
   ·rw [gq c];rw [hJ c] at q;rw [gg (fun z=>by rw [z] at q;cases q)]
   ·rw [gg c];rw [iB c] at q;have q2:decide (p.1∈([("back":Str), "first"]))=true:=by
     cases e:decide (p.1∈([("back":Str), "first"])) with
     | true=>rfl
     | false=>rw [e] at q;cases q
    rw [gq q2]
  have e6:Bs φ (φ x) Q x=φ x:=QY _ _ _ fun q hq e=>qx (List.mem_map.mpr ⟨q,hq,e⟩);rw [e5,e6,bJ (Bs φ (φ x) Q) _ pL b,show (fun z=>if z=p.2 then (if φ x+EB p > Bs φ (φ x) Q p.2 then φ x+EB p else Bs φ (φ x) Q p.2) else Bs φ (φ x) Q z)=Bs φ (φ x) (Q++[p]) from by
   rw [XB]
   funext z
   by_cases c:z=p.2
   ·rw [gq c,gq c,c];rfl
   ·rw [gg c,gg c],st]
  rfl
 ·rintro A7 ⟨s8,s9,rfl⟩;rw [A9,Ee,fM];refine iW rfl (A5 rfl ⟨x,rfl,xL,?_⟩);rw [nJ];have l1:=gH xL;have l2:=gJ xL;exact ⟨(L.erase x).length,by omega,L.erase x,D++[x],_,_,.is (.str x),.is (.lst (List.map (fun y=>PV.str y) (x::rest))),s8,s9,rfl,J,rfl⟩
def Ga:B6 ["kinds","crowd","rule","many","rounds","counts","standing","words","k","where","kind","at"] ["kinds","crowd","rule"] (AZ Kj):=by walk_at "z1"
def wM:Scope:={ kind:=.function,names:=[(".0", .local),("row", .local),("many", .free)],isGenerator:=false,isCoroutine:=false,more:=[] }
def kC:CK ["kinds","crowd","rule","many","rounds","counts","standing","words","k","where","kind","at"] (AZ Kj) wM "row" ["many"] [3]:=by walk_at "z2"
def lD:Scope:={ kind:=.function,names:=[(".0", .local),("row", .local),("list", .globalImplicit),("crowd", .free)],isGenerator:=false,isCoroutine:=false,more:=[] }
def vR:CK ["kinds","crowd","rule","many","rounds","counts","standing","words","k","where","kind","at"] (AZ Kj) lD "row" ["crowd"] [1]:=by walk_at "z2"
def lY:Scope:={ kind:=.function,names:=[(".0", .local),("row", .local)],isGenerator:=false,isCoroutine:=false,more:=[] }
def t8:CK ["kinds","crowd","rule","many","rounds","counts","standing","words","k","where","kind","at"] (AZ Kj) lY "row" [] []:=by walk_at "z2"
def XA : ∀ ss R,VW ss R->ss.length=3:=by rintro _ _ ⟨ks,cs,r,rfl,_,_,_,_,_,rfl⟩;rfl
def pG (F:AO K "_law_due" "_law_due" Kj f fd)(m:mg "_law_due"=some (.ref f)):
  AB P w K mg base "_law_due" 4 ["kinds","crowd","rule"] (AN VW):=by
 refine AB.mk F (F.binds (by walk_at "bD3")) m (F.BE (k:=3) Ga (fun vs H Q E h=>Fz.Bv XA h) (fun Ab A outer s H vs Q E hr h=>?_))
 refine ⟨_,(AE rfl (MC (Ae V6 hr (A0 (qv 0) (A0 (qv 1) (A0 (qv 2) A6)))) (Ki rfl (FA (Bw 3 Ga.nd) (FA (Bw 4 Ga.nd) Ln))))
   (AE rfl (Ai 5 Ga.nd (Dh JI Bt (A0 (ER rfl kC (Bf (qv 0)) (fun _ _ _ _=>by exact Dm) (fun _ _ _ _=>by exact (mW (Cb hr) (qv 0) (AY (show Cc _ (Di K) from Ax) (qv 1) AA) AA ⟨rfl,rfl,rfl,rfl⟩))) A6)))
   (AE rfl (Ql (i:=6) Ga.nd rfl (Or.inl rfl) rfl vR (Bf (qv 0)) (fun _ _ _ _=>by exact Dm) (fun _ _ _ _=>by exact (show QE _ _ (FK K _ (QL K) _ _) from (EZ Ef gW gX Tr (Dh (show C3 _ (.type "list") (Fz.TZ K) from Fz.YQ) Cu (A0 (qv 0) A6)) (A0 (AY (show Cc _ (Di K) from Ax) (qv 1) AA) A6)))))
   (AE rfl (Ql (i:=7) Ga.nd rfl (Or.inl rfl) rfl t8 (Bf (qv 0)) (fun _ _ _ _=>by exact Dm) (fun _ _ _ _=>by exact (AY (show Cc _ (Di K) from Ax) (qv 0) AA)))
   (AE rfl (CC (DA Cf rfl (LL rfl DJ (A0 (Bh Gd B9 (A0 (qv 0) A6)) A6)) (Bw 8 Ga.nd) (AE rfl (CC (DA Cf rfl (Bf (AY Ax (AY Ca (qv 0) (qv 8)) AA)) (Ki rfl (FA (Bw 9 Ga.nd) (FA (Bw 10 Ga.nd) Ln))) (AE rfl (Ai 11 Ga.nd (EZ Ef X8 gY Rq (qv 7) (A0 (qv 10) A6)))
   (AK rfl (MC (Ap Ed (AY Ca (qv 6) (qv 11)) (AY Ax (qv 5) (qv 8))) (OT (qv 6) (qv 11) set_list))))))
   (AK rfl (MC (Ap MI (AY Ca (qv 6) (qv 8)) (Ap Hg (AY Ax (qv 5) (qv 8)) (Dh Ud Gf (A0 (AY Ax (AY Ca (qv 0) (qv 8)) AA) A6)))) (OT (qv 6) (qv 8) set_list))))))
   (AK rfl (B5 (DT (A0 (qv 5) (A0 (qv 4) (A0 (Dh JI Bt (A0 (qv 6) A6)) A6))))))))))),?_⟩
 refine Fz.By h XA ?_;rintro _ _ ⟨ks,cs,r,rfl,g,hr,hz,hc,nr,rfl⟩;show Ws [_,_,_,.any,.any,.any,.any,.any,.any,.any,.any,.any] _ _ _;have l8:=g.l8;refine AU (iw (wp_call (AW (A5 rfl (AW (A5 rfl (AW (A5 rfl (Ay ⟨_,⟨ks,cs,r,rfl,g,hr,hz,hc,nr,rfl⟩,?_⟩)))))))));rintro _ ⟨L,m,rfl,eL⟩;refine Ni ⟨_,_,rfl,?_⟩;refine AU (EL (IW rfl (BH (B4 (Dg Kd.P (fun _=>true) (fun k=>PV.int (if decide (k.w∈L)=true then m k.w else 0)) (CF (Bp (A5 rfl ⟨_,.inl ⟨rfl,ks,rfl,by omega,fun k _=>Du rfl,fun k _ _=>?_,?_⟩⟩))) Kd.inj)))))
 ·refine nB (A5 rfl ⟨Ad L,_,rfl,BA (BG rfl ⟨rfl,Aq ⟨_,_,rfl,rfl,.inr k.w,rfl,Aq ?_⟩⟩)⟩)
  by_cases c:k.w∈L
  ·rw [MX m c,gq (hJ c)];rfl
  ·rw [vb m c,gg (fun z=>c (i8 z))];rfl
 rw [List.filter_eq_self.mpr fun _ _=>rfl,show ks.map (fun k=>PV.int (if decide (k.w∈L)=true then m k.w else 0))=(totC ks r cs).map .int from by rw [<- eL,CP];rfl]
 refine ⟨_,.inl ⟨rfl,?_⟩⟩;refine AU (Ez (Dg Kd.P (fun _=>true) (fun k=>PV.int (cs.count k.w:Nat)) (CF (Bp (A5 rfl ⟨_,.inl ⟨rfl,ks,rfl,by omega,fun k _=>Du rfl,fun k _ _=>?_,?_⟩⟩))) Kd.inj))
 ·exact WT (BH (B4 (Kp rfl (Ck rfl ⟨_,.inl ⟨rfl,rfl,cs,rfl,BA (BG rfl ⟨rfl,Aq ⟨_,_,rfl,rfl,_,rfl,rfl⟩⟩)⟩⟩))))
 rw [List.filter_eq_self.mpr fun _ _=>rfl];refine AU (Ez (Dg Kd.P (fun _=>true) (fun k=>PV.str k.w) (CF (Bp (A5 rfl ⟨_,.inl ⟨rfl,ks,rfl,by omega,fun k _=>Du rfl,fun k _ _=>BA (BG rfl ⟨rfl,Aq ⟨_,_,rfl,rfl,rfl⟩⟩),?_⟩⟩))) Kd.inj));rw [List.filter_eq_self.mpr fun _ _=>rfl,show ks.map (fun k=>PV.str k.w)=(wk ks).map .str from by unfold wk;rw [CP];rfl];refine Ho 7 rfl ?_;rw [vt (C:=totC ks r cs)];have hC:=Mh ks r cs;generalize hE:totC ks r cs=C at hC;have rO:∀ c∈C,0<=c/\c<=10 ^ 12:=fun c hc=>by rw [<- hE] at hc;exact ZU g hz hc
 refine AU (Dt (E1 (fun _ i A7=>∃ (s8 s9 G3 Gz:Slot),A7=[.is (.lst (ks.map Kd.P)),.is (.lst (cs.map .str)),.is (.str r),.is (N5 L m),.is (.int (J5 ks r cs)),.is (.tup (C.map .int)),.own (EC ks.length (stK ks cs C i)),.is (.lst ((wk ks).map .str)),s8,s9,G3,Gz]) ?_))
 walk_at "ww"
 rw [A9];refine ⟨by omega,by omega,⟨_,_,_,_,rfl⟩,?_,?_⟩
 ·rintro i p A7 hp ⟨s8,s9,G3,Gz,rfl⟩;obtain ⟨hi,rfl⟩:=Rn hp;have hi:i<ks.length:=by omega
  have ek:ks[i]?=some ks[i]:=AR hi;have ew:(wk ks)[i]?=some ks[i].w:=by rw [AV,ek];rfl
  have wm:=C2 ew;have ec:C[i]?=some C[i]:=AR (by omega);have bc:=rO C[i] (Fq _);have ps:Bg ks ks[i].w=ks[i].ps/\E8 ks ks[i].w=ks[i].g:=by
   obtain ⟨k,e1,e2,e3,e4,_⟩:=g.at wm;rw [Mc g.nd ew,ek] at e1;cases e1;exact ⟨e3,e4⟩
  refine Ey ?_;refine AU (Dt (E1 (fun _ n A7=>∃ (s9 G3 Gz:Slot),A7=[.is (.lst (ks.map Kd.P)),.is (.lst (cs.map .str)),.is (.str r),.is (N5 L m),.is (.int (J5 ks r cs)),.is (.tup (C.map .int)),.own (EC ks.length fun j=>stK ks cs C i j+C[i] * ((((Bg ks ks[i].w).take n).map (·.2)).count ((wk ks).getD j Str.empty):Nat)),.is (.lst ((wk ks).map .str)),.is (.int (i:Int)),s9,G3,Gz]) (CF (Bp (BA (BH (GQ (Ck rfl ⟨rfl,A5 rfl ⟨_,_,rfl,En (by rw [AV,ek];rfl),?_⟩⟩))))))))
  refine ⟨_,.inr ⟨rfl,rfl,Aq ⟨_,_,rfl,rfl,_,.inr ⟨rfl,⟨s9,G3,Gz,?_⟩,?_,?_⟩⟩⟩⟩
  ·rw [show (fun j=>stK ks cs C i j+C[i] * ((((Bg ks ks[i].w).take 0).map (·.2)).count ((wk ks).getD j Str.empty):Nat))=stK ks cs C i from by funext j;simp]
   rfl
  ·rintro n q A7 hq ⟨s9,G3,Gz,rfl⟩;rw [AV] at hq;obtain ⟨p,ep,rfl⟩:=Option.map_eq_some_iff.mp hq;rw [<- ps.1] at ep;have pm:=((g.GU ks[i].w).2 p (C2 ep)).2;have hx:=List.idxOf_lt_length_iff.mpr pm;have L1:(wk ks).idxOf p.2<ks.length:=by rw [A9] at hx;exact hx
   refine Ni ⟨_,_,rfl,?_⟩;have eI:=Nj (n:=ks.length) (f:=fun j=>stK ks cs C i j+C[i] * ((((Bg ks ks[i].w).take n).map (·.2)).count ((wk ks).getD j Str.empty):Nat)) L1
   have st:=nG g (f:=stK ks cs C i) (c:=C[i]) (ys:=((Bg ks ks[i].w).take n).map (·.2)) pm
   refine AU (EL (Qt (Ck rfl ⟨rfl,wk ks,rfl,A5 rfl ⟨p.2,rfl,pm,?_⟩⟩)));refine dF rfl (Im (GQ (LX rfl ⟨rfl,A5 rfl ⟨_,_,rfl,En eI,_,rfl,?_⟩⟩)));refine BA (BG rfl ⟨rfl,A5 rfl ⟨_,_,rfl,En (by rw [AV,ec];rfl),_,rfl,A5 rfl ⟨(wk ks).idxOf p.2,rfl,by rw [Kn];exact L1,.is (.str p.1),.is (.str p.2),.is (.int ((wk ks).idxOf p.2:Nat)),?_⟩⟩⟩);rw [Fo ep,CO,Ac,Ek,<- st,Z1];rfl
  ·rintro A7 ⟨s9,G3,Gz,rfl⟩;rw [A9,<- ps.1,Ee];have eI:=Nj (n:=ks.length) (f:=fun j=>stK ks cs C i j+C[i] * ((((Bg ks ks[i].w)).map (·.2)).count ((wk ks).getD j Str.empty):Nat)) hi
   refine dF rfl (Im (GQ (LX rfl ⟨rfl,A5 rfl ⟨_,_,rfl,En eI,_,rfl,?_⟩⟩)));refine Uj (BA (BG rfl ⟨rfl,A5 rfl ⟨_,_,rfl,En (by rw [AV,ec];rfl),_,rfl,?_⟩⟩));refine Od rfl (BA (BH (GQ (Ck rfl ⟨rfl,A5 rfl ⟨_,_,rfl,En (by rw [AV,ek];rfl),_,.inr ⟨rfl,rfl,Aq ⟨_,_,rfl,rfl,_,rfl,_,rfl,fR bc.1 (by omega) (by split <;> decide) (by split <;> decide),_,rfl,A5 rfl ⟨i,rfl,by rw [Kn];exact hi,.is (.int (i:Int)),s9,G3,Gz,?_⟩⟩⟩⟩⟩))))
   rw [Z1,<- yX ew ec,ps.2];rfl
 ·rintro A7 ⟨s8,s9,G3,Gz,rfl⟩;rw [Gx,HE,vY hC];refine Dw (Ej (Bm (A5 rfl (Bm (A5 rfl (Bm (IW rfl (LX rfl (Df ⟨by show 3<=100000;decide,?_⟩)))))))));rw [<- hE];rfl
def sI:B6 ["found"] ["found"] (AZ Ts):=by walk_at "z1"
def d5 : ∀ ss R,S8 ss R->ss.length=1:=by rintro _ _ ⟨i,rfl,rfl⟩;rfl
def x6 (F:AO K "_law_whole" "_law_whole" Ts f fd)(m:mg "_law_whole"=some (.ref f)):
  AB P w K mg base "_law_whole" 1 ["found"] (AN S8):=by
 refine AB.mk F (F.binds (by walk_at "bD1")) m (F.BE (k:=0) sI (fun vs H Q E h=>Fz.Bv d5 h) (fun Ab A outer s H vs Q E hr h=>?_))
 refine ⟨_,(AK rfl (B5 (cg (Bh MW HK (A0 (qv 0) (A0 (ND "int" Gf) A6))) (bM (jc (Bh MW HK (A0 (qv 0) (A0 (ND "bool" UQ) A6)))))))),?_⟩;refine Fz.By h d5 ?_;rintro _ _ ⟨i,rfl,rfl⟩;show Ws [_] _ _ _;refine Dw (eT (MH (A5 rfl ⟨true,Qg _ _,_,rfl,eO ?_⟩)));exact fD (MH (A5 rfl ⟨false,me _,_,rfl,rfl⟩))
def iH:B6 ["found","due"] ["found","due"] (AZ P6):=by walk_at "z1"
def xW:Scope:={ kind:=.function,names:=[(".0", .local),("number", .local),("_law_whole", .globalImplicit)],isGenerator:=false,isCoroutine:=false,more:=[] }
def gx:CK ["found","due"] (AZ P6) xW "number" [] []:=by walk_at "z2"
def cb : ∀ ss R,WR ss R->ss.length=2:=by rintro _ _ ⟨A,n,B,rfl,_,_,_,rfl⟩;rfl
def vW (F:AO K "_law_right" "_law_right" P6 f fd)(m:mg "_law_right"=some (.ref f)):
  AB P w K mg base "_law_right" 2 ["found","due"] (AN WR):=by
 refine AB.mk F (F.binds (by walk_at "bD2")) m (F.BE (k:=1) iH (fun vs H Q E h=>Fz.Bv cb h) (fun Ab A outer s H vs Q E hr h=>?_))
 refine ⟨_,(AE rfl (Bc (JX (GX (Gm (Bh MW HK (A0 (qv 0) (A0 (ND "tuple" Bt) A6))))) (JX (BI qT (Bh Gd B9 (A0 (qv 0) A6)) AA) (JX (BI (Fz.oG hr.units) (qv 0) (qv 1)) (MF (GX (Gm (Ae Pt hr (A0 (AY Ax (qv 0) AA) A6)))))))).pt (AK rfl (B5 Ic)) BW)
   (AE rfl (Bc (JX (GX (Gm (Bh MW HK (A0 (AY Ax (qv 0) AA) (A0 (ND "tuple" Bt) A6))))) (MF (GX (Gm (Bh MW HK (A0 (AY Ax (qv 0) AA) (A0 (ND "tuple" Bt) A6))))))).pt (AK rfl (B5 Ic)) BW)
   (AK rfl (B5 (Bh (YK rfl) Ls (A0 (ER rfl gx (Bf (Ap o8 (AY Ax (qv 0) AA) (AY Ax (qv 0) AA))) (fun _ _ _ _=>by exact Dm) (fun _ _ _ _=>by exact (Ae Pt hr (A0 (qv 0) A6)))) A6)))))),?_⟩
 refine Fz.By h cb ?_;rintro _ _ ⟨A,n,B,rfl,h1,hA,hB,rfl⟩;show Ws [.is (Kg A n B),.is (Kg A n B)] _ _ _;have dt:dat K 40 (Kg A n B):=fun x hx=>by
  simp only [Dq,Aa,lg] at hx;rcases hx with rfl | rfl | rfl
  ·exact fun y hy=>by obtain ⟨_,_,rfl⟩:=List.mem_map.mp hy;trivial
  ·trivial
  ·exact fun y hy=>by obtain ⟨_,_,rfl⟩:=List.mem_map.mp hy;trivial
 refine AU (D3 (KW (Hl (Er (MH (A5 rfl ⟨true,Qg _ _,_,rfl,CN (by decide) ?_⟩))))));refine KW (CJ (YB (Lx (BG rfl (Aq ⟨rfl,_,rfl,CN (by show ¬ (!alike (.int 3) (.int 3))=true;decide) ?_⟩)))));refine KW (CJ (Zi (A5 rfl (A5 rfl ⟨dt,dt,_,rfl,CN (by rw [qH 40 dt];decide) ?_⟩))));refine Hl (Er (wp_call (AW (BA (BG rfl ⟨rfl,Aq ⟨_,_,rfl,rfl,Ay ⟨_,⟨_,rfl,rfl⟩,?_⟩⟩⟩)))));rintro _ rfl;refine ⟨_,rfl,CN (by decide) (C0 ?_)⟩;refine AU (D3 (KW (Hl (Er (MH (BA (BG rfl ⟨rfl,Aq ⟨_,_,rfl,rfl,true,Qg _ _,_,rfl,CN (by decide) ?_⟩⟩)))))));refine Hl (Er (MH (BA (BG rfl ⟨rfl,Aq ⟨_,_,rfl,rfl,true,Qg _ _,_,rfl,CN (by decide) (C0 ?_)⟩⟩))));refine Dw (cN rfl (BH (B4 (Dg PV.int (fun _=>true) (fun _=>PV.bl true) (CF (Bp (jL (BA (BG rfl ?_))))) (fun a b e=>by injection e)))));refine ⟨rfl,Aq ⟨_,_,rfl,rfl,_,rfl,?_,BA (BG rfl ⟨rfl,Aq ⟨_,_,rfl,rfl,_,rfl,?_,_,.inr ⟨rfl,A++B,List.map_append.symm,?_,fun _ _=>Du rfl,fun i _ _=>?_,?_⟩⟩⟩)⟩⟩
 ·intro e;have:=l9 List.length e;rw [A9,gI] at this;omega
 ·rw [A9,A9];omega
 ·rw [Bo];omega
 ·refine wp_call (AW (A5 rfl (Ay ⟨_,⟨_,rfl,rfl⟩,?_⟩)));rintro _ rfl;rfl
 ·rw [List.filter_eq_self.mpr fun _ _=>rfl];refine ⟨_,.inl ⟨rfl,rfl,(A++B).map fun _=>true,by rw [CP];rfl,?_⟩⟩;rw [show ((A++B).map fun _=>true).all id=true from List.all_eq_true.mpr fun b hb=>by obtain ⟨_,_,rfl⟩:=List.mem_map.mp hb;rfl]
def tJ:B6 ["self"] ["self"] (AZ Tn):=by walk_at "z1"
def fH:∀ ss R,(Jr A4) ss R->ss.length=1:=by rintro _ _ ⟨ks,rfl,_,rfl⟩;rfl
def ja (F:AO K "words" "Errands.words" Tn f fd)(mt:Meth K A4 "words" f):
  FJ P w K mg base A4 "words" 1 ["self"] (AN (Jr A4)):=by
 refine ⟨f,fd,F.BE (k:=0) tJ (fun vs H Q E h=>Fz.Bv fH h) (fun Ab A outer s H vs Q E hr h=>?_),(F.binds (by walk_at "bD1")),mt,D8⟩
 refine ⟨_,(AK rfl (B5 (Dh (wA rfl) Cu (A0 (Jj (qv 0)) A6)))),?_⟩;refine Fz.By h fH ?_;rintro _ _ ⟨ks,rfl,g,rfl⟩;show Ws [_] _ _ _;have l8:=g.l8;refine Jw (l5 (MV (A5 rfl ⟨A4,Ds,_,0,_,rfl,D8,G9,by decide +kernel,rfl,Ad (wk ks),_,rfl,by unfold Ad;rw [A9,A9];omega,mh _⟩)))
def tP:B6 ["rule"] ["rule"] (AZ Rp):=by walk_at "z1"
def eE : ∀ ss R,Tq ss R->ss.length=1:=by rintro _ _ ⟨r,rfl,_,rfl⟩;rfl
def wV (F:AO K "check_rule" "check_rule" Rp f fd)(m:mg "check_rule"=some (.ref f)):
  AB P w K mg base "check_rule" 1 ["rule"] (AN Tq):=by
 refine AB.mk F (F.binds (by walk_at "bD1")) m (F.BE (k:=0) tP (fun vs H Q E h=>Fz.Bv eE h) (fun Ab A outer s H vs Q E hr h=>?_))
 refine ⟨_,(AK rfl (Bc (BI OR (qv 0) (Hr (v:=.ref J0) (by rfl) WC rfl)) (AK rfl Hn) BW)),?_⟩;refine Fz.By h eE ?_;rintro _ _ ⟨r,rfl,hr,rfl⟩;have C:FX K J0 (Cv.map .str):=FX.of T3 rfl rfl;show Ws [_] _ _ _;refine D3 (CJ (Qo (neg:=true) C (A5 rfl ⟨r,rfl,_,rfl,?_⟩)));rw [hJ hr];exact CN (by decide) (C0 ⟨_,rfl,rfl⟩)
def ZE:B6 ["book","crowd","word"] ["book","crowd"] (AZ V9):=by walk_at "z1"
def ZR:∀ ss R,(U8 A4) ss R->ss.length=2:=by rintro _ _ ⟨ks,tp,cs,rfl,_,_,_,rfl⟩;rfl
def lG (F:AO K "check_crowd" "check_crowd" V9 f fd)(m:mg "check_crowd"=some (.ref f)):
  AB P w K mg base "check_crowd" 2 ["book","crowd"] (AN (U8 A4)):=by
 refine AB.mk F (F.binds (by walk_at "bD2")) m (F.BE (k:=1) ZE (fun vs H Q E h=>Fz.Bv ZR h) (fun Ab A outer s H vs Q E hr h=>?_))
 refine ⟨_,(AE rfl (Bc (BI Pd (Bh Gd B9 (A0 (qv 1) A6)) (Hr (v:=.int 12) (by rfl) Up ⟨_,rfl⟩)) (AK rfl Hn) BW)
   (AK rfl (DA Cf rfl (Bf (qv 1)) (Bw 2 ZE.nd) (AK rfl (D7 (Ae FY hr (A0 (LP ED hr (by decide) (qv 0)) (A0 (qv 2) A6)))))))),?_⟩
 refine Fz.By h ZR ?_;rintro _ _ ⟨ks,tp,cs,rfl,g,hz,hc,rfl⟩;show Ws [_,_,.any] _ _ _;have l8:=g.l8
 walk_at "ww"
 rw [A9];refine CN (fun c=>by have:=i8 c;omega) (C0 ?_);refine E1 (fun _ i A7=>∃ (s2:Slot),A7=[.is (BS A4 ks),.sq tp (cs.map .str),s2]) ?_
 walk_at "ww"
 refine ⟨⟨_,rfl⟩,?_,?_⟩
 ·rintro i p A7 hp ⟨s2,rfl⟩;rw [AV] at hp;obtain ⟨c,ex,rfl⟩:=Option.map_eq_some_iff.mp hp;refine Ey ?_;refine HQ (wp_call (AW (B4 (JE (A5 rfl ⟨Ds,_,rfl,by decide +kernel,Ay ⟨_,⟨ks,rfl,g,rfl⟩,?_⟩⟩)))));rintro _ rfl;refine AW (A5 rfl (Ay ⟨_,⟨wk ks,_,c,rfl,.inl rfl,by rw [A9];omega,hc c (C2 ex),rfl⟩,?_⟩));rintro _ rfl;exact ⟨_,rfl⟩
 ·rintro A7 ⟨s2,rfl⟩;exact ⟨_,rfl,rfl⟩
def ot:B6 ["self","word"] ["self","word"] (AZ Sz):=by walk_at "z1"
def YN:∀ ss R,(Pw A4) ss R->ss.length=2:=by rintro _ _ ⟨ks,x,rfl,_,_,rfl⟩;rfl
def yh (F:AO K "puts" "Errands.puts" Sz f fd)(mt:Meth K A4 "puts" f):
  FJ P w K mg base A4 "puts" 2 ["self","word"] (AN (Pw A4)):=by
 refine ⟨f,fd,F.BE (k:=1) ot (fun vs H Q E h=>Fz.Bv YN h) (fun Ab A outer s H vs Q E hr h=>?_),(F.binds (by walk_at "bD2")),mt,D8⟩
 refine ⟨_,(AE rfl (D7 (Ae FY hr (A0 (Jj (qv 0)) (A0 (qv 1) A6))))
   (AK rfl (B5 (Dh NY Cu (A0 (GH (Cb hr) (Jj (qv 0)) (qv 1) (fun _ _=>rfl)) A6))))),?_⟩
 refine Fz.By h YN ?_;rintro _ _ ⟨ks,x,rfl,g,hx,rfl⟩;show Ws [_,_] _ _ _;have l8:=g.l8;obtain ⟨k,ek,_,ep,_,_⟩:=g.at hx;refine AU (HQ (wp_call (AW (MV (A5 rfl ⟨A4,Ds,_,0,_,rfl,D8,G9,by decide +kernel,rfl,AW (A5 rfl (Ay ⟨_,⟨wk ks,_,x,rfl,.inr ⟨_,rfl⟩,by rw [A9];omega,hx,rfl⟩,?_⟩))⟩)))));rintro _ rfl;refine Jw (Kp rfl (BH (Gi (MV (A5 rfl ⟨A4,Ds,_,0,_,rfl,D8,G9,by decide +kernel,rfl,Ad (wk ks),_,rfl,A5 rfl ⟨.inr x,_,rfl,Jd hx (by rw [AV,ek];rfl),_,.inr ⟨rfl,?_⟩⟩⟩)))));rw [ep]
def jg:B6 ["book","word","rule"] ["book","word","rule"] (AZ QD):=by walk_at "z1"
def ye:Scope:={ kind:=.function,names:=[(".0", .local),("put", .local),("WHERES_AHEAD", .globalImplicit),("rule", .free)],isGenerator:=false,isCoroutine:=false,more:=[] }
def mn:CK ["book","word","rule"] (AZ QD) ye "put" ["rule"] [2]:=by walk_at "z2"
def cz:∀ ss R,(Lj A4) ss R->ss.length=3:=by rintro _ _ ⟨ks,x,r,rfl,_,_,_,rfl⟩;rfl
def yV (F:AO K "comers_of" "comers_of" QD f fd)(m:mg "comers_of"=some (.ref f)):
  AB P w K mg base "comers_of" 3 ["book","word","rule"] (AN (Lj A4)):=by
 refine AB.mk F (F.binds (by walk_at "bD3")) m (F.BE (k:=2) jg (fun vs H Q E h=>Fz.Bv cz h) (fun Ab A outer s H vs Q E hr h=>?_))
 refine ⟨_,(AE rfl (Bc (BI Fb (qv 2) BD) (AK rfl (B5 (EK A6))) BW)
   (AK rfl (B5 (ER rfl mn (Bf (WO Ku hr (by decide) (qv 0) (A0 (qv 1) A6))) (fun _ _ _ _=>by exact (L4 (JX (BI Fb (qv 0) BD) (MF (BI (show B2 _ (compareOp .In) (GS K false) from GD) (AY (show Cc _ (Di K) from Ax) (qv 1) AA) (Hr (v:=.ref FG) (by rfl) Lq rfl)))).pt)) (fun _ _ _ _=>by exact (qv 1)))))),?_⟩
 refine Fz.By h cz ?_;rintro _ _ ⟨ks,x,r,rfl,g,hx,hr,rfl⟩;have C:FX K FG (Cw.map .str):=FX.of Ks rfl rfl;show Ws [_,_,_] _ _ _;have h6:=(g.GU x).1
 walk_at "ww"
 refine CM (fun c=>?_) (fun c=>C0 ?_)
 ·have e:r="none" := i8 c
  walk_at "ww"
  refine ⟨by decide,?_⟩;unfold BK;rw [gq e];rfl
 ·have e:¬ r="none" := fun z=>c (hJ z);refine Jw (Dg Ar (fun p=>decide (r="all") || decide (p.1∈Cw)) Ar (CF (Bp (B4 (JE (A5 rfl ⟨Ds,_,rfl,by decide +kernel,AW (A5 rfl (Ay ⟨_,⟨ks,x,rfl,g,hx,rfl⟩,?_⟩))⟩))))) W4);rintro _ rfl;refine ⟨_,.inl ⟨rfl,Bg ks x,rfl,by omega,fun p hp=>?_,fun p hp _=>A5 rfl rfl,?_⟩⟩
  ·refine KW (CJ (KI (A5 rfl (EW ⟨rfl,_,rfl,?_⟩))));show if decide (r="all")=true then _ else _
   refine CM (fun c2=>by rw [c2];rfl) (fun c2=>?_);refine CJ (Qo (neg:=false) C (BA (BG rfl ⟨rfl,Aq ⟨_,_,rfl,rfl,p.1,rfl,_,rfl,?_⟩⟩)));rw [Bool.eq_false_iff.mpr c2];rfl
  ·unfold BK;rw [gg e]
def NB:B6 ["book","rule","way","settled","put","first","found"] ["book","rule","way","settled"] (AZ Ox):=by walk_at "z1"
def Xj:∀ ss R,(Jk A4 n) ss R->ss.length=4:=by rintro _ _ ⟨ks,r,V,x,L,a,rfl,_,_,_,_,_,_,_,_,_,_,rfl⟩;rfl
def yJ (n:Nat)(F:AO K "ring_along" "ring_along" Ox f fd)(m:mg "ring_along"=some (.ref f))(O8:AB P w K mg base "ring_along" (4+n) ["book","rule","way","settled"] (DS (Jk A4 (n)))):
  AB P w K mg base "ring_along" (4+n+1) ["book","rule","way","settled"] (DS (Jk A4 (n+1))):=by
 refine AB.mk F (F.binds (by walk_at "bD4")) m (F.BE (k:=4+n) NB (fun vs H Q E h=>Fz.SA Xj h) (fun Ab A outer s H vs Q E hr h=>?_))
 refine ⟨_,(AE rfl (Bc (d4 (Cb hr) (AY Ca (qv 2) (SJ Ra AA)) (qv 3)) (AK rfl (B5 Lo)) BW)
   (AE rfl (CC (DA Cf rfl (Bf (Ae (hk:=by omega) GY hr (A0 (qv 0) (A0 (AY Ca (qv 2) (SJ Ra AA)) (A0 (qv 1) A6))))) (Bw 4 NB.nd) (AE rfl (Bc (BI GD (AY Ax (qv 4) AA) (qv 2)) (AE rfl (Ai 5 NB.nd (EZ Ef X8 gY Rq (qv 2) (A0 (AY Ax (qv 4) AA) A6)))
   (AK rfl (B5 (DT (A0 (Nh SH (qv 2) MG (Na (Ap Ed (qv 5) AA))) (A0 (Nh SH (qv 2) (Na (qv 5)) MG) A6)))))) BW)
   (AE rfl (Ai 6 NB.nd (Ae (hk:=by omega) O8 hr (A0 (qv 0) (A0 (qv 1) (A0 (Ap SD (qv 2) (EK (A0 (AY Ax (qv 4) AA) A6))) (A0 (qv 3) A6))))))
   (AK rfl (Bc (BI TR (qv 6) Lo) (AK rfl (B5 (qv 6))) BW))))))
   (AE rfl (J9 (Cb hr) (qv 3) (AY Ca (qv 2) (SJ Ra AA)) Ic)
   (AK rfl (B5 Lo))))),?_⟩
 refine Fz.ij h Xj ?_;rintro _ _ ⟨ks,r,V,x,L,a,rfl,g,hr,h9,nd,sub,ch,vL,tL,FR,sL,rfl⟩;show Ws [_,_,_,_,.any,.any,.any] _ _ _;have l8:=g.l8;have xw:x∈wk ks:=sub x (by simp);have lW:(V++[x]).length<=8:=by
  have:=Ep nd sub;rw [A9] at this;omega
 have lst:∀ {ss:List Slot}{k:PV->Prop},ss[2]?=some (.is (.lst ((V++[x]).map .str)))->k (.str x)->Wp ss (BP (Nr K) (B1 2) (OP (rU fun i=>.int (-i)) (tC (.int 1)))) k:=fun h hk=>GQ (Ck h ⟨rfl,fY (Aq ⟨_,rfl,_,_,rfl,pO V x,hk⟩)⟩);refine AU (D3 (Er (Yr (lst rfl (Gh (i:=3) rfl ⟨Ad L,a,_,.inr x,rfl,rfl,_,rfl,?_⟩)))));rw [Ko];refine CM (fun c=>?_) (fun c=>C0 ?_)
 ·exact PL (i:=3) rfl (IA ⟨L,rfl,.inl ⟨rfl,tL,FR,sL,fun y h=>h,vL,i8 c⟩⟩)
 have hx:x∉L:=fun z=>c (hJ z);refine AU (Dt (E1 (fun xs i A7=>∃ (L':List Str) (s4 s5 s6:Slot),A7=[.is (BS A4 ks),.is (.str r),.is (.lst ((V++[x]).map .str)),.ow true (Lb a L'),s4,s5,s6]/\Top (AL ks r) L'/\L'.Nodup/\(∀ y∈L',y∈wk ks)/\(∀ y∈L,y∈L')/\(∀ y∈V++[x],y∉L')/\∀ p∈(BK ks r x).take i,p.2∈L') (CF (Bp (B4 (Gp (AW (A5 rfl (AW (lst rfl (AW (A5 rfl (Ay ⟨_,⟨ks,x,r,rfl,g,xw,hr,rfl⟩,?_⟩)))))))))))));rintro _ rfl;refine ⟨_,.inl ⟨rfl,⟨L,_,_,_,rfl,tL,FR,sL,fun y h=>h,fun y hy=>?_,fun p hp=>absurd hp (by simp)⟩,?_,?_⟩⟩
 ·rcases List.mem_append.mp hy with h | h
  ·exact vL y h
  ·rw [List.mem_singleton.mp h];exact hx
 ·rintro i q A7 hq ⟨L',s4,s5,s6,rfl,K2,EN,IQ,Ua,nV,Cj⟩;rw [AV] at hq;obtain ⟨p,ep,rfl⟩:=Option.map_eq_some_iff.mp hq;have pm:=C2 ep;have pn:p.2∈AL ks r x:=List.mem_map.mpr ⟨p,pm,rfl⟩;refine Ey ?_;refine AU (D3 (CJ (Ip (BA (BG rfl ⟨rfl,Aq ⟨_,_,rfl,rfl,p.2,rfl,Ck rfl ⟨V++[x],rfl,_,rfl,?_⟩⟩⟩)))));refine CM (fun c=>?_) (fun c=>C0 ?_)
  ·have hp:=i8 c;have hi:=List.idxOf_lt_length_iff.mpr hp;refine AU (EL (Qt (Ck rfl ⟨rfl,V++[x],rfl,BA (BG rfl ⟨rfl,Aq ⟨_,_,rfl,rfl,p.2,rfl,hp,?_⟩⟩)⟩)));refine PL (i:=3) rfl (Ej (Bm (B4 (V2 (Ck rfl ⟨rfl,Rv (Rc (Im (A5 rfl ⟨_,rfl,Aq ⟨_,rfl,_,rfl,?_⟩⟩)))⟩)))));refine Bm (B4 (V2 (Ck rfl ⟨rfl,Rc (A5 rfl ⟨_,rfl,Rv (Df ⟨by show 2<=100000;decide,L',rfl,.inr ⟨V++[x],(V++[x]).idxOf p.2,?_,List.prefix_refl _,nd,ch,sub,p.2,x,?_,?_,pn⟩⟩)⟩)⟩)))
   ·rw [SY,SY];unfold VX;rw [show EU (V++[x]) none (some (((V++[x]).idxOf p.2:Nat)+1:Int))=(V++[x]).take ((V++[x]).idxOf p.2+1) from qz (V++[x]) _,show EU (V++[x]) (some (((V++[x]).idxOf p.2:Nat):Int)) none=(V++[x]).drop ((V++[x]).idxOf p.2) from sj (V++[x]) _]
   ·rw [AR hi,GN hi]
   ·simp
  ·have hp:p.2∉V++[x]:=fun z=>c (hJ z);refine AU (cj (i:=3) (P4 rfl (FW (A5 rfl (FW (A5 rfl (FW (B4 (Qq (Ck rfl ⟨rfl,BH (B4 (Je (Bm (BA (BG rfl ⟨rfl,Aq ⟨_,_,rfl,rfl,Df ⟨by show 1<=100000;decide,?_⟩⟩⟩)))))⟩))))))))));refine ⟨_,.inl ⟨rfl,rfl,by rw [A9];show _+1<=_;omega,Ot rfl (MD ⟨_,⟨ks,r,V++[x],p.2,L',a,by rw [CO (l₁:=V++[x])];rfl,g,hr,by rw [Bo,IF];omega,KP nd hp,fun y hy=>?_,ch.snoc pn,nV,K2,EN,IQ,rfl⟩,?_⟩)⟩⟩
   ·rcases List.mem_append.mp hy with h | h
    ·exact sub y h
    ·rw [List.mem_singleton.mp h];exact g.Vf pn
   rintro q t' ⟨L2,rfl,hq⟩;refine ⟨_,_,rfl,?_⟩;rcases hq with ⟨rfl,Th,EY,Tu,HZ,eP,p2⟩ | ⟨W,j,rfl,pre,rg⟩
   ·refine D3 (CJ (NW (A5 rfl (IA ⟨rfl,_,rfl,CN (by decide) (C0 ⟨L2,_,_,_,rfl,Th,EY,Tu,fun y h=>HZ y (Ua y h),eP,fun z hz=>?_⟩)⟩))));rw [Fo ep] at hz;rcases List.mem_append.mp hz with h | h
    ·exact HZ _ (Cj z h)
    ·rw [List.mem_singleton.mp h];exact p2
   ·refine D3 (CJ (NW (A5 rfl (IA ⟨rfl,_,rfl,J3 rfl ?_⟩))));exact PL (i:=3) rfl (A5 rfl ⟨L2,rfl,.inr ⟨W,j,rfl,(List.prefix_append _ _).trans pre,rg⟩⟩)
 ·rintro A7 ⟨L',s4,s5,s6,rfl,K2,EN,IQ,Ua,nV,Cj⟩;rw [A9,Ee] at Cj;have GK:x∉L':=nV x (by simp);have l3:=Ep EN IQ;rw [A9] at l3;refine AU (Qd (i:=3) (HA (O7 (Gh rfl ⟨true,a,Ad L',_,rfl,rfl,by rw [A9];omega,Mu EN,Aa,lst rfl ⟨.inr x,rfl,?_⟩⟩))));rw [OV.Gq,MU GK,Ol GK];refine PL (i:=3) rfl (IA ⟨L'++[x],?_,.inl ⟨rfl,K2.snoc fun y hy=>?_,KP EN GK,fun y hy=>?_,fun y hy=>by simp [Ua y hy],fun y hy m=>?_,by simp⟩⟩)
  ·unfold Lb;rw [CO];rfl
  ·obtain ⟨p,hp,rfl⟩:=List.mem_map.mp hy;exact Cj p hp
  ·rcases List.mem_append.mp hy with h | h
   ·exact IQ y h
   ·rw [List.mem_singleton.mp h];exact xw
  ·rcases List.mem_append.mp m with h | h
   ·exact nV y (by simp [hy]) h
   ·rw [List.mem_singleton.mp h] at hy;exact (List.nodup_append.mp nd).2.2 x hy x (by simp) rfl
def tI (F:AO K "ring_along" "ring_along" Ox f fd)(m:mg "ring_along"=some (.ref f)):AB P w K mg base "ring_along" 13 ["book","rule","way","settled"] (DS (Jk A4 9)):=by
 have z:∀ n:Nat,AB P w K mg base "ring_along" (4+n) ["book","rule","way","settled"] (DS (Jk A4 (n))):=fun n=>by
  induction n with
  | zero=>exact AB.mk F (F.binds (by walk_at "bD4")) m (F.BE (k:=3) NB (fun vs H Q E h=>(Fz.R0 (YX) h).elim) (fun Ab A outer s H vs Q E hr h=>(Fz.R0 (YX) h).elim))
  | succ n ih=>exact yJ (A4:=A4) GY n F m ih
 exact z 9
def QK:B6 ["book","crowd","rule","settled","word","found"] ["book","crowd","rule"] (AZ VQ):=by walk_at "z1"
def XW:∀ ss R,(Vr A4) ss R->ss.length=3:=by rintro _ _ ⟨ks,tp,cs,r,rfl,_,_,_,_,rfl⟩;rfl
def wc (F:AO K "way_and_ring" "way_and_ring" VQ f fd)(m:mg "way_and_ring"=some (.ref f))(O8:AB P w K mg base "ring_along" 13 ["book","rule","way","settled"] (DS (Jk A4 9))):
  AB P w K mg base "way_and_ring" 14 ["book","crowd","rule"] (AN (Vr A4)):=by
 refine AB.mk F (F.binds (by walk_at "bD3")) m (F.BE (k:=13) QK (fun vs H Q E h=>Fz.Bv XW h) (fun Ab A outer s H vs Q E hr h=>?_))
 refine ⟨_,(AE rfl (Ai 3 QK.nd Kl)
   (AE rfl (CC (DA Cf rfl (Bf (qv 1)) (Bw 4 QK.nd) (AE rfl (Ai 5 QK.nd (Ae O8 hr (A0 (qv 0) (A0 (qv 2) (A0 (EK (A0 (qv 4) A6)) (A0 (qv 3) A6))))))
   (AK rfl (Bc (BI TR (qv 5) Lo) (AK rfl (B5 (qv 5))) BW)))))
   (AK rfl (B5 Lo)))),?_⟩
 refine Fz.By h XW ?_;rintro _ _ ⟨ks,tp,cs,r,rfl,g,hr,hz,hc,rfl⟩;show Ws [_,_,_,.any,.any,.any] _ _ _;refine AU (Ja (Lg fun a=>?_));show Ws [_,_,_,.ow false (Lb a []),.any,.any] _ _ _;refine AU (Dt (E1 (fun xs i A7=>∃ (L':List Str) (s4 s5:Slot),A7=[.is (BS A4 ks),.sq tp (cs.map .str),.is (.str r),.ow false (Lb a L'),s4,s5]/\Top (AL ks r) L'/\L'.Nodup/\(∀ y∈L',y∈wk ks)/\∀ y∈cs.take i,y∈L') ?_))
 walk_at "ww"
 refine ⟨⟨[],_,_,rfl,Top.nil,IG,fun y hy=>absurd hy Aa,fun y hy=>absurd hy (by simp)⟩,?_,?_⟩
 ·rintro i q A7 hq ⟨L',s4,s5,rfl,K2,EN,IQ,Cj⟩;rw [AV] at hq;obtain ⟨c,ec,rfl⟩:=Option.map_eq_some_iff.mp hq;have cm:=C2 ec;refine Ey ?_;refine AU (cj (i:=3) (P4 rfl (FW (A5 rfl (FW (A5 rfl (FW (B4 (Je (Bm (A5 rfl (Df ⟨by show 1<=100000;decide,?_⟩))))))))))));refine Ot rfl (MD ⟨_,⟨ks,r,[],c,L',a,rfl,g,hr,by decide,by simp,fun y hy=>?_,HN.one c,fun y hy=>absurd hy Aa,K2,EN,IQ,rfl⟩,?_⟩)
  ·rw [M9,ZA5] at hy;rw [hy];exact hc c cm
  rintro q t' ⟨L2,rfl,hq⟩;refine ⟨_,_,rfl,?_⟩;rcases hq with ⟨rfl,Th,EY,Tu,HZ,eP,p2⟩ | ⟨W,j,rfl,pre,rg⟩
  ·refine D3 (CJ (NW (A5 rfl (IA ⟨rfl,_,rfl,CN (by decide) (C0 ⟨L2,_,_,rfl,Th,EY,Tu,fun z hz=>?_⟩)⟩))));rw [Fo ec] at hz;rcases List.mem_append.mp hz with h | h
   ·exact HZ _ (Cj z h)
   ·rw [List.mem_singleton.mp h];exact p2
  ·refine D3 (CJ (NW (A5 rfl (IA ⟨rfl,_,rfl,J3 rfl ?_⟩))));obtain ⟨W2,eW⟩:=pre;refine Dw (A5 rfl (.inr ⟨W,j,c,rfl,rg,?_,cm⟩));rw [<- eW];rfl
 ·rintro A7 ⟨L',s4,s5,rfl,K2,EN,IQ,Cj⟩;rw [A9,Ee] at Cj;exact Dw (IA (.inl ⟨rfl,L',K2,EN,IQ,Cj⟩))
def qO:B6 ["book","crowd","rule"] ["book","crowd","rule"] (AZ UW):=by walk_at "z1"
def aY:∀ ss R,(TY A4) ss R->ss.length=3:=by rintro _ _ ⟨ks,tp,cs,r,rfl,_,_,_,_,_,rfl⟩;rfl
def rf (F:AO K "check_ends" "check_ends" UW f fd)(m:mg "check_ends"=some (.ref f)):
  AB P w K mg base "check_ends" 15 ["book","crowd","rule"] (AN (TY A4)):=by
 refine AB.mk F (F.binds (by walk_at "bD3")) m (F.BE (k:=14) qO (fun vs H Q E h=>Fz.Bv aY h) (fun Ab A outer s H vs Q E hr h=>?_))
 refine ⟨_,(AK rfl (Bc (BI TR (Ae U0 hr (A0 (qv 0) (A0 (qv 1) (A0 (qv 2) A6)))) Lo) (AK rfl Hn) BW)),?_⟩;refine Fz.By h aY ?_;rintro _ _ ⟨ks,tp,cs,r,rfl,g,hr,hz,hc,nr,rfl⟩;show Ws [_,_,_] _ _ _;refine D3 (CJ (NW (wp_call (AW (A5 rfl (GC (Hu rfl (AW (A5 rfl (Ay ⟨_,⟨ks,tp,cs,r,rfl,g,hr,hz,hc,rfl⟩,?_⟩))))))))));rintro _ (⟨rfl,_⟩ | ⟨W,i,c,rfl,rg,h0,hx⟩)
 ·exact IA ⟨rfl,_,rfl,CN (by decide) (C0 ⟨_,rfl,rfl⟩)⟩
 ·exact absurd (jx rg ⟨c,h0,hx⟩) nr
def tF:B6 ["many","length"] ["many","length"] (AZ P9):=by walk_at "z1"
def yY:Scope:={ kind:=.function,names:=[(".0", .local),("number", .cell),("sum", .globalImplicit),("many", .free)],isGenerator:=false,isCoroutine:=false,more:=[] }
def zB:Scope:={ kind:=.function,names:=[(".0", .local),("counts", .local),("number", .free)],isGenerator:=false,isCoroutine:=false,more:=[] }
def vM:Km ["many","length"] (AZ P9) yY "number" ["many"] [0]:=⟨rfl,by decide +kernel,rfl,by decide +kernel,fun _ _=>rfl,fun _=>rfl,rfl,by decide +kernel,by decide +kernel,by decide +kernel,by decide +kernel⟩
def kr:Scope:={ kind:=.function,names:=[(".0", .local),("number", .cell),("sum", .globalImplicit),("many", .cell)],isGenerator:=false,isCoroutine:=false,more:=[] }
def ph:CK ["many","number"] kr zB "counts" ["number"] [1]:=by walk_at "z2"
def fb : ∀ ss R,Nx ss R->ss.length=2:=by rintro _ _ ⟨cs,n,rfl,_,_,_,rfl⟩;rfl
def vI (F:AO K "sums_of" "sums_of" P9 f fd)(m:mg "sums_of"=some (.ref f)):
  AB P w K mg base "sums_of" 1 ["many","length"] (AN Nx):=by
 refine AB.mk F (F.binds (by walk_at "bD2")) m (F.BE (k:=0) tF (fun vs H Q E h=>Fz.Bv fb h) (fun Ab A outer s H vs Q E hr h=>?_))
 refine ⟨_,(AK rfl (B5 (jh rfl vM (LL rfl DJ (A0 (qv 1) A6)) (fun _ _ _ _=>by exact Dm) (fun _ _ _ _=>by exact (Bh (show C3 _ (.builtin "sum") (WQ K) from eN rfl) Kz (A0 (ER rfl ph (show QI _ _ _ (LU K _) from Bf (qv 0)) (fun _ _ _ _=>by exact Dm) (fun _ _ _ _=>by exact (AY (show Cc _ (Di K) from Ax) (qv 1) (qv 0)))) A6)))))),?_⟩;refine Fz.By h fb ?_;rintro _ _ ⟨cs,n,rfl,hn,hc,hl,rfl⟩;show Ws [_,_] _ _ _;refine Jw (Dg (fun k:Nat=>PV.int (k:Int)) (fun _=>true) (fun j=>PV.int (cs.map fun c=>c.getD j 0).sum) (dC (A5 rfl ⟨_,rfl,by omega,by omega,List.range n,by rw [HE];rfl,by rw [IE];omega,fun k _=>Du rfl,fun k hk _=>?_,?_⟩)) (fun a b e=>by injection e with e;omega))
 ·have hk:=List.mem_range.mp hk;refine c7 (BH (B4 (Dg (fun c:List Int=>PV.tup (c.map .int)) (fun _=>true) (fun c=>PV.int (c.getD k 0)) (CF (Bp (A5 rfl ⟨_,.inl ⟨rfl,cs,rfl,by omega,fun c _=>Du rfl,fun c Zx _=>?_,?_⟩⟩))) (fun a b e=>by injection e with e;exact XO e))))
  ·refine BA (BG rfl ⟨rfl,A5 rfl ⟨_,_,rfl,En (by rw [AV,AR (show k<c.length by have:=hl c Zx;omega)];rfl),?_⟩⟩);rw [DW,AR (show k<c.length by have:=hl c Zx;omega)];rfl
  ·rw [List.filter_eq_self.mpr fun _ _=>rfl];exact ⟨_,.inl ⟨rfl,rfl,cs.map fun c=>c.getD k 0,by rw [CP];rfl,rfl⟩⟩
 ·rw [List.filter_eq_self.mpr fun _ _=>rfl,CP];rfl
def fc:B6 ["put","known","rounds"] ["put","known"] (AZ WE):=by walk_at "z1"
def d6 : ∀ ss R,P5 ss R->ss.length=2:=by rintro _ _ ⟨ks,r,M,p,rfl,_,rfl⟩;rfl
def oR (F:AO K "rounds_to" "rounds_to" WE f fd)(m:mg "rounds_to"=some (.ref f)):
  AB P w K mg base "rounds_to" 1 ["put","known"] (AN P5):=by
 refine AB.mk F (F.binds (by walk_at "bD2")) m (F.BE (k:=0) fc (fun vs H Q E h=>Fz.Bv d6 h) (fun Ab A outer s H vs Q E hr h=>?_))
 refine ⟨_,(AE rfl (Ai 2 fc.nd (AY Ax (GH (Cb hr) (qv 1) (AY Ax (qv 0) AA) (fun _ _=>rfl)) AA))
   (AE rfl (Bc (BI GD (AY Ax (qv 0) AA) (Hr (v:=.ref FG) (by rfl) Lq rfl)) (AK rfl (B5 (qv 2))) BW)
   (AK rfl (B5 (Ap Ed (qv 2) AA))))),?_⟩
 refine Fz.By h d6 ?_;rintro _ _ ⟨ks,r,M,p,rfl,hp,rfl⟩;have C:FX K FG (Cw.map .str):=FX.of Ks rfl rfl;show Ws [_,_,.any] _ _ _;have hi:=List.idxOf_lt_length_iff.mpr hp;have ev:Dj (Ad M) (M.map (Fp ks r)) (.inr p.2)=some (Fp ks r p.2):=Jd hp (by rw [AV,AR hi,GN hi];rfl);refine AU (EL (BA (BH (Gi (A5 rfl ⟨Ad M,_,rfl,BA (BG rfl ⟨rfl,Aq ⟨_,_,rfl,rfl,.inr p.2,_,rfl,ev,_,.inr ⟨rfl,rfl,Aq ⟨_,_,rfl,rfl,?_⟩⟩⟩⟩)⟩)))));refine AU (D3 (CJ (Qo (neg:=false) C (BA (BG rfl ⟨rfl,Aq ⟨_,_,rfl,rfl,p.1,rfl,_,rfl,?_⟩⟩)))));refine CM (fun c=>?_) (fun c=>C0 ?_)
 ·refine Dw (A5 rfl ?_);unfold GF;rw [gq (i8 c)]
 ·walk_at "ww"
  unfold GF;rw [gg (fun z=>c (hJ z))]
def NS:B6 ["book","word","rule","known","comers","put","counts"] ["book","word","rule","known"] (AZ LR):=by walk_at "z1"
def kS:Scope:={ kind:=.function,names:=[(".0", .local),("put", .local),("known", .free)],isGenerator:=false,isCoroutine:=false,more:=[] }
def oP:CK ["book","word","rule","known","comers","put","counts"] (AZ LR) kS "put" ["known"] [3]:=by walk_at "z2"
def jI:Scope:={ kind:=.function,names:=[(".0", .local),("put", .local),("rounds_to", .globalImplicit),("known", .free)],isGenerator:=false,isCoroutine:=false,more:=[] }
def ng:CK ["book","word","rule","known","comers","put","counts"] (AZ LR) jI "put" ["known"] [3]:=by walk_at "z2"
def Zn:∀ ss R,(JR A4 n) ss R->ss.length=4:=by rintro _ _ ⟨ks,x,r,T,i,M,a,rfl,_,_,_,_,_,_,_,_,_,_,rfl⟩;rfl
def oT (n:Nat)(F:AO K "reckon" "reckon" LR f fd)(m:mg "reckon"=some (.ref f))(ME:AB P w K mg base "reckon" (4+n) ["book","word","rule","known"] (DS (JR A4 (n)))):
  AB P w K mg base "reckon" (4+n+1) ["book","word","rule","known"] (DS (JR A4 (n+1))):=by
 refine AB.mk F (F.binds (by walk_at "bD4")) m (F.BE (k:=4+n) NS (fun vs H Q E h=>Fz.SA Zn h) (fun Ab A outer s H vs Q E hr h=>?_))
 refine ⟨_,(AE rfl (Bc (d4 (Cb hr) (qv 1) (qv 3)) (AK rfl y2) BW)
   (AE rfl (Ai 4 NS.nd (Ae (hk:=by omega) GY hr (A0 (qv 0) (A0 (qv 1) (A0 (qv 2) A6)))))
   (AE rfl (CC (DA Cf rfl (Bf (qv 4)) (Bw 5 NS.nd) (AK rfl (D7 (Ae (hk:=by omega) ME hr (A0 (qv 0) (A0 (AY Ax (qv 5) AA) (A0 (qv 2) (A0 (qv 3) A6)))))))))
   (AE rfl (Ai 6 NS.nd (Ae (hk:=by omega) IJ hr (A0 (ER rfl oP (Bf (qv 4)) (fun _ _ _ _=>by exact Dm) (fun _ _ _ _=>by exact (AY (show Cc _ (Di K) from Ax) (GH (Cb hr) (qv 0) (AY (show Cc _ (Di K) from Ax) (qv 1) AA) (fun _ _=>rfl)) AA))) (A0 (Bh Gd B9 (A0 (LP ED hr (by omega) (qv 0)) A6)) A6))))
   (AE rfl (pQ (qv 6) (EZ Ef X8 gY Rq (LP ED hr (by omega) (qv 0)) (A0 (qv 1) A6)) AA tD)
   (AK rfl (J9 (Cb hr) (qv 3) (qv 1) (DT (A0 (qv 1) (A0 (Dh JI Bt (A0 (qv 6) A6)) (A0 (Bh (ZT rfl) Dc (A0 (Ap SD (EK (A0 AA A6)) (ER rfl ng (Bf (qv 4)) (fun _ _ _ _=>by exact Dm) (fun _ _ _ _=>by exact (Ae (hk:=by omega) MS hr (A0 (qv 1) (A0 (qv 0) A6)))))) A6)) A6))))))))))),?_⟩
 refine Fz.vG 3 h Zn ?_;rintro _ _ ⟨ks,x,r,T,i,M,a,rfl,g,hr,tT,E2,sT,hi,hn,ZP,sM,cM,rfl⟩;show Ws [_,_,_,_,.any,.any,.any] _ _ _;have l8:=g.l8;have xT:=C2 hi;have xw:=sT x xT;have lT:T.length<=8:=by
  have:=Ep E2 sT;rw [A9] at this;omega
 have h6:=bQ g r x;refine AU (D3 (Er (Yr (A5 rfl (Gh (i:=3) rfl ⟨Ad M,a,_,.inr x,rfl,rfl,_,rfl,?_⟩)))));rw [Ko];refine CM (fun c=>?_) (fun c=>C0 ?_)
 ·exact ly (i:=3) rfl ⟨rfl,M,rfl,ZP,sM,cM,fun y h=>h,i8 c,fun y h=>.inl h⟩
 have hx:x∉M:=fun z=>c (hJ z);refine AU (Ez (Gp (AW (A5 rfl (AW (A5 rfl (AW (A5 rfl (Ay ⟨_,⟨ks,x,r,rfl,g,xw,hr,rfl⟩,?_⟩)))))))));rintro _ rfl;refine Ho 4 rfl ?_;show Ws [.is (BS A4 ks),.is (.str x),.is (.str r),.ow true (EI ks r a M),.is (.lst ((BK ks r x).map Ar)),.any,.any] _ _ _;refine AU (Dt (E1 (fun xs j A7=>∃ (M':List Str) (s5 s6:Slot),A7=[.is (BS A4 ks),.is (.str x),.is (.str r),.ow true (EI ks r a M'),.is (.lst ((BK ks r x).map Ar)),s5,s6]/\M'.Nodup/\(∀ y∈M',y∈T)/\Pe (AL ks r) M'/\(∀ y∈M,y∈M')/\(∀ y∈M',y∈M∨BF (AL ks r) (AL ks r x) y)/\∀ p∈(BK ks r x).take j,p.2∈M') (CF (Bp (A5 rfl ⟨_,.inl ⟨rfl,⟨M,_,_,rfl,ZP,sM,cM,fun y h=>h,fun y h=>.inl h,fun p hp=>absurd hp (by simp)⟩,?_,?_⟩⟩)))))
 ·rintro j q A7 hq ⟨M',s5,s6,rfl,EN,s',c',Ub,Of,Cj⟩;rw [AV] at hq;obtain ⟨p,ep,rfl⟩:=Option.map_eq_some_iff.mp hq;have pn:p.2∈AL ks r x:=List.mem_map.mpr ⟨p,C2 ep,rfl⟩;have pt:=tT i x hi p.2 pn;obtain ⟨i',Bb,e'⟩:=E4 pt;rw [D4] at Bb;rw [Kb] at e';refine Ey ?_;refine fN (i:=3) (P4 rfl (FW (A5 rfl (FW (BA (BG rfl ⟨rfl,Aq ⟨_,_,rfl,rfl,FW (A5 rfl (Ot rfl (MD ⟨_,⟨ks,p.2,r,T,i',M',a,rfl,g,hr,tT,E2,sT,by rw [AR (by omega),e'],by omega,EN,s',c',rfl⟩,?_⟩)))⟩⟩))))));rintro _ _ ⟨rfl,M2,rfl,EY,s2,c2,HZ,x2,Ul⟩;refine ⟨_,_,rfl,M2,_,_,rfl,EY,s2,c2,fun y h=>HZ y (Ub y h),fun y hy=>?_,fun q hq=>?_⟩
  ·rcases Ul y hy with h | h
   ·exact Of y h
   ·refine .inr (h.mono fun z hz=>?_);rw [List.mem_singleton.mp hz];exact .here pn
  ·rw [Fo ep] at hq;rcases List.mem_append.mp hq with h | h
   ·exact HZ _ (Cj q h)
   ·rw [List.mem_singleton.mp h];exact x2
 ·rintro A7 ⟨M',s5,s6,rfl,EN,s',c',Ub,Of,Cj⟩;rw [A9,Ee] at Cj;have GK:x∉M':=fun z=>(Of x z).elim hx (vm tT E2 xT);have lM:=Ep EN s';obtain ⟨eC,eR⟩:=Rr tT lT xT;have ix:=List.idxOf_lt_length_iff.mpr xw;rw [A9] at ix;have lo:∀ {p:Str×Str},p∈BK ks r x->Dj (Ad M') (M'.map (Fp ks r)) (.inr p.2)=some (Fp ks r p.2):=fun {p} hp=>by
   have hi:=List.idxOf_lt_length_iff.mpr (Cj p hp);exact Jd (Cj p hp) (by rw [AV,AR hi,GN hi];rfl)
  refine AU (Ez (Gp (AW (B4 (cE ?_)))));rw [show List.map DX _=[.is (BS A4 ks),.is (.str x),.is (.str r),.is (EI ks r a M').pv,.is (.lst ((BK ks r x).map Ar)),DX s5,DX s6] from rfl,To];refine Dg Ar (fun _=>true) (fun p=>PV.tup ((cnt ks r p.2).map .int)) (CF (Bp (A5 rfl ⟨_,.inl ⟨rfl,BK ks r x,rfl,by omega,fun p _=>Du rfl,fun p hp _=>?_,?_⟩⟩))) W4
  ·exact BA (BH (Gi (A5 rfl ⟨Ad M',_,rfl,BA (BG rfl ⟨rfl,Aq ⟨_,_,rfl,rfl,.inr p.2,_,rfl,lo hp,_,.inr ⟨rfl,rfl,Aq ⟨_,_,rfl,rfl,rfl⟩⟩⟩⟩)⟩)))
  rw [List.filter_eq_self.mpr fun _ _=>rfl];refine ⟨NU _ (fun p=>by rw [D6];exact dW _) _,?_⟩;refine AW (Lx (BH (B4 (JE (A5 rfl ⟨Ds,_,rfl,by decide +kernel,Ay ⟨_,⟨ks,rfl,g,rfl⟩,?_⟩⟩)))));rintro _ rfl;refine ⟨_,.inl ⟨rfl,?_⟩⟩;rw [A9,A9];refine Ay ⟨_,⟨(BK ks r x).map fun p=>cnt ks r p.2,ks.length,by rw [CP];rfl,l8,by rw [A9];omega,fun c hc=>?_,rfl⟩,?_⟩
  ·obtain ⟨p,_,rfl⟩:=List.mem_map.mp hc;exact dD ks r p.2
  rintro _ rfl;generalize hG:(fun j:Nat=>(((BK ks r x).map fun p=>cnt ks r p.2).map fun c=>c.getD j 0).sum)=G;show Ws [.is (BS A4 ks),.is (.str x),.is (.str r),.ow true (EI ks r a M'),.is (.lst ((BK ks r x).map Ar)),s5,.own (((List.range ks.length).map G).map .int)] _ _ _;refine AU (jT rfl (Qt (BH (B4 (JE (A5 rfl ⟨Ds,_,rfl,by decide +kernel,Ay ⟨_,⟨ks,rfl,g,rfl⟩,?_⟩⟩))))));rintro _ rfl;refine ⟨_,.inl ⟨rfl,rfl,wk ks,rfl,A5 rfl ⟨x,rfl,xw,_,G ((wk ks).idxOf x),rfl,?_,Aq ⟨_,rfl,?_⟩⟩⟩⟩
  ·rw [AV,AV,ID ix];rfl
  have eS:((((List.range ks.length).map G).map PV.int).set ((wk ks).idxOf x) (.int (G ((wk ks).idxOf x)+1)))=(cnt ks r x).map .int:=by
   rw [<- List.map_set,sum_set rfl ix,eC];unfold Eh;rw [<- hG]
   congr 1
   refine JP fun j _=>?_;unfold AL;show (List.map (fun c=>List.getD c j 0) (List.map (fun p=>cnt ks r p.2) (BK ks r x))).sum+_=_;rw [CP,CP];rfl
  rw [eS];show Ws [.is (BS A4 ks),.is (.str x),.is (.str r),.ow true (EI ks r a M'),.is (.lst ((BK ks r x).map Ar)),s5,.own ((cnt ks r x).map .int)] _ _ _;refine Qd (i:=3) (t:=EI ks r a M') (HA (RL ?_));rw [show List.map DX _=[.is (BS A4 ks),.is (.str x),.is (.str r),.is (EI ks r a M').pv,.is (.lst ((BK ks r x).map Ar)),DX s5,.is (.lst ((cnt ks r x).map .int))] from rfl,To];refine Ej (Bm (A5 rfl (Bm (IW rfl (Ck rfl (Bm (ZJ (BH (B4 (Qq (BH (B4 (Je (Bm (Aq (Df ⟨by decide,?_⟩))))))))))))))));refine ⟨_,.inl ⟨rfl,rfl,BH (B4 (Dg Ar (fun _=>true) (fun p=>PV.int (GF (BM ks r) p)) (CF (Bp (A5 rfl ⟨_,.inl ⟨rfl,BK ks r x,rfl,by omega,fun p _=>Du rfl,fun p hp _=>?_,?_⟩⟩))) W4))⟩⟩
  ·refine wp_call (AW (A5 rfl (AW (A5 rfl (Ay ⟨_,⟨ks,r,M',p,rfl,Cj p hp,rfl⟩,?_⟩)))));rintro _ rfl;rfl
  rw [List.filter_eq_self.mpr fun _ _=>rfl];refine ⟨_,.inl ⟨rfl,rfl,by rw [A9];show 1+_<=_;omega,_,.inl ⟨rfl,rfl,1::(BK ks r x).map (GF (BM ks r)),by rw [Ac,CP];rfl,by simp,fun m hm hy=>?_⟩⟩⟩;have em:m=BM ks r x:=by rw [eR];exact YE hm hy
  subst em;refine Df ⟨by show 3<=100000;decide,?_,?_⟩
  ·simp only [D6,Eo];rw [dW];rfl
  refine Gh rfl ⟨true,a,Ad M',_,rfl,rfl,by rw [A9];omega,Mu EN,Aa,A5 rfl ⟨.inr x,rfl,?_⟩⟩;rw [OV.Gq,MU GK,Ol GK];refine ⟨_,_,_,_,rfl,rfl,rfl,M'++[x],?_,KP EN GK,fun y hy=>?_,fun y hy z hz=>?_,fun y hy=>by simp [Ub y hy],by simp,fun y hy=>?_⟩
  ·unfold EI;rw [CO];rfl
  ·rcases List.mem_append.mp hy with h | h
   ·exact s' y h
   ·rw [List.mem_singleton.mp h];exact xT
  ·rcases List.mem_append.mp hy with h | h
   ·exact RD _ (c' y h z hz)
   ·rw [List.mem_singleton.mp h] at hz;obtain ⟨p,hp,rfl⟩:=List.mem_map.mp hz;exact RD _ (Cj p hp)
  ·rcases List.mem_append.mp hy with h | h
   ·rcases Of y h with q | q
    ·exact .inl q
    ·exact .inr (q.mono fun z hz=>.step (.here (by simp)) hz)
   ·rw [List.mem_singleton.mp h];exact .inr (.here (by simp))
def qt (F:AO K "reckon" "reckon" LR f fd)(m:mg "reckon"=some (.ref f)):AB P w K mg base "reckon" 13 ["book","word","rule","known"] (DS (JR A4 9)):=by
 have z:∀ n:Nat,AB P w K mg base "reckon" (4+n) ["book","word","rule","known"] (DS (JR A4 (n))):=fun n=>by
  induction n with
  | zero=>exact AB.mk F (F.binds (by walk_at "bD4")) m (F.BE (k:=3) NS (fun vs H Q E h=>(Fz.R0 (Yj) h).elim) (fun Ab A outer s H vs Q E hr h=>(Fz.R0 (Yj) h).elim))
  | succ n ih=>exact oT (A4:=A4) B9 Dc Bt ED GY MS IJ n F m ih
 exact z 9
def Va:B6 ["book","crowd","rule","known","word"] ["book","crowd","rule"] (AZ Vc):=by walk_at "z1"
def dO:∀ ss R,(VA A4) ss R->ss.length=3:=by rintro _ _ ⟨ks,tp,cs,r,T,rfl,_,_,_,_,_,_,rfl⟩;rfl
def vA (F:AO K "known_rows" "known_rows" Vc f fd)(m:mg "known_rows"=some (.ref f))(ME:AB P w K mg base "reckon" 13 ["book","word","rule","known"] (DS (JR A4 9))):
  AB P w K mg base "known_rows" 14 ["book","crowd","rule"] (AN (VA A4)):=by
 refine AB.mk F (F.binds (by walk_at "bD3")) m (F.BE (k:=13) Va (fun vs H Q E h=>Fz.Bv dO h) (fun Ab A outer s H vs Q E hr h=>?_))
 refine ⟨_,(AE rfl (Ai 3 Va.nd Kl)
   (AE rfl (CC (DA Cf rfl (Bf (qv 1)) (Bw 4 Va.nd) (AK rfl (D7 (Ae ME hr (A0 (qv 0) (A0 (qv 4) (A0 (qv 2) (A0 (qv 3) A6)))))))))
   (AK rfl (B5 (qv 3))))),?_⟩
 refine Fz.By h dO ?_;rintro _ _ ⟨ks,tp,cs,r,T,rfl,g,hr,tT,E2,sT,hc,rfl⟩;show Ws [_,_,_,.any,.any] _ _ _;have lT:T.length<=8:=by
  have:=Ep E2 sT;have:=g.l8;rw [A9] at *;omega
 refine AU (Ja (Lg fun a=>?_));show Ws [_,_,_,.ow false (EI ks r a []),.any] _ _ _;refine AU (Dt (E1 (fun xs i A7=>∃ (M:List Str) (s4:Slot),A7=[.is (BS A4 ks),.sq tp (cs.map .str),.is (.str r),.ow false (EI ks r a M),s4]/\M.Nodup/\(∀ y∈M,y∈T)/\Pe (AL ks r) M/\(∀ y∈M,BF (AL ks r) cs y)/\∀ y∈cs.take i,y∈M) ?_))
 walk_at "ww"
 refine ⟨⟨[],_,rfl,IG,fun y hy=>absurd hy Aa,fun y hy=>absurd hy Aa,fun y hy=>absurd hy Aa,fun y hy=>absurd hy (by simp)⟩,?_,?_⟩
 ·rintro i q A7 hq ⟨M,s4,rfl,nd,s',c',re,Cj⟩;rw [AV] at hq;obtain ⟨c,ec,rfl⟩:=Option.map_eq_some_iff.mp hq;have cm:=C2 ec;obtain ⟨j,hj,ej⟩:=E4 (hc c cm);refine Ey ?_;refine fN (i:=3) (P4 rfl (FW (A5 rfl (FW (A5 rfl (FW (A5 rfl (Ot rfl (MD ⟨_,⟨ks,c,r,T,j,M,a,rfl,g,hr,tT,E2,sT,by rw [AR hj,ej],by omega,nd,s',c',rfl⟩,?_⟩)))))))));rintro _ _ ⟨rfl,M2,rfl,EY,s2,c2,HZ,x2,Ul⟩;refine ⟨_,_,rfl,M2,_,rfl,EY,s2,c2,fun y hy=>?_,fun z hz=>?_⟩
  ·rcases Ul y hy with h | h
   ·exact re y h
   ·exact h.mono fun z hz=>by rw [List.mem_singleton.mp hz];exact .here cm
  ·rw [Fo ec] at hz;rcases List.mem_append.mp hz with h | h
   ·exact HZ _ (Cj z h)
   ·rw [List.mem_singleton.mp h];exact x2
 ·rintro A7 ⟨M,s4,rfl,nd,s',c',re,Cj⟩;rw [A9,Ee] at Cj;refine kg (xD rfl ⟨a,M,rfl,nd,fun x=>⟨re x,fun q=>?_⟩⟩)
  induction q with
  | here m=>exact Cj _ m
  | step _ hy ih=>exact c' _ ih _ hy
def yE:B6 ["self","word"] ["self","word"] (AZ T8):=by walk_at "z1"
def dg:∀ ss R,(Qc A4) ss R->ss.length=2:=by rintro _ _ ⟨ks,x,rfl,_,_,rfl⟩;rfl
def yx (F:AO K "goes" "Errands.goes" T8 f fd)(mt:Meth K A4 "goes" f):
  FJ P w K mg base A4 "goes" 2 ["self","word"] (AN (Qc A4)):=by
 refine ⟨f,fd,F.BE (k:=1) yE (fun vs H Q E h=>Fz.Bv dg h) (fun Ab A outer s H vs Q E hr h=>?_),(F.binds (by walk_at "bD2")),mt,D8⟩
 refine ⟨_,(AE rfl (D7 (Ae FY hr (A0 (Jj (qv 0)) (A0 (qv 1) A6))))
   (AK rfl (B5 (GH (Cb hr) (Jj (qv 0)) (qv 1) (fun _ _=>rfl))))),?_⟩
 refine Fz.By h dg ?_;rintro _ _ ⟨ks,x,rfl,g,hx,rfl⟩;show Ws [_,_] _ _ _;have l8:=g.l8;obtain ⟨k,ek,_,_,eg,_⟩:=g.at hx;refine AU (HQ (wp_call (AW (MV (A5 rfl ⟨A4,Ds,_,1,_,rfl,D8,JH,by decide +kernel,rfl,AW (A5 rfl (Ay ⟨_,⟨wk ks,_,x,rfl,.inr ⟨_,rfl⟩,by rw [A9];omega,hx,rfl⟩,?_⟩))⟩)))));rintro _ rfl;refine Dw (Gi (MV (A5 rfl ⟨A4,Ds,_,1,_,rfl,D8,JH,by decide +kernel,rfl,Ad (wk ks),_,rfl,A5 rfl ⟨.inr x,_,rfl,Jd hx (by rw [AV,ek];rfl),?_⟩⟩)));rw [eg]
def i9:B6 ["book","word","kind"] ["book","word","kind"] (AZ Pz):=by walk_at "z1"
def gm:Scope:={ kind:=.function,names:=[(".0", .local),("put", .local),("kind", .free)],isGenerator:=false,isCoroutine:=false,more:=[] }
def jW:CK ["book","word","kind"] (AZ Pz) gm "put" ["kind"] [2]:=by walk_at "z2"
def YA:∀ ss R,(UA A4) ss R->ss.length=3:=by rintro _ _ ⟨ks,x,y,rfl,_,_,rfl⟩;rfl
def yl (F:AO K "puts_in" "puts_in" Pz f fd)(m:mg "puts_in"=some (.ref f)):
  AB P w K mg base "puts_in" 3 ["book","word","kind"] (AN (UA A4)):=by
 refine AB.mk F (F.binds (by walk_at "bD3")) m (F.BE (k:=2) i9 (fun vs H Q E h=>Fz.Bv YA h) (fun Ab A outer s H vs Q E hr h=>?_))
 refine ⟨_,(AK rfl (B5 (Bh Gd B9 (A0 (ER rfl jW (Bf (WO Ku hr (by decide) (qv 0) (A0 (qv 1) A6))) (fun _ _ _ _=>by exact (L4 (BI Fb (AY (show Cc _ (Di K) from Ax) (qv 1) AA) (qv 0)))) (fun _ _ _ _=>by exact (qv 1))) A6)))),?_⟩;refine Fz.By h YA ?_;rintro _ _ ⟨ks,x,y,rfl,g,hx,rfl⟩;show Ws [_,_,_] _ _ _;have h6:=(g.GU x).1;refine Dw (Lx (BH (B4 (Dg Ar (fun p=>decide (p.2=y)) Ar (CF (Bp (B4 (JE (A5 rfl ⟨Ds,_,rfl,by decide +kernel,AW (A5 rfl (Ay ⟨_,⟨ks,x,rfl,g,hx,rfl⟩,?_⟩))⟩))))) qW))));rintro _ rfl;refine ⟨_,.inl ⟨rfl,Bg ks x,rfl,by omega,fun p _=>?_,fun p _ _=>A5 rfl rfl,_,.inl ⟨rfl,?_⟩⟩⟩
 ·exact CJ (KI (BA (BG rfl ⟨rfl,Aq ⟨_,_,rfl,rfl,A5 rfl ⟨rfl,_,rfl,rfl⟩⟩⟩)))
 ·rw [pW]
def Lk:B6 ["book","crowd","counts","standing","number","word","put_in","gone"] ["book","crowd","counts"] (AZ PU):=by walk_at "z1"
def oF:Scope:={ kind:=.function,names:=[(".0", .local),("other", .local),("many", .local),("puts_in", .globalImplicit),("book", .free),("word", .free)],isGenerator:=false,isCoroutine:=false,more:=[] }
def ni:Hm ["book","crowd","counts","standing","number","word","put_in","gone"] (AZ PU) oF ["other","many"] ["book","word"] [0,5]:=⟨rfl,by decide +kernel,by decide +kernel,by decide +kernel,rfl,by decide +kernel,by decide +kernel,by decide +kernel,by decide +kernel⟩
def aj:∀ ss R,(RW A4) ss R->ss.length=3:=by rintro _ _ ⟨ks,tp,cs,A,rfl,_,_,_,_,rfl⟩;rfl
def qy (F:AO K "standing_behind" "standing_behind" PU f fd)(m:mg "standing_behind"=some (.ref f)):
  AB P w K mg base "standing_behind" 4 ["book","crowd","counts"] (AN (RW A4)):=by
 refine AB.mk F (F.binds (by walk_at "bD3")) m (F.BE (k:=3) Lk (fun vs H Q E h=>Fz.Bv aj h) (fun Ab A outer s H vs Q E hr h=>?_))
 refine ⟨_,(AE rfl (Ai 3 Lk.nd (EK A6))
   (AE rfl (CC (DA Cf rfl (XT rfl M0 (A0 (LP ED hr (by decide) (qv 0)) A6)) (Ki rfl (FA (Bw 4 Lk.nd) (FA (Bw 5 Lk.nd) Ln))) (AE rfl (Ai 6 Lk.nd (Bh (eN rfl) Kz (A0 (Ya rfl ni (.cons (.cons .nil)) (fun _=>rfl) (fun _=>rfl) (wq rfl UY (A0 (LP ED hr (by decide) (qv 0)) (A0 (qv 2) A6))) (fun _ _ _ _=>by exact Dm) (fun _ _ _ _=>by exact (Ap Hg (qv 3) (Ae UB hr (A0 (qv 0) (A0 (qv 2) (A0 (qv 1) A6))))))) A6)))
   (AE rfl (Ai 7 Lk.nd (uU (Gm (WO UX hr (by decide) (qv 0) (A0 (qv 5) A6))) (AY Ca (qv 2) (qv 4)) AA))
   (AK rfl (D7 (EZ Ef RJ RK NG (qv 3) (A0 (Ap MI (Ap Ed (vc (EZ Ef gW gX Tr (qv 1) (A0 (qv 5) A6)) (EZ PySem.F.plainAttrs_tuple PySem.F.slot_tuple_count PySem.F.type_tuple_count rR (qv 1) (A0 (qv 5) A6))) (qv 6)) (qv 7)) A6))))))))
   (AK rfl (B5 (Dh JI Bt (A0 (qv 3) A6)))))),?_⟩
 refine Fz.By h aj ?_;rintro _ _ ⟨ks,tp,cs,A,rfl,g,hz,hA,hb,rfl⟩;show Ws [_,_,_,.any,.any,.any,.any,.any] _ _ _;have l8:=g.l8;refine AU (Ez (Je (Df ⟨by decide,?_⟩)));refine AU (Dt (E1 (fun xs i A7=>∃ (s4 s5 s6 s7:Slot),A7=[.is (BS A4 ks),.sq tp (cs.map .str),.is (.lst (A.map .int)),.own (((GZ ks cs A).take i).map .int),s4,s5,s6,s7]) (Y5 (Bp (B4 (JE (A5 rfl ⟨Ds,_,rfl,by decide +kernel,Ay ⟨_,⟨ks,rfl,g,rfl⟩,?_⟩⟩)))))));rintro _ rfl;refine ⟨_,.inl ⟨rfl,rfl,⟨_,_,_,_,rfl⟩,?_,?_⟩⟩
 ·rintro i p A7 hp ⟨s4,s5,s6,s7,rfl⟩;obtain ⟨x0,hx,rfl⟩:=eY hp;rw [AV] at hx;obtain ⟨w,ew,rfl⟩:=Option.map_eq_some_iff.mp hx;have hi:=(List.getElem?_eq_some_iff.mp ew).1;rw [A9] at hi;have wm:=C2 ew;have eA:A[i]?=some (A.getD i 0):=by rw [DW,AR (by omega)];rfl
  refine Ni ⟨_,_,rfl,?_⟩;refine AU (EL (c7 (BH (B4 (bW (fun _=>true) (Zo ks w) (wa (Bp (B4 (JE (A5 rfl ⟨Ds,_,rfl,by decide +kernel,Ay ⟨_,⟨ks,rfl,g,rfl⟩,?_⟩⟩))))))))));rintro _ rfl;refine ⟨_,.inl ⟨rfl,Bp (A5 rfl ⟨_,.inl ⟨rfl,?_⟩⟩)⟩⟩;refine ⟨by rw [Qz,A9,A9];omega,fun z hz=>?_,?_⟩
  ·obtain ⟨p,q,hp,hq,rfl⟩:=xC hz;obtain ⟨o,ho,rfl⟩:=List.mem_map.mp hp;obtain ⟨b,DO,rfl⟩:=List.mem_map.mp hq;refine ⟨_,rfl,rfl,Du rfl,fun _=>?_⟩;refine Uj (A5 rfl ⟨_,rfl,wp_call (AW (A5 rfl (AW (A5 rfl (AW (A5 rfl (Ay ⟨_,⟨ks,o,w,rfl,g,ho,rfl⟩,?_⟩)))))))⟩);rintro _ rfl;have:=hb b DO;have:=oh g o w;exact ⟨_,rfl,fR (by omega) (by omega) (by omega) (by omega),rfl⟩
  rw [List.filter_eq_self.mpr fun _ _=>rfl,ZC];refine ⟨_,.inl ⟨rfl,rfl,_,rfl,?_⟩⟩;have gone:∀ {ss:List Slot}{k:PV->Prop}{K':ZAy},ss[0]?=some (.is (BS A4 ks))->ss[2]?=some (.is (.lst (A.map .int)))->ss[4]?=some (.is (.int (i:Int)))->ss[5]?=some (.is (.str w))->k (.int (if E8 ks w=true then A.getD i 0 else 0))->Wp ss (Po (tB (KN A4 "goes" (AN (Qc A4)) [] E0 (B1 0) (Af (B1 5) Az))) (BP (Nr K') (B1 2) (B1 4)) (tC (V.int 0))) k:=fun {ss k K'} h0 h2 h4 h5 hk=>by
   refine yC (Er (n6 (A5 h0 ⟨Ds,_,rfl,by decide +kernel,AW (A5 h5 (Ay ⟨_,⟨ks,w,rfl,g,wm,rfl⟩,?_⟩))⟩)));rintro _ rfl;refine ⟨_,rfl,CM (fun c=>?_) (fun c=>?_)⟩
   ·rw [gq c] at hk;exact GQ (Ck h2 ⟨rfl,A5 h4 ⟨_,_,rfl,En (by rw [AV,eA];rfl),hk⟩⟩)
   ·rw [gg c] at hk;exact Aq hk
  refine AU (EL (gone rfl rfl rfl rfl ?_));have xS:∀ {ss:List Slot}{k:PV->Prop}{K':ZAy},ss[1]?=some (.sq tp (cs.map .str))->ss[5]?=some (.is (.str w))->k (.int (cs.count w:Nat))->Wp ss (Ov (FK K' "list" (QL K') (B1 1) (Af (B1 5) Az)) (FK K' "tuple" (Tw K') (B1 1) (Af (B1 5) Az))) k:=fun {ss k K'} h1 h5 hk=>by
   cases tp with
   | false=>exact kY (WT (Hu h1 ⟨rfl,cs,rfl,A5 h5 ⟨w,rfl,hk⟩⟩))
   | true=>exact pI (wb (Hu h1 ⟨rfl,cs,rfl,A5 h5 ⟨w,rfl,hk⟩⟩))
  refine Ur rfl (Im (Im (xS rfl rfl ⟨_,rfl,A5 rfl ⟨_,rfl,_,rfl,A5 rfl ⟨_,rfl,?_⟩⟩⟩)));refine ⟨by rw [A9,D4,Rl];omega,.is (.int (i:Int)),.is (.str w),.is (.int (((wk ks).zip A).map fun q=>q.2 * pin ks q.1 w).sum),.is (.int (if E8 ks w=true then A.getD i 0 else 0)),?_⟩
  rw [Fo (ju ew),CO];rfl
 ·rintro A7 ⟨s4,s5,s6,s7,rfl⟩;rw [Oq,A9,A9,Kc (by rw [Rl];exact Aj _)];exact Dw (IW rfl (LX rfl rfl))
def MO:B6 ["book","crowd","rule","known","rows","counts","rounds"] ["book","crowd","rule"] (AZ LS):=by walk_at "z1"
def ie:Scope:={ kind:=.function,names:=[(".0", .local),("word", .local),("known", .free)],isGenerator:=false,isCoroutine:=false,more:=[] }
def rh:CK ["book","crowd","rule","known","rows","counts","rounds"] (AZ LS) ie "word" ["known"] [3]:=by walk_at "z2"
def sF:Scope:={ kind:=.function,names:=[(".0", .local),("row", .local)],isGenerator:=false,isCoroutine:=false,more:=[] }
def ua:CK ["book","crowd","rule","known","rows","counts","rounds"] (AZ LS) sF "row" [] []:=by walk_at "z2"
def sP:Scope:={ kind:=.function,names:=[(".0", .local),("row", .local)],isGenerator:=false,isCoroutine:=false,more:=[] }
def pE:CK ["book","crowd","rule","known","rows","counts","rounds"] (AZ LS) sP "row" [] []:=by walk_at "z2"
def ZV:∀ ss R,(Sm A4) ss R->ss.length=3:=by rintro _ _ ⟨ks,tp,cs,r,rfl,_,_,_,_,_,rfl⟩;rfl
def qD (F:AO K "reckoned" "reckoned" LS f fd)(m:mg "reckoned"=some (.ref f)):
  AB P w K mg base "reckoned" 16 ["book","crowd","rule"] (AN (Sm A4)):=by
 refine AB.mk F (F.binds (by walk_at "bD3")) m (F.BE (k:=15) MO (fun vs H Q E h=>Fz.Bv ZV h) (fun Ab A outer s H vs Q E hr h=>?_))
 refine ⟨_,(AE rfl (D7 (Ae Rz hr (A0 (qv 2) A6)))
   (AE rfl (D7 (Ae RX hr (A0 (qv 0) (A0 (qv 1) A6))))
   (AE rfl (D7 (Ae Tv hr (A0 (qv 0) (A0 (qv 1) (A0 (qv 2) A6)))))
   (AE rfl (Ai 3 MO.nd (Ae W7 hr (A0 (qv 0) (A0 (qv 1) (A0 (qv 2) A6)))))
   (AE rfl (Ql (i:=4) MO.nd rfl (Or.inl rfl) rfl rh (Bf (qv 1)) (fun _ _ _ _=>by exact Dm) (fun _ _ _ _=>by exact (GH (Cb hr) (qv 0) (qv 1) (fun _ _=>rfl))))
   (AE rfl (Ai 5 MO.nd (Ae IJ hr (A0 (ER rfl ua (Bf (qv 4)) (fun _ _ _ _=>by exact Dm) (fun _ _ _ _=>by exact (AY (show Cc _ (Di K) from Ax) (qv 0) AA))) (A0 (Bh Gd B9 (A0 (LP ED hr (by decide) (qv 0)) A6)) A6))))
   (AE rfl (Ai 6 MO.nd (ur rfl (by rfl) Dc (A0 (ER rfl pE (Bf (qv 4)) (fun _ _ _ _=>by exact Dm) (fun _ _ _ _=>by exact (AY (show Cc _ (Di K) from Ax) (qv 0) AA))) A6) AA))
   (AK rfl (B5 (DT (A0 (Dh JI Bt (A0 (qv 5) A6)) (A0 (qv 6) (A0 (Ae WM hr (A0 (qv 0) (A0 (qv 1) (A0 (qv 5) A6)))) A6))))))))))))),?_⟩
 refine Fz.By h ZV ?_;rintro _ _ ⟨ks,tp,cs,r,rfl,g,hr,hz,hc,nr,rfl⟩;show Ws [_,_,_,.any,.any,.any,.any] _ _ _;have l8:=g.l8;obtain ⟨T,tT,E2,rT,Ms⟩:=bY (ws:=wk ks) (fun x h=>Gu g hc h) nr;have sT:∀ y∈T,y∈wk ks:=fun y hy=>Gu g hc (rT y hy);have lT:T.length<=8:=by
  have:=Ep E2 sT;rw [A9] at this;omega
 have dh:∀ c∈cs,c∈T:=fun c h=>Ms c (.here h);refine AU (HQ (wp_call (AW (A5 rfl (Ay ⟨_,⟨r,rfl,hr,rfl⟩,?_⟩)))));rintro _ rfl;refine AU (HQ (wp_call (AW (A5 rfl (GC (Hu rfl (Ay ⟨_,⟨ks,tp,cs,rfl,g,hz,hc,rfl⟩,?_⟩)))))));rintro _ rfl;refine AU (HQ (wp_call (AW (A5 rfl (GC (Hu rfl (AW (A5 rfl (Ay ⟨_,⟨ks,tp,cs,r,rfl,g,hr,hz,hc,nr,rfl⟩,?_⟩)))))))));rintro _ rfl;refine AU (Ja (vD (AW (A5 rfl (GC (Hu rfl (AW (A5 rfl (Ay ⟨_,⟨ks,tp,cs,r,T,rfl,g,hr,tT,E2,sT,dh,rfl⟩,?_⟩)))))))));rintro _ ⟨a,M,rfl,nd,hM⟩;show Ws [_,_,_,.ow false (EI ks r a M),.any,.any,.any] _ _ _;refine WK 3 rfl ?_;rw [To];show Ws [.is (BS A4 ks),.sq tp (cs.map .str),.is (.str r),.is (Q6 ks r M),.any,.any,.any] _ _ _;refine AU (Ez (Dg PV.str (fun _=>true) (Fp ks r) (CF (Ry rfl ⟨cs,rfl,by omega,fun _ _=>Du rfl,fun x hx _=>?_,?_⟩)) (fun a b e=>by injection e)))
 ·have hm:=(hM x).mpr (.here hx);have hi:=List.idxOf_lt_length_iff.mpr hm;exact Gi (A5 rfl ⟨Ad M,_,rfl,A5 rfl ⟨.inr x,_,rfl,Jd hm (by rw [AV,AR hi,GN hi];rfl),rfl⟩⟩)
 rw [List.filter_eq_self.mpr fun _ _=>rfl];refine Ho 4 rfl ?_;refine AU (Ez (Gp (AW (B4 (Dg (Fp ks r) (fun _=>true) (fun c=>PV.tup ((cnt ks r c).map .int)) (CF (Bp (A5 rfl ⟨_,.inl ⟨rfl,cs,rfl,by omega,fun _ _=>Du rfl,fun y _ _=>?_,?_⟩⟩))) rw_inj)))))
 ·exact BA (BG rfl ⟨rfl,Aq ⟨_,_,rfl,rfl,rfl⟩⟩)
 rw [List.filter_eq_self.mpr fun _ _=>rfl];refine AW (Lx (BH (B4 (JE (A5 rfl ⟨Ds,_,rfl,by decide +kernel,Ay ⟨_,⟨ks,rfl,g,rfl⟩,?_⟩⟩)))));rintro _ rfl;refine ⟨_,.inl ⟨rfl,Ay ⟨_,⟨cs.map (cnt ks r),ks.length,?_,l8,by rw [A9];omega,fun c hc=>?_,rfl⟩,?_⟩⟩⟩
 ·rw [A9,A9,CP];rfl
 ·obtain ⟨y,_,rfl⟩:=List.mem_map.mp hc;exact dD ks r y
 rintro _ rfl;rw [show (List.range ks.length).map (fun j=>((cs.map (cnt ks r)).map fun c=>c.getD j 0).sum)=totC ks r cs from by unfold totC;refine JP fun j _=>?_;rw [CP];rfl];refine Ho 5 rfl ?_;refine AU (EL (zG (BH (B4 (Dg (Fp ks r) (fun _=>true) (fun c=>PV.int (BM ks r c)) (CF (Bp (A5 rfl ⟨_,.inl ⟨rfl,cs,rfl,by omega,fun _ _=>Du rfl,fun y _ _=>?_,?_⟩⟩))) rw_inj)))))
 ·exact BA (BG rfl ⟨rfl,Aq ⟨_,_,rfl,rfl,rfl⟩⟩)
 rw [List.filter_eq_self.mpr fun _ _=>rfl];refine ⟨_,.inl ⟨rfl,rfl,cs.map (BM ks r),by rw [CP];rfl,fun m hm=>?_⟩⟩;have em:=iM (fun c hc=>by
  rw [(Rr tT lT (dh c hc)).2];unfold HJ;have:=(Iw (1::(BK ks r c).map (GF (BM ks r))) (by simp)).2 1 (by simp);omega) hm
 subst em;refine Dw (Ej (Bm (IW rfl (Ck rfl (Bm (A5 rfl (Bm (wp_call (AW (A5 rfl (GC (Hu rfl (AW (A5 rfl (Ay ⟨_,⟨ks,tp,cs,totC ks r cs,rfl,g,hz,Mh ks r cs,fun c hc=>ZU g hz hc,rfl⟩,?_⟩)))))))))))))));rintro _ rfl;exact Df ⟨by show 3<=100000;decide,rfl⟩
def Ij:B6 ["script","kinds","book","k","pot","crowd","rule","due"] ["script"] (AZ L5):=by walk_at "z1"
def mH (F:AO K "law" "law" L5 f fd)(m:mg "law"=some (.ref f)):
  D2 P w K mg base FD 19 f fd ["script"] (Mx K):=by
 refine (F.BE (k:=18) Ij (fun vs H Q E h=>by obtain ⟨a,ns,rfl,_⟩:=h;rfl) (fun Ab A outer s H vs Q E hr h=>?_));refine ⟨_,(AE rfl (Ai 1 Ij.nd (Ae Vu hr (A0 (Ae QF hr (A0 (qv 0) (A0 AA A6))) A6)))
   (AE rfl (Ai 2 Ij.nd (Ae UT hr (A0 (qv 1) A6)))
   (AE rfl (CC (DA Cf rfl (j3 rfl DJ (A0 AA (A0 (Bh (Uo rfl) Dc (A0 AA (A0 (Bh (k6 rfl) S6 (A0 (Bh Gd B9 (A0 (qv 0) A6)) (A0 AA A6))) A6))) A6))) (Bw 3 Ij.nd) (AE rfl (Ai 4 Ij.nd (Ae QF hr (A0 (qv 0) (A0 (qv 3) A6))))
   (AE rfl (Ai 5 Ij.nd (Ae Ut hr (A0 (qv 4) (A0 (qv 1) A6))))
   (AE rfl (Ai 6 Ij.nd (Ae Tg hr (A0 (qv 4) A6)))
   (AK rfl (Bc (GX (Gm (Ae U2 hr (A0 (qv 1) (A0 (qv 5) (A0 (qv 6) A6)))))) (AE rfl (Ai 7 Ij.nd (Ae UO hr (A0 (qv 1) (A0 (qv 5) (A0 (qv 6) A6)))))
   (AE rfl (Bc (GX (Gm (Ae Pj hr (A0 (Ae OY hr (A0 (qv 2) (A0 (Dh NY Cu (A0 (qv 5) A6)) (A0 (qv 6) A6)))) (A0 (qv 7) A6))))) (AK rfl (B5 Ic)) BW)
   (AK rfl (Bc (GX (Gm (Ae Pj hr (A0 (Ae OY hr (A0 (qv 2) (A0 (Dh JI Bt (A0 (qv 5) A6)) (A0 (qv 6) A6)))) (A0 (qv 7) A6))))) (AK rfl (B5 Ic)) BW)))) BW)))))))
   (AK rfl (B5 Ic))))),?_⟩
 refine Fz.je h ?_;intro sc Yp;show Ws [_,.any,.any,.any,.any,.any,.any,.any] _ _ _;refine AU (EL (lX rfl (Aq ⟨_,rfl,by decide,by decide,Ay ⟨[],_,rfl,⟨rfl,rfl⟩,?_⟩⟩)));rintro _ ⟨ks,rfl,g⟩;refine AU (EL (wp_call (AW (A5 rfl (Ay ⟨_,⟨ks,rfl,g,rfl⟩,?_⟩)))));rintro _ rfl;refine AU (Dt (E1 (fun _ i A7=>∃ (s3 s4 s5 s6 s7:Slot),A7=[.raw (JF K sc),.is (.lst (ks.map Kd.P)),.is (BS A4 ks),s3,s4,s5,s6,s7]) ?_))
 walk_at "ww"
 obtain ⟨m,em,hm⟩:=kW (b:=2) (c:=21) (n:=sc.length) (by decide) (by decide) (by omega);rw [em];refine ⟨⟨by decide,by decide,by omega,by omega⟩,⟨_,_,_,_,_,rfl⟩,?_,?_⟩
 ·rintro i p A7 hp ⟨s3,s4,s5,s6,s7,rfl⟩;obtain ⟨hi,rfl⟩:=gk hp;refine Ey ?_;refine AU (ZQ rfl (A5 rfl ⟨_,rfl,by omega,by omega,?_⟩));refine AU (Ez (pH rfl (AW (A5 rfl (Ay ⟨_,⟨ks,rfl,g,rfl⟩,?_⟩)))));rintro _ ⟨cs,rfl,hz,hc⟩;refine Ho 5 rfl ?_;refine AU (EL (xB rfl (Ay ⟨_,⟨rfl,rfl⟩,?_⟩)));rintro _ ⟨r,hr,rfl⟩;refine D3 (Hl (Er (wp_call (AW (A5 rfl (GC (Ck rfl (AW (A5 rfl (Ay ⟨_,⟨ks,cs,r,rfl,g,hr,hz,hc,rfl⟩,?_⟩))))))))));rintro _ ⟨b,rfl,hb⟩;refine ⟨_,rfl,?_⟩;cases b with
  | true=>exact CN (by decide) (C0 ⟨_,_,_,_,_,rfl⟩)
  | false=>
   have nr:¬ J2 (AL ks r) cs:=fun z=>absurd (hb.mpr z) (by decide);refine J3 rfl ?_;refine AU (EL (wp_call (AW (A5 rfl (AW (A5 rfl (AW (A5 rfl (Ay ⟨_,⟨ks,cs,r,rfl,g,hr,hz,hc,nr,rfl⟩,?_⟩)))))))));rintro _ rfl;have lA:(totC ks r cs).length<=8:=by rw [Mh];exact g.l8
   have lB:(GZ ks cs (totC ks r cs)).length<=8:=by rw [Rl];exact g.l8
   refine AU (D3 (Hl (Er (wp_call (AW (wp_call (AW (A5 rfl (GC (BH (B4 (Kp rfl (Ck rfl ?_)))))))))))));refine ⟨_,.inl ⟨rfl,AW (A5 rfl (Ay ⟨_,⟨ks,false,cs,r,rfl,g,hr,hz,hc,nr,rfl⟩,?_⟩))⟩⟩;rintro _ rfl;refine AW (A5 rfl (Ay ⟨_,⟨_,_,_,rfl,by rw [Mh];exact g.l1,lA,lB,rfl⟩,?_⟩));rintro _ rfl;refine ⟨_,rfl,CN (by decide) (C0 ?_)⟩;refine D3 (Hl (Er (wp_call (AW (wp_call (AW (A5 rfl (GC (BH (IW rfl (Ck rfl ?_)))))))))));refine ⟨_,.inr ⟨rfl,AW (A5 rfl (Ay ⟨_,⟨ks,true,cs,r,rfl,g,hr,hz,hc,nr,rfl⟩,?_⟩))⟩⟩;rintro _ rfl;refine AW (A5 rfl (Ay ⟨_,⟨_,_,_,rfl,by rw [Mh];exact g.l1,lA,lB,rfl⟩,?_⟩));rintro _ rfl;exact ⟨_,rfl,CN (by decide) (C0 ⟨_,_,_,_,_,rfl⟩)⟩
 ·rintro A7 ⟨s3,s4,s5,s6,s7,rfl⟩;exact Dw (O7 rfl)
def all_mk {fa f1 f2 f3 f4 f5 f6 f7 f8 f9 Qe df dm XE da d9 cP Zd Xf Zl Xz eU Qw aZ du Q3 fG YS bu ee Xo cF Zw dR Ob c6 bO cB b8:Addr}{g1 g2 g3 g4 g5 g6 g7 g8 g9 qg lI q8 wC gr zT l6 zU xp uQ rG t5 oZ kj ke nq vE jG zD gj uu yP gv we zm uB uS vf ip:FuncData}(X:K.In h)(G:h.Ns mainGlobals mg)(yS:mg "law"=some (.ref fa))
  
  (zh:PySem.W.nsIn K mainGlobals "Errands"=some (some (.ref A4)))
  (r8:PySem.W.plainGet K A4 Str.empty=true)
  (zY:PySem.W.hasDictIn K A4=true)
  (oO:PySem.W.plainOver K A4=true)
  (jM:PySem.W.findIn K (.ref A4) "__setattr__"=some (some (.builtin "object.__setattr__")))
  (rH:PySem.W.makesIn K A4=true)
  (nj:PySem.W.keepIn K (.ref A4)=true)
  (JH:PySem.W.findIn K (.ref A4) "goes_by_word"=some none)
  (G9:PySem.W.findIn K (.ref A4) "puts_by_word"=some none)
  (a1:nS K "_law_take" (.ref f1)) (F1:AO K "_law_take" "_law_take" T7 f1 g1)
  (a2:nS K "_law_letters" (.ref f2)) (F2:AO K "_law_letters" "_law_letters" RU f2 g2)
  (a3:nS K "_law_name" (.ref f3)) (F3:AO K "_law_name" "_law_name" Te f3 g3)
  (a4:nS K "_law_names" (.ref f4)) (F4:AO K "_law_names" "_law_names" UL f4 g4)
  (a5:nS K "_law_kinds" (.ref f5)) (F5:AO K "_law_kinds" "_law_kinds" S9 f5 g5)
  (a6:nS K "check_word" (.ref f6)) (F6:AO K "check_word" "check_word" WI f6 g6)
  (a7:nS K "check_puts" (.ref f7)) (F7:AO K "check_puts" "check_puts" Se f7 g7)
  (a8:nS K "is_name" (.ref f8)) (F8:AO K "is_name" "is_name" Qs f8 g8)
  (a9:nS K "check_kinds" (.ref f9)) (F9:AO K "check_kinds" "check_kinds" OM f9 g9)
  (gi:PySem.W.findIn K (.ref A4) "__init__"=some (some (.ref Qe))) (uj:AO K "__init__" "Errands.__init__" U4 Qe qg)
  (uv:PySem.W.isFn K (.ref Qe)=true)
  (zZ:nS K "_law_book" (.ref df)) (m7:AO K "_law_book" "_law_book" QH df lI)
  (la:nS K "_law_pot" (.ref dm)) (nI:AO K "_law_pot" "_law_pot" Ui dm q8)
  (oM:nS K "_law_crowd" (.ref XE)) (jy:AO K "_law_crowd" "_law_crowd" Pl XE wC)
  (o9:nS K "_law_rule" (.ref da)) (zJ:AO K "_law_rule" "_law_rule" SQ da gr)
  (rP:nS K "_law_comers" (.ref d9)) (mX:AO K "_law_comers" "_law_comers" NO d9 zT)
  (rN:nS K "_law_reached" (.ref cP)) (zE:AO K "_law_reached" "_law_reached" T2 cP l6)
  (iF:nS K "_law_rings" (.ref Zd)) (iZ:AO K "_law_rings" "_law_rings" W3 Zd zU)
  (nO:nS K "_law_counted" (.ref Xf)) (iC:AO K "_law_counted" "_law_counted" Li Xf xp)
  (uJ:nS K "_law_due" (.ref Zl)) (wW:AO K "_law_due" "_law_due" Kj Zl uQ)
  (yn:nS K "_law_whole" (.ref Xz)) (rV:AO K "_law_whole" "_law_whole" Ts Xz rG)
  (ub:nS K "_law_right" (.ref eU)) (oW:AO K "_law_right" "_law_right" P6 eU t5)
  (xi:PySem.W.findIn K (.ref A4) "words"=some (some (.ref Qw))) (eV:AO K "words" "Errands.words" Tn Qw oZ)
  (tU:PySem.W.isFn K (.ref Qw)=true)
  (zO:nS K "check_rule" (.ref aZ)) (xb:AO K "check_rule" "check_rule" Rp aZ kj)
  (mf:nS K "check_crowd" (.ref du)) (qC:AO K "check_crowd" "check_crowd" V9 du ke)
  (nh:PySem.W.findIn K (.ref A4) "puts"=some (some (.ref Q3))) (YW:AO K "puts" "Errands.puts" Sz Q3 nq)
  (xN:PySem.W.isFn K (.ref Q3)=true)
  (nE:nS K "comers_of" (.ref fG)) (sU:AO K "comers_of" "comers_of" QD fG vE)
  (k9:nS K "ring_along" (.ref YS)) (iy:AO K "ring_along" "ring_along" Ox YS jG)
  (mZ:nS K "way_and_ring" (.ref bu)) (p9:AO K "way_and_ring" "way_and_ring" VQ bu zD)
  (wu:nS K "check_ends" (.ref ee)) (tO:AO K "check_ends" "check_ends" UW ee gj)
  (qB:nS K "sums_of" (.ref Xo)) (wj:AO K "sums_of" "sums_of" P9 Xo uu)
  (xj:nS K "rounds_to" (.ref cF)) (mr:AO K "rounds_to" "rounds_to" WE cF yP)
  (n9:nS K "reckon" (.ref Zw)) (lx:AO K "reckon" "reckon" LR Zw gv)
  (tf:nS K "known_rows" (.ref dR)) (uG:AO K "known_rows" "known_rows" Vc dR we)
  (xV:PySem.W.findIn K (.ref A4) "goes"=some (some (.ref Ob))) (Xk:AO K "goes" "Errands.goes" T8 Ob zm)
  (qe:PySem.W.isFn K (.ref Ob)=true)
  (uz:nS K "puts_in" (.ref c6)) (y0:AO K "puts_in" "puts_in" Pz c6 uB)
  (yu:nS K "standing_behind" (.ref bO)) (zb:AO K "standing_behind" "standing_behind" PU bO uS)
  (wJ:nS K "reckoned" (.ref cB)) (vS:AO K "reckoned" "reckoned" LS cB vf)
  (XQ:nS K "law" (.ref b8)) (Yk:AO K "law" "law" L5 b8 ip)
  (jb:nN K "all")
  (qm:nN K "any")
  (kF:nN K "bool")
  (vB:nN K "enumerate")
  (mB:nN K "int")
  (rK:nN K "isinstance")
  (oC:nN K "len")
  (xZ:nN K "list")
  (kG:nN K "max")
  (wR:nN K "min")
  (sQ:nN K "range")
  (mY:nN K "sum")
  (j7:nN K "tuple")
  (zW:nN K "zip")
  (si:nS K "LETTERS" (.str "abcdefghijklmnopqrstuvwxyz" VD))
  (yi:nS K "MOST_IN_CROWD" (.int 12 VP))
  (m8:nS K "MOST_KINDS" (.int 8 Uy))
  (qk:nS K "MOST_LETTERS" (.int 8 UC))
  (zS:nS K "MOST_PUTS" (.int 6 VM))
  (x9:nS K "RULES" (.ref J0))
  {jn pk vw:Tok}(zL:K.lookup J0=some ⟨.type "tuple", uM,.seq #[.str "none" jn,.str "ahead" pk,.str "all" vw] qd,qV⟩)
  (jK:nS K "WHERES" (.ref Io))
  {vi ma wX kT:Tok}(uD:K.lookup Io=some ⟨.type "tuple", vJ,.seq #[.str "next" vi,.str "last" ma,.str "back" wX,.str "first" kT] kK,oX⟩)
  (iz:nS K "WHERES_AHEAD" (.ref FG))
  {r6 wQ:Tok}(vp:K.lookup FG=some ⟨.type "tuple", t6,.seq #[.str "next" r6,.str "last" wQ] my,tX⟩)
  : ∃ fd:FuncData,(∀ (s:Shared) (v:Value),BindsTo s fd ⟨[v],[]⟩ [("script", v)])/\∀ base:Heap,K.In base->base.Ns mainGlobals mg->D2 l.prog w K mg base FD 19 fa fd ["script"] (Mx K):=by
 have e:=yS.symm.trans (B3 X G XQ);cases e;have D8:DP K A4:=⟨r8,zY,oO,jM⟩;have jR:Mk K A4 Qe:=⟨rH,gi,uv,nj⟩;have zI:Meth K A4 "words" Qw:=⟨xi,tU,eV.kp⟩;have rE:Meth K A4 "puts" Q3:=⟨nh,xN,YW.kp⟩;have wH:Meth K A4 "goes" Ob:=⟨xV,qe,Xk.kp⟩;have Ls:=FQ X G jb;have VE:=FQ X G qm;have UQ:=FQ X G kF;have M0:=FQ X G vB;have Gf:=FQ X G mB;have HK:=FQ X G rK;have B9:=FQ X G oC;have Cu:=FQ X G xZ;have Dc:=FQ X G kG;have S6:=FQ X G wR;have DJ:=FQ X G sQ;have Kz:=FQ X G mY;have Bt:=FQ X G j7;have UY:=FQ X G zW;have UK:=B3 X G si;have Up:=B3 X G yi;have TX:=B3 X G m8;have U7:=B3 X G qk;have Vj:=B3 X G zS;have WC:=B3 X G x9;have T3:∀ H,An K H J0 [.str "none", .str "ahead", .str "all"]:=fun H=>.inr ⟨_,_,_,zL,rfl,rfl,(by show 3<=sizeLine;decide +kernel),(.cons ⟨_,rfl⟩ (.cons ⟨_,rfl⟩ (.cons ⟨_,rfl⟩ .nil)))⟩;have Rg:=B3 X G jK;have Uh:∀ H,An K H Io [.str "next", .str "last", .str "back", .str "first"]:=fun H=>.inr ⟨_,_,_,uD,rfl,rfl,(by show 4<=sizeLine;decide +kernel),(.cons ⟨_,rfl⟩ (.cons ⟨_,rfl⟩ (.cons ⟨_,rfl⟩ (.cons ⟨_,rfl⟩ .nil))))⟩
 have Lq:=B3 X G iz;have Ks:∀ H,An K H FG [.str "next", .str "last"]:=fun H=>.inr ⟨_,_,_,vp,rfl,rfl,(by show 2<=sizeLine;decide +kernel),(.cons ⟨_,rfl⟩ (.cons ⟨_,rfl⟩ .nil))⟩
 have Ux:=B3 X G zh;obtain ⟨_,_,kV,dc,pm,an,cd,ct,_,rfl,_,_⟩:=id Yk.ex;refine ⟨PySem.W.fnOf "law" "law" (Mb L5) (Jz L5) (AZ L5) .none kV dc pm an cd ct,fun s v=>.of_eq rfl,fun base _ _=>?_⟩;have CL:=rW (P:=l.prog) (w:=w) (base:=base) F1 (B3 X G a1);have MY:=uL (P:=l.prog) (w:=w) (base:=base) F2 (B3 X G a2);have TF:=sA (P:=l.prog) (w:=w) (base:=base) MY CL B9 F3 (B3 X G a3);have Sq:=kc (P:=l.prog) (w:=w) (base:=base) TF DJ F4 (B3 X G a4);have Vu:=su (P:=l.prog) (w:=w) (base:=base) CL DJ Sq Dc Bt F5 (B3 X G a5);have FY:=yp (P:=l.prog) (w:=w) (base:=base) F6 (B3 X G a6);have RM:=ud (P:=l.prog) (w:=w) (base:=base) FY Rg Uh F7 (B3 X G a7);have Sa:=md (P:=l.prog) (w:=w) (base:=base) B9 Ls UK U7 F8 (B3 X G a8);have TQ:=sZ (P:=l.prog) (w:=w) (base:=base) B9 RM Sa M0 TX Vj F9 (B3 X G a9);have Vo:=uN (P:=l.prog) (w:=w) (mg:=mg) (base:=base) (A4:=A4) Bt TQ D8 JH G9 uj jR;have UT:=o6 (P:=l.prog) (w:=w) (base:=base) (A4:=A4) Vo Cu Ux m7 (B3 X G zZ);have QF:=kH (P:=l.prog) (w:=w) (base:=base) B9 nI (B3 X G la);have Ut:=gf (P:=l.prog) (w:=w) (base:=base) CL B9 DJ jy (B3 X G oM);have Tg:=uR (P:=l.prog) (w:=w) (base:=base) CL zJ (B3 X G o9);have Hv:=iL (P:=l.prog) (w:=w) (base:=base) mX (B3 X G rP);have Jq:=ib (P:=l.prog) (w:=w) (base:=base) Cu Hv zE (B3 X G rN);have U2:=uh (P:=l.prog) (w:=w) (base:=base) Hv Jq iZ (B3 X G iF);have V6:=kM (P:=l.prog) (w:=w) (base:=base) Dc Cu Hv Jq VE Gf iC (B3 X G nO);have UO:=pG (P:=l.prog) (w:=w) (base:=base) B9 DJ Bt Cu Gf V6 wW (B3 X G uJ);have Pt:=x6 (P:=l.prog) (w:=w) (base:=base) Gf UQ HK rV (B3 X G yn);have Pj:=vW (P:=l.prog) (w:=w) (base:=base) B9 Bt Ls HK Pt oW (B3 X G ub);have ED:=ja (P:=l.prog) (w:=w) (mg:=mg) (base:=base) (A4:=A4) D8 G9 Cu eV zI;have Rz:=wV (P:=l.prog) (w:=w) (base:=base) WC T3 xb (B3 X G zO);have RX:=lG (P:=l.prog) (w:=w) (base:=base) (A4:=A4) B9 FY ED Up qC (B3 X G mf);have Ku:=yh (P:=l.prog) (w:=w) (mg:=mg) (base:=base) (A4:=A4) FY D8 G9 Cu YW rE;have GY:=yV (P:=l.prog) (w:=w) (base:=base) (A4:=A4) Ku Lq Ks sU (B3 X G nE);have O8:=tI (P:=l.prog) (w:=w) (base:=base) (A4:=A4) GY iy (B3 X G k9);have U0:=wc (P:=l.prog) (w:=w) (base:=base) (A4:=A4) p9 (B3 X G mZ) O8;have Tv:=rf (P:=l.prog) (w:=w) (base:=base) (A4:=A4) U0 tO (B3 X G wu);have IJ:=vI (P:=l.prog) (w:=w) (base:=base) DJ Kz wj (B3 X G qB);have MS:=oR (P:=l.prog) (w:=w) (base:=base) Lq Ks mr (B3 X G xj);have ME:=qt (P:=l.prog) (w:=w) (base:=base) (A4:=A4) B9 Dc Bt ED GY MS IJ lx (B3 X G n9);have W7:=vA (P:=l.prog) (w:=w) (base:=base) (A4:=A4) uG (B3 X G tf) ME;have UX:=yx (P:=l.prog) (w:=w) (mg:=mg) (base:=base) (A4:=A4) FY D8 JH Xk wH;have UB:=yl (P:=l.prog) (w:=w) (base:=base) (A4:=A4) B9 Ku y0 (B3 X G uz);have WM:=qy (P:=l.prog) (w:=w) (base:=base) (A4:=A4) Bt M0 ED Kz UX UB UY zb (B3 X G yu);have OY:=qD (P:=l.prog) (w:=w) (base:=base) (A4:=A4) B9 Dc Bt ED IJ RX Tv Rz W7 WM vS (B3 X G wJ);exact mH (P:=l.prog) (w:=w) (base:=base) (A4:=A4) B9 DJ Dc Bt Cu UT Ut UO Vu QF Pj U2 Tg OY S6 Yk (B3 X G XQ)
def walk {q:Program}{loose:List Str}{XP:(ZB0)->Heap->Prop}{YP:World->Heap->Prop}{d:DefRec}{K:Params->ZAy}(hn:l.most=some 63)(N6:d.params.defaults=[])
  (hY:∀ (w:World) (h:Heap),YP w h->(K w.params).In h)
  (F:∀ (w:World) (mg:ZB0) (fa:Addr) (h:Heap),(K w.params).In h->h.Ns mainGlobals mg->mg d.name=some (.ref fa)->
   ∃ fd:FuncData,(∀ (s:Shared) (u:Value),BindsTo s fd ⟨[u],[]⟩ [("script", u)])/\∀ base:Heap,(K w.params).In base->base.Ns mainGlobals mg->D2 l.prog w (K w.params) mg base FD 19 fa fd ["script"] (Mx (K w.params))) :
  PySem.W.WalkO q loose XP YP l.row.toRowW d [] (fun f vs=>PySem.call f vs):=
 L2.mV (n:=63) (k:=19) (x:="script") (CX:=fun _=>FD) (sp:=fun w=>Mx (K w.params)) hn (by decide) N6 ⟨rfl,by decide,by decide⟩ hY F (fun _ _ a ns hl _ hS=>⟨a,ns,rfl,hS,hl,fun _=>rfl⟩) fun _ _ _ _ _ z=>z
end Pf
open PySem.W
local macro_rules | `(tactic| walk_at "kF")=>`(tactic| (refine' L2.ka ?_ ?_ ?_;all_goals try k_is;all_goals k_is))
set_option maxRecDepth 100000 in
set_option maxHeartbeats 0 in
theorem PySem.Challenge.cw_stirround_k78_reckoned_holds : PySem.Challenge.rw_stirround_k78_reckoned.Holds := by
 w_on;o_law;k_head;(case hw=>w_witness2)
 k_fill
 refine Pf.walk (l:=PySem.Challenge.rw_stirround_k78_reckoned) rfl rfl (fun w h Y=>PySem.W.kIn_of Y) ?F
 case F=>
  intro w mg fa h KX G Nt;refine' Pf.all_mk KX G Nt ?_ ?_ ?_ ?_ ?_ ?_ ?_ ?_ ?_ ?_ ?_ ?_ ?_ ?_ ?_ ?_ ?_ ?_ ?_ ?_ ?_ ?_ ?_ ?_ ?_ ?_ ?_ ?_ ?_ ?_ ?_ ?_ ?_ ?_ ?_ ?_ ?_ ?_ ?_ ?_ ?_ ?_ ?_ ?_ ?_ ?_ ?_ ?_ ?_ ?_ ?_ ?_ ?_ ?_ ?_ ?_ ?_ ?_ ?_ ?_ ?_ ?_ ?_ ?_ ?_ ?_ ?_ ?_ ?_ ?_ ?_ ?_ ?_ ?_ ?_ ?_ ?_ ?_ ?_ ?_ ?_ ?_ ?_ ?_ ?_ ?_ ?_ ?_ ?_ ?_ ?_ ?_ ?_ ?_ ?_ ?_ ?_ ?_ ?_ ?_ ?_ ?_ ?_ ?_ ?_ ?_ ?_ ?_ ?_ ?_ ?_ ?_ ?_ ?_
  any_goals first | k_is | (show _=_;k_is) | kernel_rfl | walk_at "kF"
#print axioms PySem.Challenge.cw_stirround_k78_reckoned_holds
